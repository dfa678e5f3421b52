import Derived.Test.YtlhfiapfncikdaaGreatDoorPN20
import Derived.Test.YtlhfiapfncikdaaGreatDoorPN28
import Derived.Test.YtlhfiapfncikdaaGreatDoorPN29
set_option linter.unusedVariables false
set_option linter.unusedSimpArgs false
set_option maxRecDepth 100000
set_option maxHeartbeats 3200000
namespace Go.Proofs.YtlhfiapfncikdaaGreatDoor
namespace aQ
section
open Go.RowKit bN bO bJ bQ eO CF
theorem Ht {C:List (List ay)}{P:List bA}{Q:List aX}{hf:Int}(h:oG C P Q hf):1≤C.length∧C.length≤6:=⟨h.1.1,h.1.2.1⟩
structure aa1 (C:List (List ay))(P:List bA)(Q:List aX)(hf:Int)(N:List aP)(T:List aF)(U:List bI)(now:Int):Prop where
 now:dD now 0 999900=true
 cfg:oG C P Q hf
 nds:qM N
 len:N.length=C.length
 JH:pQ T
 use:yL U
theorem QW {C:List (List ay)}{P:List bA}{Q:List aX}{hf:Int}{a:ay}(h:oG C P Q hf)(ha:a∈iw C):AY C P Q hf a=gI Q a:=by
 have h1:yI C P Q hf=iw C:=by unfold yI;rw [kP.2 h];rfl
 unfold AY
 rw [h1]
 exact if_pos ha
theorem Lx:∀ W:World,(Instr.makeSlice 153 (.int .i64 6) (.int .i64 6)).run Tryz.prog W=.ok (.slice (some ⟨W.heap.size,0,none⟩) 6 6) (W.alloc (.cells #[.bool false,.bool false,.bool false,.bool false,.bool false,.bool false] 4)):=fun W=>(LG 6 (by decide) W).trans (by rw [show GY 6=#[.bool false,.bool false,.bool false,.bool false,.bool false,.bool false] from by kernel_rfl])
theorem Qo {C:List (List ay)}{P:List bA}{Q:List aX}{hf:Int}{ca pa qa:Option Addr}{cc pc qc:Nat}{N:List aP}{T:List aF}{U:List bI}{now:Int}{na ta ua:Option Addr}{nc tc uc:Nat}{W:World}(hC:aJ (Sl av) W W.heap.size C ca cc)(hP:aJ aT W W.heap.size P pa pc)(hQ:aJ aN W W.heap.size Q qa qc)(hN:aJ aL W W.heap.size N na nc)(hT:aJ aI W W.heap.size T ta tc)(hU:aJ bC W W.heap.size U ua uc) :
 Calls Tryz.prog 48 #[.agg #[.slice ca C.length cc,.slice pa P.length pc,.slice qa Q.length qc,.int .i64 hf,.slice na N.length nc,.slice ta T.length tc,.slice ua U.length uc,.int .i64 now]] W (jf (iq ((C,P,Q,hf),N,T,U,now)) W):=by
 have hNn:N.length≤9223372036854775807:=by have h1:=hN.1;have h2:=hN.2.1;unfold maxLen at h2;omega
 have hTn:T.length≤9223372036854775807:=by have h1:=hT.1;have h2:=hT.2.1;unfold maxLen at h2;omega
 have hUn:U.length≤9223372036854775807:=by have h1:=hU.1;have h2:=hU.2.1;unfold maxLen at h2;omega
 have hCn:C.length≤9223372036854775807:=by have h1:=hC.1;have h2:=hC.2.1;unfold maxLen at h2;omega
 obtain ⟨b0,hb0⟩:∃ b,dD now 0 999900=b:=⟨_,rfl⟩
 have Hb0:=ak hb0
 clear hb0
 obtain ⟨b1,hb1⟩:∃ b,C8 C P Q hf=b:=⟨_,rfl⟩
 have Hb1:=ak hb1
 clear hb1
 obtain ⟨b2,hb2⟩:∃ b,iU N=b:=⟨_,rfl⟩
 have Hb2:=ak hb2
 clear hb2
 obtain ⟨b4,hb4⟩:∃ b,oH T=b:=⟨_,rfl⟩
 have Hb4:=ak hb4
 clear hb4
 obtain ⟨b5,hb5⟩:∃ b,Dq U=b:=⟨_,rfl⟩
 have Hb5:=ak hb5
 clear hb5
 obtain ⟨w0,hw0⟩:∃ w,w=W.alloc (.cells #[.slice ca C.length cc,.slice pa P.length pc,.slice qa Q.length qc,.int .i64 hf,.slice na N.length nc,.slice ta T.length tc,.slice ua U.length uc,.int .i64 now] 44):=⟨_,rfl⟩
 have hb0:Below W.heap.size W w0:=by rw [hw0];exact (aW _ _).alloc (bK _) _
 have kW:aO w0 (W.heap.size) 44 #[.slice ca C.length cc,.slice pa P.length pc,.slice qa Q.length qc,.int .i64 hf,.slice na N.length nc,.slice ta T.length tc,.slice ua U.length uc,.int .i64 now]:=by
  have h9:=aO.new W 44 #[.slice ca C.length cc,.slice pa P.length pc,.slice qa Q.length qc,.int .i64 hf,.slice na N.length nc,.slice ta T.length tc,.slice ua U.length uc,.int .i64 now]
  try simp only [World.size_alloc] at h9
  rw [hw0];exact h9
 have X0:=ak kW
 have HC:=ak (aD (aZ au) hC hb0)
 have HP:=ak (aD aG hP hb0)
 have HQ:=ak (aD aC hQ hb0)
 have HN:=ak (aD aK hN hb0)
 have HT:=ak (aD aA hT hb0)
 have HU:=ak (aD aU hU hb0)
 have HB0:=ak hb0
 have hz0:=hb0.size
 clear hb0 hC hP hQ hN hT hU kW
 go_enter Tryz.func48,Tryz.ntmps48
 go_wp2_with fail
 rw [←hw0]
 clear hw0
 obtain ⟨dB,dA,dz,dx,fU,fT,fQ,fP⟩:=X0.out.gy rfl
 refine (OL _ Hb0.out _).mono ?_
 rintro e v0 ⟨rfl,rfl⟩
 cases b0 with
 | false=>
  have HV:=ak (show ¬iq ((C,P,Q,hf),N,T,U,now) from fun h=>by have h2:=h.1;rw [Hb0.out] at h2;cases h2)
  go_wp2
  go_ret
  exact aB HV.out HB0.out
 | true=>
 go_wp2_with fail
 have hcx:=ze HC.out HP.out HQ.out (hf:=hf)
 rw [Hb1.out] at hcx
 refine hcx.mono ?_
 intro e v1 h
 obtain ⟨rfl,hb⟩:=bU h
 have HC:=ak (aD (aZ au) HC.out hb)
 have HP:=ak (aD aG HP.out hb)
 have HQ:=ak (aD aC HQ.out hb)
 have HN:=ak (aD aK HN.out hb)
 have HT:=ak (aD aA HT.out hb)
 have HU:=ak (aD aU HU.out hb)
 have X0:=ak (X0.out.call hb)
 have HB0:=ak (HB0.out.trans (hb.mono HB0.out.size))
 clear h hb hcx dB dA dz dx fU fT fQ fP
 obtain ⟨dB,dA,dz,dx,fU,fT,fQ,fP⟩:=X0.out.gy rfl
 cases b1 with
 | false=>
  have HV:=ak (show ¬iq ((C,P,Q,hf),N,T,U,now) from fun h=>by have h2:=kP.2 h.2.1;rw [Hb1.out] at h2;cases h2)
  go_wp2
  go_ret
  exact aB HV.out HB0.out
 | true=>
 go_wp2_with fail
 have hcx:=Hw HN.out
 rw [Hb2.out] at hcx
 refine hcx.mono ?_
 intro e v2 h
 obtain ⟨rfl,hb⟩:=bU h
 have HC:=ak (aD (aZ au) HC.out hb)
 have HP:=ak (aD aG HP.out hb)
 have HQ:=ak (aD aC HQ.out hb)
 have HN:=ak (aD aK HN.out hb)
 have HT:=ak (aD aA HT.out hb)
 have HU:=ak (aD aU HU.out hb)
 have X0:=ak (X0.out.call hb)
 have HB0:=ak (HB0.out.trans (hb.mono HB0.out.size))
 clear h hb hcx dB dA dz dx fU fT fQ fP
 obtain ⟨dB,dA,dz,dx,fU,fT,fQ,fP⟩:=X0.out.gy rfl
 cases b2 with
 | false=>
  have HV:=ak (show ¬iq ((C,P,Q,hf),N,T,U,now) from fun h=>by have h2:=gG.2 h.2.2.1;rw [Hb2.out] at h2;cases h2)
  go_wp2
  go_ret
  exact aB HV.out HB0.out
 | true=>
 by_cases hnl:N.length=C.length
 rotate_left
 ·have hne:((N.length:Int) != (C.length:Int))=true:=by simp;omega
  have HV:=ak (show ¬iq ((C,P,Q,hf),N,T,U,now) from fun h=>hnl h.2.2.2.1)
  go_wp2
  go_ret
  exact aB HV.out HB0.out
 have hne:((N.length:Int) != (C.length:Int))=false:=by simp;omega
 have XT:=ak hnl
 clear hnl
 go_wp2_with fail
 have hcx:=Bz HT.out
 rw [Hb4.out] at hcx
 refine hcx.mono ?_
 intro e v4 h
 obtain ⟨rfl,hb⟩:=bU h
 have HC:=ak (aD (aZ au) HC.out hb)
 have HP:=ak (aD aG HP.out hb)
 have HQ:=ak (aD aC HQ.out hb)
 have HN:=ak (aD aK HN.out hb)
 have HT:=ak (aD aA HT.out hb)
 have HU:=ak (aD aU HU.out hb)
 have X0:=ak (X0.out.call hb)
 have HB0:=ak (HB0.out.trans (hb.mono HB0.out.size))
 clear h hb hcx dB dA dz dx fU fT fQ fP
 obtain ⟨dB,dA,dz,dx,fU,fT,fQ,fP⟩:=X0.out.gy rfl
 cases b4 with
 | false=>
  have HV:=ak (show ¬iq ((C,P,Q,hf),N,T,U,now) from fun h=>by have h2:=jo.2 h.2.2.2.2.1;rw [Hb4.out] at h2;cases h2)
  go_wp2
  go_ret
  exact aB HV.out HB0.out
 | true=>
 go_wp2_with fail
 have hcx:=Qs HU.out
 rw [Hb5.out] at hcx
 refine hcx.mono ?_
 intro e v5 h
 obtain ⟨rfl,hb⟩:=bU h
 have HC:=ak (aD (aZ au) HC.out hb)
 have HP:=ak (aD aG HP.out hb)
 have HQ:=ak (aD aC HQ.out hb)
 have HN:=ak (aD aK HN.out hb)
 have HT:=ak (aD aA HT.out hb)
 have HU:=ak (aD aU HU.out hb)
 have X0:=ak (X0.out.call hb)
 have HB0:=ak (HB0.out.trans (hb.mono HB0.out.size))
 clear h hb hcx dB dA dz dx fU fT fQ fP
 obtain ⟨dB,dA,dz,dx,fU,fT,fQ,fP⟩:=X0.out.gy rfl
 cases b5 with
 | false=>
  have HV:=ak (show ¬iq ((C,P,Q,hf),N,T,U,now) from fun h=>by have h2:=lK.2 h.2.2.2.2.2.1;rw [Hb5.out] at h2;cases h2)
  go_wp2
  go_ret
  exact aB HV.out HB0.out
 | true=>
 have lu:=ak (⟨Hb0.out,kP.1 Hb1.out,gG.1 Hb2.out,XT.out,jo.1 Hb4.out,lK.1 Hb5.out⟩:aa1 C P Q hf N T U now)
 have Kl:=(dG _ _ _).1 Hb0.out
 have hT96:=lu.out.JH.1
 have hz1:=HB0.out.size
 clear hne dB dA dz dx fU fT fQ fP
 have hmk:=Lx
 obtain ⟨w1,hw1⟩:∃ w,w=v5.alloc (.cells #[.bool false,.bool false,.bool false,.bool false,.bool false,.bool false] 4):=⟨_,rfl⟩
 have Tm:=ak (show zZ w1 v5.heap.size 4 (fun n=>fJ T 0 n) from by rw [hw1];exact (zZ.new v5 _).more fun m _=>⟨fun h=>h.elim,fun h=>yP h⟩)
 have hb1:Below v5.heap.size v5 w1:=by rw [hw1];exact (aW _ _).alloc (bK _) _
 have HB1:=ak hb1
 clear hb1
 obtain ⟨gu,hgu⟩:∃ g,g=v5.heap.size:=⟨_,rfl⟩
 have HGU:=ak (show gu=v5.heap.size from hgu)
 rw [←hgu] at Tm
 obtain ⟨dB,dA,dz,dx,fU,fT,fQ,fP⟩:=X0.out.gy rfl
 go_upto_region 4 with fail
 rw [←hw1,←hgu]
 clear hw1 hgu dB dA dz dx fU fT fQ fP hmk
 go_wp2
 go_loopw [4] (fun i wr=>∃ k:Nat,k≤T.length∧i=.int .i64 k∧Hid (qU C now T k)∧Hid (zZ wr gu 4 (fun n=>fJ T k n))∧Below v5.heap.size v5 wr) (fun i _=>T.length-(intOf i).toNat)
 case atStart=>exact ⟨0,dV _,rfl,ak BX,Tm,HB1.out⟩
 case round=>
  obtain ⟨k,hk,rfl,HFT,HUS,hB⟩:=hrel
  obtain ⟨wo,rfl⟩:∃ x,x=wr:=⟨_,rfl⟩
  have HB:=ak hB
  have hsz:=hB.size
  have uJ:=ak (HB0.out.trans (hB.mono hz1))
  have Z0:=ak (X0.out.call hB)
  have q5:=Z0.out.at_ 5 rfl
  by_cases hlt:k<T.length
  ·have hdl:decide ((k:Int)<(T.length:Int))=true:=eD (by omega)
   obtain ⟨⟨⟨x0,x1⟩,x2,x3,x4,x5,x6,⟨x7,x8⟩,x9,x10,aS,aV,M⟩,hx⟩:=aM hlt
   have HX:=ak hx
   have Xv:=ak (show bZ ((x0,x1),x2,x3,x4,x5,x6,(x7,x8),x9,x10,aS,aV,M) from (lu.out.JH.2 k _ hx).1)
   obtain ⟨g,o,us,rfl,hg,hu,hr⟩:=HT.out.at_ hx
   obtain ⟨ma,mc,rfl,sP,fH⟩:=fA hr
   have e0:wo.cell? ⟨g,o+k*14,none⟩=some (.int .i64 x0):=(hB.cell (p:=⟨g,_,none⟩) hg).trans (by simpa [bg,Nat.add_assoc] using hu 0 _ rfl)
   have e1:wo.cell? ⟨g,o+k*14+1,none⟩=some (.int .i64 x1):=(hB.cell (p:=⟨g,_,none⟩) hg).trans (by simpa [bg,Nat.add_assoc] using hu 1 _ rfl)
   have e2:wo.cell? ⟨g,o+k*14+2,none⟩=some (.int .i64 x2):=(hB.cell (p:=⟨g,_,none⟩) hg).trans (by simpa [bg,Nat.add_assoc] using hu 2 _ rfl)
   have e3:wo.cell? ⟨g,o+k*14+3,none⟩=some (.string x3):=(hB.cell (p:=⟨g,_,none⟩) hg).trans (by simpa [bg,Nat.add_assoc] using hu 3 _ rfl)
   have e4:wo.cell? ⟨g,o+k*14+4,none⟩=some (.int .i64 x4):=(hB.cell (p:=⟨g,_,none⟩) hg).trans (by simpa [bg,Nat.add_assoc] using hu 4 _ rfl)
   have e5:wo.cell? ⟨g,o+k*14+5,none⟩=some (.int .i64 x5):=(hB.cell (p:=⟨g,_,none⟩) hg).trans (by simpa [bg,Nat.add_assoc] using hu 5 _ rfl)
   have e6:wo.cell? ⟨g,o+k*14+6,none⟩=some (.int .i64 x6):=(hB.cell (p:=⟨g,_,none⟩) hg).trans (by simpa [bg,Nat.add_assoc] using hu 6 _ rfl)
   have e7:wo.cell? ⟨g,o+k*14+7,none⟩=some (.int .i64 x7):=(hB.cell (p:=⟨g,_,none⟩) hg).trans (by simpa [bg,Nat.add_assoc] using hu 7 _ rfl)
   have e8:wo.cell? ⟨g,o+k*14+8,none⟩=some (.int .i64 x8):=(hB.cell (p:=⟨g,_,none⟩) hg).trans (by simpa [bg,Nat.add_assoc] using hu 8 _ rfl)
   have e9:wo.cell? ⟨g,o+k*14+9,none⟩=some (.int .i64 x9):=(hB.cell (p:=⟨g,_,none⟩) hg).trans (by simpa [bg,Nat.add_assoc] using hu 9 _ rfl)
   have e10:wo.cell? ⟨g,o+k*14+10,none⟩=some (.int .i64 x10):=(hB.cell (p:=⟨g,_,none⟩) hg).trans (by simpa [bg,Nat.add_assoc] using hu 10 _ rfl)
   have e11:wo.cell? ⟨g,o+k*14+11,none⟩=some (.int .i64 aS):=(hB.cell (p:=⟨g,_,none⟩) hg).trans (by simpa [bg,Nat.add_assoc] using hu 11 _ rfl)
   have e12:wo.cell? ⟨g,o+k*14+12,none⟩=some (.int .i64 aV):=(hB.cell (p:=⟨g,_,none⟩) hg).trans (by simpa [bg,Nat.add_assoc] using hu 12 _ rfl)
   have e13:wo.cell? ⟨g,o+k*14+13,none⟩=some (.slice ma M.length mc):=(hB.cell (p:=⟨g,_,none⟩) hg).trans (by simpa [bg,Nat.add_assoc] using hu 13 _ rfl)
   have hi0:(0:Int)≤(k:Int):=eu _
   have hi1:(k:Int)<(T.length:Int):=by omega
   have HK:=ak sP
   have hMn:M.length≤9223372036854775807:=by have h1:=sP.1;have h2:=sP.2.1;unfold maxLen at h2;omega
   obtain ⟨w2,hw2⟩:∃ w,w=wo.alloc (.cells #[.int .i64 x0,.int .i64 x1,.int .i64 x2,.string x3,.int .i64 x4,.int .i64 x5,.int .i64 x6,.int .i64 x7,.int .i64 x8,.int .i64 x9,.int .i64 x10,.int .i64 aS,.int .i64 aV,.slice ma M.length mc] 72):=⟨_,rfl⟩
   have hb2:Below wo.heap.size wo w2:=by rw [hw2];exact (aW _ _).alloc (bK _) _
   have Y2:=ak (show aO w2 wo.heap.size 72 #[.int .i64 x0,.int .i64 x1,.int .i64 x2,.string x3,.int .i64 x4,.int .i64 x5,.int .i64 x6,.int .i64 x7,.int .i64 x8,.int .i64 x9,.int .i64 x10,.int .i64 aS,.int .i64 aV,.slice ma M.length mc] from by rw [hw2];exact aO.new _ _ _)
   have Z2:=ak (Z0.out.call hb2)
   have HB2:=ak (HB.out.trans (hb2.mono hsz))
   have HUS2:=ak (HUS.out.call hb2)
   have HC2:=ak (aD (aZ au) (aD (aZ au) HC.out hB) hb2)
   have je:=ak (aD cK HK.out HB2.out)
   clear hB hx hr hu hg sP hb2
   go_upto_region 8 with fail
   rw [←hw2]
   clear hw2 e0 e1 e2 e3 e4 e5 e6 e7 e8 e9 e10 e11 e12 e13 q5
   obtain ⟨zz0,zz1,zz2,zz3,zz4,zz5,zz6,zz7⟩:=Z2.out.gy rfl
   obtain ⟨yy0,yy1,yy2,yy3,yy4,yy5,yy6,yy7,yy8,yy9,Kc,Ka,J9,J8⟩:=Y2.out.fF rfl
   go_wp2_with fail
   refine (IY HC2.out je.out Xv.out (Ht lu.out.cfg).2 lu.out.len Kl).mono ?_
   intro e w3 h
   obtain ⟨b,rfl,hb,hbl⟩:=bq h
   have HFB:=ak hb
   have HB3:=ak (HB2.out.trans (hbl.mono HB2.out.size))
   have Ql:=ak (HB0.out.trans (HB3.out.mono hz1))
   have Y3:=ak (Y2.out.call hbl)
   have Z3:=ak (Z2.out.call hbl)
   have Zl:=ak (HUS2.out.call hbl)
   have hz3:=HB3.out.size
   clear h hb hbl zz0 zz1 zz2 zz3 zz4 zz5 zz6 zz7 yy0 yy1 yy2 yy3 yy4 yy5 yy6 yy7 yy8 yy9 Kc Ka J9 J8
   cases b with
   | false=>
    have HV:=ak (show ¬iq ((C,P,Q,hf),N,T,U,now) from fun h=>by have h2:=(h.2.2.2.2.2.2.1 k _ hlt HX.out).1;have:=HFB.out.2 h2;cases this)
    go_wp2
    go_ret
    exact aB HV.out Ql.out
   | true=>
   have Tn:=ak (HFB.out.1 rfl)
   have y9:=Y3.out.at_ 9 rfl
   have JG:=Y3.out.at_ 11 rfl
   have y13:=Y3.out.at_ 13 rfl
   by_cases hs2:aS=2
   ·have hs2':(aS==2)=true:=beq_iff_eq.2 hs2
    have HS2:=ak hs2
    clear hs2
    have HUS4:=ak (Zl.out.more (q:=fun n=>fJ T k n∨n∈M.take 0) fun m _=>by simp)
    go_wp2
    go_loopw [6] (fun i wr=>∃ j:Nat,j≤M.length∧i=.int .i64 j∧Hid (zZ wr gu 4 (fun n=>fJ T k n∨n∈M.take j))∧Hid (∀ (q:Nat) (n:Int),q<j→M[q]? = some n→¬fJ T k n)∧Hid (aO wr wo.heap.size 72 #[.int .i64 x0,.int .i64 x1,.int .i64 x2,.string x3,.int .i64 x4,.int .i64 x5,.int .i64 x6,.int .i64 x7,.int .i64 x8,.int .i64 x9,.int .i64 x10,.int .i64 aS,.int .i64 aV,.slice ma M.length mc])∧Below v5.heap.size v5 wr) (fun i _=>M.length-(intOf i).toNat)
    case atStart=>exact ⟨0,dV _,rfl,HUS4,ak fun q n h=>absurd h (gZ _),Y3,HB3.out⟩
    case round=>
     obtain ⟨j,hj,rfl,HU5,HNT,HY5,Sn⟩:=hrel
     have HM5:=ak (aD cK HK.out Sn)
     have lX:=ak Sn
     have HBW5:=ak (HB0.out.trans (Sn.mono hz1))
     have u9:=HY5.out.at_ 9 rfl
     have u11:=HY5.out.at_ 11 rfl
     have u13:=HY5.out.at_ 13 rfl
     have uI:=Sn.size
     clear Sn y9 JG y13
     by_cases hjl:j<M.length
     ·have hdj:decide ((j:Int)<(M.length:Int))=true:=eD (by omega)
      obtain ⟨n,hn⟩:=aM hjl
      have hrg:=vk (oW Xv.out hjl) hn
      obtain ⟨m,rfl⟩:∃ m:Nat,n=(m:Int):=⟨n.toNat,by omega⟩
      have hm6:m<6:=by omega
      have HN:=ak hn
      obtain ⟨gm,om,us5,rfl,hgm,hum,hrm⟩:=HM5.out.at_ hn
      obtain rfl:us5 = [_]:=hrm
      have em:wr.cell? ⟨gm,om+j,none⟩=some (.int .i64 (m:Int)):=by simpa [show I.size=1 from rfl] using hum 0 _ rfl
      obtain ⟨c,hc1,hc2,hc3⟩:=HU5.out.get hm6
      have HC3:=ak hc3
      have hj0:(0:Int)≤(j:Int):=eu _
      have hj1:(j:Int)<(M.length:Int):=by omega
      have hm0:(0:Int)≤(m:Int):=eu _
      have hm1:(m:Int)<6:=by omega
      have HNOT:=ak (show ¬((m:Int)∈M.take j) from fun h=>by
       obtain ⟨q,hq,he⟩:=List.mem_iff_getElem.1 h
       have hqj:q<j:=by have:=hq;rw [List.length_take,Nat.min_eq_left (Nat.le_of_lt hjl)] at this;exact this
       rw [List.getElem_take] at he
       have hql:q<M.length:=by omega
       have hqe:M[q]? = some (m:Int):=by rw [←he];exact List.getElem?_eq_getElem hql
       have:=yX (oW Xv.out hjl) (i:=q) (j:=j) hqe hn
       omega)
      clear hn hum hgm hc3 hrg
      cases c with
      | true=>
       have HV:=ak (show ¬iq ((C,P,Q,hf),N,T,U,now) from fun h=>by have h2:=(h.2.2.2.2.2.2.1 k _ hlt HX.out).2 HS2.out _ (List.mem_of_getElem? HN.out);rcases HC3.out.1 rfl with h3 | h3;exact h2 h3;exact HNOT.out h3)
       go_wp2
       go_ret
       exact aB HV.out HBW5.out
      | false=>
       have UH:=ak (show ¬fJ T k (m:Int) from fun h=>by have:=HC3.out.2 (.inl h);cases this)
       have HNT2:=ak (show ∀ (q:Nat) (n:Int),q<j+1→M[q]? = some n→¬fJ T k n from fun q n hq hn=>by
        by_cases e:q=j
        ·subst e;rw [HN.out] at hn;cases hn;exact UH.out
        ·exact HNT.out q n (by omega) hn)
       have HU6:=ak ((HU5.out.put hm6).more (q:=fun n=>fJ T k n∨n∈M.take (j+1)) fun i _=>by
        rw [List.take_add_one,HN.out]
        simp only [Option.toList_some,List.mem_append,List.mem_singleton]
        exact or_assoc)
       have HY6:=ak (HY5.out.far (b:=gu) (o:=m) (by have h1:=HUS.out.lt;omega) (.bool true))
       have xC:=ak (lX.out.setCell (p:=⟨gu,m,none⟩) (by show v5.heap.size≤gu;rw [HGU.out];exact bK _) (.bool true))
       go_wp2
       go_roundw
       case rel=>exact ⟨j+1,by omega,by go_num,HU6,HNT2,HY6,xC.out⟩
       case measure=>simp [intOf];omega
     ·have hdj:decide ((j:Int)<(M.length:Int))=false:=dS (by omega)
      obtain rfl:j=M.length:=by omega
      have kX:=ak (show okY C now T k ((x0,x1),x2,x3,x4,x5,x6,(x7,x8),x9,x10,aS,aV,M) from ⟨Tn.out,fun _ n hn=>by
       obtain ⟨q,hq,rfl⟩:=List.mem_iff_getElem.1 hn
       exact HNT.out q _ hq (List.getElem?_eq_getElem hq)⟩)
      have Gs:=ak (qj HFT.out HX.out kX.out)
      have HU7:=ak (HU5.out.more (q:=fun n=>fJ T (k+1) n) fun i _=>by
       rw [nS HX.out,List.take_length]
       exact ⟨fun h=>h.imp id fun h=>⟨HS2.out,h⟩,fun h=>h.imp id fun h=>h.2⟩)
      go_wp2
      go_roundw
      case rel=>exact ⟨k+1,by omega,by go_num,Gs,HU7,lX.out⟩
      case measure=>simp [intOf];omega
   ·have hs2':(aS==2)=false:=beq_eq_false_iff_ne.2 hs2
    have kX:=ak (show okY C now T k ((x0,x1),x2,x3,x4,x5,x6,(x7,x8),x9,x10,aS,aV,M) from ⟨Tn.out,fun h=>absurd h hs2⟩)
    have Gs:=ak (qj HFT.out HX.out kX.out)
    have HU7:=ak (Zl.out.more (q:=fun n=>fJ T (k+1) n) fun i _=>by
     rw [nS HX.out]
     exact ⟨fun h=>.inl h,fun h=>h.elim id fun h=>absurd h.1 hs2⟩)
    clear hs2
    go_wp2
    go_loopw [6] (fun i wr=>i=.int .i64 0∧wr=w3) (fun i _=>0)
    case atStart=>exact ⟨rfl,rfl⟩
    case round=>
     obtain ⟨rfl,rfl⟩:=hrel
     by_cases hM0:0<M.length
     ·have hdM:decide ((0:Int)<(M.length:Int))=true:=eD (by omega)
      go_wp2
      go_roundw
      case rel=>exact ⟨k+1,by omega,by go_num,Gs,HU7,HB3.out⟩
      case measure=>simp [intOf];omega
     ·have hdM:decide ((0:Int)<(M.length:Int))=false:=dS (by omega)
      go_wp2
      go_roundw
      case rel=>exact ⟨k+1,by omega,by go_num,Gs,HU7,HB3.out⟩
      case measure=>simp [intOf];omega
  ·have hdl:decide ((k:Int)<(T.length:Int))=false:=dS (by omega)
   obtain rfl:k=T.length:=by omega
   have HCo:=ak (aD (aZ au) HC.out hB)
   have HPo:=ak (aD aG HP.out hB)
   have HQo:=ak (aD aC HQ.out hB)
   have HTo:=ak (aD aA HT.out hB)
   have HUo:=ak (aD aU HU.out hB)
   obtain ⟨K,hK⟩:∃ K,iw C=K:=⟨_,rfl⟩
   have HKK:=ak hK
   clear hB hK
   have q0:=Z0.out.at_ 0 rfl
   go_wp2_with fail
   have hlb:=yw HCo.out
   rw [HKK.out] at hlb
   refine hlb.mono ?_
   intro e w6 h
   obtain ⟨la,lc,rfl,ho,hb⟩:=bL h
   have HL:=ak (ho.rd au (B:=w6.heap.size) fun k hk=>hk.2)
   have HBL:=ak (uJ.out.trans (hb.mono uJ.out.size))
   have Z6:=ak (Z0.out.call hb)
   have HC6:=ak (aD (aZ au) HCo.out hb)
   have J5:=ak (aD aG HPo.out hb)
   have HQ6:=ak (aD aC HQo.out hb)
   have HT6:=ak (aD aA HTo.out hb)
   have HU6:=ak (aD aU HUo.out hb)
   have hKn:K.length≤8:=by rw [←HKK.out];exact lu.out.cfg.2.2.1
   have hz6:=HBL.out.size
   clear h ho hlb hb q0 q5
   have q6:=Z6.out.at_ 6 rfl
   go_wp2
   go_loopw [8] (fun i wr=>∃ j:Nat,j≤U.length∧i=.int .i64 j∧Hid (∀ (q:Nat) u,q<j→U[q]? = some u→u.1∈K)∧Below w6.heap.size w6 wr) (fun i _=>U.length-(intOf i).toNat)
   case atStart=>exact ⟨0,dV _,rfl,ak fun q u h=>absurd h (gZ _),aW _ _⟩
   case round=>
    obtain ⟨j,hj,rfl,HA,hB⟩:=hrel
    obtain ⟨wp,rfl⟩:∃ x,x=wr:=⟨_,rfl⟩
    have HBj:=ak hB
    have Gt:=ak (HBL.out.trans (hB.mono hz6))
    have Zj:=ak (Z6.out.call hB)
    have r6:=Zj.out.at_ 6 rfl
    by_cases hjl:j<U.length
    ·have hdj:decide ((j:Int)<(U.length:Int))=true:=eD (by omega)
     obtain ⟨⟨⟨u0,u1⟩,u2,u3⟩,hu⟩:=aM hjl
     have HX2:=ak hu
     obtain ⟨gq,oq,usq,rfl,hgq,huq,hrq⟩:=(aD aU HU6.out hB).at_ hu
     obtain ⟨rfl,_⟩:=ku hrq
     obtain ⟨e0,e1⟩:=ny (a:=oq+j*4) huq rfl
     have hj0:(0:Int)≤(j:Int):=eu _
     have hj1:(j:Int)<(U.length:Int):=by omega
     have HLj:=ak (aD au HL.out hB)
     clear hB hu huq hgq q6
     go_wp2_with fail
     refine (dW HLj.out).mono ?_
     intro e w7 h
     obtain ⟨b,rfl,hb,hbl⟩:=bq h
     have HMB:=ak hb
     have rR:=ak (HBj.out.trans (hbl.mono HBj.out.size))
     have HBW7:=ak (Gt.out.trans (hbl.mono Gt.out.size))
     clear h hb hbl e0 e1 r6
     cases b with
     | false=>
      have HV:=ak (show ¬iq ((C,P,Q,hf),N,T,U,now) from fun h=>by have h2:=(Gg h).1 _ _ HX2.out;rw [HKK.out] at h2;have:=HMB.out.2 h2;cases this)
      go_wp2
      go_ret
      exact aB HV.out HBW7.out
     | true=>
      have HA2:=ak (show ∀ (q:Nat) u,q<j+1→U[q]? = some u→u.1∈K from fun q u hq hu=>by
       by_cases e:q=j
       ·subst e;rw [HX2.out] at hu;cases hu;exact HMB.out.1 rfl
       ·exact HA.out q u (by omega) hu)
      go_wp2
      go_roundw
      case rel=>exact ⟨j+1,by omega,by go_num,HA2,rR.out⟩
      case measure=>simp [intOf];omega
    ·have hdj:decide ((j:Int)<(U.length:Int))=false:=dS (by omega)
     obtain rfl:j=U.length:=by omega
     have HC7:=ak (aD (aZ au) HC6.out hB)
     have HP7:=ak (aD aG J5.out hB)
     have HQ7:=ak (aD aC HQ6.out hB)
     have HT7:=ak (aD aA HT6.out hB)
     have HL7:=ak (aD au HL.out hB)
     have HUI:=ak (show xS C U from fun i u hu=>by rw [HKK.out];exact HA.out i u (List.getElem?_eq_some_iff.1 hu).1 hu)
     have hzp:=Gt.out.size
     clear hB q6
     go_wp2
     go_loopw [9] (fun i wr=>∃ j:Nat,j≤K.length∧i=.int .i64 j∧Hid (∀ (q:Nat) a,q<j→K[q]? = some a→(fK T a T.length:Int)≤gI Q a)∧Below wp.heap.size wp wr) (fun i _=>K.length-(intOf i).toNat)
     case atStart=>exact ⟨0,dV _,rfl,ak fun q u h=>absurd h (gZ _),aW _ _⟩
     case round=>
      obtain ⟨i,hi,rfl,HQA,hB⟩:=hrel
      have HBi:=ak hB
      have hszi:=hB.size
      have HBWi:=ak (Gt.out.trans (hB.mono hzp))
      have Zi:=ak (Zj.out.call hB)
      by_cases hil:i<K.length
      ·have hdi:decide ((i:Int)<(K.length:Int))=true:=eD (by omega)
       obtain ⟨⟨l0,l1⟩,hl⟩:=aM hil
       have MU:=ak hl
       obtain ⟨gl,ol,usl,rfl,hgl,RV,hrl⟩:=(aD au HL7.out hB).at_ hl
       obtain rfl:=gF hrl
       obtain ⟨e0,e1⟩:=ny (a:=ol+i*2) RV rfl
       have Pt:=ak e0
       have Sy:=ak e1
       have HGL:=ak hgl
       have hi0:(0:Int)≤(i:Int):=eu _
       have hi1:(i:Int)<(K.length:Int):=by omega
       have HCi:=ak (aD (aZ au) HC7.out hB)
       have HPi:=ak (aD aG HP7.out hB)
       have HQi:=ak (aD aC HQ7.out hB)
       have HTi:=ak (aD aA HT7.out hB)
       obtain ⟨n1,hn1⟩:∃ n,fK T (l0,l1) T.length=n:=⟨_,rfl⟩
       obtain ⟨n2,hn2⟩:∃ n,gI Q (l0,l1)=n:=⟨_,rfl⟩
       have Pq:=ak (show EL T (l0,l1)=(n1:Int) from by rw [BP (jo.2 lu.out.JH),hn1])
       have HL2:=ak (show AY C P Q hf (l0,l1)=n2 from by rw [QW lu.out.cfg (by rw [HKK.out];exact List.mem_of_getElem? hl),hn2])
       have HN1:=ak hn1
       have Pp:=ak hn2
       obtain ⟨c,hc⟩:∃ c,decide (n2<(n1:Int))=c:=⟨_,rfl⟩
       clear hB hl RV hgl hn1 hn2 e0 e1
       go_upto_region 25 with fail
       refine dX (S:=(fun V=>Below (wr).heap.size (wr) V)) (by kernel_rfl) ((aW _ _).drew) (fun ah=>?_)
       refine tk 0 ah ?_
       refine tk 1 ah ?_ (hy:=fun w aj=>by (try dsimp only at aj);have k0:=Zi.out.hat aj 5 rfl;clear aj;go_simp;try with_reducible rfl)
       refine tk 2 ah ?_
       refine tk 3 ah ?_
       refine tk 4 ah ?_
       refine tk 5 ah ?_ (hy:=fun w aj=>by (try dsimp only at aj);have k0:=(aj.cell (p:=⟨gl,ol+i*2,none⟩) HGL.out).trans Pt.out;have k1:=(aj.cell (p:=⟨gl,ol+i*2+1,none⟩) HGL.out).trans Sy.out;clear aj;go_simp;try with_reducible rfl)
       refine tk 7 ah ?_
       refine tk 8 ah ?_ (hy:=fun w aj=>by (try dsimp only at aj);have k0:=Zi.out.hat aj 0 rfl;have k1:=Zi.out.hat aj 1 rfl;have k2:=Zi.out.hat aj 2 rfl;have k3:=Zi.out.hat aj 3 rfl;clear aj;go_simp;try with_reducible rfl)
       refine tk 9 ah ?_
       refine tk 10 ah ?_
       refine tk 11 ah ?_
       refine tk 12 ah ?_ (hy:=fun w aj=>by (try dsimp only at aj);have k0:=(aj.cell (p:=⟨gl,ol+i*2,none⟩) HGL.out).trans Pt.out;have k1:=(aj.cell (p:=⟨gl,ol+i*2+1,none⟩) HGL.out).trans Sy.out;clear aj;go_simp;try with_reducible rfl)
       refine dw 6 (fun K hK=>?_)
       go_simp
       go_at_call 104
       have hlv:=Rn (l0:=l0) (l1:=l1) (aD aA HTi.out ah)
       unfold OfL at hlv
       rw [Pq.out] at hlv
       refine hlv.mono ?_
       rintro e w8 ⟨rfl,hb⟩
       clear hlv
       refine hK.out _ _ (ah.trans (hb.mono ah.size)) (fun ah=>?_)
       clear hK K hb
       refine dw 13 (fun K hK=>?_)
       go_simp
       go_at_call 105
       have hqv:=Fq (l:=l0) (s:=l1) (hf:=hf) (aD (aZ au) HCi.out ah) (aD aG HPi.out ah) (aD aC HQi.out ah)
       rw [HL2.out] at hqv
       refine hqv.mono ?_
       intro e w9 h
       obtain ⟨rfl,hb⟩:=iB h
       clear h hqv
       refine hK.out _ _ (ah.trans (hb.mono ah.size)) (fun ah=>?_)
       clear hK K hb
       refine tk 14 ah ?_
       refine dQ ?_
       have HF:=ak ah
       clear ah
       have Pv:=ak (HBi.out.trans (HF.out.mono hszi))
       have HBW8:=ak (HBWi.out.trans (HF.out.mono HBWi.out.size))
       clear HF
       cases c with
       | true=>
        have HV:=ak (show ¬iq ((C,P,Q,hf),N,T,U,now) from fun h=>by have h2:=(qG h) i (l0,l1) (by rw [HKK.out];exact MU.out);rw [HN1.out,Pp.out] at h2;have:=of_decide_eq_true hc;omega)
        go_wp2
        go_ret
        exact aB HV.out HBW8.out
       | false=>
        have HQA2:=ak (show ∀ (q:Nat) a,q<i+1→K[q]? = some a→(fK T a T.length:Int)≤gI Q a from fun q a hq ha=>by
         by_cases e:q=i
         ·subst e;rw [MU.out] at ha;cases ha;rw [HN1.out,Pp.out];have:=of_decide_eq_false hc;omega
         ·exact HQA.out q a (by omega) ha)
        clear hc
        go_wp2
        go_roundw
        case rel=>exact ⟨i+1,by omega,by go_num,HQA2,Pv.out⟩
        case measure=>simp [intOf];omega
      ·have hdi:decide ((i:Int)<(K.length:Int))=false:=dS (by omega)
       obtain rfl:i=K.length:=by omega
       clear hB
       have HV:=ak (show iq ((C,P,Q,hf),N,T,U,now) from ⟨lu.out.now,lu.out.cfg,lu.out.nds,lu.out.len,lu.out.JH,lu.out.use,HFT.out,HUI.out,fun q a ha=>by rw [HKK.out] at ha;exact HQA.out q a (List.getElem?_eq_some_iff.1 ha).1 ha⟩)
       go_wp2
       go_ret
       exact bM HV.out HBWi.out
end
end aQ
end Go.Proofs.YtlhfiapfncikdaaGreatDoor
