import Derived.Test.YtlhfiapfncikdaaGreatDoorPU28
import Derived.Test.YtlhfiapfncikdaaGreatDoorPU29
set_option linter.unusedVariables false
set_option linter.unusedSimpArgs false
set_option maxRecDepth 100000
set_option maxHeartbeats 3200000
namespace Go.Proofs.YtlhfiapfncikdaaGreatDoor.aP
section
open Go.RowKit bN bP bJ bM fT Cx
theorem GX {C:List (List av)}{P:List bq}{Q:List aV}{hf:Int}(h:oo C P Q hf):1≤C.length∧C.length≤6:=⟨h.1.1,h.1.2.1⟩
structure aaO (C:List (List av))(P:List bq)(Q:List aV)(hf:Int)(N:List aO)(T:List aG)(U:List bH)(now:Int):Prop where
 now:dI now 0 999900=true
 cfg:oo C P Q hf
 nds:qJ N
 len:N.length=C.length
 Rm:pK T
 use:yx U
theorem Qs {C:List (List av)}{P:List bq}{Q:List aV}{hf:Int}{a:av}(h:oo C P Q hf)(ha:a∈iw C):AL C P Q hf a=gH Q a:=by
 have h1:yt C P Q hf=iw C:=by unfold yt;rw [kQ.2 h];rfl
 unfold AL
 rw [h1]
 exact if_pos ha
theorem K8:∀ W:World,(Instr.makeSlice 153 (.int .i64 6) (.int .i64 6)).run Tryz.prog W=.ok (.slice (some ⟨W.heap.size,0,none⟩) 6 6) (W.alloc (.cells #[.bool false,.bool false,.bool false,.bool false,.bool false,.bool false] 4)):=fun W=>(Ld 6 (by decide) W).trans (by rw [show GA 6=#[.bool false,.bool false,.bool false,.bool false,.bool false,.bool false] from by kernel_rfl])
theorem PU {C:List (List av)}{P:List bq}{Q:List aV}{hf:Int}{ca pa qa:Option Addr}{cc pc qc:Nat}{N:List aO}{T:List aG}{U:List bH}{now:Int}{na ta ua:Option Addr}{nc tc uc:Nat}{W:World}(hC:aH (Sl au) W W.heap.size C ca cc)(hP:aH aS W W.heap.size P pa pc)(hQ:aH aM W W.heap.size Q qa qc)(hN:aH aJ W W.heap.size N na nc)(hT:aH aI W W.heap.size T ta tc)(hU:aH bD W W.heap.size U ua uc) :
 Calls Tryz.prog 48 #[.agg #[.slice ca C.length cc,.slice pa P.length pc,.slice qa Q.length qc,.int .i64 hf,.slice na N.length nc,.slice ta T.length tc,.slice ua U.length uc,.int .i64 now]] W (jh (iq ((C,P,Q,hf),N,T,U,now)) W):=by
 have hNn:N.length≤9223372036854775807:=by have h1:=hN.1;have h2:=hN.2.1;unfold maxLen at h2;omega
 have hTn:T.length≤9223372036854775807:=by have h1:=hT.1;have h2:=hT.2.1;unfold maxLen at h2;omega
 have hUn:U.length≤9223372036854775807:=by have h1:=hU.1;have h2:=hU.2.1;unfold maxLen at h2;omega
 have hCn:C.length≤9223372036854775807:=by have h1:=hC.1;have h2:=hC.2.1;unfold maxLen at h2;omega
 obtain ⟨b0,hb0⟩:∃ b,dI now 0 999900=b:=⟨_,rfl⟩
 have Hb0:=aj hb0
 clear hb0
 obtain ⟨b1,hb1⟩:∃ b,CW C P Q hf=b:=⟨_,rfl⟩
 have Hb1:=aj hb1
 clear hb1
 obtain ⟨b2,hb2⟩:∃ b,iX N=b:=⟨_,rfl⟩
 have Hb2:=aj hb2
 clear hb2
 obtain ⟨b4,hb4⟩:∃ b,ou T=b:=⟨_,rfl⟩
 have Hb4:=aj hb4
 clear hb4
 obtain ⟨b5,hb5⟩:∃ b,Dj U=b:=⟨_,rfl⟩
 have Hb5:=aj hb5
 clear hb5
 obtain ⟨w0,hw0⟩:∃ w,w=W.alloc (.cells #[.slice ca C.length cc,.slice pa P.length pc,.slice qa Q.length qc,.int .i64 hf,.slice na N.length nc,.slice ta T.length tc,.slice ua U.length uc,.int .i64 now] 44):=⟨_,rfl⟩
 have hb0:Below W.heap.size W w0:=by rw [hw0];exact (aU _ _).alloc (bK _) _
 have kX:aN w0 (W.heap.size) 44 #[.slice ca C.length cc,.slice pa P.length pc,.slice qa Q.length qc,.int .i64 hf,.slice na N.length nc,.slice ta T.length tc,.slice ua U.length uc,.int .i64 now]:=by
  have h9:=aN.new W 44 #[.slice ca C.length cc,.slice pa P.length pc,.slice qa Q.length qc,.int .i64 hf,.slice na N.length nc,.slice ta T.length tc,.slice ua U.length uc,.int .i64 now]
  try simp only [World.size_alloc] at h9
  rw [hw0];exact h9
 have X0:=aj kX
 have HC:=aj (aC (aY ak) hC hb0)
 have HP:=aj (aC aD hP hb0)
 have HQ:=aj (aC aB hQ hb0)
 have HN:=aj (aC aK hN hb0)
 have HT:=aj (aC ay hT hb0)
 have HU:=aj (aC aT hU hb0)
 have HB0:=aj hb0
 have hz0:=hb0.size
 clear hb0 hC hP hQ hN hT hU kX
 go_enter Tryz.func48,Tryz.ntmps48
 go_wp2_with fail
 rw [←hw0]
 clear hw0
 obtain ⟨dB,dA,dz,dx,fO,fM,fK,fJ⟩:=X0.out.fV rfl
 refine (Ol _ Hb0.out _).mono ?_
 rintro e v0 ⟨rfl,rfl⟩
 cases b0 with
 | false=>
  have HV:=aj (show ¬iq ((C,P,Q,hf),N,T,U,now) from fun h=>by have h2:=h.1;rw [Hb0.out] at h2;cases h2)
  go_wp2
  go_ret
  exact aA HV.out HB0.out
 | true=>
 go_wp2_with fail
 have hcx:=yO HC.out HP.out HQ.out (hf:=hf)
 rw [Hb1.out] at hcx
 refine hcx.mono ?_
 intro e v1 h
 obtain ⟨rfl,hb⟩:=bT h
 have HC:=aj (aC (aY ak) HC.out hb)
 have HP:=aj (aC aD HP.out hb)
 have HQ:=aj (aC aB HQ.out hb)
 have HN:=aj (aC aK HN.out hb)
 have HT:=aj (aC ay HT.out hb)
 have HU:=aj (aC aT HU.out hb)
 have X0:=aj (X0.out.call hb)
 have HB0:=aj (HB0.out.trans (hb.mono HB0.out.size))
 clear h hb hcx dB dA dz dx fO fM fK fJ
 obtain ⟨dB,dA,dz,dx,fO,fM,fK,fJ⟩:=X0.out.fV rfl
 cases b1 with
 | false=>
  have HV:=aj (show ¬iq ((C,P,Q,hf),N,T,U,now) from fun h=>by have h2:=kQ.2 h.2.1;rw [Hb1.out] at h2;cases h2)
  go_wp2
  go_ret
  exact aA HV.out HB0.out
 | true=>
 go_wp2_with fail
 have hcx:=G5 HN.out
 rw [Hb2.out] at hcx
 refine hcx.mono ?_
 intro e v2 h
 obtain ⟨rfl,hb⟩:=bT h
 have HC:=aj (aC (aY ak) HC.out hb)
 have HP:=aj (aC aD HP.out hb)
 have HQ:=aj (aC aB HQ.out hb)
 have HN:=aj (aC aK HN.out hb)
 have HT:=aj (aC ay HT.out hb)
 have HU:=aj (aC aT HU.out hb)
 have X0:=aj (X0.out.call hb)
 have HB0:=aj (HB0.out.trans (hb.mono HB0.out.size))
 clear h hb hcx dB dA dz dx fO fM fK fJ
 obtain ⟨dB,dA,dz,dx,fO,fM,fK,fJ⟩:=X0.out.fV rfl
 cases b2 with
 | false=>
  have HV:=aj (show ¬iq ((C,P,Q,hf),N,T,U,now) from fun h=>by have h2:=gF.2 h.2.2.1;rw [Hb2.out] at h2;cases h2)
  go_wp2
  go_ret
  exact aA HV.out HB0.out
 | true=>
 by_cases hnl:N.length=C.length
 rotate_left
 ·have hne:((N.length:Int) != (C.length:Int))=true:=by simp;omega
  have HV:=aj (show ¬iq ((C,P,Q,hf),N,T,U,now) from fun h=>hnl h.2.2.2.1)
  go_wp2
  go_ret
  exact aA HV.out HB0.out
 have hne:((N.length:Int) != (C.length:Int))=false:=by simp;omega
 have Xt:=aj hnl
 clear hnl
 go_wp2_with fail
 have hcx:=Bq HT.out
 rw [Hb4.out] at hcx
 refine hcx.mono ?_
 intro e v4 h
 obtain ⟨rfl,hb⟩:=bT h
 have HC:=aj (aC (aY ak) HC.out hb)
 have HP:=aj (aC aD HP.out hb)
 have HQ:=aj (aC aB HQ.out hb)
 have HN:=aj (aC aK HN.out hb)
 have HT:=aj (aC ay HT.out hb)
 have HU:=aj (aC aT HU.out hb)
 have X0:=aj (X0.out.call hb)
 have HB0:=aj (HB0.out.trans (hb.mono HB0.out.size))
 clear h hb hcx dB dA dz dx fO fM fK fJ
 obtain ⟨dB,dA,dz,dx,fO,fM,fK,fJ⟩:=X0.out.fV rfl
 cases b4 with
 | false=>
  have HV:=aj (show ¬iq ((C,P,Q,hf),N,T,U,now) from fun h=>by have h2:=jq.2 h.2.2.2.2.1;rw [Hb4.out] at h2;cases h2)
  go_wp2
  go_ret
  exact aA HV.out HB0.out
 | true=>
 go_wp2_with fail
 have hcx:=PY HU.out
 rw [Hb5.out] at hcx
 refine hcx.mono ?_
 intro e v5 h
 obtain ⟨rfl,hb⟩:=bT h
 have HC:=aj (aC (aY ak) HC.out hb)
 have HP:=aj (aC aD HP.out hb)
 have HQ:=aj (aC aB HQ.out hb)
 have HN:=aj (aC aK HN.out hb)
 have HT:=aj (aC ay HT.out hb)
 have HU:=aj (aC aT HU.out hb)
 have X0:=aj (X0.out.call hb)
 have HB0:=aj (HB0.out.trans (hb.mono HB0.out.size))
 clear h hb hcx dB dA dz dx fO fM fK fJ
 obtain ⟨dB,dA,dz,dx,fO,fM,fK,fJ⟩:=X0.out.fV rfl
 cases b5 with
 | false=>
  have HV:=aj (show ¬iq ((C,P,Q,hf),N,T,U,now) from fun h=>by have h2:=lK.2 h.2.2.2.2.2.1;rw [Hb5.out] at h2;cases h2)
  go_wp2
  go_ret
  exact aA HV.out HB0.out
 | true=>
 have lq:=aj (⟨Hb0.out,kQ.1 Hb1.out,gF.1 Hb2.out,Xt.out,jq.1 Hb4.out,lK.1 Hb5.out⟩:aaO C P Q hf N T U now)
 have J5:=(dG _ _ _).1 Hb0.out
 have hT96:=lq.out.Rm.1
 have hz1:=HB0.out.size
 clear hne dB dA dz dx fO fM fK fJ
 have hmk:=K8
 obtain ⟨w1,hw1⟩:∃ w,w=v5.alloc (.cells #[.bool false,.bool false,.bool false,.bool false,.bool false,.bool false] 4):=⟨_,rfl⟩
 have SK:=aj (show zP w1 v5.heap.size 4 (fun n=>fF T 0 n) from by rw [hw1];exact (zP.new v5 _).more fun m _=>⟨fun h=>h.elim,fun h=>yD h⟩)
 have hb1:Below v5.heap.size v5 w1:=by rw [hw1];exact (aU _ _).alloc (bK _) _
 have HB1:=aj hb1
 clear hb1
 obtain ⟨gu,hgu⟩:∃ g,g=v5.heap.size:=⟨_,rfl⟩
 have HGU:=aj (show gu=v5.heap.size from hgu)
 rw [←hgu] at SK
 obtain ⟨dB,dA,dz,dx,fO,fM,fK,fJ⟩:=X0.out.fV rfl
 go_upto_region 4 with fail
 rw [←hw1,←hgu]
 clear hw1 hgu dB dA dz dx fO fM fK fJ hmk
 go_wp2
 go_loopw [4] (fun i wr=>∃ k:Nat,k≤T.length∧i=.int .i64 k∧Hid (qO C now T k)∧Hid (zP wr gu 4 (fun n=>fF T k n))∧Below v5.heap.size v5 wr) (fun i _=>T.length-(intOf i).toNat)
 case atStart=>exact ⟨0,dX _,rfl,aj BQ,SK,HB1.out⟩
 case round=>
  obtain ⟨k,hk,rfl,HFT,HUS,hB⟩:=hrel
  obtain ⟨wo,rfl⟩:∃ x,x=wr:=⟨_,rfl⟩
  have HB:=aj hB
  have hsz:=hB.size
  have uq:=aj (HB0.out.trans (hB.mono hz1))
  have Z0:=aj (X0.out.call hB)
  have q5:=Z0.out.at_ 5 rfl
  by_cases hlt:k<T.length
  ·have hdl:decide ((k:Int)<(T.length:Int))=true:=eO (by omega)
   obtain ⟨⟨⟨x0,x1⟩,x2,x3,x4,x5,x6,⟨x7,x8⟩,x9,x10,aR,aW,M⟩,hx⟩:=aL hlt
   have HX:=aj hx
   have RF:=aj (show cB ((x0,x1),x2,x3,x4,x5,x6,(x7,x8),x9,x10,aR,aW,M) from (lq.out.Rm.2 k _ hx).1)
   obtain ⟨g,o,us,rfl,hg,hu,hr⟩:=HT.out.at_ hx
   obtain ⟨ma,mc,rfl,sH,gW⟩:=fu hr
   have e0:wo.cell? ⟨g,o+k*14,none⟩=some (.int .i64 x0):=(hB.cell (p:=⟨g,_,none⟩) hg).trans (by simpa [aZ,Nat.add_assoc] using hu 0 _ rfl)
   have e1:wo.cell? ⟨g,o+k*14+1,none⟩=some (.int .i64 x1):=(hB.cell (p:=⟨g,_,none⟩) hg).trans (by simpa [aZ,Nat.add_assoc] using hu 1 _ rfl)
   have e2:wo.cell? ⟨g,o+k*14+2,none⟩=some (.int .i64 x2):=(hB.cell (p:=⟨g,_,none⟩) hg).trans (by simpa [aZ,Nat.add_assoc] using hu 2 _ rfl)
   have e3:wo.cell? ⟨g,o+k*14+3,none⟩=some (.string x3):=(hB.cell (p:=⟨g,_,none⟩) hg).trans (by simpa [aZ,Nat.add_assoc] using hu 3 _ rfl)
   have e4:wo.cell? ⟨g,o+k*14+4,none⟩=some (.int .i64 x4):=(hB.cell (p:=⟨g,_,none⟩) hg).trans (by simpa [aZ,Nat.add_assoc] using hu 4 _ rfl)
   have e5:wo.cell? ⟨g,o+k*14+5,none⟩=some (.int .i64 x5):=(hB.cell (p:=⟨g,_,none⟩) hg).trans (by simpa [aZ,Nat.add_assoc] using hu 5 _ rfl)
   have e6:wo.cell? ⟨g,o+k*14+6,none⟩=some (.int .i64 x6):=(hB.cell (p:=⟨g,_,none⟩) hg).trans (by simpa [aZ,Nat.add_assoc] using hu 6 _ rfl)
   have e7:wo.cell? ⟨g,o+k*14+7,none⟩=some (.int .i64 x7):=(hB.cell (p:=⟨g,_,none⟩) hg).trans (by simpa [aZ,Nat.add_assoc] using hu 7 _ rfl)
   have e8:wo.cell? ⟨g,o+k*14+8,none⟩=some (.int .i64 x8):=(hB.cell (p:=⟨g,_,none⟩) hg).trans (by simpa [aZ,Nat.add_assoc] using hu 8 _ rfl)
   have e9:wo.cell? ⟨g,o+k*14+9,none⟩=some (.int .i64 x9):=(hB.cell (p:=⟨g,_,none⟩) hg).trans (by simpa [aZ,Nat.add_assoc] using hu 9 _ rfl)
   have e10:wo.cell? ⟨g,o+k*14+10,none⟩=some (.int .i64 x10):=(hB.cell (p:=⟨g,_,none⟩) hg).trans (by simpa [aZ,Nat.add_assoc] using hu 10 _ rfl)
   have e11:wo.cell? ⟨g,o+k*14+11,none⟩=some (.int .i64 aR):=(hB.cell (p:=⟨g,_,none⟩) hg).trans (by simpa [aZ,Nat.add_assoc] using hu 11 _ rfl)
   have e12:wo.cell? ⟨g,o+k*14+12,none⟩=some (.int .i64 aW):=(hB.cell (p:=⟨g,_,none⟩) hg).trans (by simpa [aZ,Nat.add_assoc] using hu 12 _ rfl)
   have e13:wo.cell? ⟨g,o+k*14+13,none⟩=some (.slice ma M.length mc):=(hB.cell (p:=⟨g,_,none⟩) hg).trans (by simpa [aZ,Nat.add_assoc] using hu 13 _ rfl)
   have hi0:(0:Int)≤(k:Int):=eu _
   have hi1:(k:Int)<(T.length:Int):=by omega
   have HK:=aj sH
   have hMn:M.length≤9223372036854775807:=by have h1:=sH.1;have h2:=sH.2.1;unfold maxLen at h2;omega
   obtain ⟨w2,hw2⟩:∃ w,w=wo.alloc (.cells #[.int .i64 x0,.int .i64 x1,.int .i64 x2,.string x3,.int .i64 x4,.int .i64 x5,.int .i64 x6,.int .i64 x7,.int .i64 x8,.int .i64 x9,.int .i64 x10,.int .i64 aR,.int .i64 aW,.slice ma M.length mc] 72):=⟨_,rfl⟩
   have hb2:Below wo.heap.size wo w2:=by rw [hw2];exact (aU _ _).alloc (bK _) _
   have Y2:=aj (show aN w2 wo.heap.size 72 #[.int .i64 x0,.int .i64 x1,.int .i64 x2,.string x3,.int .i64 x4,.int .i64 x5,.int .i64 x6,.int .i64 x7,.int .i64 x8,.int .i64 x9,.int .i64 x10,.int .i64 aR,.int .i64 aW,.slice ma M.length mc] from by rw [hw2];exact aN.new _ _ _)
   have Z2:=aj (Z0.out.call hb2)
   have HB2:=aj (HB.out.trans (hb2.mono hsz))
   have HUS2:=aj (HUS.out.call hb2)
   have HC2:=aj (aC (aY ak) (aC (aY ak) HC.out hB) hb2)
   have jg:=aj (aC cO HK.out HB2.out)
   clear hB hx hr hu hg sH hb2
   go_upto_region 8 with fail
   rw [←hw2]
   clear hw2 e0 e1 e2 e3 e4 e5 e6 e7 e8 e9 e10 e11 e12 e13 q5
   obtain ⟨zz0,zz1,zz2,zz3,zz4,zz5,zz6,zz7⟩:=Z2.out.fV rfl
   obtain ⟨yy0,yy1,yy2,yy3,yy4,yy5,yy6,yy7,yy8,yy9,JW,JV,JU,JR⟩:=Y2.out.fQ rfl
   go_wp2_with fail
   refine (IB HC2.out jg.out RF.out (GX lq.out.cfg).2 lq.out.len J5).mono ?_
   intro e w3 h
   obtain ⟨b,rfl,hb,hbl⟩:=bA h
   have HFB:=aj hb
   have HB3:=aj (HB2.out.trans (hbl.mono HB2.out.size))
   have PO:=aj (HB0.out.trans (HB3.out.mono hz1))
   have Y3:=aj (Y2.out.call hbl)
   have Z3:=aj (Z2.out.call hbl)
   have YP:=aj (HUS2.out.call hbl)
   have hz3:=HB3.out.size
   clear h hb hbl zz0 zz1 zz2 zz3 zz4 zz5 zz6 zz7 yy0 yy1 yy2 yy3 yy4 yy5 yy6 yy7 yy8 yy9 JW JV JU JR
   cases b with
   | false=>
    have HV:=aj (show ¬iq ((C,P,Q,hf),N,T,U,now) from fun h=>by have h2:=(h.2.2.2.2.2.2.1 k _ hlt HX.out).1;have:=HFB.out.2 h2;cases this)
    go_wp2
    go_ret
    exact aA HV.out PO.out
   | true=>
   have SQ:=aj (HFB.out.1 rfl)
   have y9:=Y3.out.at_ 9 rfl
   have Js:=Y3.out.at_ 11 rfl
   have y13:=Y3.out.at_ 13 rfl
   by_cases hs2:aR=2
   ·have hs2':(aR==2)=true:=beq_iff_eq.2 hs2
    have HS2:=aj hs2
    clear hs2
    have HUS4:=aj (YP.out.more (q:=fun n=>fF T k n∨n∈M.take 0) fun m _=>by simp)
    go_wp2
    go_loopw [6] (fun i wr=>∃ j:Nat,j≤M.length∧i=.int .i64 j∧Hid (zP wr gu 4 (fun n=>fF T k n∨n∈M.take j))∧Hid (∀ (q:Nat) (n:Int),q<j→M[q]? = some n→¬fF T k n)∧Hid (aN wr wo.heap.size 72 #[.int .i64 x0,.int .i64 x1,.int .i64 x2,.string x3,.int .i64 x4,.int .i64 x5,.int .i64 x6,.int .i64 x7,.int .i64 x8,.int .i64 x9,.int .i64 x10,.int .i64 aR,.int .i64 aW,.slice ma M.length mc])∧Below v5.heap.size v5 wr) (fun i _=>M.length-(intOf i).toNat)
    case atStart=>exact ⟨0,dX _,rfl,HUS4,aj fun q n h=>absurd h (gT _),Y3,HB3.out⟩
    case round=>
     obtain ⟨j,hj,rfl,HU5,HNT,HY5,RV⟩:=hrel
     have HM5:=aj (aC cO HK.out RV)
     have ny:=aj RV
     have HBW5:=aj (HB0.out.trans (RV.mono hz1))
     have u9:=HY5.out.at_ 9 rfl
     have u11:=HY5.out.at_ 11 rfl
     have u13:=HY5.out.at_ 13 rfl
     have uo:=RV.size
     clear RV y9 Js y13
     by_cases hjl:j<M.length
     ·have hdj:decide ((j:Int)<(M.length:Int))=true:=eO (by omega)
      obtain ⟨n,hn⟩:=aL hjl
      have hrg:=uP (oO RF.out hjl) hn
      obtain ⟨m,rfl⟩:∃ m:Nat,n=(m:Int):=⟨n.toNat,by omega⟩
      have hm6:m<6:=by omega
      have HN:=aj hn
      obtain ⟨gm,om,us5,rfl,hgm,hum,hrm⟩:=HM5.out.at_ hn
      obtain rfl:us5 = [_]:=hrm
      have em:wr.cell? ⟨gm,om+j,none⟩=some (.int .i64 (m:Int)):=by simpa [show I.size=1 from rfl] using hum 0 _ rfl
      obtain ⟨c,hc1,hc2,hc3⟩:=HU5.out.get hm6
      have HC3:=aj hc3
      have hj0:(0:Int)≤(j:Int):=eu _
      have hj1:(j:Int)<(M.length:Int):=by omega
      have hm0:(0:Int)≤(m:Int):=eu _
      have hm1:(m:Int)<6:=by omega
      have HNOT:=aj (show ¬((m:Int)∈M.take j) from fun h=>by
       obtain ⟨q,hq,he⟩:=List.mem_iff_getElem.1 h
       have hqj:q<j:=by have:=hq;rw [List.length_take,Nat.min_eq_left (Nat.le_of_lt hjl)] at this;exact this
       rw [List.getElem_take] at he
       have hql:q<M.length:=by omega
       have hqe:M[q]? = some (m:Int):=by rw [←he];exact List.getElem?_eq_getElem hql
       have:=yK (oO RF.out hjl) (i:=q) (j:=j) hqe hn
       omega)
      clear hn hum hgm hc3 hrg
      cases c with
      | true=>
       have HV:=aj (show ¬iq ((C,P,Q,hf),N,T,U,now) from fun h=>by have h2:=(h.2.2.2.2.2.2.1 k _ hlt HX.out).2 HS2.out _ (List.mem_of_getElem? HN.out);rcases HC3.out.1 rfl with h3 | h3;exact h2 h3;exact HNOT.out h3)
       go_wp2
       go_ret
       exact aA HV.out HBW5.out
      | false=>
       have Ur:=aj (show ¬fF T k (m:Int) from fun h=>by have:=HC3.out.2 (.inl h);cases this)
       have HNT2:=aj (show ∀ (q:Nat) (n:Int),q<j+1→M[q]? = some n→¬fF T k n from fun q n hq hn=>by
        by_cases e:q=j
        ·subst e;rw [HN.out] at hn;cases hn;exact Ur.out
        ·exact HNT.out q n (by omega) hn)
       have HU6:=aj ((HU5.out.put hm6).more (q:=fun n=>fF T k n∨n∈M.take (j+1)) fun i _=>by
        rw [List.take_add_one,HN.out]
        simp only [Option.toList_some,List.mem_append,List.mem_singleton]
        exact or_assoc)
       have HY6:=aj (HY5.out.far (b:=gu) (o:=m) (by have h1:=HUS.out.lt;omega) (.bool true))
       have wU:=aj (ny.out.setCell (p:=⟨gu,m,none⟩) (by show v5.heap.size≤gu;rw [HGU.out];exact bK _) (.bool true))
       go_wp2
       go_roundw
       case rel=>exact ⟨j+1,by omega,by go_num,HU6,HNT2,HY6,wU.out⟩
       case measure=>simp [intOf];omega
     ·have hdj:decide ((j:Int)<(M.length:Int))=false:=dU (by omega)
      obtain rfl:j=M.length:=by omega
      have kY:=aj (show okY C now T k ((x0,x1),x2,x3,x4,x5,x6,(x7,x8),x9,x10,aR,aW,M) from ⟨SQ.out,fun _ n hn=>by
       obtain ⟨q,hq,rfl⟩:=List.mem_iff_getElem.1 hn
       exact HNT.out q _ hq (List.getElem?_eq_getElem hq)⟩)
      have Gd:=aj (qg HFT.out HX.out kY.out)
      have HU7:=aj (HU5.out.more (q:=fun n=>fF T (k+1) n) fun i _=>by
       rw [nJ HX.out,List.take_length]
       exact ⟨fun h=>h.imp id fun h=>⟨HS2.out,h⟩,fun h=>h.imp id fun h=>h.2⟩)
      go_wp2
      go_roundw
      case rel=>exact ⟨k+1,by omega,by go_num,Gd,HU7,ny.out⟩
      case measure=>simp [intOf];omega
   ·have hs2':(aR==2)=false:=beq_eq_false_iff_ne.2 hs2
    have kY:=aj (show okY C now T k ((x0,x1),x2,x3,x4,x5,x6,(x7,x8),x9,x10,aR,aW,M) from ⟨SQ.out,fun h=>absurd h hs2⟩)
    have Gd:=aj (qg HFT.out HX.out kY.out)
    have HU7:=aj (YP.out.more (q:=fun n=>fF T (k+1) n) fun i _=>by
     rw [nJ HX.out]
     exact ⟨fun h=>.inl h,fun h=>h.elim id fun h=>absurd h.1 hs2⟩)
    clear hs2
    go_wp2
    go_loopw [6] (fun i wr=>i=.int .i64 0∧wr=w3) (fun i _=>0)
    case atStart=>exact ⟨rfl,rfl⟩
    case round=>
     obtain ⟨rfl,rfl⟩:=hrel
     by_cases hM0:0<M.length
     ·have hdM:decide ((0:Int)<(M.length:Int))=true:=eO (by omega)
      go_wp2
      go_roundw
      case rel=>exact ⟨k+1,by omega,by go_num,Gd,HU7,HB3.out⟩
      case measure=>simp [intOf];omega
     ·have hdM:decide ((0:Int)<(M.length:Int))=false:=dU (by omega)
      go_wp2
      go_roundw
      case rel=>exact ⟨k+1,by omega,by go_num,Gd,HU7,HB3.out⟩
      case measure=>simp [intOf];omega
  ·have hdl:decide ((k:Int)<(T.length:Int))=false:=dU (by omega)
   obtain rfl:k=T.length:=by omega
   have HCo:=aj (aC (aY ak) HC.out hB)
   have HPo:=aj (aC aD HP.out hB)
   have HQo:=aj (aC aB HQ.out hB)
   have HTo:=aj (aC ay HT.out hB)
   have HUo:=aj (aC aT HU.out hB)
   obtain ⟨K,hK⟩:∃ K,iw C=K:=⟨_,rfl⟩
   have HKK:=aj hK
   clear hB hK
   have q0:=Z0.out.at_ 0 rfl
   go_wp2_with fail
   have hlb:=xV HCo.out
   rw [HKK.out] at hlb
   refine hlb.mono ?_
   intro e w6 h
   obtain ⟨la,lc,rfl,ho,hb⟩:=bI h
   have HL:=aj (ho.rd ak (B:=w6.heap.size) fun k hk=>hk.2)
   have HBL:=aj (uq.out.trans (hb.mono uq.out.size))
   have Z6:=aj (Z0.out.call hb)
   have HC6:=aj (aC (aY ak) HCo.out hb)
   have JM:=aj (aC aD HPo.out hb)
   have HQ6:=aj (aC aB HQo.out hb)
   have HT6:=aj (aC ay HTo.out hb)
   have HU6:=aj (aC aT HUo.out hb)
   have hKn:K.length≤8:=by rw [←HKK.out];exact lq.out.cfg.2.2.1
   have hz6:=HBL.out.size
   clear h ho hlb hb q0 q5
   have q6:=Z6.out.at_ 6 rfl
   go_wp2
   go_loopw [8] (fun i wr=>∃ j:Nat,j≤U.length∧i=.int .i64 j∧Hid (∀ (q:Nat) u,q<j→U[q]? = some u→u.1∈K)∧Below w6.heap.size w6 wr) (fun i _=>U.length-(intOf i).toNat)
   case atStart=>exact ⟨0,dX _,rfl,aj fun q u h=>absurd h (gT _),aU _ _⟩
   case round=>
    obtain ⟨j,hj,rfl,HA,hB⟩:=hrel
    obtain ⟨wp,rfl⟩:∃ x,x=wr:=⟨_,rfl⟩
    have HBj:=aj hB
    have Gf:=aj (HBL.out.trans (hB.mono hz6))
    have Zj:=aj (Z6.out.call hB)
    have r6:=Zj.out.at_ 6 rfl
    by_cases hjl:j<U.length
    ·have hdj:decide ((j:Int)<(U.length:Int))=true:=eO (by omega)
     obtain ⟨⟨⟨u0,u1⟩,u2,u3⟩,hu⟩:=aL hjl
     have HX2:=aj hu
     obtain ⟨gq,oq,usq,rfl,hgq,huq,hrq⟩:=(aC aT HU6.out hB).at_ hu
     obtain ⟨rfl,_⟩:=kD hrq
     obtain ⟨e0,e1⟩:=mW (a:=oq+j*4) huq rfl
     have hj0:(0:Int)≤(j:Int):=eu _
     have hj1:(j:Int)<(U.length:Int):=by omega
     have HLj:=aj (aC ak HL.out hB)
     clear hB hu huq hgq q6
     go_wp2_with fail
     refine (dV HLj.out).mono ?_
     intro e w7 h
     obtain ⟨b,rfl,hb,hbl⟩:=bA h
     have HMB:=aj hb
     have rG:=aj (HBj.out.trans (hbl.mono HBj.out.size))
     have HBW7:=aj (Gf.out.trans (hbl.mono Gf.out.size))
     clear h hb hbl e0 e1 r6
     cases b with
     | false=>
      have HV:=aj (show ¬iq ((C,P,Q,hf),N,T,U,now) from fun h=>by have h2:=(Er h).1 _ _ HX2.out;rw [HKK.out] at h2;have:=HMB.out.2 h2;cases this)
      go_wp2
      go_ret
      exact aA HV.out HBW7.out
     | true=>
      have HA2:=aj (show ∀ (q:Nat) u,q<j+1→U[q]? = some u→u.1∈K from fun q u hq hu=>by
       by_cases e:q=j
       ·subst e;rw [HX2.out] at hu;cases hu;exact HMB.out.1 rfl
       ·exact HA.out q u (by omega) hu)
      go_wp2
      go_roundw
      case rel=>exact ⟨j+1,by omega,by go_num,HA2,rG.out⟩
      case measure=>simp [intOf];omega
    ·have hdj:decide ((j:Int)<(U.length:Int))=false:=dU (by omega)
     obtain rfl:j=U.length:=by omega
     have HC7:=aj (aC (aY ak) HC6.out hB)
     have HP7:=aj (aC aD JM.out hB)
     have HQ7:=aj (aC aB HQ6.out hB)
     have HT7:=aj (aC ay HT6.out hB)
     have HL7:=aj (aC ak HL.out hB)
     have HUI:=aj (show xE C U from fun i u hu=>by rw [HKK.out];exact HA.out i u (List.getElem?_eq_some_iff.1 hu).1 hu)
     have hzp:=Gf.out.size
     clear hB q6
     go_wp2
     go_loopw [9] (fun i wr=>∃ j:Nat,j≤K.length∧i=.int .i64 j∧Hid (∀ (q:Nat) a,q<j→K[q]? = some a→(fG T a T.length:Int)≤gH Q a)∧Below wp.heap.size wp wr) (fun i _=>K.length-(intOf i).toNat)
     case atStart=>exact ⟨0,dX _,rfl,aj fun q u h=>absurd h (gT _),aU _ _⟩
     case round=>
      obtain ⟨i,hi,rfl,HQA,hB⟩:=hrel
      have HBi:=aj hB
      have hszi:=hB.size
      have HBWi:=aj (Gf.out.trans (hB.mono hzp))
      have Zi:=aj (Zj.out.call hB)
      by_cases hil:i<K.length
      ·have hdi:decide ((i:Int)<(K.length:Int))=true:=eO (by omega)
       obtain ⟨⟨l0,l1⟩,hl⟩:=aL hil
       have Mt:=aj hl
       obtain ⟨gl,ol,usl,rfl,hgl,Ro,hrl⟩:=(aC ak HL7.out hB).at_ hl
       obtain rfl:=gD hrl
       obtain ⟨e0,e1⟩:=mW (a:=ol+i*2) Ro rfl
       have OV:=aj e0
       have OU:=aj e1
       have HGL:=aj hgl
       have hi0:(0:Int)≤(i:Int):=eu _
       have hi1:(i:Int)<(K.length:Int):=by omega
       have HCi:=aj (aC (aY ak) HC7.out hB)
       have HPi:=aj (aC aD HP7.out hB)
       have HQi:=aj (aC aB HQ7.out hB)
       have HTi:=aj (aC ay HT7.out hB)
       obtain ⟨n1,hn1⟩:∃ n,fG T (l0,l1) T.length=n:=⟨_,rfl⟩
       obtain ⟨n2,hn2⟩:∃ n,gH Q (l0,l1)=n:=⟨_,rfl⟩
       have OT:=aj (show ED T (l0,l1)=(n1:Int) from by rw [BL (jq.2 lq.out.Rm),hn1])
       have HL2:=aj (show AL C P Q hf (l0,l1)=n2 from by rw [Qs lq.out.cfg (by rw [HKK.out];exact List.mem_of_getElem? hl),hn2])
       have HN1:=aj hn1
       have OQ:=aj hn2
       obtain ⟨c,hc⟩:∃ c,decide (n2<(n1:Int))=c:=⟨_,rfl⟩
       clear hB hl Ro hgl hn1 hn2 e0 e1
       go_upto_region 25 with fail
       refine dW (S:=(fun V=>Below (wr).heap.size (wr) V)) (by kernel_rfl) ((aU _ _).drew) (fun ah=>?_)
       refine tk 0 ah ?_
       refine tk 1 ah ?_ (hy:=fun w hSw=>by (try dsimp only at hSw);have k0:=Zi.out.hat hSw 5 rfl;clear hSw;go_simp;try with_reducible rfl)
       refine tk 2 ah ?_
       refine tk 3 ah ?_
       refine tk 4 ah ?_
       refine tk 5 ah ?_ (hy:=fun w hSw=>by (try dsimp only at hSw);have k0:=(hSw.cell (p:=⟨gl,ol+i*2,none⟩) HGL.out).trans OV.out;have k1:=(hSw.cell (p:=⟨gl,ol+i*2+1,none⟩) HGL.out).trans OU.out;clear hSw;go_simp;try with_reducible rfl)
       refine tk 7 ah ?_
       refine tk 8 ah ?_ (hy:=fun w hSw=>by (try dsimp only at hSw);have k0:=Zi.out.hat hSw 0 rfl;have k1:=Zi.out.hat hSw 1 rfl;have k2:=Zi.out.hat hSw 2 rfl;have k3:=Zi.out.hat hSw 3 rfl;clear hSw;go_simp;try with_reducible rfl)
       refine tk 9 ah ?_
       refine tk 10 ah ?_
       refine tk 11 ah ?_
       refine tk 12 ah ?_ (hy:=fun w hSw=>by (try dsimp only at hSw);have k0:=(hSw.cell (p:=⟨gl,ol+i*2,none⟩) HGL.out).trans OV.out;have k1:=(hSw.cell (p:=⟨gl,ol+i*2+1,none⟩) HGL.out).trans OU.out;clear hSw;go_simp;try with_reducible rfl)
       refine cZ 6 (fun K hK=>?_)
       go_simp
       go_at_call 104
       have hlv:=QN (l0:=l0) (l1:=l1) (aC ay HTi.out ah)
       unfold OfL at hlv
       rw [OT.out] at hlv
       refine hlv.mono ?_
       rintro e w8 ⟨rfl,hb⟩
       clear hlv
       refine hK.out _ _ (ah.trans (hb.mono ah.size)) (fun ah=>?_)
       clear hK K hb
       refine cZ 13 (fun K hK=>?_)
       go_simp
       go_at_call 105
       have hqv:=E5 (l:=l0) (s:=l1) (hf:=hf) (aC (aY ak) HCi.out ah) (aC aD HPi.out ah) (aC aB HQi.out ah)
       rw [HL2.out] at hqv
       refine hqv.mono ?_
       intro e w9 h
       obtain ⟨rfl,hb⟩:=iB h
       clear h hqv
       refine hK.out _ _ (ah.trans (hb.mono ah.size)) (fun ah=>?_)
       clear hK K hb
       refine tk 14 ah ?_
       refine dQ ?_
       have HF:=aj ah
       clear ah
       have OW:=aj (HBi.out.trans (HF.out.mono hszi))
       have HBW8:=aj (HBWi.out.trans (HF.out.mono HBWi.out.size))
       clear HF
       cases c with
       | true=>
        have HV:=aj (show ¬iq ((C,P,Q,hf),N,T,U,now) from fun h=>by have h2:=(o7 h) i (l0,l1) (by rw [HKK.out];exact Mt.out);rw [HN1.out,OQ.out] at h2;have:=of_decide_eq_true hc;omega)
        go_wp2
        go_ret
        exact aA HV.out HBW8.out
       | false=>
        have HQA2:=aj (show ∀ (q:Nat) a,q<i+1→K[q]? = some a→(fG T a T.length:Int)≤gH Q a from fun q a hq ha=>by
         by_cases e:q=i
         ·subst e;rw [Mt.out] at ha;cases ha;rw [HN1.out,OQ.out];have:=of_decide_eq_false hc;omega
         ·exact HQA.out q a (by omega) ha)
        clear hc
        go_wp2
        go_roundw
        case rel=>exact ⟨i+1,by omega,by go_num,HQA2,OW.out⟩
        case measure=>simp [intOf];omega
      ·have hdi:decide ((i:Int)<(K.length:Int))=false:=dU (by omega)
       obtain rfl:i=K.length:=by omega
       clear hB
       have HV:=aj (show iq ((C,P,Q,hf),N,T,U,now) from ⟨lq.out.now,lq.out.cfg,lq.out.nds,lq.out.len,lq.out.Rm,lq.out.use,HFT.out,HUI.out,fun q a ha=>by rw [HKK.out] at ha;exact HQA.out q a (List.getElem?_eq_some_iff.1 ha).1 ha⟩)
       go_wp2
       go_ret
       exact bO HV.out HBWi.out
end
end Go.Proofs.YtlhfiapfncikdaaGreatDoor.aP
