import Derived.Test.YtlhfiapfncikdaaGreatDoorPN24
import Derived.Test.YtlhfiapfncikdaaGreatDoorPN30
set_option linter.unusedVariables false
set_option linter.unusedSimpArgs false
set_option maxRecDepth 100000
set_option maxHeartbeats 3200000
namespace Go.Proofs.YtlhfiapfncikdaaGreatDoor
namespace aQ
section
open Go.RowKit bN bO bJ bQ eO CF
theorem Ct {C:List (List ay)}{P:List bA}{Q:List aX}{hf:Int}{ca pa qa:Option Addr}{cc pc qc:Nat}{N:List aP}{T:List aF}{U:List bI}{now:Int}{na ta ua:Option Addr}{nc tc uc:Nat}{W:World}(hcl:iW C)(h96:T.length≤96)(hC:aJ (Sl av) W W.heap.size C ca cc)(hQ:aJ aN W W.heap.size Q qa qc)(hT:aJ aI W W.heap.size T ta tc)(hU:aJ bC W W.heap.size U ua uc) :
 Calls Tryz.prog 136 #[.agg #[.slice ca C.length cc,.slice pa P.length pc,.slice qa Q.length qc,.int .i64 hf,.slice na N.length nc,.slice ta T.length tc,.slice ua U.length uc,.int .i64 now]] W (jf (oP C Q T∧xS C U) W):=by
 have hUn:U.length≤9223372036854775807:=by have h1:=hU.1;have h2:=hU.2.1;unfold maxLen at h2;omega
 obtain ⟨K,hK⟩:∃ K,iw C=K:=⟨_,rfl⟩
 have HKK:=ak hK
 have hKn:K.length≤32:=by rw [←hK];exact BR C 32
 clear hK
 obtain ⟨w0,hw0⟩:∃ w,w=W.alloc (.cells #[.slice ca C.length cc,.slice pa P.length pc,.slice qa Q.length qc,.int .i64 hf,.slice na N.length nc,.slice ta T.length tc,.slice ua U.length uc,.int .i64 now] 44):=⟨_,rfl⟩
 have hb0:Below W.heap.size W w0:=by rw [hw0];exact (aW _ _).alloc (bK _) _
 have kW:aO w0 (W.heap.size) 44 #[.slice ca C.length cc,.slice pa P.length pc,.slice qa Q.length qc,.int .i64 hf,.slice na N.length nc,.slice ta T.length tc,.slice ua U.length uc,.int .i64 now]:=by
  have h9:=aO.new W 44 #[.slice ca C.length cc,.slice pa P.length pc,.slice qa Q.length qc,.int .i64 hf,.slice na N.length nc,.slice ta T.length tc,.slice ua U.length uc,.int .i64 now]
  try simp only [World.size_alloc] at h9
  rw [hw0];exact h9
 have X0:=ak kW
 have HC:=ak (aD (aZ au) hC hb0)
 have HQ:=ak (aD aC hQ hb0)
 have HT:=ak (aD aA hT hb0)
 have HU:=ak (aD aU hU hb0)
 have HB0:=ak hb0
 have hz0:=hb0.size
 clear hb0 hC hQ hT hU kW
 go_enter Tryz.func136,Tryz.ntmps136
 go_upto_region 1 with fail
 rw [←hw0]
 clear hw0
 obtain ⟨dB,dA,dz,dx,fU,fT,fQ,fP⟩:=X0.out.gy rfl
 go_wp2_with fail
 have hlb:=Ei hcl HC.out
 rw [HKK.out] at hlb
 refine hlb.mono ?_
 intro e w1 h
 obtain ⟨la,lc,rfl,ho,hb⟩:=bL h
 have HL:=ak (ho.rd au (B:=w1.heap.size) fun k hk=>hk.2)
 have HB1:=ak (HB0.out.trans (hb.mono hz0))
 have Z1:=ak (X0.out.call hb)
 have nJ:=ak (aD aC HQ.out hb)
 have HT1:=ak (aD aA HT.out hb)
 have J4:=ak (aD aU HU.out hb)
 have hz1:=HB1.out.size
 clear h ho hlb hb dB dA dz dx fU fT fQ fP
 go_wp2
 go_loopw [14] (fun i wr=>∃ j:Nat,j≤K.length∧i=.int .i64 j∧Hid (∀ (q:Nat) a,q<j→K[q]? = some a→(fK T a T.length:Int)≤gI Q a)∧Below w1.heap.size w1 wr) (fun i _=>K.length-(intOf i).toNat)
 case atStart=>exact ⟨0,dV _,rfl,ak fun q u h=>absurd h (gZ _),aW _ _⟩
 case round=>
  obtain ⟨i,hi,rfl,HQA,hB⟩:=hrel
  obtain ⟨wo,rfl⟩:∃ x,x=wr:=⟨_,rfl⟩
  have HB:=ak hB
  have hsz:=hB.size
  have uJ:=ak (HB1.out.trans (hB.mono hz1))
  have Z2:=ak (Z1.out.call hB)
  by_cases hil:i<K.length
  ·have hdi:decide ((i:Int)<(K.length:Int))=true:=eD (by omega)
   obtain ⟨⟨l0,l1⟩,hl⟩:=aM hil
   have HX:=ak hl
   obtain ⟨gl,ol,usl,rfl,hgl,RV,hrl⟩:=(aD au HL.out hB).at_ hl
   obtain rfl:=gF hrl
   obtain ⟨e0,e1⟩:=ny (a:=ol+i*2) RV rfl
   have hi0:(0:Int)≤(i:Int):=eu _
   have hi1:(i:Int)<(K.length:Int):=by omega
   obtain ⟨w2,hw2⟩:∃ w,w=wo.alloc (.cells #[.int .i64 l0,.int .i64 l1] 49):=⟨_,rfl⟩
   have hb2:Below wo.heap.size wo w2:=by rw [hw2];exact (aW _ _).alloc (bK _) _
   have Y2:=ak (show aO w2 wo.heap.size 49 #[.int .i64 l0,.int .i64 l1] from by rw [hw2];exact aO.new _ _ _)
   have Z3:=ak (Z2.out.call hb2)
   have HB2:=ak (HB.out.trans (hb2.mono hsz))
   have hsz2:=HB2.out.size
   have Qm:=ak (uJ.out.trans (hb2.mono uJ.out.size))
   have xH:=ak (aD aC (aD aC nJ.out hB) hb2)
   have HT2:=ak (aD aA (aD aA HT1.out hB) hb2)
   obtain ⟨n1,hn1⟩:∃ n,fK T (l0,l1) T.length=n:=⟨_,rfl⟩
   obtain ⟨n2,hn2⟩:∃ n,gI Q (l0,l1)=n:=⟨_,rfl⟩
   have HN1:=ak hn1
   have Pp:=ak hn2
   obtain ⟨c,hc⟩:∃ c,decide (n2<(n1:Int))=c:=⟨_,rfl⟩
   clear hB hl RV hgl hb2 hn1 hn2
   go_upto_region 5 with fail
   rw [←hw2]
   clear hw2 e0 e1
   refine dX (S:=(fun V=>Below (w2).heap.size (w2) V)) (by kernel_rfl) ((aW _ _).drew) (fun ah=>?_)
   refine tk 0 ah ?_
   refine tk 1 ah ?_ (hy:=fun w aj=>by (try dsimp only at aj);have k0:=Z3.out.hat aj 5 rfl;clear aj;go_simp;try with_reducible rfl)
   refine tk 2 ah ?_ (hy:=fun w aj=>by (try dsimp only at aj);have k0:=Y2.out.hat aj 0 rfl;have k1:=Y2.out.hat aj 1 rfl;clear aj;go_simp;try with_reducible rfl)
   refine tk 4 ah ?_
   refine tk 5 ah ?_ (hy:=fun w aj=>by (try dsimp only at aj);have k0:=Z3.out.hat aj 0 rfl;have k1:=Z3.out.hat aj 1 rfl;have k2:=Z3.out.hat aj 2 rfl;have k3:=Z3.out.hat aj 3 rfl;clear aj;go_simp;try with_reducible rfl)
   refine tk 6 ah ?_ (hy:=fun w aj=>by (try dsimp only at aj);have k0:=Y2.out.hat aj 0 rfl;have k1:=Y2.out.hat aj 1 rfl;clear aj;go_simp;try with_reducible rfl)
   refine dw 3 (fun K hK=>?_)
   go_simp
   go_at_call 203
   have hlv:=Jl (l0:=l0) (l1:=l1) h96 (aD aA HT2.out ah)
   rw [HN1.out] at hlv
   refine hlv.mono ?_
   intro e w8 h
   obtain ⟨rfl,hb⟩:=iB h
   clear h hlv
   refine hK.out _ _ (ah.trans (hb.mono ah.size)) (fun ah=>?_)
   clear hK K hb
   refine dw 7 (fun K hK=>?_)
   go_simp
   go_at_call 204
   have hqv:=Dj (C:=C) (P:=P) (ca:=ca) (pa:=pa) (cc:=cc) (pc:=pc) (hf:=hf) (l:=l0) (s:=l1) (aD aC xH.out ah)
   rw [Pp.out] at hqv
   refine hqv.mono ?_
   intro e w9 h
   obtain ⟨rfl,hb⟩:=iB h
   clear h hqv
   refine hK.out _ _ (ah.trans (hb.mono ah.size)) (fun ah=>?_)
   clear hK K hb
   refine tk 8 ah ?_
   refine dQ ?_
   have HF:=ak ah
   clear ah
   have Pv:=ak (HB2.out.trans (HF.out.mono hsz2))
   have HBW8:=ak (Qm.out.trans (HF.out.mono Qm.out.size))
   clear HF
   cases c with
   | true=>
    have HV:=ak (show ¬(oP C Q T∧xS C U) from fun h=>by have h2:=h.1 i (l0,l1) (by rw [HKK.out];exact HX.out);rw [HN1.out,Pp.out] at h2;have:=of_decide_eq_true hc;omega)
    go_wp2
    go_ret
    exact aB HV.out HBW8.out
   | false=>
    have HQA2:=ak (show ∀ (q:Nat) a,q<i+1→K[q]? = some a→(fK T a T.length:Int)≤gI Q a from fun q a hq ha=>by
     by_cases e:q=i
     ·subst e;rw [HX.out] at ha;cases ha;rw [HN1.out,Pp.out];have:=of_decide_eq_false hc;omega
     ·exact HQA.out q a (by omega) ha)
    clear hc
    go_wp2
    go_roundw
    case rel=>exact ⟨i+1,by omega,by go_num,HQA2,Pv.out⟩
    case measure=>simp [intOf];omega
  ·have hdi:decide ((i:Int)<(K.length:Int))=false:=dS (by omega)
   obtain rfl:i=K.length:=by omega
   have HQI:=ak (show oP C Q T from fun q a ha=>by rw [HKK.out] at ha;exact HQA.out q a (List.getElem?_eq_some_iff.1 ha).1 ha)
   have HU2:=ak (aD aU J4.out hB)
   have HL2:=ak (aD au HL.out hB)
   have hzo:=uJ.out.size
   clear hB
   have z6:=Z2.out.at_ 6 rfl
   go_wp2
   go_loopw [31] (fun i wr=>∃ j:Nat,j≤U.length∧i=.int .i64 j∧Hid (∀ (q:Nat) u,q<j→U[q]? = some u→u.1∈K)∧Below wo.heap.size wo wr) (fun i _=>U.length-(intOf i).toNat)
   case atStart=>exact ⟨0,dV _,rfl,ak fun q u h=>absurd h (gZ _),aW _ _⟩
   case round=>
    obtain ⟨j,hj,rfl,HA,hB⟩:=hrel
    have HBj:=ak hB
    have hszj:=hB.size
    have Gt:=ak (uJ.out.trans (hB.mono hzo))
    by_cases hjl:j<U.length
    ·have hdj:decide ((j:Int)<(U.length:Int))=true:=eD (by omega)
     obtain ⟨⟨⟨u0,u1⟩,u2,u3⟩,hu⟩:=aM hjl
     have HX2:=ak hu
     obtain ⟨gq,oq,usq,rfl,hgq,huq,hrq⟩:=(aD aU HU2.out hB).at_ hu
     obtain ⟨rfl,_⟩:=ku hrq
     obtain ⟨e0,e1,e2,e3⟩:=Kn (a:=oq+j*4) huq rfl
     have hj0:(0:Int)≤(j:Int):=eu _
     have hj1:(j:Int)<(U.length:Int):=by omega
     obtain ⟨w3,hw3⟩:∃ w,w=wr.alloc (.cells #[.int .i64 u0,.int .i64 u1,.string u2,.int .i64 u3] 128):=⟨_,rfl⟩
     have hb3:Below wr.heap.size wr w3:=by rw [hw3];exact (aW _ _).alloc (bK _) _
     have Y3:=ak (show aO w3 wr.heap.size 128 #[.int .i64 u0,.int .i64 u1,.string u2,.int .i64 u3] from by rw [hw3];exact aO.new _ _ _)
     have HB3:=ak (HBj.out.trans (hb3.mono hszj))
     have Ql:=ak (Gt.out.trans (hb3.mono Gt.out.size))
     have HL3:=ak (aD au (aD au HL2.out hB) hb3)
     clear hB hu huq hgq hb3 z6
     go_upto_region 11 with fail
     rw [←hw3]
     clear hw3 e0 e1 e2 e3
     obtain ⟨y0,y1⟩:=Y3.out.kS rfl
     go_wp2_with fail
     refine (iR HL3.out).mono ?_
     intro e w7 h
     obtain ⟨b,rfl,hb,hbl⟩:=bq h
     have HMB:=ak hb
     have rR:=ak (HB3.out.trans (hbl.mono HB3.out.size))
     have HBW7:=ak (Ql.out.trans (hbl.mono Ql.out.size))
     clear h hb hbl y0 y1
     cases b with
     | false=>
      have HV:=ak (show ¬(oP C Q T∧xS C U) from fun h=>by have h2:=h.2 _ _ HX2.out;rw [HKK.out] at h2;have:=HMB.out.2 h2;cases this)
      go_wp2
      go_ret
      exact aB HV.out HBW7.out
     | true=>
      have HA2:=ak (show ∀ (q:Nat) u,q<j+1→U[q]? = some u→u.1∈K from fun q u hq hu=>by
       by_cases e:q=j
       ·subst e;rw [HX2.out] at hu;cases hu;exact HMB.out.1 rfl
       ·exact HA.out q u (by omega) hu)
      go_wp2
      go_roundw
      case rel=>exact ⟨j+1,by omega,by go_num,HA2,rR.out⟩
      case measure=>simp [intOf];omega
    ·have hdj:decide ((j:Int)<(U.length:Int))=false:=dS (by omega)
     obtain rfl:j=U.length:=by omega
     clear hB z6
     have HV:=ak (show (oP C Q T∧xS C U) from ⟨HQI.out,fun i u hu=>by rw [HKK.out];exact HA.out i u (List.getElem?_eq_some_iff.1 hu).1 hu⟩)
     go_wp2
     go_ret
     exact bM HV.out Gt.out
theorem Qp {C:List (List ay)}{P:List bA}{Q:List aX}{hf:Int}{ca pa qa:Option Addr}{cc pc qc:Nat}{N:List aP}{T:List aF}{U:List bI}{now:Int}{na ta ua:Option Addr}{nc tc uc:Nat}{W:World}(hC:aJ (Sl av) W W.heap.size C ca cc)(hP:aJ aT W W.heap.size P pa pc)(hQ:aJ aN W W.heap.size Q qa qc)(hN:aJ aL W W.heap.size N na nc)(hT:aJ aI W W.heap.size T ta tc)(hU:aJ bC W W.heap.size U ua uc) :
 Calls Tryz.prog 76 #[.agg #[.slice ca C.length cc,.slice pa P.length pc,.slice qa Q.length qc,.int .i64 hf,.slice na N.length nc,.slice ta T.length tc,.slice ua U.length uc,.int .i64 now]] W (jf (iq ((C,P,Q,hf),N,T,U,now)) W):=by
 have hNn:N.length≤9223372036854775807:=by have h1:=hN.1;have h2:=hN.2.1;unfold maxLen at h2;omega
 have hTn:T.length≤9223372036854775807:=by have h1:=hT.1;have h2:=hT.2.1;unfold maxLen at h2;omega
 have hUn:U.length≤9223372036854775807:=by have h1:=hU.1;have h2:=hU.2.1;unfold maxLen at h2;omega
 have hCn:C.length≤9223372036854775807:=by have h1:=hC.1;have h2:=hC.2.1;unfold maxLen at h2;omega
 obtain ⟨b0,hb0⟩:∃ b,dD now 0 999900=b:=⟨_,rfl⟩
 have Hb0:=ak hb0
 clear hb0
 obtain ⟨b1,hb1⟩:∃ b,C8 C P Q hf=b:=⟨_,rfl⟩
 have Hb1:=ak hb1
 clear hb1
 obtain ⟨b2,hb2⟩:∃ b,iU N=b:=⟨_,rfl⟩
 have Hb2:=ak hb2
 clear hb2
 obtain ⟨b4,hb4⟩:∃ b,oH T=b:=⟨_,rfl⟩
 have Hb4:=ak hb4
 clear hb4
 obtain ⟨b5,hb5⟩:∃ b,Dq U=b:=⟨_,rfl⟩
 have Hb5:=ak hb5
 clear hb5
 obtain ⟨w0,hw0⟩:∃ w,w=W.alloc (.cells #[.slice ca C.length cc,.slice pa P.length pc,.slice qa Q.length qc,.int .i64 hf,.slice na N.length nc,.slice ta T.length tc,.slice ua U.length uc,.int .i64 now] 44):=⟨_,rfl⟩
 have hb0:Below W.heap.size W w0:=by rw [hw0];exact (aW _ _).alloc (bK _) _
 have kW:aO w0 (W.heap.size) 44 #[.slice ca C.length cc,.slice pa P.length pc,.slice qa Q.length qc,.int .i64 hf,.slice na N.length nc,.slice ta T.length tc,.slice ua U.length uc,.int .i64 now]:=by
  have h9:=aO.new W 44 #[.slice ca C.length cc,.slice pa P.length pc,.slice qa Q.length qc,.int .i64 hf,.slice na N.length nc,.slice ta T.length tc,.slice ua U.length uc,.int .i64 now]
  try simp only [World.size_alloc] at h9
  rw [hw0];exact h9
 have X0:=ak kW
 have HC:=ak (aD (aZ au) hC hb0)
 have HP:=ak (aD aG hP hb0)
 have HQ:=ak (aD aC hQ hb0)
 have HN:=ak (aD aK hN hb0)
 have HT:=ak (aD aA hT hb0)
 have HU:=ak (aD aU hU hb0)
 have HB0:=ak hb0
 have hz0:=hb0.size
 clear hb0 hC hP hQ hN hT hU kW
 go_enter Tryz.func76,Tryz.ntmps76
 go_upto_region 1 with fail
 rw [←hw0]
 clear hw0
 obtain ⟨dB,dA,dz,dx,fU,fT,fQ,fP⟩:=X0.out.gy rfl
 go_wp2_with fail
 have hcx:=Jy HC.out HP.out HQ.out (hf:=hf)
 rw [Hb1.out] at hcx
 refine hcx.mono ?_
 intro e v1 h
 obtain ⟨rfl,hb⟩:=bU h
 have HC:=ak (aD (aZ au) HC.out hb)
 have HP:=ak (aD aG HP.out hb)
 have HQ:=ak (aD aC HQ.out hb)
 have HN:=ak (aD aK HN.out hb)
 have HT:=ak (aD aA HT.out hb)
 have HU:=ak (aD aU HU.out hb)
 have X0:=ak (X0.out.call hb)
 have HB0:=ak (HB0.out.trans (hb.mono HB0.out.size))
 clear h hb hcx dB dA dz dx fU fT fQ fP
 obtain ⟨dB,dA,dz,dx,fU,fT,fQ,fP⟩:=X0.out.gy rfl
 cases b1 with
 | false=>
  have HV:=ak (show ¬(iq ((C,P,Q,hf),N,T,U,now)) from fun h=>by have h2:=kP.2 h.2.1;rw [Hb1.out] at h2;cases h2)
  go_wp2
  go_ret
  exact aB HV.out HB0.out
 | true=>
 by_cases hnl:N.length=C.length
 rotate_left
 ·have hne:((N.length:Int)==(C.length:Int))=false:=by simp;omega
  have HV:=ak (show ¬(iq ((C,P,Q,hf),N,T,U,now)) from fun h=>hnl h.2.2.2.1)
  go_wp2
  go_ret
  exact aB HV.out HB0.out
 have hne:((N.length:Int)==(C.length:Int))=true:=by simp;omega
 have XT:=ak hnl
 clear hnl
 go_wp2_with fail
 have hcx:=Hz HN.out
 rw [Hb2.out] at hcx
 refine hcx.mono ?_
 intro e v2 h
 obtain ⟨rfl,hb⟩:=bU h
 have HC:=ak (aD (aZ au) HC.out hb)
 have HP:=ak (aD aG HP.out hb)
 have HQ:=ak (aD aC HQ.out hb)
 have HN:=ak (aD aK HN.out hb)
 have HT:=ak (aD aA HT.out hb)
 have HU:=ak (aD aU HU.out hb)
 have X0:=ak (X0.out.call hb)
 have HB0:=ak (HB0.out.trans (hb.mono HB0.out.size))
 clear h hb hcx dB dA dz dx fU fT fQ fP
 obtain ⟨dB,dA,dz,dx,fU,fT,fQ,fP⟩:=X0.out.gy rfl
 cases b2 with
 | false=>
  have HV:=ak (show ¬(iq ((C,P,Q,hf),N,T,U,now)) from fun h=>by have h2:=gG.2 h.2.2.1;rw [Hb2.out] at h2;cases h2)
  go_wp2
  go_ret
  exact aB HV.out HB0.out
 | true=>
 go_wp2_with fail
 have hcx:=KJ HT.out
 rw [Hb4.out] at hcx
 refine hcx.mono ?_
 intro e v4 h
 obtain ⟨rfl,hb⟩:=bU h
 have HC:=ak (aD (aZ au) HC.out hb)
 have HP:=ak (aD aG HP.out hb)
 have HQ:=ak (aD aC HQ.out hb)
 have HN:=ak (aD aK HN.out hb)
 have HT:=ak (aD aA HT.out hb)
 have HU:=ak (aD aU HU.out hb)
 have X0:=ak (X0.out.call hb)
 have HB0:=ak (HB0.out.trans (hb.mono HB0.out.size))
 clear h hb hcx dB dA dz dx fU fT fQ fP
 obtain ⟨dB,dA,dz,dx,fU,fT,fQ,fP⟩:=X0.out.gy rfl
 cases b4 with
 | false=>
  have HV:=ak (show ¬(iq ((C,P,Q,hf),N,T,U,now)) from fun h=>by have h2:=jo.2 h.2.2.2.2.1;rw [Hb4.out] at h2;cases h2)
  go_wp2
  go_ret
  exact aB HV.out HB0.out
 | true=>
 go_wp2_with fail
 have hcx:=Qu HU.out
 rw [Hb5.out] at hcx
 refine hcx.mono ?_
 intro e v5 h
 obtain ⟨rfl,hb⟩:=bU h
 have HC:=ak (aD (aZ au) HC.out hb)
 have HP:=ak (aD aG HP.out hb)
 have HQ:=ak (aD aC HQ.out hb)
 have HN:=ak (aD aK HN.out hb)
 have HT:=ak (aD aA HT.out hb)
 have HU:=ak (aD aU HU.out hb)
 have X0:=ak (X0.out.call hb)
 have HB0:=ak (HB0.out.trans (hb.mono HB0.out.size))
 clear h hb hcx dB dA dz dx fU fT fQ fP
 obtain ⟨dB,dA,dz,dx,fU,fT,fQ,fP⟩:=X0.out.gy rfl
 cases b5 with
 | false=>
  have HV:=ak (show ¬(iq ((C,P,Q,hf),N,T,U,now)) from fun h=>by have h2:=lK.2 h.2.2.2.2.2.1;rw [Hb5.out] at h2;cases h2)
  go_wp2
  go_ret
  exact aB HV.out HB0.out
 | true=>
 go_wp2_with fail
 refine (OM _ Hb0.out _).mono ?_
 rintro e v6 ⟨rfl,rfl⟩
 cases b0 with
 | false=>
  have HV:=ak (show ¬(iq ((C,P,Q,hf),N,T,U,now)) from fun h=>by have h2:=h.1;rw [Hb0.out] at h2;cases h2)
  go_wp2
  go_ret
  exact aB HV.out HB0.out
 | true=>
 have lu:=ak (⟨Hb0.out,kP.1 Hb1.out,gG.1 Hb2.out,XT.out,jo.1 Hb4.out,lK.1 Hb5.out⟩:aa1 C P Q hf N T U now)
 have Kl:=(dG _ _ _).1 Hb0.out
 go_wp2_with fail
 refine (Dh (Ht lu.out.cfg).2 lu.out.JH Kl HC.out HT.out).mono ?_
 intro e v7 h
 obtain ⟨b,rfl,Cw,hb⟩:=bq h
 have HFB:=ak Cw
 have HC:=ak (aD (aZ au) HC.out hb)
 have HP:=ak (aD aG HP.out hb)
 have HQ:=ak (aD aC HQ.out hb)
 have HN:=ak (aD aK HN.out hb)
 have HT:=ak (aD aA HT.out hb)
 have HU:=ak (aD aU HU.out hb)
 have X0:=ak (X0.out.call hb)
 have HB0:=ak (HB0.out.trans (hb.mono HB0.out.size))
 clear h hb Cw dB dA dz dx fU fT fQ fP
 obtain ⟨dB,dA,dz,dx,fU,fT,fQ,fP⟩:=X0.out.gy rfl
 cases b with
 | false=>
  have HV:=ak (show ¬(iq ((C,P,Q,hf),N,T,U,now)) from fun h=>by have:=HFB.out.2 h.2.2.2.2.2.2.1;cases this)
  go_wp2
  go_ret
  exact aB HV.out HB0.out
 | true=>
 have Ad:=ak (HFB.out.1 rfl)
 go_wp2_with fail
 refine (Ct lu.out.cfg.1 lu.out.JH.1 HC.out HQ.out HT.out HU.out).mono ?_
 intro e v8 h
 obtain ⟨b,rfl,ME,hb⟩:=bq h
 have Pv:=ak (HB0.out.trans (hb.mono HB0.out.size))
 have HV:=ak (show b=true↔iq ((C,P,Q,hf),N,T,U,now) from ME.trans ⟨fun h=>⟨lu.out.now,lu.out.cfg,lu.out.nds,lu.out.len,lu.out.JH,lu.out.use,Ad.out,h.2,h.1⟩,fun h=>⟨(qG h),(Gg h).1⟩⟩)
 clear h hb ME
 go_wp2
 go_ret
 exact ⟨b,rfl,HV.out,Pv.out⟩
end
section
open Go.RowKit bN bO bJ bQ zI XM
def GJ (n:Nat)(a:Nat→Addr)(lo g:Nat)(f:dU)(w:World)(e:Ending)(w':World):Prop:=
 Below lo w w'∧((f.2.2=0∧e=.returned .nilIface∧Ph lo w' g f.1 f.2.1)∨∃ k s,k<n∧f=jw (uf k)∧e=.returned (Gd s (a k)))
theorem uV {n:Nat}{a:Nat→Addr}{lo g:Nat}{f:dU}{w:World}{e:Ending}{w':World}(h:GJ n a lo g f w e w'):Below lo w w'∧((f.2.2=0∧e=.returned .nilIface∧Ph lo w' g f.1 f.2.1)∨∃ k s,k<n∧f=jw (uf k)∧e=.returned (Gd s (a k))):=h
noncomputable def xL (y:dF)(f:dU):dU:=if vR y=true then f else jw 1
theorem Bu {y:dF}{f:dU}(h:vR y=true):xL y f=f:=if_pos h
theorem EZ {y:dF}{f:dU}(h:vR y=false):xL y f=jw 1:=if_neg (by rw [h];decide)
theorem aO.lowb {w w':World}{b lo:Nat}{T:TypeId}{cs:Array Value}(h:aO w b T cs)(hl:b<lo)(hb:Below lo w w'):aO w' b T cs:=(hb.block b hl).trans h
theorem JD {n F:Nat}{a:Nat→Addr}{lb:Array Value}{f:dU}{C:List (List ay)}{P:List bA}{Q:List aX}{hf:Int}{ca pa qa:Option Addr}{cc pc qc:Nat}{N:List aP}{T:List aF}{U:List bI}{now:Int}{na ta ua:Option Addr}{nc tc uc:Nat}{W:World}(eg:∀ args w,(callFunc F args).run Tryz.prog w=.ok (.enter F args) w)(h6:6≤n)(hD:oN n W a)
 (hF:iq ((C,P,Q,hf),N,T,U,now)→∀ (w:World) (g lo:Nat),oN n w a→Below W.heap.size W w→W.heap.size≤lo→Ph lo w g ((C,P,Q,hf),N,T,U,now) 0→Calls Tryz.prog F (#[.pointer (some ⟨g,0,none⟩)]++lb) w (GJ n a lo g f w))
 (hq:Q.length≤1048576) (hts:(Sl aI).sz T≤1048576) (hC:aJ (Sl av) W W.heap.size C ca cc) (hP:aJ aT W W.heap.size P pa pc) (hQ:aJ aN W W.heap.size Q qa qc) (hN:aJ aL W W.heap.size N na nc) (hT:aJ aI W W.heap.size T ta tc) (hU:aJ bC W W.heap.size U ua uc) :
 Calls Tryz.prog 36 #[.agg #[.slice ca C.length cc,.slice pa P.length pc,.slice qa Q.length qc,.int .i64 hf,.slice na N.length nc,.slice ta T.length tc,.slice ua U.length uc,.int .i64 now],.func (.func F) #[] lb] W (kT cB (xL ((C,P,Q,hf),N,T,U,now) f) W):=by
 obtain ⟨DR,hDR⟩:∃ d,xL ((C,P,Q,hf),N,T,U,now) f=d:=⟨_,rfl⟩
 have HDR:=ak hDR
 rw [hDR]
 clear hDR
 obtain ⟨z,hz⟩:∃ z,vR ((C,P,Q,hf),N,T,U,now)=z:=⟨_,rfl⟩
 have HZ:=ak hz
 clear hz
 have HEG:=ak eg
 have HFF:=ak hF
 have XU:=ak hD
 have JU:=ak hC
 have FM:=ak hP
 have JQ:=ak hQ
 have JR:=ak hN
 have MW:=ak hT
 have MV:=ak hU
 clear eg hF hD hC hP hQ hN hT hU
 obtain ⟨w0,hw0⟩:∃ w,w=(W.alloc (.cells #[.slice ca C.length cc,.slice pa P.length pc,.slice qa Q.length qc,.int .i64 hf,.slice na N.length nc,.slice ta T.length tc,.slice ua U.length uc,.int .i64 now] 44)).alloc (.cells #[.slice none 0 0,.slice none 0 0,.slice none 0 0,.int .i64 0,.slice none 0 0,.slice none 0 0,.slice none 0 0,.int .i64 0,.int .i64 0,.int .i64 0] 46):=⟨_,rfl⟩
 have hb0:Below W.heap.size W w0:=by rw [hw0];exact ((aW _ _).alloc (bK _) _).alloc (by simp) _
 have kW:aO w0 (W.heap.size) 44 #[.slice ca C.length cc,.slice pa P.length pc,.slice qa Q.length qc,.int .i64 hf,.slice na N.length nc,.slice ta T.length tc,.slice ua U.length uc,.int .i64 now]:=by
  have h9:=aO.new W 44 #[.slice ca C.length cc,.slice pa P.length pc,.slice qa Q.length qc,.int .i64 hf,.slice na N.length nc,.slice ta T.length tc,.slice ua U.length uc,.int .i64 now]
  try simp only [World.size_alloc] at h9
  rw [hw0];exact (h9.alloc _)
 have X0:=ak kW
 have qH:aO w0 (W.heap.size+1) 46 #[.slice none 0 0,.slice none 0 0,.slice none 0 0,.int .i64 0,.slice none 0 0,.slice none 0 0,.slice none 0 0,.int .i64 0,.int .i64 0,.int .i64 0]:=by
  have h9:=aO.new (W.alloc (.cells #[.slice ca C.length cc,.slice pa P.length pc,.slice qa Q.length qc,.int .i64 hf,.slice na N.length nc,.slice ta T.length tc,.slice ua U.length uc,.int .i64 now] 44)) 46 #[.slice none 0 0,.slice none 0 0,.slice none 0 0,.int .i64 0,.slice none 0 0,.slice none 0 0,.slice none 0 0,.int .i64 0,.int .i64 0,.int .i64 0]
  try simp only [World.size_alloc] at h9
  rw [hw0];exact h9
 have X1:=ak qH
 have HB0:=ak hb0
 have hz0:=hb0.size
 clear hb0  kW qH
 have hs0:w0.heap.size=W.heap.size+1+1:=by rw [hw0];simp
 go_enter Tryz.func36,Tryz.ntmps36
 go_upto_region 1 with fail
 rw [←hw0]
 clear hw0
 obtain ⟨dB,dA,dz,dx,fU,fT,fQ,fP⟩:=X0.out.gy rfl
 go_wp2_with fail
 refine (Qp (aD (aZ au) JU.out HB0.out) (aD aG FM.out HB0.out) (aD aC JQ.out HB0.out) (aD aK JR.out HB0.out) (aD aA MW.out HB0.out) (aD aU MV.out HB0.out) (hf:=hf) (now:=now)).mono ?_
 intro e w1 h
 obtain ⟨b,rfl,hbz,hb⟩:=bq h
 obtain rfl:b=z:=by
  have h1:=HZ.out
  have h2:=rW (y:=((C,P,Q,hf),N,T,U,now))
  cases b <;> cases z <;> simp_all
 have HB1:=ak (HB0.out.trans (hb.mono hz0))
 have Y0:=ak (X0.out.call hb)
 have Y1:=ak (X1.out.call hb)
 have hz1:w0.heap.size≤w1.heap.size:=hb.size
 clear h hb hbz X0 X1 dB dA dz dx fU fT fQ fP
 cases b with
 | false=>
  obtain rfl:DR=jw 1:=HDR.out.symm.trans (EZ HZ.out)
  obtain ⟨q0,q1,q2,q3,q4,q5,q6,q7,q8,q9⟩:=Y1.out.ji rfl
  obtain ⟨f0,f1,f2,f3,f4,f5,f6,f7,f8,f9⟩:=Y1.out.Au
  have HST:=ak (iP w1 (W.heap.size+1) (.slice none 0 0) (.slice none 0 0) (.slice none 0 0) (.int .i64 0) (.slice none 0 0) (.slice none 0 0) (.slice none 0 0) (.int .i64 0) (.int .i64 0) (.int .i64 1))
  have rM:=ak (iQ (w:=w1) (g:=W.heap.size+1) (v0:=.slice none 0 0) (v1:=.slice none 0 0) (v2:=.slice none 0 0) (v3:=.int .i64 0) (v4:=.slice none 0 0) (v5:=.slice none 0 0) (v6:=.slice none 0 0) (v7:=.int .i64 0) (v8:=.int .i64 0) (v9:=.int .i64 1) Y1.out)
  have uK:=ak (jA HB1.out HST.out (fun k hk=>by rw [hk];omega) HB1.out.size)
  obtain ⟨r0,r1,r2,r3,r4,r5,r6,r7,r8,r9⟩:=rM.out.ji rfl
  go_wp2
  refine qC (v:=.agg #[.slice none 0 0,.slice none 0 0,.slice none 0 0,.int .i64 0,.slice none 0 0,.slice none 0 0,.slice none 0 0,.int .i64 0,.int .i64 0,.int .i64 1]) (by simp [results,Tryz.results36,go_sem, *]) rfl ⟨[.slice none 0 0,.slice none 0 0,.slice none 0 0,.int .i64 0,.slice none 0 0,.slice none 0 0,.slice none 0 0,.int .i64 0,.int .i64 0,.int .i64 1],rfl,mk_zero 1,uK.out⟩
 | true=>
 obtain rfl:f=DR:=((HDR.out.symm.trans (Bu HZ.out))).symm
 have XO:=ak (rW.1 HZ.out)
 obtain ⟨TB,TA,Tz,Tx,Tw,Tv,Tt,Tq⟩:=Y0.out.gy rfl
 go_wp2_with fail
 refine (IV XO.out hq hts (aD (aZ au) JU.out HB1.out) (aD aG FM.out HB1.out) (aD aC JQ.out HB1.out) (aD aK JR.out HB1.out) (aD aA MW.out HB1.out) (aD aU MV.out HB1.out)).mono ?_
 intro e w2 h
 obtain ⟨g,rfl,hwk,hb⟩:=Vr h
 have HB2:=ak (HB1.out.trans (hb.mono HB1.out.size))
 have Y1:=ak (Y1.out.call hb)
 have HWK:=ak hwk
 have hcl:=HFF.out XO.out w2 g (w1.heap.size+1) (XU.out.mv HB2.out) HB2.out (by omega) hwk
 have MZ:=ak hcl
 have eg:=HEG.out
 clear h hb hwk hcl TB TA Tz Tx Tw Tv Tt Tq
 go_wp2_with fail
 refine MZ.out.mono ?_
 intro e w3 h
 obtain ⟨hb,h⟩:=uV h
 have HB3:=ak (HB2.out.trans (hb.mono (show W.heap.size≤w1.heap.size+1 by omega)))
 have Y1:=ak (aO.lowb Y1.out (show W.heap.size+1<w1.heap.size+1 by omega) hb)
 clear hb eg MZ HWK
 rcases h with ⟨h0,rfl,hwk⟩ | ⟨k,s,hk,hfk,rfl⟩
 ·clear HFF HDR HZ XO
  revert h0 hwk
  obtain ⟨⟨⟨C2,P2,Q2,hf2⟩,N2,T2,U2,Af⟩,id2,k2⟩:=f
  intro h0 hwk
  obtain rfl:k2=0:=h0
  obtain ⟨ca2,pa2,qa2,JL,ta2,ua2,cc2,pc2,qc2,JK,tc2,uc2,c0,c1,n0,n1,t0,t1,u0,u1,hbk,hpt⟩:=hwk
  have HK3:=ak hbk
  have HPT:=ak hpt
  have hgl:=hpt.apart.1
  have hgs:=hpt.apart.2.1
  clear hbk hpt
  go_upto_region 7 with fail
  refine wp_region_noPanic ?_
  refine dX (S:=(fun V=>Below W.heap.size W V∧aO V g 133 #[.slice ca2 C2.length cc2,.slice pa2 P2.length pc2,.slice qa2 Q2.length qc2,.int .i64 hf2,.slice JL N2.length JK,.slice ta2 T2.length tc2,.slice ua2 U2.length uc2,.int .i64 Af,.int .i64 id2]∧∃ cs,aO V (W.heap.size+1) 46 cs)) (by kernel_rfl) (⟨HB3.out.drew,HK3.out.call (aW _ w3).drew,⟨_,Y1.out.call (aW _ w3).drew⟩⟩) (fun ah=>?_)
  obtain ⟨wd,hwd⟩:∃ x,x=w3.drew:=⟨_,rfl⟩
  have hbd:Below w3.heap.size w3 wd:=by rw [hwd];exact (aW _ w3).drew
  have YD:=ak (Y1.out.call hbd)
  have HPD:=ak (HPT.out.call hbd)
  have hdz:wd.heap.size=w3.heap.size:=by rw [hwd];rfl
  rw [←hwd] at ah ⊢
  clear hwd hbd Y1 HPT
  refine tk 0 ah ?_
  refine tk 1 ah ?_
  refine tk 2 ah ?_
  refine tk 3 ah ?_ (hy:=fun w aj=>by (try dsimp only at aj);have k0:=aj.2.1.at_ 0 rfl;have k1:=aj.2.1.at_ 1 rfl;have k2:=aj.2.1.at_ 2 rfl;have k3:=aj.2.1.at_ 3 rfl;have k4:=aj.2.1.at_ 4 rfl;have k5:=aj.2.1.at_ 5 rfl;have k6:=aj.2.1.at_ 6 rfl;have k7:=aj.2.1.at_ 7 rfl;clear aj;go_simp;try with_reducible rfl)
  refine tk 4 ah ?_
  refine tk 5 ah ?_
  refine tk 6 ah ?_
  refine tk 7 ah ?_ (hy:=fun w aj=>by (try dsimp only at aj);have k0:=aj.2.1.at_ 8 rfl;clear aj;go_simp;try with_reducible rfl)
  refine tk 8 ah ?_
  refine dw 9 (fun K hK=>?_)
  obtain ⟨q0,q1,q2,q3,q4,q5,q6,q7,q8,q9⟩:=YD.out.ji rfl
  obtain ⟨f0,f1,f2,f3,f4,f5,f6,f7,f8,f9⟩:=YD.out.Au
  go_simp
  have HST:=ak (iP wd (W.heap.size+1) (.slice ca2 C2.length cc2) (.slice pa2 P2.length pc2) (.slice qa2 Q2.length qc2) (.int .i64 hf2) (.slice JL N2.length JK) (.slice ta2 T2.length tc2) (.slice ua2 U2.length uc2) (.int .i64 Af) (.int .i64 id2) (.int .i64 0))
  have rM:=ak (iQ (w:=wd) (g:=W.heap.size+1) (v0:=.slice ca2 C2.length cc2) (v1:=.slice pa2 P2.length pc2) (v2:=.slice qa2 Q2.length qc2) (v3:=.int .i64 hf2) (v4:=.slice JL N2.length JK) (v5:=.slice ta2 T2.length tc2) (v6:=.slice ua2 U2.length uc2) (v7:=.int .i64 Af) (v8:=.int .i64 id2) (v9:=.int .i64 0) YD.out)
  refine hK.out _ _ ⟨jA ah.1 HST.out (fun k hk=>by rw [hk];omega) ah.1.size,aO.off ah.2.1 HST.out ah.2.1.lt (by omega),⟨_,rM.out⟩⟩ (fun ah=>?_)
  clear hK K q0 f0 q1 f1 q2 f2 q3 f3 q4 f4 q5 f5 q6 f6 q7 f7 q8 f8 q9 f9
  refine dQ ?_
  refine NoPanic.normal ?_
  have uK:=ak ah.1
  clear ah
  obtain ⟨r0,r1,r2,r3,r4,r5,r6,r7,r8,r9⟩:=rM.out.ji rfl
  go_wp2
  refine qC (v:=.agg #[.slice ca2 C2.length cc2,.slice pa2 P2.length pc2,.slice qa2 Q2.length qc2,.int .i64 hf2,.slice JL N2.length JK,.slice ta2 T2.length tc2,.slice ua2 U2.length uc2,.int .i64 Af,.int .i64 id2,.int .i64 0]) (by simp [results,Tryz.results36,go_sem, *]) rfl ⟨[.slice ca2 C2.length cc2,.slice pa2 P2.length pc2,.slice qa2 Q2.length qc2,.int .i64 hf2,.slice JL N2.length JK,.slice ta2 T2.length tc2,.slice ua2 U2.length uc2,.int .i64 Af,.int .i64 id2,.int .i64 0],rfl,?_,uK.out⟩
  exact KA (cs:=[.slice ca2 C2.length cc2,.slice pa2 P2.length pc2,.slice qa2 Q2.length qc2,.int .i64 hf2,.slice JL N2.length JK,.slice ta2 T2.length tc2,.slice ua2 U2.length uc2,.int .i64 Af]) (HPD.out.out (W:=W) (by omega) (by omega) HST.out)
 ·have HFK:=ak hfk
  clear hfk
  go_wp2_with fail
  refine (Fp ((XU.out.mv HB3.out).sen) h6 hk s).mono ?_
  rintro e w4 ⟨rfl,hb⟩
  have jL:=ak (HB3.out.trans (hb.mono HB3.out.size))
  have Y4:=ak (Y1.out.call hb)
  clear hb Y1
  obtain ⟨c,hc⟩:∃ c,uf k=c:=⟨_,rfl⟩
  rw [hc]
  have HFC:=ak (HFK.out.trans (congrArg jw hc))
  clear hc HFK
  obtain ⟨q0,q1,q2,q3,q4,q5,q6,q7,q8,q9⟩:=Y4.out.ji rfl
  obtain ⟨f0,f1,f2,f3,f4,f5,f6,f7,f8,f9⟩:=Y4.out.Au
  have HST:=ak (iP w4 (W.heap.size+1) (.slice none 0 0) (.slice none 0 0) (.slice none 0 0) (.int .i64 0) (.slice none 0 0) (.slice none 0 0) (.slice none 0 0) (.int .i64 0) (.int .i64 0) (.int .i64 c))
  have rM:=ak (iQ (w:=w4) (g:=W.heap.size+1) (v0:=.slice none 0 0) (v1:=.slice none 0 0) (v2:=.slice none 0 0) (v3:=.int .i64 0) (v4:=.slice none 0 0) (v5:=.slice none 0 0) (v6:=.slice none 0 0) (v7:=.int .i64 0) (v8:=.int .i64 0) (v9:=.int .i64 c) Y4.out)
  have uK:=ak (jA jL.out HST.out (fun k hk=>by rw [hk];omega) jL.out.size)
  obtain ⟨r0,r1,r2,r3,r4,r5,r6,r7,r8,r9⟩:=rM.out.ji rfl
  go_wp2
  refine qC (v:=.agg #[.slice none 0 0,.slice none 0 0,.slice none 0 0,.int .i64 0,.slice none 0 0,.slice none 0 0,.slice none 0 0,.int .i64 0,.int .i64 0,.int .i64 c]) (by simp [results,Tryz.results36,go_sem, *]) rfl ⟨[.slice none 0 0,.slice none 0 0,.slice none 0 0,.int .i64 0,.slice none 0 0,.slice none 0 0,.slice none 0 0,.int .i64 0,.int .i64 0,.int .i64 c],rfl,by rw [HFC.out];exact mk_zero c,uK.out⟩
end
end aQ
end Go.Proofs.YtlhfiapfncikdaaGreatDoor
