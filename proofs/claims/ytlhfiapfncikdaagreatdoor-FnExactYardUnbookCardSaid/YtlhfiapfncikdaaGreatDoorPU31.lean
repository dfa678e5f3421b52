import Derived.Test.YtlhfiapfncikdaaGreatDoorPU24
import Derived.Test.YtlhfiapfncikdaaGreatDoorPU30
set_option linter.unusedVariables false
set_option linter.unusedSimpArgs false
set_option maxRecDepth 100000
set_option maxHeartbeats 3200000
namespace Go.Proofs.YtlhfiapfncikdaaGreatDoor.aP
section
open Go.RowKit bN bP bJ bM fT Cx
theorem Co {C:List (List av)}{P:List bq}{Q:List aV}{hf:Int}{ca pa qa:Option Addr}{cc pc qc:Nat}{N:List aO}{T:List aG}{U:List bH}{now:Int}{na ta ua:Option Addr}{nc tc uc:Nat}{W:World}(hcl:iZ C)(h96:T.length≤96)(hC:aH (Sl au) W W.heap.size C ca cc)(hQ:aH aM W W.heap.size Q qa qc)(hT:aH aI W W.heap.size T ta tc)(hU:aH bD W W.heap.size U ua uc) :
 Calls Tryz.prog 136 #[.agg #[.slice ca C.length cc,.slice pa P.length pc,.slice qa Q.length qc,.int .i64 hf,.slice na N.length nc,.slice ta T.length tc,.slice ua U.length uc,.int .i64 now]] W (jh (oK C Q T∧xE C U) W):=by
 have hUn:U.length≤9223372036854775807:=by have h1:=hU.1;have h2:=hU.2.1;unfold maxLen at h2;omega
 obtain ⟨K,hK⟩:∃ K,iw C=K:=⟨_,rfl⟩
 have HKK:=aj hK
 have hKn:K.length≤32:=by rw [←hK];exact BN C 32
 clear hK
 obtain ⟨w0,hw0⟩:∃ w,w=W.alloc (.cells #[.slice ca C.length cc,.slice pa P.length pc,.slice qa Q.length qc,.int .i64 hf,.slice na N.length nc,.slice ta T.length tc,.slice ua U.length uc,.int .i64 now] 44):=⟨_,rfl⟩
 have hb0:Below W.heap.size W w0:=by rw [hw0];exact (aU _ _).alloc (bK _) _
 have kX:aN w0 (W.heap.size) 44 #[.slice ca C.length cc,.slice pa P.length pc,.slice qa Q.length qc,.int .i64 hf,.slice na N.length nc,.slice ta T.length tc,.slice ua U.length uc,.int .i64 now]:=by
  have h9:=aN.new W 44 #[.slice ca C.length cc,.slice pa P.length pc,.slice qa Q.length qc,.int .i64 hf,.slice na N.length nc,.slice ta T.length tc,.slice ua U.length uc,.int .i64 now]
  try simp only [World.size_alloc] at h9
  rw [hw0];exact h9
 have X0:=aj kX
 have HC:=aj (aC (aY ak) hC hb0)
 have HQ:=aj (aC aB hQ hb0)
 have HT:=aj (aC ay hT hb0)
 have HU:=aj (aC aT hU hb0)
 have HB0:=aj hb0
 have hz0:=hb0.size
 clear hb0 hC hQ hT hU kX
 go_enter Tryz.func136,Tryz.ntmps136
 go_upto_region 1 with fail
 rw [←hw0]
 clear hw0
 obtain ⟨dB,dA,dz,dx,fO,fM,fK,fJ⟩:=X0.out.fV rfl
 go_wp2_with fail
 have hlb:=DZ hcl HC.out
 rw [HKK.out] at hlb
 refine hlb.mono ?_
 intro e w1 h
 obtain ⟨la,lc,rfl,ho,hb⟩:=bI h
 have HL:=aj (ho.rd ak (B:=w1.heap.size) fun k hk=>hk.2)
 have HB1:=aj (HB0.out.trans (hb.mono hz0))
 have Z1:=aj (X0.out.call hb)
 have nk:=aj (aC aB HQ.out hb)
 have HT1:=aj (aC ay HT.out hb)
 have JL:=aj (aC aT HU.out hb)
 have hz1:=HB1.out.size
 clear h ho hlb hb dB dA dz dx fO fM fK fJ
 go_wp2
 go_loopw [14] (fun i wr=>∃ j:Nat,j≤K.length∧i=.int .i64 j∧Hid (∀ (q:Nat) a,q<j→K[q]? = some a→(fG T a T.length:Int)≤gH Q a)∧Below w1.heap.size w1 wr) (fun i _=>K.length-(intOf i).toNat)
 case atStart=>exact ⟨0,dX _,rfl,aj fun q u h=>absurd h (gT _),aU _ _⟩
 case round=>
  obtain ⟨i,hi,rfl,HQA,hB⟩:=hrel
  obtain ⟨wo,rfl⟩:∃ x,x=wr:=⟨_,rfl⟩
  have HB:=aj hB
  have hsz:=hB.size
  have uq:=aj (HB1.out.trans (hB.mono hz1))
  have Z2:=aj (Z1.out.call hB)
  by_cases hil:i<K.length
  ·have hdi:decide ((i:Int)<(K.length:Int))=true:=eO (by omega)
   obtain ⟨⟨l0,l1⟩,hl⟩:=aL hil
   have HX:=aj hl
   obtain ⟨gl,ol,usl,rfl,hgl,Ro,hrl⟩:=(aC ak HL.out hB).at_ hl
   obtain rfl:=gD hrl
   obtain ⟨e0,e1⟩:=mW (a:=ol+i*2) Ro rfl
   have hi0:(0:Int)≤(i:Int):=eu _
   have hi1:(i:Int)<(K.length:Int):=by omega
   obtain ⟨w2,hw2⟩:∃ w,w=wo.alloc (.cells #[.int .i64 l0,.int .i64 l1] 49):=⟨_,rfl⟩
   have hb2:Below wo.heap.size wo w2:=by rw [hw2];exact (aU _ _).alloc (bK _) _
   have Y2:=aj (show aN w2 wo.heap.size 49 #[.int .i64 l0,.int .i64 l1] from by rw [hw2];exact aN.new _ _ _)
   have Z3:=aj (Z2.out.call hb2)
   have HB2:=aj (HB.out.trans (hb2.mono hsz))
   have hsz2:=HB2.out.size
   have PS:=aj (uq.out.trans (hb2.mono uq.out.size))
   have wY:=aj (aC aB (aC aB nk.out hB) hb2)
   have HT2:=aj (aC ay (aC ay HT1.out hB) hb2)
   obtain ⟨n1,hn1⟩:∃ n,fG T (l0,l1) T.length=n:=⟨_,rfl⟩
   obtain ⟨n2,hn2⟩:∃ n,gH Q (l0,l1)=n:=⟨_,rfl⟩
   have HN1:=aj hn1
   have OQ:=aj hn2
   obtain ⟨c,hc⟩:∃ c,decide (n2<(n1:Int))=c:=⟨_,rfl⟩
   clear hB hl Ro hgl hb2 hn1 hn2
   go_upto_region 5 with fail
   rw [←hw2]
   clear hw2 e0 e1
   refine dW (S:=(fun V=>Below (w2).heap.size (w2) V)) (by kernel_rfl) ((aU _ _).drew) (fun ah=>?_)
   refine tk 0 ah ?_
   refine tk 1 ah ?_ (hy:=fun w hSw=>by (try dsimp only at hSw);have k0:=Z3.out.hat hSw 5 rfl;clear hSw;go_simp;try with_reducible rfl)
   refine tk 2 ah ?_ (hy:=fun w hSw=>by (try dsimp only at hSw);have k0:=Y2.out.hat hSw 0 rfl;have k1:=Y2.out.hat hSw 1 rfl;clear hSw;go_simp;try with_reducible rfl)
   refine tk 4 ah ?_
   refine tk 5 ah ?_ (hy:=fun w hSw=>by (try dsimp only at hSw);have k0:=Z3.out.hat hSw 0 rfl;have k1:=Z3.out.hat hSw 1 rfl;have k2:=Z3.out.hat hSw 2 rfl;have k3:=Z3.out.hat hSw 3 rfl;clear hSw;go_simp;try with_reducible rfl)
   refine tk 6 ah ?_ (hy:=fun w hSw=>by (try dsimp only at hSw);have k0:=Y2.out.hat hSw 0 rfl;have k1:=Y2.out.hat hSw 1 rfl;clear hSw;go_simp;try with_reducible rfl)
   refine cZ 3 (fun K hK=>?_)
   go_simp
   go_at_call 203
   have hlv:=I8 (l0:=l0) (l1:=l1) h96 (aC ay HT2.out ah)
   rw [HN1.out] at hlv
   refine hlv.mono ?_
   intro e w8 h
   obtain ⟨rfl,hb⟩:=iB h
   clear h hlv
   refine hK.out _ _ (ah.trans (hb.mono ah.size)) (fun ah=>?_)
   clear hK K hb
   refine cZ 7 (fun K hK=>?_)
   go_simp
   go_at_call 204
   have hqv:=Da (C:=C) (P:=P) (ca:=ca) (pa:=pa) (cc:=cc) (pc:=pc) (hf:=hf) (l:=l0) (s:=l1) (aC aB wY.out ah)
   rw [OQ.out] at hqv
   refine hqv.mono ?_
   intro e w9 h
   obtain ⟨rfl,hb⟩:=iB h
   clear h hqv
   refine hK.out _ _ (ah.trans (hb.mono ah.size)) (fun ah=>?_)
   clear hK K hb
   refine tk 8 ah ?_
   refine dQ ?_
   have HF:=aj ah
   clear ah
   have OW:=aj (HB2.out.trans (HF.out.mono hsz2))
   have HBW8:=aj (PS.out.trans (HF.out.mono PS.out.size))
   clear HF
   cases c with
   | true=>
    have HV:=aj (show ¬(oK C Q T∧xE C U) from fun h=>by have h2:=h.1 i (l0,l1) (by rw [HKK.out];exact HX.out);rw [HN1.out,OQ.out] at h2;have:=of_decide_eq_true hc;omega)
    go_wp2
    go_ret
    exact aA HV.out HBW8.out
   | false=>
    have HQA2:=aj (show ∀ (q:Nat) a,q<i+1→K[q]? = some a→(fG T a T.length:Int)≤gH Q a from fun q a hq ha=>by
     by_cases e:q=i
     ·subst e;rw [HX.out] at ha;cases ha;rw [HN1.out,OQ.out];have:=of_decide_eq_false hc;omega
     ·exact HQA.out q a (by omega) ha)
    clear hc
    go_wp2
    go_roundw
    case rel=>exact ⟨i+1,by omega,by go_num,HQA2,OW.out⟩
    case measure=>simp [intOf];omega
  ·have hdi:decide ((i:Int)<(K.length:Int))=false:=dU (by omega)
   obtain rfl:i=K.length:=by omega
   have HQI:=aj (show oK C Q T from fun q a ha=>by rw [HKK.out] at ha;exact HQA.out q a (List.getElem?_eq_some_iff.1 ha).1 ha)
   have HU2:=aj (aC aT JL.out hB)
   have HL2:=aj (aC ak HL.out hB)
   have hzo:=uq.out.size
   clear hB
   have z6:=Z2.out.at_ 6 rfl
   go_wp2
   go_loopw [31] (fun i wr=>∃ j:Nat,j≤U.length∧i=.int .i64 j∧Hid (∀ (q:Nat) u,q<j→U[q]? = some u→u.1∈K)∧Below wo.heap.size wo wr) (fun i _=>U.length-(intOf i).toNat)
   case atStart=>exact ⟨0,dX _,rfl,aj fun q u h=>absurd h (gT _),aU _ _⟩
   case round=>
    obtain ⟨j,hj,rfl,HA,hB⟩:=hrel
    have HBj:=aj hB
    have hszj:=hB.size
    have Gf:=aj (uq.out.trans (hB.mono hzo))
    by_cases hjl:j<U.length
    ·have hdj:decide ((j:Int)<(U.length:Int))=true:=eO (by omega)
     obtain ⟨⟨⟨u0,u1⟩,u2,u3⟩,hu⟩:=aL hjl
     have HX2:=aj hu
     obtain ⟨gq,oq,usq,rfl,hgq,huq,hrq⟩:=(aC aT HU2.out hB).at_ hu
     obtain ⟨rfl,_⟩:=kD hrq
     obtain ⟨e0,e1,e2,e3⟩:=J7 (a:=oq+j*4) huq rfl
     have hj0:(0:Int)≤(j:Int):=eu _
     have hj1:(j:Int)<(U.length:Int):=by omega
     obtain ⟨w3,hw3⟩:∃ w,w=wr.alloc (.cells #[.int .i64 u0,.int .i64 u1,.string u2,.int .i64 u3] 128):=⟨_,rfl⟩
     have hb3:Below wr.heap.size wr w3:=by rw [hw3];exact (aU _ _).alloc (bK _) _
     have Y3:=aj (show aN w3 wr.heap.size 128 #[.int .i64 u0,.int .i64 u1,.string u2,.int .i64 u3] from by rw [hw3];exact aN.new _ _ _)
     have HB3:=aj (HBj.out.trans (hb3.mono hszj))
     have PO:=aj (Gf.out.trans (hb3.mono Gf.out.size))
     have HL3:=aj (aC ak (aC ak HL2.out hB) hb3)
     clear hB hu huq hgq hb3 z6
     go_upto_region 11 with fail
     rw [←hw3]
     clear hw3 e0 e1 e2 e3
     obtain ⟨y0,y1⟩:=Y3.out.kZ rfl
     go_wp2_with fail
     refine (iR HL3.out).mono ?_
     intro e w7 h
     obtain ⟨b,rfl,hb,hbl⟩:=bA h
     have HMB:=aj hb
     have rG:=aj (HB3.out.trans (hbl.mono HB3.out.size))
     have HBW7:=aj (PO.out.trans (hbl.mono PO.out.size))
     clear h hb hbl y0 y1
     cases b with
     | false=>
      have HV:=aj (show ¬(oK C Q T∧xE C U) from fun h=>by have h2:=h.2 _ _ HX2.out;rw [HKK.out] at h2;have:=HMB.out.2 h2;cases this)
      go_wp2
      go_ret
      exact aA HV.out HBW7.out
     | true=>
      have HA2:=aj (show ∀ (q:Nat) u,q<j+1→U[q]? = some u→u.1∈K from fun q u hq hu=>by
       by_cases e:q=j
       ·subst e;rw [HX2.out] at hu;cases hu;exact HMB.out.1 rfl
       ·exact HA.out q u (by omega) hu)
      go_wp2
      go_roundw
      case rel=>exact ⟨j+1,by omega,by go_num,HA2,rG.out⟩
      case measure=>simp [intOf];omega
    ·have hdj:decide ((j:Int)<(U.length:Int))=false:=dU (by omega)
     obtain rfl:j=U.length:=by omega
     clear hB z6
     have HV:=aj (show (oK C Q T∧xE C U) from ⟨HQI.out,fun i u hu=>by rw [HKK.out];exact HA.out i u (List.getElem?_eq_some_iff.1 hu).1 hu⟩)
     go_wp2
     go_ret
     exact bO HV.out Gf.out
theorem PV {C:List (List av)}{P:List bq}{Q:List aV}{hf:Int}{ca pa qa:Option Addr}{cc pc qc:Nat}{N:List aO}{T:List aG}{U:List bH}{now:Int}{na ta ua:Option Addr}{nc tc uc:Nat}{W:World}(hC:aH (Sl au) W W.heap.size C ca cc)(hP:aH aS W W.heap.size P pa pc)(hQ:aH aM W W.heap.size Q qa qc)(hN:aH aJ W W.heap.size N na nc)(hT:aH aI W W.heap.size T ta tc)(hU:aH bD W W.heap.size U ua uc) :
 Calls Tryz.prog 76 #[.agg #[.slice ca C.length cc,.slice pa P.length pc,.slice qa Q.length qc,.int .i64 hf,.slice na N.length nc,.slice ta T.length tc,.slice ua U.length uc,.int .i64 now]] W (jh (iq ((C,P,Q,hf),N,T,U,now)) W):=by
 have hNn:N.length≤9223372036854775807:=by have h1:=hN.1;have h2:=hN.2.1;unfold maxLen at h2;omega
 have hTn:T.length≤9223372036854775807:=by have h1:=hT.1;have h2:=hT.2.1;unfold maxLen at h2;omega
 have hUn:U.length≤9223372036854775807:=by have h1:=hU.1;have h2:=hU.2.1;unfold maxLen at h2;omega
 have hCn:C.length≤9223372036854775807:=by have h1:=hC.1;have h2:=hC.2.1;unfold maxLen at h2;omega
 obtain ⟨b0,hb0⟩:∃ b,dI now 0 999900=b:=⟨_,rfl⟩
 have Hb0:=aj hb0
 clear hb0
 obtain ⟨b1,hb1⟩:∃ b,CW C P Q hf=b:=⟨_,rfl⟩
 have Hb1:=aj hb1
 clear hb1
 obtain ⟨b2,hb2⟩:∃ b,iX N=b:=⟨_,rfl⟩
 have Hb2:=aj hb2
 clear hb2
 obtain ⟨b4,hb4⟩:∃ b,ou T=b:=⟨_,rfl⟩
 have Hb4:=aj hb4
 clear hb4
 obtain ⟨b5,hb5⟩:∃ b,Dj U=b:=⟨_,rfl⟩
 have Hb5:=aj hb5
 clear hb5
 obtain ⟨w0,hw0⟩:∃ w,w=W.alloc (.cells #[.slice ca C.length cc,.slice pa P.length pc,.slice qa Q.length qc,.int .i64 hf,.slice na N.length nc,.slice ta T.length tc,.slice ua U.length uc,.int .i64 now] 44):=⟨_,rfl⟩
 have hb0:Below W.heap.size W w0:=by rw [hw0];exact (aU _ _).alloc (bK _) _
 have kX:aN w0 (W.heap.size) 44 #[.slice ca C.length cc,.slice pa P.length pc,.slice qa Q.length qc,.int .i64 hf,.slice na N.length nc,.slice ta T.length tc,.slice ua U.length uc,.int .i64 now]:=by
  have h9:=aN.new W 44 #[.slice ca C.length cc,.slice pa P.length pc,.slice qa Q.length qc,.int .i64 hf,.slice na N.length nc,.slice ta T.length tc,.slice ua U.length uc,.int .i64 now]
  try simp only [World.size_alloc] at h9
  rw [hw0];exact h9
 have X0:=aj kX
 have HC:=aj (aC (aY ak) hC hb0)
 have HP:=aj (aC aD hP hb0)
 have HQ:=aj (aC aB hQ hb0)
 have HN:=aj (aC aK hN hb0)
 have HT:=aj (aC ay hT hb0)
 have HU:=aj (aC aT hU hb0)
 have HB0:=aj hb0
 have hz0:=hb0.size
 clear hb0 hC hP hQ hN hT hU kX
 go_enter Tryz.func76,Tryz.ntmps76
 go_upto_region 1 with fail
 rw [←hw0]
 clear hw0
 obtain ⟨dB,dA,dz,dx,fO,fM,fK,fJ⟩:=X0.out.fV rfl
 go_wp2_with fail
 have hcx:=Jj HC.out HP.out HQ.out (hf:=hf)
 rw [Hb1.out] at hcx
 refine hcx.mono ?_
 intro e v1 h
 obtain ⟨rfl,hb⟩:=bT h
 have HC:=aj (aC (aY ak) HC.out hb)
 have HP:=aj (aC aD HP.out hb)
 have HQ:=aj (aC aB HQ.out hb)
 have HN:=aj (aC aK HN.out hb)
 have HT:=aj (aC ay HT.out hb)
 have HU:=aj (aC aT HU.out hb)
 have X0:=aj (X0.out.call hb)
 have HB0:=aj (HB0.out.trans (hb.mono HB0.out.size))
 clear h hb hcx dB dA dz dx fO fM fK fJ
 obtain ⟨dB,dA,dz,dx,fO,fM,fK,fJ⟩:=X0.out.fV rfl
 cases b1 with
 | false=>
  have HV:=aj (show ¬(iq ((C,P,Q,hf),N,T,U,now)) from fun h=>by have h2:=kQ.2 h.2.1;rw [Hb1.out] at h2;cases h2)
  go_wp2
  go_ret
  exact aA HV.out HB0.out
 | true=>
 by_cases hnl:N.length=C.length
 rotate_left
 ·have hne:((N.length:Int)==(C.length:Int))=false:=by simp;omega
  have HV:=aj (show ¬(iq ((C,P,Q,hf),N,T,U,now)) from fun h=>hnl h.2.2.2.1)
  go_wp2
  go_ret
  exact aA HV.out HB0.out
 have hne:((N.length:Int)==(C.length:Int))=true:=by simp;omega
 have Xt:=aj hnl
 clear hnl
 go_wp2_with fail
 have hcx:=G6 HN.out
 rw [Hb2.out] at hcx
 refine hcx.mono ?_
 intro e v2 h
 obtain ⟨rfl,hb⟩:=bT h
 have HC:=aj (aC (aY ak) HC.out hb)
 have HP:=aj (aC aD HP.out hb)
 have HQ:=aj (aC aB HQ.out hb)
 have HN:=aj (aC aK HN.out hb)
 have HT:=aj (aC ay HT.out hb)
 have HU:=aj (aC aT HU.out hb)
 have X0:=aj (X0.out.call hb)
 have HB0:=aj (HB0.out.trans (hb.mono HB0.out.size))
 clear h hb hcx dB dA dz dx fO fM fK fJ
 obtain ⟨dB,dA,dz,dx,fO,fM,fK,fJ⟩:=X0.out.fV rfl
 cases b2 with
 | false=>
  have HV:=aj (show ¬(iq ((C,P,Q,hf),N,T,U,now)) from fun h=>by have h2:=gF.2 h.2.2.1;rw [Hb2.out] at h2;cases h2)
  go_wp2
  go_ret
  exact aA HV.out HB0.out
 | true=>
 go_wp2_with fail
 have hcx:=Kt HT.out
 rw [Hb4.out] at hcx
 refine hcx.mono ?_
 intro e v4 h
 obtain ⟨rfl,hb⟩:=bT h
 have HC:=aj (aC (aY ak) HC.out hb)
 have HP:=aj (aC aD HP.out hb)
 have HQ:=aj (aC aB HQ.out hb)
 have HN:=aj (aC aK HN.out hb)
 have HT:=aj (aC ay HT.out hb)
 have HU:=aj (aC aT HU.out hb)
 have X0:=aj (X0.out.call hb)
 have HB0:=aj (HB0.out.trans (hb.mono HB0.out.size))
 clear h hb hcx dB dA dz dx fO fM fK fJ
 obtain ⟨dB,dA,dz,dx,fO,fM,fK,fJ⟩:=X0.out.fV rfl
 cases b4 with
 | false=>
  have HV:=aj (show ¬(iq ((C,P,Q,hf),N,T,U,now)) from fun h=>by have h2:=jq.2 h.2.2.2.2.1;rw [Hb4.out] at h2;cases h2)
  go_wp2
  go_ret
  exact aA HV.out HB0.out
 | true=>
 go_wp2_with fail
 have hcx:=PZ HU.out
 rw [Hb5.out] at hcx
 refine hcx.mono ?_
 intro e v5 h
 obtain ⟨rfl,hb⟩:=bT h
 have HC:=aj (aC (aY ak) HC.out hb)
 have HP:=aj (aC aD HP.out hb)
 have HQ:=aj (aC aB HQ.out hb)
 have HN:=aj (aC aK HN.out hb)
 have HT:=aj (aC ay HT.out hb)
 have HU:=aj (aC aT HU.out hb)
 have X0:=aj (X0.out.call hb)
 have HB0:=aj (HB0.out.trans (hb.mono HB0.out.size))
 clear h hb hcx dB dA dz dx fO fM fK fJ
 obtain ⟨dB,dA,dz,dx,fO,fM,fK,fJ⟩:=X0.out.fV rfl
 cases b5 with
 | false=>
  have HV:=aj (show ¬(iq ((C,P,Q,hf),N,T,U,now)) from fun h=>by have h2:=lK.2 h.2.2.2.2.2.1;rw [Hb5.out] at h2;cases h2)
  go_wp2
  go_ret
  exact aA HV.out HB0.out
 | true=>
 go_wp2_with fail
 refine (Om _ Hb0.out _).mono ?_
 rintro e v6 ⟨rfl,rfl⟩
 cases b0 with
 | false=>
  have HV:=aj (show ¬(iq ((C,P,Q,hf),N,T,U,now)) from fun h=>by have h2:=h.1;rw [Hb0.out] at h2;cases h2)
  go_wp2
  go_ret
  exact aA HV.out HB0.out
 | true=>
 have lq:=aj (⟨Hb0.out,kQ.1 Hb1.out,gF.1 Hb2.out,Xt.out,jq.1 Hb4.out,lK.1 Hb5.out⟩:aaO C P Q hf N T U now)
 have J5:=(dG _ _ _).1 Hb0.out
 go_wp2_with fail
 refine (C8 (GX lq.out.cfg).2 lq.out.Rm J5 HC.out HT.out).mono ?_
 intro e v7 h
 obtain ⟨b,rfl,hb7,hb⟩:=bA h
 have HFB:=aj hb7
 have HC:=aj (aC (aY ak) HC.out hb)
 have HP:=aj (aC aD HP.out hb)
 have HQ:=aj (aC aB HQ.out hb)
 have HN:=aj (aC aK HN.out hb)
 have HT:=aj (aC ay HT.out hb)
 have HU:=aj (aC aT HU.out hb)
 have X0:=aj (X0.out.call hb)
 have HB0:=aj (HB0.out.trans (hb.mono HB0.out.size))
 clear h hb hb7 dB dA dz dx fO fM fK fJ
 obtain ⟨dB,dA,dz,dx,fO,fM,fK,fJ⟩:=X0.out.fV rfl
 cases b with
 | false=>
  have HV:=aj (show ¬(iq ((C,P,Q,hf),N,T,U,now)) from fun h=>by have:=HFB.out.2 h.2.2.2.2.2.2.1;cases this)
  go_wp2
  go_ret
  exact aA HV.out HB0.out
 | true=>
 have zV:=aj (HFB.out.1 rfl)
 go_wp2_with fail
 refine (Co lq.out.cfg.1 lq.out.Rm.1 HC.out HQ.out HT.out HU.out).mono ?_
 intro e v8 h
 obtain ⟨b,rfl,Ma,hb⟩:=bA h
 have OW:=aj (HB0.out.trans (hb.mono HB0.out.size))
 have HV:=aj (show b=true↔iq ((C,P,Q,hf),N,T,U,now) from Ma.trans ⟨fun h=>⟨lq.out.now,lq.out.cfg,lq.out.nds,lq.out.len,lq.out.Rm,lq.out.use,zV.out,h.2,h.1⟩,fun h=>⟨(o7 h),(Er h).1⟩⟩)
 clear h hb Ma
 go_wp2
 go_ret
 exact ⟨b,rfl,HV.out,OW.out⟩
end
section
open Go.RowKit bN bP bJ bM xu Xe
def Dr (n:Nat)(a:Nat→Addr)(lo g:Nat)(f:dZ)(w:World)(e:Ending)(w':World):Prop:=
 Below lo w w'∧((f.2.2=0∧e=.returned .nilIface∧R3 lo w' g f.1 f.2.1)∨∃ k s,k<n∧f=jJ (Az k)∧e=.returned (FR s (a k)))
theorem uL {n:Nat}{a:Nat→Addr}{lo g:Nat}{f:dZ}{w:World}{e:Ending}{w':World}(h:Dr n a lo g f w e w'):Below lo w w'∧((f.2.2=0∧e=.returned .nilIface∧R3 lo w' g f.1 f.2.1)∨∃ k s,k<n∧f=jJ (Az k)∧e=.returned (FR s (a k))):=h
noncomputable def xq (y:dK)(f:dZ):dZ:=if vF y=true then f else jJ 1
theorem Bn {y:dK}{f:dZ}(h:vF y=true):xq y f=f:=if_pos h
theorem EP {y:dK}{f:dZ}(h:vF y=false):xq y f=jJ 1:=if_neg (by rw [h];decide)
theorem aN.lowb {w w':World}{b lo:Nat}{T:TypeId}{cs:Array Value}(h:aN w b T cs)(hl:b<lo)(hb:Below lo w w'):aN w' b T cs:=(hb.block b hl).trans h
theorem Jp {n F:Nat}{a:Nat→Addr}{lb:Array Value}{f:dZ}{C:List (List av)}{P:List bq}{Q:List aV}{hf:Int}{ca pa qa:Option Addr}{cc pc qc:Nat}{N:List aO}{T:List aG}{U:List bH}{now:Int}{na ta ua:Option Addr}{nc tc uc:Nat}{W:World}(eg:∀ args w,(callFunc F args).run Tryz.prog w=.ok (.enter F args) w)(h6:6≤n)(hD:oI n W a)
 (hF:iq ((C,P,Q,hf),N,T,U,now)→∀ (w:World) (g lo:Nat),oI n w a→Below W.heap.size W w→W.heap.size≤lo→R3 lo w g ((C,P,Q,hf),N,T,U,now) 0→Calls Tryz.prog F (#[.pointer (some ⟨g,0,none⟩)]++lb) w (Dr n a lo g f w))
 (hq:Q.length≤1048576) (hts:(Sl aI).sz T≤1048576) (hC:aH (Sl au) W W.heap.size C ca cc) (hP:aH aS W W.heap.size P pa pc) (hQ:aH aM W W.heap.size Q qa qc) (hN:aH aJ W W.heap.size N na nc) (hT:aH aI W W.heap.size T ta tc) (hU:aH bD W W.heap.size U ua uc) :
 Calls Tryz.prog 36 #[.agg #[.slice ca C.length cc,.slice pa P.length pc,.slice qa Q.length qc,.int .i64 hf,.slice na N.length nc,.slice ta T.length tc,.slice ua U.length uc,.int .i64 now],.func (.func F) #[] lb] W (kU cu (xq ((C,P,Q,hf),N,T,U,now) f) W):=by
 obtain ⟨DR,hDR⟩:∃ d,xq ((C,P,Q,hf),N,T,U,now) f=d:=⟨_,rfl⟩
 have HDR:=aj hDR
 rw [hDR]
 clear hDR
 obtain ⟨z,hz⟩:∃ z,vF ((C,P,Q,hf),N,T,U,now)=z:=⟨_,rfl⟩
 have HZ:=aj hz
 clear hz
 have HEG:=aj eg
 have HFF:=aj hF
 have Xu:=aj hD
 have JE:=aj hC
 have FC:=aj hP
 have JB:=aj hQ
 have JD:=aj hN
 have Mw:=aj hT
 have Mv:=aj hU
 clear eg hF hD hC hP hQ hN hT hU
 obtain ⟨w0,hw0⟩:∃ w,w=(W.alloc (.cells #[.slice ca C.length cc,.slice pa P.length pc,.slice qa Q.length qc,.int .i64 hf,.slice na N.length nc,.slice ta T.length tc,.slice ua U.length uc,.int .i64 now] 44)).alloc (.cells #[.slice none 0 0,.slice none 0 0,.slice none 0 0,.int .i64 0,.slice none 0 0,.slice none 0 0,.slice none 0 0,.int .i64 0,.int .i64 0,.int .i64 0] 46):=⟨_,rfl⟩
 have hb0:Below W.heap.size W w0:=by rw [hw0];exact ((aU _ _).alloc (bK _) _).alloc (by simp) _
 have kX:aN w0 (W.heap.size) 44 #[.slice ca C.length cc,.slice pa P.length pc,.slice qa Q.length qc,.int .i64 hf,.slice na N.length nc,.slice ta T.length tc,.slice ua U.length uc,.int .i64 now]:=by
  have h9:=aN.new W 44 #[.slice ca C.length cc,.slice pa P.length pc,.slice qa Q.length qc,.int .i64 hf,.slice na N.length nc,.slice ta T.length tc,.slice ua U.length uc,.int .i64 now]
  try simp only [World.size_alloc] at h9
  rw [hw0];exact (h9.alloc _)
 have X0:=aj kX
 have qE:aN w0 (W.heap.size+1) 46 #[.slice none 0 0,.slice none 0 0,.slice none 0 0,.int .i64 0,.slice none 0 0,.slice none 0 0,.slice none 0 0,.int .i64 0,.int .i64 0,.int .i64 0]:=by
  have h9:=aN.new (W.alloc (.cells #[.slice ca C.length cc,.slice pa P.length pc,.slice qa Q.length qc,.int .i64 hf,.slice na N.length nc,.slice ta T.length tc,.slice ua U.length uc,.int .i64 now] 44)) 46 #[.slice none 0 0,.slice none 0 0,.slice none 0 0,.int .i64 0,.slice none 0 0,.slice none 0 0,.slice none 0 0,.int .i64 0,.int .i64 0,.int .i64 0]
  try simp only [World.size_alloc] at h9
  rw [hw0];exact h9
 have X1:=aj qE
 have HB0:=aj hb0
 have hz0:=hb0.size
 clear hb0  kX qE
 have hs0:w0.heap.size=W.heap.size+1+1:=by rw [hw0];simp
 go_enter Tryz.func36,Tryz.ntmps36
 go_upto_region 1 with fail
 rw [←hw0]
 clear hw0
 obtain ⟨dB,dA,dz,dx,fO,fM,fK,fJ⟩:=X0.out.fV rfl
 go_wp2_with fail
 refine (PV (aC (aY ak) JE.out HB0.out) (aC aD FC.out HB0.out) (aC aB JB.out HB0.out) (aC aK JD.out HB0.out) (aC ay Mw.out HB0.out) (aC aT Mv.out HB0.out) (hf:=hf) (now:=now)).mono ?_
 intro e w1 h
 obtain ⟨b,rfl,hbz,hb⟩:=bA h
 obtain rfl:b=z:=by
  have h1:=HZ.out
  have h2:=rM (y:=((C,P,Q,hf),N,T,U,now))
  cases b <;> cases z <;> simp_all
 have HB1:=aj (HB0.out.trans (hb.mono hz0))
 have Y0:=aj (X0.out.call hb)
 have Y1:=aj (X1.out.call hb)
 have hz1:w0.heap.size≤w1.heap.size:=hb.size
 clear h hb hbz X0 X1 dB dA dz dx fO fM fK fJ
 cases b with
 | false=>
  obtain rfl:DR=jJ 1:=HDR.out.symm.trans (EP HZ.out)
  obtain ⟨q0,q1,q2,q3,q4,q5,q6,q7,q8,q9⟩:=Y1.out.jk rfl
  obtain ⟨f0,f1,f2,f3,f4,f5,f6,f7,f8,f9⟩:=Y1.out.Aj
  have HST:=aj (iP w1 (W.heap.size+1) (.slice none 0 0) (.slice none 0 0) (.slice none 0 0) (.int .i64 0) (.slice none 0 0) (.slice none 0 0) (.slice none 0 0) (.int .i64 0) (.int .i64 0) (.int .i64 1))
  have rD:=aj (iQ (w:=w1) (g:=W.heap.size+1) (v0:=.slice none 0 0) (v1:=.slice none 0 0) (v2:=.slice none 0 0) (v3:=.int .i64 0) (v4:=.slice none 0 0) (v5:=.slice none 0 0) (v6:=.slice none 0 0) (v7:=.int .i64 0) (v8:=.int .i64 0) (v9:=.int .i64 1) Y1.out)
  have uw:=aj (jA HB1.out HST.out (fun k hk=>by rw [hk];omega) HB1.out.size)
  obtain ⟨r0,r1,r2,r3,r4,r5,r6,r7,r8,r9⟩:=rD.out.jk rfl
  go_wp2
  refine qA (v:=.agg #[.slice none 0 0,.slice none 0 0,.slice none 0 0,.int .i64 0,.slice none 0 0,.slice none 0 0,.slice none 0 0,.int .i64 0,.int .i64 0,.int .i64 1]) (by simp [results,Tryz.results36,go_sem, *]) rfl ⟨[.slice none 0 0,.slice none 0 0,.slice none 0 0,.int .i64 0,.slice none 0 0,.slice none 0 0,.slice none 0 0,.int .i64 0,.int .i64 0,.int .i64 1],rfl,mk_zero 1,uw.out⟩
 | true=>
 obtain rfl:f=DR:=((HDR.out.symm.trans (Bn HZ.out))).symm
 have HYR:=aj (rM.1 HZ.out)
 obtain ⟨Tf,Te,Td,Tc,Ta,S9,SY,SX⟩:=Y0.out.fV rfl
 go_wp2_with fail
 refine (Iu HYR.out hq hts (aC (aY ak) JE.out HB1.out) (aC aD FC.out HB1.out) (aC aB JB.out HB1.out) (aC aK JD.out HB1.out) (aC ay Mw.out HB1.out) (aC aT Mv.out HB1.out)).mono ?_
 intro e w2 h
 obtain ⟨g,rfl,hwk,hb⟩:=Va h
 have HB2:=aj (HB1.out.trans (hb.mono HB1.out.size))
 have Y1:=aj (Y1.out.call hb)
 have HWK:=aj hwk
 have hcl:=HFF.out HYR.out w2 g (w1.heap.size+1) (Xu.out.mv HB2.out) HB2.out (by omega) hwk
 have Mx:=aj hcl
 have eg:=HEG.out
 clear h hb hwk hcl Tf Te Td Tc Ta S9 SY SX
 go_wp2_with fail
 refine Mx.out.mono ?_
 intro e w3 h
 obtain ⟨hb,h⟩:=uL h
 have HB3:=aj (HB2.out.trans (hb.mono (show W.heap.size≤w1.heap.size+1 by omega)))
 have Y1:=aj (aN.lowb Y1.out (show W.heap.size+1<w1.heap.size+1 by omega) hb)
 clear hb eg Mx HWK
 rcases h with ⟨h0,rfl,hwk⟩ | ⟨k,s,hk,hfk,rfl⟩
 ·clear HFF HDR HZ HYR
  revert h0 hwk
  obtain ⟨⟨⟨C2,P2,Q2,hf2⟩,N2,T2,U2,zW⟩,id2,k2⟩:=f
  intro h0 hwk
  obtain rfl:k2=0:=h0
  obtain ⟨ca2,pa2,qa2,Jw,ta2,ua2,cc2,pc2,qc2,Jv,tc2,uc2,c0,c1,n0,n1,t0,t1,u0,u1,hbk,hpt⟩:=hwk
  have HK3:=aj hbk
  have HPT:=aj hpt
  have hgl:=hpt.apart.1
  have hgs:=hpt.apart.2.1
  clear hbk hpt
  go_upto_region 7 with fail
  refine wp_region_noPanic ?_
  refine dW (S:=(fun V=>Below W.heap.size W V∧aN V g 133 #[.slice ca2 C2.length cc2,.slice pa2 P2.length pc2,.slice qa2 Q2.length qc2,.int .i64 hf2,.slice Jw N2.length Jv,.slice ta2 T2.length tc2,.slice ua2 U2.length uc2,.int .i64 zW,.int .i64 id2]∧∃ cs,aN V (W.heap.size+1) 46 cs)) (by kernel_rfl) (⟨HB3.out.drew,HK3.out.call (aU _ w3).drew,⟨_,Y1.out.call (aU _ w3).drew⟩⟩) (fun ah=>?_)
  obtain ⟨wd,hwd⟩:∃ x,x=w3.drew:=⟨_,rfl⟩
  have hbd:Below w3.heap.size w3 wd:=by rw [hwd];exact (aU _ w3).drew
  have YD:=aj (Y1.out.call hbd)
  have HPD:=aj (HPT.out.call hbd)
  have hdz:wd.heap.size=w3.heap.size:=by rw [hwd];rfl
  rw [←hwd] at ah ⊢
  clear hwd hbd Y1 HPT
  refine tk 0 ah ?_
  refine tk 1 ah ?_
  refine tk 2 ah ?_
  refine tk 3 ah ?_ (hy:=fun w hSw=>by (try dsimp only at hSw);have k0:=hSw.2.1.at_ 0 rfl;have k1:=hSw.2.1.at_ 1 rfl;have k2:=hSw.2.1.at_ 2 rfl;have k3:=hSw.2.1.at_ 3 rfl;have k4:=hSw.2.1.at_ 4 rfl;have k5:=hSw.2.1.at_ 5 rfl;have k6:=hSw.2.1.at_ 6 rfl;have k7:=hSw.2.1.at_ 7 rfl;clear hSw;go_simp;try with_reducible rfl)
  refine tk 4 ah ?_
  refine tk 5 ah ?_
  refine tk 6 ah ?_
  refine tk 7 ah ?_ (hy:=fun w hSw=>by (try dsimp only at hSw);have k0:=hSw.2.1.at_ 8 rfl;clear hSw;go_simp;try with_reducible rfl)
  refine tk 8 ah ?_
  refine cZ 9 (fun K hK=>?_)
  obtain ⟨q0,q1,q2,q3,q4,q5,q6,q7,q8,q9⟩:=YD.out.jk rfl
  obtain ⟨f0,f1,f2,f3,f4,f5,f6,f7,f8,f9⟩:=YD.out.Aj
  go_simp
  have HST:=aj (iP wd (W.heap.size+1) (.slice ca2 C2.length cc2) (.slice pa2 P2.length pc2) (.slice qa2 Q2.length qc2) (.int .i64 hf2) (.slice Jw N2.length Jv) (.slice ta2 T2.length tc2) (.slice ua2 U2.length uc2) (.int .i64 zW) (.int .i64 id2) (.int .i64 0))
  have rD:=aj (iQ (w:=wd) (g:=W.heap.size+1) (v0:=.slice ca2 C2.length cc2) (v1:=.slice pa2 P2.length pc2) (v2:=.slice qa2 Q2.length qc2) (v3:=.int .i64 hf2) (v4:=.slice Jw N2.length Jv) (v5:=.slice ta2 T2.length tc2) (v6:=.slice ua2 U2.length uc2) (v7:=.int .i64 zW) (v8:=.int .i64 id2) (v9:=.int .i64 0) YD.out)
  refine hK.out _ _ ⟨jA ah.1 HST.out (fun k hk=>by rw [hk];omega) ah.1.size,aN.off ah.2.1 HST.out ah.2.1.lt (by omega),⟨_,rD.out⟩⟩ (fun ah=>?_)
  clear hK K q0 f0 q1 f1 q2 f2 q3 f3 q4 f4 q5 f5 q6 f6 q7 f7 q8 f8 q9 f9
  refine dQ ?_
  refine NoPanic.normal ?_
  have uw:=aj ah.1
  clear ah
  obtain ⟨r0,r1,r2,r3,r4,r5,r6,r7,r8,r9⟩:=rD.out.jk rfl
  go_wp2
  refine qA (v:=.agg #[.slice ca2 C2.length cc2,.slice pa2 P2.length pc2,.slice qa2 Q2.length qc2,.int .i64 hf2,.slice Jw N2.length Jv,.slice ta2 T2.length tc2,.slice ua2 U2.length uc2,.int .i64 zW,.int .i64 id2,.int .i64 0]) (by simp [results,Tryz.results36,go_sem, *]) rfl ⟨[.slice ca2 C2.length cc2,.slice pa2 P2.length pc2,.slice qa2 Q2.length qc2,.int .i64 hf2,.slice Jw N2.length Jv,.slice ta2 T2.length tc2,.slice ua2 U2.length uc2,.int .i64 zW,.int .i64 id2,.int .i64 0],rfl,?_,uw.out⟩
  exact Kk (cs:=[.slice ca2 C2.length cc2,.slice pa2 P2.length pc2,.slice qa2 Q2.length qc2,.int .i64 hf2,.slice Jw N2.length Jv,.slice ta2 T2.length tc2,.slice ua2 U2.length uc2,.int .i64 zW]) (HPD.out.out (W:=W) (by omega) (by omega) HST.out)
 ·have HFK:=aj hfk
  clear hfk
  go_wp2_with fail
  refine (EZ ((Xu.out.mv HB3.out).sen) h6 hk s).mono ?_
  rintro e w4 ⟨rfl,hb⟩
  have jU:=aj (HB3.out.trans (hb.mono HB3.out.size))
  have Y4:=aj (Y1.out.call hb)
  clear hb Y1
  obtain ⟨c,hc⟩:∃ c,Az k=c:=⟨_,rfl⟩
  rw [hc]
  have HFC:=aj (HFK.out.trans (congrArg jJ hc))
  clear hc HFK
  obtain ⟨q0,q1,q2,q3,q4,q5,q6,q7,q8,q9⟩:=Y4.out.jk rfl
  obtain ⟨f0,f1,f2,f3,f4,f5,f6,f7,f8,f9⟩:=Y4.out.Aj
  have HST:=aj (iP w4 (W.heap.size+1) (.slice none 0 0) (.slice none 0 0) (.slice none 0 0) (.int .i64 0) (.slice none 0 0) (.slice none 0 0) (.slice none 0 0) (.int .i64 0) (.int .i64 0) (.int .i64 c))
  have rD:=aj (iQ (w:=w4) (g:=W.heap.size+1) (v0:=.slice none 0 0) (v1:=.slice none 0 0) (v2:=.slice none 0 0) (v3:=.int .i64 0) (v4:=.slice none 0 0) (v5:=.slice none 0 0) (v6:=.slice none 0 0) (v7:=.int .i64 0) (v8:=.int .i64 0) (v9:=.int .i64 c) Y4.out)
  have uw:=aj (jA jU.out HST.out (fun k hk=>by rw [hk];omega) jU.out.size)
  obtain ⟨r0,r1,r2,r3,r4,r5,r6,r7,r8,r9⟩:=rD.out.jk rfl
  go_wp2
  refine qA (v:=.agg #[.slice none 0 0,.slice none 0 0,.slice none 0 0,.int .i64 0,.slice none 0 0,.slice none 0 0,.slice none 0 0,.int .i64 0,.int .i64 0,.int .i64 c]) (by simp [results,Tryz.results36,go_sem, *]) rfl ⟨[.slice none 0 0,.slice none 0 0,.slice none 0 0,.int .i64 0,.slice none 0 0,.slice none 0 0,.slice none 0 0,.int .i64 0,.int .i64 0,.int .i64 c],rfl,by rw [HFC.out];exact mk_zero c,uw.out⟩
end
end Go.Proofs.YtlhfiapfncikdaaGreatDoor.aP
