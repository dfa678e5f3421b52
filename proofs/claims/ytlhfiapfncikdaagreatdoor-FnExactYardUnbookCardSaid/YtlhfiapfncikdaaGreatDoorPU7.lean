import Derived.Test.YtlhfiapfncikdaaGreatDoorPU5
import Derived.Test.YtlhfiapfncikdaaGreatDoorPU6
set_option linter.unusedVariables false
set_option linter.unusedSimpArgs false
set_option maxRecDepth 100000
set_option maxHeartbeats 3200000
namespace Go.Proofs.YtlhfiapfncikdaaGreatDoor.aP
section
open Go.RowKit bN bP bJ bM Cx
theorem KL {L:List av}{P:List bq}{la pa:Option Addr}{lc pc:Nat}{W:World}(hL:aH au W W.heap.size L la lc)(hP:aH aS W W.heap.size P pa pc) :
 Calls Tryz.prog 159 #[.slice la L.length lc,.slice pa P.length pc] W (jh (jm L P) W):=by
 have hn:P.length≤9223372036854775807:=by have h1:=hP.1;have h2:=hP.2.1;unfold maxLen at h2;omega
 have HL:=aj hL
 have HP:=aj hP
 clear hL hP
 by_cases h4:P.length≤4
 rotate_left
 ·have hd:decide ((P.length:Int) > 4)=true:=eO (by omega)
  have hd':decide (4<P.length)=true:=eO (by omega)
  have HN:=aj (show ¬jm L P from fun h=>h4 h.1)
  go_enter Tryz.func159,Tryz.ntmps159
  go_wp2
  go_ret
  exact aA HN.out (aU _ _)
 have hd:decide ((P.length:Int) > 4)=false:=dU (by omega)
 have hd':decide (4<P.length)=false:=dU (by omega)
 go_enter Tryz.func159,Tryz.ntmps159
 go_wp2
 go_loopw [5] (fun i wr=>∃ k:Nat,k≤P.length∧i=.int .i64 k∧Hid (∀ (j:Nat) x,j<k→P[j]? = some x→okP L P j x)∧Below W.heap.size W wr) (fun i _=>P.length-(intOf i).toNat)
 case atStart=>exact ⟨0,dX _,rfl,aj fun j x h=>absurd h (gT _),aU _ _⟩
 case round=>
  obtain ⟨k,hk,rfl,HA,hB⟩:=hrel
  obtain ⟨wo,rfl⟩:∃ x,x=wr:=⟨_,rfl⟩
  have HB:=aj hB
  have hsz:=hB.size
  by_cases hlt:k<P.length
  ·have hdl:decide ((k:Int)<(P.length:Int))=true:=eO (by omega)
   obtain ⟨⟨⟨x0,x1⟩,⟨x2,x3⟩,x4⟩,hx⟩:=aL hlt
   have HX:=aj hx
   obtain ⟨g,o,us,rfl,hg,hu,hr⟩:=(HP.out.below aD hB).at_ hx
   obtain rfl:=lu hr
   obtain ⟨e0,e1,e2,e3,e4⟩:=SH (a:=o+k*5) hu rfl
   have hi0:(0:Int)≤(k:Int):=eu _
   have hi1:(k:Int)<(P.length:Int):=by omega
   obtain ⟨w1,hw1⟩:∃ w,w=wo.alloc (.cells #[.int .i64 x0,.int .i64 x1,.int .i64 x2,.int .i64 x3,.int .i64 x4] 176):=⟨_,rfl⟩
   have iE:Below wo.heap.size wo w1:=by rw [hw1];exact (aU _ _).alloc (bK _) _
   have dh:=aj (show aN w1 wo.heap.size 176 #[.int .i64 x0,.int .i64 x1,.int .i64 x2,.int .i64 x3,.int .i64 x4] from by rw [hw1];exact aN.new _ _ _)
   have HB1:=aj (HB.out.trans (iE.mono hsz))
   have OT:=aj (aC ak HL.out HB1.out)
   have hz1:=HB1.out.size
   obtain ⟨q0,q1,q2,q3,q4⟩:=dh.out.vw rfl
   clear hB hx hu hr
   go_wp2_with fail
   rw [←hw1]
   clear hw1 iE e0 e1 e2 e3 e4
   refine (dV OT.out).mono ?_
   intro e w2 h
   obtain ⟨z,rfl,hz,hb⟩:=bA h
   have HZ1:=aj hz
   have HB2:=aj (HB1.out.trans (hb.mono hz1))
   have HL2:=aj (aC ak OT.out hb)
   have iD:=aj (dh.out.call hb)
   have hz2:=HB2.out.size
   clear h hz hb q0 q1 q2 q3 q4 dh
   obtain ⟨q0,q1,q2,q3,q4⟩:=iD.out.vw rfl
   cases z with
   | false=>
    have HN:=aj (show ¬jm L P from fun h=>by have:=HZ1.out.2 (h.2 k _ HX.out).1;cases this)
    go_wp2
    go_ret
    exact aA HN.out HB2.out
   | true=>
   have FD:=aj (HZ1.out.1 rfl)
   go_wp2_with fail
   refine (dV HL2.out).mono ?_
   intro e w3 h
   obtain ⟨z,rfl,hz,hb⟩:=bA h
   have HZ2:=aj hz
   have HB3:=aj (HB2.out.trans (hb.mono hz2))
   have iT:=aj (iD.out.call hb)
   have hz3:=HB3.out.size
   clear h hz hb q0 q1 q2 q3 q4 iD
   obtain ⟨q0,q1,q2,q3,q4⟩:=iT.out.vw rfl
   cases z with
   | false=>
    have HN:=aj (show ¬jm L P from fun h=>by have:=HZ2.out.2 (h.2 k _ HX.out).2.1;cases this)
    go_wp2
    go_ret
    exact aA HN.out HB3.out
   | true=>
   have jg:=aj (HZ2.out.1 rfl)
   obtain ⟨z3,Pk⟩:∃ z,dD.bB x0 x1 x2 x3=z:=⟨_,rfl⟩
   have HZ3:=aj Pk
   clear Pk
   go_wp2_with fail
   refine (oP _ _ _ _ HZ3.out _).mono ?_
   rintro e w4 ⟨rfl,hb⟩
   have jU:=aj (HB3.out.trans (hb.mono hz3))
   have kL:=aj (iT.out.call hb)
   have mP:=jU.out.size
   clear hb q0 q1 q2 q3 q4 iT
   obtain ⟨q0,q1,q2,q3,q4⟩:=kL.out.vw rfl
   cases z3 with
   | true=>
    have HN:=aj (show ¬jm L P from fun h=>by have:=(h.2 k _ HX.out).2.2.1;rw [HZ3.out] at this;cases this)
    go_wp2
    go_ret
    exact aA HN.out jU.out
   | false=>
   obtain ⟨z4,Sj⟩:∃ z,dI x4 1 3=z:=⟨_,rfl⟩
   have uZ:=aj Sj
   clear Sj
   go_wp2_with fail
   refine (oH _ _ _ uZ.out _).mono ?_
   rintro e w5 ⟨rfl,rfl⟩
   cases z4 with
   | false=>
    have HN:=aj (show ¬jm L P from fun h=>by have:=(h.2 k _ HX.out).2.2.2.1;rw [uZ.out] at this;cases this)
    go_wp2
    go_ret
    exact aA HN.out jU.out
   | true=>
   clear q0 q1 q2 q3 q4
   go_wp2
   go_loopw [7] (fun i wr=>∃ j:Nat,j≤k∧i=.int .i64 j∧Hid (∀ (q:Nat) y,q<j→P[q]? = some y→¬(y.1=(x0,x1)∧y.2.1=(x2,x3)))∧Below w4.heap.size w4 wr) (fun i _=>k-(intOf i).toNat)
   case atStart=>exact ⟨0,dX _,rfl,aj fun q y h=>absurd h (gT _),aU _ _⟩
   case round=>
    obtain ⟨j,hj,rfl,HQ,hB⟩:=hrel
    have HBw:=aj hB
    have ny:=aj (jU.out.trans (hB.mono mP))
    have iT:=aj (kL.out.call hB)
    have uo:=hB.size
    clear hB
    by_cases hjl:j<k
    ·have hd2:decide ((j:Int)<(k:Int))=true:=eO (by omega)
     obtain ⟨⟨⟨y0,y1⟩,⟨y2,y3⟩,y4⟩,hy⟩:=aL (show j<P.length by omega)
     have HY:=aj hy
     obtain ⟨g2,o2,us,hgg,hg2,hu,hr⟩:=(HP.out.below aD ny.out).at_ hy
     obtain ⟨rfl,rfl⟩:g=g2∧o=o2:=by cases hgg;exact ⟨rfl,rfl⟩
     obtain rfl:=lu hr
     obtain ⟨d0,d1,d2,d3⟩:=J7 (a:=o+j*5) hu rfl
     have HG2:=aj (show g<wr.heap.size by omega)
     have hj0:(0:Int)≤(j:Int):=eu _
     have hj1:(j:Int)<(P.length:Int):=by omega
     obtain ⟨b1,hb1⟩:∃ b,decide (((y0,y1):Lb)=(x0,x1))=b:=⟨_,rfl⟩
     obtain ⟨b2,hb2⟩:∃ b,decide (((y2,y3):Lb)=(x2,x3))=b:=⟨_,rfl⟩
     have hE1:=iK _ _ _ _ _ hb1
     have hE2:=iK _ _ _ _ _ hb2
     have HE:=aj (And.intro hb1 hb2)
     clear hy hu hr hgg hb1 hb2 hg2
     cases b1 with
     | false=>
      have wY:=aj (show ∀ (q:Nat) y,q<j+1→P[q]? = some y→¬(y.1=(x0,x1)∧y.2.1=(x2,x3)) from fun q y hq hy=>by
       by_cases e:q=j
       ·subst e;rw [HY.out] at hy;obtain rfl:=fB hy
        exact fun h=>of_decide_eq_false HE.out.1 h.1
       ·exact HQ.out q y (by omega) hy)
      go_wp2_with fail
      refine dW (S:=(fun V=>Below (wr).heap.size (wr) V)) (by kernel_rfl) ((aU _ _).drew) (fun ah=>?_)
      refine tk 0 ah ?_
      refine tk 1 ah ?_
      refine tk 2 ah ?_
      refine tk 3 ah ?_
      refine tk 4 ah ?_ (hy:=fun w hSw=>by (try dsimp only at hSw);have k0:=(hSw.cell (p:=⟨g,o+j*5,none⟩) HG2.out).trans d0;have k1:=(hSw.cell (p:=⟨g,o+j*5+1,none⟩) HG2.out).trans d1;clear hSw;go_simp;try with_reducible rfl)
      refine tk 5 ah ?_
      refine tk 6 ah ?_ (hy:=fun w hSw=>by (try dsimp only at hSw);have k0:=iT.out.hat hSw 0 rfl;have k1:=iT.out.hat hSw 1 rfl;clear hSw;go_simp;try with_reducible rfl)
      refine tk 7 ah ?_
      refine tk 8 ah ?_
      refine tn 9 ah ?_
      refine tn 10 ah ?_
      refine tn 11 ah ?_
      refine tn 12 ah ?_
      refine tn 13 ah ?_
      refine tn 14 ah ?_
      refine tn 15 ah ?_
      refine tn 16 ah ?_
      refine tk 17 ah ?_
      refine dQ ?_
      have HF:=aj ah
      clear ah
      have wU:=aj (HBw.out.trans (HF.out.mono uo))
      clear HF
      go_wp2
      go_roundw
      case rel=>exact ⟨j+1,by omega,by go_num,wY,wU.out⟩
      case measure=>simp [intOf];omega
     | true=>
     cases b2 with
     | false=>
      have wY:=aj (show ∀ (q:Nat) y,q<j+1→P[q]? = some y→¬(y.1=(x0,x1)∧y.2.1=(x2,x3)) from fun q y hq hy=>by
       by_cases e:q=j
       ·subst e;rw [HY.out] at hy;obtain rfl:=fB hy
        exact fun h=>of_decide_eq_false HE.out.2 h.2
       ·exact HQ.out q y (by omega) hy)
      go_wp2_with fail
      refine dW (S:=(fun V=>Below (wr).heap.size (wr) V)) (by kernel_rfl) ((aU _ _).drew) (fun ah=>?_)
      refine tk 0 ah ?_
      refine tk 1 ah ?_
      refine tk 2 ah ?_
      refine tk 3 ah ?_
      refine tk 4 ah ?_ (hy:=fun w hSw=>by (try dsimp only at hSw);have k0:=(hSw.cell (p:=⟨g,o+j*5,none⟩) HG2.out).trans d0;have k1:=(hSw.cell (p:=⟨g,o+j*5+1,none⟩) HG2.out).trans d1;clear hSw;go_simp;try with_reducible rfl)
      refine tk 5 ah ?_
      refine tk 6 ah ?_ (hy:=fun w hSw=>by (try dsimp only at hSw);have k0:=iT.out.hat hSw 0 rfl;have k1:=iT.out.hat hSw 1 rfl;clear hSw;go_simp;try with_reducible rfl)
      refine tk 7 ah ?_
      refine tk 8 ah ?_
      refine tk 9 ah ?_
      refine tk 10 ah ?_
      refine tk 11 ah ?_
      refine tk 12 ah ?_
      refine tk 13 ah ?_ (hy:=fun w hSw=>by (try dsimp only at hSw);have k0:=(hSw.cell (p:=⟨g,o+j*5+2,none⟩) HG2.out).trans d2;have k1:=(hSw.cell (p:=⟨g,o+j*5+3,none⟩) HG2.out).trans d3;clear hSw;go_simp;try with_reducible rfl)
      refine tk 14 ah ?_
      refine tk 15 ah ?_ (hy:=fun w hSw=>by (try dsimp only at hSw);have k0:=iT.out.hat hSw 2 rfl;have k1:=iT.out.hat hSw 3 rfl;clear hSw;go_simp;try with_reducible rfl)
      refine tk 16 ah ?_
      refine tk 17 ah ?_
      refine dQ ?_
      have HF:=aj ah
      clear ah
      have wU:=aj (HBw.out.trans (HF.out.mono uo))
      clear HF
      go_wp2
      go_roundw
      case rel=>exact ⟨j+1,by omega,by go_num,wY,wU.out⟩
      case measure=>simp [intOf];omega
     | true=>
      have HN:=aj (show ¬jm L P from fun h=>(h.2 k _ HX.out).2.2.2.2 j _ hjl HY.out ⟨of_decide_eq_true HE.out.1,of_decide_eq_true HE.out.2⟩)
      go_wp2_with fail
      refine dW (S:=(fun V=>Below (wr).heap.size (wr) V)) (by kernel_rfl) ((aU _ _).drew) (fun ah=>?_)
      refine tk 0 ah ?_
      refine tk 1 ah ?_
      refine tk 2 ah ?_
      refine tk 3 ah ?_
      refine tk 4 ah ?_ (hy:=fun w hSw=>by (try dsimp only at hSw);have k0:=(hSw.cell (p:=⟨g,o+j*5,none⟩) HG2.out).trans d0;have k1:=(hSw.cell (p:=⟨g,o+j*5+1,none⟩) HG2.out).trans d1;clear hSw;go_simp;try with_reducible rfl)
      refine tk 5 ah ?_
      refine tk 6 ah ?_ (hy:=fun w hSw=>by (try dsimp only at hSw);have k0:=iT.out.hat hSw 0 rfl;have k1:=iT.out.hat hSw 1 rfl;clear hSw;go_simp;try with_reducible rfl)
      refine tk 7 ah ?_
      refine tk 8 ah ?_
      refine tk 9 ah ?_
      refine tk 10 ah ?_
      refine tk 11 ah ?_
      refine tk 12 ah ?_
      refine tk 13 ah ?_ (hy:=fun w hSw=>by (try dsimp only at hSw);have k0:=(hSw.cell (p:=⟨g,o+j*5+2,none⟩) HG2.out).trans d2;have k1:=(hSw.cell (p:=⟨g,o+j*5+3,none⟩) HG2.out).trans d3;clear hSw;go_simp;try with_reducible rfl)
      refine tk 14 ah ?_
      refine tk 15 ah ?_ (hy:=fun w hSw=>by (try dsimp only at hSw);have k0:=iT.out.hat hSw 2 rfl;have k1:=iT.out.hat hSw 3 rfl;clear hSw;go_simp;try with_reducible rfl)
      refine tk 16 ah ?_
      refine tk 17 ah ?_
      refine dQ ?_
      have HF:=aj ah
      clear ah
      have wU:=aj (ny.out.trans (HF.out.mono (by omega)))
      clear HF
      go_wp2
      go_ret
      exact aA HN.out wU.out
    ·have hd2:decide ((j:Int)<(k:Int))=false:=dU (by omega)
     have HA2:=aj (show ∀ (j:Nat) x,j<k+1→P[j]? = some x→okP L P j x from fun q y hq hy=>by
      by_cases e:q=k
      ·subst e;rw [HX.out] at hy;obtain rfl:=fB hy
       exact ⟨FD.out,jg.out,HZ3.out,uZ.out,fun r z hr hz=>HQ.out r z (by omega) hz⟩
      ·exact HA.out q y (by omega) hy)
     go_wp2
     go_roundw
     case rel=>exact ⟨k+1,by omega,by go_num,HA2,ny.out⟩
     case measure=>simp [intOf];omega
  ·have hdl:decide ((k:Int)<(P.length:Int))=false:=dU (by omega)
   have HY:=aj (show jm L P from ⟨h4,fun i x hx=>HA.out i x (by have:=jE hx;omega) hx⟩)
   clear hB
   go_wp2
   go_ret
   exact bO HY.out HB.out
theorem EB {l s:Int}(h:dD.rP l s)(w:World):Calls Tryz.prog 124 #[.agg #[.int .i64 l,.int .i64 s]] w fun e w'=>e=.returned (.int .i64 (8*l+s))∧Below w.heap.size w w':=by
 obtain ⟨h1,h2,h3,h4⟩:=h
 have e1:IntKind.i64.wrap (8*l)=8*l:=gJ _ (by omega)
 have e2:IntKind.i64.wrap (8*l+s)=8*l+s:=gJ _ (by omega)
 go_enter Tryz.func124,Tryz.ntmps124
 go_wp2
 go_ret
 exact ⟨by first | rfl | simp [e1,e2],(aU _ _).alloc (bK _) _⟩
theorem Ot {a b:Lb}(ha:dD.rP a.1 a.2)(hb:dD.rP b.1 b.2):uj a b↔¬(8*a.1+a.2 ≥ 8*b.1+b.2):=by
 obtain ⟨h1,h2,h3,h4⟩:=ha
 obtain ⟨g1,g2,g3,g4⟩:=hb
 unfold uj
 omega
theorem IL {L:List av}{Q:List aV}{la qa:Option Addr}{lc qc:Nat}{W:World}(hLR:∀ a∈L,dD.rP a.1 a.2)(hLS:L.Pairwise uj)(hL8:L.length≤8)(hL:aH au W W.heap.size L la lc)(hQ:aH aM W W.heap.size Q qa qc) :
 Calls Tryz.prog 160 #[.slice la L.length lc,.slice qa Q.length qc] W (jh (gQ L Q) W):=by
 have hn:Q.length≤9223372036854775807:=by have h1:=hQ.1;have h2:=hQ.2.1;unfold maxLen at h2;omega
 have HL:=aj hL
 have HQ:=aj hQ
 have HLR:=aj hLR
 have HLS:=aj (And.intro hLS hL8)
 clear hL hQ hLR hLS hL8
 by_cases h8:Q.length≤8
 rotate_left
 ·have hd:decide ((Q.length:Int) > 8)=true:=eO (by omega)
  have hd':decide (8<Q.length)=true:=eO (by omega)
  have HN:=aj (show ¬gQ L Q from fun h=>h8 (eH (KI HLS.out.1 h) HLS.out.2))
  go_enter Tryz.func160,Tryz.ntmps160
  go_wp2
  go_ret
  exact aA HN.out (aU _ _)
 have hd:decide ((Q.length:Int) > 8)=false:=dU (by omega)
 have hd':decide (8<Q.length)=false:=dU (by omega)
 go_enter Tryz.func160,Tryz.ntmps160
 go_wp2
 go_loopw [5] (fun i wr=>∃ k:Nat,k≤Q.length∧i=.int .i64 k∧Hid (∀ (j:Nat) x,j<k→Q[j]? = some x→okQ L Q j x)∧Below W.heap.size W wr) (fun i _=>Q.length-(intOf i).toNat)
 case atStart=>exact ⟨0,dX _,rfl,aj fun j x h=>absurd h (gT _),aU _ _⟩
 case round=>
  obtain ⟨k,hk,rfl,HA,hB⟩:=hrel
  have HB:=aj hB
  have hsz:=hB.size
  by_cases hlt:k<Q.length
  ·have hdl:decide ((k:Int)<(Q.length:Int))=true:=eO (by omega)
   obtain ⟨⟨⟨x0,x1⟩,x2⟩,hx⟩:=aL hlt
   have HX:=aj hx
   obtain ⟨g,o,us,rfl,hg,hu,hr⟩:=(HQ.out.below aB hB).at_ hx
   obtain rfl:=jo hr
   obtain ⟨e0,e1,e2⟩:=J8 (a:=o+k*3) hu rfl
   have HG:=aj (show g<wr.heap.size by omega)
   have hi0:(0:Int)≤(k:Int):=eu _
   have hi1:(k:Int)<(Q.length:Int):=by omega
   have OT:=aj (aC ak HL.out HB.out)
   clear hB hx hu hr
   by_cases hm:(x0,x1)∈L
   rotate_left
   ·have HM:=aj hm
    have HN:=aj (show ¬gQ L Q from fun h=>HM.out (h k _ HX.out).1)
    clear hm
    go_wp2_with fail
    refine dW (S:=(fun V=>Below (wr).heap.size (wr) V)) (by kernel_rfl) ((aU _ _).drew) (fun ah=>?_)
    refine tk 0 ah ?_
    refine tk 1 ah ?_
    refine tk 2 ah ?_
    refine tk 3 ah ?_
    refine tk 4 ah ?_
    refine tk 5 ah ?_ (hy:=fun w hSw=>by (try dsimp only at hSw);have k0:=(hSw.cell (p:=⟨g,o+k*3,none⟩) HG.out).trans e0;have k1:=(hSw.cell (p:=⟨g,o+k*3+1,none⟩) HG.out).trans e1;clear hSw;go_simp;try with_reducible rfl)
    refine cZ 6 (fun K hK=>?_)
    go_simp
    go_at_call 103
    refine (dV (aC ak OT.out ah)).mono ?_
    intro e w2 h
    obtain ⟨z,rfl,hz,hb⟩:=bA h
    obtain rfl:z=false:=Bool.eq_false_iff.2 fun h=>HM.out (hz.1 h)
    clear h hz
    refine hK.out _ _ (ah.trans (hb.mono ah.size)) (fun ah=>?_)
    clear hK K hb
    refine tk 7 ah ?_
    refine tk 8 ah ?_
    refine tn 9 ah ?_
    refine tn 10 ah ?_
    refine tn 11 ah ?_
    refine tn 12 ah ?_
    refine tn 13 ah ?_
    refine tn 14 ah ?_
    refine tn 15 ah ?_
    refine tk 16 ah ?_
    refine tk 17 ah ?_
    refine tn 18 ah ?_
    refine tn 19 ah ?_
    refine tn 20 ah ?_
    refine tn 21 ah ?_
    refine tn 22 ah ?_
    refine tn 23 ah ?_
    refine tn 24 ah ?_
    refine tn 25 ah ?_
    refine tn 26 ah ?_
    refine tn 27 ah ?_
    refine tn 28 ah ?_
    refine tn 29 ah ?_
    refine tn 30 ah ?_
    refine tn 31 ah ?_
    refine tn 32 ah ?_
    refine tn 33 ah ?_
    refine tn 34 ah ?_
    refine tn 35 ah ?_
    refine tk 36 ah ?_
    refine dQ ?_
    have HF:=aj ah
    clear ah
    have HB2:=aj (HB.out.trans (HF.out.mono hsz))
    clear HF
    go_wp2
    go_ret
    exact aA HN.out HB2.out
   have HM:=aj hm
   have HOx:=aj (HLR.out _ hm)
   clear hm
   obtain ⟨zi,hzi⟩:∃ z,dI x2 1 9=z:=⟨_,rfl⟩
   have HI:=aj hzi
   clear hzi
   cases zi with
   | false=>
    have HN:=aj (show ¬gQ L Q from fun h=>by have h2:dI x2 1 9=true:=(h k _ HX.out).2.1;rw [HI.out] at h2;cases h2)
    go_wp2_with fail
    refine dW (S:=(fun V=>Below (wr).heap.size (wr) V)) (by kernel_rfl) ((aU _ _).drew) (fun ah=>?_)
    refine tk 0 ah ?_
    refine tk 1 ah ?_
    refine tk 2 ah ?_
    refine tk 3 ah ?_
    refine tk 4 ah ?_
    refine tk 5 ah ?_ (hy:=fun w hSw=>by (try dsimp only at hSw);have k0:=(hSw.cell (p:=⟨g,o+k*3,none⟩) HG.out).trans e0;have k1:=(hSw.cell (p:=⟨g,o+k*3+1,none⟩) HG.out).trans e1;clear hSw;go_simp;try with_reducible rfl)
    refine cZ 6 (fun K hK=>?_)
    go_simp
    go_at_call 103
    refine (dV (aC ak OT.out ah)).mono ?_
    intro e w2 h
    obtain ⟨z,rfl,hz,hb⟩:=bA h
    obtain rfl:z=true:=hz.2 HM.out
    clear h hz
    refine hK.out _ _ (ah.trans (hb.mono ah.size)) (fun ah=>?_)
    clear hK K hb
    refine tk 7 ah ?_
    refine tk 8 ah ?_
    refine tk 9 ah ?_
    refine tk 10 ah ?_
    refine tk 11 ah ?_
    refine tk 12 ah ?_
    refine tk 13 ah ?_ (hy:=fun w hSw=>by (try dsimp only at hSw);have k0:=(hSw.cell (p:=⟨g,o+k*3+2,none⟩) HG.out).trans e2;clear hSw;go_simp;try with_reducible rfl)
    refine cZ 14 (fun K hK=>?_)
    go_simp
    go_at_call 157
    refine (oH _ _ _ HI.out _).mono ?_
    rintro e w3 ⟨rfl,rfl⟩
    have hb:=aU w2.heap.size w2
    refine hK.out _ _ (ah.trans (hb.mono ah.size)) (fun ah=>?_)
    clear hK K hb
    refine tk 15 ah ?_
    refine tk 16 ah ?_
    refine tk 17 ah ?_
    refine tn 18 ah ?_
    refine tn 19 ah ?_
    refine tn 20 ah ?_
    refine tn 21 ah ?_
    refine tn 22 ah ?_
    refine tn 23 ah ?_
    refine tn 24 ah ?_
    refine tn 25 ah ?_
    refine tn 26 ah ?_
    refine tn 27 ah ?_
    refine tn 28 ah ?_
    refine tn 29 ah ?_
    refine tn 30 ah ?_
    refine tn 31 ah ?_
    refine tn 32 ah ?_
    refine tn 33 ah ?_
    refine tn 34 ah ?_
    refine tn 35 ah ?_
    refine tk 36 ah ?_
    refine dQ ?_
    have HF:=aj ah
    clear ah
    have HB2:=aj (HB.out.trans (HF.out.mono hsz))
    clear HF
    go_wp2
    go_ret
    exact aA HN.out HB2.out
   | true=>
   cases k with
   | zero=>
    rw [Nat.zero_mul] at e0 e1 e2
    simp only [Nat.add_zero] at e0 e1 e2
    have HA2:=aj (show ∀ (j:Nat) x,j<0+1→Q[j]? = some x→okQ L Q j x from fun q y hq hy=>by
     obtain rfl:q=0:=by omega
     rw [HX.out] at hy;obtain rfl:=fB hy
     exact ⟨HM.out,HI.out,fun h=>absurd h (jK _)⟩)
    go_wp2_with fail
    refine dW (S:=(fun V=>Below (wr).heap.size (wr) V)) (by kernel_rfl) ((aU _ _).drew) (fun ah=>?_)
    refine tk 0 ah ?_
    refine tk 1 ah ?_
    refine tk 2 ah ?_
    refine tk 3 ah ?_
    refine tk 4 ah ?_
    refine tk 5 ah ?_ (hy:=fun w hSw=>by (try dsimp only at hSw);have k0:=(hSw.cell (p:=⟨g,o,none⟩) HG.out).trans e0;have k1:=(hSw.cell (p:=⟨g,o+1,none⟩) HG.out).trans e1;clear hSw;go_simp;try with_reducible rfl)
    refine cZ 6 (fun K hK=>?_)
    go_simp
    go_at_call 103
    refine (dV (aC ak OT.out ah)).mono ?_
    intro e w2 h
    obtain ⟨z,rfl,hz,hb⟩:=bA h
    obtain rfl:z=true:=hz.2 HM.out
    clear h hz
    refine hK.out _ _ (ah.trans (hb.mono ah.size)) (fun ah=>?_)
    clear hK K hb
    refine tk 7 ah ?_
    refine tk 8 ah ?_
    refine tk 9 ah ?_
    refine tk 10 ah ?_
    refine tk 11 ah ?_
    refine tk 12 ah ?_
    refine tk 13 ah ?_ (hy:=fun w hSw=>by (try dsimp only at hSw);have k0:=(hSw.cell (p:=⟨g,o+2,none⟩) HG.out).trans e2;clear hSw;go_simp;try with_reducible rfl)
    refine cZ 14 (fun K hK=>?_)
    go_simp
    go_at_call 157
    refine (oH _ _ _ HI.out _).mono ?_
    rintro e w3 ⟨rfl,rfl⟩
    have hb:=aU w2.heap.size w2
    refine hK.out _ _ (ah.trans (hb.mono ah.size)) (fun ah=>?_)
    clear hK K hb
    refine tk 15 ah ?_
    refine tk 16 ah ?_
    refine tk 17 ah ?_
    refine tk 18 ah ?_
    refine tk 19 ah ?_
    refine tk 20 ah ?_
    refine tn 21 ah ?_
    refine tn 22 ah ?_
    refine tn 23 ah ?_
    refine tn 24 ah ?_
    refine tn 25 ah ?_
    refine tn 26 ah ?_
    refine tn 27 ah ?_
    refine tn 28 ah ?_
    refine tn 29 ah ?_
    refine tn 30 ah ?_
    refine tn 31 ah ?_
    refine tn 32 ah ?_
    refine tn 33 ah ?_
    refine tn 34 ah ?_
    refine tk 35 ah ?_
    refine tk 36 ah ?_
    refine dQ ?_
    have HF:=aj ah
    clear ah
    have HB2:=aj (HB.out.trans (HF.out.mono hsz))
    clear HF
    go_wp2
    go_roundw
    case rel=>exact ⟨0+1,by omega,by go_num,HA2,HB2.out⟩
    case measure=>simp [intOf];omega
   | succ m=>
    obtain ⟨⟨⟨y0,y1⟩,y2⟩,hy⟩:=aL (show m<Q.length by omega)
    have HY:=aj hy
    have HMy:=aj (HA.out m _ (Nat.lt_succ_self m) hy).1
    have HOy:=aj (HLR.out _ HMy.out)
    obtain ⟨g2,o2,us,hgg,hg2,hu,hr⟩:=(HQ.out.below aB HB.out).at_ hy
    obtain ⟨rfl,rfl⟩:g=g2∧o=o2:=by cases hgg;exact ⟨rfl,rfl⟩
    obtain rfl:=jo hr
    obtain ⟨d0,d1⟩:=mW (a:=o+m*3) hu rfl
    have hj0:(0:Int)≤(m:Int):=eu _
    have hj1:(m:Int)<(Q.length:Int):=by omega
    have hgt:decide ((((m+1:Nat):Int)) > 0)=true:=eO (by omega)
    have hgt2:decide (0<m+1)=true:=eO (by omega)
    have hsub:IntKind.i64.wrap (((m+1:Nat):Int)-1)=(m:Int):=by rw [show ((m+1:Nat):Int)-1=(m:Int) by omega];exact gJ _ (by omega)
    have hsub2:IntKind.i64.wrap (m:Int)=(m:Int):=gJ _ (by omega)
    have hi0':(0:Int)≤(m:Int)+1:=by omega
    have hi1':(m:Int)+1<(Q.length:Int):=by omega
    have hgt3:decide (0<(m:Int)+1)=true:=eO (by omega)
    have adq:IntKind.i64.wrap ((m:Int)+1-1)=(m:Int):=by rw [show (m:Int)+1-1=(m:Int) by omega];exact gJ _ (by omega)
    clear hy hu hr hgg hg2
    by_cases hlb:uj (y0,y1) (x0,x1)
    ·have hge:decide (8*y0+y1 ≥ 8*x0+x1)=false:=dU ((Ot HOy.out HOx.out).1 hlb)
     have hge2:decide (8*x0+x1≤8*y0+y1)=false:=hge
     have HA2:=aj (show ∀ (j:Nat) x,j<m+1+1→Q[j]? = some x→okQ L Q j x from fun q y hq hy=>by
      by_cases e:q=m+1
      ·subst e;rw [HX.out] at hy;obtain rfl:=fB hy
       refine ⟨HM.out,HI.out,fun _ z hz=>?_⟩
       rw [Nat.add_sub_cancel,HY.out] at hz;obtain rfl:=fB hz
       exact hlb
      ·exact HA.out q y (by omega) hy)
     clear hlb
     go_wp2_with fail
     refine dW (S:=(fun V=>Below (wr).heap.size (wr) V)) (by kernel_rfl) ((aU _ _).drew) (fun ah=>?_)
     refine tk 0 ah ?_
     refine tk 1 ah ?_
     refine tk 2 ah ?_
     refine tk 3 ah ?_
     refine tk 4 ah ?_
     refine tk 5 ah ?_ (hy:=fun w hSw=>by (try dsimp only at hSw);have k0:=(hSw.cell (p:=⟨g,o+(m+1)*3,none⟩) HG.out).trans e0;have k1:=(hSw.cell (p:=⟨g,o+(m+1)*3+1,none⟩) HG.out).trans e1;clear hSw;go_simp;try with_reducible rfl)
     refine cZ 6 (fun K hK=>?_)
     go_simp
     go_at_call 103
     refine (dV (aC ak OT.out ah)).mono ?_
     intro e w2 h
     obtain ⟨z,rfl,hz,hb⟩:=bA h
     obtain rfl:z=true:=hz.2 HM.out
     clear h hz
     refine hK.out _ _ (ah.trans (hb.mono ah.size)) (fun ah=>?_)
     clear hK K hb
     refine tk 7 ah ?_
     refine tk 8 ah ?_
     refine tk 9 ah ?_
     refine tk 10 ah ?_
     refine tk 11 ah ?_
     refine tk 12 ah ?_
     refine tk 13 ah ?_ (hy:=fun w hSw=>by (try dsimp only at hSw);have k0:=(hSw.cell (p:=⟨g,o+(m+1)*3+2,none⟩) HG.out).trans e2;clear hSw;go_simp;try with_reducible rfl)
     refine cZ 14 (fun K hK=>?_)
     go_simp
     go_at_call 157
     refine (oH _ _ _ HI.out _).mono ?_
     rintro e w3 ⟨rfl,rfl⟩
     have hb:=aU w2.heap.size w2
     refine hK.out _ _ (ah.trans (hb.mono ah.size)) (fun ah=>?_)
     clear hK K hb
     refine tk 15 ah ?_
     refine tk 16 ah ?_
     refine tk 17 ah ?_
     refine tk 18 ah ?_
     refine tk 19 ah ?_
     refine tk 20 ah ?_
     refine tk 21 ah ?_
     refine tk 22 ah ?_
     refine tk 23 ah ?_
     refine tk 24 ah ?_
     refine tk 25 ah ?_
     refine tk 26 ah ?_ (hy:=fun w hSw=>by (try dsimp only at hSw);have k0:=(hSw.cell (p:=⟨g,o+m*3,none⟩) HG.out).trans d0;have k1:=(hSw.cell (p:=⟨g,o+m*3+1,none⟩) HG.out).trans d1;clear hSw;go_simp;try with_reducible rfl)
     refine tk 28 ah ?_
     refine tk 29 ah ?_
     refine tk 30 ah ?_
     refine tk 31 ah ?_
     refine tk 32 ah ?_ (hy:=fun w hSw=>by (try dsimp only at hSw);have k0:=(hSw.cell (p:=⟨g,o+(m+1)*3,none⟩) HG.out).trans e0;have k1:=(hSw.cell (p:=⟨g,o+(m+1)*3+1,none⟩) HG.out).trans e1;clear hSw;go_simp;try with_reducible rfl)
     refine cZ 27 (fun K hK=>?_)
     go_simp
     go_at_call 124
     refine (EB HOy.out _).mono ?_
     rintro e w4 ⟨rfl,hb⟩
     refine hK.out _ _ (ah.trans (hb.mono ah.size)) (fun ah=>?_)
     clear hK K hb
     refine cZ 33 (fun K hK=>?_)
     go_simp
     go_at_call 124
     refine (EB HOx.out _).mono ?_
     rintro e w5 ⟨rfl,hb⟩
     refine hK.out _ _ (ah.trans (hb.mono ah.size)) (fun ah=>?_)
     clear hK K hb
     refine tk 34 ah ?_
     refine tk 35 ah ?_
     refine tk 36 ah ?_
     refine dQ ?_
     have HF:=aj ah
     clear ah
     have HB2:=aj (HB.out.trans (HF.out.mono hsz))
     clear HF
     go_wp2
     go_roundw
     case rel=>exact ⟨m+1+1,by omega,by go_num,HA2,HB2.out⟩
     case measure=>simp [intOf];omega
    ·have hge:decide (8*y0+y1 ≥ 8*x0+x1)=true:=eO (Classical.byContradiction fun h=>hlb ((Ot HOy.out HOx.out).2 h))
     have hge2:decide (8*x0+x1≤8*y0+y1)=true:=hge
     have HN:=aj (show ¬gQ L Q from fun h=>hlb ((h (m+1) _ HX.out).2.2 (by omega) _ (by rw [Nat.add_sub_cancel];exact HY.out)))
     clear hlb
     go_wp2_with fail
     refine dW (S:=(fun V=>Below (wr).heap.size (wr) V)) (by kernel_rfl) ((aU _ _).drew) (fun ah=>?_)
     refine tk 0 ah ?_
     refine tk 1 ah ?_
     refine tk 2 ah ?_
     refine tk 3 ah ?_
     refine tk 4 ah ?_
     refine tk 5 ah ?_ (hy:=fun w hSw=>by (try dsimp only at hSw);have k0:=(hSw.cell (p:=⟨g,o+(m+1)*3,none⟩) HG.out).trans e0;have k1:=(hSw.cell (p:=⟨g,o+(m+1)*3+1,none⟩) HG.out).trans e1;clear hSw;go_simp;try with_reducible rfl)
     refine cZ 6 (fun K hK=>?_)
     go_simp
     go_at_call 103
     refine (dV (aC ak OT.out ah)).mono ?_
     intro e w2 h
     obtain ⟨z,rfl,hz,hb⟩:=bA h
     obtain rfl:z=true:=hz.2 HM.out
     clear h hz
     refine hK.out _ _ (ah.trans (hb.mono ah.size)) (fun ah=>?_)
     clear hK K hb
     refine tk 7 ah ?_
     refine tk 8 ah ?_
     refine tk 9 ah ?_
     refine tk 10 ah ?_
     refine tk 11 ah ?_
     refine tk 12 ah ?_
     refine tk 13 ah ?_ (hy:=fun w hSw=>by (try dsimp only at hSw);have k0:=(hSw.cell (p:=⟨g,o+(m+1)*3+2,none⟩) HG.out).trans e2;clear hSw;go_simp;try with_reducible rfl)
     refine cZ 14 (fun K hK=>?_)
     go_simp
     go_at_call 157
     refine (oH _ _ _ HI.out _).mono ?_
     rintro e w3 ⟨rfl,rfl⟩
     have hb:=aU w2.heap.size w2
     refine hK.out _ _ (ah.trans (hb.mono ah.size)) (fun ah=>?_)
     clear hK K hb
     refine tk 15 ah ?_
     refine tk 16 ah ?_
     refine tk 17 ah ?_
     refine tk 18 ah ?_
     refine tk 19 ah ?_
     refine tk 20 ah ?_
     refine tk 21 ah ?_
     refine tk 22 ah ?_
     refine tk 23 ah ?_
     refine tk 24 ah ?_
     refine tk 25 ah ?_
     refine tk 26 ah ?_ (hy:=fun w hSw=>by (try dsimp only at hSw);have k0:=(hSw.cell (p:=⟨g,o+m*3,none⟩) HG.out).trans d0;have k1:=(hSw.cell (p:=⟨g,o+m*3+1,none⟩) HG.out).trans d1;clear hSw;go_simp;try with_reducible rfl)
     refine tk 28 ah ?_
     refine tk 29 ah ?_
     refine tk 30 ah ?_
     refine tk 31 ah ?_
     refine tk 32 ah ?_ (hy:=fun w hSw=>by (try dsimp only at hSw);have k0:=(hSw.cell (p:=⟨g,o+(m+1)*3,none⟩) HG.out).trans e0;have k1:=(hSw.cell (p:=⟨g,o+(m+1)*3+1,none⟩) HG.out).trans e1;clear hSw;go_simp;try with_reducible rfl)
     refine cZ 27 (fun K hK=>?_)
     go_simp
     go_at_call 124
     refine (EB HOy.out _).mono ?_
     rintro e w4 ⟨rfl,hb⟩
     refine hK.out _ _ (ah.trans (hb.mono ah.size)) (fun ah=>?_)
     clear hK K hb
     refine cZ 33 (fun K hK=>?_)
     go_simp
     go_at_call 124
     refine (EB HOx.out _).mono ?_
     rintro e w5 ⟨rfl,hb⟩
     refine hK.out _ _ (ah.trans (hb.mono ah.size)) (fun ah=>?_)
     clear hK K hb
     refine tk 34 ah ?_
     refine tk 35 ah ?_
     refine tk 36 ah ?_
     refine dQ ?_
     have HF:=aj ah
     clear ah
     have HB2:=aj (HB.out.trans (HF.out.mono hsz))
     clear HF
     go_wp2
     go_ret
     exact aA HN.out HB2.out
  ·have hdl:decide ((k:Int)<(Q.length:Int))=false:=dU (by omega)
   have HY:=aj (show gQ L Q from fun i x hx=>HA.out i x (by have:=jE hx;omega) hx)
   clear hB
   go_wp2
   go_ret
   exact bO HY.out HB.out
def oo (C:List (List av))(P:List bq)(Q:List aV)(hf:Int):Prop:=iZ C∧dI hf 1 9=true∧(iw C).length≤8∧jm (iw C) P∧gQ (iw C) Q
end
end Go.Proofs.YtlhfiapfncikdaaGreatDoor.aP
