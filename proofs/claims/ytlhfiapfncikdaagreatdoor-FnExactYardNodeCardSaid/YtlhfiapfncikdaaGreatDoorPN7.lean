import Derived.Test.YtlhfiapfncikdaaGreatDoorPN5
import Derived.Test.YtlhfiapfncikdaaGreatDoorPN6
set_option linter.unusedVariables false
set_option linter.unusedSimpArgs false
set_option maxRecDepth 100000
set_option maxHeartbeats 3200000
namespace Go.Proofs.YtlhfiapfncikdaaGreatDoor
namespace aQ
section
open Go.RowKit bN bO bJ bQ CF
theorem La {L:List ay}{P:List bA}{la pa:Option Addr}{lc pc:Nat}{W:World}(hL:aJ av W W.heap.size L la lc)(hP:aJ aT W W.heap.size P pa pc) :
 Calls Tryz.prog 159 #[.slice la L.length lc,.slice pa P.length pc] W (jf (jl L P) W):=by
 have hn:P.length≤9223372036854775807:=by have h1:=hP.1;have h2:=hP.2.1;unfold maxLen at h2;omega
 have HL:=ak hL
 have HP:=ak hP
 clear hL hP
 by_cases h4:P.length≤4
 rotate_left
 ·have hd:decide ((P.length:Int) > 4)=true:=eD (by omega)
  have hd':decide (4<P.length)=true:=eD (by omega)
  have HN:=ak (show ¬jl L P from fun h=>h4 h.1)
  go_enter Tryz.func159,Tryz.ntmps159
  go_wp2
  go_ret
  exact aB HN.out (aW _ _)
 have hd:decide ((P.length:Int) > 4)=false:=dS (by omega)
 have hd':decide (4<P.length)=false:=dS (by omega)
 go_enter Tryz.func159,Tryz.ntmps159
 go_wp2
 go_loopw [5] (fun i wr=>∃ k:Nat,k≤P.length∧i=.int .i64 k∧Hid (∀ (j:Nat) x,j<k→P[j]? = some x→okP L P j x)∧Below W.heap.size W wr) (fun i _=>P.length-(intOf i).toNat)
 case atStart=>exact ⟨0,dV _,rfl,ak fun j x h=>absurd h (gZ _),aW _ _⟩
 case round=>
  obtain ⟨k,hk,rfl,HA,hB⟩:=hrel
  obtain ⟨wo,rfl⟩:∃ x,x=wr:=⟨_,rfl⟩
  have HB:=ak hB
  have hsz:=hB.size
  by_cases hlt:k<P.length
  ·have hdl:decide ((k:Int)<(P.length:Int))=true:=eD (by omega)
   obtain ⟨⟨⟨x0,x1⟩,⟨x2,x3⟩,x4⟩,hx⟩:=aM hlt
   have HX:=ak hx
   obtain ⟨g,o,us,rfl,hg,hu,hr⟩:=(HP.out.below aG hB).at_ hx
   obtain rfl:=lC hr
   obtain ⟨e0,e1,e2,e3,e4⟩:=Tj (a:=o+k*5) hu rfl
   have hi0:(0:Int)≤(k:Int):=eu _
   have hi1:(k:Int)<(P.length:Int):=by omega
   obtain ⟨w1,hw1⟩:∃ w,w=wo.alloc (.cells #[.int .i64 x0,.int .i64 x1,.int .i64 x2,.int .i64 x3,.int .i64 x4] 176):=⟨_,rfl⟩
   have iE:Below wo.heap.size wo w1:=by rw [hw1];exact (aW _ _).alloc (bK _) _
   have cZ:=ak (show aO w1 wo.heap.size 176 #[.int .i64 x0,.int .i64 x1,.int .i64 x2,.int .i64 x3,.int .i64 x4] from by rw [hw1];exact aO.new _ _ _)
   have HB1:=ak (HB.out.trans (iE.mono hsz))
   have Pq:=ak (aD au HL.out HB1.out)
   have hz1:=HB1.out.size
   obtain ⟨q0,q1,q2,q3,q4⟩:=cZ.out.vN rfl
   clear hB hx hu hr
   go_wp2_with fail
   rw [←hw1]
   clear hw1 iE e0 e1 e2 e3 e4
   refine (dW Pq.out).mono ?_
   intro e w2 h
   obtain ⟨z,rfl,hz,hb⟩:=bq h
   have HZ1:=ak hz
   have HB2:=ak (HB1.out.trans (hb.mono hz1))
   have HL2:=ak (aD au Pq.out hb)
   have iD:=ak (cZ.out.call hb)
   have hz2:=HB2.out.size
   clear h hz hb q0 q1 q2 q3 q4 cZ
   obtain ⟨q0,q1,q2,q3,q4⟩:=iD.out.vN rfl
   cases z with
   | false=>
    have HN:=ak (show ¬jl L P from fun h=>by have:=HZ1.out.2 (h.2 k _ HX.out).1;cases this)
    go_wp2
    go_ret
    exact aB HN.out HB2.out
   | true=>
   have Cz:=ak (HZ1.out.1 rfl)
   go_wp2_with fail
   refine (dW HL2.out).mono ?_
   intro e w3 h
   obtain ⟨z,rfl,hz,hb⟩:=bq h
   have HZ2:=ak hz
   have HB3:=ak (HB2.out.trans (hb.mono hz2))
   have iG:=ak (iD.out.call hb)
   have hz3:=HB3.out.size
   clear h hz hb q0 q1 q2 q3 q4 iD
   obtain ⟨q0,q1,q2,q3,q4⟩:=iG.out.vN rfl
   cases z with
   | false=>
    have HN:=ak (show ¬jl L P from fun h=>by have:=HZ2.out.2 (h.2 k _ HX.out).2.1;cases this)
    go_wp2
    go_ret
    exact aB HN.out HB3.out
   | true=>
   have je:=ak (HZ2.out.1 rfl)
   obtain ⟨z3,PW⟩:∃ z,dH.bB x0 x1 x2 x3=z:=⟨_,rfl⟩
   have HZ3:=ak PW
   clear PW
   go_wp2_with fail
   refine (oZ _ _ _ _ HZ3.out _).mono ?_
   rintro e w4 ⟨rfl,hb⟩
   have jL:=ak (HB3.out.trans (hb.mono hz3))
   have j5:=ak (iG.out.call hb)
   have lW:=jL.out.size
   clear hb q0 q1 q2 q3 q4 iG
   obtain ⟨q0,q1,q2,q3,q4⟩:=j5.out.vN rfl
   cases z3 with
   | true=>
    have HN:=ak (show ¬jl L P from fun h=>by have:=(h.2 k _ HX.out).2.2.1;rw [HZ3.out] at this;cases this)
    go_wp2
    go_ret
    exact aB HN.out jL.out
   | false=>
   obtain ⟨z4,SK⟩:∃ z,dD x4 1 3=z:=⟨_,rfl⟩
   have vI:=ak SK
   clear SK
   go_wp2_with fail
   refine (oM _ _ _ vI.out _).mono ?_
   rintro e w5 ⟨rfl,rfl⟩
   cases z4 with
   | false=>
    have HN:=ak (show ¬jl L P from fun h=>by have:=(h.2 k _ HX.out).2.2.2.1;rw [vI.out] at this;cases this)
    go_wp2
    go_ret
    exact aB HN.out jL.out
   | true=>
   clear q0 q1 q2 q3 q4
   go_wp2
   go_loopw [7] (fun i wr=>∃ j:Nat,j≤k∧i=.int .i64 j∧Hid (∀ (q:Nat) y,q<j→P[q]? = some y→¬(y.1=(x0,x1)∧y.2.1=(x2,x3)))∧Below w4.heap.size w4 wr) (fun i _=>k-(intOf i).toNat)
   case atStart=>exact ⟨0,dV _,rfl,ak fun q y h=>absurd h (gZ _),aW _ _⟩
   case round=>
    obtain ⟨j,hj,rfl,HQ,hB⟩:=hrel
    have HBw:=ak hB
    have lX:=ak (jL.out.trans (hB.mono lW))
    have iG:=ak (j5.out.call hB)
    have uI:=hB.size
    clear hB
    by_cases hjl:j<k
    ·have hd2:decide ((j:Int)<(k:Int))=true:=eD (by omega)
     obtain ⟨⟨⟨y0,y1⟩,⟨y2,y3⟩,y4⟩,hy⟩:=aM (show j<P.length by omega)
     have HY:=ak hy
     obtain ⟨g2,o2,us,hgg,hg2,hu,hr⟩:=(HP.out.below aG lX.out).at_ hy
     obtain ⟨rfl,rfl⟩:g=g2∧o=o2:=by cases hgg;exact ⟨rfl,rfl⟩
     obtain rfl:=lC hr
     obtain ⟨d0,d1,d2,d3⟩:=Kn (a:=o+j*5) hu rfl
     have HG2:=ak (show g<wr.heap.size by omega)
     have hj0:(0:Int)≤(j:Int):=eu _
     have hj1:(j:Int)<(P.length:Int):=by omega
     obtain ⟨b1,hb1⟩:∃ b,decide (((y0,y1):Lb)=(x0,x1))=b:=⟨_,rfl⟩
     obtain ⟨b2,hb2⟩:∃ b,decide (((y2,y3):Lb)=(x2,x3))=b:=⟨_,rfl⟩
     have hE1:=iK _ _ _ _ _ hb1
     have hE2:=iK _ _ _ _ _ hb2
     have HE:=ak (And.intro hb1 hb2)
     clear hy hu hr hgg hb1 hb2 hg2
     cases b1 with
     | false=>
      have xH:=ak (show ∀ (q:Nat) y,q<j+1→P[q]? = some y→¬(y.1=(x0,x1)∧y.2.1=(x2,x3)) from fun q y hq hy=>by
       by_cases e:q=j
       ·subst e;rw [HY.out] at hy;obtain rfl:=fC hy
        exact fun h=>of_decide_eq_false HE.out.1 h.1
       ·exact HQ.out q y (by omega) hy)
      go_wp2_with fail
      refine dX (S:=(fun V=>Below (wr).heap.size (wr) V)) (by kernel_rfl) ((aW _ _).drew) (fun ah=>?_)
      refine tk 0 ah ?_
      refine tk 1 ah ?_
      refine tk 2 ah ?_
      refine tk 3 ah ?_
      refine tk 4 ah ?_ (hy:=fun w aj=>by (try dsimp only at aj);have k0:=(aj.cell (p:=⟨g,o+j*5,none⟩) HG2.out).trans d0;have k1:=(aj.cell (p:=⟨g,o+j*5+1,none⟩) HG2.out).trans d1;clear aj;go_simp;try with_reducible rfl)
      refine tk 5 ah ?_
      refine tk 6 ah ?_ (hy:=fun w aj=>by (try dsimp only at aj);have k0:=iG.out.hat aj 0 rfl;have k1:=iG.out.hat aj 1 rfl;clear aj;go_simp;try with_reducible rfl)
      refine tk 7 ah ?_
      refine tk 8 ah ?_
      refine tn 9 ah ?_
      refine tn 10 ah ?_
      refine tn 11 ah ?_
      refine tn 12 ah ?_
      refine tn 13 ah ?_
      refine tn 14 ah ?_
      refine tn 15 ah ?_
      refine tn 16 ah ?_
      refine tk 17 ah ?_
      refine dQ ?_
      have HF:=ak ah
      clear ah
      have xC:=ak (HBw.out.trans (HF.out.mono uI))
      clear HF
      go_wp2
      go_roundw
      case rel=>exact ⟨j+1,by omega,by go_num,xH,xC.out⟩
      case measure=>simp [intOf];omega
     | true=>
     cases b2 with
     | false=>
      have xH:=ak (show ∀ (q:Nat) y,q<j+1→P[q]? = some y→¬(y.1=(x0,x1)∧y.2.1=(x2,x3)) from fun q y hq hy=>by
       by_cases e:q=j
       ·subst e;rw [HY.out] at hy;obtain rfl:=fC hy
        exact fun h=>of_decide_eq_false HE.out.2 h.2
       ·exact HQ.out q y (by omega) hy)
      go_wp2_with fail
      refine dX (S:=(fun V=>Below (wr).heap.size (wr) V)) (by kernel_rfl) ((aW _ _).drew) (fun ah=>?_)
      refine tk 0 ah ?_
      refine tk 1 ah ?_
      refine tk 2 ah ?_
      refine tk 3 ah ?_
      refine tk 4 ah ?_ (hy:=fun w aj=>by (try dsimp only at aj);have k0:=(aj.cell (p:=⟨g,o+j*5,none⟩) HG2.out).trans d0;have k1:=(aj.cell (p:=⟨g,o+j*5+1,none⟩) HG2.out).trans d1;clear aj;go_simp;try with_reducible rfl)
      refine tk 5 ah ?_
      refine tk 6 ah ?_ (hy:=fun w aj=>by (try dsimp only at aj);have k0:=iG.out.hat aj 0 rfl;have k1:=iG.out.hat aj 1 rfl;clear aj;go_simp;try with_reducible rfl)
      refine tk 7 ah ?_
      refine tk 8 ah ?_
      refine tk 9 ah ?_
      refine tk 10 ah ?_
      refine tk 11 ah ?_
      refine tk 12 ah ?_
      refine tk 13 ah ?_ (hy:=fun w aj=>by (try dsimp only at aj);have k0:=(aj.cell (p:=⟨g,o+j*5+2,none⟩) HG2.out).trans d2;have k1:=(aj.cell (p:=⟨g,o+j*5+3,none⟩) HG2.out).trans d3;clear aj;go_simp;try with_reducible rfl)
      refine tk 14 ah ?_
      refine tk 15 ah ?_ (hy:=fun w aj=>by (try dsimp only at aj);have k0:=iG.out.hat aj 2 rfl;have k1:=iG.out.hat aj 3 rfl;clear aj;go_simp;try with_reducible rfl)
      refine tk 16 ah ?_
      refine tk 17 ah ?_
      refine dQ ?_
      have HF:=ak ah
      clear ah
      have xC:=ak (HBw.out.trans (HF.out.mono uI))
      clear HF
      go_wp2
      go_roundw
      case rel=>exact ⟨j+1,by omega,by go_num,xH,xC.out⟩
      case measure=>simp [intOf];omega
     | true=>
      have HN:=ak (show ¬jl L P from fun h=>(h.2 k _ HX.out).2.2.2.2 j _ hjl HY.out ⟨of_decide_eq_true HE.out.1,of_decide_eq_true HE.out.2⟩)
      go_wp2_with fail
      refine dX (S:=(fun V=>Below (wr).heap.size (wr) V)) (by kernel_rfl) ((aW _ _).drew) (fun ah=>?_)
      refine tk 0 ah ?_
      refine tk 1 ah ?_
      refine tk 2 ah ?_
      refine tk 3 ah ?_
      refine tk 4 ah ?_ (hy:=fun w aj=>by (try dsimp only at aj);have k0:=(aj.cell (p:=⟨g,o+j*5,none⟩) HG2.out).trans d0;have k1:=(aj.cell (p:=⟨g,o+j*5+1,none⟩) HG2.out).trans d1;clear aj;go_simp;try with_reducible rfl)
      refine tk 5 ah ?_
      refine tk 6 ah ?_ (hy:=fun w aj=>by (try dsimp only at aj);have k0:=iG.out.hat aj 0 rfl;have k1:=iG.out.hat aj 1 rfl;clear aj;go_simp;try with_reducible rfl)
      refine tk 7 ah ?_
      refine tk 8 ah ?_
      refine tk 9 ah ?_
      refine tk 10 ah ?_
      refine tk 11 ah ?_
      refine tk 12 ah ?_
      refine tk 13 ah ?_ (hy:=fun w aj=>by (try dsimp only at aj);have k0:=(aj.cell (p:=⟨g,o+j*5+2,none⟩) HG2.out).trans d2;have k1:=(aj.cell (p:=⟨g,o+j*5+3,none⟩) HG2.out).trans d3;clear aj;go_simp;try with_reducible rfl)
      refine tk 14 ah ?_
      refine tk 15 ah ?_ (hy:=fun w aj=>by (try dsimp only at aj);have k0:=iG.out.hat aj 2 rfl;have k1:=iG.out.hat aj 3 rfl;clear aj;go_simp;try with_reducible rfl)
      refine tk 16 ah ?_
      refine tk 17 ah ?_
      refine dQ ?_
      have HF:=ak ah
      clear ah
      have xC:=ak (lX.out.trans (HF.out.mono (by omega)))
      clear HF
      go_wp2
      go_ret
      exact aB HN.out xC.out
    ·have hd2:decide ((j:Int)<(k:Int))=false:=dS (by omega)
     have HA2:=ak (show ∀ (j:Nat) x,j<k+1→P[j]? = some x→okP L P j x from fun q y hq hy=>by
      by_cases e:q=k
      ·subst e;rw [HX.out] at hy;obtain rfl:=fC hy
       exact ⟨Cz.out,je.out,HZ3.out,vI.out,fun r z hr hz=>HQ.out r z (by omega) hz⟩
      ·exact HA.out q y (by omega) hy)
     go_wp2
     go_roundw
     case rel=>exact ⟨k+1,by omega,by go_num,HA2,lX.out⟩
     case measure=>simp [intOf];omega
  ·have hdl:decide ((k:Int)<(P.length:Int))=false:=dS (by omega)
   have HY:=ak (show jl L P from ⟨h4,fun i x hx=>HA.out i x (by have:=kM hx;omega) hx⟩)
   clear hB
   go_wp2
   go_ret
   exact bM HY.out HB.out
theorem EJ {l s:Int}(h:dH.rP l s)(w:World):Calls Tryz.prog 124 #[.agg #[.int .i64 l,.int .i64 s]] w fun e w'=>e=.returned (.int .i64 (8*l+s))∧Below w.heap.size w w':=by
 obtain ⟨h1,h2,h3,h4⟩:=h
 have e1:IntKind.i64.wrap (8*l)=8*l:=gK _ (by omega)
 have e2:IntKind.i64.wrap (8*l+s)=8*l+s:=gK _ (by omega)
 go_enter Tryz.func124,Tryz.ntmps124
 go_wp2
 go_ret
 exact ⟨by first | rfl | simp [e1,e2],(aW _ _).alloc (bK _) _⟩
theorem OT {a b:Lb}(ha:dH.rP a.1 a.2)(hb:dH.rP b.1 b.2):uG a b↔¬(8*a.1+a.2 ≥ 8*b.1+b.2):=by
 obtain ⟨h1,h2,h3,h4⟩:=ha
 obtain ⟨g1,g2,g3,g4⟩:=hb
 unfold uG
 omega
theorem I9 {L:List ay}{Q:List aX}{la qa:Option Addr}{lc qc:Nat}{W:World}(hLR:∀ a∈L,dH.rP a.1 a.2)(hLS:L.Pairwise uG)(hL8:L.length≤8)(hL:aJ av W W.heap.size L la lc)(hQ:aJ aN W W.heap.size Q qa qc) :
 Calls Tryz.prog 160 #[.slice la L.length lc,.slice qa Q.length qc] W (jf (gT L Q) W):=by
 have hn:Q.length≤9223372036854775807:=by have h1:=hQ.1;have h2:=hQ.2.1;unfold maxLen at h2;omega
 have HL:=ak hL
 have HQ:=ak hQ
 have HLR:=ak hLR
 have HLS:=ak (And.intro hLS hL8)
 clear hL hQ hLR hLS hL8
 by_cases h8:Q.length≤8
 rotate_left
 ·have hd:decide ((Q.length:Int) > 8)=true:=eD (by omega)
  have hd':decide (8<Q.length)=true:=eD (by omega)
  have HN:=ak (show ¬gT L Q from fun h=>h8 (eF (K8 HLS.out.1 h) HLS.out.2))
  go_enter Tryz.func160,Tryz.ntmps160
  go_wp2
  go_ret
  exact aB HN.out (aW _ _)
 have hd:decide ((Q.length:Int) > 8)=false:=dS (by omega)
 have hd':decide (8<Q.length)=false:=dS (by omega)
 go_enter Tryz.func160,Tryz.ntmps160
 go_wp2
 go_loopw [5] (fun i wr=>∃ k:Nat,k≤Q.length∧i=.int .i64 k∧Hid (∀ (j:Nat) x,j<k→Q[j]? = some x→okQ L Q j x)∧Below W.heap.size W wr) (fun i _=>Q.length-(intOf i).toNat)
 case atStart=>exact ⟨0,dV _,rfl,ak fun j x h=>absurd h (gZ _),aW _ _⟩
 case round=>
  obtain ⟨k,hk,rfl,HA,hB⟩:=hrel
  have HB:=ak hB
  have hsz:=hB.size
  by_cases hlt:k<Q.length
  ·have hdl:decide ((k:Int)<(Q.length:Int))=true:=eD (by omega)
   obtain ⟨⟨⟨x0,x1⟩,x2⟩,hx⟩:=aM hlt
   have HX:=ak hx
   obtain ⟨g,o,us,rfl,hg,hu,hr⟩:=(HQ.out.below aC hB).at_ hx
   obtain rfl:=jm hr
   obtain ⟨e0,e1,e2⟩:=Ko (a:=o+k*3) hu rfl
   have HG:=ak (show g<wr.heap.size by omega)
   have hi0:(0:Int)≤(k:Int):=eu _
   have hi1:(k:Int)<(Q.length:Int):=by omega
   have Pq:=ak (aD au HL.out HB.out)
   clear hB hx hu hr
   by_cases hm:(x0,x1)∈L
   rotate_left
   ·have HM:=ak hm
    have HN:=ak (show ¬gT L Q from fun h=>HM.out (h k _ HX.out).1)
    clear hm
    go_wp2_with fail
    refine dX (S:=(fun V=>Below (wr).heap.size (wr) V)) (by kernel_rfl) ((aW _ _).drew) (fun ah=>?_)
    refine tk 0 ah ?_
    refine tk 1 ah ?_
    refine tk 2 ah ?_
    refine tk 3 ah ?_
    refine tk 4 ah ?_
    refine tk 5 ah ?_ (hy:=fun w aj=>by (try dsimp only at aj);have k0:=(aj.cell (p:=⟨g,o+k*3,none⟩) HG.out).trans e0;have k1:=(aj.cell (p:=⟨g,o+k*3+1,none⟩) HG.out).trans e1;clear aj;go_simp;try with_reducible rfl)
    refine dw 6 (fun K hK=>?_)
    go_simp
    go_at_call 103
    refine (dW (aD au Pq.out ah)).mono ?_
    intro e w2 h
    obtain ⟨z,rfl,hz,hb⟩:=bq h
    obtain rfl:z=false:=Bool.eq_false_iff.2 fun h=>HM.out (hz.1 h)
    clear h hz
    refine hK.out _ _ (ah.trans (hb.mono ah.size)) (fun ah=>?_)
    clear hK K hb
    refine tk 7 ah ?_
    refine tk 8 ah ?_
    refine tn 9 ah ?_
    refine tn 10 ah ?_
    refine tn 11 ah ?_
    refine tn 12 ah ?_
    refine tn 13 ah ?_
    refine tn 14 ah ?_
    refine tn 15 ah ?_
    refine tk 16 ah ?_
    refine tk 17 ah ?_
    refine tn 18 ah ?_
    refine tn 19 ah ?_
    refine tn 20 ah ?_
    refine tn 21 ah ?_
    refine tn 22 ah ?_
    refine tn 23 ah ?_
    refine tn 24 ah ?_
    refine tn 25 ah ?_
    refine tn 26 ah ?_
    refine tn 27 ah ?_
    refine tn 28 ah ?_
    refine tn 29 ah ?_
    refine tn 30 ah ?_
    refine tn 31 ah ?_
    refine tn 32 ah ?_
    refine tn 33 ah ?_
    refine tn 34 ah ?_
    refine tn 35 ah ?_
    refine tk 36 ah ?_
    refine dQ ?_
    have HF:=ak ah
    clear ah
    have HB2:=ak (HB.out.trans (HF.out.mono hsz))
    clear HF
    go_wp2
    go_ret
    exact aB HN.out HB2.out
   have HM:=ak hm
   have HOx:=ak (HLR.out _ hm)
   clear hm
   obtain ⟨zi,hzi⟩:∃ z,dD x2 1 9=z:=⟨_,rfl⟩
   have HI:=ak hzi
   clear hzi
   cases zi with
   | false=>
    have HN:=ak (show ¬gT L Q from fun h=>by have h2:dD x2 1 9=true:=(h k _ HX.out).2.1;rw [HI.out] at h2;cases h2)
    go_wp2_with fail
    refine dX (S:=(fun V=>Below (wr).heap.size (wr) V)) (by kernel_rfl) ((aW _ _).drew) (fun ah=>?_)
    refine tk 0 ah ?_
    refine tk 1 ah ?_
    refine tk 2 ah ?_
    refine tk 3 ah ?_
    refine tk 4 ah ?_
    refine tk 5 ah ?_ (hy:=fun w aj=>by (try dsimp only at aj);have k0:=(aj.cell (p:=⟨g,o+k*3,none⟩) HG.out).trans e0;have k1:=(aj.cell (p:=⟨g,o+k*3+1,none⟩) HG.out).trans e1;clear aj;go_simp;try with_reducible rfl)
    refine dw 6 (fun K hK=>?_)
    go_simp
    go_at_call 103
    refine (dW (aD au Pq.out ah)).mono ?_
    intro e w2 h
    obtain ⟨z,rfl,hz,hb⟩:=bq h
    obtain rfl:z=true:=hz.2 HM.out
    clear h hz
    refine hK.out _ _ (ah.trans (hb.mono ah.size)) (fun ah=>?_)
    clear hK K hb
    refine tk 7 ah ?_
    refine tk 8 ah ?_
    refine tk 9 ah ?_
    refine tk 10 ah ?_
    refine tk 11 ah ?_
    refine tk 12 ah ?_
    refine tk 13 ah ?_ (hy:=fun w aj=>by (try dsimp only at aj);have k0:=(aj.cell (p:=⟨g,o+k*3+2,none⟩) HG.out).trans e2;clear aj;go_simp;try with_reducible rfl)
    refine dw 14 (fun K hK=>?_)
    go_simp
    go_at_call 157
    refine (oM _ _ _ HI.out _).mono ?_
    rintro e w3 ⟨rfl,rfl⟩
    have hb:=aW w2.heap.size w2
    refine hK.out _ _ (ah.trans (hb.mono ah.size)) (fun ah=>?_)
    clear hK K hb
    refine tk 15 ah ?_
    refine tk 16 ah ?_
    refine tk 17 ah ?_
    refine tn 18 ah ?_
    refine tn 19 ah ?_
    refine tn 20 ah ?_
    refine tn 21 ah ?_
    refine tn 22 ah ?_
    refine tn 23 ah ?_
    refine tn 24 ah ?_
    refine tn 25 ah ?_
    refine tn 26 ah ?_
    refine tn 27 ah ?_
    refine tn 28 ah ?_
    refine tn 29 ah ?_
    refine tn 30 ah ?_
    refine tn 31 ah ?_
    refine tn 32 ah ?_
    refine tn 33 ah ?_
    refine tn 34 ah ?_
    refine tn 35 ah ?_
    refine tk 36 ah ?_
    refine dQ ?_
    have HF:=ak ah
    clear ah
    have HB2:=ak (HB.out.trans (HF.out.mono hsz))
    clear HF
    go_wp2
    go_ret
    exact aB HN.out HB2.out
   | true=>
   cases k with
   | zero=>
    rw [Nat.zero_mul] at e0 e1 e2
    simp only [Nat.add_zero] at e0 e1 e2
    have HA2:=ak (show ∀ (j:Nat) x,j<0+1→Q[j]? = some x→okQ L Q j x from fun q y hq hy=>by
     obtain rfl:q=0:=by omega
     rw [HX.out] at hy;obtain rfl:=fC hy
     exact ⟨HM.out,HI.out,fun h=>absurd h (jH _)⟩)
    go_wp2_with fail
    refine dX (S:=(fun V=>Below (wr).heap.size (wr) V)) (by kernel_rfl) ((aW _ _).drew) (fun ah=>?_)
    refine tk 0 ah ?_
    refine tk 1 ah ?_
    refine tk 2 ah ?_
    refine tk 3 ah ?_
    refine tk 4 ah ?_
    refine tk 5 ah ?_ (hy:=fun w aj=>by (try dsimp only at aj);have k0:=(aj.cell (p:=⟨g,o,none⟩) HG.out).trans e0;have k1:=(aj.cell (p:=⟨g,o+1,none⟩) HG.out).trans e1;clear aj;go_simp;try with_reducible rfl)
    refine dw 6 (fun K hK=>?_)
    go_simp
    go_at_call 103
    refine (dW (aD au Pq.out ah)).mono ?_
    intro e w2 h
    obtain ⟨z,rfl,hz,hb⟩:=bq h
    obtain rfl:z=true:=hz.2 HM.out
    clear h hz
    refine hK.out _ _ (ah.trans (hb.mono ah.size)) (fun ah=>?_)
    clear hK K hb
    refine tk 7 ah ?_
    refine tk 8 ah ?_
    refine tk 9 ah ?_
    refine tk 10 ah ?_
    refine tk 11 ah ?_
    refine tk 12 ah ?_
    refine tk 13 ah ?_ (hy:=fun w aj=>by (try dsimp only at aj);have k0:=(aj.cell (p:=⟨g,o+2,none⟩) HG.out).trans e2;clear aj;go_simp;try with_reducible rfl)
    refine dw 14 (fun K hK=>?_)
    go_simp
    go_at_call 157
    refine (oM _ _ _ HI.out _).mono ?_
    rintro e w3 ⟨rfl,rfl⟩
    have hb:=aW w2.heap.size w2
    refine hK.out _ _ (ah.trans (hb.mono ah.size)) (fun ah=>?_)
    clear hK K hb
    refine tk 15 ah ?_
    refine tk 16 ah ?_
    refine tk 17 ah ?_
    refine tk 18 ah ?_
    refine tk 19 ah ?_
    refine tk 20 ah ?_
    refine tn 21 ah ?_
    refine tn 22 ah ?_
    refine tn 23 ah ?_
    refine tn 24 ah ?_
    refine tn 25 ah ?_
    refine tn 26 ah ?_
    refine tn 27 ah ?_
    refine tn 28 ah ?_
    refine tn 29 ah ?_
    refine tn 30 ah ?_
    refine tn 31 ah ?_
    refine tn 32 ah ?_
    refine tn 33 ah ?_
    refine tn 34 ah ?_
    refine tk 35 ah ?_
    refine tk 36 ah ?_
    refine dQ ?_
    have HF:=ak ah
    clear ah
    have HB2:=ak (HB.out.trans (HF.out.mono hsz))
    clear HF
    go_wp2
    go_roundw
    case rel=>exact ⟨0+1,by omega,by go_num,HA2,HB2.out⟩
    case measure=>simp [intOf];omega
   | succ m=>
    obtain ⟨⟨⟨y0,y1⟩,y2⟩,hy⟩:=aM (show m<Q.length by omega)
    have HY:=ak hy
    have HMy:=ak (HA.out m _ (Nat.lt_succ_self m) hy).1
    have HOy:=ak (HLR.out _ HMy.out)
    obtain ⟨g2,o2,us,hgg,hg2,hu,hr⟩:=(HQ.out.below aC HB.out).at_ hy
    obtain ⟨rfl,rfl⟩:g=g2∧o=o2:=by cases hgg;exact ⟨rfl,rfl⟩
    obtain rfl:=jm hr
    obtain ⟨d0,d1⟩:=ny (a:=o+m*3) hu rfl
    have hj0:(0:Int)≤(m:Int):=eu _
    have hj1:(m:Int)<(Q.length:Int):=by omega
    have hgt:decide ((((m+1:Nat):Int)) > 0)=true:=eD (by omega)
    have hgt2:decide (0<m+1)=true:=eD (by omega)
    have hsub:IntKind.i64.wrap (((m+1:Nat):Int)-1)=(m:Int):=by rw [show ((m+1:Nat):Int)-1=(m:Int) by omega];exact gK _ (by omega)
    have hsub2:IntKind.i64.wrap (m:Int)=(m:Int):=gK _ (by omega)
    have hi0':(0:Int)≤(m:Int)+1:=by omega
    have hi1':(m:Int)+1<(Q.length:Int):=by omega
    have hgt3:decide (0<(m:Int)+1)=true:=eD (by omega)
    have adC:IntKind.i64.wrap ((m:Int)+1-1)=(m:Int):=by rw [show (m:Int)+1-1=(m:Int) by omega];exact gK _ (by omega)
    clear hy hu hr hgg hg2
    by_cases hlb:uG (y0,y1) (x0,x1)
    ·have hge:decide (8*y0+y1 ≥ 8*x0+x1)=false:=dS ((OT HOy.out HOx.out).1 hlb)
     have hge2:decide (8*x0+x1≤8*y0+y1)=false:=hge
     have HA2:=ak (show ∀ (j:Nat) x,j<m+1+1→Q[j]? = some x→okQ L Q j x from fun q y hq hy=>by
      by_cases e:q=m+1
      ·subst e;rw [HX.out] at hy;obtain rfl:=fC hy
       refine ⟨HM.out,HI.out,fun _ z hz=>?_⟩
       rw [Nat.add_sub_cancel,HY.out] at hz;obtain rfl:=fC hz
       exact hlb
      ·exact HA.out q y (by omega) hy)
     clear hlb
     go_wp2_with fail
     refine dX (S:=(fun V=>Below (wr).heap.size (wr) V)) (by kernel_rfl) ((aW _ _).drew) (fun ah=>?_)
     refine tk 0 ah ?_
     refine tk 1 ah ?_
     refine tk 2 ah ?_
     refine tk 3 ah ?_
     refine tk 4 ah ?_
     refine tk 5 ah ?_ (hy:=fun w aj=>by (try dsimp only at aj);have k0:=(aj.cell (p:=⟨g,o+(m+1)*3,none⟩) HG.out).trans e0;have k1:=(aj.cell (p:=⟨g,o+(m+1)*3+1,none⟩) HG.out).trans e1;clear aj;go_simp;try with_reducible rfl)
     refine dw 6 (fun K hK=>?_)
     go_simp
     go_at_call 103
     refine (dW (aD au Pq.out ah)).mono ?_
     intro e w2 h
     obtain ⟨z,rfl,hz,hb⟩:=bq h
     obtain rfl:z=true:=hz.2 HM.out
     clear h hz
     refine hK.out _ _ (ah.trans (hb.mono ah.size)) (fun ah=>?_)
     clear hK K hb
     refine tk 7 ah ?_
     refine tk 8 ah ?_
     refine tk 9 ah ?_
     refine tk 10 ah ?_
     refine tk 11 ah ?_
     refine tk 12 ah ?_
     refine tk 13 ah ?_ (hy:=fun w aj=>by (try dsimp only at aj);have k0:=(aj.cell (p:=⟨g,o+(m+1)*3+2,none⟩) HG.out).trans e2;clear aj;go_simp;try with_reducible rfl)
     refine dw 14 (fun K hK=>?_)
     go_simp
     go_at_call 157
     refine (oM _ _ _ HI.out _).mono ?_
     rintro e w3 ⟨rfl,rfl⟩
     have hb:=aW w2.heap.size w2
     refine hK.out _ _ (ah.trans (hb.mono ah.size)) (fun ah=>?_)
     clear hK K hb
     refine tk 15 ah ?_
     refine tk 16 ah ?_
     refine tk 17 ah ?_
     refine tk 18 ah ?_
     refine tk 19 ah ?_
     refine tk 20 ah ?_
     refine tk 21 ah ?_
     refine tk 22 ah ?_
     refine tk 23 ah ?_
     refine tk 24 ah ?_
     refine tk 25 ah ?_
     refine tk 26 ah ?_ (hy:=fun w aj=>by (try dsimp only at aj);have k0:=(aj.cell (p:=⟨g,o+m*3,none⟩) HG.out).trans d0;have k1:=(aj.cell (p:=⟨g,o+m*3+1,none⟩) HG.out).trans d1;clear aj;go_simp;try with_reducible rfl)
     refine tk 28 ah ?_
     refine tk 29 ah ?_
     refine tk 30 ah ?_
     refine tk 31 ah ?_
     refine tk 32 ah ?_ (hy:=fun w aj=>by (try dsimp only at aj);have k0:=(aj.cell (p:=⟨g,o+(m+1)*3,none⟩) HG.out).trans e0;have k1:=(aj.cell (p:=⟨g,o+(m+1)*3+1,none⟩) HG.out).trans e1;clear aj;go_simp;try with_reducible rfl)
     refine dw 27 (fun K hK=>?_)
     go_simp
     go_at_call 124
     refine (EJ HOy.out _).mono ?_
     rintro e w4 ⟨rfl,hb⟩
     refine hK.out _ _ (ah.trans (hb.mono ah.size)) (fun ah=>?_)
     clear hK K hb
     refine dw 33 (fun K hK=>?_)
     go_simp
     go_at_call 124
     refine (EJ HOx.out _).mono ?_
     rintro e w5 ⟨rfl,hb⟩
     refine hK.out _ _ (ah.trans (hb.mono ah.size)) (fun ah=>?_)
     clear hK K hb
     refine tk 34 ah ?_
     refine tk 35 ah ?_
     refine tk 36 ah ?_
     refine dQ ?_
     have HF:=ak ah
     clear ah
     have HB2:=ak (HB.out.trans (HF.out.mono hsz))
     clear HF
     go_wp2
     go_roundw
     case rel=>exact ⟨m+1+1,by omega,by go_num,HA2,HB2.out⟩
     case measure=>simp [intOf];omega
    ·have hge:decide (8*y0+y1 ≥ 8*x0+x1)=true:=eD (Classical.byContradiction fun h=>hlb ((OT HOy.out HOx.out).2 h))
     have hge2:decide (8*x0+x1≤8*y0+y1)=true:=hge
     have HN:=ak (show ¬gT L Q from fun h=>hlb ((h (m+1) _ HX.out).2.2 (by omega) _ (by rw [Nat.add_sub_cancel];exact HY.out)))
     clear hlb
     go_wp2_with fail
     refine dX (S:=(fun V=>Below (wr).heap.size (wr) V)) (by kernel_rfl) ((aW _ _).drew) (fun ah=>?_)
     refine tk 0 ah ?_
     refine tk 1 ah ?_
     refine tk 2 ah ?_
     refine tk 3 ah ?_
     refine tk 4 ah ?_
     refine tk 5 ah ?_ (hy:=fun w aj=>by (try dsimp only at aj);have k0:=(aj.cell (p:=⟨g,o+(m+1)*3,none⟩) HG.out).trans e0;have k1:=(aj.cell (p:=⟨g,o+(m+1)*3+1,none⟩) HG.out).trans e1;clear aj;go_simp;try with_reducible rfl)
     refine dw 6 (fun K hK=>?_)
     go_simp
     go_at_call 103
     refine (dW (aD au Pq.out ah)).mono ?_
     intro e w2 h
     obtain ⟨z,rfl,hz,hb⟩:=bq h
     obtain rfl:z=true:=hz.2 HM.out
     clear h hz
     refine hK.out _ _ (ah.trans (hb.mono ah.size)) (fun ah=>?_)
     clear hK K hb
     refine tk 7 ah ?_
     refine tk 8 ah ?_
     refine tk 9 ah ?_
     refine tk 10 ah ?_
     refine tk 11 ah ?_
     refine tk 12 ah ?_
     refine tk 13 ah ?_ (hy:=fun w aj=>by (try dsimp only at aj);have k0:=(aj.cell (p:=⟨g,o+(m+1)*3+2,none⟩) HG.out).trans e2;clear aj;go_simp;try with_reducible rfl)
     refine dw 14 (fun K hK=>?_)
     go_simp
     go_at_call 157
     refine (oM _ _ _ HI.out _).mono ?_
     rintro e w3 ⟨rfl,rfl⟩
     have hb:=aW w2.heap.size w2
     refine hK.out _ _ (ah.trans (hb.mono ah.size)) (fun ah=>?_)
     clear hK K hb
     refine tk 15 ah ?_
     refine tk 16 ah ?_
     refine tk 17 ah ?_
     refine tk 18 ah ?_
     refine tk 19 ah ?_
     refine tk 20 ah ?_
     refine tk 21 ah ?_
     refine tk 22 ah ?_
     refine tk 23 ah ?_
     refine tk 24 ah ?_
     refine tk 25 ah ?_
     refine tk 26 ah ?_ (hy:=fun w aj=>by (try dsimp only at aj);have k0:=(aj.cell (p:=⟨g,o+m*3,none⟩) HG.out).trans d0;have k1:=(aj.cell (p:=⟨g,o+m*3+1,none⟩) HG.out).trans d1;clear aj;go_simp;try with_reducible rfl)
     refine tk 28 ah ?_
     refine tk 29 ah ?_
     refine tk 30 ah ?_
     refine tk 31 ah ?_
     refine tk 32 ah ?_ (hy:=fun w aj=>by (try dsimp only at aj);have k0:=(aj.cell (p:=⟨g,o+(m+1)*3,none⟩) HG.out).trans e0;have k1:=(aj.cell (p:=⟨g,o+(m+1)*3+1,none⟩) HG.out).trans e1;clear aj;go_simp;try with_reducible rfl)
     refine dw 27 (fun K hK=>?_)
     go_simp
     go_at_call 124
     refine (EJ HOy.out _).mono ?_
     rintro e w4 ⟨rfl,hb⟩
     refine hK.out _ _ (ah.trans (hb.mono ah.size)) (fun ah=>?_)
     clear hK K hb
     refine dw 33 (fun K hK=>?_)
     go_simp
     go_at_call 124
     refine (EJ HOx.out _).mono ?_
     rintro e w5 ⟨rfl,hb⟩
     refine hK.out _ _ (ah.trans (hb.mono ah.size)) (fun ah=>?_)
     clear hK K hb
     refine tk 34 ah ?_
     refine tk 35 ah ?_
     refine tk 36 ah ?_
     refine dQ ?_
     have HF:=ak ah
     clear ah
     have HB2:=ak (HB.out.trans (HF.out.mono hsz))
     clear HF
     go_wp2
     go_ret
     exact aB HN.out HB2.out
  ·have hdl:decide ((k:Int)<(Q.length:Int))=false:=dS (by omega)
   have HY:=ak (show gT L Q from fun i x hx=>HA.out i x (by have:=kM hx;omega) hx)
   clear hB
   go_wp2
   go_ret
   exact bM HY.out HB.out
def oG (C:List (List ay))(P:List bA)(Q:List aX)(hf:Int):Prop:=iW C∧dD hf 1 9=true∧(iw C).length≤8∧jl (iw C) P∧gT (iw C) Q
end
end aQ
end Go.Proofs.YtlhfiapfncikdaaGreatDoor
