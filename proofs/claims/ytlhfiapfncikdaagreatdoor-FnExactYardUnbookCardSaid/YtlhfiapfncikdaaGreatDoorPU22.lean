import Derived.Test.YtlhfiapfncikdaaGreatDoorPU20
set_option linter.unusedVariables false
set_option linter.unusedSimpArgs false
set_option maxRecDepth 100000
set_option maxHeartbeats 3200000
namespace Go.Proofs.YtlhfiapfncikdaaGreatDoor.aP
section
open Go.RowKit bN bP bJ bM Cx
theorem WQ {a b:Lb}(ha:dD.rP a.1 a.2)(hb:dD.rP b.1 b.2):dD.iY a.1 a.2 b.1 b.2=dD.bB a.1 a.2 b.1 b.2:=dD.rZ ((dD.AJ _ _).2 ha) ((dD.AJ _ _).2 hb)
theorem DJ {P:List bq}{pa:Option Addr}{pc n:Nat}{f0 f1 t0 t1 ix:Int}{W:World}(hn:P.length=n)(hix:WY P (f0,f1) (t0,t1)=ix)(hP:aH aS W W.heap.size P pa pc) :
 Calls Tryz.prog 232 #[.slice pa n pc,.agg #[.int .i64 f0,.int .i64 f1],.agg #[.int .i64 t0,.int .i64 t1]] W (Xd ix W):=by
 subst hn hix
 exact IU hP
theorem KM {L:List av}{P:List bq}{la pa:Option Addr}{lc pc:Nat}{W:World}(hLR:∀ a∈L,dD.rP a.1 a.2)(hL:aH au W W.heap.size L la lc)(hP:aH aS W W.heap.size P pa pc) :
 Calls Tryz.prog 189 #[.slice pa P.length pc,.slice la L.length lc] W (jh (jm L P) W):=by
 have hn:P.length≤9223372036854775807:=by have h1:=hP.1;have h2:=hP.2.1;unfold maxLen at h2;omega
 have hpc:=hP.1
 have HL:=aj hL
 have HP:=aj hP
 have HLR:=aj hLR
 clear hL hP hLR
 by_cases h4:P.length≤4
 rotate_left
 ·have hd:decide ((P.length:Int) > 4)=true:=eO (by omega)
  have hd':decide (4<P.length)=true:=eO (by omega)
  have HN:=aj (show ¬jm L P from fun h=>h4 h.1)
  go_enter Tryz.func189,Tryz.ntmps189
  go_wp2
  go_ret
  exact aA HN.out (aU _ _)
 have hd:decide ((P.length:Int) > 4)=false:=dU (by omega)
 have hd':decide (4<P.length)=false:=dU (by omega)
 go_enter Tryz.func189,Tryz.ntmps189
 go_wp2
 go_loopw [12] (fun i wr=>∃ k:Nat,k≤P.length∧i=.int .i64 k∧Hid (∀ (j:Nat) x,j<k→P[j]? = some x→okP L P j x)∧Below W.heap.size W wr) (fun i _=>P.length-(intOf i).toNat)
 case atStart=>exact ⟨0,dX _,rfl,aj fun j x h=>absurd h (gT _),aU _ _⟩
 case round=>
  obtain ⟨k,hk,rfl,HA,hB⟩:=hrel
  obtain ⟨wo,rfl⟩:∃ x,x=wr:=⟨_,rfl⟩
  have HB:=aj hB
  have hsz:=hB.size
  by_cases hlt:k<P.length
  ·have hdl:decide ((k:Int)<(P.length:Int))=true:=eO (by omega)
   obtain ⟨⟨⟨x0,x1⟩,⟨x2,x3⟩,x4⟩,hx⟩:=aL hlt
   have HX:=aj hx
   obtain ⟨g,o,us,rfl,hg,hu,hr⟩:=(HP.out.below aD hB).at_ hx
   obtain rfl:=lu hr
   obtain ⟨e0,e1,e2,e3,e4⟩:=SH (a:=o+k*5) hu rfl
   have hi0:(0:Int)≤(k:Int):=eu _
   have hi1:(k:Int)<(P.length:Int):=by omega
   obtain ⟨w1,hw1⟩:∃ w,w=wo.alloc (.cells #[.int .i64 x0,.int .i64 x1,.int .i64 x2,.int .i64 x3,.int .i64 x4] 176):=⟨_,rfl⟩
   have iE:Below wo.heap.size wo w1:=by rw [hw1];exact (aU _ _).alloc (bK _) _
   have dh:=aj (show aN w1 wo.heap.size 176 #[.int .i64 x0,.int .i64 x1,.int .i64 x2,.int .i64 x3,.int .i64 x4] from by rw [hw1];exact aN.new _ _ _)
   have HB1:=aj (HB.out.trans (iE.mono hsz))
   have OT:=aj (aC ak HL.out HB1.out)
   have hz1:=HB1.out.size
   obtain ⟨q0,q1,q2,q3,q4⟩:=dh.out.vw rfl
   clear hB hx hu hr
   go_wp2_with fail
   rw [←hw1]
   clear hw1 iE e0 e1 e2 e3 e4
   refine (iR OT.out).mono ?_
   intro e w2 h
   obtain ⟨z,rfl,hz,hb⟩:=bA h
   have HZ1:=aj hz
   have HB2:=aj (HB1.out.trans (hb.mono hz1))
   have HL2:=aj (aC ak OT.out hb)
   have iD:=aj (dh.out.call hb)
   have hz2:=HB2.out.size
   clear h hz hb q0 q1 q2 q3 q4 dh
   obtain ⟨q0,q1,q2,q3,q4⟩:=iD.out.vw rfl
   cases z with
   | false=>
    have HN:=aj (show ¬jm L P from fun h=>by have:=HZ1.out.2 (h.2 k _ HX.out).1;cases this)
    go_wp2
    go_ret
    exact aA HN.out HB2.out
   | true=>
   have FD:=aj (HZ1.out.1 rfl)
   go_wp2_with fail
   refine (iR HL2.out).mono ?_
   intro e w3 h
   obtain ⟨z,rfl,hz,hb⟩:=bA h
   have HZ2:=aj hz
   have HB3:=aj (HB2.out.trans (hb.mono hz2))
   have iT:=aj (iD.out.call hb)
   have hz3:=HB3.out.size
   clear h hz hb q0 q1 q2 q3 q4 iD
   obtain ⟨q0,q1,q2,q3,q4⟩:=iT.out.vw rfl
   cases z with
   | false=>
    have HN:=aj (show ¬jm L P from fun h=>by have:=HZ2.out.2 (h.2 k _ HX.out).2.1;cases this)
    go_wp2
    go_ret
    exact aA HN.out HB3.out
   | true=>
   have jg:=aj (HZ2.out.1 rfl)
   obtain ⟨z3,Pk⟩:∃ z,dD.iY x0 x1 x2 x3=z:=⟨_,rfl⟩
   have HZ3:=aj Pk
   have HZB:=aj ((WQ (HLR.out _ FD.out) (HLR.out _ jg.out)).symm.trans Pk)
   clear Pk
   go_wp2_with fail
   refine (Gr _ _ _ _ HZ3.out _).mono ?_
   rintro e w4 ⟨rfl,hb⟩
   have jU:=aj (HB3.out.trans (hb.mono hz3))
   have kL:=aj (iT.out.call hb)
   have HPk:=aj (aC aD HP.out jU.out)
   have mP:=jU.out.size
   clear hb q0 q1 q2 q3 q4 iT
   obtain ⟨q0,q1,q2,q3,q4⟩:=kL.out.vw rfl
   cases z3 with
   | true=>
    have HN:=aj (show ¬jm L P from fun h=>by have:=(h.2 k _ HX.out).2.2.1;rw [HZB.out] at this;cases this)
    go_wp2
    go_ret
    exact aA HN.out jU.out
   | false=>
   obtain ⟨z4,Sj⟩:∃ z,dI x4 1 3=z:=⟨_,rfl⟩
   have uZ:=aj Sj
   have hkc:(k:Int)≤(pc:Int):=by omega
   have hkc2:k≤pc:=by omega
   clear Sj q0 q1 q2 q3 q4
   cases z4 with
   | false=>
    have HN:=aj (show ¬jm L P from fun h=>by have:=(h.2 k _ HX.out).2.2.2.1;rw [uZ.out] at this;cases this)
    go_wp2_with fail
    refine dW (S:=(fun V=>Below (w4).heap.size (w4) V)) (by kernel_rfl) ((aU _ _).drew) (fun ah=>?_)
    refine tk 0 ah ?_
    refine tk 1 ah ?_ (hy:=fun w hSw=>by (try dsimp only at hSw);have k0:=kL.out.hat hSw 4 rfl;clear hSw;go_simp;try with_reducible rfl)
    refine cZ 2 (fun K hK=>?_)
    go_simp
    go_at_call 191
    refine (oF _ _ _ uZ.out _).mono ?_
    rintro e w5 ⟨rfl,rfl⟩
    have hb:=aU w4.drew.heap.size w4.drew
    refine hK.out _ _ (ah.trans (hb.mono ah.size)) (fun ah=>?_)
    clear hK K hb
    refine tk 3 ah ?_
    refine tk 4 ah ?_
    refine tn 5 ah ?_
    refine tn 6 ah ?_
    refine tn 7 ah ?_
    refine tn 8 ah ?_
    refine tn 9 ah ?_
    refine tn 10 ah ?_
    refine tn 11 ah ?_
    refine tn 12 ah ?_
    refine tn 13 ah ?_
    refine tk 14 ah ?_
    refine dQ ?_
    have HF:=aj ah
    clear ah
    have ny:=aj (jU.out.trans (HF.out.mono mP))
    clear HF
    go_wp2
    go_ret
    exact aA HN.out ny.out
   | true=>
   have hkt:(P.take k).length=k:=by rw [List.length_take];omega
   obtain ⟨ix,hix⟩:∃ i,WY (P.take k) (x0,x1) (x2,x3)=i:=⟨_,rfl⟩
   have HIX:=aj hix
   by_cases hge:0≤ix
   ·have hdg:decide (ix ≥ 0)=true:=eO hge
    have hdg2:decide (0≤ix)=true:=eO hge
    have HN:=aj (show ¬jm L P from fun h=>by
     obtain ⟨q,y,hy,hh⟩:=UO.1 (by rw [hix];exact hge)
     have hqk:q<k:=by have:=jE hy;omega
     rw [List.getElem?_take,if_pos hqk] at hy
     exact (h.2 k _ HX.out).2.2.2.2 q y hqk hy hh)
    clear hix hge
    go_wp2_with fail
    refine dW (S:=(fun V=>Below (w4).heap.size (w4) V)) (by kernel_rfl) ((aU _ _).drew) (fun ah=>?_)
    refine tk 0 ah ?_
    refine tk 1 ah ?_ (hy:=fun w hSw=>by (try dsimp only at hSw);have k0:=kL.out.hat hSw 4 rfl;clear hSw;go_simp;try with_reducible rfl)
    refine cZ 2 (fun K hK=>?_)
    go_simp
    go_at_call 191
    refine (oF _ _ _ uZ.out _).mono ?_
    rintro e w5 ⟨rfl,rfl⟩
    have hb:=aU w4.drew.heap.size w4.drew
    refine hK.out _ _ (ah.trans (hb.mono ah.size)) (fun ah=>?_)
    clear hK K hb
    refine tk 3 ah ?_
    refine tk 4 ah ?_
    refine tk 5 ah ?_
    refine tk 6 ah ?_
    refine tk 7 ah ?_
    refine tk 8 ah ?_
    refine tk 9 ah ?_ (hy:=fun w hSw=>by (try dsimp only at hSw);have k0:=kL.out.hat hSw 0 rfl;have k1:=kL.out.hat hSw 1 rfl;clear hSw;go_simp;try with_reducible rfl)
    refine tk 10 ah ?_
    refine tk 11 ah ?_ (hy:=fun w hSw=>by (try dsimp only at hSw);have k0:=kL.out.hat hSw 2 rfl;have k1:=kL.out.hat hSw 3 rfl;clear hSw;go_simp;try with_reducible rfl)
    refine cZ 12 (fun K hK=>?_)
    go_simp
    go_at_call 232
    refine (DJ hkt HIX.out (Ns (aC aD HPk.out ah) k)).mono ?_
    intro e w6 h
    obtain ⟨rfl,hb⟩:=iB h
    clear h
    refine hK.out _ _ (ah.trans (hb.mono ah.size)) (fun ah=>?_)
    clear hK K hb
    refine tk 13 ah ?_
    refine tk 14 ah ?_
    refine dQ ?_
    have HF:=aj ah
    clear ah
    have ny:=aj (jU.out.trans (HF.out.mono mP))
    clear HF
    go_wp2
    go_ret
    exact aA HN.out ny.out
   ·have hdg:decide (ix ≥ 0)=false:=dU hge
    have hdg2:decide (0≤ix)=false:=dU hge
    have HA2:=aj (show ∀ (j:Nat) x,j<k+1→P[j]? = some x→okP L P j x from fun q y hq hy=>by
     by_cases e:q=k
     ·subst e;rw [HX.out] at hy;obtain rfl:=fB hy
      refine ⟨FD.out,jg.out,HZB.out,uZ.out,fun r z hr hz hh=>hge ?_⟩
      rw [←hix]
      exact UO.2 ⟨r,z,by rw [List.getElem?_take,if_pos hr];exact hz,hh⟩
     ·exact HA.out q y (by omega) hy)
    clear hix hge
    go_wp2_with fail
    refine dW (S:=(fun V=>Below (w4).heap.size (w4) V)) (by kernel_rfl) ((aU _ _).drew) (fun ah=>?_)
    refine tk 0 ah ?_
    refine tk 1 ah ?_ (hy:=fun w hSw=>by (try dsimp only at hSw);have k0:=kL.out.hat hSw 4 rfl;clear hSw;go_simp;try with_reducible rfl)
    refine cZ 2 (fun K hK=>?_)
    go_simp
    go_at_call 191
    refine (oF _ _ _ uZ.out _).mono ?_
    rintro e w5 ⟨rfl,rfl⟩
    have hb:=aU w4.drew.heap.size w4.drew
    refine hK.out _ _ (ah.trans (hb.mono ah.size)) (fun ah=>?_)
    clear hK K hb
    refine tk 3 ah ?_
    refine tk 4 ah ?_
    refine tk 5 ah ?_
    refine tk 6 ah ?_
    refine tk 7 ah ?_
    refine tk 8 ah ?_
    refine tk 9 ah ?_ (hy:=fun w hSw=>by (try dsimp only at hSw);have k0:=kL.out.hat hSw 0 rfl;have k1:=kL.out.hat hSw 1 rfl;clear hSw;go_simp;try with_reducible rfl)
    refine tk 10 ah ?_
    refine tk 11 ah ?_ (hy:=fun w hSw=>by (try dsimp only at hSw);have k0:=kL.out.hat hSw 2 rfl;have k1:=kL.out.hat hSw 3 rfl;clear hSw;go_simp;try with_reducible rfl)
    refine cZ 12 (fun K hK=>?_)
    go_simp
    go_at_call 232
    refine (DJ hkt HIX.out (Ns (aC aD HPk.out ah) k)).mono ?_
    intro e w6 h
    obtain ⟨rfl,hb⟩:=iB h
    clear h
    refine hK.out _ _ (ah.trans (hb.mono ah.size)) (fun ah=>?_)
    clear hK K hb
    refine tk 13 ah ?_
    refine tk 14 ah ?_
    refine dQ ?_
    have HF:=aj ah
    clear ah
    have ny:=aj (jU.out.trans (HF.out.mono mP))
    clear HF
    go_wp2
    go_roundw
    case rel=>exact ⟨k+1,by omega,by go_num,HA2,ny.out⟩
    case measure=>simp [intOf];omega
  ·have hdl:decide ((k:Int)<(P.length:Int))=false:=dU (by omega)
   have HY:=aj (show jm L P from ⟨h4,fun i x hx=>HA.out i x (by have:=jE hx;omega) hx⟩)
   clear hB
   go_wp2
   go_ret
   exact bO HY.out HB.out
theorem zK {a0 a1 b0 b1 i:Int}{W:World}(h:gy.jV a0 a1 b0 b1=i):Calls Tryz.prog 230 #[.agg #[.int .i64 a0,.int .i64 a1],.agg #[.int .i64 b0,.int .i64 b1]] W (Xd i W):=by
 subst h
 exact (gy.zJ a0 a1 b0 b1 W).mono fun e w' ⟨he,hw⟩=>⟨he,by rw [hw];exact ((((aU _ _).alloc (bK _) _).alloc (by simp) _).drew).alloc (by show _≤_;simp;omega) _⟩
theorem IQ {L:List av}{Q:List aV}{la qa:Option Addr}{lc qc:Nat}{W:World}(hL:aH au W W.heap.size L la lc)(hQ:aH aM W W.heap.size Q qa qc) :
 Calls Tryz.prog 190 #[.slice qa Q.length qc,.slice la L.length lc] W (jh (gQ L Q) W):=by
 have hn:Q.length≤9223372036854775807:=by have h1:=hQ.1;have h2:=hQ.2.1;unfold maxLen at h2;omega
 have HL:=aj hL
 have HQ:=aj hQ
 clear hL hQ
 go_enter Tryz.func190,Tryz.ntmps190
 go_wp2
 go_loopw [9] (fun i wr=>∃ k:Nat,k≤Q.length∧i=.int .i64 k∧Hid (∀ (j:Nat) x,j<k→Q[j]? = some x→okQ L Q j x)∧Below W.heap.size W wr) (fun i _=>Q.length-(intOf i).toNat)
 case atStart=>exact ⟨0,dX _,rfl,aj fun j x h=>absurd h (gT _),aU _ _⟩
 case round=>
  obtain ⟨k,hk,rfl,HA,hB⟩:=hrel
  obtain ⟨wo,rfl⟩:∃ x,x=wr:=⟨_,rfl⟩
  have HB:=aj hB
  have hsz:=hB.size
  by_cases hlt:k<Q.length
  ·have hdl:decide ((k:Int)<(Q.length:Int))=true:=eO (by omega)
   obtain ⟨⟨⟨x0,x1⟩,x2⟩,hx⟩:=aL hlt
   have HX:=aj hx
   obtain ⟨g,o,us,rfl,hg,hu,hr⟩:=(HQ.out.below aB hB).at_ hx
   obtain rfl:=jo hr
   obtain ⟨e0,e1,e2⟩:=J8 (a:=o+k*3) hu rfl
   have hi0:(0:Int)≤(k:Int):=eu _
   have hi1:(k:Int)<(Q.length:Int):=by omega
   obtain ⟨w1,hw1⟩:∃ w,w=wo.alloc (.cells #[.int .i64 x0,.int .i64 x1,.int .i64 x2] 181):=⟨_,rfl⟩
   have iE:Below wo.heap.size wo w1:=by rw [hw1];exact (aU _ _).alloc (bK _) _
   have dh:=aj (show aN w1 wo.heap.size 181 #[.int .i64 x0,.int .i64 x1,.int .i64 x2] from by rw [hw1];exact aN.new _ _ _)
   have HB1:=aj (HB.out.trans (iE.mono hsz))
   have hz1:=HB1.out.size
   obtain ⟨zi,hzi⟩:∃ z,dI x2 1 9=z:=⟨_,rfl⟩
   have HI:=aj hzi
   clear hzi hB hx hu hr
   cases k with
   | zero=>
    rw [Nat.zero_mul] at e0 e1 e2
    simp only [Nat.add_zero] at e0 e1 e2
    go_wp2_with fail
    rw [←hw1]
    clear hw1 iE e0 e1 e2
    refine dW (S:=(fun V=>Below (w1).heap.size (w1) V)) (by kernel_rfl) ((aU _ _).drew) (fun ah=>?_)
    refine tk 0 ah ?_
    refine tk 1 ah ?_
    refine tk 2 ah ?_
    refine tn 3 ah ?_
    refine tn 4 ah ?_
    refine tn 5 ah ?_
    refine tn 6 ah ?_
    refine tn 7 ah ?_
    refine tn 8 ah ?_
    refine tn 9 ah ?_
    refine tn 10 ah ?_
    refine tn 11 ah ?_
    refine tn 12 ah ?_
    refine tk 13 ah ?_
    refine dQ ?_
    have HF:=aj ah
    clear ah
    have HB2:=aj (HB1.out.trans (HF.out.mono hz1))
    have iD:=aj (dh.out.call HF.out)
    clear HF
    obtain ⟨w2,hw2⟩:∃ w,w=w1.drew:=⟨_,rfl⟩
    rw [←hw2] at HB2 iD
    rw [←hw2]
    clear hw2
    obtain ⟨q0,q1,q2⟩:=iD.out.o8 rfl
    go_wp2_with fail
    refine (iR (aC ak HL.out HB2.out)).mono ?_
    intro e w7 h
    obtain ⟨z,rfl,hz,hb⟩:=bA h
    have HZ1:=aj hz
    have rG:=aj (HB2.out.trans (hb.mono HB2.out.size))
    have HP7:=aj (iD.out.call hb)
    clear h hz hb q0 q1 q2
    obtain ⟨q0,q1,q2⟩:=HP7.out.o8 rfl
    cases z with
    | false=>
     have HN:=aj (show ¬gQ L Q from fun h=>by have:=HZ1.out.2 (h 0 _ HX.out).1;cases this)
     go_wp2
     go_ret
     exact aA HN.out rG.out
    | true=>
    have FD:=aj (HZ1.out.1 rfl)
    go_wp2_with fail
    refine (oF _ _ _ HI.out _).mono ?_
    rintro e w8 ⟨rfl,rfl⟩
    cases zi with
    | false=>
     have HN:=aj (show ¬gQ L Q from fun h=>by have h2:dI x2 1 9=true:=(h 0 _ HX.out).2.1;rw [HI.out] at h2;cases h2)
     go_wp2
     go_ret
     exact aA HN.out rG.out
    | true=>
     have HA2:=aj (show ∀ (j:Nat) x,j<0+1→Q[j]? = some x→okQ L Q j x from fun q y hq hy=>by
      by_cases e:q=0
      ·subst e;rw [HX.out] at hy;obtain rfl:=fB hy
       exact ⟨FD.out,HI.out,fun h=>absurd h (jK _)⟩
      ·exact HA.out q y (by omega) hy)
     go_wp2
     go_roundw
     case rel=>exact ⟨0+1,by omega,by go_num,HA2,rG.out⟩
     case measure=>simp [intOf];omega
   | succ m=>
    obtain ⟨⟨⟨y0,y1⟩,y2⟩,hy⟩:=aL (show m<Q.length by omega)
    have HY:=aj hy
    obtain ⟨g2,o2,us,hgg,hg2,hu,hr⟩:=(HQ.out.below aB HB1.out).at_ hy
    obtain ⟨rfl,rfl⟩:g=g2∧o=o2:=by cases hgg;exact ⟨rfl,rfl⟩
    obtain rfl:=jo hr
    obtain ⟨d0,d1⟩:=mW (a:=o+m*3) hu rfl
    have HG:=aj (show g<w1.heap.size by omega)
    have hj0:(0:Int)≤(m:Int):=eu _
    have hj1:(m:Int)<(Q.length:Int):=by omega
    have hgt:decide ((((m+1:Nat):Int)) > 0)=true:=eO (by omega)
    have hgt2:decide (0<m+1)=true:=eO (by omega)
    have hgt3:decide (0<(m:Int)+1)=true:=eO (by omega)
    have hi0':(0:Int)≤(m:Int)+1:=by omega
    have hi1':(m:Int)+1<(Q.length:Int):=by omega
    have hsub2:IntKind.i64.wrap (m:Int)=(m:Int):=gJ _ (by omega)
    have adq:IntKind.i64.wrap ((m:Int)+1-1)=(m:Int):=by rw [show (m:Int)+1-1=(m:Int) by omega];exact gJ _ (by omega)
    obtain ⟨li,hli⟩:∃ i,gy.jV y0 y1 x0 x1=i:=⟨_,rfl⟩
    have HLI:=aj hli
    clear hy hu hr hgg hg2 hli
    by_cases hge:0≤li
    ·have hdg:decide (li ≥ 0)=true:=eO hge
     have hdg2:decide (0≤li)=true:=eO hge
     have HN:=aj (show ¬gQ L Q from fun h=>by
      have h2:=(h (m+1) _ HX.out).2.2 (by omega) _ (by rw [Nat.add_sub_cancel];exact HY.out)
      rw [←HLI.out] at hge
      exact (gy.Ou _ _ _ _).1 hge h2)
     clear hge
     go_wp2_with fail
     rw [←hw1]
     clear hw1 iE e0 e1 e2
     refine dW (S:=(fun V=>Below (w1).heap.size (w1) V)) (by kernel_rfl) ((aU _ _).drew) (fun ah=>?_)
     refine tk 0 ah ?_
     refine tk 1 ah ?_
     refine tk 2 ah ?_
     refine tk 3 ah ?_
     refine tk 4 ah ?_
     refine tk 5 ah ?_
     refine tk 6 ah ?_
     refine tk 7 ah ?_
     refine tk 8 ah ?_ (hy:=fun w hSw=>by (try dsimp only at hSw);have k0:=(hSw.cell (p:=⟨g,o+m*3,none⟩) HG.out).trans d0;have k1:=(hSw.cell (p:=⟨g,o+m*3+1,none⟩) HG.out).trans d1;clear hSw;go_simp;try with_reducible rfl)
     refine tk 9 ah ?_
     refine tk 10 ah ?_ (hy:=fun w hSw=>by (try dsimp only at hSw);have k0:=dh.out.hat hSw 0 rfl;have k1:=dh.out.hat hSw 1 rfl;clear hSw;go_simp;try with_reducible rfl)
     refine cZ 11 (fun K hK=>?_)
     go_simp
     go_at_call 230
     refine (zK HLI.out).mono ?_
     intro e w2 h
     obtain ⟨rfl,hb⟩:=iB h
     clear h
     refine hK.out _ _ (ah.trans (hb.mono ah.size)) (fun ah=>?_)
     clear hK K hb
     refine tk 12 ah ?_
     refine tk 13 ah ?_
     refine dQ ?_
     have HF:=aj ah
     clear ah
     have HB2:=aj (HB1.out.trans (HF.out.mono hz1))
     clear HF
     go_wp2
     go_ret
     exact aA HN.out HB2.out
    ·have hdg:decide (li ≥ 0)=false:=dU hge
     have hdg2:decide (0≤li)=false:=dU hge
     have HLT:=aj (show uj (y0,y1) (x0,x1) from Classical.byContradiction fun h=>hge (by rw [←HLI.out];exact (gy.Ou _ _ _ _).2 h))
     clear hge
     go_wp2_with fail
     rw [←hw1]
     clear hw1 iE e0 e1 e2
     refine dW (S:=(fun V=>Below (w1).heap.size (w1) V)) (by kernel_rfl) ((aU _ _).drew) (fun ah=>?_)
     refine tk 0 ah ?_
     refine tk 1 ah ?_
     refine tk 2 ah ?_
     refine tk 3 ah ?_
     refine tk 4 ah ?_
     refine tk 5 ah ?_
     refine tk 6 ah ?_
     refine tk 7 ah ?_
     refine tk 8 ah ?_ (hy:=fun w hSw=>by (try dsimp only at hSw);have k0:=(hSw.cell (p:=⟨g,o+m*3,none⟩) HG.out).trans d0;have k1:=(hSw.cell (p:=⟨g,o+m*3+1,none⟩) HG.out).trans d1;clear hSw;go_simp;try with_reducible rfl)
     refine tk 9 ah ?_
     refine tk 10 ah ?_ (hy:=fun w hSw=>by (try dsimp only at hSw);have k0:=dh.out.hat hSw 0 rfl;have k1:=dh.out.hat hSw 1 rfl;clear hSw;go_simp;try with_reducible rfl)
     refine cZ 11 (fun K hK=>?_)
     go_simp
     go_at_call 230
     refine (zK HLI.out).mono ?_
     intro e w2 h
     obtain ⟨rfl,hb⟩:=iB h
     clear h
     refine hK.out _ _ (ah.trans (hb.mono ah.size)) (fun ah=>?_)
     clear hK K hb
     refine tk 12 ah ?_
     refine tk 13 ah ?_
     refine dQ ?_
     have HF:=aj ah
     clear ah
     have HB2:=aj (HB1.out.trans (HF.out.mono hz1))
     have iD:=aj (dh.out.call HF.out)
     clear HF d0 d1
     obtain ⟨q0,q1,q2⟩:=iD.out.o8 rfl
     go_wp2_with fail
     refine (iR (aC ak HL.out HB2.out)).mono ?_
     intro e w7 h
     obtain ⟨z,rfl,hz,hb⟩:=bA h
     have HZ1:=aj hz
     have rG:=aj (HB2.out.trans (hb.mono HB2.out.size))
     have HP7:=aj (iD.out.call hb)
     clear h hz hb q0 q1 q2
     obtain ⟨q0,q1,q2⟩:=HP7.out.o8 rfl
     cases z with
     | false=>
      have HN:=aj (show ¬gQ L Q from fun h=>by have:=HZ1.out.2 (h (m+1) _ HX.out).1;cases this)
      go_wp2
      go_ret
      exact aA HN.out rG.out
     | true=>
     have FD:=aj (HZ1.out.1 rfl)
     go_wp2_with fail
     refine (oF _ _ _ HI.out _).mono ?_
     rintro e w8 ⟨rfl,rfl⟩
     cases zi with
     | false=>
      have HN:=aj (show ¬gQ L Q from fun h=>by have h2:dI x2 1 9=true:=(h (m+1) _ HX.out).2.1;rw [HI.out] at h2;cases h2)
      go_wp2
      go_ret
      exact aA HN.out rG.out
     | true=>
      have HA2:=aj (show ∀ (j:Nat) x,j<(m+1)+1→Q[j]? = some x→okQ L Q j x from fun q y hq hy=>by
       by_cases e:q=(m+1)
       ·subst e;rw [HX.out] at hy;obtain rfl:=fB hy
        exact ⟨FD.out,HI.out,fun _ z hz=>by rw [Nat.add_sub_cancel,HY.out] at hz;obtain rfl:=fB hz;exact HLT.out⟩
       ·exact HA.out q y (by omega) hy)
      go_wp2
      go_roundw
      case rel=>exact ⟨(m+1)+1,by omega,by go_num,HA2,rG.out⟩
      case measure=>simp [intOf];omega
  ·have hdl:decide ((k:Int)<(Q.length:Int))=false:=dU (by omega)
   have HY:=aj (show gQ L Q from fun i x hx=>HA.out i x (by have:=jE hx;omega) hx)
   clear hB
   go_wp2
   go_ret
   exact bO HY.out HB.out
theorem Jj {C:List (List av)}{P:List bq}{Q:List aV}{hf:Int}{ca pa qa:Option Addr}{cc pc qc:Nat}{W:World}(hC:aH (Sl au) W W.heap.size C ca cc)(hP:aH aS W W.heap.size P pa pc)(hQ:aH aM W W.heap.size Q qa qc) :
 Calls Tryz.prog 130 #[.agg #[.slice ca C.length cc,.slice pa P.length pc,.slice qa Q.length qc,.int .i64 hf]] W (sD (CW C P Q hf) W):=by
 obtain ⟨z,hz⟩:∃ z,CW C P Q hf=z:=⟨_,rfl⟩
 have HZ:=aj (show z=true↔oo C P Q hf from by rw [←hz];exact kQ)
 rw [hz]
 clear hz
 refine Calls.mono ?_ fun e w' h=>Nr HZ.out h
 obtain ⟨zh,hzh⟩:∃ z,dI hf 1 9=z:=⟨_,rfl⟩
 have HH:=aj hzh
 clear hzh HZ
 obtain ⟨M,hM⟩:∃ M,iw C=M:=⟨_,rfl⟩
 have HMr:=aj (show ∀ a∈M,dD.rP a.1 a.2 from by rw [←hM];exact fun a ha=>(Bf.1 ha).1)
 have HMs:=aj (show M.Pairwise uj from by rw [←hM];exact qW C 32)
 have HM:=aj hM
 clear hM
 obtain ⟨w0,hw0⟩:∃ w,w=W.alloc (.cells #[.slice ca C.length cc,.slice pa P.length pc,.slice qa Q.length qc,.int .i64 hf] 39):=⟨_,rfl⟩
 have hb0:Below W.heap.size W w0:=by rw [hw0];exact (aU _ _).alloc (bK _) _
 have x0:aN w0 (W.heap.size) 39 #[.slice ca C.length cc,.slice pa P.length pc,.slice qa Q.length qc,.int .i64 hf]:=by
  have h9:=aN.new W 39 #[.slice ca C.length cc,.slice pa P.length pc,.slice qa Q.length qc,.int .i64 hf]
  try simp only [World.size_alloc] at h9
  rw [hw0];exact h9
 have X0:=aj x0
 have HC:=aj (aC (aY ak) hC hb0)
 have HP:=aj (aC aD hP hb0)
 have HQ:=aj (aC aB hQ hb0)
 have HB0:=aj hb0
 have hz0:=hb0.size
 clear hb0 hC hP hQ x0
 go_enter Tryz.func130,Tryz.ntmps130
 obtain ⟨dB,dA,dz,dx⟩:=X0.out.jG rfl
 go_wp2_with fail
 rw [←hw0]
 clear hw0
 refine (zA HC.out).mono ?_
 intro e v1 h
 obtain ⟨z1,rfl,hz1,hb1⟩:=bA h
 have HZ1:=aj hz1
 have HC:=aj (aC (aY ak) HC.out hb1)
 have HP:=aj (aC aD HP.out hb1)
 have HQ:=aj (aC aB HQ.out hb1)
 have X0:=aj (X0.out.call hb1)
 have HB0:=aj (HB0.out.trans (hb1.mono HB0.out.size))
 clear h hz1 hb1 dB dA dz dx
 obtain ⟨dB,dA,dz,dx⟩:=X0.out.jG rfl
 cases z1 with
 | false=>
  have HN:=aj (show ¬oo C P Q hf from fun h=>by have:=HZ1.out.2 (h.1);cases this)
  go_wp2
  go_ret
  exact aA HN.out HB0.out
 | true=>
 have HY1:=aj (HZ1.out.1 rfl)
 go_wp2_with fail
 have hlb:=DZ HY1.out HC.out
 rw [HM.out] at hlb
 refine hlb.mono ?_
 intro e v2 h
 obtain ⟨la,lc,rfl,ho,hb2⟩:=bI h
 have HL:=aj (ho.rd ak (B:=v2.heap.size) fun k hk=>hk.2)
 have HC:=aj (aC (aY ak) HC.out hb2)
 have HP:=aj (aC aD HP.out hb2)
 have HQ:=aj (aC aB HQ.out hb2)
 have X0:=aj (X0.out.call hb2)
 have HB0:=aj (HB0.out.trans (hb2.mono HB0.out.size))
 clear h ho hlb hb2 dB dA dz dx
 obtain ⟨dB,dA,dz,dx⟩:=X0.out.jG rfl
 by_cases h8:M.length≤8
 rotate_left
 ·have hd:decide ((M.length:Int)≤8)=false:=dU (by omega)
  have hd':decide (M.length≤8)=false:=dU h8
  have HN:=aj (show ¬oo C P Q hf from fun h=>h8 (by rw [←HM.out];exact h.2.2.1))
  go_wp2
  go_ret
  exact aA HN.out HB0.out
 have hd:decide ((M.length:Int)≤8)=true:=eO (by omega)
 have hd':decide (M.length≤8)=true:=eO h8
 go_wp2_with fail
 refine (KM HMr.out HL.out HP.out).mono ?_
 intro e v3 h
 obtain ⟨z3,rfl,hz3,hb3⟩:=bA h
 have HZ3:=aj hz3
 have HC:=aj (aC (aY ak) HC.out hb3)
 have HP:=aj (aC aD HP.out hb3)
 have HQ:=aj (aC aB HQ.out hb3)
 have HL:=aj (aC ak HL.out hb3)
 have X0:=aj (X0.out.call hb3)
 have HB0:=aj (HB0.out.trans (hb3.mono HB0.out.size))
 clear h hz3 hb3 dB dA dz dx
 obtain ⟨dB,dA,dz,dx⟩:=X0.out.jG rfl
 cases z3 with
 | false=>
  have HN:=aj (show ¬oo C P Q hf from fun h=>by have:=HZ3.out.2 (by rw [←HM.out];exact h.2.2.2.1);cases this)
  go_wp2
  go_ret
  exact aA HN.out HB0.out
 | true=>
 have HY3:=aj (HZ3.out.1 rfl)
 go_wp2_with fail
 refine (IQ HL.out HQ.out).mono ?_
 intro e v4 h
 obtain ⟨z4,rfl,mP,hb4⟩:=bA h
 have uZ:=aj mP
 have HC:=aj (aC (aY ak) HC.out hb4)
 have HP:=aj (aC aD HP.out hb4)
 have HQ:=aj (aC aB HQ.out hb4)
 have HL:=aj (aC ak HL.out hb4)
 have X0:=aj (X0.out.call hb4)
 have HB0:=aj (HB0.out.trans (hb4.mono HB0.out.size))
 clear h mP hb4 dB dA dz dx
 obtain ⟨dB,dA,dz,dx⟩:=X0.out.jG rfl
 cases z4 with
 | false=>
  have HN:=aj (show ¬oo C P Q hf from fun h=>by have:=uZ.out.2 (by rw [←HM.out];exact h.2.2.2.2);cases this)
  go_wp2
  go_ret
  exact aA HN.out HB0.out
 | true=>
 have HY4:=aj (uZ.out.1 rfl)
 go_wp2_with fail
 refine (oF _ _ _ HH.out _).mono ?_
 rintro e w9 ⟨rfl,rfl⟩
 cases zh with
 | false=>
  have HN:=aj (show ¬oo C P Q hf from fun h=>by have:=h.2.1;rw [HH.out] at this;cases this)
  go_wp2
  go_ret
  exact aA HN.out HB0.out
 | true=>
 have HY:=aj (show oo C P Q hf from ⟨HY1.out,HH.out,by rw [HM.out];exact h8,by rw [HM.out];exact HY3.out,by rw [HM.out];exact HY4.out⟩)
 go_wp2
 go_ret
 exact bO HY.out HB0.out
end
section
open Go.RowKit bN bP bJ bM
theorem Jh {C:List (List av)}{P:List bq}{Q:List aV}{hf:Int}{ca pa qa:Option Addr}{cc pc qc:Nat}{W:World}(hR:oo C P Q hf)(hq:Q.length≤1048576)(hC:aH (Sl au) W W.heap.size C ca cc)(hP:aH aS W W.heap.size P pa pc)(hQ:aH aM W W.heap.size Q qa qc) :
 Calls Tryz.prog 137 #[.agg #[.slice ca C.length cc,.slice pa P.length pc,.slice qa Q.length qc,.int .i64 hf]] W (kU bZ (C,P,Q,hf) W):=by
 have hcl:=hR.1
 have hp4:P.length≤1048576:=eH hR.2.2.2.1.1 (by omega)
 have JE:=aj hC
 have FC:=aj hP
 have JB:=aj hQ
 clear hR hC hP hQ
 obtain ⟨w0,hw0⟩:∃ w,w=(W.alloc (.cells #[.slice ca C.length cc,.slice pa P.length pc,.slice qa Q.length qc,.int .i64 hf] 39)).alloc (.cells #[.slice none 0 0,.slice none 0 0,.slice none 0 0,.int .i64 0] 39):=⟨_,rfl⟩
 have hb0:Below W.heap.size W w0:=by rw [hw0];exact ((aU _ _).alloc (bK _) _).alloc (by simp) _
 have kX:aN w0 (W.heap.size) 39 #[.slice ca C.length cc,.slice pa P.length pc,.slice qa Q.length qc,.int .i64 hf]:=by
  have h9:=aN.new W 39 #[.slice ca C.length cc,.slice pa P.length pc,.slice qa Q.length qc,.int .i64 hf]
  try simp only [World.size_alloc] at h9
  rw [hw0];exact (h9.alloc _)
 have X0:=aj kX
 have qE:aN w0 (W.heap.size+1) 39 #[.slice none 0 0,.slice none 0 0,.slice none 0 0,.int .i64 0]:=by
  have h9:=aN.new (W.alloc (.cells #[.slice ca C.length cc,.slice pa P.length pc,.slice qa Q.length qc,.int .i64 hf] 39)) 39 #[.slice none 0 0,.slice none 0 0,.slice none 0 0,.int .i64 0]
  try simp only [World.size_alloc] at h9
  rw [hw0];exact h9
 have X1:=aj qE
 have HB0:=aj hb0
 have hz0:=hb0.size
 clear hb0  kX qE
 have hs0:w0.heap.size=W.heap.size+1+1:=by rw [hw0];simp
 go_enter Tryz.func137,Tryz.ntmps137
 go_upto_region 1 with fail
 rw [←hw0]
 clear hw0
 refine dW (S:=fun V=>Below W.heap.size W V∧aN V W.heap.size 39 #[.slice ca C.length cc,.slice pa P.length pc,.slice qa Q.length qc,.int .i64 hf]∧∃ cs,aN V (W.heap.size+1) 39 cs) (by kernel_rfl) (⟨HB0.out.drew,X0.out.call (aU _ w0).drew,⟨_,X1.out.call (aU _ w0).drew⟩⟩) (fun ah=>?_)
 refine tk 0 ah ?_
 refine tk 1 ah ?_ (hy:=fun w hSw=>by (try dsimp only at hSw);have k0:=hSw.2.1.at_ 0 rfl;clear hSw;go_simp;try with_reducible rfl)
 refine tk 3 ah ?_
 refine tk 4 ah ?_ (hy:=fun w hSw=>by (try dsimp only at hSw);have k0:=hSw.2.1.at_ 1 rfl;clear hSw;go_simp;try with_reducible rfl)
 refine tk 6 ah ?_
 refine tk 7 ah ?_ (hy:=fun w hSw=>by (try dsimp only at hSw);have k0:=hSw.2.1.at_ 2 rfl;clear hSw;go_simp;try with_reducible rfl)
 refine tk 9 ah ?_
 refine tk 10 ah ?_ (hy:=fun w hSw=>by (try dsimp only at hSw);have k0:=hSw.2.1.at_ 3 rfl;clear hSw;go_simp;try with_reducible rfl)
 refine cZ 2 (fun K hK=>?_)
 go_simp
 go_at_call 206
 refine (Cq hcl (aC (aY ak) JE.out ah.1)).mono ?_
 intro e w2 h
 obtain ⟨a0,c0,rfl,ho,hb⟩:=bI h
 have yU:=aj (show bG (Sl au) w2 (Rg w0.heap.size w2.heap.size) C a0 c0 from ho)
 have hz2:w0.heap.size≤w2.heap.size:=hb.size
 clear ho
 have X1:=aj (X1.out.call ((aU _ w0).drew.trans hb))
 refine hK.out _ _ ⟨ah.1.trans (hb.mono ah.1.size),ah.2.1.call hb,by obtain ⟨_,hh⟩:=ah.2.2;exact ⟨_,hh.call hb⟩⟩ (fun ah=>?_)
 clear hK K h hb
 refine cZ 5 (fun K hK=>?_)
 go_simp
 go_at_call 207
 refine (LP hp4 (aC aD FC.out ah.1)).mono ?_
 intro e w3 h
 obtain ⟨a1,c1,rfl,ho,hb⟩:=bI h
 have rF:=aj ho
 have yU:=aj (yU.out.keep (aY ak) fun q hq=>hb.block q hq.2)
 have hz3:w2.heap.size≤w3.heap.size:=hb.size
 clear ho
 have X1:=aj (X1.out.call hb)
 refine hK.out _ _ ⟨ah.1.trans (hb.mono ah.1.size),ah.2.1.call hb,by obtain ⟨_,hh⟩:=ah.2.2;exact ⟨_,hh.call hb⟩⟩ (fun ah=>?_)
 clear hK K h hb
 refine cZ 8 (fun K hK=>?_)
 go_simp
 go_at_call 208
 refine (Jl hq (aC aB JB.out ah.1)).mono ?_
 intro e w4 h
 obtain ⟨a2,c2,rfl,ho,hb⟩:=bI h
 have vg:=aj ho
 have yU:=aj (yU.out.keep (aY ak) fun q hq=>hb.block q (bV hq.2 hz3))
 have rF:=aj (rF.out.keep aD fun q hq=>hb.block q hq.2)
 have mP:w3.heap.size≤w4.heap.size:=hb.size
 clear ho
 have X1:=aj (X1.out.call hb)
 refine hK.out _ _ ⟨ah.1.trans (hb.mono ah.1.size),ah.2.1.call hb,by obtain ⟨_,hh⟩:=ah.2.2;exact ⟨_,hh.call hb⟩⟩ (fun ah=>?_)
 clear hK K h hb
 refine tk 11 ah ?_
 refine cZ 12 (fun K hK=>?_)
 obtain ⟨q0,q1,q2,q3⟩:=X1.out.jG rfl
 obtain ⟨f0,f1,f2,f3⟩:=X1.out.Cy
 go_simp
 have HST:=aj (yG w4 (W.heap.size+1) (.slice a0 C.length c0) (.slice a1 P.length c1) (.slice a2 Q.length c2) (.int .i64 hf))
 have rD:=aj (yH (w:=w4) (g:=W.heap.size+1) (v0:=.slice a0 C.length c0) (v1:=.slice a1 P.length c1) (v2:=.slice a2 Q.length c2) (v3:=.int .i64 hf) X1.out)
 refine hK.out _ _ ⟨jA ah.1 HST.out (fun k hk=>by rw [hk];omega) ah.1.size,aN.off ah.2.1 HST.out ah.2.1.lt (by omega),⟨_,rD.out⟩⟩ (fun ah=>?_)
 clear hK K q0 f0 q1 f1 q2 f2 q3 f3
 refine dQ ?_
 have uw:=aj ah.1
 clear ah
 obtain ⟨r0,r1,r2,r3⟩:=rD.out.jG rfl
 go_wp2
 refine qA (v:=.agg #[.slice a0 C.length c0,.slice a1 P.length c1,.slice a2 Q.length c2,.int .i64 hf]) (by simp [results,Tryz.results137,go_sem, *]) rfl ⟨[.slice a0 C.length c0,.slice a1 P.length c1,.slice a2 Q.length c2,.int .i64 hf],rfl,?_,uw.out⟩
 have hsz:=HST.out.size
 have hoff:∀ q,w0.heap.size≤q→q<w4.heap.size→q<w4.heap.size∧¬q=W.heap.size+1:=fun q h1 h2=>⟨h2,by omega⟩
 exact nP (T0:=Rg w0.heap.size w2.heap.size) (T1:=Rg w2.heap.size w3.heap.size) (T2:=Rg w3.heap.size w4.heap.size) (fun k hk=>⟨by have:=hk.1;omega,by have:=hk.2;omega⟩) (fun k hk=>⟨by have:=hk.1;omega,by have:=hk.2;omega⟩) (fun k hk=>⟨by have:=hk.1;omega,by have:=hk.2;omega⟩) (fun k h h'=>by have h1:=h.2;have h2:=h'.1;omega) (fun k h h'=>by have h1:=h.2;have h2:=h'.1;omega) (fun k h h'=>by have h1:=h.2;have h2:=h'.1;omega) (xG (aY ak) yU.out HST.out fun q hq=>hoff q hq.1 (by have:=hq.2;omega)) (xG aD rF.out HST.out fun q hq=>hoff q (by have:=hq.1;omega) (by have:=hq.2;omega)) (xG aB vg.out HST.out fun q hq=>hoff q (by have:=hq.1;omega) hq.2)
end
end Go.Proofs.YtlhfiapfncikdaaGreatDoor.aP
