import Derived.Test.YtlhfiapfncikdaaGreatDoorPN20
set_option linter.unusedVariables false
set_option linter.unusedSimpArgs false
set_option maxRecDepth 100000
set_option maxHeartbeats 3200000
namespace Go.Proofs.YtlhfiapfncikdaaGreatDoor
namespace aQ
section
open Go.RowKit bN bO bJ bQ CF
theorem Xd {a b:Lb}(ha:dH.rP a.1 a.2)(hb:dH.rP b.1 b.2):dH.iV a.1 a.2 b.1 b.2=dH.bB a.1 a.2 b.1 b.2:=dH.sI ((dH.AX _ _).2 ha) ((dH.AX _ _).2 hb)
theorem DV {P:List bA}{pa:Option Addr}{pc n:Nat}{f0 f1 t0 t1 ix:Int}{W:World}(hn:P.length=n)(hix:Xm P (f0,f1) (t0,t1)=ix)(hP:aJ aT W W.heap.size P pa pc) :
 Calls Tryz.prog 232 #[.slice pa n pc,.agg #[.int .i64 f0,.int .i64 f1],.agg #[.int .i64 t0,.int .i64 t1]] W (Xt ix W):=by
 subst hn hix
 exact Jb hP
theorem Lc {L:List ay}{P:List bA}{la pa:Option Addr}{lc pc:Nat}{W:World}(hLR:∀ a∈L,dH.rP a.1 a.2)(hL:aJ av W W.heap.size L la lc)(hP:aJ aT W W.heap.size P pa pc) :
 Calls Tryz.prog 189 #[.slice pa P.length pc,.slice la L.length lc] W (jf (jl L P) W):=by
 have hn:P.length≤9223372036854775807:=by have h1:=hP.1;have h2:=hP.2.1;unfold maxLen at h2;omega
 have hpc:=hP.1
 have HL:=ak hL
 have HP:=ak hP
 have HLR:=ak hLR
 clear hL hP hLR
 by_cases h4:P.length≤4
 rotate_left
 ·have hd:decide ((P.length:Int) > 4)=true:=eD (by omega)
  have hd':decide (4<P.length)=true:=eD (by omega)
  have HN:=ak (show ¬jl L P from fun h=>h4 h.1)
  go_enter Tryz.func189,Tryz.ntmps189
  go_wp2
  go_ret
  exact aB HN.out (aW _ _)
 have hd:decide ((P.length:Int) > 4)=false:=dS (by omega)
 have hd':decide (4<P.length)=false:=dS (by omega)
 go_enter Tryz.func189,Tryz.ntmps189
 go_wp2
 go_loopw [12] (fun i wr=>∃ k:Nat,k≤P.length∧i=.int .i64 k∧Hid (∀ (j:Nat) x,j<k→P[j]? = some x→okP L P j x)∧Below W.heap.size W wr) (fun i _=>P.length-(intOf i).toNat)
 case atStart=>exact ⟨0,dV _,rfl,ak fun j x h=>absurd h (gZ _),aW _ _⟩
 case round=>
  obtain ⟨k,hk,rfl,HA,hB⟩:=hrel
  obtain ⟨wo,rfl⟩:∃ x,x=wr:=⟨_,rfl⟩
  have HB:=ak hB
  have hsz:=hB.size
  by_cases hlt:k<P.length
  ·have hdl:decide ((k:Int)<(P.length:Int))=true:=eD (by omega)
   obtain ⟨⟨⟨x0,x1⟩,⟨x2,x3⟩,x4⟩,hx⟩:=aM hlt
   have HX:=ak hx
   obtain ⟨g,o,us,rfl,hg,hu,hr⟩:=(HP.out.below aG hB).at_ hx
   obtain rfl:=lC hr
   obtain ⟨e0,e1,e2,e3,e4⟩:=Tj (a:=o+k*5) hu rfl
   have hi0:(0:Int)≤(k:Int):=eu _
   have hi1:(k:Int)<(P.length:Int):=by omega
   obtain ⟨w1,hw1⟩:∃ w,w=wo.alloc (.cells #[.int .i64 x0,.int .i64 x1,.int .i64 x2,.int .i64 x3,.int .i64 x4] 176):=⟨_,rfl⟩
   have iE:Below wo.heap.size wo w1:=by rw [hw1];exact (aW _ _).alloc (bK _) _
   have cZ:=ak (show aO w1 wo.heap.size 176 #[.int .i64 x0,.int .i64 x1,.int .i64 x2,.int .i64 x3,.int .i64 x4] from by rw [hw1];exact aO.new _ _ _)
   have HB1:=ak (HB.out.trans (iE.mono hsz))
   have Pq:=ak (aD au HL.out HB1.out)
   have hz1:=HB1.out.size
   obtain ⟨q0,q1,q2,q3,q4⟩:=cZ.out.vN rfl
   clear hB hx hu hr
   go_wp2_with fail
   rw [←hw1]
   clear hw1 iE e0 e1 e2 e3 e4
   refine (iR Pq.out).mono ?_
   intro e w2 h
   obtain ⟨z,rfl,hz,hb⟩:=bq h
   have HZ1:=ak hz
   have HB2:=ak (HB1.out.trans (hb.mono hz1))
   have HL2:=ak (aD au Pq.out hb)
   have iD:=ak (cZ.out.call hb)
   have hz2:=HB2.out.size
   clear h hz hb q0 q1 q2 q3 q4 cZ
   obtain ⟨q0,q1,q2,q3,q4⟩:=iD.out.vN rfl
   cases z with
   | false=>
    have HN:=ak (show ¬jl L P from fun h=>by have:=HZ1.out.2 (h.2 k _ HX.out).1;cases this)
    go_wp2
    go_ret
    exact aB HN.out HB2.out
   | true=>
   have Cz:=ak (HZ1.out.1 rfl)
   go_wp2_with fail
   refine (iR HL2.out).mono ?_
   intro e w3 h
   obtain ⟨z,rfl,hz,hb⟩:=bq h
   have HZ2:=ak hz
   have HB3:=ak (HB2.out.trans (hb.mono hz2))
   have iG:=ak (iD.out.call hb)
   have hz3:=HB3.out.size
   clear h hz hb q0 q1 q2 q3 q4 iD
   obtain ⟨q0,q1,q2,q3,q4⟩:=iG.out.vN rfl
   cases z with
   | false=>
    have HN:=ak (show ¬jl L P from fun h=>by have:=HZ2.out.2 (h.2 k _ HX.out).2.1;cases this)
    go_wp2
    go_ret
    exact aB HN.out HB3.out
   | true=>
   have je:=ak (HZ2.out.1 rfl)
   obtain ⟨z3,PW⟩:∃ z,dH.iV x0 x1 x2 x3=z:=⟨_,rfl⟩
   have HZ3:=ak PW
   have HZB:=ak ((Xd (HLR.out _ Cz.out) (HLR.out _ je.out)).symm.trans PW)
   clear PW
   go_wp2_with fail
   refine (GI _ _ _ _ HZ3.out _).mono ?_
   rintro e w4 ⟨rfl,hb⟩
   have jL:=ak (HB3.out.trans (hb.mono hz3))
   have j5:=ak (iG.out.call hb)
   have HPk:=ak (aD aG HP.out jL.out)
   have lW:=jL.out.size
   clear hb q0 q1 q2 q3 q4 iG
   obtain ⟨q0,q1,q2,q3,q4⟩:=j5.out.vN rfl
   cases z3 with
   | true=>
    have HN:=ak (show ¬jl L P from fun h=>by have:=(h.2 k _ HX.out).2.2.1;rw [HZB.out] at this;cases this)
    go_wp2
    go_ret
    exact aB HN.out jL.out
   | false=>
   obtain ⟨z4,SK⟩:∃ z,dD x4 1 3=z:=⟨_,rfl⟩
   have vI:=ak SK
   have hkc:(k:Int)≤(pc:Int):=by omega
   have hkc2:k≤pc:=by omega
   clear SK q0 q1 q2 q3 q4
   cases z4 with
   | false=>
    have HN:=ak (show ¬jl L P from fun h=>by have:=(h.2 k _ HX.out).2.2.2.1;rw [vI.out] at this;cases this)
    go_wp2_with fail
    refine dX (S:=(fun V=>Below (w4).heap.size (w4) V)) (by kernel_rfl) ((aW _ _).drew) (fun ah=>?_)
    refine tk 0 ah ?_
    refine tk 1 ah ?_ (hy:=fun w aj=>by (try dsimp only at aj);have k0:=j5.out.hat aj 4 rfl;clear aj;go_simp;try with_reducible rfl)
    refine dw 2 (fun K hK=>?_)
    go_simp
    go_at_call 191
    refine (oL _ _ _ vI.out _).mono ?_
    rintro e w5 ⟨rfl,rfl⟩
    have hb:=aW w4.drew.heap.size w4.drew
    refine hK.out _ _ (ah.trans (hb.mono ah.size)) (fun ah=>?_)
    clear hK K hb
    refine tk 3 ah ?_
    refine tk 4 ah ?_
    refine tn 5 ah ?_
    refine tn 6 ah ?_
    refine tn 7 ah ?_
    refine tn 8 ah ?_
    refine tn 9 ah ?_
    refine tn 10 ah ?_
    refine tn 11 ah ?_
    refine tn 12 ah ?_
    refine tn 13 ah ?_
    refine tk 14 ah ?_
    refine dQ ?_
    have HF:=ak ah
    clear ah
    have lX:=ak (jL.out.trans (HF.out.mono lW))
    clear HF
    go_wp2
    go_ret
    exact aB HN.out lX.out
   | true=>
   have hkt:(P.take k).length=k:=by rw [List.length_take];omega
   obtain ⟨ix,hix⟩:∃ i,Xm (P.take k) (x0,x1) (x2,x3)=i:=⟨_,rfl⟩
   have HIX:=ak hix
   by_cases hge:0≤ix
   ·have hdg:decide (ix ≥ 0)=true:=eD hge
    have hdg2:decide (0≤ix)=true:=eD hge
    have HN:=ak (show ¬jl L P from fun h=>by
     obtain ⟨q,y,hy,hh⟩:=U9.1 (by rw [hix];exact hge)
     have hqk:q<k:=by have:=kM hy;omega
     rw [List.getElem?_take,if_pos hqk] at hy
     exact (h.2 k _ HX.out).2.2.2.2 q y hqk hy hh)
    clear hix hge
    go_wp2_with fail
    refine dX (S:=(fun V=>Below (w4).heap.size (w4) V)) (by kernel_rfl) ((aW _ _).drew) (fun ah=>?_)
    refine tk 0 ah ?_
    refine tk 1 ah ?_ (hy:=fun w aj=>by (try dsimp only at aj);have k0:=j5.out.hat aj 4 rfl;clear aj;go_simp;try with_reducible rfl)
    refine dw 2 (fun K hK=>?_)
    go_simp
    go_at_call 191
    refine (oL _ _ _ vI.out _).mono ?_
    rintro e w5 ⟨rfl,rfl⟩
    have hb:=aW w4.drew.heap.size w4.drew
    refine hK.out _ _ (ah.trans (hb.mono ah.size)) (fun ah=>?_)
    clear hK K hb
    refine tk 3 ah ?_
    refine tk 4 ah ?_
    refine tk 5 ah ?_
    refine tk 6 ah ?_
    refine tk 7 ah ?_
    refine tk 8 ah ?_
    refine tk 9 ah ?_ (hy:=fun w aj=>by (try dsimp only at aj);have k0:=j5.out.hat aj 0 rfl;have k1:=j5.out.hat aj 1 rfl;clear aj;go_simp;try with_reducible rfl)
    refine tk 10 ah ?_
    refine tk 11 ah ?_ (hy:=fun w aj=>by (try dsimp only at aj);have k0:=j5.out.hat aj 2 rfl;have k1:=j5.out.hat aj 3 rfl;clear aj;go_simp;try with_reducible rfl)
    refine dw 12 (fun K hK=>?_)
    go_simp
    go_at_call 232
    refine (DV hkt HIX.out (NT (aD aG HPk.out ah) k)).mono ?_
    intro e w6 h
    obtain ⟨rfl,hb⟩:=iB h
    clear h
    refine hK.out _ _ (ah.trans (hb.mono ah.size)) (fun ah=>?_)
    clear hK K hb
    refine tk 13 ah ?_
    refine tk 14 ah ?_
    refine dQ ?_
    have HF:=ak ah
    clear ah
    have lX:=ak (jL.out.trans (HF.out.mono lW))
    clear HF
    go_wp2
    go_ret
    exact aB HN.out lX.out
   ·have hdg:decide (ix ≥ 0)=false:=dS hge
    have hdg2:decide (0≤ix)=false:=dS hge
    have HA2:=ak (show ∀ (j:Nat) x,j<k+1→P[j]? = some x→okP L P j x from fun q y hq hy=>by
     by_cases e:q=k
     ·subst e;rw [HX.out] at hy;obtain rfl:=fC hy
      refine ⟨Cz.out,je.out,HZB.out,vI.out,fun r z hr hz hh=>hge ?_⟩
      rw [←hix]
      exact U9.2 ⟨r,z,by rw [List.getElem?_take,if_pos hr];exact hz,hh⟩
     ·exact HA.out q y (by omega) hy)
    clear hix hge
    go_wp2_with fail
    refine dX (S:=(fun V=>Below (w4).heap.size (w4) V)) (by kernel_rfl) ((aW _ _).drew) (fun ah=>?_)
    refine tk 0 ah ?_
    refine tk 1 ah ?_ (hy:=fun w aj=>by (try dsimp only at aj);have k0:=j5.out.hat aj 4 rfl;clear aj;go_simp;try with_reducible rfl)
    refine dw 2 (fun K hK=>?_)
    go_simp
    go_at_call 191
    refine (oL _ _ _ vI.out _).mono ?_
    rintro e w5 ⟨rfl,rfl⟩
    have hb:=aW w4.drew.heap.size w4.drew
    refine hK.out _ _ (ah.trans (hb.mono ah.size)) (fun ah=>?_)
    clear hK K hb
    refine tk 3 ah ?_
    refine tk 4 ah ?_
    refine tk 5 ah ?_
    refine tk 6 ah ?_
    refine tk 7 ah ?_
    refine tk 8 ah ?_
    refine tk 9 ah ?_ (hy:=fun w aj=>by (try dsimp only at aj);have k0:=j5.out.hat aj 0 rfl;have k1:=j5.out.hat aj 1 rfl;clear aj;go_simp;try with_reducible rfl)
    refine tk 10 ah ?_
    refine tk 11 ah ?_ (hy:=fun w aj=>by (try dsimp only at aj);have k0:=j5.out.hat aj 2 rfl;have k1:=j5.out.hat aj 3 rfl;clear aj;go_simp;try with_reducible rfl)
    refine dw 12 (fun K hK=>?_)
    go_simp
    go_at_call 232
    refine (DV hkt HIX.out (NT (aD aG HPk.out ah) k)).mono ?_
    intro e w6 h
    obtain ⟨rfl,hb⟩:=iB h
    clear h
    refine hK.out _ _ (ah.trans (hb.mono ah.size)) (fun ah=>?_)
    clear hK K hb
    refine tk 13 ah ?_
    refine tk 14 ah ?_
    refine dQ ?_
    have HF:=ak ah
    clear ah
    have lX:=ak (jL.out.trans (HF.out.mono lW))
    clear HF
    go_wp2
    go_roundw
    case rel=>exact ⟨k+1,by omega,by go_num,HA2,lX.out⟩
    case measure=>simp [intOf];omega
  ·have hdl:decide ((k:Int)<(P.length:Int))=false:=dS (by omega)
   have HY:=ak (show jl L P from ⟨h4,fun i x hx=>HA.out i x (by have:=kM hx;omega) hx⟩)
   clear hB
   go_wp2
   go_ret
   exact bM HY.out HB.out
theorem zW {a0 a1 b0 b1 i:Int}{W:World}(h:gB.jT a0 a1 b0 b1=i):Calls Tryz.prog 230 #[.agg #[.int .i64 a0,.int .i64 a1],.agg #[.int .i64 b0,.int .i64 b1]] W (Xt i W):=by
 subst h
 exact (gB.zV a0 a1 b0 b1 W).mono fun e w' ⟨he,hw⟩=>⟨he,by rw [hw];exact ((((aW _ _).alloc (bK _) _).alloc (by simp) _).drew).alloc (by show _≤_;simp;omega) _⟩
theorem Ja {L:List ay}{Q:List aX}{la qa:Option Addr}{lc qc:Nat}{W:World}(hL:aJ av W W.heap.size L la lc)(hQ:aJ aN W W.heap.size Q qa qc) :
 Calls Tryz.prog 190 #[.slice qa Q.length qc,.slice la L.length lc] W (jf (gT L Q) W):=by
 have hn:Q.length≤9223372036854775807:=by have h1:=hQ.1;have h2:=hQ.2.1;unfold maxLen at h2;omega
 have HL:=ak hL
 have HQ:=ak hQ
 clear hL hQ
 go_enter Tryz.func190,Tryz.ntmps190
 go_wp2
 go_loopw [9] (fun i wr=>∃ k:Nat,k≤Q.length∧i=.int .i64 k∧Hid (∀ (j:Nat) x,j<k→Q[j]? = some x→okQ L Q j x)∧Below W.heap.size W wr) (fun i _=>Q.length-(intOf i).toNat)
 case atStart=>exact ⟨0,dV _,rfl,ak fun j x h=>absurd h (gZ _),aW _ _⟩
 case round=>
  obtain ⟨k,hk,rfl,HA,hB⟩:=hrel
  obtain ⟨wo,rfl⟩:∃ x,x=wr:=⟨_,rfl⟩
  have HB:=ak hB
  have hsz:=hB.size
  by_cases hlt:k<Q.length
  ·have hdl:decide ((k:Int)<(Q.length:Int))=true:=eD (by omega)
   obtain ⟨⟨⟨x0,x1⟩,x2⟩,hx⟩:=aM hlt
   have HX:=ak hx
   obtain ⟨g,o,us,rfl,hg,hu,hr⟩:=(HQ.out.below aC hB).at_ hx
   obtain rfl:=jm hr
   obtain ⟨e0,e1,e2⟩:=Ko (a:=o+k*3) hu rfl
   have hi0:(0:Int)≤(k:Int):=eu _
   have hi1:(k:Int)<(Q.length:Int):=by omega
   obtain ⟨w1,hw1⟩:∃ w,w=wo.alloc (.cells #[.int .i64 x0,.int .i64 x1,.int .i64 x2] 181):=⟨_,rfl⟩
   have iE:Below wo.heap.size wo w1:=by rw [hw1];exact (aW _ _).alloc (bK _) _
   have cZ:=ak (show aO w1 wo.heap.size 181 #[.int .i64 x0,.int .i64 x1,.int .i64 x2] from by rw [hw1];exact aO.new _ _ _)
   have HB1:=ak (HB.out.trans (iE.mono hsz))
   have hz1:=HB1.out.size
   obtain ⟨zi,hzi⟩:∃ z,dD x2 1 9=z:=⟨_,rfl⟩
   have HI:=ak hzi
   clear hzi hB hx hu hr
   cases k with
   | zero=>
    rw [Nat.zero_mul] at e0 e1 e2
    simp only [Nat.add_zero] at e0 e1 e2
    go_wp2_with fail
    rw [←hw1]
    clear hw1 iE e0 e1 e2
    refine dX (S:=(fun V=>Below (w1).heap.size (w1) V)) (by kernel_rfl) ((aW _ _).drew) (fun ah=>?_)
    refine tk 0 ah ?_
    refine tk 1 ah ?_
    refine tk 2 ah ?_
    refine tn 3 ah ?_
    refine tn 4 ah ?_
    refine tn 5 ah ?_
    refine tn 6 ah ?_
    refine tn 7 ah ?_
    refine tn 8 ah ?_
    refine tn 9 ah ?_
    refine tn 10 ah ?_
    refine tn 11 ah ?_
    refine tn 12 ah ?_
    refine tk 13 ah ?_
    refine dQ ?_
    have HF:=ak ah
    clear ah
    have HB2:=ak (HB1.out.trans (HF.out.mono hz1))
    have iD:=ak (cZ.out.call HF.out)
    clear HF
    obtain ⟨w2,hw2⟩:∃ w,w=w1.drew:=⟨_,rfl⟩
    rw [←hw2] at HB2 iD
    rw [←hw2]
    clear hw2
    obtain ⟨q0,q1,q2⟩:=iD.out.pz rfl
    go_wp2_with fail
    refine (iR (aD au HL.out HB2.out)).mono ?_
    intro e w7 h
    obtain ⟨z,rfl,hz,hb⟩:=bq h
    have HZ1:=ak hz
    have rR:=ak (HB2.out.trans (hb.mono HB2.out.size))
    have HP7:=ak (iD.out.call hb)
    clear h hz hb q0 q1 q2
    obtain ⟨q0,q1,q2⟩:=HP7.out.pz rfl
    cases z with
    | false=>
     have HN:=ak (show ¬gT L Q from fun h=>by have:=HZ1.out.2 (h 0 _ HX.out).1;cases this)
     go_wp2
     go_ret
     exact aB HN.out rR.out
    | true=>
    have Cz:=ak (HZ1.out.1 rfl)
    go_wp2_with fail
    refine (oL _ _ _ HI.out _).mono ?_
    rintro e w8 ⟨rfl,rfl⟩
    cases zi with
    | false=>
     have HN:=ak (show ¬gT L Q from fun h=>by have h2:dD x2 1 9=true:=(h 0 _ HX.out).2.1;rw [HI.out] at h2;cases h2)
     go_wp2
     go_ret
     exact aB HN.out rR.out
    | true=>
     have HA2:=ak (show ∀ (j:Nat) x,j<0+1→Q[j]? = some x→okQ L Q j x from fun q y hq hy=>by
      by_cases e:q=0
      ·subst e;rw [HX.out] at hy;obtain rfl:=fC hy
       exact ⟨Cz.out,HI.out,fun h=>absurd h (jH _)⟩
      ·exact HA.out q y (by omega) hy)
     go_wp2
     go_roundw
     case rel=>exact ⟨0+1,by omega,by go_num,HA2,rR.out⟩
     case measure=>simp [intOf];omega
   | succ m=>
    obtain ⟨⟨⟨y0,y1⟩,y2⟩,hy⟩:=aM (show m<Q.length by omega)
    have HY:=ak hy
    obtain ⟨g2,o2,us,hgg,hg2,hu,hr⟩:=(HQ.out.below aC HB1.out).at_ hy
    obtain ⟨rfl,rfl⟩:g=g2∧o=o2:=by cases hgg;exact ⟨rfl,rfl⟩
    obtain rfl:=jm hr
    obtain ⟨d0,d1⟩:=ny (a:=o+m*3) hu rfl
    have HG:=ak (show g<w1.heap.size by omega)
    have hj0:(0:Int)≤(m:Int):=eu _
    have hj1:(m:Int)<(Q.length:Int):=by omega
    have hgt:decide ((((m+1:Nat):Int)) > 0)=true:=eD (by omega)
    have hgt2:decide (0<m+1)=true:=eD (by omega)
    have hgt3:decide (0<(m:Int)+1)=true:=eD (by omega)
    have hi0':(0:Int)≤(m:Int)+1:=by omega
    have hi1':(m:Int)+1<(Q.length:Int):=by omega
    have hsub2:IntKind.i64.wrap (m:Int)=(m:Int):=gK _ (by omega)
    have adC:IntKind.i64.wrap ((m:Int)+1-1)=(m:Int):=by rw [show (m:Int)+1-1=(m:Int) by omega];exact gK _ (by omega)
    obtain ⟨li,hli⟩:∃ i,gB.jT y0 y1 x0 x1=i:=⟨_,rfl⟩
    have HLI:=ak hli
    clear hy hu hr hgg hg2 hli
    by_cases hge:0≤li
    ·have hdg:decide (li ≥ 0)=true:=eD hge
     have hdg2:decide (0≤li)=true:=eD hge
     have HN:=ak (show ¬gT L Q from fun h=>by
      have h2:=(h (m+1) _ HX.out).2.2 (by omega) _ (by rw [Nat.add_sub_cancel];exact HY.out)
      rw [←HLI.out] at hge
      exact (gB.OU _ _ _ _).1 hge h2)
     clear hge
     go_wp2_with fail
     rw [←hw1]
     clear hw1 iE e0 e1 e2
     refine dX (S:=(fun V=>Below (w1).heap.size (w1) V)) (by kernel_rfl) ((aW _ _).drew) (fun ah=>?_)
     refine tk 0 ah ?_
     refine tk 1 ah ?_
     refine tk 2 ah ?_
     refine tk 3 ah ?_
     refine tk 4 ah ?_
     refine tk 5 ah ?_
     refine tk 6 ah ?_
     refine tk 7 ah ?_
     refine tk 8 ah ?_ (hy:=fun w aj=>by (try dsimp only at aj);have k0:=(aj.cell (p:=⟨g,o+m*3,none⟩) HG.out).trans d0;have k1:=(aj.cell (p:=⟨g,o+m*3+1,none⟩) HG.out).trans d1;clear aj;go_simp;try with_reducible rfl)
     refine tk 9 ah ?_
     refine tk 10 ah ?_ (hy:=fun w aj=>by (try dsimp only at aj);have k0:=cZ.out.hat aj 0 rfl;have k1:=cZ.out.hat aj 1 rfl;clear aj;go_simp;try with_reducible rfl)
     refine dw 11 (fun K hK=>?_)
     go_simp
     go_at_call 230
     refine (zW HLI.out).mono ?_
     intro e w2 h
     obtain ⟨rfl,hb⟩:=iB h
     clear h
     refine hK.out _ _ (ah.trans (hb.mono ah.size)) (fun ah=>?_)
     clear hK K hb
     refine tk 12 ah ?_
     refine tk 13 ah ?_
     refine dQ ?_
     have HF:=ak ah
     clear ah
     have HB2:=ak (HB1.out.trans (HF.out.mono hz1))
     clear HF
     go_wp2
     go_ret
     exact aB HN.out HB2.out
    ·have hdg:decide (li ≥ 0)=false:=dS hge
     have hdg2:decide (0≤li)=false:=dS hge
     have HLT:=ak (show uG (y0,y1) (x0,x1) from Classical.byContradiction fun h=>hge (by rw [←HLI.out];exact (gB.OU _ _ _ _).2 h))
     clear hge
     go_wp2_with fail
     rw [←hw1]
     clear hw1 iE e0 e1 e2
     refine dX (S:=(fun V=>Below (w1).heap.size (w1) V)) (by kernel_rfl) ((aW _ _).drew) (fun ah=>?_)
     refine tk 0 ah ?_
     refine tk 1 ah ?_
     refine tk 2 ah ?_
     refine tk 3 ah ?_
     refine tk 4 ah ?_
     refine tk 5 ah ?_
     refine tk 6 ah ?_
     refine tk 7 ah ?_
     refine tk 8 ah ?_ (hy:=fun w aj=>by (try dsimp only at aj);have k0:=(aj.cell (p:=⟨g,o+m*3,none⟩) HG.out).trans d0;have k1:=(aj.cell (p:=⟨g,o+m*3+1,none⟩) HG.out).trans d1;clear aj;go_simp;try with_reducible rfl)
     refine tk 9 ah ?_
     refine tk 10 ah ?_ (hy:=fun w aj=>by (try dsimp only at aj);have k0:=cZ.out.hat aj 0 rfl;have k1:=cZ.out.hat aj 1 rfl;clear aj;go_simp;try with_reducible rfl)
     refine dw 11 (fun K hK=>?_)
     go_simp
     go_at_call 230
     refine (zW HLI.out).mono ?_
     intro e w2 h
     obtain ⟨rfl,hb⟩:=iB h
     clear h
     refine hK.out _ _ (ah.trans (hb.mono ah.size)) (fun ah=>?_)
     clear hK K hb
     refine tk 12 ah ?_
     refine tk 13 ah ?_
     refine dQ ?_
     have HF:=ak ah
     clear ah
     have HB2:=ak (HB1.out.trans (HF.out.mono hz1))
     have iD:=ak (cZ.out.call HF.out)
     clear HF d0 d1
     obtain ⟨q0,q1,q2⟩:=iD.out.pz rfl
     go_wp2_with fail
     refine (iR (aD au HL.out HB2.out)).mono ?_
     intro e w7 h
     obtain ⟨z,rfl,hz,hb⟩:=bq h
     have HZ1:=ak hz
     have rR:=ak (HB2.out.trans (hb.mono HB2.out.size))
     have HP7:=ak (iD.out.call hb)
     clear h hz hb q0 q1 q2
     obtain ⟨q0,q1,q2⟩:=HP7.out.pz rfl
     cases z with
     | false=>
      have HN:=ak (show ¬gT L Q from fun h=>by have:=HZ1.out.2 (h (m+1) _ HX.out).1;cases this)
      go_wp2
      go_ret
      exact aB HN.out rR.out
     | true=>
     have Cz:=ak (HZ1.out.1 rfl)
     go_wp2_with fail
     refine (oL _ _ _ HI.out _).mono ?_
     rintro e w8 ⟨rfl,rfl⟩
     cases zi with
     | false=>
      have HN:=ak (show ¬gT L Q from fun h=>by have h2:dD x2 1 9=true:=(h (m+1) _ HX.out).2.1;rw [HI.out] at h2;cases h2)
      go_wp2
      go_ret
      exact aB HN.out rR.out
     | true=>
      have HA2:=ak (show ∀ (j:Nat) x,j<(m+1)+1→Q[j]? = some x→okQ L Q j x from fun q y hq hy=>by
       by_cases e:q=(m+1)
       ·subst e;rw [HX.out] at hy;obtain rfl:=fC hy
        exact ⟨Cz.out,HI.out,fun _ z hz=>by rw [Nat.add_sub_cancel,HY.out] at hz;obtain rfl:=fC hz;exact HLT.out⟩
       ·exact HA.out q y (by omega) hy)
      go_wp2
      go_roundw
      case rel=>exact ⟨(m+1)+1,by omega,by go_num,HA2,rR.out⟩
      case measure=>simp [intOf];omega
  ·have hdl:decide ((k:Int)<(Q.length:Int))=false:=dS (by omega)
   have HY:=ak (show gT L Q from fun i x hx=>HA.out i x (by have:=kM hx;omega) hx)
   clear hB
   go_wp2
   go_ret
   exact bM HY.out HB.out
theorem Jy {C:List (List ay)}{P:List bA}{Q:List aX}{hf:Int}{ca pa qa:Option Addr}{cc pc qc:Nat}{W:World}(hC:aJ (Sl av) W W.heap.size C ca cc)(hP:aJ aT W W.heap.size P pa pc)(hQ:aJ aN W W.heap.size Q qa qc) :
 Calls Tryz.prog 130 #[.agg #[.slice ca C.length cc,.slice pa P.length pc,.slice qa Q.length qc,.int .i64 hf]] W (sS (C8 C P Q hf) W):=by
 obtain ⟨z,hz⟩:∃ z,C8 C P Q hf=z:=⟨_,rfl⟩
 have HZ:=ak (show z=true↔oG C P Q hf from by rw [←hz];exact kP)
 rw [hz]
 clear hz
 refine Calls.mono ?_ fun e w' h=>NS HZ.out h
 obtain ⟨zh,hzh⟩:∃ z,dD hf 1 9=z:=⟨_,rfl⟩
 have HH:=ak hzh
 clear hzh HZ
 obtain ⟨M,hM⟩:∃ M,iw C=M:=⟨_,rfl⟩
 have HMr:=ak (show ∀ a∈M,dH.rP a.1 a.2 from by rw [←hM];exact fun a ha=>(Bp.1 ha).1)
 have HMs:=ak (show M.Pairwise uG from by rw [←hM];exact rA C 32)
 have HM:=ak hM
 clear hM
 obtain ⟨w0,hw0⟩:∃ w,w=W.alloc (.cells #[.slice ca C.length cc,.slice pa P.length pc,.slice qa Q.length qc,.int .i64 hf] 39):=⟨_,rfl⟩
 have hb0:Below W.heap.size W w0:=by rw [hw0];exact (aW _ _).alloc (bK _) _
 have x0:aO w0 (W.heap.size) 39 #[.slice ca C.length cc,.slice pa P.length pc,.slice qa Q.length qc,.int .i64 hf]:=by
  have h9:=aO.new W 39 #[.slice ca C.length cc,.slice pa P.length pc,.slice qa Q.length qc,.int .i64 hf]
  try simp only [World.size_alloc] at h9
  rw [hw0];exact h9
 have X0:=ak x0
 have HC:=ak (aD (aZ au) hC hb0)
 have HP:=ak (aD aG hP hb0)
 have HQ:=ak (aD aC hQ hb0)
 have HB0:=ak hb0
 have hz0:=hb0.size
 clear hb0 hC hP hQ x0
 go_enter Tryz.func130,Tryz.ntmps130
 obtain ⟨dB,dA,dz,dx⟩:=X0.out.jE rfl
 go_wp2_with fail
 rw [←hw0]
 clear hw0
 refine (zM HC.out).mono ?_
 intro e v1 h
 obtain ⟨z1,rfl,hz1,hb1⟩:=bq h
 have HZ1:=ak hz1
 have HC:=ak (aD (aZ au) HC.out hb1)
 have HP:=ak (aD aG HP.out hb1)
 have HQ:=ak (aD aC HQ.out hb1)
 have X0:=ak (X0.out.call hb1)
 have HB0:=ak (HB0.out.trans (hb1.mono HB0.out.size))
 clear h hz1 hb1 dB dA dz dx
 obtain ⟨dB,dA,dz,dx⟩:=X0.out.jE rfl
 cases z1 with
 | false=>
  have HN:=ak (show ¬oG C P Q hf from fun h=>by have:=HZ1.out.2 (h.1);cases this)
  go_wp2
  go_ret
  exact aB HN.out HB0.out
 | true=>
 have HY1:=ak (HZ1.out.1 rfl)
 go_wp2_with fail
 have hlb:=Ei HY1.out HC.out
 rw [HM.out] at hlb
 refine hlb.mono ?_
 intro e v2 h
 obtain ⟨la,lc,rfl,ho,hb2⟩:=bL h
 have HL:=ak (ho.rd au (B:=v2.heap.size) fun k hk=>hk.2)
 have HC:=ak (aD (aZ au) HC.out hb2)
 have HP:=ak (aD aG HP.out hb2)
 have HQ:=ak (aD aC HQ.out hb2)
 have X0:=ak (X0.out.call hb2)
 have HB0:=ak (HB0.out.trans (hb2.mono HB0.out.size))
 clear h ho hlb hb2 dB dA dz dx
 obtain ⟨dB,dA,dz,dx⟩:=X0.out.jE rfl
 by_cases h8:M.length≤8
 rotate_left
 ·have hd:decide ((M.length:Int)≤8)=false:=dS (by omega)
  have hd':decide (M.length≤8)=false:=dS h8
  have HN:=ak (show ¬oG C P Q hf from fun h=>h8 (by rw [←HM.out];exact h.2.2.1))
  go_wp2
  go_ret
  exact aB HN.out HB0.out
 have hd:decide ((M.length:Int)≤8)=true:=eD (by omega)
 have hd':decide (M.length≤8)=true:=eD h8
 go_wp2_with fail
 refine (Lc HMr.out HL.out HP.out).mono ?_
 intro e v3 h
 obtain ⟨z3,rfl,hz3,hb3⟩:=bq h
 have HZ3:=ak hz3
 have HC:=ak (aD (aZ au) HC.out hb3)
 have HP:=ak (aD aG HP.out hb3)
 have HQ:=ak (aD aC HQ.out hb3)
 have HL:=ak (aD au HL.out hb3)
 have X0:=ak (X0.out.call hb3)
 have HB0:=ak (HB0.out.trans (hb3.mono HB0.out.size))
 clear h hz3 hb3 dB dA dz dx
 obtain ⟨dB,dA,dz,dx⟩:=X0.out.jE rfl
 cases z3 with
 | false=>
  have HN:=ak (show ¬oG C P Q hf from fun h=>by have:=HZ3.out.2 (by rw [←HM.out];exact h.2.2.2.1);cases this)
  go_wp2
  go_ret
  exact aB HN.out HB0.out
 | true=>
 have HY3:=ak (HZ3.out.1 rfl)
 go_wp2_with fail
 refine (Ja HL.out HQ.out).mono ?_
 intro e v4 h
 obtain ⟨z4,rfl,lW,hb4⟩:=bq h
 have vI:=ak lW
 have HC:=ak (aD (aZ au) HC.out hb4)
 have HP:=ak (aD aG HP.out hb4)
 have HQ:=ak (aD aC HQ.out hb4)
 have HL:=ak (aD au HL.out hb4)
 have X0:=ak (X0.out.call hb4)
 have HB0:=ak (HB0.out.trans (hb4.mono HB0.out.size))
 clear h lW hb4 dB dA dz dx
 obtain ⟨dB,dA,dz,dx⟩:=X0.out.jE rfl
 cases z4 with
 | false=>
  have HN:=ak (show ¬oG C P Q hf from fun h=>by have:=vI.out.2 (by rw [←HM.out];exact h.2.2.2.2);cases this)
  go_wp2
  go_ret
  exact aB HN.out HB0.out
 | true=>
 have HY4:=ak (vI.out.1 rfl)
 go_wp2_with fail
 refine (oL _ _ _ HH.out _).mono ?_
 rintro e w9 ⟨rfl,rfl⟩
 cases zh with
 | false=>
  have HN:=ak (show ¬oG C P Q hf from fun h=>by have:=h.2.1;rw [HH.out] at this;cases this)
  go_wp2
  go_ret
  exact aB HN.out HB0.out
 | true=>
 have HY:=ak (show oG C P Q hf from ⟨HY1.out,HH.out,by rw [HM.out];exact h8,by rw [HM.out];exact HY3.out,by rw [HM.out];exact HY4.out⟩)
 go_wp2
 go_ret
 exact bM HY.out HB0.out
end
section
open Go.RowKit bN bO bJ bQ
theorem Jv {C:List (List ay)}{P:List bA}{Q:List aX}{hf:Int}{ca pa qa:Option Addr}{cc pc qc:Nat}{W:World}(hR:oG C P Q hf)(hq:Q.length≤1048576)(hC:aJ (Sl av) W W.heap.size C ca cc)(hP:aJ aT W W.heap.size P pa pc)(hQ:aJ aN W W.heap.size Q qa qc) :
 Calls Tryz.prog 137 #[.agg #[.slice ca C.length cc,.slice pa P.length pc,.slice qa Q.length qc,.int .i64 hf]] W (kT cu (C,P,Q,hf) W):=by
 have hcl:=hR.1
 have hp4:P.length≤1048576:=eF hR.2.2.2.1.1 (by omega)
 have JU:=ak hC
 have FM:=ak hP
 have JQ:=ak hQ
 clear hR hC hP hQ
 obtain ⟨w0,hw0⟩:∃ w,w=(W.alloc (.cells #[.slice ca C.length cc,.slice pa P.length pc,.slice qa Q.length qc,.int .i64 hf] 39)).alloc (.cells #[.slice none 0 0,.slice none 0 0,.slice none 0 0,.int .i64 0] 39):=⟨_,rfl⟩
 have hb0:Below W.heap.size W w0:=by rw [hw0];exact ((aW _ _).alloc (bK _) _).alloc (by simp) _
 have kW:aO w0 (W.heap.size) 39 #[.slice ca C.length cc,.slice pa P.length pc,.slice qa Q.length qc,.int .i64 hf]:=by
  have h9:=aO.new W 39 #[.slice ca C.length cc,.slice pa P.length pc,.slice qa Q.length qc,.int .i64 hf]
  try simp only [World.size_alloc] at h9
  rw [hw0];exact (h9.alloc _)
 have X0:=ak kW
 have qH:aO w0 (W.heap.size+1) 39 #[.slice none 0 0,.slice none 0 0,.slice none 0 0,.int .i64 0]:=by
  have h9:=aO.new (W.alloc (.cells #[.slice ca C.length cc,.slice pa P.length pc,.slice qa Q.length qc,.int .i64 hf] 39)) 39 #[.slice none 0 0,.slice none 0 0,.slice none 0 0,.int .i64 0]
  try simp only [World.size_alloc] at h9
  rw [hw0];exact h9
 have X1:=ak qH
 have HB0:=ak hb0
 have hz0:=hb0.size
 clear hb0  kW qH
 have hs0:w0.heap.size=W.heap.size+1+1:=by rw [hw0];simp
 go_enter Tryz.func137,Tryz.ntmps137
 go_upto_region 1 with fail
 rw [←hw0]
 clear hw0
 refine dX (S:=fun V=>Below W.heap.size W V∧aO V W.heap.size 39 #[.slice ca C.length cc,.slice pa P.length pc,.slice qa Q.length qc,.int .i64 hf]∧∃ cs,aO V (W.heap.size+1) 39 cs) (by kernel_rfl) (⟨HB0.out.drew,X0.out.call (aW _ w0).drew,⟨_,X1.out.call (aW _ w0).drew⟩⟩) (fun ah=>?_)
 refine tk 0 ah ?_
 refine tk 1 ah ?_ (hy:=fun w aj=>by (try dsimp only at aj);have k0:=aj.2.1.at_ 0 rfl;clear aj;go_simp;try with_reducible rfl)
 refine tk 3 ah ?_
 refine tk 4 ah ?_ (hy:=fun w aj=>by (try dsimp only at aj);have k0:=aj.2.1.at_ 1 rfl;clear aj;go_simp;try with_reducible rfl)
 refine tk 6 ah ?_
 refine tk 7 ah ?_ (hy:=fun w aj=>by (try dsimp only at aj);have k0:=aj.2.1.at_ 2 rfl;clear aj;go_simp;try with_reducible rfl)
 refine tk 9 ah ?_
 refine tk 10 ah ?_ (hy:=fun w aj=>by (try dsimp only at aj);have k0:=aj.2.1.at_ 3 rfl;clear aj;go_simp;try with_reducible rfl)
 refine dw 2 (fun K hK=>?_)
 go_simp
 go_at_call 206
 refine (Cu hcl (aD (aZ au) JU.out ah.1)).mono ?_
 intro e w2 h
 obtain ⟨a0,c0,rfl,ho,hb⟩:=bL h
 have zo:=ak (show bH (Sl av) w2 (Rg w0.heap.size w2.heap.size) C a0 c0 from ho)
 have hz2:w0.heap.size≤w2.heap.size:=hb.size
 clear ho
 have X1:=ak (X1.out.call ((aW _ w0).drew.trans hb))
 refine hK.out _ _ ⟨ah.1.trans (hb.mono ah.1.size),ah.2.1.call hb,by obtain ⟨_,hh⟩:=ah.2.2;exact ⟨_,hh.call hb⟩⟩ (fun ah=>?_)
 clear hK K h hb
 refine dw 5 (fun K hK=>?_)
 go_simp
 go_at_call 207
 refine (Mh hp4 (aD aG FM.out ah.1)).mono ?_
 intro e w3 h
 obtain ⟨a1,c1,rfl,ho,hb⟩:=bL h
 have rQ:=ak ho
 have zo:=ak (zo.out.keep (aZ au) fun q hq=>hb.block q hq.2)
 have hz3:w2.heap.size≤w3.heap.size:=hb.size
 clear ho
 have X1:=ak (X1.out.call hb)
 refine hK.out _ _ ⟨ah.1.trans (hb.mono ah.1.size),ah.2.1.call hb,by obtain ⟨_,hh⟩:=ah.2.2;exact ⟨_,hh.call hb⟩⟩ (fun ah=>?_)
 clear hK K h hb
 refine dw 8 (fun K hK=>?_)
 go_simp
 go_at_call 208
 refine (JA hq (aD aC JQ.out ah.1)).mono ?_
 intro e w4 h
 obtain ⟨a2,c2,rfl,ho,hb⟩:=bL h
 have vJ:=ak ho
 have zo:=ak (zo.out.keep (aZ au) fun q hq=>hb.block q (bV hq.2 hz3))
 have rQ:=ak (rQ.out.keep aG fun q hq=>hb.block q hq.2)
 have lW:w3.heap.size≤w4.heap.size:=hb.size
 clear ho
 have X1:=ak (X1.out.call hb)
 refine hK.out _ _ ⟨ah.1.trans (hb.mono ah.1.size),ah.2.1.call hb,by obtain ⟨_,hh⟩:=ah.2.2;exact ⟨_,hh.call hb⟩⟩ (fun ah=>?_)
 clear hK K h hb
 refine tk 11 ah ?_
 refine dw 12 (fun K hK=>?_)
 obtain ⟨q0,q1,q2,q3⟩:=X1.out.jE rfl
 obtain ⟨f0,f1,f2,f3⟩:=X1.out.CG
 go_simp
 have HST:=ak (yS w4 (W.heap.size+1) (.slice a0 C.length c0) (.slice a1 P.length c1) (.slice a2 Q.length c2) (.int .i64 hf))
 have rM:=ak (yT (w:=w4) (g:=W.heap.size+1) (v0:=.slice a0 C.length c0) (v1:=.slice a1 P.length c1) (v2:=.slice a2 Q.length c2) (v3:=.int .i64 hf) X1.out)
 refine hK.out _ _ ⟨jA ah.1 HST.out (fun k hk=>by rw [hk];omega) ah.1.size,aO.off ah.2.1 HST.out ah.2.1.lt (by omega),⟨_,rM.out⟩⟩ (fun ah=>?_)
 clear hK K q0 f0 q1 f1 q2 f2 q3 f3
 refine dQ ?_
 have uK:=ak ah.1
 clear ah
 obtain ⟨r0,r1,r2,r3⟩:=rM.out.jE rfl
 go_wp2
 refine qC (v:=.agg #[.slice a0 C.length c0,.slice a1 P.length c1,.slice a2 Q.length c2,.int .i64 hf]) (by simp [results,Tryz.results137,go_sem, *]) rfl ⟨[.slice a0 C.length c0,.slice a1 P.length c1,.slice a2 Q.length c2,.int .i64 hf],rfl,?_,uK.out⟩
 have hsz:=HST.out.size
 have hoff:∀ q,w0.heap.size≤q→q<w4.heap.size→q<w4.heap.size∧¬q=W.heap.size+1:=fun q h1 h2=>⟨h2,by omega⟩
 exact nY (T0:=Rg w0.heap.size w2.heap.size) (T1:=Rg w2.heap.size w3.heap.size) (T2:=Rg w3.heap.size w4.heap.size) (fun k hk=>⟨by have:=hk.1;omega,by have:=hk.2;omega⟩) (fun k hk=>⟨by have:=hk.1;omega,by have:=hk.2;omega⟩) (fun k hk=>⟨by have:=hk.1;omega,by have:=hk.2;omega⟩) (fun k h h'=>by have h1:=h.2;have h2:=h'.1;omega) (fun k h h'=>by have h1:=h.2;have h2:=h'.1;omega) (fun k h h'=>by have h1:=h.2;have h2:=h'.1;omega) (xU (aZ au) zo.out HST.out fun q hq=>hoff q hq.1 (by have:=hq.2;omega)) (xU aG rQ.out HST.out fun q hq=>hoff q (by have:=hq.1;omega) (by have:=hq.2;omega)) (xU aC vJ.out HST.out fun q hq=>hoff q (by have:=hq.1;omega) hq.2)
end
end aQ
end Go.Proofs.YtlhfiapfncikdaaGreatDoor
