import Derived.Test.YtlhfiapfncikdaaGreatDoorPU1
set_option linter.unusedVariables false
set_option linter.unusedSimpArgs false
set_option maxRecDepth 100000
set_option maxHeartbeats 3200000
namespace Go.Proofs.YtlhfiapfncikdaaGreatDoor.aP
section
open Go.RowKit bN bP
theorem VO {k:Int}:bg.mm (k,k+1) k (k+1+1):=by
 dsimp only [bg,Pr,I,atom,Sl]
 exact ⟨k+1,⟨by omega,by omega⟩,⟨by omega,by omega⟩⟩
theorem VT {k k':Int}{x0:Int}{x1:Int}(h:bg.mm (x0,x1) k k'):x0=k∧x1=k+1∧k'=k+1+1:=by
 dsimp only [bg,Pr,I,atom,Sl] at h
 obtain ⟨z1,h1,g1⟩:=h
 obtain ⟨e0,f0⟩:=h1
 have e0:x0=_:=e0
 obtain ⟨e1,f1⟩:=g1
 have e1:x1=_:=e1
 exact ⟨by omega,by omega,by omega⟩
theorem su:Mn bg:=(jX pz pz)
theorem VQ {k RS:Int}{L0:List (bL)}(J4:jD bg L0 (k+1) RS):aJ.mm (k,L0) k (RS):=by
 dsimp only [aJ,Pr,I,atom,Sl]
 exact ⟨k+1,⟨by omega,by omega⟩,J4⟩
theorem VW {k k':Int}{x0:Int}{L0:List (bL)}(h:aJ.mm (x0,L0) k k'):∃ RS,x0=k∧jD bg L0 (k+1) RS∧k'=RS:=by
 dsimp only [aJ,Pr,I,atom,Sl] at h
 obtain ⟨z1,h1,g1⟩:=h
 obtain ⟨e0,f0⟩:=h1
 have e0:x0=_:=e0
 have J4:jD bg L0 _ _:=g1
 exact ⟨_,by omega,OA J4 (by omega) rfl,by omega⟩
theorem sw:Mn aJ:=(jX pz (AA su))
theorem ab2:(bg).size=2:=rfl
theorem KY {L:List (bL)}{a:Option Addr}{cap:Nat}{W:World}{S:Nat→Prop}{k:Int}(h0:0≤k)(h1:k+(bE (bg).cm L:Nat)≤4611686018427387904)(hS:∀ i,S i→i<W.heap.size)(h:bG bg W S L a cap):Calls Tryz.prog 90 #[.slice a L.length cap,.int .i64 k] W (jF bg S L a cap k W):=by
 have hcap:=h.1
 have hmax:=h.2.1
 have hn:L.length≤9223372036854775807:=by have h2:=h.2.1;unfold maxLen at h2;omega
 have H:=aj h
 have HCAP:=aj hcap
 have qM:=aj hmax
 clear h hcap hmax
 rcases Nat.eq_zero_or_pos L.length with hz | hpos
 ·have HR:=aj (jF.none_ (k:=k) H.out hz)
  have HZ:=aj hz
  rw [hz]
  clear hz
  go_enter Tryz.func90,Tryz.ntmps90
  go_wp2
  go_loopw [5,1] (fun i q wr=>i=.int .i64 0∧q=.int .i64 k∧wr=W) (fun i _ _=>0)
  case atStart=>exact ⟨rfl,rfl,rfl⟩
  case round=>
   obtain ⟨rfl,rfl,rfl⟩:=hrel
   go_wp2
   go_ret
   exact HR.out
 ·obtain ⟨g,Sf,rfl,hrow⟩:=H.out.row hpos
  have HM:=aj (wW.start (k:=k) hrow)
  clear hrow
  go_enter Tryz.func90,Tryz.ntmps90
  go_wp2
  go_loopw [5,1] (fun i q wr=>∃ j:Nat,j≤L.length∧i=.int .i64 j∧∃ (M:List (bL)) (z:Int),q=.int .i64 z∧wW bg W wr S L g Sf k z j M) (fun i _ _=>L.length-(intOf i).toNat)
  case atStart=>exact ⟨0,dX _,rfl,_,_,rfl,HM.out⟩
  case round=>
   obtain ⟨j,hj,rfl,M,z,rfl,hM⟩:=hrel
   have jg:=aj hM
   have hSw:∀ i,S i→i<wr.heap.size:=fun i hi=>bV (hS i hi) hM.off.size
   have zR:=aj hSw
   by_cases hlt:j<L.length
   ·obtain ⟨⟨x0,x1⟩,hx⟩:=aL hlt
    have HX:=aj hx
    have hcm:=fA (bg).cm hx
    have hle:=dn (bg).cm L (j+1)
    have qI:=hM.num
    obtain ⟨us,hu,hr⟩:=hM.el hx
    obtain rfl:=Bc hr
    have hgl:g<wr.heap.size:=hSw g hM.row.own
    have hi0:(0:Int)≤(j:Int):=eu _
    have hi1:(j:Int)<(L.length:Int):=by omega
    have hz0:0≤z:=by omega
    obtain ⟨e0,e1⟩:=mW (a:=j*2) hu rfl
    have s0:=hM.row.soft (j*2)
    have s1:=hM.row.soft (j*2+1)
    have hcx:bg.cm (x0,x1)=2:=by first | (simp only [bg,Pr,I,atom,Sl];done) | (simp only [bg,Pr,I,atom,Sl];omega)
    rw [hcm,hcx] at hle
    have hb1:z+((2:Nat):Int)≤4611686018427387904:=by omega
    have hne:¬Sf j g:=fun hg=>(jg.out.row.sub j g hg).2 rfl
    have OM:=aj (nW.refl wr g (j*2) ((j+1)*2) (Sf j))
    have JQ:=aj (Off.refl S wr)
    clear hM hSw hx hu hcm hle qI
    have hc:=dw g [.int .i64 (z),.int .i64 (z+1)] wr (j*2) (fun p hp=>by
     match p,hp with
     | 0,_=>exact ⟨_,by simpa [Nat.add_assoc] using e0⟩
     | 1,_=>exact ⟨_,by simpa [Nat.add_assoc] using e1⟩
     | _+2,hp=>first | (simp at hp;done) | (simp at hp;omega))
    have d0:(putCells wr g (j*2) [.int .i64 (z),.int .i64 (z+1)]).cell? ⟨g,j*2,none⟩=some (.int .i64 (z)):=by simpa [Nat.add_assoc] using hc 0 _ rfl
    have d1:(putCells wr g (j*2) [.int .i64 (z),.int .i64 (z+1)]).cell? ⟨g,j*2+1,none⟩=some (.int .i64 (z+1)):=by simpa [Nat.add_assoc] using hc 1 _ rfl
    have t0:(putCells wr g (j*2) [.int .i64 (z),.int .i64 (z+1)]).frozen? ⟨g,j*2,none⟩=false:=(aF g _ _ wr _).trans s0
    have t1:(putCells wr g (j*2) [.int .i64 (z),.int .i64 (z+1)]).frozen? ⟨g,j*2+1,none⟩=false:=(aF g _ _ wr _).trans s1
    have JL:=aj (OM.out.trans (nW.put wr (Sf j) (g:=g) (o:=j*2) (cs:=[.int .i64 (z),.int .i64 (z+1)]) ⟨by omega,by first | (simp;done) | (simp;omega)⟩))
    have zV:=aj (JQ.out.trans ((dO g [.int .i64 (z),.int .i64 (z+1)] wr (j*2)).more (fun x e=>by rw [e];exact jg.out.row.own)))
    clear hc
    have hcf:aQ (putCells wr g (j*2) [.int .i64 (z),.int .i64 (z+1)]) g (j*2) [.int .i64 (z),.int .i64 (z+1)]:=aQ.cons.2 ⟨d0,aQ.cons.2 ⟨d1,aQ.nil⟩⟩
    have jd:=aj (jg.out.step bC (w':=(putCells wr g (j*2) [.int .i64 (z),.int .i64 (z+1)])) (y:=(z,z+1)) (q':=z+1+1) zR.out HX.out JL.out zV.out hcf (xR) (VO) (by rw [hcx];omega))
    clear d0 t0 d1 t1
    have hzb:0≤z+1+1∧z+1+1≤4611686018427387904:=by omega
    clear hcf hcx
    go_wp2
    go_roundw
    case rel=>exact ⟨j+1,by omega,by go_num,_,_,rfl,by first | exact jd.out | simpa [putCells,Nat.add_assoc,Int.add_assoc] using jd.out⟩
    case measure=>simp [intOf];omega
   ·obtain rfl:j=L.length:=by omega
    have HR:=aj (jg.out.done HCAP.out qM.out)
    clear hM hSw
    go_wp2
    go_ret
    exact HR.out
theorem ab4:(aJ).size=2:=rfl
theorem K7 {L:List (aO)}{a:Option Addr}{cap:Nat}{W:World}{S:Nat→Prop}{k:Int}(h0:0≤k)(h1:k+(bE (aJ).cm L:Nat)≤4611686018427387904)(hS:∀ i,S i→i<W.heap.size)(h:bG aJ W S L a cap):Calls Tryz.prog 44 #[.slice a L.length cap,.int .i64 k] W (jF aJ S L a cap k W):=by
 have hcap:=h.1
 have hmax:=h.2.1
 have hn:L.length≤9223372036854775807:=by have h2:=h.2.1;unfold maxLen at h2;omega
 have H:=aj h
 have HCAP:=aj hcap
 have qM:=aj hmax
 clear h hcap hmax
 rcases Nat.eq_zero_or_pos L.length with hz | hpos
 ·have HR:=aj (jF.none_ (k:=k) H.out hz)
  have HZ:=aj hz
  rw [hz]
  clear hz
  go_enter Tryz.func44,Tryz.ntmps44
  go_wp2
  go_loopw [5,1] (fun i q wr=>i=.int .i64 0∧q=.int .i64 k∧wr=W) (fun i _ _=>0)
  case atStart=>exact ⟨rfl,rfl,rfl⟩
  case round=>
   obtain ⟨rfl,rfl,rfl⟩:=hrel
   go_wp2
   go_ret
   exact HR.out
 ·obtain ⟨g,Sf,rfl,hrow⟩:=H.out.row hpos
  have HM:=aj (wW.start (k:=k) hrow)
  clear hrow
  go_enter Tryz.func44,Tryz.ntmps44
  go_wp2
  go_loopw [5,1] (fun i q wr=>∃ j:Nat,j≤L.length∧i=.int .i64 j∧∃ (M:List (aO)) (z:Int),q=.int .i64 z∧wW aJ W wr S L g Sf k z j M) (fun i _ _=>L.length-(intOf i).toNat)
  case atStart=>exact ⟨0,dX _,rfl,_,_,rfl,HM.out⟩
  case round=>
   obtain ⟨j,hj,rfl,M,z,rfl,hM⟩:=hrel
   have jg:=aj hM
   have hSw:∀ i,S i→i<wr.heap.size:=fun i hi=>bV (hS i hi) hM.off.size
   have zR:=aj hSw
   by_cases hlt:j<L.length
   ·obtain ⟨⟨x0,L0⟩,hx⟩:=aL hlt
    have HX:=aj hx
    have hcm:=fA (aJ).cm hx
    have hle:=dn (aJ).cm L (j+1)
    have qI:=hM.num
    obtain ⟨us,hu,hr⟩:=hM.el hx
    obtain ⟨a0,c0,T0,rfl,ts0,dY⟩:=vZ hr
    have hgl:g<wr.heap.size:=hSw g hM.row.own
    have hi0:(0:Int)≤(j:Int):=eu _
    have hi1:(j:Int)<(L.length:Int):=by omega
    have hz0:0≤z:=by omega
    obtain ⟨e0,e1⟩:=mW (a:=j*2) hu rfl
    have s0:=hM.row.soft (j*2)
    have s1:=hM.row.soft (j*2+1)
    have hcx:aJ.cm (x0,L0)=1+bE (bg).cm L0:=by first | (simp only [aJ,Pr,I,atom,Sl];done) | (simp only [aJ,Pr,I,atom,Sl];omega)
    rw [hcm,hcx] at hle
    have hb1:z+((1+bE (bg).cm L0:Nat):Int)≤4611686018427387904:=by omega
    have hne:¬Sf j g:=fun hg=>(jg.out.row.sub j g hg).2 rfl
    have fE:=aj dY
    have JK:=aj ts0
    have OM:=aj (nW.refl wr g (j*2) ((j+1)*2) (Sf j))
    have JQ:=aj (Off.refl S wr)
    clear hM hSw hx hu hcm hle qI dY ts0
    have hc:=dw g [.int .i64 (z)] wr (j*2) (fun p hp=>by
     match p,hp with
     | 0,_=>exact ⟨_,by simpa [Nat.add_assoc] using e0⟩
     | _+1,hp=>first | (simp at hp;done) | (simp at hp;omega))
    have d0:(putCells wr g (j*2) [.int .i64 (z)]).cell? ⟨g,j*2,none⟩=some (.int .i64 (z)):=by simpa [Nat.add_assoc] using hc 0 _ rfl
    have d1:(putCells wr g (j*2) [.int .i64 (z)]).cell? ⟨g,j*2+1,none⟩=some (.slice a0 L0.length c0):=(bF g _ wr _ (by first | (simp;done) | (simp;omega))).trans e1
    have t0:(putCells wr g (j*2) [.int .i64 (z)]).frozen? ⟨g,j*2,none⟩=false:=(aF g _ _ wr _).trans s0
    have t1:(putCells wr g (j*2) [.int .i64 (z)]).frozen? ⟨g,j*2+1,none⟩=false:=(aF g _ _ wr _).trans s1
    have JL:=aj (OM.out.trans (nW.put wr (Sf j) (g:=g) (o:=j*2) (cs:=[.int .i64 (z)]) ⟨by omega,by first | (simp;done) | (simp;omega)⟩))
    have zV:=aj (JQ.out.trans ((dO g [.int .i64 (z)] wr (j*2)).more (fun x e=>by rw [e];exact jg.out.row.own)))
    have fE:=aj (bG.keep bC (W':=(putCells wr g (j*2) [.int .i64 (z)])) fE.out (fun q hq=>gG g (jg.out.row.sub j q (JK.out q hq)).2 _ _ _))
    clear hc
    have hbz:0≤z+1∧z+1+(bE (bg).cm L0:Nat)≤4611686018427387904:=by omega
    have D0:=aj d0
    have F0:=aj t0
    have D1:=aj d1
    have F1:=aj t1
    clear d0 t0 d1 t1
    go_wp2_with fail
    have HSi:=aj (fun q (hq:T0 q)=>bV (zR.out q (jg.out.row.sub j q (JK.out q hq)).1) zV.out.size)
    refine (KY (W:=(putCells wr g (j*2) [.int .i64 (z)])) hbz.1 hbz.2 HSi.out fE.out).mono ?_
    intro e w1 h
    obtain ⟨y0,z0,rfl,hyl,hmm,hzz,how,hoff⟩:=iO h
    have hgg:g<(putCells wr g (j*2) [.int .i64 (z)]).heap.size:=bV hgl zV.out.size
    have qF:¬T0 g:=fun hg=>hne (JK.out g hg)
    have n0:w1.cell? ⟨g,j*2,none⟩=some (.int .i64 (z)):=(World.cell?_of_block (a:=⟨g,j*2,none⟩) (hoff.block g hgg qF)).trans D0.out
    have n1:w1.cell? ⟨g,j*2+1,none⟩=some (.slice a0 L0.length c0):=(World.cell?_of_block (a:=⟨g,j*2+1,none⟩) (hoff.block g hgg qF)).trans D1.out
    have m0:w1.frozen? ⟨g,j*2,none⟩=false:=(World.frozen?_of_block (a:=⟨g,j*2,none⟩) (hoff.block g hgg qF)).trans F0.out
    have m1:w1.frozen? ⟨g,j*2+1,none⟩=false:=(World.frozen?_of_block (a:=⟨g,j*2+1,none⟩) (hoff.block g hgg qF)).trans F1.out
    have HU2:=aj (JL.out.trans (nW.off (hoff.more JK.out) hgg hne))
    have Xg:=aj (zV.out.trans (hoff.more (fun q hq=>(jg.out.row.sub j q (JK.out q hq)).1)))
    have fE:=aj how
    have Kc:=aj hmm
    have Ka:=aj hyl
    have vB:=aj hzz
    have hzn0:0≤z0∧z0≤4611686018427387904:=by omega
    clear h hyl hmm how hoff hgg qF hbz hzz HSi D0 F0 D1 F1
    have e0:=n0
    have s0:=m0
    have e1:=n1
    have s1:=m1
    clear n0 m0 n1 m1
    have hcf:aQ w1 g (j*2) [.int .i64 (z),.slice a0 y0.length c0]:=aQ.cons.2 ⟨e0,aQ.cons.2 ⟨by rw [Ka.out];exact e1,aQ.nil⟩⟩
    have jd:=aj (jg.out.step aK (w':=w1) (y:=(z,y0)) (q':=z0) zR.out HX.out HU2.out Xg.out hcf (lQ JK.out fE.out) (VQ Kc.out) (by rw [hcx];have q0:=vB.out;omega))
    have hzb:0≤z0∧z0≤4611686018427387904:=by have q0:=vB.out;omega
    clear hcf hcx
    go_wp2
    go_roundw
    case rel=>exact ⟨j+1,by omega,by go_num,_,_,rfl,by first | exact jd.out | simpa [putCells,Nat.add_assoc,Int.add_assoc] using jd.out⟩
    case measure=>simp [intOf];omega
   ·obtain rfl:j=L.length:=by omega
    have HR:=aj (jg.out.done HCAP.out qM.out)
    clear hM hSw
    go_wp2
    go_ret
    exact HR.out
theorem KE:(bg).size=2:=rfl
theorem Lm {L:List (bL)}{a:Option Addr}{cap:Nat}{W:World}{k k':Int}(h0:0≤k)(h1:k'≤4611686018427387904)(hm:jD bg L k k')(h:aH bg W W.heap.size L a cap):Calls Tryz.prog 155 #[.slice a L.length cap,.int .i64 k] W (nD k' W):=by
 have hn:L.length≤9223372036854775807:=by have h1:=h.1;have h2:=h.2.1;unfold maxLen at h2;omega
 have H:=aj h
 have HM:=aj hm
 clear h hm
 go_enter Tryz.func155,Tryz.ntmps155
 go_wp2
 go_loopw [5,1] (fun i q wr=>∃ j:Nat,j≤L.length∧i=.int .i64 j∧(∃ z:Int,q=.int .i64 z∧0≤z∧jD bg (L.drop j) z k')∧Below W.heap.size W wr) (fun i _ _=>L.length-(intOf i).toNat)
 case atStart=>exact ⟨0,dX _,rfl,⟨k,rfl,h0,HM.out⟩,aU _ _⟩
 case round=>
  obtain ⟨j,hj,rfl,⟨z,rfl,hz,hmz⟩,hB⟩:=hrel
  have HB:=aj hB
  have hsz:=hB.size
  by_cases hlt:j<L.length
  ·obtain ⟨⟨x0,x1⟩,hx⟩:=aL hlt
   obtain ⟨k1,hxm,hmn⟩:=jZ hx hmz
   have hzb:=eF su hmn
   have hxb:=su _ _ _ hxm
   obtain ⟨g,o,us,rfl,hg,hu,hr⟩:=(H.out.below bC hB).at_ hx
   have FN:=aj hmn
   have hi0:(0:Int)≤(j:Int):=eu _
   have hi1:(j:Int)<(L.length:Int):=by omega
   obtain rfl:=nH hr
   obtain ⟨rfl,rfl,hk1⟩:=VT hxm
   have e0:=cK hu 0 rfl
   have e1:=cK hu 1 rfl
   simp only [KE] at e0 e1
   simp only [←Nat.add_assoc,Nat.add_zero] at e0 e1
   have hfin:k1≤4611686018427387904:=by omega
   have JN:=aj hk1
   clear hB hx hu hmz hmn hxm
   have HB2:=aj HB.out
   go_wp2
   go_roundw
   case rel=>exact ⟨j+1,by omega,by go_num,⟨_,rfl,by omega,by rw [←JN.out];exact FN.out⟩,HB2.out⟩
   case measure=>simp [intOf];omega
  ·obtain rfl:j=L.length:=by omega
   have HE:=aj (lD hmz)
   clear hmz hB
   go_wp2
   go_ret
   exact ⟨by rw [HE.out];rfl,HB.out⟩
theorem KG:(aJ).size=2:=rfl
theorem Lr {L:List (aO)}{a:Option Addr}{cap:Nat}{W:World}{k k':Int}(h0:0≤k)(h1:k'≤4611686018427387904)(hm:jD aJ L k k')(h:aH aJ W W.heap.size L a cap):Calls Tryz.prog 94 #[.slice a L.length cap,.int .i64 k] W (nD k' W):=by
 have hn:L.length≤9223372036854775807:=by have h1:=h.1;have h2:=h.2.1;unfold maxLen at h2;omega
 have H:=aj h
 have HM:=aj hm
 clear h hm
 go_enter Tryz.func94,Tryz.ntmps94
 go_wp2
 go_loopw [5,1] (fun i q wr=>∃ j:Nat,j≤L.length∧i=.int .i64 j∧(∃ z:Int,q=.int .i64 z∧0≤z∧jD aJ (L.drop j) z k')∧Below W.heap.size W wr) (fun i _ _=>L.length-(intOf i).toNat)
 case atStart=>exact ⟨0,dX _,rfl,⟨k,rfl,h0,HM.out⟩,aU _ _⟩
 case round=>
  obtain ⟨j,hj,rfl,⟨z,rfl,hz,hmz⟩,hB⟩:=hrel
  have HB:=aj hB
  have hsz:=hB.size
  by_cases hlt:j<L.length
  ·obtain ⟨⟨x0,L0⟩,hx⟩:=aL hlt
   obtain ⟨k1,hxm,hmn⟩:=jZ hx hmz
   have hzb:=eF sw hmn
   have hxb:=sw _ _ _ hxm
   obtain ⟨g,o,us,rfl,hg,hu,hr⟩:=(H.out.below aK hB).at_ hx
   have FN:=aj hmn
   have hi0:(0:Int)≤(j:Int):=eu _
   have hi1:(j:Int)<(L.length:Int):=by omega
   obtain ⟨a0,c0,rfl,dY⟩:=kJ hr
   obtain ⟨z0,rfl,m_0,hk1⟩:=VW hxm
   have e0:=cK hu 0 rfl
   have e1:=cK hu 1 rfl
   simp only [KG] at e0 e1
   simp only [←Nat.add_assoc,Nat.add_zero] at e0 e1
   have HXM0:=aj m_0
   have hle0:=eF su m_0
   have fE:=aj (dY.more bC hsz)
   have hfin:k1≤4611686018427387904:=by omega
   have JN:=aj hk1
   clear hB hx hu hmz hmn hxm dY m_0
   go_wp2_with fail
   refine (Lm (k:=x0+1) (k':=z0) (by omega) (by omega) HXM0.out fE.out).mono ?_
   intro e w1 h
   obtain ⟨rfl,hb⟩:=eT h
   have HBc0:=aj hb
   have Dp:0≤z0:=by omega
   clear h hb
   have HB2:=aj (HB.out.trans (HBc0.out.mono hsz))
   go_wp2
   go_roundw
   case rel=>exact ⟨j+1,by omega,by go_num,⟨_,rfl,by omega,by rw [←JN.out];exact FN.out⟩,HB2.out⟩
   case measure=>simp [intOf];omega
  ·obtain rfl:j=L.length:=by omega
   have HE:=aj (lD hmz)
   clear hmz hB
   go_wp2
   go_ret
   exact ⟨by rw [HE.out];rfl,HB.out⟩
end
end Go.Proofs.YtlhfiapfncikdaaGreatDoor.aP
