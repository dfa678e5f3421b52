import Derived.Test.YtlhfiapfncikdaaGreatDoorPN1
set_option linter.unusedVariables false
set_option linter.unusedSimpArgs false
set_option maxRecDepth 100000
set_option maxHeartbeats 3200000
namespace Go.Proofs.YtlhfiapfncikdaaGreatDoor
namespace aQ
section
open Go.RowKit bN bO
theorem Wh {k:Int}:bE.mm (k,k+1) k (k+1+1):=by
 dsimp only [bE,Pr,I,atom,Sl]
 exact ⟨k+1,⟨by omega,by omega⟩,⟨by omega,by omega⟩⟩
theorem Wn {k k':Int}{x0:Int}{x1:Int}(h:bE.mm (x0,x1) k k'):x0=k∧x1=k+1∧k'=k+1+1:=by
 dsimp only [bE,Pr,I,atom,Sl] at h
 obtain ⟨z1,h1,g1⟩:=h
 obtain ⟨e0,f0⟩:=h1
 have e0:x0=_:=e0
 obtain ⟨e1,f1⟩:=g1
 have e1:x1=_:=e1
 exact ⟨by omega,by omega,by omega⟩
theorem sK:Mn bE:=(jV pG pG)
theorem Wj {k Sj:Int}{L0:List (dJ)}(Kk:jC bE L0 (k+1) Sj):aL.mm (k,L0) k (Sj):=by
 dsimp only [aL,Pr,I,atom,Sl]
 exact ⟨k+1,⟨by omega,by omega⟩,Kk⟩
theorem Wp {k k':Int}{x0:Int}{L0:List (dJ)}(h:aL.mm (x0,L0) k k'):∃ Sj,x0=k∧jC bE L0 (k+1) Sj∧k'=Sj:=by
 dsimp only [aL,Pr,I,atom,Sl] at h
 obtain ⟨z1,h1,g1⟩:=h
 obtain ⟨e0,f0⟩:=h1
 have e0:x0=_:=e0
 have Kk:jC bE L0 _ _:=g1
 exact ⟨_,by omega,O1 Kk (by omega) rfl,by omega⟩
theorem sM:Mn aL:=(jV pG (AU sK))
theorem aci:(bE).size=2:=rfl
theorem Lr {L:List (dJ)}{a:Option Addr}{cap:Nat}{W:World}{S:Nat→Prop}{k:Int}(h0:0≤k)(h1:k+(bD (bE).cm L:Nat)≤4611686018427387904)(hS:∀ i,S i→i<W.heap.size)(h:bH bE W S L a cap):Calls Tryz.prog 90 #[.slice a L.length cap,.int .i64 k] W (jD bE S L a cap k W):=by
 have hcap:=h.1
 have hmax:=h.2.1
 have hn:L.length≤9223372036854775807:=by have h2:=h.2.1;unfold maxLen at h2;omega
 have H:=ak h
 have HCAP:=ak hcap
 have qP:=ak hmax
 clear h hcap hmax
 rcases Nat.eq_zero_or_pos L.length with hz | hpos
 ·have HR:=ak (jD.none_ (k:=k) H.out hz)
  have HZ:=ak hz
  rw [hz]
  clear hz
  go_enter Tryz.func90,Tryz.ntmps90
  go_wp2
  go_loopw [5,1] (fun i q wr=>i=.int .i64 0∧q=.int .i64 k∧wr=W) (fun i _ _=>0)
  case atStart=>exact ⟨rfl,rfl,rfl⟩
  case round=>
   obtain ⟨rfl,rfl,rfl⟩:=hrel
   go_wp2
   go_ret
   exact HR.out
 ·obtain ⟨g,Sf,rfl,hrow⟩:=H.out.row hpos
  have HM:=ak (xG.start (k:=k) hrow)
  clear hrow
  go_enter Tryz.func90,Tryz.ntmps90
  go_wp2
  go_loopw [5,1] (fun i q wr=>∃ j:Nat,j≤L.length∧i=.int .i64 j∧∃ (M:List (dJ)) (z:Int),q=.int .i64 z∧xG bE W wr S L g Sf k z j M) (fun i _ _=>L.length-(intOf i).toNat)
  case atStart=>exact ⟨0,dV _,rfl,_,_,rfl,HM.out⟩
  case round=>
   obtain ⟨j,hj,rfl,M,z,rfl,hM⟩:=hrel
   have je:=ak hM
   have aj:∀ i,S i→i<wr.heap.size:=fun i hi=>bV (hS i hi) hM.off.size
   have Aa:=ak aj
   by_cases hlt:j<L.length
   ·obtain ⟨⟨x0,x1⟩,hx⟩:=aM hlt
    have HX:=ak hx
    have hcm:=fB (bE).cm hx
    have hle:=dh (bE).cm L (j+1)
    have qL:=hM.num
    obtain ⟨us,hu,hr⟩:=hM.el hx
    obtain rfl:=Bl hr
    have hgl:g<wr.heap.size:=aj g hM.row.own
    have hi0:(0:Int)≤(j:Int):=eu _
    have hi1:(j:Int)<(L.length:Int):=by omega
    have hz0:0≤z:=by omega
    obtain ⟨e0,e1⟩:=ny (a:=j*2) hu rfl
    have s0:=hM.row.soft (j*2)
    have s1:=hM.row.soft (j*2+1)
    have hcx:bE.cm (x0,x1)=2:=by first | (simp only [bE,Pr,I,atom,Sl];done) | (simp only [bE,Pr,I,atom,Sl];omega)
    rw [hcm,hcx] at hle
    have hb1:z+((2:Nat):Int)≤4611686018427387904:=by omega
    have hne:¬Sf j g:=fun hg=>(je.out.row.sub j g hg).2 rfl
    have Pm:=ak (ni.refl wr g (j*2) ((j+1)*2) (Sf j))
    have J7:=ak (Off.refl S wr)
    clear hM aj hx hu hcm hle qL
    have hc:=dn g [.int .i64 (z),.int .i64 (z+1)] wr (j*2) (fun p hp=>by
     match p,hp with
     | 0,_=>exact ⟨_,by simpa [Nat.add_assoc] using e0⟩
     | 1,_=>exact ⟨_,by simpa [Nat.add_assoc] using e1⟩
     | _+2,hp=>first | (simp at hp;done) | (simp at hp;omega))
    have d0:(putCells wr g (j*2) [.int .i64 (z),.int .i64 (z+1)]).cell? ⟨g,j*2,none⟩=some (.int .i64 (z)):=by simpa [Nat.add_assoc] using hc 0 _ rfl
    have d1:(putCells wr g (j*2) [.int .i64 (z),.int .i64 (z+1)]).cell? ⟨g,j*2+1,none⟩=some (.int .i64 (z+1)):=by simpa [Nat.add_assoc] using hc 1 _ rfl
    have t0:(putCells wr g (j*2) [.int .i64 (z),.int .i64 (z+1)]).frozen? ⟨g,j*2,none⟩=false:=(aH g _ _ wr _).trans s0
    have t1:(putCells wr g (j*2) [.int .i64 (z),.int .i64 (z+1)]).frozen? ⟨g,j*2+1,none⟩=false:=(aH g _ _ wr _).trans s1
    have J4:=ak (Pm.out.trans (ni.put wr (Sf j) (g:=g) (o:=j*2) (cs:=[.int .i64 (z),.int .i64 (z+1)]) ⟨by omega,by first | (simp;done) | (simp;omega)⟩))
    have Ad:=ak (J7.out.trans ((dO g [.int .i64 (z),.int .i64 (z+1)] wr (j*2)).more (fun x e=>by rw [e];exact je.out.row.own)))
    clear hc
    have hcf:aR (putCells wr g (j*2) [.int .i64 (z),.int .i64 (z+1)]) g (j*2) [.int .i64 (z),.int .i64 (z+1)]:=aR.cons.2 ⟨d0,aR.cons.2 ⟨d1,aR.nil⟩⟩
    have iY:=ak (je.out.step bG (w':=(putCells wr g (j*2) [.int .i64 (z),.int .i64 (z+1)])) (y:=(z,z+1)) (q':=z+1+1) Aa.out HX.out J4.out Ad.out hcf (yj) (Wh) (by rw [hcx];omega))
    clear d0 t0 d1 t1
    have hzb:0≤z+1+1∧z+1+1≤4611686018427387904:=by omega
    clear hcf hcx
    go_wp2
    go_roundw
    case rel=>exact ⟨j+1,by omega,by go_num,_,_,rfl,by first | exact iY.out | simpa [putCells,Nat.add_assoc,Int.add_assoc] using iY.out⟩
    case measure=>simp [intOf];omega
   ·obtain rfl:j=L.length:=by omega
    have HR:=ak (je.out.done HCAP.out qP.out)
    clear hM aj
    go_wp2
    go_ret
    exact HR.out
theorem acn:(aL).size=2:=rfl
theorem Lv {L:List (aP)}{a:Option Addr}{cap:Nat}{W:World}{S:Nat→Prop}{k:Int}(h0:0≤k)(h1:k+(bD (aL).cm L:Nat)≤4611686018427387904)(hS:∀ i,S i→i<W.heap.size)(h:bH aL W S L a cap):Calls Tryz.prog 44 #[.slice a L.length cap,.int .i64 k] W (jD aL S L a cap k W):=by
 have hcap:=h.1
 have hmax:=h.2.1
 have hn:L.length≤9223372036854775807:=by have h2:=h.2.1;unfold maxLen at h2;omega
 have H:=ak h
 have HCAP:=ak hcap
 have qP:=ak hmax
 clear h hcap hmax
 rcases Nat.eq_zero_or_pos L.length with hz | hpos
 ·have HR:=ak (jD.none_ (k:=k) H.out hz)
  have HZ:=ak hz
  rw [hz]
  clear hz
  go_enter Tryz.func44,Tryz.ntmps44
  go_wp2
  go_loopw [5,1] (fun i q wr=>i=.int .i64 0∧q=.int .i64 k∧wr=W) (fun i _ _=>0)
  case atStart=>exact ⟨rfl,rfl,rfl⟩
  case round=>
   obtain ⟨rfl,rfl,rfl⟩:=hrel
   go_wp2
   go_ret
   exact HR.out
 ·obtain ⟨g,Sf,rfl,hrow⟩:=H.out.row hpos
  have HM:=ak (xG.start (k:=k) hrow)
  clear hrow
  go_enter Tryz.func44,Tryz.ntmps44
  go_wp2
  go_loopw [5,1] (fun i q wr=>∃ j:Nat,j≤L.length∧i=.int .i64 j∧∃ (M:List (aP)) (z:Int),q=.int .i64 z∧xG aL W wr S L g Sf k z j M) (fun i _ _=>L.length-(intOf i).toNat)
  case atStart=>exact ⟨0,dV _,rfl,_,_,rfl,HM.out⟩
  case round=>
   obtain ⟨j,hj,rfl,M,z,rfl,hM⟩:=hrel
   have je:=ak hM
   have aj:∀ i,S i→i<wr.heap.size:=fun i hi=>bV (hS i hi) hM.off.size
   have Aa:=ak aj
   by_cases hlt:j<L.length
   ·obtain ⟨⟨x0,L0⟩,hx⟩:=aM hlt
    have HX:=ak hx
    have hcm:=fB (aL).cm hx
    have hle:=dh (aL).cm L (j+1)
    have qL:=hM.num
    obtain ⟨us,hu,hr⟩:=hM.el hx
    obtain ⟨a0,c0,T0,rfl,ts0,dY⟩:=zT hr
    have hgl:g<wr.heap.size:=aj g hM.row.own
    have hi0:(0:Int)≤(j:Int):=eu _
    have hi1:(j:Int)<(L.length:Int):=by omega
    have hz0:0≤z:=by omega
    obtain ⟨e0,e1⟩:=ny (a:=j*2) hu rfl
    have s0:=hM.row.soft (j*2)
    have s1:=hM.row.soft (j*2+1)
    have hcx:aL.cm (x0,L0)=1+bD (bE).cm L0:=by first | (simp only [aL,Pr,I,atom,Sl];done) | (simp only [aL,Pr,I,atom,Sl];omega)
    rw [hcm,hcx] at hle
    have hb1:z+((1+bD (bE).cm L0:Nat):Int)≤4611686018427387904:=by omega
    have hne:¬Sf j g:=fun hg=>(je.out.row.sub j g hg).2 rfl
    have fI:=ak dY
    have J3:=ak ts0
    have Pm:=ak (ni.refl wr g (j*2) ((j+1)*2) (Sf j))
    have J7:=ak (Off.refl S wr)
    clear hM aj hx hu hcm hle qL dY ts0
    have hc:=dn g [.int .i64 (z)] wr (j*2) (fun p hp=>by
     match p,hp with
     | 0,_=>exact ⟨_,by simpa [Nat.add_assoc] using e0⟩
     | _+1,hp=>first | (simp at hp;done) | (simp at hp;omega))
    have d0:(putCells wr g (j*2) [.int .i64 (z)]).cell? ⟨g,j*2,none⟩=some (.int .i64 (z)):=by simpa [Nat.add_assoc] using hc 0 _ rfl
    have d1:(putCells wr g (j*2) [.int .i64 (z)]).cell? ⟨g,j*2+1,none⟩=some (.slice a0 L0.length c0):=(bF g _ wr _ (by first | (simp;done) | (simp;omega))).trans e1
    have t0:(putCells wr g (j*2) [.int .i64 (z)]).frozen? ⟨g,j*2,none⟩=false:=(aH g _ _ wr _).trans s0
    have t1:(putCells wr g (j*2) [.int .i64 (z)]).frozen? ⟨g,j*2+1,none⟩=false:=(aH g _ _ wr _).trans s1
    have J4:=ak (Pm.out.trans (ni.put wr (Sf j) (g:=g) (o:=j*2) (cs:=[.int .i64 (z)]) ⟨by omega,by first | (simp;done) | (simp;omega)⟩))
    have Ad:=ak (J7.out.trans ((dO g [.int .i64 (z)] wr (j*2)).more (fun x e=>by rw [e];exact je.out.row.own)))
    have fI:=ak (bH.keep bG (W':=(putCells wr g (j*2) [.int .i64 (z)])) fI.out (fun q hq=>gH g (je.out.row.sub j q (J3.out q hq)).2 _ _ _))
    clear hc
    have hbz:0≤z+1∧z+1+(bD (bE).cm L0:Nat)≤4611686018427387904:=by omega
    have D0:=ak d0
    have F0:=ak t0
    have D1:=ak d1
    have F1:=ak t1
    clear d0 t0 d1 t1
    go_wp2_with fail
    have HSi:=ak (fun q (hq:T0 q)=>bV (Aa.out q (je.out.row.sub j q (J3.out q hq)).1) Ad.out.size)
    refine (Lr (W:=(putCells wr g (j*2) [.int .i64 (z)])) hbz.1 hbz.2 HSi.out fI.out).mono ?_
    intro e w1 h
    obtain ⟨y0,z0,rfl,hyl,hmm,hzz,how,hoff⟩:=iO h
    have hgg:g<(putCells wr g (j*2) [.int .i64 (z)]).heap.size:=bV hgl Ad.out.size
    have qI:¬T0 g:=fun hg=>hne (J3.out g hg)
    have n0:w1.cell? ⟨g,j*2,none⟩=some (.int .i64 (z)):=(World.cell?_of_block (a:=⟨g,j*2,none⟩) (hoff.block g hgg qI)).trans D0.out
    have n1:w1.cell? ⟨g,j*2+1,none⟩=some (.slice a0 L0.length c0):=(World.cell?_of_block (a:=⟨g,j*2+1,none⟩) (hoff.block g hgg qI)).trans D1.out
    have m0:w1.frozen? ⟨g,j*2,none⟩=false:=(World.frozen?_of_block (a:=⟨g,j*2,none⟩) (hoff.block g hgg qI)).trans F0.out
    have m1:w1.frozen? ⟨g,j*2+1,none⟩=false:=(World.frozen?_of_block (a:=⟨g,j*2+1,none⟩) (hoff.block g hgg qI)).trans F1.out
    have HU2:=ak (J4.out.trans (ni.off (hoff.more J3.out) hgg hne))
    have Xx:=ak (Ad.out.trans (hoff.more (fun q hq=>(je.out.row.sub j q (J3.out q hq)).1)))
    have fI:=ak how
    have Kt:=ak hmm
    have Kr:=ak hyl
    have vO:=ak hzz
    have hzn0:0≤z0∧z0≤4611686018427387904:=by omega
    clear h hyl hmm how hoff hgg qI hbz hzz HSi D0 F0 D1 F1
    have e0:=n0
    have s0:=m0
    have e1:=n1
    have s1:=m1
    clear n0 m0 n1 m1
    have hcf:aR w1 g (j*2) [.int .i64 (z),.slice a0 y0.length c0]:=aR.cons.2 ⟨e0,aR.cons.2 ⟨by rw [Kr.out];exact e1,aR.nil⟩⟩
    have iY:=ak (je.out.step aK (w':=w1) (y:=(z,y0)) (q':=z0) Aa.out HX.out HU2.out Xx.out hcf (lS J3.out fI.out) (Wj Kt.out) (by rw [hcx];have q0:=vO.out;omega))
    have hzb:0≤z0∧z0≤4611686018427387904:=by have q0:=vO.out;omega
    clear hcf hcx
    go_wp2
    go_roundw
    case rel=>exact ⟨j+1,by omega,by go_num,_,_,rfl,by first | exact iY.out | simpa [putCells,Nat.add_assoc,Int.add_assoc] using iY.out⟩
    case measure=>simp [intOf];omega
   ·obtain rfl:j=L.length:=by omega
    have HR:=ak (je.out.done HCAP.out qP.out)
    clear hM aj
    go_wp2
    go_ret
    exact HR.out
theorem KV:(bE).size=2:=rfl
theorem LV {L:List (dJ)}{a:Option Addr}{cap:Nat}{W:World}{k k':Int}(h0:0≤k)(h1:k'≤4611686018427387904)(hm:jC bE L k k')(h:aJ bE W W.heap.size L a cap):Calls Tryz.prog 155 #[.slice a L.length cap,.int .i64 k] W (nN k' W):=by
 have hn:L.length≤9223372036854775807:=by have h1:=h.1;have h2:=h.2.1;unfold maxLen at h2;omega
 have H:=ak h
 have HM:=ak hm
 clear h hm
 go_enter Tryz.func155,Tryz.ntmps155
 go_wp2
 go_loopw [5,1] (fun i q wr=>∃ j:Nat,j≤L.length∧i=.int .i64 j∧(∃ z:Int,q=.int .i64 z∧0≤z∧jC bE (L.drop j) z k')∧Below W.heap.size W wr) (fun i _ _=>L.length-(intOf i).toNat)
 case atStart=>exact ⟨0,dV _,rfl,⟨k,rfl,h0,HM.out⟩,aW _ _⟩
 case round=>
  obtain ⟨j,hj,rfl,⟨z,rfl,hz,hmz⟩,hB⟩:=hrel
  have HB:=ak hB
  have hsz:=hB.size
  by_cases hlt:j<L.length
  ·obtain ⟨⟨x0,x1⟩,hx⟩:=aM hlt
   obtain ⟨k1,hxm,hmn⟩:=jX hx hmz
   have hzb:=eG sK hmn
   have hxb:=sK _ _ _ hxm
   obtain ⟨g,o,us,rfl,hg,hu,hr⟩:=(H.out.below bG hB).at_ hx
   have FZ:=ak hmn
   have hi0:(0:Int)≤(j:Int):=eu _
   have hi1:(j:Int)<(L.length:Int):=by omega
   obtain rfl:=rU hr
   obtain ⟨rfl,rfl,hk1⟩:=Wn hxm
   have e0:=cO hu 0 rfl
   have e1:=cO hu 1 rfl
   simp only [KV] at e0 e1
   simp only [←Nat.add_assoc,Nat.add_zero] at e0 e1
   have hfin:k1≤4611686018427387904:=by omega
   have J6:=ak hk1
   clear hB hx hu hmz hmn hxm
   have HB2:=ak HB.out
   go_wp2
   go_roundw
   case rel=>exact ⟨j+1,by omega,by go_num,⟨_,rfl,by omega,by rw [←J6.out];exact FZ.out⟩,HB2.out⟩
   case measure=>simp [intOf];omega
  ·obtain rfl:j=L.length:=by omega
   have HE:=ak (lD hmz)
   clear hmz hB
   go_wp2
   go_ret
   exact ⟨by rw [HE.out];rfl,HB.out⟩
theorem KY:(aL).size=2:=rfl
theorem LX {L:List (aP)}{a:Option Addr}{cap:Nat}{W:World}{k k':Int}(h0:0≤k)(h1:k'≤4611686018427387904)(hm:jC aL L k k')(h:aJ aL W W.heap.size L a cap):Calls Tryz.prog 94 #[.slice a L.length cap,.int .i64 k] W (nN k' W):=by
 have hn:L.length≤9223372036854775807:=by have h1:=h.1;have h2:=h.2.1;unfold maxLen at h2;omega
 have H:=ak h
 have HM:=ak hm
 clear h hm
 go_enter Tryz.func94,Tryz.ntmps94
 go_wp2
 go_loopw [5,1] (fun i q wr=>∃ j:Nat,j≤L.length∧i=.int .i64 j∧(∃ z:Int,q=.int .i64 z∧0≤z∧jC aL (L.drop j) z k')∧Below W.heap.size W wr) (fun i _ _=>L.length-(intOf i).toNat)
 case atStart=>exact ⟨0,dV _,rfl,⟨k,rfl,h0,HM.out⟩,aW _ _⟩
 case round=>
  obtain ⟨j,hj,rfl,⟨z,rfl,hz,hmz⟩,hB⟩:=hrel
  have HB:=ak hB
  have hsz:=hB.size
  by_cases hlt:j<L.length
  ·obtain ⟨⟨x0,L0⟩,hx⟩:=aM hlt
   obtain ⟨k1,hxm,hmn⟩:=jX hx hmz
   have hzb:=eG sM hmn
   have hxb:=sM _ _ _ hxm
   obtain ⟨g,o,us,rfl,hg,hu,hr⟩:=(H.out.below aK hB).at_ hx
   have FZ:=ak hmn
   have hi0:(0:Int)≤(j:Int):=eu _
   have hi1:(j:Int)<(L.length:Int):=by omega
   obtain ⟨a0,c0,rfl,dY⟩:=kH hr
   obtain ⟨z0,rfl,m_0,hk1⟩:=Wp hxm
   have e0:=cO hu 0 rfl
   have e1:=cO hu 1 rfl
   simp only [KY] at e0 e1
   simp only [←Nat.add_assoc,Nat.add_zero] at e0 e1
   have HXM0:=ak m_0
   have hle0:=eG sK m_0
   have fI:=ak (dY.more bG hsz)
   have hfin:k1≤4611686018427387904:=by omega
   have J6:=ak hk1
   clear hB hx hu hmz hmn hxm dY m_0
   go_wp2_with fail
   refine (LV (k:=x0+1) (k':=z0) (by omega) (by omega) HXM0.out fI.out).mono ?_
   intro e w1 h
   obtain ⟨rfl,hb⟩:=eU h
   have HBc0:=ak hb
   have Dw:0≤z0:=by omega
   clear h hb
   have HB2:=ak (HB.out.trans (HBc0.out.mono hsz))
   go_wp2
   go_roundw
   case rel=>exact ⟨j+1,by omega,by go_num,⟨_,rfl,by omega,by rw [←J6.out];exact FZ.out⟩,HB2.out⟩
   case measure=>simp [intOf];omega
  ·obtain rfl:j=L.length:=by omega
   have HE:=ak (lD hmz)
   clear hmz hB
   go_wp2
   go_ret
   exact ⟨by rw [HE.out];rfl,HB.out⟩
end
end aQ
end Go.Proofs.YtlhfiapfncikdaaGreatDoor
