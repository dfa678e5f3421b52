import Derived.Test.YtlhfiapfncikdaaGreatDoorPU17
import Derived.Test.YtlhfiapfncikdaaGreatDoorPU32
set_option linter.unusedVariables false
set_option linter.unusedSimpArgs false
set_option maxRecDepth 100000
set_option maxHeartbeats 3200000
namespace Go.Proofs.YtlhfiapfncikdaaGreatDoor.aP
section
open Go.RowKit bN bP
theorem Zx {k:Int}:bD.mm ((k,k+1),(jw (k+1+1)),k+1+1+1) k (k+1+1+1+1):=by
 dsimp only [bD,au,St,Pr,I,atom,Sl]
 exact ⟨k+1+1,⟨k+1,⟨by omega,by omega⟩,⟨by omega,by omega⟩⟩,⟨k+1+1+1,⟨rfl,by omega⟩,⟨by omega,by omega⟩⟩⟩
theorem Zy {k k':Int}{x0:Int}{x1:Int}{x2:ByteArray}{x3:Int}(h:bD.mm ((x0,x1),x2,x3) k k'):x0=k∧x1=k+1∧x2=jw (k+1+1)∧x3=k+1+1+1∧k'=k+1+1+1+1:=by
 dsimp only [bD,au,St,Pr,I,atom,Sl] at h
 obtain ⟨z1,h1,g1⟩:=h
 obtain ⟨z2,h2,g2⟩:=h1
 obtain ⟨e0,f0⟩:=h2
 have e0:x0=_:=e0
 obtain ⟨e1,f1⟩:=g2
 have e1:x1=_:=e1
 obtain ⟨z3,h3,g3⟩:=g1
 obtain ⟨e2,f2⟩:=h3
 have e2:x2=_:=e2
 obtain ⟨e3,f3⟩:=g3
 have e3:x3=_:=e3
 exact ⟨by omega,by omega,by rw [e2];exact congrArg jw (by omega),by omega,by omega⟩
theorem wJ:Mn bD:=(jX eX (jX aaM pz))
theorem ab7:(bD).size=4:=rfl
theorem QK {L:List (bH)}{a:Option Addr}{cap:Nat}{W:World}{S:Nat→Prop}{k:Int}(h0:0≤k)(h1:k+(bE (bD).cm L:Nat)≤4611686018427387904)(hS:∀ i,S i→i<W.heap.size)(h:bG bD W S L a cap):Calls Tryz.prog 46 #[.slice a L.length cap,.int .i64 k] W (jF bD S L a cap k W):=by
 have hcap:=h.1
 have hmax:=h.2.1
 have hn:L.length≤9223372036854775807:=by have h2:=h.2.1;unfold maxLen at h2;omega
 have H:=aj h
 have HCAP:=aj hcap
 have qM:=aj hmax
 clear h hcap hmax
 rcases Nat.eq_zero_or_pos L.length with hz | hpos
 ·have HR:=aj (jF.none_ (k:=k) H.out hz)
  have HZ:=aj hz
  rw [hz]
  clear hz
  go_enter Tryz.func46,Tryz.ntmps46
  go_wp2
  go_loopw [5,1] (fun i q wr=>i=.int .i64 0∧q=.int .i64 k∧wr=W) (fun i _ _=>0)
  case atStart=>exact ⟨rfl,rfl,rfl⟩
  case round=>
   obtain ⟨rfl,rfl,rfl⟩:=hrel
   go_wp2
   go_ret
   exact HR.out
 ·obtain ⟨g,Sf,rfl,hrow⟩:=H.out.row hpos
  have HM:=aj (wW.start (k:=k) hrow)
  clear hrow
  go_enter Tryz.func46,Tryz.ntmps46
  go_wp2
  go_loopw [5,1] (fun i q wr=>∃ j:Nat,j≤L.length∧i=.int .i64 j∧∃ (M:List (bH)) (z:Int),q=.int .i64 z∧wW bD W wr S L g Sf k z j M) (fun i _ _=>L.length-(intOf i).toNat)
  case atStart=>exact ⟨0,dX _,rfl,_,_,rfl,HM.out⟩
  case round=>
   obtain ⟨j,hj,rfl,M,z,rfl,hM⟩:=hrel
   have jg:=aj hM
   have hSw:∀ i,S i→i<wr.heap.size:=fun i hi=>bV (hS i hi) hM.off.size
   have zR:=aj hSw
   by_cases hlt:j<L.length
   ·obtain ⟨⟨⟨x0,x1⟩,x2,x3⟩,hx⟩:=aL hlt
    have HX:=aj hx
    have hcm:=fA (bD).cm hx
    have hle:=dn (bD).cm L (j+1)
    have qI:=hM.num
    obtain ⟨us,hu,hr⟩:=hM.el hx
    obtain ⟨rfl,_⟩:=EL hr
    have hgl:g<wr.heap.size:=hSw g hM.row.own
    have hi0:(0:Int)≤(j:Int):=eu _
    have hi1:(j:Int)<(L.length:Int):=by omega
    have hz0:0≤z:=by omega
    obtain ⟨e0,e1,e2,e3⟩:=J7 (a:=j*4) hu rfl
    have s0:=hM.row.soft (j*4)
    have s1:=hM.row.soft (j*4+1)
    have s2:=hM.row.soft (j*4+2)
    have s3:=hM.row.soft (j*4+3)
    have hcx:bD.cm ((x0,x1),x2,x3)=4:=by first | (simp only [bD,au,Pr,I,St,atom,Sl];done) | (simp only [bD,au,Pr,I,St,atom,Sl];omega)
    rw [hcm,hcx] at hle
    have hb1:z+((4:Nat):Int)≤4611686018427387904:=by omega
    have hne:¬Sf j g:=fun hg=>(jg.out.row.sub j g hg).2 rfl
    have OM:=aj (nW.refl wr g (j*4) ((j+1)*4) (Sf j))
    have JQ:=aj (Off.refl S wr)
    clear hM hSw hx hu hcm hle qI
    have hc:=dw g [.int .i64 (z),.int .i64 (z+1)] wr (j*4) (fun p hp=>by
     match p,hp with
     | 0,_=>exact ⟨_,by simpa [Nat.add_assoc] using e0⟩
     | 1,_=>exact ⟨_,by simpa [Nat.add_assoc] using e1⟩
     | _+2,hp=>simp at hp;omega)
    have d0:(putCells wr g (j*4) [.int .i64 (z),.int .i64 (z+1)]).cell? ⟨g,j*4,none⟩=some (.int .i64 (z)):=by simpa [Nat.add_assoc] using hc 0 _ rfl
    have d1:(putCells wr g (j*4) [.int .i64 (z),.int .i64 (z+1)]).cell? ⟨g,j*4+1,none⟩=some (.int .i64 (z+1)):=by simpa [Nat.add_assoc] using hc 1 _ rfl
    have d2:(putCells wr g (j*4) [.int .i64 (z),.int .i64 (z+1)]).cell? ⟨g,j*4+2,none⟩=some (.string x2):=(bF g _ wr _ (by first | (simp;done) | (simp;omega))).trans e2
    have d3:(putCells wr g (j*4) [.int .i64 (z),.int .i64 (z+1)]).cell? ⟨g,j*4+3,none⟩=some (.int .i64 x3):=(bF g _ wr _ (by first | (simp;done) | (simp;omega))).trans e3
    have t0:(putCells wr g (j*4) [.int .i64 (z),.int .i64 (z+1)]).frozen? ⟨g,j*4,none⟩=false:=(aF g _ _ wr _).trans s0
    have t1:(putCells wr g (j*4) [.int .i64 (z),.int .i64 (z+1)]).frozen? ⟨g,j*4+1,none⟩=false:=(aF g _ _ wr _).trans s1
    have t2:(putCells wr g (j*4) [.int .i64 (z),.int .i64 (z+1)]).frozen? ⟨g,j*4+2,none⟩=false:=(aF g _ _ wr _).trans s2
    have t3:(putCells wr g (j*4) [.int .i64 (z),.int .i64 (z+1)]).frozen? ⟨g,j*4+3,none⟩=false:=(aF g _ _ wr _).trans s3
    have JL:=aj (OM.out.trans (nW.put wr (Sf j) (g:=g) (o:=j*4) (cs:=[.int .i64 (z),.int .i64 (z+1)]) ⟨by omega,by first | (simp;done) | (simp;omega)⟩))
    have zV:=aj (JQ.out.trans ((dO g [.int .i64 (z),.int .i64 (z+1)] wr (j*4)).more (fun x e=>by rw [e];exact jg.out.row.own)))
    clear hc
    have hbz:0≤z+1+1∧z+1+1≤4611686018427387904:=by omega
    have D0:=aj d0
    have F0:=aj t0
    have D1:=aj d1
    have F1:=aj t1
    have D2:=aj d2
    have F2:=aj t2
    have D3:=aj d3
    have F3:=aj t3
    clear d0 t0 d1 t1 d2 t2 d3 t3
    go_wp2_with fail
    refine (pX (z+1+1) ((putCells wr g (j*4) [.int .i64 (z),.int .i64 (z+1)])) hbz.1 hbz.2).mono ?_
    intro e eY h
    obtain ⟨rfl,hms,hb⟩:=wF h
    have HMS1:=aj hms
    have hgg:g<(putCells wr g (j*4) [.int .i64 (z),.int .i64 (z+1)]).heap.size:=bV hgl zV.out.size
    have n0:eY.cell? ⟨g,j*4,none⟩=some (.int .i64 (z)):=(hb.cell (p:=⟨g,j*4,none⟩) hgg).trans D0.out
    have n1:eY.cell? ⟨g,j*4+1,none⟩=some (.int .i64 (z+1)):=(hb.cell (p:=⟨g,j*4+1,none⟩) hgg).trans D1.out
    have n2:eY.cell? ⟨g,j*4+2,none⟩=some (.string x2):=(hb.cell (p:=⟨g,j*4+2,none⟩) hgg).trans D2.out
    have n3:eY.cell? ⟨g,j*4+3,none⟩=some (.int .i64 x3):=(hb.cell (p:=⟨g,j*4+3,none⟩) hgg).trans D3.out
    have m0:eY.frozen? ⟨g,j*4,none⟩=false:=(hb.frozen (p:=⟨g,j*4,none⟩) hgg).trans F0.out
    have m1:eY.frozen? ⟨g,j*4+1,none⟩=false:=(hb.frozen (p:=⟨g,j*4+1,none⟩) hgg).trans F1.out
    have m2:eY.frozen? ⟨g,j*4+2,none⟩=false:=(hb.frozen (p:=⟨g,j*4+2,none⟩) hgg).trans F2.out
    have m3:eY.frozen? ⟨g,j*4+3,none⟩=false:=(hb.frozen (p:=⟨g,j*4+3,none⟩) hgg).trans F3.out
    have HU2:=aj (JL.out.trans (nW.below hb hgg))
    have Xg:=aj (zV.out.of_below hb)
    clear h hb hgg hbz hms D0 F0 D1 F1 D2 F2 D3 F3
    have e0:=n0
    have s0:=m0
    have e1:=n1
    have s1:=m1
    have e2:=n2
    have s2:=m2
    have e3:=n3
    have s3:=m3
    clear n0 m0 n1 m1 n2 m2 n3 m3
    have hc:=dw g [.string (jw (z+1+1)),.int .i64 (z+1+1+1)] eY (j*4+2) (fun p hp=>by
     match p,hp with
     | 0,_=>exact ⟨_,by simpa [Nat.add_assoc] using e2⟩
     | 1,_=>exact ⟨_,by simpa [Nat.add_assoc] using e3⟩
     | _+2,hp=>simp at hp;omega)
    have d2:(putCells eY g (j*4+2) [.string (jw (z+1+1)),.int .i64 (z+1+1+1)]).cell? ⟨g,j*4+2,none⟩=some (.string (jw (z+1+1))):=by simpa [Nat.add_assoc] using hc 0 _ rfl
    have d3:(putCells eY g (j*4+2) [.string (jw (z+1+1)),.int .i64 (z+1+1+1)]).cell? ⟨g,j*4+3,none⟩=some (.int .i64 (z+1+1+1)):=by simpa [Nat.add_assoc] using hc 1 _ rfl
    have d0:(putCells eY g (j*4+2) [.string (jw (z+1+1)),.int .i64 (z+1+1+1)]).cell? ⟨g,j*4,none⟩=some (.int .i64 (z)):=(bF g _ eY _ (by first | (simp;done) | (simp;omega))).trans e0
    have d1:(putCells eY g (j*4+2) [.string (jw (z+1+1)),.int .i64 (z+1+1+1)]).cell? ⟨g,j*4+1,none⟩=some (.int .i64 (z+1)):=(bF g _ eY _ (by first | (simp;done) | (simp;omega))).trans e1
    have t0:(putCells eY g (j*4+2) [.string (jw (z+1+1)),.int .i64 (z+1+1+1)]).frozen? ⟨g,j*4,none⟩=false:=(aF g _ _ eY _).trans s0
    have t1:(putCells eY g (j*4+2) [.string (jw (z+1+1)),.int .i64 (z+1+1+1)]).frozen? ⟨g,j*4+1,none⟩=false:=(aF g _ _ eY _).trans s1
    have t2:(putCells eY g (j*4+2) [.string (jw (z+1+1)),.int .i64 (z+1+1+1)]).frozen? ⟨g,j*4+2,none⟩=false:=(aF g _ _ eY _).trans s2
    have t3:(putCells eY g (j*4+2) [.string (jw (z+1+1)),.int .i64 (z+1+1+1)]).frozen? ⟨g,j*4+3,none⟩=false:=(aF g _ _ eY _).trans s3
    have HU3:=aj (HU2.out.trans (nW.put eY (Sf j) (g:=g) (o:=j*4+2) (cs:=[.string (jw (z+1+1)),.int .i64 (z+1+1+1)]) ⟨by omega,by first | (simp;done) | (simp;omega)⟩))
    have HF3:=aj (Xg.out.trans ((dO g [.string (jw (z+1+1)),.int .i64 (z+1+1+1)] eY (j*4+2)).more (fun x e=>by rw [e];exact jg.out.row.own)))
    clear hc
    have hcf:aQ (putCells eY g (j*4+2) [.string (jw (z+1+1)),.int .i64 (z+1+1+1)]) g (j*4) [.int .i64 (z),.int .i64 (z+1),.string (jw (z+1+1)),.int .i64 (z+1+1+1)]:=aQ.cons.2 ⟨d0,aQ.cons.2 ⟨d1,aQ.cons.2 ⟨d2,aQ.cons.2 ⟨d3,aQ.nil⟩⟩⟩⟩
    have jd:=aj (jg.out.step aT (w':=(putCells eY g (j*4+2) [.string (jw (z+1+1)),.int .i64 (z+1+1+1)])) (y:=((z,z+1),(jw (z+1+1)),z+1+1+1)) (q':=z+1+1+1+1) zR.out HX.out HU3.out HF3.out hcf (Bd HMS1.out) (Zx) (by rw [hcx];omega))
    clear d0 t0 d1 t1 d2 t2 d3 t3
    have hzb:0≤z+1+1+1+1∧z+1+1+1+1≤4611686018427387904:=by omega
    clear hcf hcx
    go_wp2
    go_roundw
    case rel=>exact ⟨j+1,by omega,by go_num,_,_,rfl,by first | exact jd.out | simpa [putCells,Nat.add_assoc,Int.add_assoc] using jd.out⟩
    case measure=>simp [intOf];omega
   ·obtain rfl:j=L.length:=by omega
    have HR:=aj (jg.out.done HCAP.out qM.out)
    clear hM hSw
    go_wp2
    go_ret
    exact HR.out
theorem Qk:(bD).size=4:=rfl
theorem QZ {L:List (bH)}{a:Option Addr}{cap:Nat}{W:World}{k k':Int}(h0:0≤k)(h1:k'≤4611686018427387904)(hm:jD bD L k k')(h:aH bD W W.heap.size L a cap):Calls Tryz.prog 96 #[.slice a L.length cap,.int .i64 k] W (nD k' W):=by
 have hn:L.length≤9223372036854775807:=by have h1:=h.1;have h2:=h.2.1;unfold maxLen at h2;omega
 have H:=aj h
 have HM:=aj hm
 clear h hm
 go_enter Tryz.func96,Tryz.ntmps96
 go_wp2
 go_loopw [5,1] (fun i q wr=>∃ j:Nat,j≤L.length∧i=.int .i64 j∧(∃ z:Int,q=.int .i64 z∧0≤z∧jD bD (L.drop j) z k')∧Below W.heap.size W wr) (fun i _ _=>L.length-(intOf i).toNat)
 case atStart=>exact ⟨0,dX _,rfl,⟨k,rfl,h0,HM.out⟩,aU _ _⟩
 case round=>
  obtain ⟨j,hj,rfl,⟨z,rfl,hz,hmz⟩,hB⟩:=hrel
  have HB:=aj hB
  have hsz:=hB.size
  by_cases hlt:j<L.length
  ·obtain ⟨⟨⟨x0,x1⟩,x2,x3⟩,hx⟩:=aL hlt
   obtain ⟨k1,hxm,hmn⟩:=jZ hx hmz
   have hzb:=eF wJ hmn
   have hxb:=wJ _ _ _ hxm
   obtain ⟨g,o,us,rfl,hg,hu,hr⟩:=(H.out.below aT hB).at_ hx
   have FN:=aj hmn
   have hi0:(0:Int)≤(j:Int):=eu _
   have hi1:(j:Int)<(L.length:Int):=by omega
   obtain ⟨rfl,oh⟩:=kD hr
   obtain ⟨rfl,rfl,rfl,rfl,hk1⟩:=Zy hxm
   have e0:=cK hu 0 rfl
   have e1:=cK hu 1 rfl
   have e2:=cK hu 2 rfl
   have e3:=cK hu 3 rfl
   simp only [Qk] at e0 e1 e2 e3
   simp only [←Nat.add_assoc,Nat.add_zero] at e0 e1 e2 e3
   have hfin:k1≤4611686018427387904:=by omega
   have JN:=aj hk1
   clear hB hx hu hmz hmn hxm
   have hgl:g<wr.heap.size:=bV hg hsz
   go_wp2_with fail
   refine dW (S:=(fun V=>Below (wr).heap.size (wr) V)) (by kernel_rfl) ((aU _ _).drew) (fun ah=>?_)
   refine tk 0 ah ?_
   refine tk 1 ah ?_
   refine tk 2 ah ?_
   refine tk 3 ah ?_
   refine tk 4 ah ?_ (hy:=fun w hSw=>by (try dsimp only at hSw);have k0:=(hSw.cell (p:=⟨g,o+j*4+2,none⟩) hgl).trans e2;clear hSw;go_simp;try with_reducible rfl)
   refine tk 5 ah ?_
   refine cZ 6 (fun K hK=>?_)
   go_simp
   go_at_call 91
   refine (pX (x0+1+1) _ (by omega) (by omega)).mono ?_
   intro e w1 h
   obtain ⟨rfl,hms,hb⟩:=wF h
   clear h hms
   refine hK.out _ _ (ah.trans (hb.mono ah.size)) (fun ah=>?_)
   clear hK K hb
   refine tk 7 ah ?_
   refine dQ ?_
   have HF:=aj ah
   clear ah
   have HB2:=aj (HB.out.trans (HF.out.mono hsz))
   replace e3:=(HF.out.cell (p:=⟨g,_,none⟩) hgl).trans e3
   go_wp2
   go_roundw
   case rel=>exact ⟨j+1,by omega,by go_num,⟨_,rfl,by omega,by rw [←JN.out];exact FN.out⟩,HB2.out⟩
   case measure=>simp [intOf];omega
  ·obtain rfl:j=L.length:=by omega
   have HE:=aj (lD hmz)
   clear hmz hB
   go_wp2
   go_ret
   exact ⟨by rw [HE.out];rfl,HB.out⟩
def Ce (L0:List (List (av)))(L1:List (bq))(L2:List (aV))(x3:Int)(L3:List (aO))(L4:List (aG))(L5:List (bH))(x7:Int)(a0:Option Addr)(c0:Nat)(a1:Option Addr)(c1:Nat)(a2:Option Addr)(c2:Nat)(a3:Option Addr)(c3:Nat)(a4:Option Addr)(c4:Nat)(a5:Option Addr)(c5:Nat)(T0:Nat→Prop)(T1:Nat→Prop)(T2:Nat→Prop)(T3:Nat→Prop)(T4:Nat→Prop)(T5:Nat→Prop)(k:Int)(W:World)(e:Ending)(w':World):Prop:=∃ z0 z1 z2 z3 z4 z5:Int,∃ (y0:List (List (av)))(y1:List (bq))(y2:List (aV))(y3:List (aO))(y4:List (aG))(y5:List (bH)),e=.returned (.int .i64 z5)∧(y0.length=L0.length∧jD (Sl au) y0 k z0∧z0=k+(bE ((Sl au)).cm L0:Nat)∧bG (Sl au) w' T0 y0 a0 c0)∧(y1.length=L1.length∧jD aS y1 z0 z1∧z1=z0+(bE (aS).cm L1:Nat)∧bG aS w' T1 y1 a1 c1)∧(y2.length=L2.length∧jD aM y2 z1 z2∧z2=z1+(bE (aM).cm L2:Nat)∧bG aM w' T2 y2 a2 c2)∧(y3.length=L3.length∧jD aJ y3 z2 z3∧z3=z2+(bE (aJ).cm L3:Nat)∧bG aJ w' T3 y3 a3 c3)∧(y4.length=L4.length∧jD aI y4 z3 z4∧z4=z3+(bE (aI).cm L4:Nat)∧bG aI w' T4 y4 a4 c4)∧(y5.length=L5.length∧jD bD y5 z4 z5∧z5=z4+(bE (bD).cm L5:Nat)∧bG bD w' T5 y5 a5 c5)∧Off (fun q=>T0 q∨T1 q∨T2 q∨T3 q∨T4 q∨T5 q) W w'
theorem DW {L0:List (List (av))}{L1:List (bq)}{L2:List (aV)}{x3:Int}{L3:List (aO)}{L4:List (aG)}{L5:List (bH)}{x7:Int}{a0:Option Addr}{c0:Nat}{a1:Option Addr}{c1:Nat}{a2:Option Addr}{c2:Nat}{a3:Option Addr}{c3:Nat}{a4:Option Addr}{c4:Nat}{a5:Option Addr}{c5:Nat}{W:World}{T0:Nat→Prop}{T1:Nat→Prop}{T2:Nat→Prop}{T3:Nat→Prop}{T4:Nat→Prop}{T5:Nat→Prop}{k:Int}(h0:0≤k)(h1:k+(bE ((Sl au)).cm L0:Nat)+(bE (aS).cm L1:Nat)+(bE (aM).cm L2:Nat)+(bE (aJ).cm L3:Nat)+(bE (aI).cm L4:Nat)+(bE (bD).cm L5:Nat)≤4611686018427387904)(hS0:∀ q,T0 q→q<W.heap.size)(hS1:∀ q,T1 q→q<W.heap.size)(hS2:∀ q,T2 q→q<W.heap.size)(hS3:∀ q,T3 q→q<W.heap.size)(Xa:∀ q,T4 q→q<W.heap.size)(hS5:∀ q,T5 q→q<W.heap.size)(jP:∀ q,T0 q→T1 q→False)(jO:∀ q,T0 q→T2 q→False)(mG:∀ q,T0 q→T3 q→False)(mF:∀ q,T0 q→T4 q→False)(mE:∀ q,T0 q→T5 q→False)(jN:∀ q,T1 q→T2 q→False)(mD:∀ q,T1 q→T3 q→False)(mq:∀ q,T1 q→T4 q→False)(mo:∀ q,T1 q→T5 q→False)(mh:∀ q,T2 q→T3 q→False)(mg:∀ q,T2 q→T4 q→False)(l9:∀ q,T2 q→T5 q→False)(l8:∀ q,T3 q→T4 q→False)(l7:∀ q,T3 q→T5 q→False)(lZ:∀ q,T4 q→T5 q→False)(dP:bG (Sl au) W T0 L0 a0 c0)(gM:bG aS W T1 L1 a1 c1)(gL:bG aM W T2 L2 a2 c2)(ku:bG aJ W T3 L3 a3 c3)(kr:bG aI W T4 L4 a4 c4)(ko:bG bD W T5 L5 a5 c5):Calls Tryz.prog 14 #[.agg #[.slice a0 L0.length c0,.slice a1 L1.length c1,.slice a2 L2.length c2,.int .i64 x3,.slice a3 L3.length c3,.slice a4 L4.length c4,.slice a5 L5.length c5,.int .i64 x7],.int .i64 k] W (Ce L0 L1 L2 x3 L3 L4 L5 x7 a0 c0 a1 c1 a2 c2 a3 c3 a4 c4 a5 c5 T0 T1 T2 T3 T4 T5 k W):=by
 have Gw:=aj (show Off (fun q=>T0 q∨T1 q∨T2 q∨T3 q∨T4 q∨T5 q) W (W.alloc (.cells #[.slice a0 L0.length c0,.slice a1 L1.length c1,.slice a2 L2.length c2,.int .i64 x3,.slice a3 L3.length c3,.slice a4 L4.length c4,.slice a5 L5.length c5,.int .i64 x7] 44)) from (Off.refl _ _).alloc _)
 have hP:=aN.new W 44 #[.slice a0 L0.length c0,.slice a1 L1.length c1,.slice a2 L2.length c2,.int .i64 x3,.slice a3 L3.length c3,.slice a4 L4.length c4,.slice a5 L5.length c5,.int .i64 x7]
 have iF:=aj hP
 have hz0:W.heap.size<(W.alloc (.cells #[.slice a0 L0.length c0,.slice a1 L1.length c1,.slice a2 L2.length c2,.int .i64 x3,.slice a3 L3.length c3,.slice a4 L4.length c4,.slice a5 L5.length c5,.int .i64 x7] 44)).heap.size:=by simp
 clear hP
 have fE:=aj (bG.keep (aY ak) (W':=W.alloc (.cells #[.slice a0 L0.length c0,.slice a1 L1.length c1,.slice a2 L2.length c2,.int .i64 x3,.slice a3 L3.length c3,.slice a4 L4.length c4,.slice a5 L5.length c5,.int .i64 x7] 44)) dP (fun q hq=>Below.heap_alloc _ _ _ (hS0 q hq)))
 have zD:=aj hS0
 have pq:=aj (bG.keep aD (W':=W.alloc (.cells #[.slice a0 L0.length c0,.slice a1 L1.length c1,.slice a2 L2.length c2,.int .i64 x3,.slice a3 L3.length c3,.slice a4 L4.length c4,.slice a5 L5.length c5,.int .i64 x7] 44)) gM (fun q hq=>Below.heap_alloc _ _ _ (hS1 q hq)))
 have wX:=aj hS1
 have o9:=aj (bG.keep aB (W':=W.alloc (.cells #[.slice a0 L0.length c0,.slice a1 L1.length c1,.slice a2 L2.length c2,.int .i64 x3,.slice a3 L3.length c3,.slice a4 L4.length c4,.slice a5 L5.length c5,.int .i64 x7] 44)) gL (fun q hq=>Below.heap_alloc _ _ _ (hS2 q hq)))
 have HS2:=aj hS2
 have Ad:=aj (bG.keep aK (W':=W.alloc (.cells #[.slice a0 L0.length c0,.slice a1 L1.length c1,.slice a2 L2.length c2,.int .i64 x3,.slice a3 L3.length c3,.slice a4 L4.length c4,.slice a5 L5.length c5,.int .i64 x7] 44)) ku (fun q hq=>Below.heap_alloc _ _ _ (hS3 q hq)))
 have zS:=aj hS3
 have Ac:=aj (bG.keep ay (W':=W.alloc (.cells #[.slice a0 L0.length c0,.slice a1 L1.length c1,.slice a2 L2.length c2,.int .i64 x3,.slice a3 L3.length c3,.slice a4 L4.length c4,.slice a5 L5.length c5,.int .i64 x7] 44)) kr (fun q hq=>Below.heap_alloc _ _ _ (Xa q hq)))
 have Dh:=aj Xa
 have Ab:=aj (bG.keep aT (W':=W.alloc (.cells #[.slice a0 L0.length c0,.slice a1 L1.length c1,.slice a2 L2.length c2,.int .i64 x3,.slice a3 L3.length c3,.slice a4 L4.length c4,.slice a5 L5.length c5,.int .i64 x7] 44)) ko (fun q hq=>Below.heap_alloc _ _ _ (hS5 q hq)))
 have HS5:=aj hS5
 have Dw:=aj jP
 have Dv:=aj jO
 have Nb:=aj mG
 have Na:=aj mF
 have M9:=aj mE
 have Du:=aj jN
 have M8:=aj mD
 have M7:=aj mq
 have M6:=aj mo
 have M5:=aj mh
 have M4:=aj mg
 have M0:=aj l9
 have MZ:=aj l8
 have MX:=aj l7
 have MW:=aj lZ
 clear dP gM gL ku kr ko hS0 hS1 hS2 hS3 Xa hS5 jP jO mG mF mE jN mD mq mo mh mg l9 l8 l7 lZ
 go_enter Tryz.func14,Tryz.ntmps14
 have hbz:0≤k∧k+(bE ((Sl au)).cm L0:Nat)+(bE (aS).cm L1:Nat)+(bE (aM).cm L2:Nat)≤4611686018427387904:=by omega
 go_wp2_with fail
 refine (I4 (W:=W.alloc (.cells #[.slice a0 L0.length c0,.slice a1 L1.length c1,.slice a2 L2.length c2,.int .i64 x3,.slice a3 L3.length c3,.slice a4 L4.length c4,.slice a5 L5.length c5,.int .i64 x7] 44)) hbz.1 hbz.2 (fun q hq=>iG (zD.out q hq) hz0) (fun q hq=>iG (wX.out q hq) hz0) (fun q hq=>iG (HS2.out q hq) hz0) Dw.out Dv.out Du.out fE.out pq.out o9.out).mono ?_
 intro e w3 h
 obtain ⟨z0,z1,z2,y0,y1,y2,rfl,⟨hyl0,hmm0,hzz0,how0⟩,⟨hyl1,hmm1,hzz1,how1⟩,⟨hyl2,hmm2,hzz2,how2⟩,hoff⟩:=h
 have iT:=aj (aN.off iF.out hoff hz0 (fun hg=>by rcases hg with hg | hg | hg <;> first | exact jK _ (zD.out _ hg) | exact jK _ (wX.out _ hg) | exact jK _ (HS2.out _ hg)))
 have Um:=aj (Gw.out.trans (hoff.more (fun q hg=>by rcases hg with hg | hg | hg <;> first | exact Or.inl hg | exact Or.inr (Or.inl hg) | exact Or.inr (Or.inr (Or.inl hg)))))
 have hz3:W.heap.size<w3.heap.size:=bV hz0 hoff.size
 have Ad:=aj (Ad.out.keep aK (fun q hq=>hoff.block q (iG (zS.out q hq) hz0) (fun hg=>by rcases hg with hg | hg | hg <;> first | exact Nb.out q hg hq | exact M8.out q hg hq | exact M5.out q hg hq)))
 have Ac:=aj (Ac.out.keep ay (fun q hq=>hoff.block q (iG (Dh.out q hq) hz0) (fun hg=>by rcases hg with hg | hg | hg <;> first | exact Na.out q hg hq | exact M7.out q hg hq | exact M4.out q hg hq)))
 have Ab:=aj (Ab.out.keep aT (fun q hq=>hoff.block q (iG (HS5.out q hq) hz0) (fun hg=>by rcases hg with hg | hg | hg <;> first | exact M9.out q hg hq | exact M6.out q hg hq | exact M0.out q hg hq)))
 have fE:=aj how0
 have Kc:=aj hmm0
 have Ka:=aj hyl0
 have vB:=aj hzz0
 have pq:=aj how1
 have HMM1:=aj hmm1
 have HYL1:=aj hyl1
 have J9:=aj hzz1
 have o9:=aj how2
 have HMM2:=aj hmm2
 have HYL2:=aj hyl2
 have PI:=aj hzz2
 have hzn2:0≤z2∧z2≤4611686018427387904:=by omega
 clear hbz hoff hyl0 hmm0 hzz0 how0 hyl1 hmm1 hzz1 how1 hyl2 hmm2 hzz2 how2
 have Eu:=iT.out.at_ 0 rfl
 have Et:=iT.out.at_ 1 rfl
 have Es:=iT.out.at_ 2 rfl
 have Sb:=iT.out.at_ 4 rfl
 have R9:=iT.out.at_ 5 rfl
 have JY:=iT.out.at_ 6 rfl
 have hbz:0≤z2∧z2+(bE (aJ).cm L3:Nat)≤4611686018427387904:=by have q0:=vB.out;have q1:=J9.out;have q2:=PI.out;omega
 go_wp2_with fail
 refine (K7 (W:=w3) hbz.1 hbz.2 (fun q hq=>iG (zS.out q hq) hz3) Ad.out).mono ?_
 intro e w4 h
 obtain ⟨y3,z3,rfl,hyl,hmm,hzz,how,hoff⟩:=iO h
 have kL:=aj (aN.off iT.out hoff hz3 (fun hg=>jK _ (zS.out _ hg)))
 have adX:=aj (Um.out.trans (hoff.more (fun q hq=>Or.inr (Or.inr (Or.inr (Or.inl hq))))))
 have mP:W.heap.size<w4.heap.size:=bV hz3 hoff.size
 have fE:=aj (fE.out.keep (aY ak) (fun q hq=>hoff.block q (iG (zD.out q hq) hz3) (fun hi=>Nb.out q hq hi)))
 have pq:=aj (pq.out.keep aD (fun q hq=>hoff.block q (iG (wX.out q hq) hz3) (fun hi=>M8.out q hq hi)))
 have o9:=aj (o9.out.keep aB (fun q hq=>hoff.block q (iG (HS2.out q hq) hz3) (fun hi=>M5.out q hq hi)))
 have Ac:=aj (Ac.out.keep ay (fun q hq=>hoff.block q (iG (Dh.out q hq) hz3) (fun hi=>MZ.out q hi hq)))
 have Ab:=aj (Ab.out.keep aT (fun q hq=>hoff.block q (iG (HS5.out q hq) hz3) (fun hi=>MX.out q hi hq)))
 have Ad:=aj how
 have HMM3:=aj hmm
 have HYL3:=aj hyl
 have HZZ3:=aj hzz
 have hzn3:0≤z3∧z3≤4611686018427387904:=by omega
 clear h hyl hmm how hoff hzz hbz
 have p4_0:=kL.out.at_ 0 rfl
 have p4_1:=kL.out.at_ 1 rfl
 have p4_2:=kL.out.at_ 2 rfl
 have p4_4:=kL.out.at_ 4 rfl
 have p4_5:=kL.out.at_ 5 rfl
 have p4_6:=kL.out.at_ 6 rfl
 have hbz:0≤z3∧z3+(bE (aI).cm L4:Nat)≤4611686018427387904:=by have q0:=vB.out;have q1:=J9.out;have q2:=PI.out;have q3:=HZZ3.out;omega
 go_wp2_with fail
 refine (KX (W:=w4) hbz.1 hbz.2 (fun q hq=>iG (Dh.out q hq) mP) Ac.out).mono ?_
 intro e w5 h
 obtain ⟨y4,z4,rfl,hyl,hmm,hzz,how,hoff⟩:=iO h
 have zF:=aj (aN.off kL.out hoff mP (fun hg=>jK _ (Dh.out _ hg)))
 have adW:=aj (adX.out.trans (hoff.more (fun q hq=>Or.inr (Or.inr (Or.inr (Or.inr (Or.inl hq)))))))
 have uo:W.heap.size<w5.heap.size:=bV mP hoff.size
 have fE:=aj (fE.out.keep (aY ak) (fun q hq=>hoff.block q (iG (zD.out q hq) mP) (fun hi=>Na.out q hq hi)))
 have pq:=aj (pq.out.keep aD (fun q hq=>hoff.block q (iG (wX.out q hq) mP) (fun hi=>M7.out q hq hi)))
 have o9:=aj (o9.out.keep aB (fun q hq=>hoff.block q (iG (HS2.out q hq) mP) (fun hi=>M4.out q hq hi)))
 have Ad:=aj (Ad.out.keep aK (fun q hq=>hoff.block q (iG (zS.out q hq) mP) (fun hi=>MZ.out q hq hi)))
 have Ab:=aj (Ab.out.keep aT (fun q hq=>hoff.block q (iG (HS5.out q hq) mP) (fun hi=>MW.out q hi hq)))
 have Ac:=aj how
 have HMM4:=aj hmm
 have HYL4:=aj hyl
 have HZZ4:=aj hzz
 have hzn4:0≤z4∧z4≤4611686018427387904:=by omega
 clear h hyl hmm how hoff hzz hbz
 have p5_0:=zF.out.at_ 0 rfl
 have p5_1:=zF.out.at_ 1 rfl
 have p5_2:=zF.out.at_ 2 rfl
 have p5_4:=zF.out.at_ 4 rfl
 have p5_5:=zF.out.at_ 5 rfl
 have p5_6:=zF.out.at_ 6 rfl
 have hbz:0≤z4∧z4+(bE (bD).cm L5:Nat)≤4611686018427387904:=by have q0:=vB.out;have q1:=J9.out;have q2:=PI.out;have q3:=HZZ3.out;have q4:=HZZ4.out;omega
 go_wp2_with fail
 refine (QK (W:=w5) hbz.1 hbz.2 (fun q hq=>iG (HS5.out q hq) uo) Ab.out).mono ?_
 intro e w6 h
 obtain ⟨y5,z5,rfl,hyl,hmm,hzz,how,hoff⟩:=iO h
 have JM:=aj (aN.off zF.out hoff uo (fun hg=>jK _ (HS5.out _ hg)))
 have adV:=aj (adW.out.trans (hoff.more (fun q hq=>Or.inr (Or.inr (Or.inr (Or.inr (Or.inr (hq))))))))
 have hz6:W.heap.size<w6.heap.size:=bV uo hoff.size
 have fE:=aj (fE.out.keep (aY ak) (fun q hq=>hoff.block q (iG (zD.out q hq) uo) (fun hi=>M9.out q hq hi)))
 have pq:=aj (pq.out.keep aD (fun q hq=>hoff.block q (iG (wX.out q hq) uo) (fun hi=>M6.out q hq hi)))
 have o9:=aj (o9.out.keep aB (fun q hq=>hoff.block q (iG (HS2.out q hq) uo) (fun hi=>M0.out q hq hi)))
 have Ad:=aj (Ad.out.keep aK (fun q hq=>hoff.block q (iG (zS.out q hq) uo) (fun hi=>MX.out q hq hi)))
 have Ac:=aj (Ac.out.keep ay (fun q hq=>hoff.block q (iG (Dh.out q hq) uo) (fun hi=>MW.out q hq hi)))
 have Ab:=aj how
 have HMM5:=aj hmm
 have HYL5:=aj hyl
 have HZZ5:=aj hzz
 have hzn5:0≤z5∧z5≤4611686018427387904:=by omega
 clear h hyl hmm how hoff hzz hbz
 have p6_0:=JM.out.at_ 0 rfl
 have p6_1:=JM.out.at_ 1 rfl
 have p6_2:=JM.out.at_ 2 rfl
 have p6_4:=JM.out.at_ 4 rfl
 have p6_5:=JM.out.at_ 5 rfl
 have p6_6:=JM.out.at_ 6 rfl
 go_wp2
 go_ret
 exact ⟨z0,z1,z2,z3,z4,z5,y0,y1,y2,y3,y4,y5,rfl,⟨Ka.out,Kc.out,vB.out,fE.out⟩,⟨HYL1.out,HMM1.out,J9.out,pq.out⟩,⟨HYL2.out,HMM2.out,PI.out,o9.out⟩,⟨HYL3.out,HMM3.out,HZZ3.out,Ad.out⟩,⟨HYL4.out,HMM4.out,HZZ4.out,Ac.out⟩,⟨HYL5.out,HMM5.out,HZZ5.out,Ab.out⟩,adV.out⟩
theorem QY {L0:List (List (av))}{L1:List (bq)}{L2:List (aV)}{x3:Int}{L3:List (aO)}{L4:List (aG)}{L5:List (bH)}{x7:Int}{a0:Option Addr}{c0:Nat}{a1:Option Addr}{c1:Nat}{a2:Option Addr}{c2:Nat}{a3:Option Addr}{c3:Nat}{a4:Option Addr}{c4:Nat}{a5:Option Addr}{c5:Nat}{W:World}{k:Int}{z0:Int}{z1:Int}{z2:Int}{z3:Int}{z4:Int}{z5:Int}(h0:0≤k)(h1:z5≤4611686018427387904)(hm0:jD (Sl au) L0 k z0)(hm1:jD aS L1 z0 z1)(hm2:jD aM L2 z1 z2)(OI:jD aJ L3 z2 z3)(L9:jD aI L4 z3 z4)(OH:jD bD L5 z4 z5)(dP:aH (Sl au) W W.heap.size L0 a0 c0)(gM:aH aS W W.heap.size L1 a1 c1)(gL:aH aM W W.heap.size L2 a2 c2)(ku:aH aJ W W.heap.size L3 a3 c3)(kr:aH aI W W.heap.size L4 a4 c4)(ko:aH bD W W.heap.size L5 a5 c5):Calls Tryz.prog 47 #[.agg #[.slice a0 L0.length c0,.slice a1 L1.length c1,.slice a2 L2.length c2,.int .i64 x3,.slice a3 L3.length c3,.slice a4 L4.length c4,.slice a5 L5.length c5,.int .i64 x7],.int .i64 k] W (nD z5 W):=by
 have jL:=aj dP
 have pF:=aj gM
 have pE:=aj gL
 have Ag:=aj ku
 have Af:=aj kr
 have Ae:=aj ko
 have HM0:=aj hm0
 have hl0:=eF (AA eX) hm0
 have FD:=aj hm1
 have hl1:=eF oQ hm1
 have jg:=aj hm2
 have hl2:=eF mM hm2
 have HM3:=aj OI
 have hl3:=eF sw OI
 have HM4:=aj L9
 have hl4:=eF sj L9
 have HM5:=aj OH
 have hl5:=eF wJ OH
 clear dP gM gL ku kr ko hm0 hm1 hm2 OI L9 OH
 have HB0:=aj (show Below W.heap.size W (W.alloc (.cells #[.slice a0 L0.length c0,.slice a1 L1.length c1,.slice a2 L2.length c2,.int .i64 x3,.slice a3 L3.length c3,.slice a4 L4.length c4,.slice a5 L5.length c5,.int .i64 x7] 44)) from (aU _ _).alloc (bK _) _)
 have hP:=aN.new W 44 #[.slice a0 L0.length c0,.slice a1 L1.length c1,.slice a2 L2.length c2,.int .i64 x3,.slice a3 L3.length c3,.slice a4 L4.length c4,.slice a5 L5.length c5,.int .i64 x7]
 have iF:=aj hP
 have hz0:W.heap.size≤(W.alloc (.cells #[.slice a0 L0.length c0,.slice a1 L1.length c1,.slice a2 L2.length c2,.int .i64 x3,.slice a3 L3.length c3,.slice a4 L4.length c4,.slice a5 L5.length c5,.int .i64 x7] 44)).heap.size:=HB0.out.size
 clear hP
 go_enter Tryz.func47,Tryz.ntmps47
 go_wp2_with fail
 refine (Jc (k:=k) (by omega) (by omega) HM0.out FD.out jg.out ((jL.out.below (aY ak) HB0.out).more (aY ak) hz0) ((pF.out.below aD HB0.out).more aD hz0) ((pE.out.below aB HB0.out).more aB hz0)).mono ?_
 intro e w3 h
 obtain ⟨rfl,hb⟩:=eT h
 have iT:=aj (iF.out.call hb)
 have HB3:=aj (HB0.out.trans (hb.mono hz0))
 have hz3:W.heap.size≤w3.heap.size:=HB3.out.size
 clear h hb
 have Eu:=iT.out.at_ 0 rfl
 have Et:=iT.out.at_ 1 rfl
 have Es:=iT.out.at_ 2 rfl
 have Sb:=iT.out.at_ 4 rfl
 have R9:=iT.out.at_ 5 rfl
 have JY:=iT.out.at_ 6 rfl
 have TT:(0:Int)≤z2:=by omega
 go_wp2_with fail
 refine (Lr (k:=z2) (k':=z3) (by omega) (by omega) HM3.out ((Ag.out.below aK HB3.out).more aK hz3)).mono ?_
 intro e w4 h
 obtain ⟨rfl,hb⟩:=eT h
 have kL:=aj (iT.out.call hb)
 have jU:=aj (HB3.out.trans (hb.mono hz3))
 have mP:W.heap.size≤w4.heap.size:=jU.out.size
 clear h hb
 have p4_0:=kL.out.at_ 0 rfl
 have p4_1:=kL.out.at_ 1 rfl
 have p4_2:=kL.out.at_ 2 rfl
 have p4_4:=kL.out.at_ 4 rfl
 have p4_5:=kL.out.at_ 5 rfl
 have p4_6:=kL.out.at_ 6 rfl
 have adr:(0:Int)≤z3:=by omega
 go_wp2_with fail
 refine (Ll (k:=z3) (k':=z4) (by omega) (by omega) HM4.out ((Af.out.below ay jU.out).more ay mP)).mono ?_
 intro e w5 h
 obtain ⟨rfl,hb⟩:=eT h
 have zF:=aj (kL.out.call hb)
 have ny:=aj (jU.out.trans (hb.mono mP))
 have uo:W.heap.size≤w5.heap.size:=ny.out.size
 clear h hb
 have p5_0:=zF.out.at_ 0 rfl
 have p5_1:=zF.out.at_ 1 rfl
 have p5_2:=zF.out.at_ 2 rfl
 have p5_4:=zF.out.at_ 4 rfl
 have p5_5:=zF.out.at_ 5 rfl
 have p5_6:=zF.out.at_ 6 rfl
 have hpos4:(0:Int)≤z4:=by omega
 go_wp2_with fail
 refine (QZ (k:=z4) (k':=z5) (by omega) (by omega) HM5.out ((Ae.out.below aT ny.out).more aT uo)).mono ?_
 intro e w6 h
 obtain ⟨rfl,hb⟩:=eT h
 have JM:=aj (zF.out.call hb)
 have wU:=aj (ny.out.trans (hb.mono uo))
 have hz6:W.heap.size≤w6.heap.size:=wU.out.size
 clear h hb
 have p6_0:=JM.out.at_ 0 rfl
 have p6_1:=JM.out.at_ 1 rfl
 have p6_2:=JM.out.at_ 2 rfl
 have p6_4:=JM.out.at_ 4 rfl
 have p6_5:=JM.out.at_ 5 rfl
 have p6_6:=JM.out.at_ 6 rfl
 have hpos5:(0:Int)≤z5:=by omega
 go_wp2
 go_ret
 exact ⟨rfl,wU.out⟩
theorem Fa {L0:List (List (av))}{L1:List (bq)}{L2:List (aV)}{x3:Int}{L3:List (aO)}{L4:List (aG)}{L5:List (bH)}{x7:Int}{x8:Int}{x9:Int}{a0:Option Addr}{c0:Nat}{a1:Option Addr}{c1:Nat}{a2:Option Addr}{c2:Nat}{a3:Option Addr}{c3:Nat}{a4:Option Addr}{c4:Nat}{a5:Option Addr}{c5:Nat}{W:World}{T0:Nat→Prop}{T1:Nat→Prop}{T2:Nat→Prop}{T3:Nat→Prop}{T4:Nat→Prop}{T5:Nat→Prop}{k:Int}(h0:0≤k)(h1:k+(bE ((Sl au)).cm L0:Nat)+(bE (aS).cm L1:Nat)+(bE (aM).cm L2:Nat)+(bE (aJ).cm L3:Nat)+(bE (aI).cm L4:Nat)+(bE (bD).cm L5:Nat)≤4611686018427387904)(hS0:∀ q,T0 q→q<W.heap.size)(hS1:∀ q,T1 q→q<W.heap.size)(hS2:∀ q,T2 q→q<W.heap.size)(hS3:∀ q,T3 q→q<W.heap.size)(Xa:∀ q,T4 q→q<W.heap.size)(hS5:∀ q,T5 q→q<W.heap.size)(jP:∀ q,T0 q→T1 q→False)(jO:∀ q,T0 q→T2 q→False)(mG:∀ q,T0 q→T3 q→False)(mF:∀ q,T0 q→T4 q→False)(mE:∀ q,T0 q→T5 q→False)(jN:∀ q,T1 q→T2 q→False)(mD:∀ q,T1 q→T3 q→False)(mq:∀ q,T1 q→T4 q→False)(mo:∀ q,T1 q→T5 q→False)(mh:∀ q,T2 q→T3 q→False)(mg:∀ q,T2 q→T4 q→False)(l9:∀ q,T2 q→T5 q→False)(l8:∀ q,T3 q→T4 q→False)(l7:∀ q,T3 q→T5 q→False)(lZ:∀ q,T4 q→T5 q→False)(dP:bG (Sl au) W T0 L0 a0 c0)(gM:bG aS W T1 L1 a1 c1)(gL:bG aM W T2 L2 a2 c2)(ku:bG aJ W T3 L3 a3 c3)(kr:bG aI W T4 L4 a4 c4)(ko:bG bD W T5 L5 a5 c5):Calls Tryz.prog 15 #[.agg #[.slice a0 L0.length c0,.slice a1 L1.length c1,.slice a2 L2.length c2,.int .i64 x3,.slice a3 L3.length c3,.slice a4 L4.length c4,.slice a5 L5.length c5,.int .i64 x7,.int .i64 x8,.int .i64 x9],.int .i64 k] W (Ce L0 L1 L2 x3 L3 L4 L5 x7 a0 c0 a1 c1 a2 c2 a3 c3 a4 c4 a5 c5 T0 T1 T2 T3 T4 T5 k W):=by
 have Gw:=aj (show Off (fun q=>T0 q∨T1 q∨T2 q∨T3 q∨T4 q∨T5 q) W (W.alloc (.cells #[.slice a0 L0.length c0,.slice a1 L1.length c1,.slice a2 L2.length c2,.int .i64 x3,.slice a3 L3.length c3,.slice a4 L4.length c4,.slice a5 L5.length c5,.int .i64 x7,.int .i64 x8,.int .i64 x9] 46)) from (Off.refl _ _).alloc _)
 have hz0:W.heap.size<(W.alloc (.cells #[.slice a0 L0.length c0,.slice a1 L1.length c1,.slice a2 L2.length c2,.int .i64 x3,.slice a3 L3.length c3,.slice a4 L4.length c4,.slice a5 L5.length c5,.int .i64 x7,.int .i64 x8,.int .i64 x9] 46)).heap.size:=by simp
 have hP:=aN.new W 46 #[.slice a0 L0.length c0,.slice a1 L1.length c1,.slice a2 L2.length c2,.int .i64 x3,.slice a3 L3.length c3,.slice a4 L4.length c4,.slice a5 L5.length c5,.int .i64 x7,.int .i64 x8,.int .i64 x9]
 have iF:=aj hP
 clear hP
 have fE:=aj (bG.keep (aY ak) (W':=W.alloc (.cells #[.slice a0 L0.length c0,.slice a1 L1.length c1,.slice a2 L2.length c2,.int .i64 x3,.slice a3 L3.length c3,.slice a4 L4.length c4,.slice a5 L5.length c5,.int .i64 x7,.int .i64 x8,.int .i64 x9] 46)) dP (fun q hq=>Below.heap_alloc _ _ _ (hS0 q hq)))
 have zD:=aj hS0
 have pq:=aj (bG.keep aD (W':=W.alloc (.cells #[.slice a0 L0.length c0,.slice a1 L1.length c1,.slice a2 L2.length c2,.int .i64 x3,.slice a3 L3.length c3,.slice a4 L4.length c4,.slice a5 L5.length c5,.int .i64 x7,.int .i64 x8,.int .i64 x9] 46)) gM (fun q hq=>Below.heap_alloc _ _ _ (hS1 q hq)))
 have wX:=aj hS1
 have o9:=aj (bG.keep aB (W':=W.alloc (.cells #[.slice a0 L0.length c0,.slice a1 L1.length c1,.slice a2 L2.length c2,.int .i64 x3,.slice a3 L3.length c3,.slice a4 L4.length c4,.slice a5 L5.length c5,.int .i64 x7,.int .i64 x8,.int .i64 x9] 46)) gL (fun q hq=>Below.heap_alloc _ _ _ (hS2 q hq)))
 have HS2:=aj hS2
 have Ad:=aj (bG.keep aK (W':=W.alloc (.cells #[.slice a0 L0.length c0,.slice a1 L1.length c1,.slice a2 L2.length c2,.int .i64 x3,.slice a3 L3.length c3,.slice a4 L4.length c4,.slice a5 L5.length c5,.int .i64 x7,.int .i64 x8,.int .i64 x9] 46)) ku (fun q hq=>Below.heap_alloc _ _ _ (hS3 q hq)))
 have zS:=aj hS3
 have Ac:=aj (bG.keep ay (W':=W.alloc (.cells #[.slice a0 L0.length c0,.slice a1 L1.length c1,.slice a2 L2.length c2,.int .i64 x3,.slice a3 L3.length c3,.slice a4 L4.length c4,.slice a5 L5.length c5,.int .i64 x7,.int .i64 x8,.int .i64 x9] 46)) kr (fun q hq=>Below.heap_alloc _ _ _ (Xa q hq)))
 have Dh:=aj Xa
 have Ab:=aj (bG.keep aT (W':=W.alloc (.cells #[.slice a0 L0.length c0,.slice a1 L1.length c1,.slice a2 L2.length c2,.int .i64 x3,.slice a3 L3.length c3,.slice a4 L4.length c4,.slice a5 L5.length c5,.int .i64 x7,.int .i64 x8,.int .i64 x9] 46)) ko (fun q hq=>Below.heap_alloc _ _ _ (hS5 q hq)))
 have HS5:=aj hS5
 have Dw:=aj jP
 have Dv:=aj jO
 have Nb:=aj mG
 have Na:=aj mF
 have M9:=aj mE
 have Du:=aj jN
 have M8:=aj mD
 have M7:=aj mq
 have M6:=aj mo
 have M5:=aj mh
 have M4:=aj mg
 have M0:=aj l9
 have MZ:=aj l8
 have MX:=aj l7
 have MW:=aj lZ
 clear dP gM gL ku kr ko hS0 hS1 hS2 hS3 Xa hS5 jP jO mG mF mE jN mD mq mo mh mg l9 l8 l7 lZ
 go_enter Tryz.func15,Tryz.ntmps15
 go_wp2_with fail
 refine (DW (W:=W.alloc (.cells #[.slice a0 L0.length c0,.slice a1 L1.length c1,.slice a2 L2.length c2,.int .i64 x3,.slice a3 L3.length c3,.slice a4 L4.length c4,.slice a5 L5.length c5,.int .i64 x7,.int .i64 x8,.int .i64 x9] 46)) h0 h1 (fun q hq=>iG (zD.out q hq) hz0) (fun q hq=>iG (wX.out q hq) hz0) (fun q hq=>iG (HS2.out q hq) hz0) (fun q hq=>iG (zS.out q hq) hz0) (fun q hq=>iG (Dh.out q hq) hz0) (fun q hq=>iG (HS5.out q hq) hz0) Dw.out Dv.out Nb.out Na.out M9.out Du.out M8.out M7.out M6.out M5.out M4.out M0.out MZ.out MX.out MW.out fE.out pq.out o9.out Ad.out Ac.out Ab.out).mono ?_
 intro e w1 h
 obtain ⟨z0,z1,z2,z3,z4,z5,y0,y1,y2,y3,y4,y5,rfl,hh0,hh1,hh2,hh3,hh4,hh5,hoff⟩:=h
 have HH0:=aj hh0
 have HH1:=aj hh1
 have HH2:=aj hh2
 have HH3:=aj hh3
 have HH4:=aj hh4
 have HH5:=aj hh5
 have Un:=aj (Gw.out.trans hoff)
 clear hoff hh0 hh1 hh2 hh3 hh4 hh5
 go_wp2
 go_ret
 exact ⟨z0,z1,z2,z3,z4,z5,y0,y1,y2,y3,y4,y5,rfl,HH0.out,HH1.out,HH2.out,HH3.out,HH4.out,HH5.out,Un.out⟩
theorem Fq {L0:List (List (av))}{L1:List (bq)}{L2:List (aV)}{x3:Int}{L3:List (aO)}{L4:List (aG)}{L5:List (bH)}{x7:Int}{x8:Int}{x9:Int}{a0:Option Addr}{c0:Nat}{a1:Option Addr}{c1:Nat}{a2:Option Addr}{c2:Nat}{a3:Option Addr}{c3:Nat}{a4:Option Addr}{c4:Nat}{a5:Option Addr}{c5:Nat}{W:World}{k:Int}{z0:Int}{z1:Int}{z2:Int}{z3:Int}{z4:Int}{z5:Int}(h0:0≤k)(h1:z5≤4611686018427387904)(hm0:jD (Sl au) L0 k z0)(hm1:jD aS L1 z0 z1)(hm2:jD aM L2 z1 z2)(OI:jD aJ L3 z2 z3)(L9:jD aI L4 z3 z4)(OH:jD bD L5 z4 z5)(dP:aH (Sl au) W W.heap.size L0 a0 c0)(gM:aH aS W W.heap.size L1 a1 c1)(gL:aH aM W W.heap.size L2 a2 c2)(ku:aH aJ W W.heap.size L3 a3 c3)(kr:aH aI W W.heap.size L4 a4 c4)(ko:aH bD W W.heap.size L5 a5 c5):Calls Tryz.prog 16 #[.agg #[.slice a0 L0.length c0,.slice a1 L1.length c1,.slice a2 L2.length c2,.int .i64 x3,.slice a3 L3.length c3,.slice a4 L4.length c4,.slice a5 L5.length c5,.int .i64 x7,.int .i64 x8,.int .i64 x9],.int .i64 k] W (nD z5 W):=by
 have HM0:=aj hm0
 have hl0:=eF (AA eX) hm0
 have jL:=aj dP
 have FD:=aj hm1
 have hl1:=eF oQ hm1
 have pF:=aj gM
 have jg:=aj hm2
 have hl2:=eF mM hm2
 have pE:=aj gL
 have HM3:=aj OI
 have hl3:=eF sw OI
 have Ag:=aj ku
 have HM4:=aj L9
 have hl4:=eF sj L9
 have Af:=aj kr
 have HM5:=aj OH
 have hl5:=eF wJ OH
 have Ae:=aj ko
 clear dP gM gL ku kr ko hm0 hm1 hm2 OI L9 OH
 have HB0:=aj (show Below W.heap.size W (W.alloc (.cells #[.slice a0 L0.length c0,.slice a1 L1.length c1,.slice a2 L2.length c2,.int .i64 x3,.slice a3 L3.length c3,.slice a4 L4.length c4,.slice a5 L5.length c5,.int .i64 x7,.int .i64 x8,.int .i64 x9] 46)) from (aU _ _).alloc (bK _) _)
 have hP:=aN.new W 46 #[.slice a0 L0.length c0,.slice a1 L1.length c1,.slice a2 L2.length c2,.int .i64 x3,.slice a3 L3.length c3,.slice a4 L4.length c4,.slice a5 L5.length c5,.int .i64 x7,.int .i64 x8,.int .i64 x9]
 have iF:=aj hP
 have hz0:W.heap.size≤(W.alloc (.cells #[.slice a0 L0.length c0,.slice a1 L1.length c1,.slice a2 L2.length c2,.int .i64 x3,.slice a3 L3.length c3,.slice a4 L4.length c4,.slice a5 L5.length c5,.int .i64 x7,.int .i64 x8,.int .i64 x9] 46)).heap.size:=HB0.out.size
 clear hP
 go_enter Tryz.func16,Tryz.ntmps16
 go_wp2_with fail
 refine (QY (k:=k) h0 h1 HM0.out FD.out jg.out HM3.out HM4.out HM5.out ((jL.out.below (aY ak) HB0.out).more (aY ak) hz0) ((pF.out.below aD HB0.out).more aD hz0) ((pE.out.below aB HB0.out).more aB hz0) ((Ag.out.below aK HB0.out).more aK hz0) ((Af.out.below ay HB0.out).more ay hz0) ((Ae.out.below aT HB0.out).more aT hz0)).mono ?_
 intro e w1 h
 obtain ⟨rfl,hb⟩:=eT h
 have HB1:=aj (HB0.out.trans (hb.mono hz0))
 have hpos:(0:Int)≤z5:=by omega
 clear h hb
 go_wp2
 go_ret
 exact ⟨rfl,HB1.out⟩
theorem Ia {d:dK}{cs:List Value}{W:World}{l:Int}(h0:0≤l)(h1:l≤1048576)(h:bW.rd W W.heap.size d cs):Calls Tryz.prog 7 #[.agg cs.toArray,.int .i64 l] W (Jz l (bW.sz d) W):=by
 obtain ⟨⟨L0,L1,L2,x3⟩,L3,L4,L5,x7⟩:=d
 obtain ⟨a0,c0,a1,c1,a2,c2,a3,c3,a4,c4,a5,c5,rfl,dY,lV,lU,og,nZ,nY⟩:=pO h
 exact Zb h0 h1 dY lV lU og nZ nY
theorem wH {d:dK}{cs:List Value}{W:World}(hsz:bW.sz d≤1048576)(h:bW.rd W W.heap.size d cs):Calls Tryz.prog 9 #[.agg cs.toArray] W (kU bW d W):=by
 obtain ⟨⟨L0,L1,L2,x3⟩,L3,L4,L5,x7⟩:=d
 obtain ⟨a0,c0,a1,c1,a2,c2,a3,c3,a4,c4,a5,c5,rfl,dY,lV,lU,og,nZ,nY⟩:=pO h
 exact YV hsz dY lV lU og nZ nY
theorem Wm {d:dK}{cs cs':List Value}{W:World}(h:bW.rd W W.heap.size d cs)(h':bW.rd W W.heap.size d cs'):Calls Tryz.prog 13 #[.agg cs.toArray,.agg cs'.toArray] W (sD true W):=by
 obtain ⟨⟨L0,L1,L2,x3⟩,L3,L4,L5,x7⟩:=d
 obtain ⟨a0,c0,a1,c1,a2,c2,a3,c3,a4,c4,a5,c5,rfl,dY,lV,lU,og,nZ,nY⟩:=pO h
 obtain ⟨a0',c0',a1',c1',Ct,c2',a3',c3',a4',JI,JJ,JH,rfl,vJ,TN,TM,TL,TK,TJ⟩:=pO h'
 exact eq_Yard dY lV lU og nZ nY vJ TN TM TL TK TJ
theorem wD {W:World}{S:Nat→Prop}{L0:List (List (av))}{L1:List (bq)}{L2:List (aV)}{x3:Int}{L3:List (aO)}{L4:List (aG)}{L5:List (bH)}{x7:Int}{cs:List Value}(h:bW.ow W S ((L0,L1,L2,x3),L3,L4,L5,x7) cs):∃ a0 c0 a1 c1 a2 c2 a3 c3 a4 c4 a5 c5,cs = [.slice a0 L0.length c0,.slice a1 L1.length c1,.slice a2 L2.length c2,.int .i64 x3,.slice a3 L3.length c3,.slice a4 L4.length c4,.slice a5 L5.length c5,.int .i64 x7]∧bW.ow W S ((L0,L1,L2,x3),L3,L4,L5,x7) [.slice a0 L0.length c0,.slice a1 L1.length c1,.slice a2 L2.length c2,.int .i64 x3,.slice a3 L3.length c3,.slice a4 L4.length c4,.slice a5 L5.length c5,.int .i64 x7]:=by
 have h0:=h
 obtain ⟨a0,c0,a1,c1,a2,c2,a3,c3,a4,c4,a5,c5,T0,T1,T2,T3,T4,T5,rfl,_⟩:=EK h
 exact ⟨a0,c0,a1,c1,a2,c2,a3,c3,a4,c4,a5,c5,rfl,h0⟩
theorem Vs {W:World}{B:Nat}{L0:List (List (av))}{L1:List (bq)}{L2:List (aV)}{x3:Int}{L3:List (aO)}{L4:List (aG)}{L5:List (bH)}{x7:Int}{cs:List Value}(h:bW.rd W B ((L0,L1,L2,x3),L3,L4,L5,x7) cs):∃ a0 c0 a1 c1 a2 c2 a3 c3 a4 c4 a5 c5,cs = [.slice a0 L0.length c0,.slice a1 L1.length c1,.slice a2 L2.length c2,.int .i64 x3,.slice a3 L3.length c3,.slice a4 L4.length c4,.slice a5 L5.length c5,.int .i64 x7]∧bW.rd W B ((L0,L1,L2,x3),L3,L4,L5,x7) [.slice a0 L0.length c0,.slice a1 L1.length c1,.slice a2 L2.length c2,.int .i64 x3,.slice a3 L3.length c3,.slice a4 L4.length c4,.slice a5 L5.length c5,.int .i64 x7]:=by
 have h0:=h
 obtain ⟨a0,c0,a1,c1,a2,c2,a3,c3,a4,c4,a5,c5,rfl,_⟩:=pO h
 exact ⟨a0,c0,a1,c1,a2,c2,a3,c3,a4,c4,a5,c5,rfl,h0⟩
theorem Ib {L0:List (List (av))}{L1:List (bq)}{L2:List (aV)}{x3:Int}{L3:List (aO)}{L4:List (aG)}{L5:List (bH)}{x7:Int}:bW.cv ((L0,L1,L2,x3),L3,L4,L5,x7)=bE ((Sl au)).cm L0+bE (aS).cm L1+bE (aM).cm L2+bE (aJ).cm L3+bE (aI).cm L4+bE (bD).cm L5:=by
 simp only [bW,bZ,Pr,Sl,I,Bo,atom];omega
theorem Lv {d:dK}{cs:List Value}{W:World}{S:Nat→Prop}{k:Int}(h0:0≤k)(h1:k+(bW.cv d:Nat)≤4611686018427387904)(hS:∀ q,S q→q<W.heap.size)(h:bW.ow W S d cs):Calls Tryz.prog 14 #[.agg cs.toArray,.int .i64 k] W (Ug bW d cs S k W):=by
 obtain ⟨⟨L0,L1,L2,x3⟩,L3,L4,L5,x7⟩:=d
 obtain ⟨a0,c0,a1,c1,a2,c2,a3,c3,a4,c4,a5,c5,T0,T1,T2,T3,T4,T5,rfl,hs0,hs1,hs2,hs3,hs4,hs5,jP,jO,mG,mF,mE,jN,mD,mq,mo,mh,mg,l9,l8,l7,lZ,dY,lV,lU,og,nZ,nY⟩:=EK h
 have hcv:=Ib (L0:=L0) (L1:=L1) (L2:=L2) (x3:=x3) (L3:=L3) (L4:=L4) (L5:=L5) (x7:=x7)
 refine (DW h0 (by rw [hcv] at h1;omega) (fun q hq=>hS q (hs0 q hq)) (fun q hq=>hS q (hs1 q hq)) (fun q hq=>hS q (hs2 q hq)) (fun q hq=>hS q (hs3 q hq)) (fun q hq=>hS q (hs4 q hq)) (fun q hq=>hS q (hs5 q hq)) (fun q hi hj=>jP q hi hj) (fun q hi hj=>jO q hi hj) (fun q hi hj=>mG q hi hj) (fun q hi hj=>mF q hi hj) (fun q hi hj=>mE q hi hj) (fun q hi hj=>jN q hi hj) (fun q hi hj=>mD q hi hj) (fun q hi hj=>mq q hi hj) (fun q hi hj=>mo q hi hj) (fun q hi hj=>mh q hi hj) (fun q hi hj=>mg q hi hj) (fun q hi hj=>l9 q hi hj) (fun q hi hj=>l8 q hi hj) (fun q hi hj=>l7 q hi hj) (fun q hi hj=>lZ q hi hj) dY lV lU og nZ nY).mono fun e w' hh=>?_
 obtain ⟨z0,z1,z2,z3,z4,z5,y0,y1,y2,y3,y4,y5,rfl,⟨hl0,hm0,hz0,ho0⟩,⟨hl1,hm1,hz1,ho1⟩,⟨hl2,hm2,hz2,ho2⟩,⟨hl3,OI,hz3,ho3⟩,⟨hl4,L9,mP,ho4⟩,⟨hl5,OH,uo,ho5⟩,hoff⟩:=hh
 have hmk:=xQ (x3:=x3) (x7:=x7) hs0 hs1 hs2 hs3 hs4 hs5 jP jO mG mF mE jN mD mq mo mh mg l9 l8 l7 lZ ho0 ho1 ho2 ho3 ho4 ho5
 simp only [hl0,hl1,hl2,hl3,hl4,hl5] at hmk
 exact ⟨((y0,y1,y2,x3),y3,y4,y5,x7),_,rfl,⟨z2,⟨z0,hm0,⟨z1,hm1,⟨z2,hm2,rfl⟩⟩⟩,⟨z3,OI,⟨z4,L9,⟨z5,OH,rfl⟩⟩⟩⟩,by rw [hcv];omega,hmk,hoff.more fun q hq=>by rcases hq with hq | hq | hq | hq | hq | hq <;> first | exact hs0 q hq | exact hs1 q hq | exact hs2 q hq | exact hs3 q hq | exact hs4 q hq | exact hs5 q hq⟩
theorem qX {d:dZ}{cs cs':List Value}{W:World}(h:cu.rd W W.heap.size d cs)(h':cu.rd W W.heap.size d cs'):Calls Tryz.prog 12 #[.agg cs.toArray,.agg cs'.toArray] W (sD true W):=by
 obtain ⟨⟨⟨L0,L1,L2,x3⟩,L3,L4,L5,x7⟩,x8,x9⟩:=d
 obtain ⟨a0,c0,a1,c1,a2,c2,a3,c3,a4,c4,a5,c5,rfl,dY,lV,lU,og,nZ,nY⟩:=uN h
 obtain ⟨a0',c0',a1',c1',Ct,c2',a3',c3',a4',JI,JJ,JH,rfl,vJ,TN,TM,TL,TK,TJ⟩:=uN h'
 exact eq_YardOut dY lV lU og nZ nY vJ TN TM TL TK TJ
theorem nO {W:World}{S:Nat→Prop}{L0:List (List (av))}{L1:List (bq)}{L2:List (aV)}{x3:Int}{L3:List (aO)}{L4:List (aG)}{L5:List (bH)}{x7:Int}{x8:Int}{x9:Int}{cs:List Value}(h:cu.ow W S (((L0,L1,L2,x3),L3,L4,L5,x7),x8,x9) cs):∃ a0 c0 a1 c1 a2 c2 a3 c3 a4 c4 a5 c5,cs = [.slice a0 L0.length c0,.slice a1 L1.length c1,.slice a2 L2.length c2,.int .i64 x3,.slice a3 L3.length c3,.slice a4 L4.length c4,.slice a5 L5.length c5,.int .i64 x7,.int .i64 x8,.int .i64 x9]∧cu.ow W S (((L0,L1,L2,x3),L3,L4,L5,x7),x8,x9) [.slice a0 L0.length c0,.slice a1 L1.length c1,.slice a2 L2.length c2,.int .i64 x3,.slice a3 L3.length c3,.slice a4 L4.length c4,.slice a5 L5.length c5,.int .i64 x7,.int .i64 x8,.int .i64 x9]:=by
 have h0:=h
 obtain ⟨a0,c0,a1,c1,a2,c2,a3,c3,a4,c4,a5,c5,T0,T1,T2,T3,T4,T5,rfl,_⟩:=BD h
 exact ⟨a0,c0,a1,c1,a2,c2,a3,c3,a4,c4,a5,c5,rfl,h0⟩
theorem qZ {L0:List (List (av))}{L1:List (bq)}{L2:List (aV)}{x3:Int}{L3:List (aO)}{L4:List (aG)}{L5:List (bH)}{x7:Int}{x8:Int}{x9:Int}:cu.cv (((L0,L1,L2,x3),L3,L4,L5,x7),x8,x9)=bE ((Sl au)).cm L0+bE (aS).cm L1+bE (aM).cm L2+bE (aJ).cm L3+bE (aI).cm L4+bE (bD).cm L5:=by
 simp only [cu,bW,bZ,Pr,Sl,I,Bo,atom];omega
theorem Dc {d:dZ}{cs:List Value}{W:World}{S:Nat→Prop}{k:Int}(h0:0≤k)(h1:k+(cu.cv d:Nat)≤4611686018427387904)(hS:∀ q,S q→q<W.heap.size)(h:cu.ow W S d cs):Calls Tryz.prog 15 #[.agg cs.toArray,.int .i64 k] W (Ug cu d cs S k W):=by
 obtain ⟨⟨⟨L0,L1,L2,x3⟩,L3,L4,L5,x7⟩,x8,x9⟩:=d
 obtain ⟨a0,c0,a1,c1,a2,c2,a3,c3,a4,c4,a5,c5,T0,T1,T2,T3,T4,T5,rfl,hs0,hs1,hs2,hs3,hs4,hs5,jP,jO,mG,mF,mE,jN,mD,mq,mo,mh,mg,l9,l8,l7,lZ,dY,lV,lU,og,nZ,nY⟩:=BD h
 have hcv:=qZ (L0:=L0) (L1:=L1) (L2:=L2) (x3:=x3) (L3:=L3) (L4:=L4) (L5:=L5) (x7:=x7) (x8:=x8) (x9:=x9)
 refine (Fa h0 (by rw [hcv] at h1;omega) (fun q hq=>hS q (hs0 q hq)) (fun q hq=>hS q (hs1 q hq)) (fun q hq=>hS q (hs2 q hq)) (fun q hq=>hS q (hs3 q hq)) (fun q hq=>hS q (hs4 q hq)) (fun q hq=>hS q (hs5 q hq)) (fun q hi hj=>jP q hi hj) (fun q hi hj=>jO q hi hj) (fun q hi hj=>mG q hi hj) (fun q hi hj=>mF q hi hj) (fun q hi hj=>mE q hi hj) (fun q hi hj=>jN q hi hj) (fun q hi hj=>mD q hi hj) (fun q hi hj=>mq q hi hj) (fun q hi hj=>mo q hi hj) (fun q hi hj=>mh q hi hj) (fun q hi hj=>mg q hi hj) (fun q hi hj=>l9 q hi hj) (fun q hi hj=>l8 q hi hj) (fun q hi hj=>l7 q hi hj) (fun q hi hj=>lZ q hi hj) dY lV lU og nZ nY).mono fun e w' hh=>?_
 obtain ⟨z0,z1,z2,z3,z4,z5,y0,y1,y2,y3,y4,y5,rfl,⟨hl0,hm0,hz0,ho0⟩,⟨hl1,hm1,hz1,ho1⟩,⟨hl2,hm2,hz2,ho2⟩,⟨hl3,OI,hz3,ho3⟩,⟨hl4,L9,mP,ho4⟩,⟨hl5,OH,uo,ho5⟩,hoff⟩:=hh
 have hmk:=E9 (x3:=x3) (x7:=x7) (x8:=x8) (x9:=x9) hs0 hs1 hs2 hs3 hs4 hs5 jP jO mG mF mE jN mD mq mo mh mg l9 l8 l7 lZ ho0 ho1 ho2 ho3 ho4 ho5
 simp only [hl0,hl1,hl2,hl3,hl4,hl5] at hmk
 exact ⟨(((y0,y1,y2,x3),y3,y4,y5,x7),x8,x9),_,rfl,⟨z5,⟨z2,⟨z0,hm0,⟨z1,hm1,⟨z2,hm2,rfl⟩⟩⟩,⟨z3,OI,⟨z4,L9,⟨z5,OH,rfl⟩⟩⟩⟩,⟨z5,rfl,rfl⟩⟩,by rw [hcv];omega,hmk,hoff.more fun q hq=>by rcases hq with hq | hq | hq | hq | hq | hq <;> first | exact hs0 q hq | exact hs1 q hq | exact hs2 q hq | exact hs3 q hq | exact hs4 q hq | exact hs5 q hq⟩
theorem ug {d:dZ}{cs:List Value}{W:World}{k z:Int}(h0:0≤k)(h1:z≤4611686018427387904)(hm:cu.mv d k z)(h:cu.rd W W.heap.size d cs):Calls Tryz.prog 16 #[.agg cs.toArray,.int .i64 k] W (nD z W):=by
 obtain ⟨⟨⟨L0,L1,L2,x3⟩,L3,L4,L5,x7⟩,x8,x9⟩:=d
 obtain ⟨a0,c0,a1,c1,a2,c2,a3,c3,a4,c4,a5,c5,rfl,dY,lV,lU,og,nZ,nY⟩:=uN h
 obtain ⟨_,⟨_,⟨_,hm0,⟨_,hm1,⟨_,hm2,rfl⟩⟩⟩,⟨_,OI,⟨_,L9,⟨_,OH,rfl⟩⟩⟩⟩,⟨_,rfl,rfl⟩⟩:=hm
 exact Fq h0 h1 hm0 hm1 hm2 OI L9 OH dY lV lU og nZ nY
end
end Go.Proofs.YtlhfiapfncikdaaGreatDoor.aP
