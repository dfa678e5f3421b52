import Derived.Test.YtlhfiapfncikdaaGreatDoorPU0
set_option linter.unusedVariables false
set_option linter.unusedSimpArgs false
set_option maxRecDepth 100000
set_option maxHeartbeats 3200000
namespace Go.Proofs.YtlhfiapfncikdaaGreatDoor.aP
section
open Go.RowKit bN bP
abbrev bq:Type:=(av)×(av)×(Int)
def aS:Rp bq:=(Pr au (Pr au I))
theorem aD:Ok aS:=(gN ak (gN ak cO))
theorem lu {W:World}{B:Nat}{x0:Int}{x1:Int}{x2:Int}{x3:Int}{x4:Int}{cs:List Value}(h:aS.rd W B ((x0,x1),(x2,x3),x4) cs):cs = [.int .i64 x0,.int .i64 x1,.int .i64 x2,.int .i64 x3,.int .i64 x4]:=by
 obtain ⟨u1,v1,rfl,h1,g1⟩:=h
 obtain ⟨u2,v2,rfl,h2,g2⟩:=h1
 obtain rfl:u2 = [_]:=h2
 obtain rfl:v2 = [_]:=g2
 obtain ⟨u3,v3,rfl,h3,g3⟩:=g1
 obtain ⟨u4,v4,rfl,h4,g4⟩:=h3
 obtain rfl:u4 = [_]:=h4
 obtain rfl:v4 = [_]:=g4
 obtain rfl:v3 = [_]:=g3
 rfl
theorem xS {W:World}{S:Nat→Prop}{x0:Int}{x1:Int}{x2:Int}{x3:Int}{x4:Int}  : aS.ow W S ((x0,x1),(x2,x3),x4) [.int .i64 x0,.int .i64 x1,.int .i64 x2,.int .i64 x3,.int .i64 x4]:=⟨[.int .i64 x0,.int .i64 x1],[.int .i64 x2,.int .i64 x3,.int .i64 x4],(fun _=>False),(fun _=>False),rfl,(fun k h=>h.elim),(fun k h=>h.elim),(fun k h h'=>h.elim),⟨[.int .i64 x0],[.int .i64 x1],(fun _=>False),(fun _=>False),rfl,(fun k h=>h.elim),(fun k h=>h.elim),(fun k h h'=>h.elim),rfl,rfl⟩,⟨[.int .i64 x2,.int .i64 x3],[.int .i64 x4],(fun _=>False),(fun _=>False),rfl,(fun k h=>h.elim),(fun k h=>h.elim),(fun k h h'=>h.elim),⟨[.int .i64 x2],[.int .i64 x3],(fun _=>False),(fun _=>False),rfl,(fun k h=>h.elim),(fun k h=>h.elim),(fun k h h'=>h.elim),rfl,rfl⟩,rfl⟩⟩
theorem GR {W:World}{S:Nat→Prop}{x0:Int}{x1:Int}{x2:Int}{x3:Int}{x4:Int}{cs:List Value}(h:aS.ow W S ((x0,x1),(x2,x3),x4) cs):cs = [.int .i64 x0,.int .i64 x1,.int .i64 x2,.int .i64 x3,.int .i64 x4]:=by
 obtain ⟨u1,v1,A1,B1,rfl,sa1,sb1,dd1,h1,g1⟩:=h
 obtain ⟨u2,v2,A2,B2,rfl,JG,El,FB,h2,g2⟩:=h1
 obtain rfl:u2 = [_]:=h2
 obtain rfl:v2 = [_]:=g2
 obtain ⟨u3,v3,A3,B3,rfl,FH,Ej,dd3,h3,g3⟩:=g1
 obtain ⟨u4,v4,A4,B4,rfl,LY,Xh,dd4,h4,g4⟩:=h3
 obtain rfl:u4 = [_]:=h4
 obtain rfl:v4 = [_]:=g4
 obtain rfl:v3 = [_]:=g3
 rfl
abbrev aV:Type:=(av)×(Int)
def aM:Rp aV:=(Pr au I)
theorem aB:Ok aM:=(gN ak cO)
theorem jo {W:World}{B:Nat}{x0:Int}{x1:Int}{x2:Int}{cs:List Value}(h:aM.rd W B ((x0,x1),x2) cs):cs = [.int .i64 x0,.int .i64 x1,.int .i64 x2]:=by
 obtain ⟨u1,v1,rfl,h1,g1⟩:=h
 obtain ⟨u2,v2,rfl,h2,g2⟩:=h1
 obtain rfl:u2 = [_]:=h2
 obtain rfl:v2 = [_]:=g2
 obtain rfl:v1 = [_]:=g1
 rfl
theorem uQ {W:World}{S:Nat→Prop}{x0:Int}{x1:Int}{x2:Int}  : aM.ow W S ((x0,x1),x2) [.int .i64 x0,.int .i64 x1,.int .i64 x2]:=⟨[.int .i64 x0,.int .i64 x1],[.int .i64 x2],(fun _=>False),(fun _=>False),rfl,(fun k h=>h.elim),(fun k h=>h.elim),(fun k h h'=>h.elim),⟨[.int .i64 x0],[.int .i64 x1],(fun _=>False),(fun _=>False),rfl,(fun k h=>h.elim),(fun k h=>h.elim),(fun k h h'=>h.elim),rfl,rfl⟩,rfl⟩
theorem DK {W:World}{S:Nat→Prop}{x0:Int}{x1:Int}{x2:Int}{cs:List Value}(h:aM.ow W S ((x0,x1),x2) cs):cs = [.int .i64 x0,.int .i64 x1,.int .i64 x2]:=by
 obtain ⟨u1,v1,A1,B1,rfl,sa1,sb1,dd1,h1,g1⟩:=h
 obtain ⟨u2,v2,A2,B2,rfl,JG,El,FB,h2,g2⟩:=h1
 obtain rfl:u2 = [_]:=h2
 obtain rfl:v2 = [_]:=g2
 obtain rfl:v1 = [_]:=g1
 rfl
abbrev Bp:Type:=(List (List (av)))×(List (bq))×(List (aV))×(Int)
def bZ:Rp Bp:=(Pr (Sl (Sl au)) (Pr (Sl aS) (Pr (Sl aM) I)))
theorem bY:Ok bZ:=(gN (aY (aY ak)) (gN (aY aD) (gN (aY aB) cO)))
theorem nP {W:World}{S:Nat→Prop}{L0:List (List (av))}{L1:List (bq)}{L2:List (aV)}{x3:Int}{a0:Option Addr}{c0:Nat}{a1:Option Addr}{c1:Nat}{a2:Option Addr}{c2:Nat}{T0:Nat→Prop}{T1:Nat→Prop}{T2:Nat→Prop}(hs0:∀ k,T0 k→S k)(hs1:∀ k,T1 k→S k)(hs2:∀ k,T2 k→S k)(jP:∀ k,T0 k→¬T1 k)(jO:∀ k,T0 k→¬T2 k)(jN:∀ k,T1 k→¬T2 k)(dP:bG (Sl au) W T0 L0 a0 c0)(gM:bG aS W T1 L1 a1 c1)(gL:bG aM W T2 L2 a2 c2):bZ.ow W S (L0,L1,L2,x3) [.slice a0 L0.length c0,.slice a1 L1.length c1,.slice a2 L2.length c2,.int .i64 x3]:=⟨[.slice a0 L0.length c0],[.slice a1 L1.length c1,.slice a2 L2.length c2,.int .i64 x3],T0,(fun k=>T1 k∨T2 k),rfl,(fun k h=>hs0 k h),(fun k h=>by rcases h with h | h <;> first | exact hs1 k h | exact hs2 k h),(fun k h h'=>by rcases h' with h' | h' <;> first | exact jP k h h' | exact jO k h h'),⟨a0,c0,rfl,dP⟩,⟨[.slice a1 L1.length c1],[.slice a2 L2.length c2,.int .i64 x3],T1,T2,rfl,(fun k h=>.inl h),(fun k h=>.inr (h)),jN,⟨a1,c1,rfl,gM⟩,⟨[.slice a2 L2.length c2],[.int .i64 x3],T2,(fun _=>False),rfl,(fun k h=>h),(fun k h=>h.elim),(fun k h h'=>h'.elim),⟨a2,c2,rfl,gL⟩,rfl⟩⟩⟩
theorem rR {W:World}{S:Nat→Prop}{L0:List (List (av))}{L1:List (bq)}{L2:List (aV)}{x3:Int}{cs:List Value}(h:bZ.ow W S (L0,L1,L2,x3) cs):∃ a0 c0 a1 c1 a2 c2,∃ T0 T1 T2:Nat→Prop,cs = [.slice a0 L0.length c0,.slice a1 L1.length c1,.slice a2 L2.length c2,.int .i64 x3]∧(∀ k,T0 k→S k)∧(∀ k,T1 k→S k)∧(∀ k,T2 k→S k)∧(∀ k,T0 k→¬T1 k)∧(∀ k,T0 k→¬T2 k)∧(∀ k,T1 k→¬T2 k)∧bG (Sl au) W T0 L0 a0 c0∧bG aS W T1 L1 a1 c1∧bG aM W T2 L2 a2 c2:=by
 obtain ⟨u1,v1,A1,B1,rfl,sa1,sb1,dd1,h1,g1⟩:=h
 obtain ⟨a0,c0,rfl,dY⟩:=h1
 obtain ⟨u2,v2,A2,B2,rfl,JG,El,FB,h2,g2⟩:=g1
 obtain ⟨a1,c1,rfl,lV⟩:=h2
 obtain ⟨u3,v3,A3,B3,rfl,FH,Ej,dd3,h3,g3⟩:=g2
 obtain ⟨a2,c2,rfl,lU⟩:=h3
 obtain rfl:v3 = [_]:=g3
 exact ⟨a0,c0,a1,c1,a2,c2,A1,A2,A3,rfl,fun k h=>sa1 k (h),fun k h=>sb1 k (JG k (h)),fun k h=>sb1 k (El k (FH k (h))),fun k h h'=>dd1 k (h) (JG k (h')),fun k h h'=>dd1 k (h) (El k (FH k (h'))),fun k h h'=>FB k (h) (FH k (h')),dY,lV,lU⟩
theorem Y6 {x0:Int}{x1:Int}{x2:Int}{x3:Int}{x4:Int}  {W:World}(hsz:aS.sz ((x0,x1),(x2,x3),x4)≤1048576):Calls Tryz.prog 126 #[.agg #[.int .i64 x0,.int .i64 x1,.int .i64 x2,.int .i64 x3,.int .i64 x4]] W (kU aS ((x0,x1),(x2,x3),x4) W):=by
 have ni:=aj hsz
 clear hsz
 have hP:=((aN.new W 179 #[.int .i64 x0,.int .i64 x1,.int .i64 x2,.int .i64 x3,.int .i64 x4]).alloc (.cells #[.int .i64 0,.int .i64 0,.int .i64 0,.int .i64 0,.int .i64 0] 176)).alloc (.cells #[.int .i64 0,.int .i64 0,.int .i64 0,.int .i64 0,.int .i64 0] 176)
 have hR:=(aN.new (W.alloc (.cells #[.int .i64 x0,.int .i64 x1,.int .i64 x2,.int .i64 x3,.int .i64 x4] 179)) 176 #[.int .i64 0,.int .i64 0,.int .i64 0,.int .i64 0,.int .i64 0]).alloc (.cells #[.int .i64 0,.int .i64 0,.int .i64 0,.int .i64 0,.int .i64 0] 176)
 have hO:=aN.new ((W.alloc (.cells #[.int .i64 x0,.int .i64 x1,.int .i64 x2,.int .i64 x3,.int .i64 x4] 179)).alloc (.cells #[.int .i64 0,.int .i64 0,.int .i64 0,.int .i64 0,.int .i64 0] 176)) 176 #[.int .i64 0,.int .i64 0,.int .i64 0,.int .i64 0,.int .i64 0]
 simp only [World.size_alloc] at hP hR hO
 have HB0:=aj (show Below W.heap.size W (((W.alloc (.cells #[.int .i64 x0,.int .i64 x1,.int .i64 x2,.int .i64 x3,.int .i64 x4] 179)).alloc (.cells #[.int .i64 0,.int .i64 0,.int .i64 0,.int .i64 0,.int .i64 0] 176)).alloc (.cells #[.int .i64 0,.int .i64 0,.int .i64 0,.int .i64 0,.int .i64 0] 176)) from (((aU _ _).alloc (bK _) _).alloc (by simp) _).alloc (by simp;omega) _)
 have hz0:W.heap.size+3≤(((W.alloc (.cells #[.int .i64 x0,.int .i64 x1,.int .i64 x2,.int .i64 x3,.int .i64 x4] 179)).alloc (.cells #[.int .i64 0,.int .i64 0,.int .i64 0,.int .i64 0,.int .i64 0] 176)).alloc (.cells #[.int .i64 0,.int .i64 0,.int .i64 0,.int .i64 0,.int .i64 0] 176)).heap.size:=by simp
 have iF:=aj hP
 have zT:=aj hR
 have yU:=aj hO
 clear hP hR hO
 go_enter Tryz.func126,Tryz.ntmps126
 go_wp2_with fail
 refine (mJ (by have h0:=ni.out;simp only [aS,au,Pr,Sl,I,Bo,atom] at h0 ⊢;omega)).mono ?_
 intro e w1 h
 obtain ⟨vs,rfl,how,hb⟩:=bX h
 obtain rfl:=jR how
 have hP:aN w1 (W.heap.size) 179 #[.int .i64 x0,.int .i64 x1,.int .i64 x2,.int .i64 x3,.int .i64 x4]:=aN.call iF.out hb
 have hR:aN w1 (W.heap.size+1) 176 #[.int .i64 0,.int .i64 0,.int .i64 0,.int .i64 0,.int .i64 0]:=aN.call zT.out hb
 have hO:aN w1 (W.heap.size+1+1) 176 #[.int .i64 0,.int .i64 0,.int .i64 0,.int .i64 0,.int .i64 0]:=aN.call yU.out hb
 have hz1:W.heap.size+3≤w1.heap.size:=eH hz0 (bQ hb (S:=fun x=>x<W.heap.size+3) (Off.refl (fun x=>x<W.heap.size+3) _))
 have HB1:=aj (Below.trans (B:=W.heap.size) (a:=W) HB0.out (hb.mono (by have h0:=hz0;first | omega | (simp;omega))))
 have dh:=aj hP
 have HR1:=aj hR
 have rF:=aj hO
 clear h hb hP hR hO how
 obtain ⟨vk,qH,nX,uy,zo⟩:=dh.out.vw rfl
 obtain ⟨CO,CK,Ev,FX,Si⟩:=rF.out.vw rfl
 obtain ⟨CF,CB,Ep,FT,R7⟩:=HR1.out.vw rfl
 obtain ⟨CV,CU,Ez,Ga,SG⟩:=rF.out.Xw
 obtain ⟨CS,CQ,Ey,FZ,SF⟩:=HR1.out.Xw
 go_wp2_with fail
 refine (mJ (by have h0:=ni.out;simp only [aS,au,Pr,Sl,I,Bo,atom] at h0 ⊢;omega)).mono ?_
 intro e w2 h
 obtain ⟨vs,rfl,how,hb⟩:=bX h
 obtain rfl:=jR how
 have hP:aN w2 (W.heap.size) 179 #[.int .i64 x0,.int .i64 x1,.int .i64 x2,.int .i64 x3,.int .i64 x4]:=aN.call (aN.far (b:=W.heap.size+1+1) (o:=1) (aN.far (b:=W.heap.size+1+1) (o:=0) dh.out (by omega) (.int .i64 x0)) (by omega) (.int .i64 x1)) hb
 have hR:aN w2 (W.heap.size+1) 176 #[.int .i64 0,.int .i64 0,.int .i64 0,.int .i64 0,.int .i64 0]:=aN.call (aN.far (b:=W.heap.size+1+1) (o:=1) (aN.far (b:=W.heap.size+1+1) (o:=0) HR1.out (by omega) (.int .i64 x0)) (by omega) (.int .i64 x1)) hb
 have hO:aN w2 (W.heap.size+1+1) 176 #[.int .i64 x0,.int .i64 x1,.int .i64 0,.int .i64 0,.int .i64 0]:=aN.call (aN.set (aN.set rF.out 0 (.int .i64 x0)) 1 (.int .i64 x1)) hb
 have hz2:W.heap.size+3≤w2.heap.size:=eH hz1 (bQ hb (S:=fun x=>x<W.heap.size+3) (((Off.refl (fun x=>x<W.heap.size+3) w1).setCell (p:=⟨W.heap.size+1+1,0,none⟩) (by show W.heap.size+1+1<W.heap.size+3;omega) (.int .i64 x0)).setCell (p:=⟨W.heap.size+1+1,1,none⟩) (by show W.heap.size+1+1<W.heap.size+3;omega) (.int .i64 x1)))
 have HB2:=aj (Below.trans (B:=W.heap.size) (a:=W) ((HB1.out.setCell (p:=⟨W.heap.size+1+1,0,none⟩) (by show W.heap.size≤W.heap.size+1+1;omega) (.int .i64 x0)).setCell (p:=⟨W.heap.size+1+1,1,none⟩) (by show W.heap.size≤W.heap.size+1+1;omega) (.int .i64 x1)) (hb.mono (by have h0:=hz1;first | omega | (simp;omega))))
 have hle2:=bQ hb (((Off.refl (fun x=>x<W.heap.size+3) w1).setCell (p:=⟨W.heap.size+1+1,0,none⟩) (by show W.heap.size+1+1<W.heap.size+3;omega) (.int .i64 x0)).setCell (p:=⟨W.heap.size+1+1,1,none⟩) (by show W.heap.size+1+1<W.heap.size+3;omega) (.int .i64 x1))
 have iD:=aj hP
 have HR2:=aj hR
 have vg:=aj hO
 clear h hb hP hR hO how
 clear vk CO CF CV CS qH CK CB CU CQ nX Ev Ep Ez Ey uy FX FT Ga FZ zo Si R7 SG SF
 obtain ⟨CJ,CG,zn,FU,O8⟩:=iD.out.vw rfl
 obtain ⟨Pj,Ph,Pg,Pf,Yp⟩:=vg.out.vw rfl
 obtain ⟨O4,O1,OZ,OY,Yj⟩:=HR2.out.vw rfl
 obtain ⟨Py,Px,Pw,Pv,Yv⟩:=vg.out.Xw
 obtain ⟨Pt,Pq,Pp,Po,Yu⟩:=HR2.out.Xw
 go_wp2
 refine qA (v:=.agg #[.int .i64 x0,.int .i64 x1,.int .i64 x2,.int .i64 x3,.int .i64 x4]) (by simp [results,Tryz.results126,go_sem, *]) rfl ⟨[.int .i64 x0,.int .i64 x1,.int .i64 x2,.int .i64 x3,.int .i64 x4],rfl,?_,((((((((HB2.out.setCell (p:=⟨W.heap.size+1+1,2,none⟩) (by show W.heap.size≤W.heap.size+1+1;omega) (.int .i64 x2)).setCell (p:=⟨W.heap.size+1+1,3,none⟩) (by show W.heap.size≤W.heap.size+1+1;omega) (.int .i64 x3)).setCell (p:=⟨W.heap.size+1+1,4,none⟩) (by show W.heap.size≤W.heap.size+1+1;omega) (.int .i64 x4)).setCell (p:=⟨W.heap.size+1,0,none⟩) (by show W.heap.size≤W.heap.size+1;omega) (.int .i64 x0)).setCell (p:=⟨W.heap.size+1,1,none⟩) (by show W.heap.size≤W.heap.size+1;omega) (.int .i64 x1)).setCell (p:=⟨W.heap.size+1,2,none⟩) (by show W.heap.size≤W.heap.size+1;omega) (.int .i64 x2)).setCell (p:=⟨W.heap.size+1,3,none⟩) (by show W.heap.size≤W.heap.size+1;omega) (.int .i64 x3)).setCell (p:=⟨W.heap.size+1,4,none⟩) (by show W.heap.size≤W.heap.size+1;omega) (.int .i64 x4))⟩
 have hoff:=(((((((((Off.refl (fun x=>x<W.heap.size+3) w2).setCell (p:=⟨W.heap.size+1+1,2,none⟩) (by show W.heap.size+1+1<W.heap.size+3;omega) (.int .i64 x2)).setCell (p:=⟨W.heap.size+1+1,3,none⟩) (by show W.heap.size+1+1<W.heap.size+3;omega) (.int .i64 x3)).setCell (p:=⟨W.heap.size+1+1,4,none⟩) (by show W.heap.size+1+1<W.heap.size+3;omega) (.int .i64 x4)).setCell (p:=⟨W.heap.size+1,0,none⟩) (by show W.heap.size+1<W.heap.size+3;omega) (.int .i64 x0)).setCell (p:=⟨W.heap.size+1,1,none⟩) (by show W.heap.size+1<W.heap.size+3;omega) (.int .i64 x1)).setCell (p:=⟨W.heap.size+1,2,none⟩) (by show W.heap.size+1<W.heap.size+3;omega) (.int .i64 x2)).setCell (p:=⟨W.heap.size+1,3,none⟩) (by show W.heap.size+1<W.heap.size+3;omega) (.int .i64 x3)).setCell (p:=⟨W.heap.size+1,4,none⟩) (by show W.heap.size+1<W.heap.size+3;omega) (.int .i64 x4))
 have hsz:=hoff.size
 exact xS
theorem jM:(aS).size=5:=rfl
def AY (n:Nat):Array Value:=madeCells #[.int .i64 0,.int .i64 0,.int .i64 0,.int .i64 0,.int .i64 0] (n*5)
theorem CY (n:Nat):(AY n).size=n*(aS).size:=by unfold AY;simp [madeCells,jM]
theorem La (n:Nat)(hn:n≤1048576):∀ W:World,(Instr.makeSlice 36 (.int .i64 (n:Int)) (.int .i64 (n:Int))).run Tryz.prog W=.ok (.slice (some ⟨W.heap.size,0,none⟩) n n) (W.alloc (.cells (AY n) 176)):=by
 intro W
 obtain ⟨i,hi,hz,hs,hb⟩:∃ i,Tryz.prog.info? 176=some i∧i.zero=some (.agg #[.int .i64 0,.int .i64 0,.int .i64 0,.int .i64 0,.int .i64 0])∧i.size=5∧i.bytes=40:=by
  have h:(Tryz.prog.info? 176).map (fun i=>(i.zero,i.size,i.bytes))=some (some (.agg #[.int .i64 0,.int .i64 0,.int .i64 0,.int .i64 0,.int .i64 0]),5,40):=by kernel_rfl
  cases hx:Tryz.prog.info? 176 with
  | none=>rw [hx] at h;simp at h
  | some i=>rw [hx] at h;simp at h;exact ⟨i,rfl,h.1,h.2.1,h.2.2⟩
 have hr:=run_make (P:=Tryz.prog) W 36 176 i _ Tryz.underlying36 hi hz .i64 .i64 n n (by omega) (by omega) (by rw [hb];omega) (by omega)
 rw [hs] at hr
 simp only [Int.toNat_natCast] at hr
 exact hr
theorem Vh {L:List (bq)}{a:Option Addr}{cap:Nat}{W:World}(hsz:((Sl aS)).sz L≤1048576)(h:aH aS W W.heap.size L a cap):Calls Tryz.prog 71 #[.slice a L.length cap] W (jW aS L W):=by
 have hn:L.length≤1048576:=eH (Nat.le_add_right _ _) hsz
 have hmk:=La L.length hn
 have H:=aj h
 have ni:=aj hsz
 clear h hsz
 go_enter Tryz.func71,Tryz.ntmps71
 go_wp2
 go_loopw [4] (fun i wr=>∃ k:Nat,k≤L.length∧i=.int .i64 k∧∃ Sf,sJ aS W wr L W.heap.size Sf k) (fun i _=>L.length-(intOf i).toNat)
 case atStart=>exact ⟨0,dX _,rfl,_,sJ.new (by exact CY _)⟩
 case round=>
  obtain ⟨k,hk,rfl,Sf,hF⟩:=hrel
  have HF:=aj hF
  by_cases hlt:k<L.length
  ·obtain ⟨⟨⟨x0,x1⟩,⟨x2,x3⟩,x4⟩,hx⟩:=aL hlt
   have HX:=aj hx
   obtain ⟨g,o,us,rfl,hg,hu,hr⟩:=(H.out.below aD hF.below).at_ hx
   obtain rfl:=lu hr
   obtain ⟨e0,e1,e2,e3,e4⟩:=SH (a:=o+k*5) hu rfl
   have hi0:(0:Int)≤(k:Int):=eu _
   have hi1:(k:Int)<(L.length:Int):=by omega
   have HE:=aj (vG (f:=(aS).sz) HX.out ni.out)
   clear hF hx hu hmk
   go_wp2_with fail
   refine (Y6 (by exact HE.out)).mono ?_
   intro e w1 h
   obtain ⟨vs,rfl,how,hb⟩:=bX h
   have HOW:=aj how
   obtain rfl:=GR how
   have HP:=aj (HF.out.put aD HX.out hb HOW.out)
   have hlt1:=HF.out.lt
   obtain ⟨t0,ht0⟩:=HF.out.there (k*5) (by rw [jM];omega)
   have q0:=(hb.cell (p:=⟨W.heap.size,k*5,none⟩) hlt1).trans ht0
   have s0:=(hb.frozen (p:=⟨W.heap.size,k*5,none⟩) hlt1).trans (HF.out.soft (k*5))
   obtain ⟨t1,ht1⟩:=HF.out.there (k*5+1) (by rw [jM];omega)
   have q1:=(hb.cell (p:=⟨W.heap.size,k*5+1,none⟩) hlt1).trans ht1
   have s1:=(hb.frozen (p:=⟨W.heap.size,k*5+1,none⟩) hlt1).trans (HF.out.soft (k*5+1))
   obtain ⟨t2,ht2⟩:=HF.out.there (k*5+2) (by rw [jM];omega)
   have q2:=(hb.cell (p:=⟨W.heap.size,k*5+2,none⟩) hlt1).trans ht2
   have s2:=(hb.frozen (p:=⟨W.heap.size,k*5+2,none⟩) hlt1).trans (HF.out.soft (k*5+2))
   obtain ⟨t3,ht3⟩:=HF.out.there (k*5+3) (by rw [jM];omega)
   have q3:=(hb.cell (p:=⟨W.heap.size,k*5+3,none⟩) hlt1).trans ht3
   have s3:=(hb.frozen (p:=⟨W.heap.size,k*5+3,none⟩) hlt1).trans (HF.out.soft (k*5+3))
   obtain ⟨t4,ht4⟩:=HF.out.there (k*5+4) (by rw [jM];omega)
   have q4:=(hb.cell (p:=⟨W.heap.size,k*5+4,none⟩) hlt1).trans ht4
   have s4:=(hb.frozen (p:=⟨W.heap.size,k*5+4,none⟩) hlt1).trans (HF.out.soft (k*5+4))
   clear h how hb ht0 ht1 ht2 ht3 ht4 e0 e1 e2 e3 e4
   go_wp2
   go_roundw
   case rel=>exact ⟨k+1,by omega,by go_num,_,by simpa [putCells,jM,Nat.add_assoc] using HP.out⟩
   case measure=>simp [intOf];omega
  ·obtain rfl:k=L.length:=by omega
   have HR:=aj (HF.out.news (by unfold maxLen;omega))
   clear hF hmk
   go_wp2
   go_ret
   exact HR.out
theorem Vg {x0:Int}{x1:Int}{x2:Int}  {W:World}(hsz:aM.sz ((x0,x1),x2)≤1048576):Calls Tryz.prog 127 #[.agg #[.int .i64 x0,.int .i64 x1,.int .i64 x2]] W (kU aM ((x0,x1),x2) W):=by
 have ni:=aj hsz
 clear hsz
 have hP:=((aN.new W 184 #[.int .i64 x0,.int .i64 x1,.int .i64 x2]).alloc (.cells #[.int .i64 0,.int .i64 0,.int .i64 0] 181)).alloc (.cells #[.int .i64 0,.int .i64 0,.int .i64 0] 181)
 have hR:=(aN.new (W.alloc (.cells #[.int .i64 x0,.int .i64 x1,.int .i64 x2] 184)) 181 #[.int .i64 0,.int .i64 0,.int .i64 0]).alloc (.cells #[.int .i64 0,.int .i64 0,.int .i64 0] 181)
 have hO:=aN.new ((W.alloc (.cells #[.int .i64 x0,.int .i64 x1,.int .i64 x2] 184)).alloc (.cells #[.int .i64 0,.int .i64 0,.int .i64 0] 181)) 181 #[.int .i64 0,.int .i64 0,.int .i64 0]
 simp only [World.size_alloc] at hP hR hO
 have HB0:=aj (show Below W.heap.size W (((W.alloc (.cells #[.int .i64 x0,.int .i64 x1,.int .i64 x2] 184)).alloc (.cells #[.int .i64 0,.int .i64 0,.int .i64 0] 181)).alloc (.cells #[.int .i64 0,.int .i64 0,.int .i64 0] 181)) from (((aU _ _).alloc (bK _) _).alloc (by simp) _).alloc (by simp;omega) _)
 have hz0:W.heap.size+3≤(((W.alloc (.cells #[.int .i64 x0,.int .i64 x1,.int .i64 x2] 184)).alloc (.cells #[.int .i64 0,.int .i64 0,.int .i64 0] 181)).alloc (.cells #[.int .i64 0,.int .i64 0,.int .i64 0] 181)).heap.size:=by simp
 have iF:=aj hP
 have zT:=aj hR
 have yU:=aj hO
 clear hP hR hO
 go_enter Tryz.func127,Tryz.ntmps127
 go_wp2_with fail
 refine (mJ (by have h0:=ni.out;simp only [aM,au,Pr,Sl,I,Bo,atom] at h0 ⊢;omega)).mono ?_
 intro e w1 h
 obtain ⟨vs,rfl,how,hb⟩:=bX h
 obtain rfl:=jR how
 have hP:aN w1 (W.heap.size) 184 #[.int .i64 x0,.int .i64 x1,.int .i64 x2]:=aN.call iF.out hb
 have hR:aN w1 (W.heap.size+1) 181 #[.int .i64 0,.int .i64 0,.int .i64 0]:=aN.call zT.out hb
 have hO:aN w1 (W.heap.size+1+1) 181 #[.int .i64 0,.int .i64 0,.int .i64 0]:=aN.call yU.out hb
 have hz1:W.heap.size+3≤w1.heap.size:=eH hz0 (bQ hb (S:=fun x=>x<W.heap.size+3) (Off.refl (fun x=>x<W.heap.size+3) _))
 have HB1:=aj (Below.trans (B:=W.heap.size) (a:=W) HB0.out (hb.mono (by have h0:=hz0;first | omega | (simp;omega))))
 have dh:=aj hP
 have HR1:=aj hR
 have rF:=aj hO
 clear h hb hP hR hO how
 obtain ⟨vk,qH,nX⟩:=dh.out.o8 rfl
 obtain ⟨CO,CK,Ev⟩:=rF.out.o8 rfl
 obtain ⟨CF,CB,Ep⟩:=HR1.out.o8 rfl
 obtain ⟨CV,CU,Ez⟩:=rF.out.sof3
 obtain ⟨CS,CQ,Ey⟩:=HR1.out.sof3
 go_wp2
 refine qA (v:=.agg #[.int .i64 x0,.int .i64 x1,.int .i64 x2]) (by simp [results,Tryz.results127,go_sem, *]) rfl ⟨[.int .i64 x0,.int .i64 x1,.int .i64 x2],rfl,?_,((((((HB1.out.setCell (p:=⟨W.heap.size+1+1,0,none⟩) (by show W.heap.size≤W.heap.size+1+1;omega) (.int .i64 x0)).setCell (p:=⟨W.heap.size+1+1,1,none⟩) (by show W.heap.size≤W.heap.size+1+1;omega) (.int .i64 x1)).setCell (p:=⟨W.heap.size+1+1,2,none⟩) (by show W.heap.size≤W.heap.size+1+1;omega) (.int .i64 x2)).setCell (p:=⟨W.heap.size+1,0,none⟩) (by show W.heap.size≤W.heap.size+1;omega) (.int .i64 x0)).setCell (p:=⟨W.heap.size+1,1,none⟩) (by show W.heap.size≤W.heap.size+1;omega) (.int .i64 x1)).setCell (p:=⟨W.heap.size+1,2,none⟩) (by show W.heap.size≤W.heap.size+1;omega) (.int .i64 x2))⟩
 have hoff:=(((((((Off.refl (fun x=>x<W.heap.size+3) w1).setCell (p:=⟨W.heap.size+1+1,0,none⟩) (by show W.heap.size+1+1<W.heap.size+3;omega) (.int .i64 x0)).setCell (p:=⟨W.heap.size+1+1,1,none⟩) (by show W.heap.size+1+1<W.heap.size+3;omega) (.int .i64 x1)).setCell (p:=⟨W.heap.size+1+1,2,none⟩) (by show W.heap.size+1+1<W.heap.size+3;omega) (.int .i64 x2)).setCell (p:=⟨W.heap.size+1,0,none⟩) (by show W.heap.size+1<W.heap.size+3;omega) (.int .i64 x0)).setCell (p:=⟨W.heap.size+1,1,none⟩) (by show W.heap.size+1<W.heap.size+3;omega) (.int .i64 x1)).setCell (p:=⟨W.heap.size+1,2,none⟩) (by show W.heap.size+1<W.heap.size+3;omega) (.int .i64 x2))
 have hsz:=hoff.size
 exact uQ
theorem kS:(aM).size=3:=rfl
def xK (n:Nat):Array Value:=madeCells #[.int .i64 0,.int .i64 0,.int .i64 0] (n*3)
theorem Cg (n:Nat):(xK n).size=n*(aM).size:=by unfold xK;simp [madeCells,kS]
theorem I5 (n:Nat)(hn:n≤1048576):∀ W:World,(Instr.makeSlice 37 (.int .i64 (n:Int)) (.int .i64 (n:Int))).run Tryz.prog W=.ok (.slice (some ⟨W.heap.size,0,none⟩) n n) (W.alloc (.cells (xK n) 181)):=by
 intro W
 obtain ⟨i,hi,hz,hs,hb⟩:∃ i,Tryz.prog.info? 181=some i∧i.zero=some (.agg #[.int .i64 0,.int .i64 0,.int .i64 0])∧i.size=3∧i.bytes=24:=by
  have h:(Tryz.prog.info? 181).map (fun i=>(i.zero,i.size,i.bytes))=some (some (.agg #[.int .i64 0,.int .i64 0,.int .i64 0]),3,24):=by kernel_rfl
  cases hx:Tryz.prog.info? 181 with
  | none=>rw [hx] at h;simp at h
  | some i=>rw [hx] at h;simp at h;exact ⟨i,rfl,h.1,h.2.1,h.2.2⟩
 have hr:=run_make (P:=Tryz.prog) W 37 181 i _ Tryz.underlying37 hi hz .i64 .i64 n n (by omega) (by omega) (by rw [hb];omega) (by omega)
 rw [hs] at hr
 simp only [Int.toNat_natCast] at hr
 exact hr
theorem P7 {L:List (aV)}{a:Option Addr}{cap:Nat}{W:World}(hsz:((Sl aM)).sz L≤1048576)(h:aH aM W W.heap.size L a cap):Calls Tryz.prog 72 #[.slice a L.length cap] W (jW aM L W):=by
 have hn:L.length≤1048576:=eH (Nat.le_add_right _ _) hsz
 have hmk:=I5 L.length hn
 have H:=aj h
 have ni:=aj hsz
 clear h hsz
 go_enter Tryz.func72,Tryz.ntmps72
 go_wp2
 go_loopw [4] (fun i wr=>∃ k:Nat,k≤L.length∧i=.int .i64 k∧∃ Sf,sJ aM W wr L W.heap.size Sf k) (fun i _=>L.length-(intOf i).toNat)
 case atStart=>exact ⟨0,dX _,rfl,_,sJ.new (by exact Cg _)⟩
 case round=>
  obtain ⟨k,hk,rfl,Sf,hF⟩:=hrel
  have HF:=aj hF
  by_cases hlt:k<L.length
  ·obtain ⟨⟨⟨x0,x1⟩,x2⟩,hx⟩:=aL hlt
   have HX:=aj hx
   obtain ⟨g,o,us,rfl,hg,hu,hr⟩:=(H.out.below aB hF.below).at_ hx
   obtain rfl:=jo hr
   obtain ⟨e0,e1,e2⟩:=J8 (a:=o+k*3) hu rfl
   have hi0:(0:Int)≤(k:Int):=eu _
   have hi1:(k:Int)<(L.length:Int):=by omega
   have HE:=aj (vG (f:=(aM).sz) HX.out ni.out)
   clear hF hx hu hmk
   go_wp2_with fail
   refine (Vg (by exact HE.out)).mono ?_
   intro e w1 h
   obtain ⟨vs,rfl,how,hb⟩:=bX h
   have HOW:=aj how
   obtain rfl:=DK how
   have HP:=aj (HF.out.put aB HX.out hb HOW.out)
   have hlt1:=HF.out.lt
   obtain ⟨t0,ht0⟩:=HF.out.there (k*3) (by rw [kS];omega)
   have q0:=(hb.cell (p:=⟨W.heap.size,k*3,none⟩) hlt1).trans ht0
   have s0:=(hb.frozen (p:=⟨W.heap.size,k*3,none⟩) hlt1).trans (HF.out.soft (k*3))
   obtain ⟨t1,ht1⟩:=HF.out.there (k*3+1) (by rw [kS];omega)
   have q1:=(hb.cell (p:=⟨W.heap.size,k*3+1,none⟩) hlt1).trans ht1
   have s1:=(hb.frozen (p:=⟨W.heap.size,k*3+1,none⟩) hlt1).trans (HF.out.soft (k*3+1))
   obtain ⟨t2,ht2⟩:=HF.out.there (k*3+2) (by rw [kS];omega)
   have q2:=(hb.cell (p:=⟨W.heap.size,k*3+2,none⟩) hlt1).trans ht2
   have s2:=(hb.frozen (p:=⟨W.heap.size,k*3+2,none⟩) hlt1).trans (HF.out.soft (k*3+2))
   clear h how hb ht0 ht1 ht2 e0 e1 e2
   go_wp2
   go_roundw
   case rel=>exact ⟨k+1,by omega,by go_num,_,by simpa [putCells,kS,Nat.add_assoc] using HP.out⟩
   case measure=>simp [intOf];omega
  ·obtain rfl:k=L.length:=by omega
   have HR:=aj (HF.out.news (by unfold maxLen;omega))
   clear hF hmk
   go_wp2
   go_ret
   exact HR.out
theorem Qa {L0:List (List (av))}{L1:List (bq)}{L2:List (aV)}{x3:Int}{a0:Option Addr}{c0:Nat}{a1:Option Addr}{c1:Nat}{a2:Option Addr}{c2:Nat}{W:World}(hsz:bZ.sz (L0,L1,L2,x3)≤1048576)(dP:aH (Sl au) W W.heap.size L0 a0 c0)(gM:aH aS W W.heap.size L1 a1 c1)(gL:aH aM W W.heap.size L2 a2 c2):Calls Tryz.prog 32 #[.agg #[.slice a0 L0.length c0,.slice a1 L1.length c1,.slice a2 L2.length c2,.int .i64 x3]] W (kU bZ (L0,L1,L2,x3) W):=by
 have jL:=aj dP
 have pF:=aj gM
 have pE:=aj gL
 have ni:=aj hsz
 clear hsz dP gM gL
 have hP:=((aN.new W 26 #[.slice a0 L0.length c0,.slice a1 L1.length c1,.slice a2 L2.length c2,.int .i64 x3]).alloc (.cells #[.slice none 0 0,.slice none 0 0,.slice none 0 0,.int .i64 0] 39)).alloc (.cells #[.slice none 0 0,.slice none 0 0,.slice none 0 0,.int .i64 0] 39)
 have hR:=(aN.new (W.alloc (.cells #[.slice a0 L0.length c0,.slice a1 L1.length c1,.slice a2 L2.length c2,.int .i64 x3] 26)) 39 #[.slice none 0 0,.slice none 0 0,.slice none 0 0,.int .i64 0]).alloc (.cells #[.slice none 0 0,.slice none 0 0,.slice none 0 0,.int .i64 0] 39)
 have hO:=aN.new ((W.alloc (.cells #[.slice a0 L0.length c0,.slice a1 L1.length c1,.slice a2 L2.length c2,.int .i64 x3] 26)).alloc (.cells #[.slice none 0 0,.slice none 0 0,.slice none 0 0,.int .i64 0] 39)) 39 #[.slice none 0 0,.slice none 0 0,.slice none 0 0,.int .i64 0]
 simp only [World.size_alloc] at hP hR hO
 have HB0:=aj (show Below W.heap.size W (((W.alloc (.cells #[.slice a0 L0.length c0,.slice a1 L1.length c1,.slice a2 L2.length c2,.int .i64 x3] 26)).alloc (.cells #[.slice none 0 0,.slice none 0 0,.slice none 0 0,.int .i64 0] 39)).alloc (.cells #[.slice none 0 0,.slice none 0 0,.slice none 0 0,.int .i64 0] 39)) from (((aU _ _).alloc (bK _) _).alloc (by simp) _).alloc (by simp;omega) _)
 have hz0:W.heap.size+3≤(((W.alloc (.cells #[.slice a0 L0.length c0,.slice a1 L1.length c1,.slice a2 L2.length c2,.int .i64 x3] 26)).alloc (.cells #[.slice none 0 0,.slice none 0 0,.slice none 0 0,.int .i64 0] 39)).alloc (.cells #[.slice none 0 0,.slice none 0 0,.slice none 0 0,.int .i64 0] 39)).heap.size:=by simp
 have iF:=aj hP
 have zT:=aj hR
 have yU:=aj hO
 clear hP hR hO
 go_enter Tryz.func32,Tryz.ntmps32
 go_wp2_with fail
 refine (Kr (by have h0:=ni.out;simp only [bZ,Pr,Sl,I,Bo,atom] at h0 ⊢;omega) ((jL.out.below (aY ak) HB0.out).more (aY ak) (by have h0:=hz0;first | omega | (simp;omega)))).mono ?_
 intro e w1 h
 obtain ⟨fq,eZ,rfl,mH,hb⟩:=bI h
 have hP:aN w1 (W.heap.size) 26 #[.slice a0 L0.length c0,.slice a1 L1.length c1,.slice a2 L2.length c2,.int .i64 x3]:=aN.call iF.out hb
 have hR:aN w1 (W.heap.size+1) 39 #[.slice none 0 0,.slice none 0 0,.slice none 0 0,.int .i64 0]:=aN.call zT.out hb
 have hO:aN w1 (W.heap.size+1+1) 39 #[.slice none 0 0,.slice none 0 0,.slice none 0 0,.int .i64 0]:=aN.call yU.out hb
 have hz1:W.heap.size+3≤w1.heap.size:=eH hz0 (bQ hb (S:=fun x=>x<W.heap.size+3) (Off.refl (fun x=>x<W.heap.size+3) _))
 have HB1:=aj (Below.trans (B:=W.heap.size) (a:=W) HB0.out (hb.mono (by have h0:=hz0;first | omega | (simp;omega))))
 have kP:=aj mH
 have dS:=aj (fun k hk=>eG hb (m:=W.heap.size+3) (by have h0:=hz0;first | omega | (simp;omega)) k hk)
 have yB:=aj (eG hb (m:=0) (dX _))
 have dh:=aj hP
 have HR1:=aj hR
 have rF:=aj hO
 clear h hb hP hR hO mH
 obtain ⟨vk,qH,nX,uy⟩:=dh.out.jG rfl
 obtain ⟨CO,CK,Ev,FX⟩:=rF.out.jG rfl
 obtain ⟨CF,CB,Ep,FT⟩:=HR1.out.jG rfl
 obtain ⟨CV,CU,Ez,Ga⟩:=rF.out.Cy
 obtain ⟨CS,CQ,Ey,FZ⟩:=HR1.out.Cy
 go_wp2_with fail
 refine (Vh (by have h0:=ni.out;simp only [bZ,Pr,Sl,I,Bo,atom] at h0 ⊢;omega) ((pF.out.below aD (HB1.out.setCell (p:=⟨W.heap.size+1+1,0,none⟩) (by show W.heap.size≤W.heap.size+1+1;omega) (.slice fq L0.length eZ))).more aD (by have h0:=hz1;first | omega | (simp;omega)))).mono ?_
 intro e w2 h
 obtain ⟨iJ,iI,rfl,AV,hb⟩:=bI h
 have hP:aN w2 (W.heap.size) 26 #[.slice a0 L0.length c0,.slice a1 L1.length c1,.slice a2 L2.length c2,.int .i64 x3]:=aN.call (aN.far (b:=W.heap.size+1+1) (o:=0) dh.out (by omega) (.slice fq L0.length eZ)) hb
 have hR:aN w2 (W.heap.size+1) 39 #[.slice none 0 0,.slice none 0 0,.slice none 0 0,.int .i64 0]:=aN.call (aN.far (b:=W.heap.size+1+1) (o:=0) HR1.out (by omega) (.slice fq L0.length eZ)) hb
 have hO:aN w2 (W.heap.size+1+1) 39 #[.slice fq L0.length eZ,.slice none 0 0,.slice none 0 0,.int .i64 0]:=aN.call (aN.set rF.out 0 (.slice fq L0.length eZ)) hb
 have hz2:W.heap.size+3≤w2.heap.size:=eH hz1 (bQ hb (S:=fun x=>x<W.heap.size+3) ((Off.refl (fun x=>x<W.heap.size+3) w1).setCell (p:=⟨W.heap.size+1+1,0,none⟩) (by show W.heap.size+1+1<W.heap.size+3;omega) (.slice fq L0.length eZ)))
 have kP:=aj (kP.out.keep (aY ak) (fun k hk=>eP hb (S:=fun x=>x<W.heap.size+3) ((Off.refl (fun x=>x<W.heap.size+3) w1).setCell (p:=⟨W.heap.size+1+1,0,none⟩) (by show W.heap.size+1+1<W.heap.size+3;omega) (.slice fq L0.length eZ)) k (dS.out k hk).2 (by have:=(dS.out k hk).1;omega)))
 have dS:=aj (fun k hk=>(⟨(dS.out k hk).1,bV (dS.out k hk).2 (bQ hb (S:=fun x=>x<W.heap.size+3) ((Off.refl (fun x=>x<W.heap.size+3) w1).setCell (p:=⟨W.heap.size+1+1,0,none⟩) (by show W.heap.size+1+1<W.heap.size+3;omega) (.slice fq L0.length eZ)))⟩:W.heap.size+3≤k∧k<w2.heap.size))
 have HB2:=aj (Below.trans (B:=W.heap.size) (a:=W) (HB1.out.setCell (p:=⟨W.heap.size+1+1,0,none⟩) (by show W.heap.size≤W.heap.size+1+1;omega) (.slice fq L0.length eZ)) (hb.mono (by have h0:=hz1;first | omega | (simp;omega))))
 have qP:=aj AV
 have gP:=aj (fun k hk=>eG hb (m:=W.heap.size+3) (by have h0:=hz1;first | omega | (simp;omega)) k hk)
 have Gt:=aj (eG hb (m:=0) (dX _))
 have adZ:=aj (Dm hb ((Off.refl (fun x=>x<W.heap.size+3) w1).setCell (p:=⟨W.heap.size+1+1,0,none⟩) (by show W.heap.size+1+1<W.heap.size+3;omega) (.slice fq L0.length eZ)))
 have hle2:=bQ hb ((Off.refl (fun x=>x<W.heap.size+3) w1).setCell (p:=⟨W.heap.size+1+1,0,none⟩) (by show W.heap.size+1+1<W.heap.size+3;omega) (.slice fq L0.length eZ))
 have iD:=aj hP
 have HR2:=aj hR
 have vg:=aj hO
 clear h hb hP hR hO AV
 clear vk CO CF CV CS qH CK CB CU CQ nX Ev Ep Ez Ey uy FX FT Ga FZ
 obtain ⟨CJ,CG,zn,FU⟩:=iD.out.jG rfl
 obtain ⟨Pj,Ph,Pg,Pf⟩:=vg.out.jG rfl
 obtain ⟨O4,O1,OZ,OY⟩:=HR2.out.jG rfl
 obtain ⟨Py,Px,Pw,Pv⟩:=vg.out.Cy
 obtain ⟨Pt,Pq,Pp,Po⟩:=HR2.out.Cy
 go_wp2_with fail
 refine (P7 (by have h0:=ni.out;simp only [bZ,Pr,Sl,I,Bo,atom] at h0 ⊢;omega) ((pE.out.below aB (HB2.out.setCell (p:=⟨W.heap.size+1+1,1,none⟩) (by show W.heap.size≤W.heap.size+1+1;omega) (.slice iJ L1.length iI))).more aB (by have h0:=hz2;first | omega | (simp;omega)))).mono ?_
 intro e w3 h
 obtain ⟨j6,j4,rfl,AU,hb⟩:=bI h
 have hP:aN w3 (W.heap.size) 26 #[.slice a0 L0.length c0,.slice a1 L1.length c1,.slice a2 L2.length c2,.int .i64 x3]:=aN.call (aN.far (b:=W.heap.size+1+1) (o:=1) iD.out (by omega) (.slice iJ L1.length iI)) hb
 have hR:aN w3 (W.heap.size+1) 39 #[.slice none 0 0,.slice none 0 0,.slice none 0 0,.int .i64 0]:=aN.call (aN.far (b:=W.heap.size+1+1) (o:=1) HR2.out (by omega) (.slice iJ L1.length iI)) hb
 have hO:aN w3 (W.heap.size+1+1) 39 #[.slice fq L0.length eZ,.slice iJ L1.length iI,.slice none 0 0,.int .i64 0]:=aN.call (aN.set vg.out 1 (.slice iJ L1.length iI)) hb
 have hz3:W.heap.size+3≤w3.heap.size:=eH hz2 (bQ hb (S:=fun x=>x<W.heap.size+3) ((Off.refl (fun x=>x<W.heap.size+3) w2).setCell (p:=⟨W.heap.size+1+1,1,none⟩) (by show W.heap.size+1+1<W.heap.size+3;omega) (.slice iJ L1.length iI)))
 have kP:=aj (kP.out.keep (aY ak) (fun k hk=>eP hb (S:=fun x=>x<W.heap.size+3) ((Off.refl (fun x=>x<W.heap.size+3) w2).setCell (p:=⟨W.heap.size+1+1,1,none⟩) (by show W.heap.size+1+1<W.heap.size+3;omega) (.slice iJ L1.length iI)) k (dS.out k hk).2 (by have:=(dS.out k hk).1;omega)))
 have qP:=aj (qP.out.keep aD (fun k hk=>eP hb (S:=fun x=>x<W.heap.size+3) ((Off.refl (fun x=>x<W.heap.size+3) w2).setCell (p:=⟨W.heap.size+1+1,1,none⟩) (by show W.heap.size+1+1<W.heap.size+3;omega) (.slice iJ L1.length iI)) k (gP.out k hk).2 (by have:=(gP.out k hk).1;omega)))
 have dS:=aj (fun k hk=>(⟨(dS.out k hk).1,bV (dS.out k hk).2 (bQ hb (S:=fun x=>x<W.heap.size+3) ((Off.refl (fun x=>x<W.heap.size+3) w2).setCell (p:=⟨W.heap.size+1+1,1,none⟩) (by show W.heap.size+1+1<W.heap.size+3;omega) (.slice iJ L1.length iI)))⟩:W.heap.size+3≤k∧k<w3.heap.size))
 have gP:=aj (fun k hk=>(⟨(gP.out k hk).1,bV (gP.out k hk).2 (bQ hb (S:=fun x=>x<W.heap.size+3) ((Off.refl (fun x=>x<W.heap.size+3) w2).setCell (p:=⟨W.heap.size+1+1,1,none⟩) (by show W.heap.size+1+1<W.heap.size+3;omega) (.slice iJ L1.length iI)))⟩:W.heap.size+3≤k∧k<w3.heap.size))
 have HB3:=aj (Below.trans (B:=W.heap.size) (a:=W) (HB2.out.setCell (p:=⟨W.heap.size+1+1,1,none⟩) (by show W.heap.size≤W.heap.size+1+1;omega) (.slice iJ L1.length iI)) (hb.mono (by have h0:=hz2;first | omega | (simp;omega))))
 have vM:=aj AU
 have je:=aj (fun k hk=>eG hb (m:=W.heap.size+3) (by have h0:=hz2;first | omega | (simp;omega)) k hk)
 have MS:=aj (eG hb (m:=0) (dX _))
 have aa3:=aj (Dm hb ((Off.refl (fun x=>x<W.heap.size+3) w2).setCell (p:=⟨W.heap.size+1+1,1,none⟩) (by show W.heap.size+1+1<W.heap.size+3;omega) (.slice iJ L1.length iI)))
 have hle3:=bQ hb ((Off.refl (fun x=>x<W.heap.size+3) w2).setCell (p:=⟨W.heap.size+1+1,1,none⟩) (by show W.heap.size+1+1<W.heap.size+3;omega) (.slice iJ L1.length iI))
 have iT:=aj hP
 have HR3:=aj hR
 have Cv:=aj hO
 clear h hb hP hR hO AU
 clear CJ Pj O4 Py Pt CG Ph O1 Px Pq zn Pg OZ Pw Pp FU Pf OY Pv Po
 obtain ⟨Eu,Et,Es,Yl⟩:=iT.out.jG rfl
 obtain ⟨o3_0,o3_1,o3_2,o3_3⟩:=Cv.out.jG rfl
 obtain ⟨r3_0,r3_1,r3_2,r3_3⟩:=HR3.out.jG rfl
 obtain ⟨f3_0,f3_1,f3_2,f3_3⟩:=Cv.out.Cy
 obtain ⟨g3_0,g3_1,g3_2,g3_3⟩:=HR3.out.Cy
 go_wp2
 refine qA (v:=.agg #[.slice fq L0.length eZ,.slice iJ L1.length iI,.slice j6 L2.length j4,.int .i64 x3]) (by simp [results,Tryz.results32,go_sem, *]) rfl ⟨[.slice fq L0.length eZ,.slice iJ L1.length iI,.slice j6 L2.length j4,.int .i64 x3],rfl,?_,((((((HB3.out.setCell (p:=⟨W.heap.size+1+1,2,none⟩) (by show W.heap.size≤W.heap.size+1+1;omega) (.slice j6 L2.length j4)).setCell (p:=⟨W.heap.size+1+1,3,none⟩) (by show W.heap.size≤W.heap.size+1+1;omega) (.int .i64 x3)).setCell (p:=⟨W.heap.size+1,0,none⟩) (by show W.heap.size≤W.heap.size+1;omega) (.slice fq L0.length eZ)).setCell (p:=⟨W.heap.size+1,1,none⟩) (by show W.heap.size≤W.heap.size+1;omega) (.slice iJ L1.length iI)).setCell (p:=⟨W.heap.size+1,2,none⟩) (by show W.heap.size≤W.heap.size+1;omega) (.slice j6 L2.length j4)).setCell (p:=⟨W.heap.size+1,3,none⟩) (by show W.heap.size≤W.heap.size+1;omega) (.int .i64 x3))⟩
 have hoff:=(((((((Off.refl (fun x=>x<W.heap.size+3) w3).setCell (p:=⟨W.heap.size+1+1,2,none⟩) (by show W.heap.size+1+1<W.heap.size+3;omega) (.slice j6 L2.length j4)).setCell (p:=⟨W.heap.size+1+1,3,none⟩) (by show W.heap.size+1+1<W.heap.size+3;omega) (.int .i64 x3)).setCell (p:=⟨W.heap.size+1,0,none⟩) (by show W.heap.size+1<W.heap.size+3;omega) (.slice fq L0.length eZ)).setCell (p:=⟨W.heap.size+1,1,none⟩) (by show W.heap.size+1<W.heap.size+3;omega) (.slice iJ L1.length iI)).setCell (p:=⟨W.heap.size+1,2,none⟩) (by show W.heap.size+1<W.heap.size+3;omega) (.slice j6 L2.length j4)).setCell (p:=⟨W.heap.size+1,3,none⟩) (by show W.heap.size+1<W.heap.size+3;omega) (.int .i64 x3))
 have hsz:=hoff.size
 exact nP (fun k hk=>⟨by have:=(dS.out k hk).1;omega,by have:=(dS.out k hk).2;omega⟩) (fun k hk=>⟨by have:=(gP.out k hk).1;omega,by have:=(gP.out k hk).2;omega⟩) (fun k hk=>⟨by have:=(je.out k hk).1;omega,by have:=(je.out k hk).2;omega⟩) (fun k h h'=>by have h1:=(yB.out k h).2;have h2:=adZ.out k h';omega) (fun k h h'=>by have h1:=(yB.out k h).2;have h2:=aa3.out k h';omega) (fun k h h'=>by have h1:=(Gt.out k h).2;have h2:=aa3.out k h';omega) (kP.out.keep (aY ak) (fun k hk=>hoff.block k (dS.out k hk).2 (by have:=(dS.out k hk).1;omega))) (qP.out.keep aD (fun k hk=>hoff.block k (gP.out k hk).2 (by have:=(gP.out k hk).1;omega))) (vM.out.keep aB (fun k hk=>hoff.block k (je.out k hk).2 (by have:=(je.out k hk).1;omega)))
theorem eq_Pair {x0:Int}{x1:Int}{x2:Int}{x3:Int}{x4:Int}   {W:World}:Calls Tryz.prog 146 #[.agg #[.int .i64 x0,.int .i64 x1,.int .i64 x2,.int .i64 x3,.int .i64 x4],.agg #[.int .i64 x0,.int .i64 x1,.int .i64 x2,.int .i64 x3,.int .i64 x4]] W (sD true W):=by
 have HB0:=aj (show Below W.heap.size W ((W.alloc (.cells #[.int .i64 x0,.int .i64 x1,.int .i64 x2,.int .i64 x3,.int .i64 x4] 176)).alloc (.cells #[.int .i64 x0,.int .i64 x1,.int .i64 x2,.int .i64 x3,.int .i64 x4] 176)) from ((aU _ _).alloc (bK _) _).alloc (by simp) _)
 have hP:=(aN.new W 176 #[.int .i64 x0,.int .i64 x1,.int .i64 x2,.int .i64 x3,.int .i64 x4]).alloc (.cells #[.int .i64 x0,.int .i64 x1,.int .i64 x2,.int .i64 x3,.int .i64 x4] 176)
 have hQ:=aN.new (W.alloc (.cells #[.int .i64 x0,.int .i64 x1,.int .i64 x2,.int .i64 x3,.int .i64 x4] 176)) 176 #[.int .i64 x0,.int .i64 x1,.int .i64 x2,.int .i64 x3,.int .i64 x4]
 simp only [World.size_alloc] at hP hQ
 have iF:=aj hP
 have Di:=aj hQ
 have hz0:W.heap.size≤((W.alloc (.cells #[.int .i64 x0,.int .i64 x1,.int .i64 x2,.int .i64 x3,.int .i64 x4] 176)).alloc (.cells #[.int .i64 x0,.int .i64 x1,.int .i64 x2,.int .i64 x3,.int .i64 x4] 176)).heap.size:=HB0.out.size
 clear hP hQ
 go_enter Tryz.func146,Tryz.ntmps146
 go_wp2_with fail
 refine (eq_Label).mono ?_
 intro e w1 h
 obtain ⟨rfl,hb⟩:=bT h
 have dh:=aj (iF.out.call hb)
 have nk:=aj (Di.out.call hb)
 have HB1:=aj (HB0.out.trans (hb.mono hz0))
 have hz1:W.heap.size≤w1.heap.size:=HB1.out.size
 clear h hb
 have nX:=dh.out.at_ 2 rfl
 have uy:=dh.out.at_ 3 rfl
 have zo:=dh.out.at_ 4 rfl
 have JX:=nk.out.at_ 2 rfl
 have O5:=nk.out.at_ 3 rfl
 have R8:=nk.out.at_ 4 rfl
 go_wp2_with fail
 refine (eq_Label).mono ?_
 intro e w2 h
 obtain ⟨rfl,hb⟩:=bT h
 have iD:=aj (dh.out.call hb)
 have wY:=aj (nk.out.call hb)
 have HB2:=aj (HB1.out.trans (hb.mono hz1))
 have hz2:W.heap.size≤w2.heap.size:=HB2.out.size
 clear h hb
 clear nX JX uy O5 zo R8
 have O8:=iD.out.at_ 4 rfl
 have q2_4:=wY.out.at_ 4 rfl
 go_wp2
 all_goals
  go_ret
  exact ⟨rfl,HB2.out⟩
theorem fU:(aS).size=5:=rfl
theorem eq_PairS {L:List (bq)}{a a':Option Addr}{cap cap':Nat}{W:World}(h:aH aS W W.heap.size L a cap)(h':aH aS W W.heap.size L a' cap'):Calls Tryz.prog 82 #[.slice a L.length cap,.slice a' L.length cap'] W (sD true W):=by
 have hn:L.length≤9223372036854775807:=by have h1:=h.1;have h2:=h.2.1;unfold maxLen at h2;omega
 have H:=aj h
 have H':=aj h'
 clear h h'
 go_enter Tryz.func82,Tryz.ntmps82
 go_wp2
 go_loopw [5] (fun i wr=>∃ k:Nat,k≤L.length∧i=.int .i64 k∧Below W.heap.size W wr) (fun i _=>L.length-(intOf i).toNat)
 case atStart=>exact ⟨0,dX _,rfl,aU _ _⟩
 case round=>
  obtain ⟨k,hk,rfl,hB⟩:=hrel
  have HB:=aj hB
  have hsz:=hB.size
  by_cases hlt:k<L.length
  ·obtain ⟨⟨⟨x0,x1⟩,⟨x2,x3⟩,x4⟩,hx⟩:=aL hlt
   have HX:=aj hx
   obtain ⟨g,o,us,rfl,hg,hu,hr⟩:=(H.out.below aD hB).at_ hx
   obtain ⟨g',o',vs,rfl,hg',hu',hr'⟩:=(H'.out.below aD hB).at_ hx
   obtain rfl:=lu hr
   obtain rfl:=lu hr'
   have e0:wr.cell? ⟨g,o+k*5,none⟩=some (.int .i64 x0):=by simpa [fU,Nat.add_assoc] using hu 0 _ rfl
   have d0:wr.cell? ⟨g',o'+k*5,none⟩=some (.int .i64 x0):=by simpa [fU,Nat.add_assoc] using hu' 0 _ rfl
   have e1:wr.cell? ⟨g,o+k*5+1,none⟩=some (.int .i64 x1):=by simpa [fU,Nat.add_assoc] using hu 1 _ rfl
   have d1:wr.cell? ⟨g',o'+k*5+1,none⟩=some (.int .i64 x1):=by simpa [fU,Nat.add_assoc] using hu' 1 _ rfl
   have e2:wr.cell? ⟨g,o+k*5+2,none⟩=some (.int .i64 x2):=by simpa [fU,Nat.add_assoc] using hu 2 _ rfl
   have d2:wr.cell? ⟨g',o'+k*5+2,none⟩=some (.int .i64 x2):=by simpa [fU,Nat.add_assoc] using hu' 2 _ rfl
   have e3:wr.cell? ⟨g,o+k*5+3,none⟩=some (.int .i64 x3):=by simpa [fU,Nat.add_assoc] using hu 3 _ rfl
   have d3:wr.cell? ⟨g',o'+k*5+3,none⟩=some (.int .i64 x3):=by simpa [fU,Nat.add_assoc] using hu' 3 _ rfl
   have e4:wr.cell? ⟨g,o+k*5+4,none⟩=some (.int .i64 x4):=by simpa [fU,Nat.add_assoc] using hu 4 _ rfl
   have d4:wr.cell? ⟨g',o'+k*5+4,none⟩=some (.int .i64 x4):=by simpa [fU,Nat.add_assoc] using hu' 4 _ rfl
   have hi0:(0:Int)≤(k:Int):=eu _
   have hi1:(k:Int)<(L.length:Int):=by omega
   have hgl:g<wr.heap.size:=bV hg hsz
   have ig:g'<wr.heap.size:=bV hg' hsz
   clear hB hx hu hu'
   go_wp2_with fail
   refine dW (S:=(fun W=>W.cell? ⟨g,o+k*5,none⟩=some (.int .i64 x0)∧W.cell? ⟨g,o+k*5+1,none⟩=some (.int .i64 x1)∧W.cell? ⟨g,o+k*5+2,none⟩=some (.int .i64 x2)∧W.cell? ⟨g,o+k*5+3,none⟩=some (.int .i64 x3)∧W.cell? ⟨g,o+k*5+4,none⟩=some (.int .i64 x4)∧W.cell? ⟨g',o'+k*5,none⟩=some (.int .i64 x0)∧W.cell? ⟨g',o'+k*5+1,none⟩=some (.int .i64 x1)∧W.cell? ⟨g',o'+k*5+2,none⟩=some (.int .i64 x2)∧W.cell? ⟨g',o'+k*5+3,none⟩=some (.int .i64 x3)∧W.cell? ⟨g',o'+k*5+4,none⟩=some (.int .i64 x4)∧wr.heap.size≤W.heap.size∧Below wr.heap.size wr W)) (by kernel_rfl) (⟨e0,e1,e2,e3,e4,d0,d1,d2,d3,d4,bK _,(aU _ _).drew⟩) (fun ah=>?_)
   refine wpAnyH_take (i:=0) (v:=?hv1) rfl (by kernel_rfl) (by kernel_rfl) (by kernel_rfl) (fun _ _ _ h=>h) (Or.inl ⟨by kernel_rfl,?hy1⟩) ah ?hr1
   case hy1=>(intro w hSw;(try dsimp only at hSw);go_simp;try with_reducible rfl)
   refine wpAnyH_take (i:=1) (v:=?hv2) rfl (by kernel_rfl) (by kernel_rfl) (by kernel_rfl) (fun _ _ _ h=>h) (Or.inl ⟨by kernel_rfl,?hy2⟩) ah ?hr2
   case hy2=>(intro w hSw;(try dsimp only at hSw);go_simp;try with_reducible rfl)
   refine wpAnyH_take (i:=2) (v:=?hv3) rfl (by kernel_rfl) (by kernel_rfl) (by kernel_rfl) (fun _ _ _ h=>h) (Or.inl ⟨by kernel_rfl,?hy3⟩) ah ?hr3
   case hy3=>(intro w hSw;(try dsimp only at hSw);go_simp;try with_reducible rfl)
   refine wpAnyH_take (i:=3) (v:=?hv4) rfl (by kernel_rfl) (by kernel_rfl) (by kernel_rfl) (fun _ _ _ h=>h) (Or.inl ⟨by kernel_rfl,?hy4⟩) ah ?hr4
   case hy4=>(intro w hSw;(try dsimp only at hSw);go_simp;try with_reducible rfl)
   refine wpAnyH_take (i:=4) (v:=?hv5) rfl (by kernel_rfl) (by kernel_rfl) (by kernel_rfl) (fun _ _ _ h=>h) (Or.inl ⟨by kernel_rfl,?Xl⟩) ah ?hr5
   case Xl=>(intro w hSw;(try dsimp only at hSw);go_simp;try with_reducible rfl)
   refine wpAnyH_take (i:=5) (v:=?hv6) rfl (by kernel_rfl) (by kernel_rfl) (by kernel_rfl) (fun _ _ _ h=>h) (Or.inl ⟨by kernel_rfl,?Xk⟩) ah ?hr6
   case Xk=>(intro w hSw;(try dsimp only at hSw);go_simp;try with_reducible rfl)
   refine wpAnyH_take (i:=6) (v:=?hv7) rfl (by kernel_rfl) (by kernel_rfl) (by kernel_rfl) (fun _ _ _ h=>h) (Or.inl ⟨by kernel_rfl,?Xj⟩) ah ?hr7
   case Xj=>(intro w hSw;(try dsimp only at hSw);go_simp;try with_reducible rfl)
   refine wpAnyH_take (i:=7) (v:=?hv8) rfl (by kernel_rfl) (by kernel_rfl) (by kernel_rfl) (fun _ _ _ h=>h) (Or.inl ⟨by kernel_rfl,?Xi⟩) ah ?hr8
   case Xi=>(intro w hSw;(try dsimp only at hSw);go_simp;try with_reducible rfl)
   refine cZ 8 (fun K hK=>?_)
   go_simp
   refine (eq_Pair).mono ?_
   intro e w1 h
   obtain ⟨rfl,hb⟩:=bT h
   refine hK.out _ _ (⟨(hb.cell (p:=⟨g,o+k*5,none⟩) (bV hgl (iV ah).1)).trans ah.1,(hb.cell (p:=⟨g,o+k*5+1,none⟩) (bV hgl (iV ah).1)).trans ah.2.1,(hb.cell (p:=⟨g,o+k*5+2,none⟩) (bV hgl (iV ah).1)).trans ah.2.2.1,(hb.cell (p:=⟨g,o+k*5+3,none⟩) (bV hgl (iV ah).1)).trans ah.2.2.2.1,(hb.cell (p:=⟨g,o+k*5+4,none⟩) (bV hgl (iV ah).1)).trans ah.2.2.2.2.1,(hb.cell (p:=⟨g',o'+k*5,none⟩) (bV ig (iV ah).1)).trans ah.2.2.2.2.2.1,(hb.cell (p:=⟨g',o'+k*5+1,none⟩) (bV ig (iV ah).1)).trans ah.2.2.2.2.2.2.1,(hb.cell (p:=⟨g',o'+k*5+2,none⟩) (bV ig (iV ah).1)).trans (Er ah).1,(hb.cell (p:=⟨g',o'+k*5+3,none⟩) (bV ig (iV ah).1)).trans (o7 ah).1,(hb.cell (p:=⟨g',o'+k*5+4,none⟩) (bV ig (iV ah).1)).trans (kT ah).1,eH (iV ah).1 hb.size,(ML ah).trans (hb.mono (iV ah).1)⟩) (fun ah=>?_)
   clear hK K h
   refine tk 9 ah ?_
   refine dQ ?_
   have HB2:=aj (HB.out.trans ((ML ah).mono hsz))
   clear ah
   go_wp2
   go_roundw
   case rel=>exact ⟨k+1,by omega,by go_num,HB2.out⟩
   case measure=>simp [intOf];omega
  ·clear hB
   go_wp2
   go_ret
   exact ⟨rfl,HB.out⟩
theorem eq_Quota {x0:Int}{x1:Int}{x2:Int}   {W:World}:Calls Tryz.prog 147 #[.agg #[.int .i64 x0,.int .i64 x1,.int .i64 x2],.agg #[.int .i64 x0,.int .i64 x1,.int .i64 x2]] W (sD true W):=by
 have HB0:=aj (show Below W.heap.size W ((W.alloc (.cells #[.int .i64 x0,.int .i64 x1,.int .i64 x2] 181)).alloc (.cells #[.int .i64 x0,.int .i64 x1,.int .i64 x2] 181)) from ((aU _ _).alloc (bK _) _).alloc (by simp) _)
 have hP:=(aN.new W 181 #[.int .i64 x0,.int .i64 x1,.int .i64 x2]).alloc (.cells #[.int .i64 x0,.int .i64 x1,.int .i64 x2] 181)
 have hQ:=aN.new (W.alloc (.cells #[.int .i64 x0,.int .i64 x1,.int .i64 x2] 181)) 181 #[.int .i64 x0,.int .i64 x1,.int .i64 x2]
 simp only [World.size_alloc] at hP hQ
 have iF:=aj hP
 have Di:=aj hQ
 have hz0:W.heap.size≤((W.alloc (.cells #[.int .i64 x0,.int .i64 x1,.int .i64 x2] 181)).alloc (.cells #[.int .i64 x0,.int .i64 x1,.int .i64 x2] 181)).heap.size:=HB0.out.size
 clear hP hQ
 go_enter Tryz.func147,Tryz.ntmps147
 go_wp2_with fail
 refine (eq_Label).mono ?_
 intro e w1 h
 obtain ⟨rfl,hb⟩:=bT h
 have dh:=aj (iF.out.call hb)
 have nk:=aj (Di.out.call hb)
 have HB1:=aj (HB0.out.trans (hb.mono hz0))
 have hz1:W.heap.size≤w1.heap.size:=HB1.out.size
 clear h hb
 have nX:=dh.out.at_ 2 rfl
 have JX:=nk.out.at_ 2 rfl
 go_wp2
 all_goals
  go_ret
  exact ⟨rfl,HB1.out⟩
theorem jC:(aM).size=3:=rfl
theorem eq_QuotaS {L:List (aV)}{a a':Option Addr}{cap cap':Nat}{W:World}(h:aH aM W W.heap.size L a cap)(h':aH aM W W.heap.size L a' cap'):Calls Tryz.prog 83 #[.slice a L.length cap,.slice a' L.length cap'] W (sD true W):=by
 have hn:L.length≤9223372036854775807:=by have h1:=h.1;have h2:=h.2.1;unfold maxLen at h2;omega
 have H:=aj h
 have H':=aj h'
 clear h h'
 go_enter Tryz.func83,Tryz.ntmps83
 go_wp2
 go_loopw [5] (fun i wr=>∃ k:Nat,k≤L.length∧i=.int .i64 k∧Below W.heap.size W wr) (fun i _=>L.length-(intOf i).toNat)
 case atStart=>exact ⟨0,dX _,rfl,aU _ _⟩
 case round=>
  obtain ⟨k,hk,rfl,hB⟩:=hrel
  have HB:=aj hB
  have hsz:=hB.size
  by_cases hlt:k<L.length
  ·obtain ⟨⟨⟨x0,x1⟩,x2⟩,hx⟩:=aL hlt
   have HX:=aj hx
   obtain ⟨g,o,us,rfl,hg,hu,hr⟩:=(H.out.below aB hB).at_ hx
   obtain ⟨g',o',vs,rfl,hg',hu',hr'⟩:=(H'.out.below aB hB).at_ hx
   obtain rfl:=jo hr
   obtain rfl:=jo hr'
   have e0:wr.cell? ⟨g,o+k*3,none⟩=some (.int .i64 x0):=by simpa [jC,Nat.add_assoc] using hu 0 _ rfl
   have d0:wr.cell? ⟨g',o'+k*3,none⟩=some (.int .i64 x0):=by simpa [jC,Nat.add_assoc] using hu' 0 _ rfl
   have e1:wr.cell? ⟨g,o+k*3+1,none⟩=some (.int .i64 x1):=by simpa [jC,Nat.add_assoc] using hu 1 _ rfl
   have d1:wr.cell? ⟨g',o'+k*3+1,none⟩=some (.int .i64 x1):=by simpa [jC,Nat.add_assoc] using hu' 1 _ rfl
   have e2:wr.cell? ⟨g,o+k*3+2,none⟩=some (.int .i64 x2):=by simpa [jC,Nat.add_assoc] using hu 2 _ rfl
   have d2:wr.cell? ⟨g',o'+k*3+2,none⟩=some (.int .i64 x2):=by simpa [jC,Nat.add_assoc] using hu' 2 _ rfl
   have hi0:(0:Int)≤(k:Int):=eu _
   have hi1:(k:Int)<(L.length:Int):=by omega
   have hgl:g<wr.heap.size:=bV hg hsz
   have ig:g'<wr.heap.size:=bV hg' hsz
   clear hB hx hu hu'
   go_wp2_with fail
   refine dW (S:=(fun W=>W.cell? ⟨g,o+k*3,none⟩=some (.int .i64 x0)∧W.cell? ⟨g,o+k*3+1,none⟩=some (.int .i64 x1)∧W.cell? ⟨g,o+k*3+2,none⟩=some (.int .i64 x2)∧W.cell? ⟨g',o'+k*3,none⟩=some (.int .i64 x0)∧W.cell? ⟨g',o'+k*3+1,none⟩=some (.int .i64 x1)∧W.cell? ⟨g',o'+k*3+2,none⟩=some (.int .i64 x2)∧wr.heap.size≤W.heap.size∧Below wr.heap.size wr W)) (by kernel_rfl) (⟨e0,e1,e2,d0,d1,d2,bK _,(aU _ _).drew⟩) (fun ah=>?_)
   refine wpAnyH_take (i:=0) (v:=?hv10) rfl (by kernel_rfl) (by kernel_rfl) (by kernel_rfl) (fun _ _ _ h=>h) (Or.inl ⟨by kernel_rfl,?Sz⟩) ah ?hr10
   case Sz=>(intro w hSw;(try dsimp only at hSw);go_simp;try with_reducible rfl)
   refine wpAnyH_take (i:=1) (v:=?hv11) rfl (by kernel_rfl) (by kernel_rfl) (by kernel_rfl) (fun _ _ _ h=>h) (Or.inl ⟨by kernel_rfl,?Sy⟩) ah ?hr11
   case Sy=>(intro w hSw;(try dsimp only at hSw);go_simp;try with_reducible rfl)
   refine wpAnyH_take (i:=2) (v:=?hv12) rfl (by kernel_rfl) (by kernel_rfl) (by kernel_rfl) (fun _ _ _ h=>h) (Or.inl ⟨by kernel_rfl,?Sw⟩) ah ?hr12
   case Sw=>(intro w hSw;(try dsimp only at hSw);go_simp;try with_reducible rfl)
   refine wpAnyH_take (i:=3) (v:=?hv13) rfl (by kernel_rfl) (by kernel_rfl) (by kernel_rfl) (fun _ _ _ h=>h) (Or.inl ⟨by kernel_rfl,?Sv⟩) ah ?hr13
   case Sv=>(intro w hSw;(try dsimp only at hSw);go_simp;try with_reducible rfl)
   refine wpAnyH_take (i:=4) (v:=?hv14) rfl (by kernel_rfl) (by kernel_rfl) (by kernel_rfl) (fun _ _ _ h=>h) (Or.inl ⟨by kernel_rfl,?Sr⟩) ah ?hr14
   case Sr=>(intro w hSw;(try dsimp only at hSw);go_simp;try with_reducible rfl)
   refine wpAnyH_take (i:=5) (v:=?hv15) rfl (by kernel_rfl) (by kernel_rfl) (by kernel_rfl) (fun _ _ _ h=>h) (Or.inl ⟨by kernel_rfl,?Sq⟩) ah ?hr15
   case Sq=>(intro w hSw;(try dsimp only at hSw);go_simp;try with_reducible rfl)
   refine wpAnyH_take (i:=6) (v:=?hv16) rfl (by kernel_rfl) (by kernel_rfl) (by kernel_rfl) (fun _ _ _ h=>h) (Or.inl ⟨by kernel_rfl,?Sn⟩) ah ?hr16
   case Sn=>(intro w hSw;(try dsimp only at hSw);go_simp;try with_reducible rfl)
   refine wpAnyH_take (i:=7) (v:=?hv17) rfl (by kernel_rfl) (by kernel_rfl) (by kernel_rfl) (fun _ _ _ h=>h) (Or.inl ⟨by kernel_rfl,?Sm⟩) ah ?hr17
   case Sm=>(intro w hSw;(try dsimp only at hSw);go_simp;try with_reducible rfl)
   refine cZ 8 (fun K hK=>?_)
   go_simp
   refine (eq_Quota).mono ?_
   intro e w1 h
   obtain ⟨rfl,hb⟩:=bT h
   refine hK.out _ _ (⟨(hb.cell (p:=⟨g,o+k*3,none⟩) (bV hgl ah.2.2.2.2.2.2.1)).trans ah.1,(hb.cell (p:=⟨g,o+k*3+1,none⟩) (bV hgl ah.2.2.2.2.2.2.1)).trans ah.2.1,(hb.cell (p:=⟨g,o+k*3+2,none⟩) (bV hgl ah.2.2.2.2.2.2.1)).trans ah.2.2.1,(hb.cell (p:=⟨g',o'+k*3,none⟩) (bV ig ah.2.2.2.2.2.2.1)).trans ah.2.2.2.1,(hb.cell (p:=⟨g',o'+k*3+1,none⟩) (bV ig ah.2.2.2.2.2.2.1)).trans ah.2.2.2.2.1,(hb.cell (p:=⟨g',o'+k*3+2,none⟩) (bV ig ah.2.2.2.2.2.2.1)).trans ah.2.2.2.2.2.1,eH ah.2.2.2.2.2.2.1 hb.size,(Er ah).trans (hb.mono ah.2.2.2.2.2.2.1)⟩) (fun ah=>?_)
   clear hK K h
   refine wpAnyH_take (i:=9) (v:=?hv18) rfl (by kernel_rfl) (by kernel_rfl) (by kernel_rfl) (fun _ _ _ h=>h) (Or.inl ⟨by kernel_rfl,?Sk⟩) ah ?hr18
   case Sk=>(intro w hSw;(try dsimp only at hSw);go_simp;try with_reducible rfl)
   refine dQ ?_
   have HB2:=aj (HB.out.trans ((Er ah).mono hsz))
   clear ah
   go_wp2
   go_roundw
   case rel=>exact ⟨k+1,by omega,by go_num,HB2.out⟩
   case measure=>simp [intOf];omega
  ·clear hB
   go_wp2
   go_ret
   exact ⟨rfl,HB.out⟩
theorem eq_Config {L0:List (List (av))}{L1:List (bq)}{L2:List (aV)}{x3:Int}{a0:Option Addr}{c0:Nat}{a1:Option Addr}{c1:Nat}{a2:Option Addr}{c2:Nat}{a0':Option Addr}{c0':Nat}{a1':Option Addr}{c1':Nat}{Ct:Option Addr}{c2':Nat}{W:World}(dP:aH (Sl au) W W.heap.size L0 a0 c0)(gM:aH aS W W.heap.size L1 a1 c1)(gL:aH aM W W.heap.size L2 a2 c2)(nA:aH (Sl au) W W.heap.size L0 a0' c0')(yw:aH aS W W.heap.size L1 a1' c1')(yu:aH aM W W.heap.size L2 Ct c2'):Calls Tryz.prog 39 #[.agg #[.slice a0 L0.length c0,.slice a1 L1.length c1,.slice a2 L2.length c2,.int .i64 x3],.agg #[.slice a0' L0.length c0',.slice a1' L1.length c1',.slice Ct L2.length c2',.int .i64 x3]] W (sD true W):=by
 have jL:=aj dP
 have vO:=aj nA
 have pF:=aj gM
 have Gz:=aj yw
 have pE:=aj gL
 have Gy:=aj yu
 clear dP nA gM yw gL yu
 have HB0:=aj (show Below W.heap.size W ((W.alloc (.cells #[.slice a0 L0.length c0,.slice a1 L1.length c1,.slice a2 L2.length c2,.int .i64 x3] 39)).alloc (.cells #[.slice a0' L0.length c0',.slice a1' L1.length c1',.slice Ct L2.length c2',.int .i64 x3] 39)) from ((aU _ _).alloc (bK _) _).alloc (by simp) _)
 have hP:=(aN.new W 39 #[.slice a0 L0.length c0,.slice a1 L1.length c1,.slice a2 L2.length c2,.int .i64 x3]).alloc (.cells #[.slice a0' L0.length c0',.slice a1' L1.length c1',.slice Ct L2.length c2',.int .i64 x3] 39)
 have hQ:=aN.new (W.alloc (.cells #[.slice a0 L0.length c0,.slice a1 L1.length c1,.slice a2 L2.length c2,.int .i64 x3] 39)) 39 #[.slice a0' L0.length c0',.slice a1' L1.length c1',.slice Ct L2.length c2',.int .i64 x3]
 simp only [World.size_alloc] at hP hQ
 have iF:=aj hP
 have Di:=aj hQ
 have hz0:W.heap.size≤((W.alloc (.cells #[.slice a0 L0.length c0,.slice a1 L1.length c1,.slice a2 L2.length c2,.int .i64 x3] 39)).alloc (.cells #[.slice a0' L0.length c0',.slice a1' L1.length c1',.slice Ct L2.length c2',.int .i64 x3] 39)).heap.size:=HB0.out.size
 clear hP hQ
 go_enter Tryz.func39,Tryz.ntmps39
 go_wp2_with fail
 refine (eq_LabelSS ((jL.out.below (aY ak) HB0.out).more (aY ak) hz0) ((vO.out.below (aY ak) HB0.out).more (aY ak) hz0)).mono ?_
 intro e w1 h
 obtain ⟨rfl,hb⟩:=bT h
 have dh:=aj (iF.out.call hb)
 have nk:=aj (Di.out.call hb)
 have HB1:=aj (HB0.out.trans (hb.mono hz0))
 have hz1:W.heap.size≤w1.heap.size:=HB1.out.size
 clear h hb
 have qH:=dh.out.at_ 1 rfl
 have nX:=dh.out.at_ 2 rfl
 have uy:=dh.out.at_ 3 rfl
 have q1_1:=nk.out.at_ 1 rfl
 have JX:=nk.out.at_ 2 rfl
 have O5:=nk.out.at_ 3 rfl
 go_wp2_with fail
 refine (eq_PairS ((pF.out.below aD HB1.out).more aD hz1) ((Gz.out.below aD HB1.out).more aD hz1)).mono ?_
 intro e w2 h
 obtain ⟨rfl,hb⟩:=bT h
 have iD:=aj (dh.out.call hb)
 have wY:=aj (nk.out.call hb)
 have HB2:=aj (HB1.out.trans (hb.mono hz1))
 have hz2:W.heap.size≤w2.heap.size:=HB2.out.size
 clear h hb
 clear qH q1_1 nX JX uy O5
 have zn:=iD.out.at_ 2 rfl
 have FU:=iD.out.at_ 3 rfl
 have q2_2:=wY.out.at_ 2 rfl
 have q2_3:=wY.out.at_ 3 rfl
 go_wp2_with fail
 refine (eq_QuotaS ((pE.out.below aB HB2.out).more aB hz2) ((Gy.out.below aB HB2.out).more aB hz2)).mono ?_
 intro e w3 h
 obtain ⟨rfl,hb⟩:=bT h
 have iT:=aj (iD.out.call hb)
 have HQ3:=aj (wY.out.call hb)
 have HB3:=aj (HB2.out.trans (hb.mono hz2))
 have hz3:W.heap.size≤w3.heap.size:=HB3.out.size
 clear h hb
 clear zn q2_2 FU q2_3
 have Yl:=iT.out.at_ 3 rfl
 have q3_3:=HQ3.out.at_ 3 rfl
 go_wp2
 all_goals
  go_ret
  exact ⟨rfl,HB3.out⟩
theorem qd (L:List (bq)):(Sl aS).sz L=L.length:=by
 have:bE (aS).sz L=0:=kE (fun _=>rfl) L
 simp only [Sl,this,Nat.add_zero]
theorem Vo {L:List (bq)}{a:Option Addr}{cap:Nat}{W:World}{l:Int}(h0:0≤l)(h1:l≤1048576)(h:aH aS W W.heap.size L a cap):Calls Tryz.prog 61 #[.slice a L.length cap,.int .i64 l] W (Jz l ((Sl aS).sz L) W):=by
 have hn:L.length≤9223372036854775807:=by have h1:=h.1;have h2:=h.2.1;unfold maxLen at h2;omega
 rw [qd]
 clear h
 by_cases hf:(L.length:Int)≤l
 ·have HR:=aj (dJ hf)
  go_enter Tryz.func61,Tryz.ntmps61
  go_wp2
  go_ret
  exact ⟨by first | (rw [HR.out];done) | (rw [HR.out];rfl),aU _ _⟩
 ·have HR:=aj (dF hf)
  go_enter Tryz.func61,Tryz.ntmps61
  go_wp2
  go_ret
  exact ⟨by first | (rw [HR.out];done) | (rw [HR.out];rfl),aU _ _⟩
theorem nQ (L:List (aV)):(Sl aM).sz L=L.length:=by
 have:bE (aM).sz L=0:=kE (fun _=>rfl) L
 simp only [Sl,this,Nat.add_zero]
theorem Qe {L:List (aV)}{a:Option Addr}{cap:Nat}{W:World}{l:Int}(h0:0≤l)(h1:l≤1048576)(h:aH aM W W.heap.size L a cap):Calls Tryz.prog 62 #[.slice a L.length cap,.int .i64 l] W (Jz l ((Sl aM).sz L) W):=by
 have hn:L.length≤9223372036854775807:=by have h1:=h.1;have h2:=h.2.1;unfold maxLen at h2;omega
 rw [nQ]
 clear h
 by_cases hf:(L.length:Int)≤l
 ·have HR:=aj (dJ hf)
  go_enter Tryz.func62,Tryz.ntmps62
  go_wp2
  go_ret
  exact ⟨by first | (rw [HR.out];done) | (rw [HR.out];rfl),aU _ _⟩
 ·have HR:=aj (dF hf)
  go_enter Tryz.func62,Tryz.ntmps62
  go_wp2
  go_ret
  exact ⟨by first | (rw [HR.out];done) | (rw [HR.out];rfl),aU _ _⟩
theorem pV {L0:List (List (av))}{L1:List (bq)}{L2:List (aV)}{x3:Int}:bZ.sz (L0,L1,L2,x3)=(((Sl (Sl au))).sz L0)+(((Sl aS)).sz L1)+(((Sl aM)).sz L2):=by
 simp only [bZ,Pr,I,Bo,atom];omega
theorem Qh {L0:List (List (av))}{L1:List (bq)}{L2:List (aV)}{x3:Int}{a0:Option Addr}{c0:Nat}{a1:Option Addr}{c1:Nat}{a2:Option Addr}{c2:Nat}{W:World}{l:Int}(h0:0≤l)(h1:l≤1048576)(dP:aH (Sl au) W W.heap.size L0 a0 c0)(gM:aH aS W W.heap.size L1 a1 c1)(gL:aH aM W W.heap.size L2 a2 c2):Calls Tryz.prog 24 #[.agg #[.slice a0 L0.length c0,.slice a1 L1.length c1,.slice a2 L2.length c2,.int .i64 x3],.int .i64 l] W (Jz l (bZ.sz (L0,L1,L2,x3)) W):=by
 have jL:=aj dP
 have pF:=aj gM
 have pE:=aj gL
 clear dP gM gL
 have HD:=aj (pV (L0:=L0) (L1:=L1) (L2:=L2) (x3:=x3))
 have HB0:=aj (show Below W.heap.size W (W.alloc (.cells #[.slice a0 L0.length c0,.slice a1 L1.length c1,.slice a2 L2.length c2,.int .i64 x3] 26)) from (aU _ _).alloc (bK _) _)
 have hP:=aN.new W 26 #[.slice a0 L0.length c0,.slice a1 L1.length c1,.slice a2 L2.length c2,.int .i64 x3]
 have iF:=aj hP
 have hz0:W.heap.size≤(W.alloc (.cells #[.slice a0 L0.length c0,.slice a1 L1.length c1,.slice a2 L2.length c2,.int .i64 x3] 26)).heap.size:=HB0.out.size
 clear hP
 obtain ⟨s0,hs0⟩:∃ s,s=(((Sl (Sl au))).sz L0):=⟨_,rfl⟩
 have zD:=aj hs0
 rw [←hs0] at HD
 clear hs0
 obtain ⟨s1,hs1⟩:∃ s,s=(((Sl aS)).sz L1):=⟨_,rfl⟩
 have wX:=aj hs1
 rw [←hs1] at HD
 clear hs1
 obtain ⟨s2,hs2⟩:∃ s,s=(((Sl aM)).sz L2):=⟨_,rfl⟩
 have HS2:=aj hs2
 rw [←hs2] at HD
 clear hs2
 go_enter Tryz.func24,Tryz.ntmps24
 go_wp2_with fail
 refine (Kz (l:=l) (by omega) (by omega) ((jL.out.below (aY ak) HB0.out).more (aY ak) hz0)).mono ?_
 intro e w1 h
 obtain ⟨rfl,hb⟩:=gB h
 rw [←zD.out]
 have dh:=aj (iF.out.call hb)
 have HB1:=aj (HB0.out.trans (hb.mono hz0))
 have hz1:W.heap.size≤w1.heap.size:=HB1.out.size
 clear h hb
 obtain ⟨vk,qH,nX⟩:=dh.out.o8 rfl
 by_cases hf0:(s0:Int)≤l
 rotate_left
 ·rw [dF hf0]
  have HR:=aj (dF (l:=l) (s:=bZ.sz (L0,L1,L2,x3)) (by rw [HD.out];omega))
  go_wp2
  go_ret
  exact ⟨by first | (rw [HR.out];done) | (rw [HR.out];rfl),HB1.out⟩
 rw [dJ hf0]
 have Dp:(0:Int)≤l-(s0:Nat):=by omega
 go_wp2_with fail
 refine (Vo (l:=l-(s0:Nat)) (by omega) (by omega) ((pF.out.below aD HB1.out).more aD hz1)).mono ?_
 intro e w2 h
 obtain ⟨rfl,hb⟩:=gB h
 rw [←wX.out]
 have iD:=aj (dh.out.call hb)
 have HB2:=aj (HB1.out.trans (hb.mono hz1))
 have hz2:W.heap.size≤w2.heap.size:=HB2.out.size
 clear h hb
 obtain ⟨CJ,CG,zn⟩:=iD.out.o8 rfl
 by_cases hf1:(s1:Int)≤l-(s0:Nat)
 rotate_left
 ·rw [dF hf1]
  have HR:=aj (dF (l:=l) (s:=bZ.sz (L0,L1,L2,x3)) (by rw [HD.out];omega))
  go_wp2
  go_ret
  exact ⟨by first | (rw [HR.out];done) | (rw [HR.out];rfl),HB2.out⟩
 rw [dJ hf1]
 have aax:(0:Int)≤l-(s0:Nat)-(s1:Nat):=by omega
 go_wp2_with fail
 refine (Qe (l:=l-(s0:Nat)-(s1:Nat)) (by omega) (by omega) ((pE.out.below aB HB2.out).more aB hz2)).mono ?_
 intro e w3 h
 obtain ⟨rfl,hb⟩:=gB h
 rw [←HS2.out]
 have iT:=aj (iD.out.call hb)
 have HB3:=aj (HB2.out.trans (hb.mono hz2))
 have hz3:W.heap.size≤w3.heap.size:=HB3.out.size
 clear h hb
 obtain ⟨Eu,Et,Es⟩:=iT.out.o8 rfl
 by_cases hf2:(s2:Int)≤l-(s0:Nat)-(s1:Nat)
 rotate_left
 ·rw [dF hf2]
  have HR:=aj (dF (l:=l) (s:=bZ.sz (L0,L1,L2,x3)) (by rw [HD.out];omega))
  go_wp2
  go_ret
  exact ⟨by first | (rw [HR.out];done) | (rw [HR.out];rfl),HB3.out⟩
 rw [dJ hf2]
 have TT:(0:Int)≤l-(s0:Nat)-(s1:Nat)-(s2:Nat):=by omega
 have HR:=aj (dJ (l:=l) (s:=bZ.sz (L0,L1,L2,x3)) (by rw [HD.out];omega))
 go_wp2
 go_ret
 exact ⟨by rw [HR.out,HD.out];first | rfl | (simp;done) | (simp;omega),HB3.out⟩
theorem VP {k:Int}:aS.mm ((k,k+1),(k+1+1,k+1+1+1),k+1+1+1+1) k (k+1+1+1+1+1):=by
 dsimp only [aS,au,Pr,I,atom,Sl]
 exact ⟨k+1+1,⟨k+1,⟨by omega,by omega⟩,⟨by omega,by omega⟩⟩,⟨k+1+1+1+1,⟨k+1+1+1,⟨by omega,by omega⟩,⟨by omega,by omega⟩⟩,⟨by omega,by omega⟩⟩⟩
theorem VU {k k':Int}{x0:Int}{x1:Int}{x2:Int}{x3:Int}{x4:Int}(h:aS.mm ((x0,x1),(x2,x3),x4) k k'):x0=k∧x1=k+1∧x2=k+1+1∧x3=k+1+1+1∧x4=k+1+1+1+1∧k'=k+1+1+1+1+1:=by
 dsimp only [aS,au,Pr,I,atom,Sl] at h
 obtain ⟨z1,h1,g1⟩:=h
 obtain ⟨z2,h2,g2⟩:=h1
 obtain ⟨e0,f0⟩:=h2
 have e0:x0=_:=e0
 obtain ⟨e1,f1⟩:=g2
 have e1:x1=_:=e1
 obtain ⟨z3,h3,g3⟩:=g1
 obtain ⟨z4,h4,g4⟩:=h3
 obtain ⟨e2,f2⟩:=h4
 have e2:x2=_:=e2
 obtain ⟨e3,f3⟩:=g4
 have e3:x3=_:=e3
 obtain ⟨e4,f4⟩:=g3
 have e4:x4=_:=e4
 exact ⟨by omega,by omega,by omega,by omega,by omega,by omega⟩
theorem oQ:Mn aS:=(jX eX (jX eX pz))
theorem QE {k:Int}:aM.mm ((k,k+1),k+1+1) k (k+1+1+1):=by
 dsimp only [aM,au,Pr,I,atom,Sl]
 exact ⟨k+1+1,⟨k+1,⟨by omega,by omega⟩,⟨by omega,by omega⟩⟩,⟨by omega,by omega⟩⟩
theorem QG {k k':Int}{x0:Int}{x1:Int}{x2:Int}(h:aM.mm ((x0,x1),x2) k k'):x0=k∧x1=k+1∧x2=k+1+1∧k'=k+1+1+1:=by
 dsimp only [aM,au,Pr,I,atom,Sl] at h
 obtain ⟨z1,h1,g1⟩:=h
 obtain ⟨z2,h2,g2⟩:=h1
 obtain ⟨e0,f0⟩:=h2
 have e0:x0=_:=e0
 obtain ⟨e1,f1⟩:=g2
 have e1:x1=_:=e1
 obtain ⟨e2,f2⟩:=g1
 have e2:x2=_:=e2
 exact ⟨by omega,by omega,by omega,by omega⟩
theorem mM:Mn aM:=(jX eX pz)
abbrev bL:Type:=(Int)×(Int)
def bg:Rp bL:=(Pr I I)
theorem bC:Ok bg:=(gN cO cO)
theorem nH {W:World}{B:Nat}{x0:Int}{x1:Int}{cs:List Value}(h:bg.rd W B (x0,x1) cs):cs = [.int .i64 x0,.int .i64 x1]:=by
 obtain ⟨u1,v1,rfl,h1,g1⟩:=h
 obtain rfl:u1 = [_]:=h1
 obtain rfl:v1 = [_]:=g1
 rfl
theorem QI {W:World}{B:Nat}{x0:Int}{x1:Int}  : bg.rd W B (x0,x1) [.int .i64 x0,.int .i64 x1]:=⟨[.int .i64 x0],[.int .i64 x1],rfl,rfl,rfl⟩
theorem xR {W:World}{S:Nat→Prop}{x0:Int}{x1:Int}  : bg.ow W S (x0,x1) [.int .i64 x0,.int .i64 x1]:=⟨[.int .i64 x0],[.int .i64 x1],(fun _=>False),(fun _=>False),rfl,(fun k h=>h.elim),(fun k h=>h.elim),(fun k h h'=>h.elim),rfl,rfl⟩
theorem Bc {W:World}{S:Nat→Prop}{x0:Int}{x1:Int}{cs:List Value}(h:bg.ow W S (x0,x1) cs):cs = [.int .i64 x0,.int .i64 x1]:=by
 obtain ⟨u1,v1,A1,B1,rfl,sa1,sb1,dd1,h1,g1⟩:=h
 obtain rfl:u1 = [_]:=h1
 obtain rfl:v1 = [_]:=g1
 rfl
abbrev aO:Type:=(Int)×(List (bL))
def aJ:Rp aO:=(Pr I (Sl bg))
theorem aK:Ok aJ:=(gN cO (aY bC))
theorem kJ {W:World}{B:Nat}{x0:Int}{L0:List (bL)}{cs:List Value}(h:aJ.rd W B (x0,L0) cs):∃ a0 c0,cs = [.int .i64 x0,.slice a0 L0.length c0]∧aH bg W B L0 a0 c0:=by
 obtain ⟨u1,v1,rfl,h1,g1⟩:=h
 obtain rfl:u1 = [_]:=h1
 obtain ⟨a0,c0,rfl,dY⟩:=g1
 exact ⟨a0,c0,rfl,dY⟩
theorem lQ {W:World}{S:Nat→Prop}{x0:Int}{L0:List (bL)}{a0:Option Addr}{c0:Nat}{T0:Nat→Prop}(hs0:∀ k,T0 k→S k)(dP:bG bg W T0 L0 a0 c0):aJ.ow W S (x0,L0) [.int .i64 x0,.slice a0 L0.length c0]:=⟨[.int .i64 x0],[.slice a0 L0.length c0],(fun _=>False),T0,rfl,(fun k h=>h.elim),(fun k h=>hs0 k h),(fun k h h'=>h.elim),rfl,⟨a0,c0,rfl,dP⟩⟩
theorem vZ {W:World}{S:Nat→Prop}{x0:Int}{L0:List (bL)}{cs:List Value}(h:aJ.ow W S (x0,L0) cs):∃ a0 c0,∃ T0:Nat→Prop,cs = [.int .i64 x0,.slice a0 L0.length c0]∧(∀ k,T0 k→S k)∧bG bg W T0 L0 a0 c0:=by
 obtain ⟨u1,v1,A1,B1,rfl,sa1,sb1,dd1,h1,g1⟩:=h
 obtain rfl:u1 = [_]:=h1
 obtain ⟨a0,c0,rfl,dY⟩:=g1
 exact ⟨a0,c0,B1,rfl,fun k h=>sb1 k (h),dY⟩
abbrev mO:Type:=(List (aO))×(Int)
def eU:Rp mO:=(Pr (Sl aJ) I)
theorem uh:Ok eU:=(gN (aY aK) cO)
theorem oz {W:World}{S:Nat→Prop}{L0:List (aO)}{x1:Int}{a0:Option Addr}{c0:Nat}{T0:Nat→Prop}(hs0:∀ k,T0 k→S k)(dP:bG aJ W T0 L0 a0 c0):eU.ow W S (L0,x1) [.slice a0 L0.length c0,.int .i64 x1]:=⟨[.slice a0 L0.length c0],[.int .i64 x1],T0,(fun _=>False),rfl,(fun k h=>hs0 k h),(fun k h=>h.elim),(fun k h h'=>h'.elim),⟨a0,c0,rfl,dP⟩,rfl⟩
theorem qU {W:World}{S:Nat→Prop}{L0:List (aO)}{x1:Int}{cs:List Value}(h:eU.ow W S (L0,x1) cs):∃ a0 c0,∃ T0:Nat→Prop,cs = [.slice a0 L0.length c0,.int .i64 x1]∧(∀ k,T0 k→S k)∧bG aJ W T0 L0 a0 c0:=by
 obtain ⟨u1,v1,A1,B1,rfl,sa1,sb1,dd1,h1,g1⟩:=h
 obtain ⟨a0,c0,rfl,dY⟩:=h1
 obtain rfl:v1 = [_]:=g1
 exact ⟨a0,c0,A1,rfl,fun k h=>sa1 k (h),dY⟩
theorem YZ {x0:Int}{x1:Int}  {W:World}(hsz:bg.sz (x0,x1)≤1048576):Calls Tryz.prog 20 #[.agg #[.int .i64 x0,.int .i64 x1]] W (kU bg (x0,x1) W):=by
 have ni:=aj hsz
 clear hsz
 go_enter Tryz.func20,Tryz.ntmps20
 go_wp2
 refine qA (v:=.agg #[.int .i64 x0,.int .i64 x1]) (by simp [results,Tryz.results20,go_sem]) rfl ⟨[.int .i64 x0,.int .i64 x1],rfl,xR,(by repeat (first | exact aU _ _ | refine Below.drew ?_ | refine Below.setCell ?_ (by first | omega | (simp;done) | (simp;omega)) _ | refine Below.alloc ?_ (by first | omega | (simp;done) | (simp;omega)) _))⟩
theorem dL:(bg).size=2:=rfl
def wz (n:Nat):Array Value:=madeCells #[.int .i64 0,.int .i64 0] (n*2)
theorem tV (n:Nat):(wz n).size=n*(bg).size:=by unfold wz;simp [madeCells,dL]
theorem BJ (n:Nat)(hn:n≤1048576):∀ W:World,(Instr.makeSlice 122 (.int .i64 (n:Int)) (.int .i64 (n:Int))).run Tryz.prog W=.ok (.slice (some ⟨W.heap.size,0,none⟩) n n) (W.alloc (.cells (wz n) 61)):=by
 intro W
 obtain ⟨i,hi,hz,hs,hb⟩:∃ i,Tryz.prog.info? 61=some i∧i.zero=some (.agg #[.int .i64 0,.int .i64 0])∧i.size=2∧i.bytes=16:=by
  have h:(Tryz.prog.info? 61).map (fun i=>(i.zero,i.size,i.bytes))=some (some (.agg #[.int .i64 0,.int .i64 0]),2,16):=by kernel_rfl
  cases hx:Tryz.prog.info? 61 with
  | none=>rw [hx] at h;simp at h
  | some i=>rw [hx] at h;simp at h;exact ⟨i,rfl,h.1,h.2.1,h.2.2⟩
 have hr:=run_make (P:=Tryz.prog) W 122 61 i _ Tryz.underlying122 hi hz .i64 .i64 n n (by omega) (by omega) (by rw [hb];omega) (by omega)
 rw [hs] at hr
 simp only [Int.toNat_natCast] at hr
 exact hr
theorem Vf {L:List (bL)}{a:Option Addr}{cap:Nat}{W:World}(hsz:((Sl bg)).sz L≤1048576)(h:aH bg W W.heap.size L a cap):Calls Tryz.prog 128 #[.slice a L.length cap] W (jW bg L W):=by
 have hn:L.length≤1048576:=eH (Nat.le_add_right _ _) hsz
 have hmk:=BJ L.length hn
 have H:=aj h
 have ni:=aj hsz
 clear h hsz
 go_enter Tryz.func128,Tryz.ntmps128
 go_wp2
 go_loopw [4] (fun i wr=>∃ k:Nat,k≤L.length∧i=.int .i64 k∧∃ Sf,sJ bg W wr L W.heap.size Sf k) (fun i _=>L.length-(intOf i).toNat)
 case atStart=>exact ⟨0,dX _,rfl,_,sJ.new (by exact tV _)⟩
 case round=>
  obtain ⟨k,hk,rfl,Sf,hF⟩:=hrel
  have HF:=aj hF
  by_cases hlt:k<L.length
  ·obtain ⟨⟨x0,x1⟩,hx⟩:=aL hlt
   have HX:=aj hx
   obtain ⟨g,o,us,rfl,hg,hu,hr⟩:=(H.out.below bC hF.below).at_ hx
   obtain rfl:=nH hr
   obtain ⟨e0,e1⟩:=mW (a:=o+k*2) hu rfl
   have hi0:(0:Int)≤(k:Int):=eu _
   have hi1:(k:Int)<(L.length:Int):=by omega
   have HE:=aj (vG (f:=(bg).sz) HX.out ni.out)
   clear hF hx hu hmk
   go_wp2_with fail
   refine (YZ (by exact HE.out)).mono ?_
   intro e w1 h
   obtain ⟨vs,rfl,how,hb⟩:=bX h
   have HOW:=aj how
   obtain rfl:=Bc how
   have HP:=aj (HF.out.put bC HX.out hb HOW.out)
   have hlt1:=HF.out.lt
   obtain ⟨t0,ht0⟩:=HF.out.there (k*2) (by rw [dL];omega)
   have q0:=(hb.cell (p:=⟨W.heap.size,k*2,none⟩) hlt1).trans ht0
   have s0:=(hb.frozen (p:=⟨W.heap.size,k*2,none⟩) hlt1).trans (HF.out.soft (k*2))
   obtain ⟨t1,ht1⟩:=HF.out.there (k*2+1) (by rw [dL];omega)
   have q1:=(hb.cell (p:=⟨W.heap.size,k*2+1,none⟩) hlt1).trans ht1
   have s1:=(hb.frozen (p:=⟨W.heap.size,k*2+1,none⟩) hlt1).trans (HF.out.soft (k*2+1))
   clear h how hb ht0 ht1 e0 e1
   go_wp2
   go_roundw
   case rel=>exact ⟨k+1,by omega,by go_num,_,by simpa [putCells,dL,Nat.add_assoc] using HP.out⟩
   case measure=>simp [intOf];omega
  ·obtain rfl:k=L.length:=by omega
   have HR:=aj (HF.out.news (by unfold maxLen;omega))
   clear hF hmk
   go_wp2
   go_ret
   exact HR.out
theorem Y7 {x0:Int}{L0:List (bL)}{a0:Option Addr}{c0:Nat}{W:World}(hsz:aJ.sz (x0,L0)≤1048576)(dP:aH bg W W.heap.size L0 a0 c0):Calls Tryz.prog 73 #[.agg #[.int .i64 x0,.slice a0 L0.length c0]] W (kU aJ (x0,L0) W):=by
 have jL:=aj dP
 have ni:=aj hsz
 clear hsz dP
 have hP:=((aN.new W 108 #[.int .i64 x0,.slice a0 L0.length c0]).alloc (.cells #[.int .i64 0,.slice none 0 0] 124)).alloc (.cells #[.int .i64 x0,.slice none 0 0] 124)
 have hR:=(aN.new (W.alloc (.cells #[.int .i64 x0,.slice a0 L0.length c0] 108)) 124 #[.int .i64 0,.slice none 0 0]).alloc (.cells #[.int .i64 x0,.slice none 0 0] 124)
 have hO:=aN.new ((W.alloc (.cells #[.int .i64 x0,.slice a0 L0.length c0] 108)).alloc (.cells #[.int .i64 0,.slice none 0 0] 124)) 124 #[.int .i64 x0,.slice none 0 0]
 simp only [World.size_alloc] at hP hR hO
 have HB0:=aj (show Below W.heap.size W (((W.alloc (.cells #[.int .i64 x0,.slice a0 L0.length c0] 108)).alloc (.cells #[.int .i64 0,.slice none 0 0] 124)).alloc (.cells #[.int .i64 x0,.slice none 0 0] 124)) from (((aU _ _).alloc (bK _) _).alloc (by simp) _).alloc (by simp;omega) _)
 have hz0:W.heap.size+3≤(((W.alloc (.cells #[.int .i64 x0,.slice a0 L0.length c0] 108)).alloc (.cells #[.int .i64 0,.slice none 0 0] 124)).alloc (.cells #[.int .i64 x0,.slice none 0 0] 124)).heap.size:=by simp
 have iF:=aj hP
 have zT:=aj hR
 have yU:=aj hO
 clear hP hR hO
 go_enter Tryz.func73,Tryz.ntmps73
 go_wp2_with fail
 refine (Vf (by have h0:=ni.out;simp only [aJ,Pr,Sl,I,Bo,atom] at h0 ⊢;omega) ((jL.out.below bC HB0.out).more bC (by have h0:=hz0;first | omega | (simp;omega)))).mono ?_
 intro e w1 h
 obtain ⟨fq,eZ,rfl,mH,hb⟩:=bI h
 have hP:aN w1 (W.heap.size) 108 #[.int .i64 x0,.slice a0 L0.length c0]:=aN.call iF.out hb
 have hR:aN w1 (W.heap.size+1) 124 #[.int .i64 0,.slice none 0 0]:=aN.call zT.out hb
 have hO:aN w1 (W.heap.size+1+1) 124 #[.int .i64 x0,.slice none 0 0]:=aN.call yU.out hb
 have hz1:W.heap.size+3≤w1.heap.size:=eH hz0 hb.size
 have HB1:=aj (Below.trans (B:=W.heap.size) (a:=W) HB0.out (hb.mono (by have h0:=hz0;first | omega | (simp;omega))))
 have kP:=aj mH
 have dS:=aj (fun k hk=>eG hb (m:=W.heap.size+3) (by have h0:=hz0;first | omega | (simp;omega)) k hk)
 have yB:=aj (eG hb (m:=0) (dX _))
 have dh:=aj hP
 have HR1:=aj hR
 have rF:=aj hO
 clear h hb hP hR hO mH
 obtain ⟨vk,qH⟩:=dh.out.kZ rfl
 obtain ⟨CO,CK⟩:=rF.out.kZ rfl
 obtain ⟨CF,CB⟩:=HR1.out.kZ rfl
 obtain ⟨CV,CU⟩:=rF.out.Cz
 obtain ⟨CS,CQ⟩:=HR1.out.Cz
 go_wp2
 refine qA (v:=.agg #[.int .i64 x0,.slice fq L0.length eZ]) (by simp [results,Tryz.results73,go_sem, *]) rfl ⟨[.int .i64 x0,.slice fq L0.length eZ],rfl,?_,(((HB1.out.setCell (p:=⟨W.heap.size+1+1,1,none⟩) (by show W.heap.size≤W.heap.size+1+1;omega) (.slice fq L0.length eZ)).setCell (p:=⟨W.heap.size+1,0,none⟩) (by show W.heap.size≤W.heap.size+1;omega) (.int .i64 x0)).setCell (p:=⟨W.heap.size+1,1,none⟩) (by show W.heap.size≤W.heap.size+1;omega) (.slice fq L0.length eZ))⟩
 have hoff:=((((Off.refl (fun x=>x<W.heap.size+3) w1).setCell (p:=⟨W.heap.size+1+1,1,none⟩) (by show W.heap.size+1+1<W.heap.size+3;omega) (.slice fq L0.length eZ)).setCell (p:=⟨W.heap.size+1,0,none⟩) (by show W.heap.size+1<W.heap.size+3;omega) (.int .i64 x0)).setCell (p:=⟨W.heap.size+1,1,none⟩) (by show W.heap.size+1<W.heap.size+3;omega) (.slice fq L0.length eZ))
 have hsz:=hoff.size
 exact lQ (fun k hk=>⟨by have:=(dS.out k hk).1;omega,by have:=(dS.out k hk).2;omega⟩) (kP.out.keep bC (fun k hk=>hoff.block k (dS.out k hk).2 (by have:=(dS.out k hk).1;omega)))
theorem eB:(aJ).size=2:=rfl
def AZ (n:Nat):Array Value:=madeCells #[.int .i64 0,.slice none 0 0] (n*2)
theorem CZ (n:Nat):(AZ n).size=n*(aJ).size:=by unfold AZ;simp [madeCells,eB]
theorem Lc (n:Nat)(hn:n≤1048576):∀ W:World,(Instr.makeSlice 40 (.int .i64 (n:Int)) (.int .i64 (n:Int))).run Tryz.prog W=.ok (.slice (some ⟨W.heap.size,0,none⟩) n n) (W.alloc (.cells (AZ n) 124)):=by
 intro W
 obtain ⟨i,hi,hz,hs,hb⟩:∃ i,Tryz.prog.info? 124=some i∧i.zero=some (.agg #[.int .i64 0,.slice none 0 0])∧i.size=2∧i.bytes=32:=by
  have h:(Tryz.prog.info? 124).map (fun i=>(i.zero,i.size,i.bytes))=some (some (.agg #[.int .i64 0,.slice none 0 0]),2,32):=by kernel_rfl
  cases hx:Tryz.prog.info? 124 with
  | none=>rw [hx] at h;simp at h
  | some i=>rw [hx] at h;simp at h;exact ⟨i,rfl,h.1,h.2.1,h.2.2⟩
 have hr:=run_make (P:=Tryz.prog) W 40 124 i _ Tryz.underlying40 hi hz .i64 .i64 n n (by omega) (by omega) (by rw [hb];omega) (by omega)
 rw [hs] at hr
 simp only [Int.toNat_natCast] at hr
 exact hr
theorem Vi {L:List (aO)}{a:Option Addr}{cap:Nat}{W:World}(hsz:((Sl aJ)).sz L≤1048576)(h:aH aJ W W.heap.size L a cap):Calls Tryz.prog 33 #[.slice a L.length cap] W (jW aJ L W):=by
 have hn:L.length≤1048576:=eH (Nat.le_add_right _ _) hsz
 have hmk:=Lc L.length hn
 have H:=aj h
 have ni:=aj hsz
 clear h hsz
 go_enter Tryz.func33,Tryz.ntmps33
 go_wp2
 go_loopw [4] (fun i wr=>∃ k:Nat,k≤L.length∧i=.int .i64 k∧∃ Sf,sJ aJ W wr L W.heap.size Sf k) (fun i _=>L.length-(intOf i).toNat)
 case atStart=>exact ⟨0,dX _,rfl,_,sJ.new (by exact CZ _)⟩
 case round=>
  obtain ⟨k,hk,rfl,Sf,hF⟩:=hrel
  have HF:=aj hF
  by_cases hlt:k<L.length
  ·obtain ⟨⟨x0,L0⟩,hx⟩:=aL hlt
   have HX:=aj hx
   obtain ⟨g,o,us,rfl,hg,hu,hr⟩:=(H.out.below aK hF.below).at_ hx
   obtain ⟨a0,c0,rfl,dY⟩:=kJ hr
   obtain ⟨e0,e1⟩:=mW (a:=o+k*2) hu rfl
   have hi0:(0:Int)≤(k:Int):=eu _
   have hi1:(k:Int)<(L.length:Int):=by omega
   have HE:=aj (vG (f:=(aJ).sz) HX.out ni.out)
   have Uo:=aj (dY.more bC (Nat.le_of_lt HF.out.lt))
   clear hF hx hu hmk dY
   go_wp2_with fail
   refine (Y7 (by exact HE.out) (by exact Uo.out)).mono ?_
   intro e w1 h
   obtain ⟨vs,rfl,how,hb⟩:=bX h
   have HOW:=aj how
   obtain ⟨b0,d0,T0,rfl,_⟩:=vZ how
   have HP:=aj (HF.out.put aK HX.out hb HOW.out)
   have hlt1:=HF.out.lt
   obtain ⟨t0,ht0⟩:=HF.out.there (k*2) (by rw [eB];omega)
   have q0:=(hb.cell (p:=⟨W.heap.size,k*2,none⟩) hlt1).trans ht0
   have s0:=(hb.frozen (p:=⟨W.heap.size,k*2,none⟩) hlt1).trans (HF.out.soft (k*2))
   obtain ⟨t1,ht1⟩:=HF.out.there (k*2+1) (by rw [eB];omega)
   have q1:=(hb.cell (p:=⟨W.heap.size,k*2+1,none⟩) hlt1).trans ht1
   have s1:=(hb.frozen (p:=⟨W.heap.size,k*2+1,none⟩) hlt1).trans (HF.out.soft (k*2+1))
   clear h how hb ht0 ht1 e0 e1
   go_wp2
   go_roundw
   case rel=>exact ⟨k+1,by omega,by go_num,_,by simpa [putCells,eB,Nat.add_assoc] using HP.out⟩
   case measure=>simp [intOf];omega
  ·obtain rfl:k=L.length:=by omega
   have HR:=aj (HF.out.news (by unfold maxLen;omega))
   clear hF hmk
   go_wp2
   go_ret
   exact HR.out
theorem eq_Span {x0:Int}{x1:Int}   {W:World}:Calls Tryz.prog 218 #[.agg #[.int .i64 x0,.int .i64 x1],.agg #[.int .i64 x0,.int .i64 x1]] W (sD true W):=by
 have HB0:=aj (show Below W.heap.size W ((W.alloc (.cells #[.int .i64 x0,.int .i64 x1] 61)).alloc (.cells #[.int .i64 x0,.int .i64 x1] 61)) from ((aU _ _).alloc (bK _) _).alloc (by simp) _)
 go_enter Tryz.func218,Tryz.ntmps218
 go_wp2
 all_goals
  go_ret
  exact ⟨rfl,HB0.out⟩
theorem nK:(bg).size=2:=rfl
theorem eq_SpanS {L:List (bL)}{a a':Option Addr}{cap cap':Nat}{W:World}(h:aH bg W W.heap.size L a cap)(h':aH bg W W.heap.size L a' cap'):Calls Tryz.prog 148 #[.slice a L.length cap,.slice a' L.length cap'] W (sD true W):=by
 have hn:L.length≤9223372036854775807:=by have h1:=h.1;have h2:=h.2.1;unfold maxLen at h2;omega
 have H:=aj h
 have H':=aj h'
 clear h h'
 go_enter Tryz.func148,Tryz.ntmps148
 go_wp2
 go_loopw [5] (fun i wr=>∃ k:Nat,k≤L.length∧i=.int .i64 k∧Below W.heap.size W wr) (fun i _=>L.length-(intOf i).toNat)
 case atStart=>exact ⟨0,dX _,rfl,aU _ _⟩
 case round=>
  obtain ⟨k,hk,rfl,hB⟩:=hrel
  have HB:=aj hB
  have hsz:=hB.size
  by_cases hlt:k<L.length
  ·obtain ⟨⟨x0,x1⟩,hx⟩:=aL hlt
   have HX:=aj hx
   obtain ⟨g,o,us,rfl,hg,hu,hr⟩:=(H.out.below bC hB).at_ hx
   obtain ⟨g',o',vs,rfl,hg',hu',hr'⟩:=(H'.out.below bC hB).at_ hx
   obtain rfl:=nH hr
   obtain rfl:=nH hr'
   have e0:wr.cell? ⟨g,o+k*2,none⟩=some (.int .i64 x0):=by simpa [nK,Nat.add_assoc] using hu 0 _ rfl
   have d0:wr.cell? ⟨g',o'+k*2,none⟩=some (.int .i64 x0):=by simpa [nK,Nat.add_assoc] using hu' 0 _ rfl
   have e1:wr.cell? ⟨g,o+k*2+1,none⟩=some (.int .i64 x1):=by simpa [nK,Nat.add_assoc] using hu 1 _ rfl
   have d1:wr.cell? ⟨g',o'+k*2+1,none⟩=some (.int .i64 x1):=by simpa [nK,Nat.add_assoc] using hu' 1 _ rfl
   have hi0:(0:Int)≤(k:Int):=eu _
   have hi1:(k:Int)<(L.length:Int):=by omega
   have hgl:g<wr.heap.size:=bV hg hsz
   have ig:g'<wr.heap.size:=bV hg' hsz
   clear hB hx hu hu'
   go_wp2_with fail
   refine dW (S:=(fun W=>W.cell? ⟨g,o+k*2,none⟩=some (.int .i64 x0)∧W.cell? ⟨g,o+k*2+1,none⟩=some (.int .i64 x1)∧W.cell? ⟨g',o'+k*2,none⟩=some (.int .i64 x0)∧W.cell? ⟨g',o'+k*2+1,none⟩=some (.int .i64 x1)∧wr.heap.size≤W.heap.size∧Below wr.heap.size wr W)) (by kernel_rfl) (⟨e0,e1,d0,d1,bK _,(aU _ _).drew⟩) (fun ah=>?_)
   refine wpAnyH_take (i:=0) (v:=?hv1) rfl (by kernel_rfl) (by kernel_rfl) (by kernel_rfl) (fun _ _ _ h=>h) (Or.inl ⟨by kernel_rfl,?hy1⟩) ah ?hr1
   case hy1=>(intro w hSw;(try dsimp only at hSw);go_simp;try with_reducible rfl)
   refine wpAnyH_take (i:=1) (v:=?hv2) rfl (by kernel_rfl) (by kernel_rfl) (by kernel_rfl) (fun _ _ _ h=>h) (Or.inl ⟨by kernel_rfl,?hy2⟩) ah ?hr2
   case hy2=>(intro w hSw;(try dsimp only at hSw);go_simp;try with_reducible rfl)
   refine wpAnyH_take (i:=2) (v:=?hv3) rfl (by kernel_rfl) (by kernel_rfl) (by kernel_rfl) (fun _ _ _ h=>h) (Or.inl ⟨by kernel_rfl,?hy3⟩) ah ?hr3
   case hy3=>(intro w hSw;(try dsimp only at hSw);go_simp;try with_reducible rfl)
   refine wpAnyH_take (i:=3) (v:=?hv4) rfl (by kernel_rfl) (by kernel_rfl) (by kernel_rfl) (fun _ _ _ h=>h) (Or.inl ⟨by kernel_rfl,?hy4⟩) ah ?hr4
   case hy4=>(intro w hSw;(try dsimp only at hSw);go_simp;try with_reducible rfl)
   refine wpAnyH_take (i:=4) (v:=?hv5) rfl (by kernel_rfl) (by kernel_rfl) (by kernel_rfl) (fun _ _ _ h=>h) (Or.inl ⟨by kernel_rfl,?Xl⟩) ah ?hr5
   case Xl=>(intro w hSw;(try dsimp only at hSw);go_simp;try with_reducible rfl)
   refine wpAnyH_take (i:=5) (v:=?hv6) rfl (by kernel_rfl) (by kernel_rfl) (by kernel_rfl) (fun _ _ _ h=>h) (Or.inl ⟨by kernel_rfl,?Xk⟩) ah ?hr6
   case Xk=>(intro w hSw;(try dsimp only at hSw);go_simp;try with_reducible rfl)
   refine wpAnyH_take (i:=6) (v:=?hv7) rfl (by kernel_rfl) (by kernel_rfl) (by kernel_rfl) (fun _ _ _ h=>h) (Or.inl ⟨by kernel_rfl,?Xj⟩) ah ?hr7
   case Xj=>(intro w hSw;(try dsimp only at hSw);go_simp;try with_reducible rfl)
   refine wpAnyH_take (i:=7) (v:=?hv8) rfl (by kernel_rfl) (by kernel_rfl) (by kernel_rfl) (fun _ _ _ h=>h) (Or.inl ⟨by kernel_rfl,?Xi⟩) ah ?hr8
   case Xi=>(intro w hSw;(try dsimp only at hSw);go_simp;try with_reducible rfl)
   refine cZ 8 (fun K hK=>?_)
   go_simp
   refine (eq_Span).mono ?_
   intro e w1 h
   obtain ⟨rfl,hb⟩:=bT h
   refine hK.out _ _ (⟨(hb.cell (p:=⟨g,o+k*2,none⟩) (bV hgl ah.2.2.2.2.1)).trans ah.1,(hb.cell (p:=⟨g,o+k*2+1,none⟩) (bV hgl ah.2.2.2.2.1)).trans ah.2.1,(hb.cell (p:=⟨g',o'+k*2,none⟩) (bV ig ah.2.2.2.2.1)).trans ah.2.2.1,(hb.cell (p:=⟨g',o'+k*2+1,none⟩) (bV ig ah.2.2.2.2.1)).trans ah.2.2.2.1,eH ah.2.2.2.2.1 hb.size,ah.2.2.2.2.2.trans (hb.mono ah.2.2.2.2.1)⟩) (fun ah=>?_)
   clear hK K h
   refine tk 9 ah ?_
   refine dQ ?_
   have HB2:=aj (HB.out.trans (ah.2.2.2.2.2.mono hsz))
   clear ah
   go_wp2
   go_roundw
   case rel=>exact ⟨k+1,by omega,by go_num,HB2.out⟩
   case measure=>simp [intOf];omega
  ·clear hB
   go_wp2
   go_ret
   exact ⟨rfl,HB.out⟩
theorem eq_Node {x0:Int}{L0:List (bL)}{a0:Option Addr}{c0:Nat}{a0':Option Addr}{c0':Nat}{W:World}(dP:aH bg W W.heap.size L0 a0 c0)(nA:aH bg W W.heap.size L0 a0' c0'):Calls Tryz.prog 84 #[.agg #[.int .i64 x0,.slice a0 L0.length c0],.agg #[.int .i64 x0,.slice a0' L0.length c0']] W (sD true W):=by
 have jL:=aj dP
 have vO:=aj nA
 clear dP nA
 have HB0:=aj (show Below W.heap.size W ((W.alloc (.cells #[.int .i64 x0,.slice a0 L0.length c0] 124)).alloc (.cells #[.int .i64 x0,.slice a0' L0.length c0'] 124)) from ((aU _ _).alloc (bK _) _).alloc (by simp) _)
 have hP:=(aN.new W 124 #[.int .i64 x0,.slice a0 L0.length c0]).alloc (.cells #[.int .i64 x0,.slice a0' L0.length c0'] 124)
 have hQ:=aN.new (W.alloc (.cells #[.int .i64 x0,.slice a0 L0.length c0] 124)) 124 #[.int .i64 x0,.slice a0' L0.length c0']
 simp only [World.size_alloc] at hP hQ
 have iF:=aj hP
 have Di:=aj hQ
 have hz0:W.heap.size≤((W.alloc (.cells #[.int .i64 x0,.slice a0 L0.length c0] 124)).alloc (.cells #[.int .i64 x0,.slice a0' L0.length c0'] 124)).heap.size:=HB0.out.size
 clear hP hQ
 go_enter Tryz.func84,Tryz.ntmps84
 go_wp2_with fail
 refine (eq_SpanS ((jL.out.below bC HB0.out).more bC hz0) ((vO.out.below bC HB0.out).more bC hz0)).mono ?_
 intro e w1 h
 obtain ⟨rfl,hb⟩:=bT h
 have dh:=aj (iF.out.call hb)
 have nk:=aj (Di.out.call hb)
 have HB1:=aj (HB0.out.trans (hb.mono hz0))
 have hz1:W.heap.size≤w1.heap.size:=HB1.out.size
 clear h hb
 go_wp2
 all_goals
  go_ret
  exact ⟨rfl,HB1.out⟩
theorem nL:(aJ).size=2:=rfl
theorem eq_NodeS {L:List (aO)}{a a':Option Addr}{cap cap':Nat}{W:World}(h:aH aJ W W.heap.size L a cap)(h':aH aJ W W.heap.size L a' cap'):Calls Tryz.prog 40 #[.slice a L.length cap,.slice a' L.length cap'] W (sD true W):=by
 have hn:L.length≤9223372036854775807:=by have h1:=h.1;have h2:=h.2.1;unfold maxLen at h2;omega
 have H:=aj h
 have H':=aj h'
 clear h h'
 go_enter Tryz.func40,Tryz.ntmps40
 go_wp2
 go_loopw [5] (fun i wr=>∃ k:Nat,k≤L.length∧i=.int .i64 k∧Below W.heap.size W wr) (fun i _=>L.length-(intOf i).toNat)
 case atStart=>exact ⟨0,dX _,rfl,aU _ _⟩
 case round=>
  obtain ⟨k,hk,rfl,hB⟩:=hrel
  have HB:=aj hB
  have hsz:=hB.size
  by_cases hlt:k<L.length
  ·obtain ⟨⟨x0,L0⟩,hx⟩:=aL hlt
   have HX:=aj hx
   obtain ⟨g,o,us,rfl,hg,hu,hr⟩:=(H.out.below aK hB).at_ hx
   obtain ⟨g',o',vs,rfl,hg',hu',hr'⟩:=(H'.out.below aK hB).at_ hx
   obtain ⟨a0,c0,rfl,dY⟩:=kJ hr
   obtain ⟨a0',c0',rfl,vJ⟩:=kJ hr'
   have e0:wr.cell? ⟨g,o+k*2,none⟩=some (.int .i64 x0):=by simpa [nL,Nat.add_assoc] using hu 0 _ rfl
   have d0:wr.cell? ⟨g',o'+k*2,none⟩=some (.int .i64 x0):=by simpa [nL,Nat.add_assoc] using hu' 0 _ rfl
   have e1:wr.cell? ⟨g,o+k*2+1,none⟩=some (.slice a0 L0.length c0):=by simpa [nL,Nat.add_assoc] using hu 1 _ rfl
   have d1:wr.cell? ⟨g',o'+k*2+1,none⟩=some (.slice a0' L0.length c0'):=by simpa [nL,Nat.add_assoc] using hu' 1 _ rfl
   have hi0:(0:Int)≤(k:Int):=eu _
   have hi1:(k:Int)<(L.length:Int):=by omega
   have hgl:g<wr.heap.size:=bV hg hsz
   have ig:g'<wr.heap.size:=bV hg' hsz
   have fE:=aj (dY.more bC hsz)
   have Uh:=aj (vJ.more bC hsz)
   clear hB hx hu hu' dY vJ
   go_wp2_with fail
   refine dW (S:=(fun W=>W.cell? ⟨g,o+k*2,none⟩=some (.int .i64 x0)∧W.cell? ⟨g,o+k*2+1,none⟩=some (.slice a0 L0.length c0)∧W.cell? ⟨g',o'+k*2,none⟩=some (.int .i64 x0)∧W.cell? ⟨g',o'+k*2+1,none⟩=some (.slice a0' L0.length c0')∧wr.heap.size≤W.heap.size∧Below wr.heap.size wr W)) (by kernel_rfl) (⟨e0,e1,d0,d1,bK _,(aU _ _).drew⟩) (fun ah=>?_)
   refine wpAnyH_take (i:=0) (v:=?hv10) rfl (by kernel_rfl) (by kernel_rfl) (by kernel_rfl) (fun _ _ _ h=>h) (Or.inl ⟨by kernel_rfl,?Sz⟩) ah ?hr10
   case Sz=>(intro w hSw;(try dsimp only at hSw);go_simp;try with_reducible rfl)
   refine wpAnyH_take (i:=1) (v:=?hv11) rfl (by kernel_rfl) (by kernel_rfl) (by kernel_rfl) (fun _ _ _ h=>h) (Or.inl ⟨by kernel_rfl,?Sy⟩) ah ?hr11
   case Sy=>(intro w hSw;(try dsimp only at hSw);go_simp;try with_reducible rfl)
   refine wpAnyH_take (i:=2) (v:=?hv12) rfl (by kernel_rfl) (by kernel_rfl) (by kernel_rfl) (fun _ _ _ h=>h) (Or.inl ⟨by kernel_rfl,?Sw⟩) ah ?hr12
   case Sw=>(intro w hSw;(try dsimp only at hSw);go_simp;try with_reducible rfl)
   refine wpAnyH_take (i:=3) (v:=?hv13) rfl (by kernel_rfl) (by kernel_rfl) (by kernel_rfl) (fun _ _ _ h=>h) (Or.inl ⟨by kernel_rfl,?Sv⟩) ah ?hr13
   case Sv=>(intro w hSw;(try dsimp only at hSw);go_simp;try with_reducible rfl)
   refine wpAnyH_take (i:=4) (v:=?hv14) rfl (by kernel_rfl) (by kernel_rfl) (by kernel_rfl) (fun _ _ _ h=>h) (Or.inl ⟨by kernel_rfl,?Sr⟩) ah ?hr14
   case Sr=>(intro w hSw;(try dsimp only at hSw);go_simp;try with_reducible rfl)
   refine wpAnyH_take (i:=5) (v:=?hv15) rfl (by kernel_rfl) (by kernel_rfl) (by kernel_rfl) (fun _ _ _ h=>h) (Or.inl ⟨by kernel_rfl,?Sq⟩) ah ?hr15
   case Sq=>(intro w hSw;(try dsimp only at hSw);go_simp;try with_reducible rfl)
   refine wpAnyH_take (i:=6) (v:=?hv16) rfl (by kernel_rfl) (by kernel_rfl) (by kernel_rfl) (fun _ _ _ h=>h) (Or.inl ⟨by kernel_rfl,?Sn⟩) ah ?hr16
   case Sn=>(intro w hSw;(try dsimp only at hSw);go_simp;try with_reducible rfl)
   refine wpAnyH_take (i:=7) (v:=?hv17) rfl (by kernel_rfl) (by kernel_rfl) (by kernel_rfl) (fun _ _ _ h=>h) (Or.inl ⟨by kernel_rfl,?Sm⟩) ah ?hr17
   case Sm=>(intro w hSw;(try dsimp only at hSw);go_simp;try with_reducible rfl)
   refine cZ 8 (fun K hK=>?_)
   go_simp
   refine (eq_Node ((fE.out.below bC (by exact ah.2.2.2.2.2)).more bC (by exact ah.2.2.2.2.1)) ((Uh.out.below bC (by exact ah.2.2.2.2.2)).more bC (by exact ah.2.2.2.2.1))).mono ?_
   intro e w1 h
   obtain ⟨rfl,hb⟩:=bT h
   refine hK.out _ _ (⟨(hb.cell (p:=⟨g,o+k*2,none⟩) (bV hgl ah.2.2.2.2.1)).trans ah.1,(hb.cell (p:=⟨g,o+k*2+1,none⟩) (bV hgl ah.2.2.2.2.1)).trans ah.2.1,(hb.cell (p:=⟨g',o'+k*2,none⟩) (bV ig ah.2.2.2.2.1)).trans ah.2.2.1,(hb.cell (p:=⟨g',o'+k*2+1,none⟩) (bV ig ah.2.2.2.2.1)).trans ah.2.2.2.1,eH ah.2.2.2.2.1 hb.size,ah.2.2.2.2.2.trans (hb.mono ah.2.2.2.2.1)⟩) (fun ah=>?_)
   clear hK K h
   refine wpAnyH_take (i:=9) (v:=?hv18) rfl (by kernel_rfl) (by kernel_rfl) (by kernel_rfl) (fun _ _ _ h=>h) (Or.inl ⟨by kernel_rfl,?Sk⟩) ah ?hr18
   case Sk=>(intro w hSw;(try dsimp only at hSw);go_simp;try with_reducible rfl)
   refine dQ ?_
   have HB2:=aj (HB.out.trans (ah.2.2.2.2.2.mono hsz))
   clear ah
   go_wp2
   go_roundw
   case rel=>exact ⟨k+1,by omega,by go_num,HB2.out⟩
   case measure=>simp [intOf];omega
  ·clear hB
   go_wp2
   go_ret
   exact ⟨rfl,HB.out⟩
theorem BP (L:List (bL)):(Sl bg).sz L=L.length:=by
 have:bE (bg).sz L=0:=kE (fun _=>rfl) L
 simp only [Sl,this,Nat.add_zero]
theorem Vn {L:List (bL)}{a:Option Addr}{cap:Nat}{W:World}{l:Int}(h0:0≤l)(h1:l≤1048576)(h:aH bg W W.heap.size L a cap):Calls Tryz.prog 121 #[.slice a L.length cap,.int .i64 l] W (Jz l ((Sl bg).sz L) W):=by
 have hn:L.length≤9223372036854775807:=by have h1:=h.1;have h2:=h.2.1;unfold maxLen at h2;omega
 rw [BP]
 clear h
 by_cases hf:(L.length:Int)≤l
 ·have HR:=aj (dJ hf)
  go_enter Tryz.func121,Tryz.ntmps121
  go_wp2
  go_ret
  exact ⟨by first | (rw [HR.out];done) | (rw [HR.out];rfl),aU _ _⟩
 ·have HR:=aj (dF hf)
  go_enter Tryz.func121,Tryz.ntmps121
  go_wp2
  go_ret
  exact ⟨by first | (rw [HR.out];done) | (rw [HR.out];rfl),aU _ _⟩
theorem GI {x0:Int}{L0:List (bL)}:aJ.sz (x0,L0)=(((Sl bg)).sz L0):=by
 simp only [aJ,Pr,I,Bo,atom];omega
theorem Ze {x0:Int}{L0:List (bL)}{a0:Option Addr}{c0:Nat}{W:World}{l:Int}(h0:0≤l)(h1:l≤1048576)(dP:aH bg W W.heap.size L0 a0 c0):Calls Tryz.prog 63 #[.agg #[.int .i64 x0,.slice a0 L0.length c0],.int .i64 l] W (Jz l (aJ.sz (x0,L0)) W):=by
 have jL:=aj dP
 clear dP
 have HD:=aj (GI (x0:=x0) (L0:=L0))
 have HB0:=aj (show Below W.heap.size W (W.alloc (.cells #[.int .i64 x0,.slice a0 L0.length c0] 108)) from (aU _ _).alloc (bK _) _)
 have hP:=aN.new W 108 #[.int .i64 x0,.slice a0 L0.length c0]
 have iF:=aj hP
 have hz0:W.heap.size≤(W.alloc (.cells #[.int .i64 x0,.slice a0 L0.length c0] 108)).heap.size:=HB0.out.size
 clear hP
 obtain ⟨s0,hs0⟩:∃ s,s=(((Sl bg)).sz L0):=⟨_,rfl⟩
 have zD:=aj hs0
 rw [←hs0] at HD
 clear hs0
 go_enter Tryz.func63,Tryz.ntmps63
 go_wp2_with fail
 refine (Vn (l:=l) (by omega) (by omega) ((jL.out.below bC HB0.out).more bC hz0)).mono ?_
 intro e w1 h
 obtain ⟨rfl,hb⟩:=gB h
 rw [←zD.out]
 have dh:=aj (iF.out.call hb)
 have HB1:=aj (HB0.out.trans (hb.mono hz0))
 have hz1:W.heap.size≤w1.heap.size:=HB1.out.size
 clear h hb
 have qH:=dh.out.at_ 1 rfl
 by_cases hf0:(s0:Int)≤l
 rotate_left
 ·rw [dF hf0]
  have HR:=aj (dF (l:=l) (s:=aJ.sz (x0,L0)) (by rw [HD.out];omega))
  go_wp2
  go_ret
  exact ⟨by first | (rw [HR.out];done) | (rw [HR.out];rfl),HB1.out⟩
 rw [dJ hf0]
 have Dp:(0:Int)≤l-(s0:Nat):=by omega
 have HR:=aj (dJ (l:=l) (s:=aJ.sz (x0,L0)) (by rw [HD.out];omega))
 go_wp2
 go_ret
 exact ⟨by rw [HR.out,HD.out];first | rfl | (simp;done) | (simp;omega),HB1.out⟩
theorem ab0:(aJ).size=2:=rfl
theorem Qd (L:List (aO)):(Sl aJ).sz L=L.length+bE (aJ).sz L:=rfl
theorem Vp {L:List (aO)}{a:Option Addr}{cap:Nat}{W:World}{l:Int}(h0:0≤l)(h1:l≤1048576)(h:aH aJ W W.heap.size L a cap):Calls Tryz.prog 25 #[.slice a L.length cap,.int .i64 l] W (Jz l ((Sl aJ).sz L) W):=by
 have hn:L.length≤9223372036854775807:=by have h1:=h.1;have h2:=h.2.1;unfold maxLen at h2;omega
 have H:=aj h
 have HD:=aj (Qd L)
 clear h
 by_cases hlen:(L.length:Int)≤l
 ·go_enter Tryz.func25,Tryz.ntmps25
  go_wp2
  go_loopw [5,1] (fun i q wr=>∃ k:Nat,k≤L.length∧i=.int .i64 k∧(L.length:Int)+(bE (aJ).sz (L.take k):Nat)≤l∧q=.int .i64 (l-L.length-(bE (aJ).sz (L.take k):Nat))∧Below W.heap.size W wr) (fun i _ _=>L.length-(intOf i).toNat)
  case atStart=>exact ⟨0,dX _,rfl,by simpa [bE] using hlen,by simp [bE],aU _ _⟩
  case round=>
   obtain ⟨k,hk,rfl,hfit,rfl,hB⟩:=hrel
   have HB:=aj hB
   have hsz:=hB.size
   have hle:=dn (aJ).sz L k
   by_cases hlt:k<L.length
   ·obtain ⟨⟨x0,L0⟩,hx⟩:=aL hlt
    have HS:=aj (fA (aJ).sz hx)
    have hle2:=dn (aJ).sz L (k+1)
    obtain ⟨g,o,us,rfl,hg,hu,hr⟩:=(H.out.below aK hB).at_ hx
    obtain ⟨a0,c0,rfl,dY⟩:=kJ hr
    obtain ⟨e0,e1⟩:=mW (a:=o+k*2) hu rfl
    have fE:=aj (dY.more bC hsz)
    obtain ⟨q,hq⟩:∃ q,q=bE (aJ).sz (L.take k):=⟨_,rfl⟩
    obtain ⟨p,hp⟩:∃ p,p=(aJ).sz (x0,L0):=⟨_,rfl⟩
    rw [←hq] at hfit hle HS
    rw [←hp] at HS
    have HQ:=aj hq
    have HP:=aj hp
    have hi0:(0:Int)≤(k:Int):=eu _
    have hi1:(k:Int)<(L.length:Int):=by omega
    have hgl:g<wr.heap.size:=bV hg hsz
    have hle3:q+p≤bE (aJ).sz L:=by rw [←HS.out];exact hle2
    rw [←hq]
    clear hB hx hu dY hq hp hle2
    go_wp2_with fail
    refine (Ze (by omega) (by omega) fE.out).mono ?_
    intro e w1 h
    obtain ⟨rfl,hb⟩:=gB h
    rw [←HP.out]
    have HB2:=aj (HB.out.trans (hb.mono hsz))
    clear h hb
    by_cases hf:(p:Int)≤l-L.length-(q:Nat)
    ·rw [dJ hf]
     have hpos:(0:Int)≤l-L.length-(q:Nat)-(p:Nat):=by omega
     go_wp2
     go_roundw
     case rel=>exact ⟨k+1,by omega,by go_num,by rw [HS.out];omega,by rw [HS.out];congr 1;omega,HB2.out⟩
     case measure=>simp [intOf];omega
    ·rw [dF hf]
     have HR:=aj (dF (l:=l) (s:=(Sl aJ).sz L) (by rw [HD.out];omega))
     go_wp2
     go_ret
     exact ⟨by first | (rw [HR.out];done) | (rw [HR.out];rfl),HB2.out⟩
   ·obtain rfl:k=L.length:=by omega
    have HR:=aj (dJ (l:=l) (s:=(Sl aJ).sz L) (by rw [HD.out];rw [List.take_length] at hfit;omega))
    have HT:=aj (show L.take L.length=L from List.take_length)
    clear hB
    go_wp2
    go_ret
    exact ⟨by rw [HR.out,HD.out,←HT.out];first | rfl | (simp;done) | (simp;omega),HB.out⟩
 ·have HR:=aj (dF (l:=l) (s:=(Sl aJ).sz L) (by rw [HD.out];omega))
  go_enter Tryz.func25,Tryz.ntmps25
  go_wp2
  go_ret
  exact ⟨by first | (rw [HR.out];done) | (rw [HR.out];rfl),aU _ _⟩
end
end Go.Proofs.YtlhfiapfncikdaaGreatDoor.aP
