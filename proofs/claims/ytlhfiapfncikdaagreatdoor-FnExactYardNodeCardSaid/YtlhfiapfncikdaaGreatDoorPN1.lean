import Derived.Test.YtlhfiapfncikdaaGreatDoorPN0
set_option linter.unusedVariables false
set_option linter.unusedSimpArgs false
set_option maxRecDepth 100000
set_option maxHeartbeats 3200000
namespace Go.Proofs.YtlhfiapfncikdaaGreatDoor
namespace aQ
section
open Go.RowKit bN bO
abbrev bA:Type:=(ay)×(ay)×(Int)
def aT:Rp bA:=(Pr av (Pr av I))
theorem aG:Ok aT:=(gP au (gP au cK))
theorem lC {W:World}{B:Nat}{x0:Int}{x1:Int}{x2:Int}{x3:Int}{x4:Int}{cs:List Value}(h:aT.rd W B ((x0,x1),(x2,x3),x4) cs):cs = [.int .i64 x0,.int .i64 x1,.int .i64 x2,.int .i64 x3,.int .i64 x4]:=by
 obtain ⟨u1,v1,rfl,h1,g1⟩:=h
 obtain ⟨u2,v2,rfl,h2,g2⟩:=h1
 obtain rfl:u2 = [_]:=h2
 obtain rfl:v2 = [_]:=g2
 obtain ⟨u3,v3,rfl,h3,g3⟩:=g1
 obtain ⟨u4,v4,rfl,h4,g4⟩:=h3
 obtain rfl:u4 = [_]:=h4
 obtain rfl:v4 = [_]:=g4
 obtain rfl:v3 = [_]:=g3
 rfl
theorem yt {W:World}{S:Nat→Prop}{x0:Int}{x1:Int}{x2:Int}{x3:Int}{x4:Int}  : aT.ow W S ((x0,x1),(x2,x3),x4) [.int .i64 x0,.int .i64 x1,.int .i64 x2,.int .i64 x3,.int .i64 x4]:=⟨[.int .i64 x0,.int .i64 x1],[.int .i64 x2,.int .i64 x3,.int .i64 x4],(fun _=>False),(fun _=>False),rfl,(fun k h=>h.elim),(fun k h=>h.elim),(fun k h h'=>h.elim),⟨[.int .i64 x0],[.int .i64 x1],(fun _=>False),(fun _=>False),rfl,(fun k h=>h.elim),(fun k h=>h.elim),(fun k h h'=>h.elim),rfl,rfl⟩,⟨[.int .i64 x2,.int .i64 x3],[.int .i64 x4],(fun _=>False),(fun _=>False),rfl,(fun k h=>h.elim),(fun k h=>h.elim),(fun k h h'=>h.elim),⟨[.int .i64 x2],[.int .i64 x3],(fun _=>False),(fun _=>False),rfl,(fun k h=>h.elim),(fun k h=>h.elim),(fun k h h'=>h.elim),rfl,rfl⟩,rfl⟩⟩
theorem Hl {W:World}{S:Nat→Prop}{x0:Int}{x1:Int}{x2:Int}{x3:Int}{x4:Int}{cs:List Value}(h:aT.ow W S ((x0,x1),(x2,x3),x4) cs):cs = [.int .i64 x0,.int .i64 x1,.int .i64 x2,.int .i64 x3,.int .i64 x4]:=by
 obtain ⟨u1,v1,A1,B1,rfl,sa1,sb1,dd1,h1,g1⟩:=h
 obtain ⟨u2,v2,A2,B2,rfl,JW,Et,FL,h2,g2⟩:=h1
 obtain rfl:u2 = [_]:=h2
 obtain rfl:v2 = [_]:=g2
 obtain ⟨u3,v3,A3,B3,rfl,FQ,Es,dd3,h3,g3⟩:=g1
 obtain ⟨u4,v4,A4,B4,rfl,Mt,Xz,dd4,h4,g4⟩:=h3
 obtain rfl:u4 = [_]:=h4
 obtain rfl:v4 = [_]:=g4
 obtain rfl:v3 = [_]:=g3
 rfl
abbrev aX:Type:=(ay)×(Int)
def aN:Rp aX:=(Pr av I)
theorem aC:Ok aN:=(gP au cK)
theorem jm {W:World}{B:Nat}{x0:Int}{x1:Int}{x2:Int}{cs:List Value}(h:aN.rd W B ((x0,x1),x2) cs):cs = [.int .i64 x0,.int .i64 x1,.int .i64 x2]:=by
 obtain ⟨u1,v1,rfl,h1,g1⟩:=h
 obtain ⟨u2,v2,rfl,h2,g2⟩:=h1
 obtain rfl:u2 = [_]:=h2
 obtain rfl:v2 = [_]:=g2
 obtain rfl:v1 = [_]:=g1
 rfl
theorem vo {W:World}{S:Nat→Prop}{x0:Int}{x1:Int}{x2:Int}  : aN.ow W S ((x0,x1),x2) [.int .i64 x0,.int .i64 x1,.int .i64 x2]:=⟨[.int .i64 x0,.int .i64 x1],[.int .i64 x2],(fun _=>False),(fun _=>False),rfl,(fun k h=>h.elim),(fun k h=>h.elim),(fun k h h'=>h.elim),⟨[.int .i64 x0],[.int .i64 x1],(fun _=>False),(fun _=>False),rfl,(fun k h=>h.elim),(fun k h=>h.elim),(fun k h h'=>h.elim),rfl,rfl⟩,rfl⟩
theorem DW {W:World}{S:Nat→Prop}{x0:Int}{x1:Int}{x2:Int}{cs:List Value}(h:aN.ow W S ((x0,x1),x2) cs):cs = [.int .i64 x0,.int .i64 x1,.int .i64 x2]:=by
 obtain ⟨u1,v1,A1,B1,rfl,sa1,sb1,dd1,h1,g1⟩:=h
 obtain ⟨u2,v2,A2,B2,rfl,JW,Et,FL,h2,g2⟩:=h1
 obtain rfl:u2 = [_]:=h2
 obtain rfl:v2 = [_]:=g2
 obtain rfl:v1 = [_]:=g1
 rfl
abbrev Bv:Type:=(List (List (ay)))×(List (bA))×(List (aX))×(Int)
def cu:Rp Bv:=(Pr (Sl (Sl av)) (Pr (Sl aT) (Pr (Sl aN) I)))
theorem bX:Ok cu:=(gP (aZ (aZ au)) (gP (aZ aG) (gP (aZ aC) cK)))
theorem nY {W:World}{S:Nat→Prop}{L0:List (List (ay))}{L1:List (bA)}{L2:List (aX)}{x3:Int}{a0:Option Addr}{c0:Nat}{a1:Option Addr}{c1:Nat}{a2:Option Addr}{c2:Nat}{T0:Nat→Prop}{T1:Nat→Prop}{T2:Nat→Prop}(hs0:∀ k,T0 k→S k)(hs1:∀ k,T1 k→S k)(hs2:∀ k,T2 k→S k)(jO:∀ k,T0 k→¬T1 k)(jN:∀ k,T0 k→¬T2 k)(jM:∀ k,T1 k→¬T2 k)(dP:bH (Sl av) W T0 L0 a0 c0)(gN:bH aT W T1 L1 a1 c1)(gM:bH aN W T2 L2 a2 c2):cu.ow W S (L0,L1,L2,x3) [.slice a0 L0.length c0,.slice a1 L1.length c1,.slice a2 L2.length c2,.int .i64 x3]:=⟨[.slice a0 L0.length c0],[.slice a1 L1.length c1,.slice a2 L2.length c2,.int .i64 x3],T0,(fun k=>T1 k∨T2 k),rfl,(fun k h=>hs0 k h),(fun k h=>by rcases h with h | h <;> first | exact hs1 k h | exact hs2 k h),(fun k h h'=>by rcases h' with h' | h' <;> first | exact jO k h h' | exact jN k h h'),⟨a0,c0,rfl,dP⟩,⟨[.slice a1 L1.length c1],[.slice a2 L2.length c2,.int .i64 x3],T1,T2,rfl,(fun k h=>.inl h),(fun k h=>.inr (h)),jM,⟨a1,c1,rfl,gN⟩,⟨[.slice a2 L2.length c2],[.int .i64 x3],T2,(fun _=>False),rfl,(fun k h=>h),(fun k h=>h.elim),(fun k h h'=>h'.elim),⟨a2,c2,rfl,gM⟩,rfl⟩⟩⟩
theorem sj {W:World}{S:Nat→Prop}{L0:List (List (ay))}{L1:List (bA)}{L2:List (aX)}{x3:Int}{cs:List Value}(h:cu.ow W S (L0,L1,L2,x3) cs):∃ a0 c0 a1 c1 a2 c2,∃ T0 T1 T2:Nat→Prop,cs = [.slice a0 L0.length c0,.slice a1 L1.length c1,.slice a2 L2.length c2,.int .i64 x3]∧(∀ k,T0 k→S k)∧(∀ k,T1 k→S k)∧(∀ k,T2 k→S k)∧(∀ k,T0 k→¬T1 k)∧(∀ k,T0 k→¬T2 k)∧(∀ k,T1 k→¬T2 k)∧bH (Sl av) W T0 L0 a0 c0∧bH aT W T1 L1 a1 c1∧bH aN W T2 L2 a2 c2:=by
 obtain ⟨u1,v1,A1,B1,rfl,sa1,sb1,dd1,h1,g1⟩:=h
 obtain ⟨a0,c0,rfl,dY⟩:=h1
 obtain ⟨u2,v2,A2,B2,rfl,JW,Et,FL,h2,g2⟩:=g1
 obtain ⟨a1,c1,rfl,l7⟩:=h2
 obtain ⟨u3,v3,A3,B3,rfl,FQ,Es,dd3,h3,g3⟩:=g2
 obtain ⟨a2,c2,rfl,lZ⟩:=h3
 obtain rfl:v3 = [_]:=g3
 exact ⟨a0,c0,a1,c1,a2,c2,A1,A2,A3,rfl,fun k h=>sa1 k (h),fun k h=>sb1 k (JW k (h)),fun k h=>sb1 k (Et k (FQ k (h))),fun k h h'=>dd1 k (h) (JW k (h')),fun k h h'=>dd1 k (h) (Et k (FQ k (h'))),fun k h h'=>FL k (h) (FQ k (h')),dY,l7,lZ⟩
theorem Zw {x0:Int}{x1:Int}{x2:Int}{x3:Int}{x4:Int}  {W:World}(hsz:aT.sz ((x0,x1),(x2,x3),x4)≤1048576):Calls Tryz.prog 126 #[.agg #[.int .i64 x0,.int .i64 x1,.int .i64 x2,.int .i64 x3,.int .i64 x4]] W (kT aT ((x0,x1),(x2,x3),x4) W):=by
 have nI:=ak hsz
 clear hsz
 have hP:=((aO.new W 179 #[.int .i64 x0,.int .i64 x1,.int .i64 x2,.int .i64 x3,.int .i64 x4]).alloc (.cells #[.int .i64 0,.int .i64 0,.int .i64 0,.int .i64 0,.int .i64 0] 176)).alloc (.cells #[.int .i64 0,.int .i64 0,.int .i64 0,.int .i64 0,.int .i64 0] 176)
 have hR:=(aO.new (W.alloc (.cells #[.int .i64 x0,.int .i64 x1,.int .i64 x2,.int .i64 x3,.int .i64 x4] 179)) 176 #[.int .i64 0,.int .i64 0,.int .i64 0,.int .i64 0,.int .i64 0]).alloc (.cells #[.int .i64 0,.int .i64 0,.int .i64 0,.int .i64 0,.int .i64 0] 176)
 have hO:=aO.new ((W.alloc (.cells #[.int .i64 x0,.int .i64 x1,.int .i64 x2,.int .i64 x3,.int .i64 x4] 179)).alloc (.cells #[.int .i64 0,.int .i64 0,.int .i64 0,.int .i64 0,.int .i64 0] 176)) 176 #[.int .i64 0,.int .i64 0,.int .i64 0,.int .i64 0,.int .i64 0]
 simp only [World.size_alloc] at hP hR hO
 have HB0:=ak (show Below W.heap.size W (((W.alloc (.cells #[.int .i64 x0,.int .i64 x1,.int .i64 x2,.int .i64 x3,.int .i64 x4] 179)).alloc (.cells #[.int .i64 0,.int .i64 0,.int .i64 0,.int .i64 0,.int .i64 0] 176)).alloc (.cells #[.int .i64 0,.int .i64 0,.int .i64 0,.int .i64 0,.int .i64 0] 176)) from (((aW _ _).alloc (bK _) _).alloc (by simp) _).alloc (by simp;omega) _)
 have hz0:W.heap.size+3≤(((W.alloc (.cells #[.int .i64 x0,.int .i64 x1,.int .i64 x2,.int .i64 x3,.int .i64 x4] 179)).alloc (.cells #[.int .i64 0,.int .i64 0,.int .i64 0,.int .i64 0,.int .i64 0] 176)).alloc (.cells #[.int .i64 0,.int .i64 0,.int .i64 0,.int .i64 0,.int .i64 0] 176)).heap.size:=by simp
 have gY:=ak hP
 have Ab:=ak hR
 have zo:=ak hO
 clear hP hR hO
 go_enter Tryz.func126,Tryz.ntmps126
 go_wp2_with fail
 refine (mQ (by have h0:=nI.out;simp only [aT,av,Pr,Sl,I,Bo,atom] at h0 ⊢;omega)).mono ?_
 intro e w1 h
 obtain ⟨vs,rfl,how,hb⟩:=bY h
 obtain rfl:=jQ how
 have hP:aO w1 (W.heap.size) 179 #[.int .i64 x0,.int .i64 x1,.int .i64 x2,.int .i64 x3,.int .i64 x4]:=aO.call gY.out hb
 have hR:aO w1 (W.heap.size+1) 176 #[.int .i64 0,.int .i64 0,.int .i64 0,.int .i64 0,.int .i64 0]:=aO.call Ab.out hb
 have hO:aO w1 (W.heap.size+1+1) 176 #[.int .i64 0,.int .i64 0,.int .i64 0,.int .i64 0,.int .i64 0]:=aO.call zo.out hb
 have hz1:W.heap.size+3≤w1.heap.size:=eF hz0 (bP hb (S:=fun x=>x<W.heap.size+3) (Off.refl (fun x=>x<W.heap.size+3) _))
 have HB1:=ak (Below.trans (B:=W.heap.size) (a:=W) HB0.out (hb.mono (by have h0:=hz0;first | omega | (simp;omega))))
 have cZ:=ak hP
 have HR1:=ak hR
 have rQ:=ak hO
 clear h hb hP hR hO how
 obtain ⟨vK,qK,ou,uL,zH⟩:=cZ.out.vN rfl
 obtain ⟨CS,CQ,ED,Gl,SI⟩:=rQ.out.vN rfl
 obtain ⟨CK,CJ,Ez,Gf,SA⟩:=HR1.out.vN rfl
 obtain ⟨CZ,CY,EG,Gp,Ti⟩:=rQ.out.XV
 obtain ⟨CX,CW,EF,Gn,Tg⟩:=HR1.out.XV
 go_wp2_with fail
 refine (mQ (by have h0:=nI.out;simp only [aT,av,Pr,Sl,I,Bo,atom] at h0 ⊢;omega)).mono ?_
 intro e w2 h
 obtain ⟨vs,rfl,how,hb⟩:=bY h
 obtain rfl:=jQ how
 have hP:aO w2 (W.heap.size) 179 #[.int .i64 x0,.int .i64 x1,.int .i64 x2,.int .i64 x3,.int .i64 x4]:=aO.call (aO.far (b:=W.heap.size+1+1) (o:=1) (aO.far (b:=W.heap.size+1+1) (o:=0) cZ.out (by omega) (.int .i64 x0)) (by omega) (.int .i64 x1)) hb
 have hR:aO w2 (W.heap.size+1) 176 #[.int .i64 0,.int .i64 0,.int .i64 0,.int .i64 0,.int .i64 0]:=aO.call (aO.far (b:=W.heap.size+1+1) (o:=1) (aO.far (b:=W.heap.size+1+1) (o:=0) HR1.out (by omega) (.int .i64 x0)) (by omega) (.int .i64 x1)) hb
 have hO:aO w2 (W.heap.size+1+1) 176 #[.int .i64 x0,.int .i64 x1,.int .i64 0,.int .i64 0,.int .i64 0]:=aO.call (aO.set (aO.set rQ.out 0 (.int .i64 x0)) 1 (.int .i64 x1)) hb
 have hz2:W.heap.size+3≤w2.heap.size:=eF hz1 (bP hb (S:=fun x=>x<W.heap.size+3) (((Off.refl (fun x=>x<W.heap.size+3) w1).setCell (p:=⟨W.heap.size+1+1,0,none⟩) (by show W.heap.size+1+1<W.heap.size+3;omega) (.int .i64 x0)).setCell (p:=⟨W.heap.size+1+1,1,none⟩) (by show W.heap.size+1+1<W.heap.size+3;omega) (.int .i64 x1)))
 have HB2:=ak (Below.trans (B:=W.heap.size) (a:=W) ((HB1.out.setCell (p:=⟨W.heap.size+1+1,0,none⟩) (by show W.heap.size≤W.heap.size+1+1;omega) (.int .i64 x0)).setCell (p:=⟨W.heap.size+1+1,1,none⟩) (by show W.heap.size≤W.heap.size+1+1;omega) (.int .i64 x1)) (hb.mono (by have h0:=hz1;first | omega | (simp;omega))))
 have hle2:=bP hb (((Off.refl (fun x=>x<W.heap.size+3) w1).setCell (p:=⟨W.heap.size+1+1,0,none⟩) (by show W.heap.size+1+1<W.heap.size+3;omega) (.int .i64 x0)).setCell (p:=⟨W.heap.size+1+1,1,none⟩) (by show W.heap.size+1+1<W.heap.size+3;omega) (.int .i64 x1))
 have iD:=ak hP
 have HR2:=ak hR
 have vJ:=ak hO
 clear h hb hP hR hO how
 clear vK CS CK CZ CX qK CQ CJ CY CW ou ED Ez EG EF uL Gl Gf Gp Gn zH SI SA Ti Tg
 obtain ⟨CP,CO,zG,Gh,PK⟩:=iD.out.vN rfl
 obtain ⟨PV,PU,PS,PO,YN⟩:=vJ.out.vN rfl
 obtain ⟨PD,Pz,Py,Px,YH⟩:=HR2.out.vN rfl
 obtain ⟨Qc,Qb,Qa,P9,YT⟩:=vJ.out.XV
 obtain ⟨P7,P6,P5,PZ,YS⟩:=HR2.out.XV
 go_wp2
 refine qC (v:=.agg #[.int .i64 x0,.int .i64 x1,.int .i64 x2,.int .i64 x3,.int .i64 x4]) (by simp [results,Tryz.results126,go_sem, *]) rfl ⟨[.int .i64 x0,.int .i64 x1,.int .i64 x2,.int .i64 x3,.int .i64 x4],rfl,?_,((((((((HB2.out.setCell (p:=⟨W.heap.size+1+1,2,none⟩) (by show W.heap.size≤W.heap.size+1+1;omega) (.int .i64 x2)).setCell (p:=⟨W.heap.size+1+1,3,none⟩) (by show W.heap.size≤W.heap.size+1+1;omega) (.int .i64 x3)).setCell (p:=⟨W.heap.size+1+1,4,none⟩) (by show W.heap.size≤W.heap.size+1+1;omega) (.int .i64 x4)).setCell (p:=⟨W.heap.size+1,0,none⟩) (by show W.heap.size≤W.heap.size+1;omega) (.int .i64 x0)).setCell (p:=⟨W.heap.size+1,1,none⟩) (by show W.heap.size≤W.heap.size+1;omega) (.int .i64 x1)).setCell (p:=⟨W.heap.size+1,2,none⟩) (by show W.heap.size≤W.heap.size+1;omega) (.int .i64 x2)).setCell (p:=⟨W.heap.size+1,3,none⟩) (by show W.heap.size≤W.heap.size+1;omega) (.int .i64 x3)).setCell (p:=⟨W.heap.size+1,4,none⟩) (by show W.heap.size≤W.heap.size+1;omega) (.int .i64 x4))⟩
 have hoff:=(((((((((Off.refl (fun x=>x<W.heap.size+3) w2).setCell (p:=⟨W.heap.size+1+1,2,none⟩) (by show W.heap.size+1+1<W.heap.size+3;omega) (.int .i64 x2)).setCell (p:=⟨W.heap.size+1+1,3,none⟩) (by show W.heap.size+1+1<W.heap.size+3;omega) (.int .i64 x3)).setCell (p:=⟨W.heap.size+1+1,4,none⟩) (by show W.heap.size+1+1<W.heap.size+3;omega) (.int .i64 x4)).setCell (p:=⟨W.heap.size+1,0,none⟩) (by show W.heap.size+1<W.heap.size+3;omega) (.int .i64 x0)).setCell (p:=⟨W.heap.size+1,1,none⟩) (by show W.heap.size+1<W.heap.size+3;omega) (.int .i64 x1)).setCell (p:=⟨W.heap.size+1,2,none⟩) (by show W.heap.size+1<W.heap.size+3;omega) (.int .i64 x2)).setCell (p:=⟨W.heap.size+1,3,none⟩) (by show W.heap.size+1<W.heap.size+3;omega) (.int .i64 x3)).setCell (p:=⟨W.heap.size+1,4,none⟩) (by show W.heap.size+1<W.heap.size+3;omega) (.int .i64 x4))
 have hsz:=hoff.size
 exact yt
theorem jK:(aT).size=5:=rfl
def Bg (n:Nat):Array Value:=madeCells #[.int .i64 0,.int .i64 0,.int .i64 0,.int .i64 0,.int .i64 0] (n*5)
theorem Da (n:Nat):(Bg n).size=n*(aT).size:=by unfold Bg;simp [madeCells,jK]
theorem LB (n:Nat)(hn:n≤1048576):∀ W:World,(Instr.makeSlice 36 (.int .i64 (n:Int)) (.int .i64 (n:Int))).run Tryz.prog W=.ok (.slice (some ⟨W.heap.size,0,none⟩) n n) (W.alloc (.cells (Bg n) 176)):=by
 intro W
 obtain ⟨i,hi,hz,hs,hb⟩:∃ i,Tryz.prog.info? 176=some i∧i.zero=some (.agg #[.int .i64 0,.int .i64 0,.int .i64 0,.int .i64 0,.int .i64 0])∧i.size=5∧i.bytes=40:=by
  have h:(Tryz.prog.info? 176).map (fun i=>(i.zero,i.size,i.bytes))=some (some (.agg #[.int .i64 0,.int .i64 0,.int .i64 0,.int .i64 0,.int .i64 0]),5,40):=by kernel_rfl
  cases hx:Tryz.prog.info? 176 with
  | none=>rw [hx] at h;simp at h
  | some i=>rw [hx] at h;simp at h;exact ⟨i,rfl,h.1,h.2.1,h.2.2⟩
 have hr:=run_make (P:=Tryz.prog) W 36 176 i _ Tryz.underlying36 hi hz .i64 .i64 n n (by omega) (by omega) (by rw [hb];omega) (by omega)
 rw [hs] at hr
 simp only [Int.toNat_natCast] at hr
 exact hr
theorem Vx {L:List (bA)}{a:Option Addr}{cap:Nat}{W:World}(hsz:((Sl aT)).sz L≤1048576)(h:aJ aT W W.heap.size L a cap):Calls Tryz.prog 71 #[.slice a L.length cap] W (jU aT L W):=by
 have hn:L.length≤1048576:=eF (Nat.le_add_right _ _) hsz
 have hmk:=LB L.length hn
 have H:=ak h
 have nI:=ak hsz
 clear h hsz
 go_enter Tryz.func71,Tryz.ntmps71
 go_wp2
 go_loopw [4] (fun i wr=>∃ k:Nat,k≤L.length∧i=.int .i64 k∧∃ Sf,sU aT W wr L W.heap.size Sf k) (fun i _=>L.length-(intOf i).toNat)
 case atStart=>exact ⟨0,dV _,rfl,_,sU.new (by exact Da _)⟩
 case round=>
  obtain ⟨k,hk,rfl,Sf,hF⟩:=hrel
  have HF:=ak hF
  by_cases hlt:k<L.length
  ·obtain ⟨⟨⟨x0,x1⟩,⟨x2,x3⟩,x4⟩,hx⟩:=aM hlt
   have HX:=ak hx
   obtain ⟨g,o,us,rfl,hg,hu,hr⟩:=(H.out.below aG hF.below).at_ hx
   obtain rfl:=lC hr
   obtain ⟨e0,e1,e2,e3,e4⟩:=Tj (a:=o+k*5) hu rfl
   have hi0:(0:Int)≤(k:Int):=eu _
   have hi1:(k:Int)<(L.length:Int):=by omega
   have HE:=ak (vS (f:=(aT).sz) HX.out nI.out)
   clear hF hx hu hmk
   go_wp2_with fail
   refine (Zw (by exact HE.out)).mono ?_
   intro e w1 h
   obtain ⟨vs,rfl,how,hb⟩:=bY h
   have HOW:=ak how
   obtain rfl:=Hl how
   have HP:=ak (HF.out.put aG HX.out hb HOW.out)
   have hlt1:=HF.out.lt
   obtain ⟨t0,ht0⟩:=HF.out.there (k*5) (by rw [jK];omega)
   have q0:=(hb.cell (p:=⟨W.heap.size,k*5,none⟩) hlt1).trans ht0
   have s0:=(hb.frozen (p:=⟨W.heap.size,k*5,none⟩) hlt1).trans (HF.out.soft (k*5))
   obtain ⟨t1,ht1⟩:=HF.out.there (k*5+1) (by rw [jK];omega)
   have q1:=(hb.cell (p:=⟨W.heap.size,k*5+1,none⟩) hlt1).trans ht1
   have s1:=(hb.frozen (p:=⟨W.heap.size,k*5+1,none⟩) hlt1).trans (HF.out.soft (k*5+1))
   obtain ⟨t2,ht2⟩:=HF.out.there (k*5+2) (by rw [jK];omega)
   have q2:=(hb.cell (p:=⟨W.heap.size,k*5+2,none⟩) hlt1).trans ht2
   have s2:=(hb.frozen (p:=⟨W.heap.size,k*5+2,none⟩) hlt1).trans (HF.out.soft (k*5+2))
   obtain ⟨t3,ht3⟩:=HF.out.there (k*5+3) (by rw [jK];omega)
   have q3:=(hb.cell (p:=⟨W.heap.size,k*5+3,none⟩) hlt1).trans ht3
   have s3:=(hb.frozen (p:=⟨W.heap.size,k*5+3,none⟩) hlt1).trans (HF.out.soft (k*5+3))
   obtain ⟨t4,ht4⟩:=HF.out.there (k*5+4) (by rw [jK];omega)
   have q4:=(hb.cell (p:=⟨W.heap.size,k*5+4,none⟩) hlt1).trans ht4
   have s4:=(hb.frozen (p:=⟨W.heap.size,k*5+4,none⟩) hlt1).trans (HF.out.soft (k*5+4))
   clear h how hb ht0 ht1 ht2 ht3 ht4 e0 e1 e2 e3 e4
   go_wp2
   go_roundw
   case rel=>exact ⟨k+1,by omega,by go_num,_,by simpa [putCells,jK,Nat.add_assoc] using HP.out⟩
   case measure=>simp [intOf];omega
  ·obtain rfl:k=L.length:=by omega
   have HR:=ak (HF.out.news (by unfold maxLen;omega))
   clear hF hmk
   go_wp2
   go_ret
   exact HR.out
theorem Vw {x0:Int}{x1:Int}{x2:Int}  {W:World}(hsz:aN.sz ((x0,x1),x2)≤1048576):Calls Tryz.prog 127 #[.agg #[.int .i64 x0,.int .i64 x1,.int .i64 x2]] W (kT aN ((x0,x1),x2) W):=by
 have nI:=ak hsz
 clear hsz
 have hP:=((aO.new W 184 #[.int .i64 x0,.int .i64 x1,.int .i64 x2]).alloc (.cells #[.int .i64 0,.int .i64 0,.int .i64 0] 181)).alloc (.cells #[.int .i64 0,.int .i64 0,.int .i64 0] 181)
 have hR:=(aO.new (W.alloc (.cells #[.int .i64 x0,.int .i64 x1,.int .i64 x2] 184)) 181 #[.int .i64 0,.int .i64 0,.int .i64 0]).alloc (.cells #[.int .i64 0,.int .i64 0,.int .i64 0] 181)
 have hO:=aO.new ((W.alloc (.cells #[.int .i64 x0,.int .i64 x1,.int .i64 x2] 184)).alloc (.cells #[.int .i64 0,.int .i64 0,.int .i64 0] 181)) 181 #[.int .i64 0,.int .i64 0,.int .i64 0]
 simp only [World.size_alloc] at hP hR hO
 have HB0:=ak (show Below W.heap.size W (((W.alloc (.cells #[.int .i64 x0,.int .i64 x1,.int .i64 x2] 184)).alloc (.cells #[.int .i64 0,.int .i64 0,.int .i64 0] 181)).alloc (.cells #[.int .i64 0,.int .i64 0,.int .i64 0] 181)) from (((aW _ _).alloc (bK _) _).alloc (by simp) _).alloc (by simp;omega) _)
 have hz0:W.heap.size+3≤(((W.alloc (.cells #[.int .i64 x0,.int .i64 x1,.int .i64 x2] 184)).alloc (.cells #[.int .i64 0,.int .i64 0,.int .i64 0] 181)).alloc (.cells #[.int .i64 0,.int .i64 0,.int .i64 0] 181)).heap.size:=by simp
 have gY:=ak hP
 have Ab:=ak hR
 have zo:=ak hO
 clear hP hR hO
 go_enter Tryz.func127,Tryz.ntmps127
 go_wp2_with fail
 refine (mQ (by have h0:=nI.out;simp only [aN,av,Pr,Sl,I,Bo,atom] at h0 ⊢;omega)).mono ?_
 intro e w1 h
 obtain ⟨vs,rfl,how,hb⟩:=bY h
 obtain rfl:=jQ how
 have hP:aO w1 (W.heap.size) 184 #[.int .i64 x0,.int .i64 x1,.int .i64 x2]:=aO.call gY.out hb
 have hR:aO w1 (W.heap.size+1) 181 #[.int .i64 0,.int .i64 0,.int .i64 0]:=aO.call Ab.out hb
 have hO:aO w1 (W.heap.size+1+1) 181 #[.int .i64 0,.int .i64 0,.int .i64 0]:=aO.call zo.out hb
 have hz1:W.heap.size+3≤w1.heap.size:=eF hz0 (bP hb (S:=fun x=>x<W.heap.size+3) (Off.refl (fun x=>x<W.heap.size+3) _))
 have HB1:=ak (Below.trans (B:=W.heap.size) (a:=W) HB0.out (hb.mono (by have h0:=hz0;first | omega | (simp;omega))))
 have cZ:=ak hP
 have HR1:=ak hR
 have rQ:=ak hO
 clear h hb hP hR hO how
 obtain ⟨vK,qK,ou⟩:=cZ.out.pz rfl
 obtain ⟨CS,CQ,ED⟩:=rQ.out.pz rfl
 obtain ⟨CK,CJ,Ez⟩:=HR1.out.pz rfl
 obtain ⟨CZ,CY,EG⟩:=rQ.out.sof3
 obtain ⟨CX,CW,EF⟩:=HR1.out.sof3
 go_wp2
 refine qC (v:=.agg #[.int .i64 x0,.int .i64 x1,.int .i64 x2]) (by simp [results,Tryz.results127,go_sem, *]) rfl ⟨[.int .i64 x0,.int .i64 x1,.int .i64 x2],rfl,?_,((((((HB1.out.setCell (p:=⟨W.heap.size+1+1,0,none⟩) (by show W.heap.size≤W.heap.size+1+1;omega) (.int .i64 x0)).setCell (p:=⟨W.heap.size+1+1,1,none⟩) (by show W.heap.size≤W.heap.size+1+1;omega) (.int .i64 x1)).setCell (p:=⟨W.heap.size+1+1,2,none⟩) (by show W.heap.size≤W.heap.size+1+1;omega) (.int .i64 x2)).setCell (p:=⟨W.heap.size+1,0,none⟩) (by show W.heap.size≤W.heap.size+1;omega) (.int .i64 x0)).setCell (p:=⟨W.heap.size+1,1,none⟩) (by show W.heap.size≤W.heap.size+1;omega) (.int .i64 x1)).setCell (p:=⟨W.heap.size+1,2,none⟩) (by show W.heap.size≤W.heap.size+1;omega) (.int .i64 x2))⟩
 have hoff:=(((((((Off.refl (fun x=>x<W.heap.size+3) w1).setCell (p:=⟨W.heap.size+1+1,0,none⟩) (by show W.heap.size+1+1<W.heap.size+3;omega) (.int .i64 x0)).setCell (p:=⟨W.heap.size+1+1,1,none⟩) (by show W.heap.size+1+1<W.heap.size+3;omega) (.int .i64 x1)).setCell (p:=⟨W.heap.size+1+1,2,none⟩) (by show W.heap.size+1+1<W.heap.size+3;omega) (.int .i64 x2)).setCell (p:=⟨W.heap.size+1,0,none⟩) (by show W.heap.size+1<W.heap.size+3;omega) (.int .i64 x0)).setCell (p:=⟨W.heap.size+1,1,none⟩) (by show W.heap.size+1<W.heap.size+3;omega) (.int .i64 x1)).setCell (p:=⟨W.heap.size+1,2,none⟩) (by show W.heap.size+1<W.heap.size+3;omega) (.int .i64 x2))
 have hsz:=hoff.size
 exact vo
theorem kR:(aN).size=3:=rfl
def xY (n:Nat):Array Value:=madeCells #[.int .i64 0,.int .i64 0,.int .i64 0] (n*3)
theorem Cj (n:Nat):(xY n).size=n*(aN).size:=by unfold xY;simp [madeCells,kR]
theorem Ji (n:Nat)(hn:n≤1048576):∀ W:World,(Instr.makeSlice 37 (.int .i64 (n:Int)) (.int .i64 (n:Int))).run Tryz.prog W=.ok (.slice (some ⟨W.heap.size,0,none⟩) n n) (W.alloc (.cells (xY n) 181)):=by
 intro W
 obtain ⟨i,hi,hz,hs,hb⟩:∃ i,Tryz.prog.info? 181=some i∧i.zero=some (.agg #[.int .i64 0,.int .i64 0,.int .i64 0])∧i.size=3∧i.bytes=24:=by
  have h:(Tryz.prog.info? 181).map (fun i=>(i.zero,i.size,i.bytes))=some (some (.agg #[.int .i64 0,.int .i64 0,.int .i64 0]),3,24):=by kernel_rfl
  cases hx:Tryz.prog.info? 181 with
  | none=>rw [hx] at h;simp at h
  | some i=>rw [hx] at h;simp at h;exact ⟨i,rfl,h.1,h.2.1,h.2.2⟩
 have hr:=run_make (P:=Tryz.prog) W 37 181 i _ Tryz.underlying37 hi hz .i64 .i64 n n (by omega) (by omega) (by rw [hb];omega) (by omega)
 rw [hs] at hr
 simp only [Int.toNat_natCast] at hr
 exact hr
theorem Qw {L:List (aX)}{a:Option Addr}{cap:Nat}{W:World}(hsz:((Sl aN)).sz L≤1048576)(h:aJ aN W W.heap.size L a cap):Calls Tryz.prog 72 #[.slice a L.length cap] W (jU aN L W):=by
 have hn:L.length≤1048576:=eF (Nat.le_add_right _ _) hsz
 have hmk:=Ji L.length hn
 have H:=ak h
 have nI:=ak hsz
 clear h hsz
 go_enter Tryz.func72,Tryz.ntmps72
 go_wp2
 go_loopw [4] (fun i wr=>∃ k:Nat,k≤L.length∧i=.int .i64 k∧∃ Sf,sU aN W wr L W.heap.size Sf k) (fun i _=>L.length-(intOf i).toNat)
 case atStart=>exact ⟨0,dV _,rfl,_,sU.new (by exact Cj _)⟩
 case round=>
  obtain ⟨k,hk,rfl,Sf,hF⟩:=hrel
  have HF:=ak hF
  by_cases hlt:k<L.length
  ·obtain ⟨⟨⟨x0,x1⟩,x2⟩,hx⟩:=aM hlt
   have HX:=ak hx
   obtain ⟨g,o,us,rfl,hg,hu,hr⟩:=(H.out.below aC hF.below).at_ hx
   obtain rfl:=jm hr
   obtain ⟨e0,e1,e2⟩:=Ko (a:=o+k*3) hu rfl
   have hi0:(0:Int)≤(k:Int):=eu _
   have hi1:(k:Int)<(L.length:Int):=by omega
   have HE:=ak (vS (f:=(aN).sz) HX.out nI.out)
   clear hF hx hu hmk
   go_wp2_with fail
   refine (Vw (by exact HE.out)).mono ?_
   intro e w1 h
   obtain ⟨vs,rfl,how,hb⟩:=bY h
   have HOW:=ak how
   obtain rfl:=DW how
   have HP:=ak (HF.out.put aC HX.out hb HOW.out)
   have hlt1:=HF.out.lt
   obtain ⟨t0,ht0⟩:=HF.out.there (k*3) (by rw [kR];omega)
   have q0:=(hb.cell (p:=⟨W.heap.size,k*3,none⟩) hlt1).trans ht0
   have s0:=(hb.frozen (p:=⟨W.heap.size,k*3,none⟩) hlt1).trans (HF.out.soft (k*3))
   obtain ⟨t1,ht1⟩:=HF.out.there (k*3+1) (by rw [kR];omega)
   have q1:=(hb.cell (p:=⟨W.heap.size,k*3+1,none⟩) hlt1).trans ht1
   have s1:=(hb.frozen (p:=⟨W.heap.size,k*3+1,none⟩) hlt1).trans (HF.out.soft (k*3+1))
   obtain ⟨t2,ht2⟩:=HF.out.there (k*3+2) (by rw [kR];omega)
   have q2:=(hb.cell (p:=⟨W.heap.size,k*3+2,none⟩) hlt1).trans ht2
   have s2:=(hb.frozen (p:=⟨W.heap.size,k*3+2,none⟩) hlt1).trans (HF.out.soft (k*3+2))
   clear h how hb ht0 ht1 ht2 e0 e1 e2
   go_wp2
   go_roundw
   case rel=>exact ⟨k+1,by omega,by go_num,_,by simpa [putCells,kR,Nat.add_assoc] using HP.out⟩
   case measure=>simp [intOf];omega
  ·obtain rfl:k=L.length:=by omega
   have HR:=ak (HF.out.news (by unfold maxLen;omega))
   clear hF hmk
   go_wp2
   go_ret
   exact HR.out
theorem Qz {L0:List (List (ay))}{L1:List (bA)}{L2:List (aX)}{x3:Int}{a0:Option Addr}{c0:Nat}{a1:Option Addr}{c1:Nat}{a2:Option Addr}{c2:Nat}{W:World}(hsz:cu.sz (L0,L1,L2,x3)≤1048576)(dP:aJ (Sl av) W W.heap.size L0 a0 c0)(gN:aJ aT W W.heap.size L1 a1 c1)(gM:aJ aN W W.heap.size L2 a2 c2):Calls Tryz.prog 32 #[.agg #[.slice a0 L0.length c0,.slice a1 L1.length c1,.slice a2 L2.length c2,.int .i64 x3]] W (kT cu (L0,L1,L2,x3) W):=by
 have jJ:=ak dP
 have pJ:=ak gN
 have pI:=ak gM
 have nI:=ak hsz
 clear hsz dP gN gM
 have hP:=((aO.new W 26 #[.slice a0 L0.length c0,.slice a1 L1.length c1,.slice a2 L2.length c2,.int .i64 x3]).alloc (.cells #[.slice none 0 0,.slice none 0 0,.slice none 0 0,.int .i64 0] 39)).alloc (.cells #[.slice none 0 0,.slice none 0 0,.slice none 0 0,.int .i64 0] 39)
 have hR:=(aO.new (W.alloc (.cells #[.slice a0 L0.length c0,.slice a1 L1.length c1,.slice a2 L2.length c2,.int .i64 x3] 26)) 39 #[.slice none 0 0,.slice none 0 0,.slice none 0 0,.int .i64 0]).alloc (.cells #[.slice none 0 0,.slice none 0 0,.slice none 0 0,.int .i64 0] 39)
 have hO:=aO.new ((W.alloc (.cells #[.slice a0 L0.length c0,.slice a1 L1.length c1,.slice a2 L2.length c2,.int .i64 x3] 26)).alloc (.cells #[.slice none 0 0,.slice none 0 0,.slice none 0 0,.int .i64 0] 39)) 39 #[.slice none 0 0,.slice none 0 0,.slice none 0 0,.int .i64 0]
 simp only [World.size_alloc] at hP hR hO
 have HB0:=ak (show Below W.heap.size W (((W.alloc (.cells #[.slice a0 L0.length c0,.slice a1 L1.length c1,.slice a2 L2.length c2,.int .i64 x3] 26)).alloc (.cells #[.slice none 0 0,.slice none 0 0,.slice none 0 0,.int .i64 0] 39)).alloc (.cells #[.slice none 0 0,.slice none 0 0,.slice none 0 0,.int .i64 0] 39)) from (((aW _ _).alloc (bK _) _).alloc (by simp) _).alloc (by simp;omega) _)
 have hz0:W.heap.size+3≤(((W.alloc (.cells #[.slice a0 L0.length c0,.slice a1 L1.length c1,.slice a2 L2.length c2,.int .i64 x3] 26)).alloc (.cells #[.slice none 0 0,.slice none 0 0,.slice none 0 0,.int .i64 0] 39)).alloc (.cells #[.slice none 0 0,.slice none 0 0,.slice none 0 0,.int .i64 0] 39)).heap.size:=by simp
 have gY:=ak hP
 have Ab:=ak hR
 have zo:=ak hO
 clear hP hR hO
 go_enter Tryz.func32,Tryz.ntmps32
 go_wp2_with fail
 refine (KI (by have h0:=nI.out;simp only [cu,Pr,Sl,I,Bo,atom] at h0 ⊢;omega) ((jJ.out.below (aZ au) HB0.out).more (aZ au) (by have h0:=hz0;first | omega | (simp;omega)))).mono ?_
 intro e w1 h
 obtain ⟨fu,fq,rfl,mO,hb⟩:=bL h
 have hP:aO w1 (W.heap.size) 26 #[.slice a0 L0.length c0,.slice a1 L1.length c1,.slice a2 L2.length c2,.int .i64 x3]:=aO.call gY.out hb
 have hR:aO w1 (W.heap.size+1) 39 #[.slice none 0 0,.slice none 0 0,.slice none 0 0,.int .i64 0]:=aO.call Ab.out hb
 have hO:aO w1 (W.heap.size+1+1) 39 #[.slice none 0 0,.slice none 0 0,.slice none 0 0,.int .i64 0]:=aO.call zo.out hb
 have hz1:W.heap.size+3≤w1.heap.size:=eF hz0 (bP hb (S:=fun x=>x<W.heap.size+3) (Off.refl (fun x=>x<W.heap.size+3) _))
 have HB1:=ak (Below.trans (B:=W.heap.size) (a:=W) HB0.out (hb.mono (by have h0:=hz0;first | omega | (simp;omega))))
 have kN:=ak mO
 have dR:=ak (fun k hk=>eH hb (m:=W.heap.size+3) (by have h0:=hz0;first | omega | (simp;omega)) k hk)
 have yN:=ak (eH hb (m:=0) (dV _))
 have cZ:=ak hP
 have HR1:=ak hR
 have rQ:=ak hO
 clear h hb hP hR hO mO
 obtain ⟨vK,qK,ou,uL⟩:=cZ.out.jE rfl
 obtain ⟨CS,CQ,ED,Gl⟩:=rQ.out.jE rfl
 obtain ⟨CK,CJ,Ez,Gf⟩:=HR1.out.jE rfl
 obtain ⟨CZ,CY,EG,Gp⟩:=rQ.out.CG
 obtain ⟨CX,CW,EF,Gn⟩:=HR1.out.CG
 go_wp2_with fail
 refine (Vx (by have h0:=nI.out;simp only [cu,Pr,Sl,I,Bo,atom] at h0 ⊢;omega) ((pJ.out.below aG (HB1.out.setCell (p:=⟨W.heap.size+1+1,0,none⟩) (by show W.heap.size≤W.heap.size+1+1;omega) (.slice fu L0.length fq))).more aG (by have h0:=hz1;first | omega | (simp;omega)))).mono ?_
 intro e w2 h
 obtain ⟨iJ,iI,rfl,Bd,hb⟩:=bL h
 have hP:aO w2 (W.heap.size) 26 #[.slice a0 L0.length c0,.slice a1 L1.length c1,.slice a2 L2.length c2,.int .i64 x3]:=aO.call (aO.far (b:=W.heap.size+1+1) (o:=0) cZ.out (by omega) (.slice fu L0.length fq)) hb
 have hR:aO w2 (W.heap.size+1) 39 #[.slice none 0 0,.slice none 0 0,.slice none 0 0,.int .i64 0]:=aO.call (aO.far (b:=W.heap.size+1+1) (o:=0) HR1.out (by omega) (.slice fu L0.length fq)) hb
 have hO:aO w2 (W.heap.size+1+1) 39 #[.slice fu L0.length fq,.slice none 0 0,.slice none 0 0,.int .i64 0]:=aO.call (aO.set rQ.out 0 (.slice fu L0.length fq)) hb
 have hz2:W.heap.size+3≤w2.heap.size:=eF hz1 (bP hb (S:=fun x=>x<W.heap.size+3) ((Off.refl (fun x=>x<W.heap.size+3) w1).setCell (p:=⟨W.heap.size+1+1,0,none⟩) (by show W.heap.size+1+1<W.heap.size+3;omega) (.slice fu L0.length fq)))
 have kN:=ak (kN.out.keep (aZ au) (fun k hk=>eP hb (S:=fun x=>x<W.heap.size+3) ((Off.refl (fun x=>x<W.heap.size+3) w1).setCell (p:=⟨W.heap.size+1+1,0,none⟩) (by show W.heap.size+1+1<W.heap.size+3;omega) (.slice fu L0.length fq)) k (dR.out k hk).2 (by have:=(dR.out k hk).1;omega)))
 have dR:=ak (fun k hk=>(⟨(dR.out k hk).1,bV (dR.out k hk).2 (bP hb (S:=fun x=>x<W.heap.size+3) ((Off.refl (fun x=>x<W.heap.size+3) w1).setCell (p:=⟨W.heap.size+1+1,0,none⟩) (by show W.heap.size+1+1<W.heap.size+3;omega) (.slice fu L0.length fq)))⟩:W.heap.size+3≤k∧k<w2.heap.size))
 have HB2:=ak (Below.trans (B:=W.heap.size) (a:=W) (HB1.out.setCell (p:=⟨W.heap.size+1+1,0,none⟩) (by show W.heap.size≤W.heap.size+1+1;omega) (.slice fu L0.length fq)) (hb.mono (by have h0:=hz1;first | omega | (simp;omega))))
 have qV:=ak Bd
 have gQ:=ak (fun k hk=>eH hb (m:=W.heap.size+3) (by have h0:=hz1;first | omega | (simp;omega)) k hk)
 have GL:=ak (eH hb (m:=0) (dV _))
 have aef:=ak (Du hb ((Off.refl (fun x=>x<W.heap.size+3) w1).setCell (p:=⟨W.heap.size+1+1,0,none⟩) (by show W.heap.size+1+1<W.heap.size+3;omega) (.slice fu L0.length fq)))
 have hle2:=bP hb ((Off.refl (fun x=>x<W.heap.size+3) w1).setCell (p:=⟨W.heap.size+1+1,0,none⟩) (by show W.heap.size+1+1<W.heap.size+3;omega) (.slice fu L0.length fq))
 have iD:=ak hP
 have HR2:=ak hR
 have vJ:=ak hO
 clear h hb hP hR hO Bd
 clear vK CS CK CZ CX qK CQ CJ CY CW ou ED Ez EG EF uL Gl Gf Gp Gn
 obtain ⟨CP,CO,zG,Gh⟩:=iD.out.jE rfl
 obtain ⟨PV,PU,PS,PO⟩:=vJ.out.jE rfl
 obtain ⟨PD,Pz,Py,Px⟩:=HR2.out.jE rfl
 obtain ⟨Qc,Qb,Qa,P9⟩:=vJ.out.CG
 obtain ⟨P7,P6,P5,PZ⟩:=HR2.out.CG
 go_wp2_with fail
 refine (Qw (by have h0:=nI.out;simp only [cu,Pr,Sl,I,Bo,atom] at h0 ⊢;omega) ((pI.out.below aC (HB2.out.setCell (p:=⟨W.heap.size+1+1,1,none⟩) (by show W.heap.size≤W.heap.size+1+1;omega) (.slice iJ L1.length iI))).more aC (by have h0:=hz2;first | omega | (simp;omega)))).mono ?_
 intro e w3 h
 obtain ⟨j3,jZ,rfl,Bc,hb⟩:=bL h
 have hP:aO w3 (W.heap.size) 26 #[.slice a0 L0.length c0,.slice a1 L1.length c1,.slice a2 L2.length c2,.int .i64 x3]:=aO.call (aO.far (b:=W.heap.size+1+1) (o:=1) iD.out (by omega) (.slice iJ L1.length iI)) hb
 have hR:aO w3 (W.heap.size+1) 39 #[.slice none 0 0,.slice none 0 0,.slice none 0 0,.int .i64 0]:=aO.call (aO.far (b:=W.heap.size+1+1) (o:=1) HR2.out (by omega) (.slice iJ L1.length iI)) hb
 have hO:aO w3 (W.heap.size+1+1) 39 #[.slice fu L0.length fq,.slice iJ L1.length iI,.slice none 0 0,.int .i64 0]:=aO.call (aO.set vJ.out 1 (.slice iJ L1.length iI)) hb
 have hz3:W.heap.size+3≤w3.heap.size:=eF hz2 (bP hb (S:=fun x=>x<W.heap.size+3) ((Off.refl (fun x=>x<W.heap.size+3) w2).setCell (p:=⟨W.heap.size+1+1,1,none⟩) (by show W.heap.size+1+1<W.heap.size+3;omega) (.slice iJ L1.length iI)))
 have kN:=ak (kN.out.keep (aZ au) (fun k hk=>eP hb (S:=fun x=>x<W.heap.size+3) ((Off.refl (fun x=>x<W.heap.size+3) w2).setCell (p:=⟨W.heap.size+1+1,1,none⟩) (by show W.heap.size+1+1<W.heap.size+3;omega) (.slice iJ L1.length iI)) k (dR.out k hk).2 (by have:=(dR.out k hk).1;omega)))
 have qV:=ak (qV.out.keep aG (fun k hk=>eP hb (S:=fun x=>x<W.heap.size+3) ((Off.refl (fun x=>x<W.heap.size+3) w2).setCell (p:=⟨W.heap.size+1+1,1,none⟩) (by show W.heap.size+1+1<W.heap.size+3;omega) (.slice iJ L1.length iI)) k (gQ.out k hk).2 (by have:=(gQ.out k hk).1;omega)))
 have dR:=ak (fun k hk=>(⟨(dR.out k hk).1,bV (dR.out k hk).2 (bP hb (S:=fun x=>x<W.heap.size+3) ((Off.refl (fun x=>x<W.heap.size+3) w2).setCell (p:=⟨W.heap.size+1+1,1,none⟩) (by show W.heap.size+1+1<W.heap.size+3;omega) (.slice iJ L1.length iI)))⟩:W.heap.size+3≤k∧k<w3.heap.size))
 have gQ:=ak (fun k hk=>(⟨(gQ.out k hk).1,bV (gQ.out k hk).2 (bP hb (S:=fun x=>x<W.heap.size+3) ((Off.refl (fun x=>x<W.heap.size+3) w2).setCell (p:=⟨W.heap.size+1+1,1,none⟩) (by show W.heap.size+1+1<W.heap.size+3;omega) (.slice iJ L1.length iI)))⟩:W.heap.size+3≤k∧k<w3.heap.size))
 have HB3:=ak (Below.trans (B:=W.heap.size) (a:=W) (HB2.out.setCell (p:=⟨W.heap.size+1+1,1,none⟩) (by show W.heap.size≤W.heap.size+1+1;omega) (.slice iJ L1.length iI)) (hb.mono (by have h0:=hz2;first | omega | (simp;omega))))
 have vX:=ak Bc
 have iZ:=ak (fun k hk=>eH hb (m:=W.heap.size+3) (by have h0:=hz2;first | omega | (simp;omega)) k hk)
 have Nj:=ak (eH hb (m:=0) (dV _))
 have abj:=ak (Du hb ((Off.refl (fun x=>x<W.heap.size+3) w2).setCell (p:=⟨W.heap.size+1+1,1,none⟩) (by show W.heap.size+1+1<W.heap.size+3;omega) (.slice iJ L1.length iI)))
 have hle3:=bP hb ((Off.refl (fun x=>x<W.heap.size+3) w2).setCell (p:=⟨W.heap.size+1+1,1,none⟩) (by show W.heap.size+1+1<W.heap.size+3;omega) (.slice iJ L1.length iI))
 have iG:=ak hP
 have HR3:=ak hR
 have MX:=ak hO
 clear h hb hP hR hO Bc
 clear CP PV PD Qc P7 CO PU Pz Qb P6 zG PS Py Qa P5 Gh PO Px P9 PZ
 obtain ⟨EC,EB,EA,YJ⟩:=iG.out.jE rfl
 obtain ⟨o3_0,o3_1,o3_2,o3_3⟩:=MX.out.jE rfl
 obtain ⟨r3_0,r3_1,r3_2,r3_3⟩:=HR3.out.jE rfl
 obtain ⟨f3_0,f3_1,f3_2,f3_3⟩:=MX.out.CG
 obtain ⟨g3_0,g3_1,g3_2,g3_3⟩:=HR3.out.CG
 go_wp2
 refine qC (v:=.agg #[.slice fu L0.length fq,.slice iJ L1.length iI,.slice j3 L2.length jZ,.int .i64 x3]) (by simp [results,Tryz.results32,go_sem, *]) rfl ⟨[.slice fu L0.length fq,.slice iJ L1.length iI,.slice j3 L2.length jZ,.int .i64 x3],rfl,?_,((((((HB3.out.setCell (p:=⟨W.heap.size+1+1,2,none⟩) (by show W.heap.size≤W.heap.size+1+1;omega) (.slice j3 L2.length jZ)).setCell (p:=⟨W.heap.size+1+1,3,none⟩) (by show W.heap.size≤W.heap.size+1+1;omega) (.int .i64 x3)).setCell (p:=⟨W.heap.size+1,0,none⟩) (by show W.heap.size≤W.heap.size+1;omega) (.slice fu L0.length fq)).setCell (p:=⟨W.heap.size+1,1,none⟩) (by show W.heap.size≤W.heap.size+1;omega) (.slice iJ L1.length iI)).setCell (p:=⟨W.heap.size+1,2,none⟩) (by show W.heap.size≤W.heap.size+1;omega) (.slice j3 L2.length jZ)).setCell (p:=⟨W.heap.size+1,3,none⟩) (by show W.heap.size≤W.heap.size+1;omega) (.int .i64 x3))⟩
 have hoff:=(((((((Off.refl (fun x=>x<W.heap.size+3) w3).setCell (p:=⟨W.heap.size+1+1,2,none⟩) (by show W.heap.size+1+1<W.heap.size+3;omega) (.slice j3 L2.length jZ)).setCell (p:=⟨W.heap.size+1+1,3,none⟩) (by show W.heap.size+1+1<W.heap.size+3;omega) (.int .i64 x3)).setCell (p:=⟨W.heap.size+1,0,none⟩) (by show W.heap.size+1<W.heap.size+3;omega) (.slice fu L0.length fq)).setCell (p:=⟨W.heap.size+1,1,none⟩) (by show W.heap.size+1<W.heap.size+3;omega) (.slice iJ L1.length iI)).setCell (p:=⟨W.heap.size+1,2,none⟩) (by show W.heap.size+1<W.heap.size+3;omega) (.slice j3 L2.length jZ)).setCell (p:=⟨W.heap.size+1,3,none⟩) (by show W.heap.size+1<W.heap.size+3;omega) (.int .i64 x3))
 have hsz:=hoff.size
 exact nY (fun k hk=>⟨by have:=(dR.out k hk).1;omega,by have:=(dR.out k hk).2;omega⟩) (fun k hk=>⟨by have:=(gQ.out k hk).1;omega,by have:=(gQ.out k hk).2;omega⟩) (fun k hk=>⟨by have:=(iZ.out k hk).1;omega,by have:=(iZ.out k hk).2;omega⟩) (fun k h h'=>by have h1:=(yN.out k h).2;have h2:=aef.out k h';omega) (fun k h h'=>by have h1:=(yN.out k h).2;have h2:=abj.out k h';omega) (fun k h h'=>by have h1:=(GL.out k h).2;have h2:=abj.out k h';omega) (kN.out.keep (aZ au) (fun k hk=>hoff.block k (dR.out k hk).2 (by have:=(dR.out k hk).1;omega))) (qV.out.keep aG (fun k hk=>hoff.block k (gQ.out k hk).2 (by have:=(gQ.out k hk).1;omega))) (vX.out.keep aC (fun k hk=>hoff.block k (iZ.out k hk).2 (by have:=(iZ.out k hk).1;omega)))
theorem eq_Pair {x0:Int}{x1:Int}{x2:Int}{x3:Int}{x4:Int}   {W:World}:Calls Tryz.prog 146 #[.agg #[.int .i64 x0,.int .i64 x1,.int .i64 x2,.int .i64 x3,.int .i64 x4],.agg #[.int .i64 x0,.int .i64 x1,.int .i64 x2,.int .i64 x3,.int .i64 x4]] W (sS true W):=by
 have HB0:=ak (show Below W.heap.size W ((W.alloc (.cells #[.int .i64 x0,.int .i64 x1,.int .i64 x2,.int .i64 x3,.int .i64 x4] 176)).alloc (.cells #[.int .i64 x0,.int .i64 x1,.int .i64 x2,.int .i64 x3,.int .i64 x4] 176)) from ((aW _ _).alloc (bK _) _).alloc (by simp) _)
 have hP:=(aO.new W 176 #[.int .i64 x0,.int .i64 x1,.int .i64 x2,.int .i64 x3,.int .i64 x4]).alloc (.cells #[.int .i64 x0,.int .i64 x1,.int .i64 x2,.int .i64 x3,.int .i64 x4] 176)
 have hQ:=aO.new (W.alloc (.cells #[.int .i64 x0,.int .i64 x1,.int .i64 x2,.int .i64 x3,.int .i64 x4] 176)) 176 #[.int .i64 x0,.int .i64 x1,.int .i64 x2,.int .i64 x3,.int .i64 x4]
 simp only [World.size_alloc] at hP hQ
 have gY:=ak hP
 have Dp:=ak hQ
 have hz0:W.heap.size≤((W.alloc (.cells #[.int .i64 x0,.int .i64 x1,.int .i64 x2,.int .i64 x3,.int .i64 x4] 176)).alloc (.cells #[.int .i64 x0,.int .i64 x1,.int .i64 x2,.int .i64 x3,.int .i64 x4] 176)).heap.size:=HB0.out.size
 clear hP hQ
 go_enter Tryz.func146,Tryz.ntmps146
 go_wp2_with fail
 refine (eq_Label).mono ?_
 intro e w1 h
 obtain ⟨rfl,hb⟩:=bU h
 have cZ:=ak (gY.out.call hb)
 have nJ:=ak (Dp.out.call hb)
 have HB1:=ak (HB0.out.trans (hb.mono hz0))
 have hz1:W.heap.size≤w1.heap.size:=HB1.out.size
 clear h hb
 have ou:=cZ.out.at_ 2 rfl
 have uL:=cZ.out.at_ 3 rfl
 have zH:=cZ.out.at_ 4 rfl
 have Ke:=nJ.out.at_ 2 rfl
 have PE:=nJ.out.at_ 3 rfl
 have SB:=nJ.out.at_ 4 rfl
 go_wp2_with fail
 refine (eq_Label).mono ?_
 intro e w2 h
 obtain ⟨rfl,hb⟩:=bU h
 have iD:=ak (cZ.out.call hb)
 have xH:=ak (nJ.out.call hb)
 have HB2:=ak (HB1.out.trans (hb.mono hz1))
 have hz2:W.heap.size≤w2.heap.size:=HB2.out.size
 clear h hb
 clear ou Ke uL PE zH SB
 have PK:=iD.out.at_ 4 rfl
 have q2_4:=xH.out.at_ 4 rfl
 go_wp2
 all_goals
  go_ret
  exact ⟨rfl,HB2.out⟩
theorem fZ:(aT).size=5:=rfl
theorem eq_PairS {L:List (bA)}{a a':Option Addr}{cap cap':Nat}{W:World}(h:aJ aT W W.heap.size L a cap)(h':aJ aT W W.heap.size L a' cap'):Calls Tryz.prog 82 #[.slice a L.length cap,.slice a' L.length cap'] W (sS true W):=by
 have hn:L.length≤9223372036854775807:=by have h1:=h.1;have h2:=h.2.1;unfold maxLen at h2;omega
 have H:=ak h
 have H':=ak h'
 clear h h'
 go_enter Tryz.func82,Tryz.ntmps82
 go_wp2
 go_loopw [5] (fun i wr=>∃ k:Nat,k≤L.length∧i=.int .i64 k∧Below W.heap.size W wr) (fun i _=>L.length-(intOf i).toNat)
 case atStart=>exact ⟨0,dV _,rfl,aW _ _⟩
 case round=>
  obtain ⟨k,hk,rfl,hB⟩:=hrel
  have HB:=ak hB
  have hsz:=hB.size
  by_cases hlt:k<L.length
  ·obtain ⟨⟨⟨x0,x1⟩,⟨x2,x3⟩,x4⟩,hx⟩:=aM hlt
   have HX:=ak hx
   obtain ⟨g,o,us,rfl,hg,hu,hr⟩:=(H.out.below aG hB).at_ hx
   obtain ⟨g',o',vs,rfl,hg',hu',hr'⟩:=(H'.out.below aG hB).at_ hx
   obtain rfl:=lC hr
   obtain rfl:=lC hr'
   have e0:wr.cell? ⟨g,o+k*5,none⟩=some (.int .i64 x0):=by simpa [fZ,Nat.add_assoc] using hu 0 _ rfl
   have d0:wr.cell? ⟨g',o'+k*5,none⟩=some (.int .i64 x0):=by simpa [fZ,Nat.add_assoc] using hu' 0 _ rfl
   have e1:wr.cell? ⟨g,o+k*5+1,none⟩=some (.int .i64 x1):=by simpa [fZ,Nat.add_assoc] using hu 1 _ rfl
   have d1:wr.cell? ⟨g',o'+k*5+1,none⟩=some (.int .i64 x1):=by simpa [fZ,Nat.add_assoc] using hu' 1 _ rfl
   have e2:wr.cell? ⟨g,o+k*5+2,none⟩=some (.int .i64 x2):=by simpa [fZ,Nat.add_assoc] using hu 2 _ rfl
   have d2:wr.cell? ⟨g',o'+k*5+2,none⟩=some (.int .i64 x2):=by simpa [fZ,Nat.add_assoc] using hu' 2 _ rfl
   have e3:wr.cell? ⟨g,o+k*5+3,none⟩=some (.int .i64 x3):=by simpa [fZ,Nat.add_assoc] using hu 3 _ rfl
   have d3:wr.cell? ⟨g',o'+k*5+3,none⟩=some (.int .i64 x3):=by simpa [fZ,Nat.add_assoc] using hu' 3 _ rfl
   have e4:wr.cell? ⟨g,o+k*5+4,none⟩=some (.int .i64 x4):=by simpa [fZ,Nat.add_assoc] using hu 4 _ rfl
   have d4:wr.cell? ⟨g',o'+k*5+4,none⟩=some (.int .i64 x4):=by simpa [fZ,Nat.add_assoc] using hu' 4 _ rfl
   have hi0:(0:Int)≤(k:Int):=eu _
   have hi1:(k:Int)<(L.length:Int):=by omega
   have hgl:g<wr.heap.size:=bV hg hsz
   have ig:g'<wr.heap.size:=bV hg' hsz
   clear hB hx hu hu'
   go_wp2_with fail
   refine dX (S:=(fun W=>W.cell? ⟨g,o+k*5,none⟩=some (.int .i64 x0)∧W.cell? ⟨g,o+k*5+1,none⟩=some (.int .i64 x1)∧W.cell? ⟨g,o+k*5+2,none⟩=some (.int .i64 x2)∧W.cell? ⟨g,o+k*5+3,none⟩=some (.int .i64 x3)∧W.cell? ⟨g,o+k*5+4,none⟩=some (.int .i64 x4)∧W.cell? ⟨g',o'+k*5,none⟩=some (.int .i64 x0)∧W.cell? ⟨g',o'+k*5+1,none⟩=some (.int .i64 x1)∧W.cell? ⟨g',o'+k*5+2,none⟩=some (.int .i64 x2)∧W.cell? ⟨g',o'+k*5+3,none⟩=some (.int .i64 x3)∧W.cell? ⟨g',o'+k*5+4,none⟩=some (.int .i64 x4)∧wr.heap.size≤W.heap.size∧Below wr.heap.size wr W)) (by kernel_rfl) (⟨e0,e1,e2,e3,e4,d0,d1,d2,d3,d4,bK _,(aW _ _).drew⟩) (fun ah=>?_)
   refine wpAnyH_take (i:=0) (v:=?hv1) rfl (by kernel_rfl) (by kernel_rfl) (by kernel_rfl) (fun _ _ _ h=>h) (Or.inl ⟨by kernel_rfl,?hy1⟩) ah ?hr1
   case hy1=>(intro w aj;(try dsimp only at aj);go_simp;try with_reducible rfl)
   refine wpAnyH_take (i:=1) (v:=?hv2) rfl (by kernel_rfl) (by kernel_rfl) (by kernel_rfl) (fun _ _ _ h=>h) (Or.inl ⟨by kernel_rfl,?hy2⟩) ah ?hr2
   case hy2=>(intro w aj;(try dsimp only at aj);go_simp;try with_reducible rfl)
   refine wpAnyH_take (i:=2) (v:=?hv3) rfl (by kernel_rfl) (by kernel_rfl) (by kernel_rfl) (fun _ _ _ h=>h) (Or.inl ⟨by kernel_rfl,?hy3⟩) ah ?hr3
   case hy3=>(intro w aj;(try dsimp only at aj);go_simp;try with_reducible rfl)
   refine wpAnyH_take (i:=3) (v:=?hv4) rfl (by kernel_rfl) (by kernel_rfl) (by kernel_rfl) (fun _ _ _ h=>h) (Or.inl ⟨by kernel_rfl,?hy4⟩) ah ?hr4
   case hy4=>(intro w aj;(try dsimp only at aj);go_simp;try with_reducible rfl)
   refine wpAnyH_take (i:=4) (v:=?hv5) rfl (by kernel_rfl) (by kernel_rfl) (by kernel_rfl) (fun _ _ _ h=>h) (Or.inl ⟨by kernel_rfl,?XD⟩) ah ?hr5
   case XD=>(intro w aj;(try dsimp only at aj);go_simp;try with_reducible rfl)
   refine wpAnyH_take (i:=5) (v:=?hv6) rfl (by kernel_rfl) (by kernel_rfl) (by kernel_rfl) (fun _ _ _ h=>h) (Or.inl ⟨by kernel_rfl,?XC⟩) ah ?hr6
   case XC=>(intro w aj;(try dsimp only at aj);go_simp;try with_reducible rfl)
   refine wpAnyH_take (i:=6) (v:=?hv7) rfl (by kernel_rfl) (by kernel_rfl) (by kernel_rfl) (fun _ _ _ h=>h) (Or.inl ⟨by kernel_rfl,?XB⟩) ah ?hr7
   case XB=>(intro w aj;(try dsimp only at aj);go_simp;try with_reducible rfl)
   refine wpAnyH_take (i:=7) (v:=?hv8) rfl (by kernel_rfl) (by kernel_rfl) (by kernel_rfl) (fun _ _ _ h=>h) (Or.inl ⟨by kernel_rfl,?XA⟩) ah ?hr8
   case XA=>(intro w aj;(try dsimp only at aj);go_simp;try with_reducible rfl)
   refine dw 8 (fun K hK=>?_)
   go_simp
   refine (eq_Pair).mono ?_
   intro e w1 h
   obtain ⟨rfl,hb⟩:=bU h
   refine hK.out _ _ (⟨(hb.cell (p:=⟨g,o+k*5,none⟩) (bV hgl (iX ah).1)).trans ah.1,(hb.cell (p:=⟨g,o+k*5+1,none⟩) (bV hgl (iX ah).1)).trans ah.2.1,(hb.cell (p:=⟨g,o+k*5+2,none⟩) (bV hgl (iX ah).1)).trans ah.2.2.1,(hb.cell (p:=⟨g,o+k*5+3,none⟩) (bV hgl (iX ah).1)).trans ah.2.2.2.1,(hb.cell (p:=⟨g,o+k*5+4,none⟩) (bV hgl (iX ah).1)).trans ah.2.2.2.2.1,(hb.cell (p:=⟨g',o'+k*5,none⟩) (bV ig (iX ah).1)).trans ah.2.2.2.2.2.1,(hb.cell (p:=⟨g',o'+k*5+1,none⟩) (bV ig (iX ah).1)).trans ah.2.2.2.2.2.2.1,(hb.cell (p:=⟨g',o'+k*5+2,none⟩) (bV ig (iX ah).1)).trans (Gg ah).1,(hb.cell (p:=⟨g',o'+k*5+3,none⟩) (bV ig (iX ah).1)).trans (qG ah).1,(hb.cell (p:=⟨g',o'+k*5+4,none⟩) (bV ig (iX ah).1)).trans (kZ ah).1,eF (iX ah).1 hb.size,(TP ah).trans (hb.mono (iX ah).1)⟩) (fun ah=>?_)
   clear hK K h
   refine tk 9 ah ?_
   refine dQ ?_
   have HB2:=ak (HB.out.trans ((TP ah).mono hsz))
   clear ah
   go_wp2
   go_roundw
   case rel=>exact ⟨k+1,by omega,by go_num,HB2.out⟩
   case measure=>simp [intOf];omega
  ·clear hB
   go_wp2
   go_ret
   exact ⟨rfl,HB.out⟩
theorem eq_Quota {x0:Int}{x1:Int}{x2:Int}   {W:World}:Calls Tryz.prog 147 #[.agg #[.int .i64 x0,.int .i64 x1,.int .i64 x2],.agg #[.int .i64 x0,.int .i64 x1,.int .i64 x2]] W (sS true W):=by
 have HB0:=ak (show Below W.heap.size W ((W.alloc (.cells #[.int .i64 x0,.int .i64 x1,.int .i64 x2] 181)).alloc (.cells #[.int .i64 x0,.int .i64 x1,.int .i64 x2] 181)) from ((aW _ _).alloc (bK _) _).alloc (by simp) _)
 have hP:=(aO.new W 181 #[.int .i64 x0,.int .i64 x1,.int .i64 x2]).alloc (.cells #[.int .i64 x0,.int .i64 x1,.int .i64 x2] 181)
 have hQ:=aO.new (W.alloc (.cells #[.int .i64 x0,.int .i64 x1,.int .i64 x2] 181)) 181 #[.int .i64 x0,.int .i64 x1,.int .i64 x2]
 simp only [World.size_alloc] at hP hQ
 have gY:=ak hP
 have Dp:=ak hQ
 have hz0:W.heap.size≤((W.alloc (.cells #[.int .i64 x0,.int .i64 x1,.int .i64 x2] 181)).alloc (.cells #[.int .i64 x0,.int .i64 x1,.int .i64 x2] 181)).heap.size:=HB0.out.size
 clear hP hQ
 go_enter Tryz.func147,Tryz.ntmps147
 go_wp2_with fail
 refine (eq_Label).mono ?_
 intro e w1 h
 obtain ⟨rfl,hb⟩:=bU h
 have cZ:=ak (gY.out.call hb)
 have nJ:=ak (Dp.out.call hb)
 have HB1:=ak (HB0.out.trans (hb.mono hz0))
 have hz1:W.heap.size≤w1.heap.size:=HB1.out.size
 clear h hb
 have ou:=cZ.out.at_ 2 rfl
 have Ke:=nJ.out.at_ 2 rfl
 go_wp2
 all_goals
  go_ret
  exact ⟨rfl,HB1.out⟩
theorem jB:(aN).size=3:=rfl
theorem eq_QuotaS {L:List (aX)}{a a':Option Addr}{cap cap':Nat}{W:World}(h:aJ aN W W.heap.size L a cap)(h':aJ aN W W.heap.size L a' cap'):Calls Tryz.prog 83 #[.slice a L.length cap,.slice a' L.length cap'] W (sS true W):=by
 have hn:L.length≤9223372036854775807:=by have h1:=h.1;have h2:=h.2.1;unfold maxLen at h2;omega
 have H:=ak h
 have H':=ak h'
 clear h h'
 go_enter Tryz.func83,Tryz.ntmps83
 go_wp2
 go_loopw [5] (fun i wr=>∃ k:Nat,k≤L.length∧i=.int .i64 k∧Below W.heap.size W wr) (fun i _=>L.length-(intOf i).toNat)
 case atStart=>exact ⟨0,dV _,rfl,aW _ _⟩
 case round=>
  obtain ⟨k,hk,rfl,hB⟩:=hrel
  have HB:=ak hB
  have hsz:=hB.size
  by_cases hlt:k<L.length
  ·obtain ⟨⟨⟨x0,x1⟩,x2⟩,hx⟩:=aM hlt
   have HX:=ak hx
   obtain ⟨g,o,us,rfl,hg,hu,hr⟩:=(H.out.below aC hB).at_ hx
   obtain ⟨g',o',vs,rfl,hg',hu',hr'⟩:=(H'.out.below aC hB).at_ hx
   obtain rfl:=jm hr
   obtain rfl:=jm hr'
   have e0:wr.cell? ⟨g,o+k*3,none⟩=some (.int .i64 x0):=by simpa [jB,Nat.add_assoc] using hu 0 _ rfl
   have d0:wr.cell? ⟨g',o'+k*3,none⟩=some (.int .i64 x0):=by simpa [jB,Nat.add_assoc] using hu' 0 _ rfl
   have e1:wr.cell? ⟨g,o+k*3+1,none⟩=some (.int .i64 x1):=by simpa [jB,Nat.add_assoc] using hu 1 _ rfl
   have d1:wr.cell? ⟨g',o'+k*3+1,none⟩=some (.int .i64 x1):=by simpa [jB,Nat.add_assoc] using hu' 1 _ rfl
   have e2:wr.cell? ⟨g,o+k*3+2,none⟩=some (.int .i64 x2):=by simpa [jB,Nat.add_assoc] using hu 2 _ rfl
   have d2:wr.cell? ⟨g',o'+k*3+2,none⟩=some (.int .i64 x2):=by simpa [jB,Nat.add_assoc] using hu' 2 _ rfl
   have hi0:(0:Int)≤(k:Int):=eu _
   have hi1:(k:Int)<(L.length:Int):=by omega
   have hgl:g<wr.heap.size:=bV hg hsz
   have ig:g'<wr.heap.size:=bV hg' hsz
   clear hB hx hu hu'
   go_wp2_with fail
   refine dX (S:=(fun W=>W.cell? ⟨g,o+k*3,none⟩=some (.int .i64 x0)∧W.cell? ⟨g,o+k*3+1,none⟩=some (.int .i64 x1)∧W.cell? ⟨g,o+k*3+2,none⟩=some (.int .i64 x2)∧W.cell? ⟨g',o'+k*3,none⟩=some (.int .i64 x0)∧W.cell? ⟨g',o'+k*3+1,none⟩=some (.int .i64 x1)∧W.cell? ⟨g',o'+k*3+2,none⟩=some (.int .i64 x2)∧wr.heap.size≤W.heap.size∧Below wr.heap.size wr W)) (by kernel_rfl) (⟨e0,e1,e2,d0,d1,d2,bK _,(aW _ _).drew⟩) (fun ah=>?_)
   refine wpAnyH_take (i:=0) (v:=?hv10) rfl (by kernel_rfl) (by kernel_rfl) (by kernel_rfl) (fun _ _ _ h=>h) (Or.inl ⟨by kernel_rfl,?Tc⟩) ah ?hr10
   case Tc=>(intro w aj;(try dsimp only at aj);go_simp;try with_reducible rfl)
   refine wpAnyH_take (i:=1) (v:=?hv11) rfl (by kernel_rfl) (by kernel_rfl) (by kernel_rfl) (fun _ _ _ h=>h) (Or.inl ⟨by kernel_rfl,?Ta⟩) ah ?hr11
   case Ta=>(intro w aj;(try dsimp only at aj);go_simp;try with_reducible rfl)
   refine wpAnyH_take (i:=2) (v:=?hv12) rfl (by kernel_rfl) (by kernel_rfl) (by kernel_rfl) (fun _ _ _ h=>h) (Or.inl ⟨by kernel_rfl,?S9⟩) ah ?hr12
   case S9=>(intro w aj;(try dsimp only at aj);go_simp;try with_reducible rfl)
   refine wpAnyH_take (i:=3) (v:=?hv13) rfl (by kernel_rfl) (by kernel_rfl) (by kernel_rfl) (fun _ _ _ h=>h) (Or.inl ⟨by kernel_rfl,?SY⟩) ah ?hr13
   case SY=>(intro w aj;(try dsimp only at aj);go_simp;try with_reducible rfl)
   refine wpAnyH_take (i:=4) (v:=?hv14) rfl (by kernel_rfl) (by kernel_rfl) (by kernel_rfl) (fun _ _ _ h=>h) (Or.inl ⟨by kernel_rfl,?SX⟩) ah ?hr14
   case SX=>(intro w aj;(try dsimp only at aj);go_simp;try with_reducible rfl)
   refine wpAnyH_take (i:=5) (v:=?hv15) rfl (by kernel_rfl) (by kernel_rfl) (by kernel_rfl) (fun _ _ _ h=>h) (Or.inl ⟨by kernel_rfl,?SV⟩) ah ?hr15
   case SV=>(intro w aj;(try dsimp only at aj);go_simp;try with_reducible rfl)
   refine wpAnyH_take (i:=6) (v:=?hv16) rfl (by kernel_rfl) (by kernel_rfl) (by kernel_rfl) (fun _ _ _ h=>h) (Or.inl ⟨by kernel_rfl,?SS⟩) ah ?hr16
   case SS=>(intro w aj;(try dsimp only at aj);go_simp;try with_reducible rfl)
   refine wpAnyH_take (i:=7) (v:=?hv17) rfl (by kernel_rfl) (by kernel_rfl) (by kernel_rfl) (fun _ _ _ h=>h) (Or.inl ⟨by kernel_rfl,?SQ⟩) ah ?hr17
   case SQ=>(intro w aj;(try dsimp only at aj);go_simp;try with_reducible rfl)
   refine dw 8 (fun K hK=>?_)
   go_simp
   refine (eq_Quota).mono ?_
   intro e w1 h
   obtain ⟨rfl,hb⟩:=bU h
   refine hK.out _ _ (⟨(hb.cell (p:=⟨g,o+k*3,none⟩) (bV hgl ah.2.2.2.2.2.2.1)).trans ah.1,(hb.cell (p:=⟨g,o+k*3+1,none⟩) (bV hgl ah.2.2.2.2.2.2.1)).trans ah.2.1,(hb.cell (p:=⟨g,o+k*3+2,none⟩) (bV hgl ah.2.2.2.2.2.2.1)).trans ah.2.2.1,(hb.cell (p:=⟨g',o'+k*3,none⟩) (bV ig ah.2.2.2.2.2.2.1)).trans ah.2.2.2.1,(hb.cell (p:=⟨g',o'+k*3+1,none⟩) (bV ig ah.2.2.2.2.2.2.1)).trans ah.2.2.2.2.1,(hb.cell (p:=⟨g',o'+k*3+2,none⟩) (bV ig ah.2.2.2.2.2.2.1)).trans ah.2.2.2.2.2.1,eF ah.2.2.2.2.2.2.1 hb.size,(Gg ah).trans (hb.mono ah.2.2.2.2.2.2.1)⟩) (fun ah=>?_)
   clear hK K h
   refine wpAnyH_take (i:=9) (v:=?hv18) rfl (by kernel_rfl) (by kernel_rfl) (by kernel_rfl) (fun _ _ _ h=>h) (Or.inl ⟨by kernel_rfl,?SL⟩) ah ?hr18
   case SL=>(intro w aj;(try dsimp only at aj);go_simp;try with_reducible rfl)
   refine dQ ?_
   have HB2:=ak (HB.out.trans ((Gg ah).mono hsz))
   clear ah
   go_wp2
   go_roundw
   case rel=>exact ⟨k+1,by omega,by go_num,HB2.out⟩
   case measure=>simp [intOf];omega
  ·clear hB
   go_wp2
   go_ret
   exact ⟨rfl,HB.out⟩
theorem eq_Config {L0:List (List (ay))}{L1:List (bA)}{L2:List (aX)}{x3:Int}{a0:Option Addr}{c0:Nat}{a1:Option Addr}{c1:Nat}{a2:Option Addr}{c2:Nat}{a0':Option Addr}{c0':Nat}{a1':Option Addr}{c1':Nat}{Cx:Option Addr}{c2':Nat}{W:World}(dP:aJ (Sl av) W W.heap.size L0 a0 c0)(gN:aJ aT W W.heap.size L1 a1 c1)(gM:aJ aN W W.heap.size L2 a2 c2)(nL:aJ (Sl av) W W.heap.size L0 a0' c0')(yK:aJ aT W W.heap.size L1 a1' c1')(yJ:aJ aN W W.heap.size L2 Cx c2'):Calls Tryz.prog 39 #[.agg #[.slice a0 L0.length c0,.slice a1 L1.length c1,.slice a2 L2.length c2,.int .i64 x3],.agg #[.slice a0' L0.length c0',.slice a1' L1.length c1',.slice Cx L2.length c2',.int .i64 x3]] W (sS true W):=by
 have jJ:=ak dP
 have vZ:=ak nL
 have pJ:=ak gN
 have GX:=ak yK
 have pI:=ak gM
 have GV:=ak yJ
 clear dP nL gN yK gM yJ
 have HB0:=ak (show Below W.heap.size W ((W.alloc (.cells #[.slice a0 L0.length c0,.slice a1 L1.length c1,.slice a2 L2.length c2,.int .i64 x3] 39)).alloc (.cells #[.slice a0' L0.length c0',.slice a1' L1.length c1',.slice Cx L2.length c2',.int .i64 x3] 39)) from ((aW _ _).alloc (bK _) _).alloc (by simp) _)
 have hP:=(aO.new W 39 #[.slice a0 L0.length c0,.slice a1 L1.length c1,.slice a2 L2.length c2,.int .i64 x3]).alloc (.cells #[.slice a0' L0.length c0',.slice a1' L1.length c1',.slice Cx L2.length c2',.int .i64 x3] 39)
 have hQ:=aO.new (W.alloc (.cells #[.slice a0 L0.length c0,.slice a1 L1.length c1,.slice a2 L2.length c2,.int .i64 x3] 39)) 39 #[.slice a0' L0.length c0',.slice a1' L1.length c1',.slice Cx L2.length c2',.int .i64 x3]
 simp only [World.size_alloc] at hP hQ
 have gY:=ak hP
 have Dp:=ak hQ
 have hz0:W.heap.size≤((W.alloc (.cells #[.slice a0 L0.length c0,.slice a1 L1.length c1,.slice a2 L2.length c2,.int .i64 x3] 39)).alloc (.cells #[.slice a0' L0.length c0',.slice a1' L1.length c1',.slice Cx L2.length c2',.int .i64 x3] 39)).heap.size:=HB0.out.size
 clear hP hQ
 go_enter Tryz.func39,Tryz.ntmps39
 go_wp2_with fail
 refine (eq_LabelSS ((jJ.out.below (aZ au) HB0.out).more (aZ au) hz0) ((vZ.out.below (aZ au) HB0.out).more (aZ au) hz0)).mono ?_
 intro e w1 h
 obtain ⟨rfl,hb⟩:=bU h
 have cZ:=ak (gY.out.call hb)
 have nJ:=ak (Dp.out.call hb)
 have HB1:=ak (HB0.out.trans (hb.mono hz0))
 have hz1:W.heap.size≤w1.heap.size:=HB1.out.size
 clear h hb
 have qK:=cZ.out.at_ 1 rfl
 have ou:=cZ.out.at_ 2 rfl
 have uL:=cZ.out.at_ 3 rfl
 have q1_1:=nJ.out.at_ 1 rfl
 have Ke:=nJ.out.at_ 2 rfl
 have PE:=nJ.out.at_ 3 rfl
 go_wp2_with fail
 refine (eq_PairS ((pJ.out.below aG HB1.out).more aG hz1) ((GX.out.below aG HB1.out).more aG hz1)).mono ?_
 intro e w2 h
 obtain ⟨rfl,hb⟩:=bU h
 have iD:=ak (cZ.out.call hb)
 have xH:=ak (nJ.out.call hb)
 have HB2:=ak (HB1.out.trans (hb.mono hz1))
 have hz2:W.heap.size≤w2.heap.size:=HB2.out.size
 clear h hb
 clear qK q1_1 ou Ke uL PE
 have zG:=iD.out.at_ 2 rfl
 have Gh:=iD.out.at_ 3 rfl
 have q2_2:=xH.out.at_ 2 rfl
 have q2_3:=xH.out.at_ 3 rfl
 go_wp2_with fail
 refine (eq_QuotaS ((pI.out.below aC HB2.out).more aC hz2) ((GV.out.below aC HB2.out).more aC hz2)).mono ?_
 intro e w3 h
 obtain ⟨rfl,hb⟩:=bU h
 have iG:=ak (iD.out.call hb)
 have HQ3:=ak (xH.out.call hb)
 have HB3:=ak (HB2.out.trans (hb.mono hz2))
 have hz3:W.heap.size≤w3.heap.size:=HB3.out.size
 clear h hb
 clear zG q2_2 Gh q2_3
 have YJ:=iG.out.at_ 3 rfl
 have q3_3:=HQ3.out.at_ 3 rfl
 go_wp2
 all_goals
  go_ret
  exact ⟨rfl,HB3.out⟩
theorem qh (L:List (bA)):(Sl aT).sz L=L.length:=by
 have:bD (aT).sz L=0:=kC (fun _=>rfl) L
 simp only [Sl,this,Nat.add_zero]
theorem VF {L:List (bA)}{a:Option Addr}{cap:Nat}{W:World}{l:Int}(h0:0≤l)(h1:l≤1048576)(h:aJ aT W W.heap.size L a cap):Calls Tryz.prog 61 #[.slice a L.length cap,.int .i64 l] W (JN l ((Sl aT).sz L) W):=by
 have hn:L.length≤9223372036854775807:=by have h1:=h.1;have h2:=h.2.1;unfold maxLen at h2;omega
 rw [qh]
 clear h
 by_cases hf:(L.length:Int)≤l
 ·have HR:=ak (dL hf)
  go_enter Tryz.func61,Tryz.ntmps61
  go_wp2
  go_ret
  exact ⟨by first | (rw [HR.out];done) | (rw [HR.out];rfl),aW _ _⟩
 ·have HR:=ak (dI hf)
  go_enter Tryz.func61,Tryz.ntmps61
  go_wp2
  go_ret
  exact ⟨by first | (rw [HR.out];done) | (rw [HR.out];rfl),aW _ _⟩
theorem nZ (L:List (aX)):(Sl aN).sz L=L.length:=by
 have:bD (aN).sz L=0:=kC (fun _=>rfl) L
 simp only [Sl,this,Nat.add_zero]
theorem QE {L:List (aX)}{a:Option Addr}{cap:Nat}{W:World}{l:Int}(h0:0≤l)(h1:l≤1048576)(h:aJ aN W W.heap.size L a cap):Calls Tryz.prog 62 #[.slice a L.length cap,.int .i64 l] W (JN l ((Sl aN).sz L) W):=by
 have hn:L.length≤9223372036854775807:=by have h1:=h.1;have h2:=h.2.1;unfold maxLen at h2;omega
 rw [nZ]
 clear h
 by_cases hf:(L.length:Int)≤l
 ·have HR:=ak (dL hf)
  go_enter Tryz.func62,Tryz.ntmps62
  go_wp2
  go_ret
  exact ⟨by first | (rw [HR.out];done) | (rw [HR.out];rfl),aW _ _⟩
 ·have HR:=ak (dI hf)
  go_enter Tryz.func62,Tryz.ntmps62
  go_wp2
  go_ret
  exact ⟨by first | (rw [HR.out];done) | (rw [HR.out];rfl),aW _ _⟩
theorem pX {L0:List (List (ay))}{L1:List (bA)}{L2:List (aX)}{x3:Int}:cu.sz (L0,L1,L2,x3)=(((Sl (Sl av))).sz L0)+(((Sl aT)).sz L1)+(((Sl aN)).sz L2):=by
 simp only [cu,Pr,I,Bo,atom];omega
theorem QH {L0:List (List (ay))}{L1:List (bA)}{L2:List (aX)}{x3:Int}{a0:Option Addr}{c0:Nat}{a1:Option Addr}{c1:Nat}{a2:Option Addr}{c2:Nat}{W:World}{l:Int}(h0:0≤l)(h1:l≤1048576)(dP:aJ (Sl av) W W.heap.size L0 a0 c0)(gN:aJ aT W W.heap.size L1 a1 c1)(gM:aJ aN W W.heap.size L2 a2 c2):Calls Tryz.prog 24 #[.agg #[.slice a0 L0.length c0,.slice a1 L1.length c1,.slice a2 L2.length c2,.int .i64 x3],.int .i64 l] W (JN l (cu.sz (L0,L1,L2,x3)) W):=by
 have jJ:=ak dP
 have pJ:=ak gN
 have pI:=ak gM
 clear dP gN gM
 have HD:=ak (pX (L0:=L0) (L1:=L1) (L2:=L2) (x3:=x3))
 have HB0:=ak (show Below W.heap.size W (W.alloc (.cells #[.slice a0 L0.length c0,.slice a1 L1.length c1,.slice a2 L2.length c2,.int .i64 x3] 26)) from (aW _ _).alloc (bK _) _)
 have hP:=aO.new W 26 #[.slice a0 L0.length c0,.slice a1 L1.length c1,.slice a2 L2.length c2,.int .i64 x3]
 have gY:=ak hP
 have hz0:W.heap.size≤(W.alloc (.cells #[.slice a0 L0.length c0,.slice a1 L1.length c1,.slice a2 L2.length c2,.int .i64 x3] 26)).heap.size:=HB0.out.size
 clear hP
 obtain ⟨s0,hs0⟩:∃ s,s=(((Sl (Sl av))).sz L0):=⟨_,rfl⟩
 have zR:=ak hs0
 rw [←hs0] at HD
 clear hs0
 obtain ⟨s1,hs1⟩:∃ s,s=(((Sl aT)).sz L1):=⟨_,rfl⟩
 have zn:=ak hs1
 rw [←hs1] at HD
 clear hs1
 obtain ⟨s2,hs2⟩:∃ s,s=(((Sl aN)).sz L2):=⟨_,rfl⟩
 have HS2:=ak hs2
 rw [←hs2] at HD
 clear hs2
 go_enter Tryz.func24,Tryz.ntmps24
 go_wp2_with fail
 refine (KP (l:=l) (by omega) (by omega) ((jJ.out.below (aZ au) HB0.out).more (aZ au) hz0)).mono ?_
 intro e w1 h
 obtain ⟨rfl,hb⟩:=gD h
 rw [←zR.out]
 have cZ:=ak (gY.out.call hb)
 have HB1:=ak (HB0.out.trans (hb.mono hz0))
 have hz1:W.heap.size≤w1.heap.size:=HB1.out.size
 clear h hb
 obtain ⟨vK,qK,ou⟩:=cZ.out.pz rfl
 by_cases hf0:(s0:Int)≤l
 rotate_left
 ·rw [dI hf0]
  have HR:=ak (dI (l:=l) (s:=cu.sz (L0,L1,L2,x3)) (by rw [HD.out];omega))
  go_wp2
  go_ret
  exact ⟨by first | (rw [HR.out];done) | (rw [HR.out];rfl),HB1.out⟩
 rw [dL hf0]
 have Dw:(0:Int)≤l-(s0:Nat):=by omega
 go_wp2_with fail
 refine (VF (l:=l-(s0:Nat)) (by omega) (by omega) ((pJ.out.below aG HB1.out).more aG hz1)).mono ?_
 intro e w2 h
 obtain ⟨rfl,hb⟩:=gD h
 rw [←zn.out]
 have iD:=ak (cZ.out.call hb)
 have HB2:=ak (HB1.out.trans (hb.mono hz1))
 have hz2:W.heap.size≤w2.heap.size:=HB2.out.size
 clear h hb
 obtain ⟨CP,CO,zG⟩:=iD.out.pz rfl
 by_cases hf1:(s1:Int)≤l-(s0:Nat)
 rotate_left
 ·rw [dI hf1]
  have HR:=ak (dI (l:=l) (s:=cu.sz (L0,L1,L2,x3)) (by rw [HD.out];omega))
  go_wp2
  go_ret
  exact ⟨by first | (rw [HR.out];done) | (rw [HR.out];rfl),HB2.out⟩
 rw [dL hf1]
 have aaL:(0:Int)≤l-(s0:Nat)-(s1:Nat):=by omega
 go_wp2_with fail
 refine (QE (l:=l-(s0:Nat)-(s1:Nat)) (by omega) (by omega) ((pI.out.below aC HB2.out).more aC hz2)).mono ?_
 intro e w3 h
 obtain ⟨rfl,hb⟩:=gD h
 rw [←HS2.out]
 have iG:=ak (iD.out.call hb)
 have HB3:=ak (HB2.out.trans (hb.mono hz2))
 have hz3:W.heap.size≤w3.heap.size:=HB3.out.size
 clear h hb
 obtain ⟨EC,EB,EA⟩:=iG.out.pz rfl
 by_cases hf2:(s2:Int)≤l-(s0:Nat)-(s1:Nat)
 rotate_left
 ·rw [dI hf2]
  have HR:=ak (dI (l:=l) (s:=cu.sz (L0,L1,L2,x3)) (by rw [HD.out];omega))
  go_wp2
  go_ret
  exact ⟨by first | (rw [HR.out];done) | (rw [HR.out];rfl),HB3.out⟩
 rw [dL hf2]
 have Uk:(0:Int)≤l-(s0:Nat)-(s1:Nat)-(s2:Nat):=by omega
 have HR:=ak (dL (l:=l) (s:=cu.sz (L0,L1,L2,x3)) (by rw [HD.out];omega))
 go_wp2
 go_ret
 exact ⟨by rw [HR.out,HD.out];first | rfl | (simp;done) | (simp;omega),HB3.out⟩
theorem Wi {k:Int}:aT.mm ((k,k+1),(k+1+1,k+1+1+1),k+1+1+1+1) k (k+1+1+1+1+1):=by
 dsimp only [aT,av,Pr,I,atom,Sl]
 exact ⟨k+1+1,⟨k+1,⟨by omega,by omega⟩,⟨by omega,by omega⟩⟩,⟨k+1+1+1+1,⟨k+1+1+1,⟨by omega,by omega⟩,⟨by omega,by omega⟩⟩,⟨by omega,by omega⟩⟩⟩
theorem Wo {k k':Int}{x0:Int}{x1:Int}{x2:Int}{x3:Int}{x4:Int}(h:aT.mm ((x0,x1),(x2,x3),x4) k k'):x0=k∧x1=k+1∧x2=k+1+1∧x3=k+1+1+1∧x4=k+1+1+1+1∧k'=k+1+1+1+1+1:=by
 dsimp only [aT,av,Pr,I,atom,Sl] at h
 obtain ⟨z1,h1,g1⟩:=h
 obtain ⟨z2,h2,g2⟩:=h1
 obtain ⟨e0,f0⟩:=h2
 have e0:x0=_:=e0
 obtain ⟨e1,f1⟩:=g2
 have e1:x1=_:=e1
 obtain ⟨z3,h3,g3⟩:=g1
 obtain ⟨z4,h4,g4⟩:=h3
 obtain ⟨e2,f2⟩:=h4
 have e2:x2=_:=e2
 obtain ⟨e3,f3⟩:=g4
 have e3:x3=_:=e3
 obtain ⟨e4,f4⟩:=g3
 have e4:x4=_:=e4
 exact ⟨by omega,by omega,by omega,by omega,by omega,by omega⟩
theorem o7:Mn aT:=(jV eY (jV eY pG))
theorem Rc {k:Int}:aN.mm ((k,k+1),k+1+1) k (k+1+1+1):=by
 dsimp only [aN,av,Pr,I,atom,Sl]
 exact ⟨k+1+1,⟨k+1,⟨by omega,by omega⟩,⟨by omega,by omega⟩⟩,⟨by omega,by omega⟩⟩
theorem Rh {k k':Int}{x0:Int}{x1:Int}{x2:Int}(h:aN.mm ((x0,x1),x2) k k'):x0=k∧x1=k+1∧x2=k+1+1∧k'=k+1+1+1:=by
 dsimp only [aN,av,Pr,I,atom,Sl] at h
 obtain ⟨z1,h1,g1⟩:=h
 obtain ⟨z2,h2,g2⟩:=h1
 obtain ⟨e0,f0⟩:=h2
 have e0:x0=_:=e0
 obtain ⟨e1,f1⟩:=g2
 have e1:x1=_:=e1
 obtain ⟨e2,f2⟩:=g1
 have e2:x2=_:=e2
 exact ⟨by omega,by omega,by omega,by omega⟩
theorem mW:Mn aN:=(jV eY pG)
abbrev dJ:Type:=(Int)×(Int)
def bE:Rp dJ:=(Pr I I)
theorem bG:Ok bE:=(gP cK cK)
theorem rU {W:World}{B:Nat}{x0:Int}{x1:Int}{cs:List Value}(h:bE.rd W B (x0,x1) cs):cs = [.int .i64 x0,.int .i64 x1]:=by
 obtain ⟨u1,v1,rfl,h1,g1⟩:=h
 obtain rfl:u1 = [_]:=h1
 obtain rfl:v1 = [_]:=g1
 rfl
theorem yj {W:World}{S:Nat→Prop}{x0:Int}{x1:Int}  : bE.ow W S (x0,x1) [.int .i64 x0,.int .i64 x1]:=⟨[.int .i64 x0],[.int .i64 x1],(fun _=>False),(fun _=>False),rfl,(fun k h=>h.elim),(fun k h=>h.elim),(fun k h h'=>h.elim),rfl,rfl⟩
theorem Bl {W:World}{S:Nat→Prop}{x0:Int}{x1:Int}{cs:List Value}(h:bE.ow W S (x0,x1) cs):cs = [.int .i64 x0,.int .i64 x1]:=by
 obtain ⟨u1,v1,A1,B1,rfl,sa1,sb1,dd1,h1,g1⟩:=h
 obtain rfl:u1 = [_]:=h1
 obtain rfl:v1 = [_]:=g1
 rfl
abbrev aP:Type:=(Int)×(List (dJ))
def aL:Rp aP:=(Pr I (Sl bE))
theorem aK:Ok aL:=(gP cK (aZ bG))
theorem kH {W:World}{B:Nat}{x0:Int}{L0:List (dJ)}{cs:List Value}(h:aL.rd W B (x0,L0) cs):∃ a0 c0,cs = [.int .i64 x0,.slice a0 L0.length c0]∧aJ bE W B L0 a0 c0:=by
 obtain ⟨u1,v1,rfl,h1,g1⟩:=h
 obtain rfl:u1 = [_]:=h1
 obtain ⟨a0,c0,rfl,dY⟩:=g1
 exact ⟨a0,c0,rfl,dY⟩
theorem lS {W:World}{S:Nat→Prop}{x0:Int}{L0:List (dJ)}{a0:Option Addr}{c0:Nat}{T0:Nat→Prop}(hs0:∀ k,T0 k→S k)(dP:bH bE W T0 L0 a0 c0):aL.ow W S (x0,L0) [.int .i64 x0,.slice a0 L0.length c0]:=⟨[.int .i64 x0],[.slice a0 L0.length c0],(fun _=>False),T0,rfl,(fun k h=>h.elim),(fun k h=>hs0 k h),(fun k h h'=>h.elim),rfl,⟨a0,c0,rfl,dP⟩⟩
theorem zT {W:World}{S:Nat→Prop}{x0:Int}{L0:List (dJ)}{cs:List Value}(h:aL.ow W S (x0,L0) cs):∃ a0 c0,∃ T0:Nat→Prop,cs = [.int .i64 x0,.slice a0 L0.length c0]∧(∀ k,T0 k→S k)∧bH bE W T0 L0 a0 c0:=by
 obtain ⟨u1,v1,A1,B1,rfl,sa1,sb1,dd1,h1,g1⟩:=h
 obtain rfl:u1 = [_]:=h1
 obtain ⟨a0,c0,rfl,dY⟩:=g1
 exact ⟨a0,c0,B1,rfl,fun k h=>sb1 k (h),dY⟩
abbrev mX:Type:=(List (aP))×(Int)
def eX:Rp mX:=(Pr (Sl aL) I)
theorem uF:Ok eX:=(gP (aZ aK) cK)
theorem oI {W:World}{S:Nat→Prop}{L0:List (aP)}{x1:Int}{a0:Option Addr}{c0:Nat}{T0:Nat→Prop}(hs0:∀ k,T0 k→S k)(dP:bH aL W T0 L0 a0 c0):eX.ow W S (L0,x1) [.slice a0 L0.length c0,.int .i64 x1]:=⟨[.slice a0 L0.length c0],[.int .i64 x1],T0,(fun _=>False),rfl,(fun k h=>hs0 k h),(fun k h=>h.elim),(fun k h h'=>h'.elim),⟨a0,c0,rfl,dP⟩,rfl⟩
theorem ru {W:World}{S:Nat→Prop}{L0:List (aP)}{x1:Int}{cs:List Value}(h:eX.ow W S (L0,x1) cs):∃ a0 c0,∃ T0:Nat→Prop,cs = [.slice a0 L0.length c0,.int .i64 x1]∧(∀ k,T0 k→S k)∧bH aL W T0 L0 a0 c0:=by
 obtain ⟨u1,v1,A1,B1,rfl,sa1,sb1,dd1,h1,g1⟩:=h
 obtain ⟨a0,c0,rfl,dY⟩:=h1
 obtain rfl:v1 = [_]:=g1
 exact ⟨a0,c0,A1,rfl,fun k h=>sa1 k (h),dY⟩
theorem Zv {x0:Int}{x1:Int}  {W:World}(hsz:bE.sz (x0,x1)≤1048576):Calls Tryz.prog 20 #[.agg #[.int .i64 x0,.int .i64 x1]] W (kT bE (x0,x1) W):=by
 have nI:=ak hsz
 clear hsz
 go_enter Tryz.func20,Tryz.ntmps20
 go_wp2
 refine qC (v:=.agg #[.int .i64 x0,.int .i64 x1]) (by simp [results,Tryz.results20,go_sem]) rfl ⟨[.int .i64 x0,.int .i64 x1],rfl,yj,(by repeat (first | exact aW _ _ | refine Below.drew ?_ | refine Below.setCell ?_ (by first | omega | (simp;done) | (simp;omega)) _ | refine Below.alloc ?_ (by first | omega | (simp;done) | (simp;omega)) _))⟩
theorem fE:(bE).size=2:=rfl
def wK (n:Nat):Array Value:=madeCells #[.int .i64 0,.int .i64 0] (n*2)
theorem uo (n:Nat):(wK n).size=n*(bE).size:=by unfold wK;simp [madeCells,fE]
theorem BN (n:Nat)(hn:n≤1048576):∀ W:World,(Instr.makeSlice 122 (.int .i64 (n:Int)) (.int .i64 (n:Int))).run Tryz.prog W=.ok (.slice (some ⟨W.heap.size,0,none⟩) n n) (W.alloc (.cells (wK n) 61)):=by
 intro W
 obtain ⟨i,hi,hz,hs,hb⟩:∃ i,Tryz.prog.info? 61=some i∧i.zero=some (.agg #[.int .i64 0,.int .i64 0])∧i.size=2∧i.bytes=16:=by
  have h:(Tryz.prog.info? 61).map (fun i=>(i.zero,i.size,i.bytes))=some (some (.agg #[.int .i64 0,.int .i64 0]),2,16):=by kernel_rfl
  cases hx:Tryz.prog.info? 61 with
  | none=>rw [hx] at h;simp at h
  | some i=>rw [hx] at h;simp at h;exact ⟨i,rfl,h.1,h.2.1,h.2.2⟩
 have hr:=run_make (P:=Tryz.prog) W 122 61 i _ Tryz.underlying122 hi hz .i64 .i64 n n (by omega) (by omega) (by rw [hb];omega) (by omega)
 rw [hs] at hr
 simp only [Int.toNat_natCast] at hr
 exact hr
theorem Vv {L:List (dJ)}{a:Option Addr}{cap:Nat}{W:World}(hsz:((Sl bE)).sz L≤1048576)(h:aJ bE W W.heap.size L a cap):Calls Tryz.prog 128 #[.slice a L.length cap] W (jU bE L W):=by
 have hn:L.length≤1048576:=eF (Nat.le_add_right _ _) hsz
 have hmk:=BN L.length hn
 have H:=ak h
 have nI:=ak hsz
 clear h hsz
 go_enter Tryz.func128,Tryz.ntmps128
 go_wp2
 go_loopw [4] (fun i wr=>∃ k:Nat,k≤L.length∧i=.int .i64 k∧∃ Sf,sU bE W wr L W.heap.size Sf k) (fun i _=>L.length-(intOf i).toNat)
 case atStart=>exact ⟨0,dV _,rfl,_,sU.new (by exact uo _)⟩
 case round=>
  obtain ⟨k,hk,rfl,Sf,hF⟩:=hrel
  have HF:=ak hF
  by_cases hlt:k<L.length
  ·obtain ⟨⟨x0,x1⟩,hx⟩:=aM hlt
   have HX:=ak hx
   obtain ⟨g,o,us,rfl,hg,hu,hr⟩:=(H.out.below bG hF.below).at_ hx
   obtain rfl:=rU hr
   obtain ⟨e0,e1⟩:=ny (a:=o+k*2) hu rfl
   have hi0:(0:Int)≤(k:Int):=eu _
   have hi1:(k:Int)<(L.length:Int):=by omega
   have HE:=ak (vS (f:=(bE).sz) HX.out nI.out)
   clear hF hx hu hmk
   go_wp2_with fail
   refine (Zv (by exact HE.out)).mono ?_
   intro e w1 h
   obtain ⟨vs,rfl,how,hb⟩:=bY h
   have HOW:=ak how
   obtain rfl:=Bl how
   have HP:=ak (HF.out.put bG HX.out hb HOW.out)
   have hlt1:=HF.out.lt
   obtain ⟨t0,ht0⟩:=HF.out.there (k*2) (by rw [fE];omega)
   have q0:=(hb.cell (p:=⟨W.heap.size,k*2,none⟩) hlt1).trans ht0
   have s0:=(hb.frozen (p:=⟨W.heap.size,k*2,none⟩) hlt1).trans (HF.out.soft (k*2))
   obtain ⟨t1,ht1⟩:=HF.out.there (k*2+1) (by rw [fE];omega)
   have q1:=(hb.cell (p:=⟨W.heap.size,k*2+1,none⟩) hlt1).trans ht1
   have s1:=(hb.frozen (p:=⟨W.heap.size,k*2+1,none⟩) hlt1).trans (HF.out.soft (k*2+1))
   clear h how hb ht0 ht1 e0 e1
   go_wp2
   go_roundw
   case rel=>exact ⟨k+1,by omega,by go_num,_,by simpa [putCells,fE,Nat.add_assoc] using HP.out⟩
   case measure=>simp [intOf];omega
  ·obtain rfl:k=L.length:=by omega
   have HR:=ak (HF.out.news (by unfold maxLen;omega))
   clear hF hmk
   go_wp2
   go_ret
   exact HR.out
theorem Zx {x0:Int}{L0:List (dJ)}{a0:Option Addr}{c0:Nat}{W:World}(hsz:aL.sz (x0,L0)≤1048576)(dP:aJ bE W W.heap.size L0 a0 c0):Calls Tryz.prog 73 #[.agg #[.int .i64 x0,.slice a0 L0.length c0]] W (kT aL (x0,L0) W):=by
 have jJ:=ak dP
 have nI:=ak hsz
 clear hsz dP
 have hP:=((aO.new W 108 #[.int .i64 x0,.slice a0 L0.length c0]).alloc (.cells #[.int .i64 0,.slice none 0 0] 124)).alloc (.cells #[.int .i64 x0,.slice none 0 0] 124)
 have hR:=(aO.new (W.alloc (.cells #[.int .i64 x0,.slice a0 L0.length c0] 108)) 124 #[.int .i64 0,.slice none 0 0]).alloc (.cells #[.int .i64 x0,.slice none 0 0] 124)
 have hO:=aO.new ((W.alloc (.cells #[.int .i64 x0,.slice a0 L0.length c0] 108)).alloc (.cells #[.int .i64 0,.slice none 0 0] 124)) 124 #[.int .i64 x0,.slice none 0 0]
 simp only [World.size_alloc] at hP hR hO
 have HB0:=ak (show Below W.heap.size W (((W.alloc (.cells #[.int .i64 x0,.slice a0 L0.length c0] 108)).alloc (.cells #[.int .i64 0,.slice none 0 0] 124)).alloc (.cells #[.int .i64 x0,.slice none 0 0] 124)) from (((aW _ _).alloc (bK _) _).alloc (by simp) _).alloc (by simp;omega) _)
 have hz0:W.heap.size+3≤(((W.alloc (.cells #[.int .i64 x0,.slice a0 L0.length c0] 108)).alloc (.cells #[.int .i64 0,.slice none 0 0] 124)).alloc (.cells #[.int .i64 x0,.slice none 0 0] 124)).heap.size:=by simp
 have gY:=ak hP
 have Ab:=ak hR
 have zo:=ak hO
 clear hP hR hO
 go_enter Tryz.func73,Tryz.ntmps73
 go_wp2_with fail
 refine (Vv (by have h0:=nI.out;simp only [aL,Pr,Sl,I,Bo,atom] at h0 ⊢;omega) ((jJ.out.below bG HB0.out).more bG (by have h0:=hz0;first | omega | (simp;omega)))).mono ?_
 intro e w1 h
 obtain ⟨fu,fq,rfl,mO,hb⟩:=bL h
 have hP:aO w1 (W.heap.size) 108 #[.int .i64 x0,.slice a0 L0.length c0]:=aO.call gY.out hb
 have hR:aO w1 (W.heap.size+1) 124 #[.int .i64 0,.slice none 0 0]:=aO.call Ab.out hb
 have hO:aO w1 (W.heap.size+1+1) 124 #[.int .i64 x0,.slice none 0 0]:=aO.call zo.out hb
 have hz1:W.heap.size+3≤w1.heap.size:=eF hz0 hb.size
 have HB1:=ak (Below.trans (B:=W.heap.size) (a:=W) HB0.out (hb.mono (by have h0:=hz0;first | omega | (simp;omega))))
 have kN:=ak mO
 have dR:=ak (fun k hk=>eH hb (m:=W.heap.size+3) (by have h0:=hz0;first | omega | (simp;omega)) k hk)
 have yN:=ak (eH hb (m:=0) (dV _))
 have cZ:=ak hP
 have HR1:=ak hR
 have rQ:=ak hO
 clear h hb hP hR hO mO
 obtain ⟨vK,qK⟩:=cZ.out.kS rfl
 obtain ⟨CS,CQ⟩:=rQ.out.kS rfl
 obtain ⟨CK,CJ⟩:=HR1.out.kS rfl
 obtain ⟨CZ,CY⟩:=rQ.out.Ae
 obtain ⟨CX,CW⟩:=HR1.out.Ae
 go_wp2
 refine qC (v:=.agg #[.int .i64 x0,.slice fu L0.length fq]) (by simp [results,Tryz.results73,go_sem, *]) rfl ⟨[.int .i64 x0,.slice fu L0.length fq],rfl,?_,(((HB1.out.setCell (p:=⟨W.heap.size+1+1,1,none⟩) (by show W.heap.size≤W.heap.size+1+1;omega) (.slice fu L0.length fq)).setCell (p:=⟨W.heap.size+1,0,none⟩) (by show W.heap.size≤W.heap.size+1;omega) (.int .i64 x0)).setCell (p:=⟨W.heap.size+1,1,none⟩) (by show W.heap.size≤W.heap.size+1;omega) (.slice fu L0.length fq))⟩
 have hoff:=((((Off.refl (fun x=>x<W.heap.size+3) w1).setCell (p:=⟨W.heap.size+1+1,1,none⟩) (by show W.heap.size+1+1<W.heap.size+3;omega) (.slice fu L0.length fq)).setCell (p:=⟨W.heap.size+1,0,none⟩) (by show W.heap.size+1<W.heap.size+3;omega) (.int .i64 x0)).setCell (p:=⟨W.heap.size+1,1,none⟩) (by show W.heap.size+1<W.heap.size+3;omega) (.slice fu L0.length fq))
 have hsz:=hoff.size
 exact lS (fun k hk=>⟨by have:=(dR.out k hk).1;omega,by have:=(dR.out k hk).2;omega⟩) (kN.out.keep bG (fun k hk=>hoff.block k (dR.out k hk).2 (by have:=(dR.out k hk).1;omega)))
theorem eT:(aL).size=2:=rfl
def Bh (n:Nat):Array Value:=madeCells #[.int .i64 0,.slice none 0 0] (n*2)
theorem Db (n:Nat):(Bh n).size=n*(aL).size:=by unfold Bh;simp [madeCells,eT]
theorem LD (n:Nat)(hn:n≤1048576):∀ W:World,(Instr.makeSlice 40 (.int .i64 (n:Int)) (.int .i64 (n:Int))).run Tryz.prog W=.ok (.slice (some ⟨W.heap.size,0,none⟩) n n) (W.alloc (.cells (Bh n) 124)):=by
 intro W
 obtain ⟨i,hi,hz,hs,hb⟩:∃ i,Tryz.prog.info? 124=some i∧i.zero=some (.agg #[.int .i64 0,.slice none 0 0])∧i.size=2∧i.bytes=32:=by
  have h:(Tryz.prog.info? 124).map (fun i=>(i.zero,i.size,i.bytes))=some (some (.agg #[.int .i64 0,.slice none 0 0]),2,32):=by kernel_rfl
  cases hx:Tryz.prog.info? 124 with
  | none=>rw [hx] at h;simp at h
  | some i=>rw [hx] at h;simp at h;exact ⟨i,rfl,h.1,h.2.1,h.2.2⟩
 have hr:=run_make (P:=Tryz.prog) W 40 124 i _ Tryz.underlying40 hi hz .i64 .i64 n n (by omega) (by omega) (by rw [hb];omega) (by omega)
 rw [hs] at hr
 simp only [Int.toNat_natCast] at hr
 exact hr
theorem Vy {L:List (aP)}{a:Option Addr}{cap:Nat}{W:World}(hsz:((Sl aL)).sz L≤1048576)(h:aJ aL W W.heap.size L a cap):Calls Tryz.prog 33 #[.slice a L.length cap] W (jU aL L W):=by
 have hn:L.length≤1048576:=eF (Nat.le_add_right _ _) hsz
 have hmk:=LD L.length hn
 have H:=ak h
 have nI:=ak hsz
 clear h hsz
 go_enter Tryz.func33,Tryz.ntmps33
 go_wp2
 go_loopw [4] (fun i wr=>∃ k:Nat,k≤L.length∧i=.int .i64 k∧∃ Sf,sU aL W wr L W.heap.size Sf k) (fun i _=>L.length-(intOf i).toNat)
 case atStart=>exact ⟨0,dV _,rfl,_,sU.new (by exact Db _)⟩
 case round=>
  obtain ⟨k,hk,rfl,Sf,hF⟩:=hrel
  have HF:=ak hF
  by_cases hlt:k<L.length
  ·obtain ⟨⟨x0,L0⟩,hx⟩:=aM hlt
   have HX:=ak hx
   obtain ⟨g,o,us,rfl,hg,hu,hr⟩:=(H.out.below aK hF.below).at_ hx
   obtain ⟨a0,c0,rfl,dY⟩:=kH hr
   obtain ⟨e0,e1⟩:=ny (a:=o+k*2) hu rfl
   have hi0:(0:Int)≤(k:Int):=eu _
   have hi1:(k:Int)<(L.length:Int):=by omega
   have HE:=ak (vS (f:=(aL).sz) HX.out nI.out)
   have UF:=ak (dY.more bG (Nat.le_of_lt HF.out.lt))
   clear hF hx hu hmk dY
   go_wp2_with fail
   refine (Zx (by exact HE.out) (by exact UF.out)).mono ?_
   intro e w1 h
   obtain ⟨vs,rfl,how,hb⟩:=bY h
   have HOW:=ak how
   obtain ⟨b0,d0,T0,rfl,_⟩:=zT how
   have HP:=ak (HF.out.put aK HX.out hb HOW.out)
   have hlt1:=HF.out.lt
   obtain ⟨t0,ht0⟩:=HF.out.there (k*2) (by rw [eT];omega)
   have q0:=(hb.cell (p:=⟨W.heap.size,k*2,none⟩) hlt1).trans ht0
   have s0:=(hb.frozen (p:=⟨W.heap.size,k*2,none⟩) hlt1).trans (HF.out.soft (k*2))
   obtain ⟨t1,ht1⟩:=HF.out.there (k*2+1) (by rw [eT];omega)
   have q1:=(hb.cell (p:=⟨W.heap.size,k*2+1,none⟩) hlt1).trans ht1
   have s1:=(hb.frozen (p:=⟨W.heap.size,k*2+1,none⟩) hlt1).trans (HF.out.soft (k*2+1))
   clear h how hb ht0 ht1 e0 e1
   go_wp2
   go_roundw
   case rel=>exact ⟨k+1,by omega,by go_num,_,by simpa [putCells,eT,Nat.add_assoc] using HP.out⟩
   case measure=>simp [intOf];omega
  ·obtain rfl:k=L.length:=by omega
   have HR:=ak (HF.out.news (by unfold maxLen;omega))
   clear hF hmk
   go_wp2
   go_ret
   exact HR.out
theorem eq_Span {x0:Int}{x1:Int}   {W:World}:Calls Tryz.prog 218 #[.agg #[.int .i64 x0,.int .i64 x1],.agg #[.int .i64 x0,.int .i64 x1]] W (sS true W):=by
 have HB0:=ak (show Below W.heap.size W ((W.alloc (.cells #[.int .i64 x0,.int .i64 x1] 61)).alloc (.cells #[.int .i64 x0,.int .i64 x1] 61)) from ((aW _ _).alloc (bK _) _).alloc (by simp) _)
 go_enter Tryz.func218,Tryz.ntmps218
 go_wp2
 all_goals
  go_ret
  exact ⟨rfl,HB0.out⟩
theorem nT:(bE).size=2:=rfl
theorem eq_SpanS {L:List (dJ)}{a a':Option Addr}{cap cap':Nat}{W:World}(h:aJ bE W W.heap.size L a cap)(h':aJ bE W W.heap.size L a' cap'):Calls Tryz.prog 148 #[.slice a L.length cap,.slice a' L.length cap'] W (sS true W):=by
 have hn:L.length≤9223372036854775807:=by have h1:=h.1;have h2:=h.2.1;unfold maxLen at h2;omega
 have H:=ak h
 have H':=ak h'
 clear h h'
 go_enter Tryz.func148,Tryz.ntmps148
 go_wp2
 go_loopw [5] (fun i wr=>∃ k:Nat,k≤L.length∧i=.int .i64 k∧Below W.heap.size W wr) (fun i _=>L.length-(intOf i).toNat)
 case atStart=>exact ⟨0,dV _,rfl,aW _ _⟩
 case round=>
  obtain ⟨k,hk,rfl,hB⟩:=hrel
  have HB:=ak hB
  have hsz:=hB.size
  by_cases hlt:k<L.length
  ·obtain ⟨⟨x0,x1⟩,hx⟩:=aM hlt
   have HX:=ak hx
   obtain ⟨g,o,us,rfl,hg,hu,hr⟩:=(H.out.below bG hB).at_ hx
   obtain ⟨g',o',vs,rfl,hg',hu',hr'⟩:=(H'.out.below bG hB).at_ hx
   obtain rfl:=rU hr
   obtain rfl:=rU hr'
   have e0:wr.cell? ⟨g,o+k*2,none⟩=some (.int .i64 x0):=by simpa [nT,Nat.add_assoc] using hu 0 _ rfl
   have d0:wr.cell? ⟨g',o'+k*2,none⟩=some (.int .i64 x0):=by simpa [nT,Nat.add_assoc] using hu' 0 _ rfl
   have e1:wr.cell? ⟨g,o+k*2+1,none⟩=some (.int .i64 x1):=by simpa [nT,Nat.add_assoc] using hu 1 _ rfl
   have d1:wr.cell? ⟨g',o'+k*2+1,none⟩=some (.int .i64 x1):=by simpa [nT,Nat.add_assoc] using hu' 1 _ rfl
   have hi0:(0:Int)≤(k:Int):=eu _
   have hi1:(k:Int)<(L.length:Int):=by omega
   have hgl:g<wr.heap.size:=bV hg hsz
   have ig:g'<wr.heap.size:=bV hg' hsz
   clear hB hx hu hu'
   go_wp2_with fail
   refine dX (S:=(fun W=>W.cell? ⟨g,o+k*2,none⟩=some (.int .i64 x0)∧W.cell? ⟨g,o+k*2+1,none⟩=some (.int .i64 x1)∧W.cell? ⟨g',o'+k*2,none⟩=some (.int .i64 x0)∧W.cell? ⟨g',o'+k*2+1,none⟩=some (.int .i64 x1)∧wr.heap.size≤W.heap.size∧Below wr.heap.size wr W)) (by kernel_rfl) (⟨e0,e1,d0,d1,bK _,(aW _ _).drew⟩) (fun ah=>?_)
   refine wpAnyH_take (i:=0) (v:=?hv1) rfl (by kernel_rfl) (by kernel_rfl) (by kernel_rfl) (fun _ _ _ h=>h) (Or.inl ⟨by kernel_rfl,?hy1⟩) ah ?hr1
   case hy1=>(intro w aj;(try dsimp only at aj);go_simp;try with_reducible rfl)
   refine wpAnyH_take (i:=1) (v:=?hv2) rfl (by kernel_rfl) (by kernel_rfl) (by kernel_rfl) (fun _ _ _ h=>h) (Or.inl ⟨by kernel_rfl,?hy2⟩) ah ?hr2
   case hy2=>(intro w aj;(try dsimp only at aj);go_simp;try with_reducible rfl)
   refine wpAnyH_take (i:=2) (v:=?hv3) rfl (by kernel_rfl) (by kernel_rfl) (by kernel_rfl) (fun _ _ _ h=>h) (Or.inl ⟨by kernel_rfl,?hy3⟩) ah ?hr3
   case hy3=>(intro w aj;(try dsimp only at aj);go_simp;try with_reducible rfl)
   refine wpAnyH_take (i:=3) (v:=?hv4) rfl (by kernel_rfl) (by kernel_rfl) (by kernel_rfl) (fun _ _ _ h=>h) (Or.inl ⟨by kernel_rfl,?hy4⟩) ah ?hr4
   case hy4=>(intro w aj;(try dsimp only at aj);go_simp;try with_reducible rfl)
   refine wpAnyH_take (i:=4) (v:=?hv5) rfl (by kernel_rfl) (by kernel_rfl) (by kernel_rfl) (fun _ _ _ h=>h) (Or.inl ⟨by kernel_rfl,?XD⟩) ah ?hr5
   case XD=>(intro w aj;(try dsimp only at aj);go_simp;try with_reducible rfl)
   refine wpAnyH_take (i:=5) (v:=?hv6) rfl (by kernel_rfl) (by kernel_rfl) (by kernel_rfl) (fun _ _ _ h=>h) (Or.inl ⟨by kernel_rfl,?XC⟩) ah ?hr6
   case XC=>(intro w aj;(try dsimp only at aj);go_simp;try with_reducible rfl)
   refine wpAnyH_take (i:=6) (v:=?hv7) rfl (by kernel_rfl) (by kernel_rfl) (by kernel_rfl) (fun _ _ _ h=>h) (Or.inl ⟨by kernel_rfl,?XB⟩) ah ?hr7
   case XB=>(intro w aj;(try dsimp only at aj);go_simp;try with_reducible rfl)
   refine wpAnyH_take (i:=7) (v:=?hv8) rfl (by kernel_rfl) (by kernel_rfl) (by kernel_rfl) (fun _ _ _ h=>h) (Or.inl ⟨by kernel_rfl,?XA⟩) ah ?hr8
   case XA=>(intro w aj;(try dsimp only at aj);go_simp;try with_reducible rfl)
   refine dw 8 (fun K hK=>?_)
   go_simp
   refine (eq_Span).mono ?_
   intro e w1 h
   obtain ⟨rfl,hb⟩:=bU h
   refine hK.out _ _ (⟨(hb.cell (p:=⟨g,o+k*2,none⟩) (bV hgl ah.2.2.2.2.1)).trans ah.1,(hb.cell (p:=⟨g,o+k*2+1,none⟩) (bV hgl ah.2.2.2.2.1)).trans ah.2.1,(hb.cell (p:=⟨g',o'+k*2,none⟩) (bV ig ah.2.2.2.2.1)).trans ah.2.2.1,(hb.cell (p:=⟨g',o'+k*2+1,none⟩) (bV ig ah.2.2.2.2.1)).trans ah.2.2.2.1,eF ah.2.2.2.2.1 hb.size,ah.2.2.2.2.2.trans (hb.mono ah.2.2.2.2.1)⟩) (fun ah=>?_)
   clear hK K h
   refine tk 9 ah ?_
   refine dQ ?_
   have HB2:=ak (HB.out.trans (ah.2.2.2.2.2.mono hsz))
   clear ah
   go_wp2
   go_roundw
   case rel=>exact ⟨k+1,by omega,by go_num,HB2.out⟩
   case measure=>simp [intOf];omega
  ·clear hB
   go_wp2
   go_ret
   exact ⟨rfl,HB.out⟩
theorem eq_Node {x0:Int}{L0:List (dJ)}{a0:Option Addr}{c0:Nat}{a0':Option Addr}{c0':Nat}{W:World}(dP:aJ bE W W.heap.size L0 a0 c0)(nL:aJ bE W W.heap.size L0 a0' c0'):Calls Tryz.prog 84 #[.agg #[.int .i64 x0,.slice a0 L0.length c0],.agg #[.int .i64 x0,.slice a0' L0.length c0']] W (sS true W):=by
 have jJ:=ak dP
 have vZ:=ak nL
 clear dP nL
 have HB0:=ak (show Below W.heap.size W ((W.alloc (.cells #[.int .i64 x0,.slice a0 L0.length c0] 124)).alloc (.cells #[.int .i64 x0,.slice a0' L0.length c0'] 124)) from ((aW _ _).alloc (bK _) _).alloc (by simp) _)
 have hP:=(aO.new W 124 #[.int .i64 x0,.slice a0 L0.length c0]).alloc (.cells #[.int .i64 x0,.slice a0' L0.length c0'] 124)
 have hQ:=aO.new (W.alloc (.cells #[.int .i64 x0,.slice a0 L0.length c0] 124)) 124 #[.int .i64 x0,.slice a0' L0.length c0']
 simp only [World.size_alloc] at hP hQ
 have gY:=ak hP
 have Dp:=ak hQ
 have hz0:W.heap.size≤((W.alloc (.cells #[.int .i64 x0,.slice a0 L0.length c0] 124)).alloc (.cells #[.int .i64 x0,.slice a0' L0.length c0'] 124)).heap.size:=HB0.out.size
 clear hP hQ
 go_enter Tryz.func84,Tryz.ntmps84
 go_wp2_with fail
 refine (eq_SpanS ((jJ.out.below bG HB0.out).more bG hz0) ((vZ.out.below bG HB0.out).more bG hz0)).mono ?_
 intro e w1 h
 obtain ⟨rfl,hb⟩:=bU h
 have cZ:=ak (gY.out.call hb)
 have nJ:=ak (Dp.out.call hb)
 have HB1:=ak (HB0.out.trans (hb.mono hz0))
 have hz1:W.heap.size≤w1.heap.size:=HB1.out.size
 clear h hb
 go_wp2
 all_goals
  go_ret
  exact ⟨rfl,HB1.out⟩
theorem nU:(aL).size=2:=rfl
theorem eq_NodeS {L:List (aP)}{a a':Option Addr}{cap cap':Nat}{W:World}(h:aJ aL W W.heap.size L a cap)(h':aJ aL W W.heap.size L a' cap'):Calls Tryz.prog 40 #[.slice a L.length cap,.slice a' L.length cap'] W (sS true W):=by
 have hn:L.length≤9223372036854775807:=by have h1:=h.1;have h2:=h.2.1;unfold maxLen at h2;omega
 have H:=ak h
 have H':=ak h'
 clear h h'
 go_enter Tryz.func40,Tryz.ntmps40
 go_wp2
 go_loopw [5] (fun i wr=>∃ k:Nat,k≤L.length∧i=.int .i64 k∧Below W.heap.size W wr) (fun i _=>L.length-(intOf i).toNat)
 case atStart=>exact ⟨0,dV _,rfl,aW _ _⟩
 case round=>
  obtain ⟨k,hk,rfl,hB⟩:=hrel
  have HB:=ak hB
  have hsz:=hB.size
  by_cases hlt:k<L.length
  ·obtain ⟨⟨x0,L0⟩,hx⟩:=aM hlt
   have HX:=ak hx
   obtain ⟨g,o,us,rfl,hg,hu,hr⟩:=(H.out.below aK hB).at_ hx
   obtain ⟨g',o',vs,rfl,hg',hu',hr'⟩:=(H'.out.below aK hB).at_ hx
   obtain ⟨a0,c0,rfl,dY⟩:=kH hr
   obtain ⟨a0',c0',rfl,vU⟩:=kH hr'
   have e0:wr.cell? ⟨g,o+k*2,none⟩=some (.int .i64 x0):=by simpa [nU,Nat.add_assoc] using hu 0 _ rfl
   have d0:wr.cell? ⟨g',o'+k*2,none⟩=some (.int .i64 x0):=by simpa [nU,Nat.add_assoc] using hu' 0 _ rfl
   have e1:wr.cell? ⟨g,o+k*2+1,none⟩=some (.slice a0 L0.length c0):=by simpa [nU,Nat.add_assoc] using hu 1 _ rfl
   have d1:wr.cell? ⟨g',o'+k*2+1,none⟩=some (.slice a0' L0.length c0'):=by simpa [nU,Nat.add_assoc] using hu' 1 _ rfl
   have hi0:(0:Int)≤(k:Int):=eu _
   have hi1:(k:Int)<(L.length:Int):=by omega
   have hgl:g<wr.heap.size:=bV hg hsz
   have ig:g'<wr.heap.size:=bV hg' hsz
   have fI:=ak (dY.more bG hsz)
   have Ux:=ak (vU.more bG hsz)
   clear hB hx hu hu' dY vU
   go_wp2_with fail
   refine dX (S:=(fun W=>W.cell? ⟨g,o+k*2,none⟩=some (.int .i64 x0)∧W.cell? ⟨g,o+k*2+1,none⟩=some (.slice a0 L0.length c0)∧W.cell? ⟨g',o'+k*2,none⟩=some (.int .i64 x0)∧W.cell? ⟨g',o'+k*2+1,none⟩=some (.slice a0' L0.length c0')∧wr.heap.size≤W.heap.size∧Below wr.heap.size wr W)) (by kernel_rfl) (⟨e0,e1,d0,d1,bK _,(aW _ _).drew⟩) (fun ah=>?_)
   refine wpAnyH_take (i:=0) (v:=?hv10) rfl (by kernel_rfl) (by kernel_rfl) (by kernel_rfl) (fun _ _ _ h=>h) (Or.inl ⟨by kernel_rfl,?Tc⟩) ah ?hr10
   case Tc=>(intro w aj;(try dsimp only at aj);go_simp;try with_reducible rfl)
   refine wpAnyH_take (i:=1) (v:=?hv11) rfl (by kernel_rfl) (by kernel_rfl) (by kernel_rfl) (fun _ _ _ h=>h) (Or.inl ⟨by kernel_rfl,?Ta⟩) ah ?hr11
   case Ta=>(intro w aj;(try dsimp only at aj);go_simp;try with_reducible rfl)
   refine wpAnyH_take (i:=2) (v:=?hv12) rfl (by kernel_rfl) (by kernel_rfl) (by kernel_rfl) (fun _ _ _ h=>h) (Or.inl ⟨by kernel_rfl,?S9⟩) ah ?hr12
   case S9=>(intro w aj;(try dsimp only at aj);go_simp;try with_reducible rfl)
   refine wpAnyH_take (i:=3) (v:=?hv13) rfl (by kernel_rfl) (by kernel_rfl) (by kernel_rfl) (fun _ _ _ h=>h) (Or.inl ⟨by kernel_rfl,?SY⟩) ah ?hr13
   case SY=>(intro w aj;(try dsimp only at aj);go_simp;try with_reducible rfl)
   refine wpAnyH_take (i:=4) (v:=?hv14) rfl (by kernel_rfl) (by kernel_rfl) (by kernel_rfl) (fun _ _ _ h=>h) (Or.inl ⟨by kernel_rfl,?SX⟩) ah ?hr14
   case SX=>(intro w aj;(try dsimp only at aj);go_simp;try with_reducible rfl)
   refine wpAnyH_take (i:=5) (v:=?hv15) rfl (by kernel_rfl) (by kernel_rfl) (by kernel_rfl) (fun _ _ _ h=>h) (Or.inl ⟨by kernel_rfl,?SV⟩) ah ?hr15
   case SV=>(intro w aj;(try dsimp only at aj);go_simp;try with_reducible rfl)
   refine wpAnyH_take (i:=6) (v:=?hv16) rfl (by kernel_rfl) (by kernel_rfl) (by kernel_rfl) (fun _ _ _ h=>h) (Or.inl ⟨by kernel_rfl,?SS⟩) ah ?hr16
   case SS=>(intro w aj;(try dsimp only at aj);go_simp;try with_reducible rfl)
   refine wpAnyH_take (i:=7) (v:=?hv17) rfl (by kernel_rfl) (by kernel_rfl) (by kernel_rfl) (fun _ _ _ h=>h) (Or.inl ⟨by kernel_rfl,?SQ⟩) ah ?hr17
   case SQ=>(intro w aj;(try dsimp only at aj);go_simp;try with_reducible rfl)
   refine dw 8 (fun K hK=>?_)
   go_simp
   refine (eq_Node ((fI.out.below bG (by exact ah.2.2.2.2.2)).more bG (by exact ah.2.2.2.2.1)) ((Ux.out.below bG (by exact ah.2.2.2.2.2)).more bG (by exact ah.2.2.2.2.1))).mono ?_
   intro e w1 h
   obtain ⟨rfl,hb⟩:=bU h
   refine hK.out _ _ (⟨(hb.cell (p:=⟨g,o+k*2,none⟩) (bV hgl ah.2.2.2.2.1)).trans ah.1,(hb.cell (p:=⟨g,o+k*2+1,none⟩) (bV hgl ah.2.2.2.2.1)).trans ah.2.1,(hb.cell (p:=⟨g',o'+k*2,none⟩) (bV ig ah.2.2.2.2.1)).trans ah.2.2.1,(hb.cell (p:=⟨g',o'+k*2+1,none⟩) (bV ig ah.2.2.2.2.1)).trans ah.2.2.2.1,eF ah.2.2.2.2.1 hb.size,ah.2.2.2.2.2.trans (hb.mono ah.2.2.2.2.1)⟩) (fun ah=>?_)
   clear hK K h
   refine wpAnyH_take (i:=9) (v:=?hv18) rfl (by kernel_rfl) (by kernel_rfl) (by kernel_rfl) (fun _ _ _ h=>h) (Or.inl ⟨by kernel_rfl,?SL⟩) ah ?hr18
   case SL=>(intro w aj;(try dsimp only at aj);go_simp;try with_reducible rfl)
   refine dQ ?_
   have HB2:=ak (HB.out.trans (ah.2.2.2.2.2.mono hsz))
   clear ah
   go_wp2
   go_roundw
   case rel=>exact ⟨k+1,by omega,by go_num,HB2.out⟩
   case measure=>simp [intOf];omega
  ·clear hB
   go_wp2
   go_ret
   exact ⟨rfl,HB.out⟩
theorem BU (L:List (dJ)):(Sl bE).sz L=L.length:=by
 have:bD (bE).sz L=0:=kC (fun _=>rfl) L
 simp only [Sl,this,Nat.add_zero]
theorem VE {L:List (dJ)}{a:Option Addr}{cap:Nat}{W:World}{l:Int}(h0:0≤l)(h1:l≤1048576)(h:aJ bE W W.heap.size L a cap):Calls Tryz.prog 121 #[.slice a L.length cap,.int .i64 l] W (JN l ((Sl bE).sz L) W):=by
 have hn:L.length≤9223372036854775807:=by have h1:=h.1;have h2:=h.2.1;unfold maxLen at h2;omega
 rw [BU]
 clear h
 by_cases hf:(L.length:Int)≤l
 ·have HR:=ak (dL hf)
  go_enter Tryz.func121,Tryz.ntmps121
  go_wp2
  go_ret
  exact ⟨by first | (rw [HR.out];done) | (rw [HR.out];rfl),aW _ _⟩
 ·have HR:=ak (dI hf)
  go_enter Tryz.func121,Tryz.ntmps121
  go_wp2
  go_ret
  exact ⟨by first | (rw [HR.out];done) | (rw [HR.out];rfl),aW _ _⟩
theorem G6 {x0:Int}{L0:List (dJ)}:aL.sz (x0,L0)=(((Sl bE)).sz L0):=by
 simp only [aL,Pr,I,Bo,atom];omega
theorem ZF {x0:Int}{L0:List (dJ)}{a0:Option Addr}{c0:Nat}{W:World}{l:Int}(h0:0≤l)(h1:l≤1048576)(dP:aJ bE W W.heap.size L0 a0 c0):Calls Tryz.prog 63 #[.agg #[.int .i64 x0,.slice a0 L0.length c0],.int .i64 l] W (JN l (aL.sz (x0,L0)) W):=by
 have jJ:=ak dP
 clear dP
 have HD:=ak (G6 (x0:=x0) (L0:=L0))
 have HB0:=ak (show Below W.heap.size W (W.alloc (.cells #[.int .i64 x0,.slice a0 L0.length c0] 108)) from (aW _ _).alloc (bK _) _)
 have hP:=aO.new W 108 #[.int .i64 x0,.slice a0 L0.length c0]
 have gY:=ak hP
 have hz0:W.heap.size≤(W.alloc (.cells #[.int .i64 x0,.slice a0 L0.length c0] 108)).heap.size:=HB0.out.size
 clear hP
 obtain ⟨s0,hs0⟩:∃ s,s=(((Sl bE)).sz L0):=⟨_,rfl⟩
 have zR:=ak hs0
 rw [←hs0] at HD
 clear hs0
 go_enter Tryz.func63,Tryz.ntmps63
 go_wp2_with fail
 refine (VE (l:=l) (by omega) (by omega) ((jJ.out.below bG HB0.out).more bG hz0)).mono ?_
 intro e w1 h
 obtain ⟨rfl,hb⟩:=gD h
 rw [←zR.out]
 have cZ:=ak (gY.out.call hb)
 have HB1:=ak (HB0.out.trans (hb.mono hz0))
 have hz1:W.heap.size≤w1.heap.size:=HB1.out.size
 clear h hb
 have qK:=cZ.out.at_ 1 rfl
 by_cases hf0:(s0:Int)≤l
 rotate_left
 ·rw [dI hf0]
  have HR:=ak (dI (l:=l) (s:=aL.sz (x0,L0)) (by rw [HD.out];omega))
  go_wp2
  go_ret
  exact ⟨by first | (rw [HR.out];done) | (rw [HR.out];rfl),HB1.out⟩
 rw [dL hf0]
 have Dw:(0:Int)≤l-(s0:Nat):=by omega
 have HR:=ak (dL (l:=l) (s:=aL.sz (x0,L0)) (by rw [HD.out];omega))
 go_wp2
 go_ret
 exact ⟨by rw [HR.out,HD.out];first | rfl | (simp;done) | (simp;omega),HB1.out⟩
theorem acg:(aL).size=2:=rfl
theorem QD (L:List (aP)):(Sl aL).sz L=L.length+bD (aL).sz L:=rfl
theorem VG {L:List (aP)}{a:Option Addr}{cap:Nat}{W:World}{l:Int}(h0:0≤l)(h1:l≤1048576)(h:aJ aL W W.heap.size L a cap):Calls Tryz.prog 25 #[.slice a L.length cap,.int .i64 l] W (JN l ((Sl aL).sz L) W):=by
 have hn:L.length≤9223372036854775807:=by have h1:=h.1;have h2:=h.2.1;unfold maxLen at h2;omega
 have H:=ak h
 have HD:=ak (QD L)
 clear h
 by_cases hlen:(L.length:Int)≤l
 ·go_enter Tryz.func25,Tryz.ntmps25
  go_wp2
  go_loopw [5,1] (fun i q wr=>∃ k:Nat,k≤L.length∧i=.int .i64 k∧(L.length:Int)+(bD (aL).sz (L.take k):Nat)≤l∧q=.int .i64 (l-L.length-(bD (aL).sz (L.take k):Nat))∧Below W.heap.size W wr) (fun i _ _=>L.length-(intOf i).toNat)
  case atStart=>exact ⟨0,dV _,rfl,by simpa [bD] using hlen,by simp [bD],aW _ _⟩
  case round=>
   obtain ⟨k,hk,rfl,hfit,rfl,hB⟩:=hrel
   have HB:=ak hB
   have hsz:=hB.size
   have hle:=dh (aL).sz L k
   by_cases hlt:k<L.length
   ·obtain ⟨⟨x0,L0⟩,hx⟩:=aM hlt
    have HS:=ak (fB (aL).sz hx)
    have hle2:=dh (aL).sz L (k+1)
    obtain ⟨g,o,us,rfl,hg,hu,hr⟩:=(H.out.below aK hB).at_ hx
    obtain ⟨a0,c0,rfl,dY⟩:=kH hr
    obtain ⟨e0,e1⟩:=ny (a:=o+k*2) hu rfl
    have fI:=ak (dY.more bG hsz)
    obtain ⟨q,hq⟩:∃ q,q=bD (aL).sz (L.take k):=⟨_,rfl⟩
    obtain ⟨p,hp⟩:∃ p,p=(aL).sz (x0,L0):=⟨_,rfl⟩
    rw [←hq] at hfit hle HS
    rw [←hp] at HS
    have HQ:=ak hq
    have HP:=ak hp
    have hi0:(0:Int)≤(k:Int):=eu _
    have hi1:(k:Int)<(L.length:Int):=by omega
    have hgl:g<wr.heap.size:=bV hg hsz
    have hle3:q+p≤bD (aL).sz L:=by rw [←HS.out];exact hle2
    rw [←hq]
    clear hB hx hu dY hq hp hle2
    go_wp2_with fail
    refine (ZF (by omega) (by omega) fI.out).mono ?_
    intro e w1 h
    obtain ⟨rfl,hb⟩:=gD h
    rw [←HP.out]
    have HB2:=ak (HB.out.trans (hb.mono hsz))
    clear h hb
    by_cases hf:(p:Int)≤l-L.length-(q:Nat)
    ·rw [dL hf]
     have hpos:(0:Int)≤l-L.length-(q:Nat)-(p:Nat):=by omega
     go_wp2
     go_roundw
     case rel=>exact ⟨k+1,by omega,by go_num,by rw [HS.out];omega,by rw [HS.out];congr 1;omega,HB2.out⟩
     case measure=>simp [intOf];omega
    ·rw [dI hf]
     have HR:=ak (dI (l:=l) (s:=(Sl aL).sz L) (by rw [HD.out];omega))
     go_wp2
     go_ret
     exact ⟨by first | (rw [HR.out];done) | (rw [HR.out];rfl),HB2.out⟩
   ·obtain rfl:k=L.length:=by omega
    have HR:=ak (dL (l:=l) (s:=(Sl aL).sz L) (by rw [HD.out];rw [List.take_length] at hfit;omega))
    have HT:=ak (show L.take L.length=L from List.take_length)
    clear hB
    go_wp2
    go_ret
    exact ⟨by rw [HR.out,HD.out,←HT.out];first | rfl | (simp;done) | (simp;omega),HB.out⟩
 ·have HR:=ak (dI (l:=l) (s:=(Sl aL).sz L) (by rw [HD.out];omega))
  go_enter Tryz.func25,Tryz.ntmps25
  go_wp2
  go_ret
  exact ⟨by first | (rw [HR.out];done) | (rw [HR.out];rfl),aW _ _⟩
end
end aQ
end Go.Proofs.YtlhfiapfncikdaaGreatDoor
