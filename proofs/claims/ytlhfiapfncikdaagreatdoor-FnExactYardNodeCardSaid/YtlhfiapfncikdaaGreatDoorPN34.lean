import Derived.Test.YtlhfiapfncikdaaGreatDoorPN24
import Derived.Test.YtlhfiapfncikdaaGreatDoorPN26
import Derived.Test.YtlhfiapfncikdaaGreatDoorPN32
set_option linter.unusedVariables false
set_option linter.unusedSimpArgs false
set_option maxRecDepth 100000
set_option maxHeartbeats 3200000
namespace Go.Proofs.YtlhfiapfncikdaaGreatDoor
namespace aQ
section
open Go.RowKit bN bO
theorem Fu {W:World}{S:Nat→Prop}{L0:List (aP)}{x1:Int}{cs:List Value}(h:eX.ow W S (L0,x1) cs):∃ a0 c0,cs = [.slice a0 L0.length c0,.int .i64 x1]∧eX.ow W S (L0,x1) [.slice a0 L0.length c0,.int .i64 x1]:=by
 have h0:=h
 obtain ⟨a0,c0,T0,rfl,_⟩:=ru h
 exact ⟨a0,c0,rfl,h0⟩
theorem xg {L0:List (aP)}{x1:Int}:eX.cv (L0,x1)=bD (aL).cm L0:=by
 simp only [eX,Pr,Sl,I,Bo,atom];omega
end
section
open Go.ChangeShapes Go.WideShapes Go.ChangeAt Go.RowKit Go.Joins Go.Deep bN bO
theorem aag:Tryz.prog.cellsOf 106=1:=by kernel_rfl
theorem Vm:Tryz.prog.cellsOf 59=2:=by kernel_rfl
theorem VX:zQ bE 59:=fun enc W fuel cs y h=>by
 obtain ⟨xs,n,_,_,hl,hlen,hf⟩:=DataW.trod_struct Tryz.underlying59 h
 rw [Vm] at hl
 match cs,hl with
 | [c0,c1],_=>
  have e2:xs.length=2:=hlen
  match xs,e2 with
  | [y0,y1],_=>
   have g0:=qJ hf 0 2 0 1 rfl fO
   have g1:=qJ hf 1 2 1 1 rfl fO
   obtain ⟨d0,h0⟩:=fM enc W n [c0] y0 g0
   obtain ⟨d1,h1⟩:=fM enc W n [c1] y1 g1
   exact ⟨(d0,d1),⟨[c0],[c1],rfl,h0,h1⟩⟩
theorem QZ:zQ (Sl bE) 106:=pO VX (by decide) Tryz.underlying106 Vm
theorem Vo:Tryz.prog.cellsOf 108=2:=by kernel_rfl
theorem VZ:zQ aL 108:=fun enc W fuel cs y h=>by
 obtain ⟨xs,n,_,_,hl,hlen,hf⟩:=DataW.trod_struct Tryz.underlying108 h
 rw [Vo] at hl
 match cs,hl with
 | [c0,c1],_=>
  have e2:xs.length=2:=hlen
  match xs,e2 with
  | [y0,y1],_=>
   have g0:=qJ hf 0 2 0 1 rfl fO
   have g1:=qJ hf 1 106 1 1 rfl aag
   obtain ⟨d0,h0⟩:=fM enc W n [c0] y0 g0
   obtain ⟨d1,h1⟩:=QZ enc W n [c1] y1 g1
   exact ⟨(d0,d1),⟨[c0],[c1],rfl,h0,h1⟩⟩
theorem Q6:zQ (Sl aL) 27:=pO VZ (by decide) Tryz.underlying27 Vo
theorem Q7 {H:Type}{enc:TypeId×Value→H}{W:World}{base:Nat}{v:Value}{d:DataW H}{p:List MemPlace}(o:Value.okWide Tryz.prog W .any base 2 v)(h:DataW.Trod enc Tryz.prog W 0 (fun _=>true) true 2 v d p):∃ q:Int,v=.int .i64 q∧-9223372036854775808≤q∧q≤9223372036854775807:=by
 obtain ⟨a0,rfl,rfl,rfl,w0⟩:=open_int Tryz.underlying2 o h
 have h2:(decide (IntKind.i64.min≤a0)&&decide (a0≤IntKind.i64.max))=true:=w0
 rw [Bool.and_eq_true,decide_eq_true_eq,decide_eq_true_eq] at h2
 have e1:IntKind.i64.min=-9223372036854775808:=by decide
 have e2:IntKind.i64.max=9223372036854775807:=by decide
 rw [e1,e2] at h2
 exact ⟨a0,rfl,h2.1,h2.2⟩
end
section
open Go.RowKit bN bO
theorem Ws {α β:Type}(f:α→β){L:List α}{k:Nat}{x:α}(h:L[k]? = some x):(L.take k).map f++[f x]=(L.take (k+1)).map f:=by rw [List.take_add_one,h,Option.toList_some,List.map_append];rfl
def mid {α:Type}(f:α→α)(L:List α)(k:Nat):List α:=(L.take k).map f++L.drop k
theorem KC {α:Type}{f:α→α}{L:List α}{k:Nat}{x:α}(h:L[k]? = some x):(mid f L k)[k]? = some x:=by
 have hk:=kM h
 unfold mid
 rw [List.getElem?_append_right (by simp;omega),List.length_map,List.length_take,show k-min k L.length=0 by omega,List.getElem?_drop,Nat.add_zero,h]
theorem EW {α:Type}{f:α→α}{L:List α}{k:Nat}{x:α}(h:L[k]? = some x):(mid f L k).set k (f x)=mid f L (k+1):=by
 obtain ⟨hk,hx⟩:=List.getElem?_eq_some_iff.1 h
 unfold mid
 rw [List.set_append_right _ _ (by simp;omega),List.length_map,List.length_take,show k-min k L.length=0 by omega,List.drop_eq_getElem_cons hk,List.set_cons_zero,←Ws f h,List.append_assoc]
 rfl
theorem mid_zero {α:Type}{f:α→α}{L:List α}:mid f L 0=L:=by simp [mid]
theorem mid_end {α:Type}{f:α→α}{L:List α}:mid f L L.length=L.map f:=by simp [mid]
theorem OP {α:Type}{f:α→α}{L:List α}{k:Nat}:(mid f L k).length=L.length:=by simp [mid];omega
end
section
open Go.RowKit bN bO bJ bQ eO
theorem VJ {α:Type}{L:List α}{k:Nat}{x:α}(h:L[k]? = some x):L.set k x=L:=by
 apply List.ext_getElem?
 intro i
 rw [List.getElem?_set]
 by_cases e:k=i
 ·subst e;rw [if_pos rfl,if_pos (List.getElem?_eq_some_iff.1 h).1,h]
 ·rw [if_neg e]
theorem Row.bel {α:Type}{E:Rp α}(hE:Ok E){W W':World}{S:Nat→Prop}{L:List α}{g:Nat}{Sf:Nat→Nat→Prop}(h:Row E W S L g Sf)(hS:∀ k,S k→k<W.heap.size)(hb:Below W.heap.size W W'):Row E W' S L g Sf:=by
 refine ⟨h.own,fun j=>(hb.frozen (p:=⟨g,j,none⟩) (hS g h.own)).trans (h.soft j),h.sub,h.zO,fun i x hx=>?_⟩
 obtain ⟨us,hu,ho⟩:=h.el i x hx
 exact ⟨us,hu.keep (hb.block g (hS g h.own)),hE.bT ho fun q hq=>hb.block q (hS q (h.sub i q hq).1)⟩
theorem Xe {g o:Nat}{st a b:Int}{v:Value}{w:World}(h0:w.cell? ⟨g,o+11,none⟩=some (.int .i64 a))(h1:w.cell? ⟨g,o+12,none⟩=some (.int .i64 b))(h2:w.cell? ⟨g,o+13,none⟩=some v)(hs:∀ j,w.frozen? ⟨g,j,none⟩=false) :
 Calls Tryz.prog 144 #[.pointer (some ⟨g,o,none⟩),.int .i64 st] w fun e w'=>e=.returned (.tuple #[])∧w'=((w.setCell ⟨g,o+11,none⟩ (.int .i64 st)).setCell ⟨g,o+12,none⟩ (.int .i64 0)).setCell ⟨g,o+13,none⟩ (.slice none 0 0):=by
 have s0:=hs (o+11)
 have s1:=hs (o+12)
 have s2:=hs (o+13)
 go_enter Tryz.func144,Tryz.ntmps144
 go_wp2
 go_end0
 exact ⟨rfl,rfl⟩
theorem LZ {w:World}{g o:Nat}{A B C:List Value}(hA:A.length=11)(hB:B.length=3)(hC:C.length=3)(h:aR w g o (A++B)):aR (putCells w g (o+11) C) g o (A++C):=by
 obtain ⟨h1,h2⟩:=aR.app.1 h
 refine aR.app.2 ⟨fun j c hj=>?_,?_⟩
 ·have hj2:=(List.getElem?_eq_some_iff.1 hj).1
  rw [bF g C w (o+11) (Or.inl (by omega))]
  exact h1 j c hj
 ·rw [hA] at h2 ⊢
  refine dn g C w (o+11) fun j hj=>?_
  exact ⟨B[j]'(by omega),h2 j _ (List.getElem?_eq_getElem (by omega))⟩
def beT (st:Int):aF→aF
 | (lb,id,ow,need,long,prio,un,af,bo,_,_,_)=>(lb,id,ow,need,long,prio,un,af,bo,st,0,[])
theorem Bw {L:List aF}{S:Nat→Prop}{g cap k:Nat}{x:aF}{st:Int}{w:World}(h:bH aI w S L (some ⟨g,0,none⟩) cap)(hS:∀ q,S q→q<w.heap.size)(hx:L[k]? = some x) :
 bH aI (((w.setCell ⟨g,k*14+11,none⟩ (.int .i64 st)).setCell ⟨g,k*14+12,none⟩ (.int .i64 0)).setCell ⟨g,k*14+13,none⟩ (.slice none 0 0)) S (L.set k (beT st x)) (some ⟨g,0,none⟩) cap∧Off (fun q=>q=g) w (((w.setCell ⟨g,k*14+11,none⟩ (.int .i64 st)).setCell ⟨g,k*14+12,none⟩ (.int .i64 0)).setCell ⟨g,k*14+13,none⟩ (.slice none 0 0))∧(((w.setCell ⟨g,k*14+11,none⟩ (.int .i64 st)).setCell ⟨g,k*14+12,none⟩ (.int .i64 0)).setCell ⟨g,k*14+13,none⟩ (.slice none 0 0)).heap.size=w.heap.size∧S g:=by
 have hkl:=(List.getElem?_eq_some_iff.1 hx).1
 obtain ⟨g',Sf,hg',hrow⟩:=h.row (by omega)
 cases hg'
 obtain ⟨us,hu,hr⟩:=hrow.el k _ hx
 obtain ⟨⟨x0,x1⟩,x2,x3,x4,x5,x6,⟨x7,x8⟩,x9,x10,aS,aV,M⟩:=x
 obtain ⟨ba,bc,T5,rfl,hT5,Sm,fH⟩:=nP hr
 obtain ⟨e0,e1,e2,e3,e4,e5,e6,e7,e8,e9,e10,e11,e12,e13⟩:=kY (a:=k*14) hu rfl
 have XG:=hrow.own
 obtain ⟨w5,Dm⟩:∃ v,v=(((w.setCell ⟨g,k*14+11,none⟩ (.int .i64 st)).setCell ⟨g,k*14+12,none⟩ (.int .i64 0)).setCell ⟨g,k*14+13,none⟩ (.slice none 0 0)):=⟨_,rfl⟩
 rw [←Dm]
 have hw5':w5=putCells w g (k*14+11) [.int .i64 st,.int .i64 0,.slice none 0 0]:=Dm
 have hU:ni w w5 g (k*14) ((k+1)*14) (Sf k):=by
  rw [hw5']
  exact ni.put w (Sf k) ⟨by omega,by show k*14+11+3≤_;omega⟩
 have hcs:aR w5 g (k*14) [.int .i64 x0,.int .i64 x1,.int .i64 x2,.string x3,.int .i64 x4,.int .i64 x5,.int .i64 x6,.int .i64 x7,.int .i64 x8,.int .i64 x9,.int .i64 x10,.int .i64 st,.int .i64 0,.slice none 0 0]:=by
  rw [hw5']
  exact LZ (A:=[.int .i64 x0,.int .i64 x1,.int .i64 x2,.string x3,.int .i64 x4,.int .i64 x5,.int .i64 x6,.int .i64 x7,.int .i64 x8,.int .i64 x9,.int .i64 x10]) (B:=[.int .i64 aS,.int .i64 aV,.slice ba M.length bc]) (C:=[.int .i64 st,.int .i64 0,.slice none 0 0]) rfl rfl rfl hu
 have adD:=Row.set aA hrow hS hU hcs (lQ (x0:=x0) (x1:=x1) (x2:=x2) (x4:=x4) (x5:=x5) (x6:=x6) (x7:=x7) (x8:=x8) (x9:=x9) (x10:=x10) (aS:=st) (aV:=0) (L0:=[]) (T0:=fun _=>False) (fun q h=>h.elim) ⟨bK _,dV _,fun h=>absurd h (jH _)⟩ fH)
 refine ⟨adD.slice (by rw [List.length_set];exact h.1) h.2.1,?_,?_,XG⟩
 ·rw [Dm]
  exact (((Off.refl (fun q=>q=g) w).setCell (p:=⟨g,k*14+11,none⟩) rfl _).setCell (p:=⟨g,k*14+12,none⟩) rfl _).setCell (p:=⟨g,k*14+13,none⟩) rfl _
 ·rw [Dm]
  simp [World.setCell]
theorem Mr {L:List aF}{S:Nat→Prop}{g cap k:Nat}{x:aF}{st:Int}{w:World}(h:bH aI w S L (some ⟨g,0,none⟩) cap)(hS:∀ q,S q→q<w.heap.size)(hx:L[k]? = some x) :
 Calls Tryz.prog 144 #[.pointer (some ⟨g,k*14,none⟩),.int .i64 st] w fun e w'=>e=.returned (.tuple #[])∧bH aI w' S (L.set k (beT st x)) (some ⟨g,0,none⟩) cap∧Off (fun q=>q=g) w w'∧w'.heap.size=w.heap.size∧S g:=by
 have hto:=Bw (st:=st) h hS hx
 have hkl:=(List.getElem?_eq_some_iff.1 hx).1
 obtain ⟨g',Sf,hg',hrow⟩:=h.row (by omega)
 cases hg'
 obtain ⟨us,hu,hr⟩:=hrow.el k _ hx
 obtain ⟨⟨x0,x1⟩,x2,x3,x4,x5,x6,⟨x7,x8⟩,x9,x10,aS,aV,M⟩:=x
 obtain ⟨ba,bc,T5,rfl,hT5,Sm,fH⟩:=nP hr
 obtain ⟨e0,e1,e2,e3,e4,e5,e6,e7,e8,e9,e10,e11,e12,e13⟩:=kY (a:=k*14) hu rfl
 refine (Xe (g:=g) (o:=k*14) (st:=st) e11 e12 e13 hrow.soft).mono ?_
 rintro e w5 ⟨rfl,rfl⟩
 exact ⟨rfl,hto⟩
theorem FX.tasks {lo g:Nat}{w w':World}{y:dF}{L:List aF}{ca pa qa na ta ua:Option Addr}{cc pc qc nc tc uc c0 c1 n0 n1 t0 t1 u0 u1:Nat}(h:FX lo w g y ca pa qa na ta ua cc pc qc nc tc uc c0 c1 n0 n1 t0 t1 u0 u1)(ho:Off (fun q=>t0≤q∧q<t1) w w')(hT:bH aI w' (Rg t0 t1) L ta tc) :
 FX lo w' g (y.1,y.2.1,L,y.2.2.2) ca pa qa na ta ua cc pc qc nc tc uc c0 c1 n0 n1 t0 t1 u0 u1:=by
 have hd:=h.apart
 have hs:=ho.size
 have hk:∀ a b:Nat,b≤w.heap.size→(b≤t0∨t1≤a)→∀ q,Rg a b q→w'.heap[q]? = w.heap[q]?:=fun a b hb2 h2 q hq=>ho.block q (bV hq.2 hb2) (fun h3=>by have h4:=hq.1;have h5:=hq.2;have h6:=h3.1;have h7:=h3.2;omega)
 exact ⟨by omega,bX.bT h.cfg (hk _ _ (by omega) (by omega)),h.nds.keep aK (hk _ _ (by omega) (by omega)),hT,h.use.keep aU (hk _ _ (by omega) (by omega))⟩
theorem aO.offt {w w':World}{b t0 t1:Nat}{T:TypeId}{cs:Array Value}(h:aO w b T cs)(ho:Off (fun q=>t0≤q∧q<t1) w w')(hb:t1≤b∨b<t0):aO w' b T cs:=(ho.block b h.lt (fun h3=>by have h6:=h3.1;have h7:=h3.2;omega)).trans h
theorem abV {w w':World}{g t0 t1:Nat}(h:Off (fun q=>q=g) w w')(hg:Rg t0 t1 g):Off (fun q=>t0≤q∧q<t1) w w':=⟨h.os,h.tape,h.output,h.size,fun q hq hn=>h.block q hq (fun e=>hn (by rw [e];exact hg))⟩
theorem Ra {w w':World}{lo t0 t1:Nat}(h:Off (fun q=>t0≤q∧q<t1) w w')(hl:lo≤t0)(hw:lo≤w.heap.size):Below lo w w':=⟨h.os,h.tape,h.output,h.size,fun q hq=>h.block q (bV hq hw) (fun h3=>by have:=h3.1;omega)⟩
noncomputable def kL (n:Int)(x:aF):aF:=if kU x=2∧n∈jF x then beT 1 x else x
theorem Ee {n:Int}{x:aF}(h1:kU x=2)(h2:n∈jF x):kL n x=beT 1 x:=if_pos ⟨h1,h2⟩
theorem Ef {n:Int}{x:aF}(h1:¬kU x=2):kL n x=x:=if_neg fun h=>h1 h.1
theorem Eh {n:Int}{x:aF}(h1:¬n∈jF x):kL n x=x:=if_neg fun h=>h1 h.2
theorem wR {α:Type}{f:α→α}{L:List α}{k:Nat}{x:α}(hx:L[k]? = some x)(h:f x=x):mid f L (k+1)=mid f L k:=by
 rw [←EW hx,h]
 exact VJ (KC hx)
theorem LK {lo g:Nat}{w:World}{y:dF}{id n:Int}(hK:Ph lo w g y id) :
 Calls Tryz.prog 114 #[.pointer (some ⟨g,0,none⟩),.int .i64 n] w fun e w'=>e=.returned (.tuple #[])∧Ph lo w' g (y.1,y.2.1,y.2.2.1.map (kL n),y.2.2.2) id∧Below lo w w':=by
 obtain ⟨⟨C,P,Q,hf⟩,N,T,U,now⟩:=y
 obtain ⟨ca,pa,qa,na,ta,ua,cc,pc,qc,nc,tc,uc,c0,c1,n0,n1,t0,t1,u0,u1,hbk,hpt⟩:=hK
 have K0:=ak (show aO w g 133 #[.slice ca C.length cc,.slice pa P.length pc,.slice qa Q.length qc,.int .i64 hf,.slice na N.length nc,.slice ta T.length tc,.slice ua U.length uc,.int .i64 now,.int .i64 id] from hbk)
 have gY:=ak hpt
 have hlw:lo≤w.heap.size:=by have:=hpt.apart;omega
 have hTl:T.length≤9223372036854775807:=by have h1:T.length≤tc:=hpt.JH.1;have h2:tc≤maxLen:=hpt.JH.2.1;unfold maxLen at h2;omega
 clear hbk hpt
 have k5:=K0.out.at_ 5 rfl
 go_enter Tryz.func114,Tryz.ntmps114
 go_wp2
 clear k5
 go_loopw [12] (fun i wr=>∃ k:Nat,k≤T.length∧i=.int .i64 k∧Hid (aO wr g 133 #[.slice ca C.length cc,.slice pa P.length pc,.slice qa Q.length qc,.int .i64 hf,.slice na N.length nc,.slice ta T.length tc,.slice ua U.length uc,.int .i64 now,.int .i64 id])∧Hid (FX lo wr g ((C,P,Q,hf),N,mid (kL n) T k,U,now) ca pa qa na ta ua cc pc qc nc tc uc c0 c1 n0 n1 t0 t1 u0 u1)∧Below lo w wr) (fun i _=>T.length-(intOf i).toNat)
 case atStart=>exact ⟨0,dV _,rfl,K0,ak (by rw [mid_zero];exact gY.out),aW _ _⟩
 case round=>
  obtain ⟨k,hk,rfl,K1,cZ,hB⟩:=hrel
  have HB1:=ak hB
  clear hB
  by_cases hlt:k<T.length
  ·obtain ⟨⟨⟨x0,x1⟩,x2,x3,x4,x5,x6,⟨x7,x8⟩,x9,x10,aS,aV,M⟩,hx⟩:=aM hlt
   have HX:=ak hx
   have HMX:=ak (KC (f:=kL n) hx)
   have hap:=cZ.out.apart
   obtain ⟨gt,Sf,rfl,hrow⟩:=cZ.out.JH.row (by show 0<(mid (kL n) T k).length;rw [OP];omega)
   obtain ⟨us,hu,hr⟩:=hrow.el k _ HMX.out
   obtain ⟨ba,bc,T5,rfl,hT5,Sm,fH⟩:=nP hr
   have XG:t0≤gt∧gt<t1:=hrow.own
   have hgl:gt<wr.heap.size:=by omega
   obtain ⟨e0,e1,e2,e3,e4,e5,e6,e7,e8,e9,e10,e11,e12,e13⟩:=kY (a:=k*14) hu rfl
   have Cz:=ak (show aJ I wr wr.heap.size M ba bc from Sm.rd cK fun q hq=>by have h1:=(hrow.sub k q (hT5 q hq)).1;have h2:q<t1:=h1.2;omega)
   have hi0:(0:Int)≤(k:Int):=eu _
   have hi1:(k:Int)<(T.length:Int):=by omega
   obtain ⟨w3,hw3⟩:∃ v,v=wr.alloc (.cells #[.int .i64 x0,.int .i64 x1,.int .i64 x2,.string x3,.int .i64 x4,.int .i64 x5,.int .i64 x6,.int .i64 x7,.int .i64 x8,.int .i64 x9,.int .i64 x10,.int .i64 aS,.int .i64 aV,.slice ba M.length bc] 72):=⟨_,rfl⟩
   have hb3:Below wr.heap.size wr w3:=by rw [hw3];exact (aW _ _).alloc (bK _) _
   have X3:=ak (show aO w3 wr.heap.size 72 #[.int .i64 x0,.int .i64 x1,.int .i64 x2,.string x3,.int .i64 x4,.int .i64 x5,.int .i64 x6,.int .i64 x7,.int .i64 x8,.int .i64 x9,.int .i64 x10,.int .i64 aS,.int .i64 aV,.slice ba M.length bc] from by rw [hw3];exact aO.new _ _ _)
   have hlr:lo≤wr.heap.size:=by omega
   have K3:=ak (K1.out.call hb3)
   have iG:=ak (cZ.out.call hb3)
   have HM3:=ak (aD cK Cz.out hb3)
   have HB3:=ak (HB1.out.trans (hb3.mono hlr))
   have hz3:=hb3.size
   clear hx hu hr hrow hT5 Sm fH hb3
   go_upto_region 3 with fail
   rw [←hw3]
   clear hw3 e0 e1 e2 e3 e4 e5 e6 e7 e8 e9 e10 e11 e12 e13
   obtain ⟨q0,q1,q2,q3,q4,q5,q6,q7,q8,q9,Mx,Mw,Mv,FR⟩:=X3.out.fF rfl
   by_cases hrun:aS=2
   rotate_left
   ·have HM:=ak (wR HX.out (Ef (n:=n) (x:=((x0,x1),x2,x3,x4,x5,x6,(x7,x8),x9,x10,aS,aV,M)) hrun))
    have hb:(aS==2)=false:=by simp [hrun]
    go_wp2_with fail
    refine (qX (x0:=x0) (x1:=x1) (x2:=x2) (x3:=x3) (x4:=x4) (x5:=x5) (x6:=x6) (x7:=x7) (x8:=x8) (x9:=x9) (x10:=x10) (aS:=aS) (aV:=aV) (M:=M) (ma:=ba) (mc:=bc) hb w3).mono ?_
    rintro e w4 ⟨rfl,hb4⟩
    have KX:=ak (K3.out.call hb4)
    have HPX:=ak (iG.out.call hb4)
    have Gb:=ak (HB3.out.trans (hb4.mono (eF hlr hz3)))
    clear hb4 q0 q1 q2 q3 q4 q5 q6 q7 q8 q9 Mx Mw Mv FR
    go_wp2
    go_roundw
    case rel=>exact ⟨k+1,by omega,by go_num,KX,ak (by rw [HM.out];exact HPX.out),Gb.out⟩
    case measure=>simp [intOf];omega
   have hb:(aS==2)=true:=by simp [hrun]
   have EI:=ak hrun
   clear hrun
   go_wp2_with fail
   refine (qX (x0:=x0) (x1:=x1) (x2:=x2) (x3:=x3) (x4:=x4) (x5:=x5) (x6:=x6) (x7:=x7) (x8:=x8) (x9:=x9) (x10:=x10) (aS:=aS) (aV:=aV) (M:=M) (ma:=ba) (mc:=bc) hb w3).mono ?_
   rintro e w4 ⟨rfl,hb4⟩
   have X4:=ak (X3.out.call hb4)
   have K4:=ak (K3.out.call hb4)
   have j5:=ak (iG.out.call hb4)
   have HM4:=ak (aD cK HM3.out hb4)
   have jL:=ak (HB3.out.trans (hb4.mono (eF hlr hz3)))
   have lW:=hb4.size
   clear hb4 q0 q1 q2 q3 q4 q5 q6 q7 q8 q9 Mx Mw Mv FR
   have JX:=X4.out.at_ 13 rfl
   go_wp2_with fail
   refine (xq HM4.out).mono ?_
   intro e w5 h
   obtain ⟨b,rfl,XH,hb5⟩:=bq h
   have K5:=ak (K4.out.call hb5)
   have xA:=ak (j5.out.call hb5)
   have lX:=ak (jL.out.trans (hb5.mono (eF hlr (eF hz3 lW))))
   have uI:=hb5.size
   clear h hb5 JX
   cases b with
   | false=>
    have HM:=ak (wR HX.out (Eh (n:=n) (x:=((x0,x1),x2,x3,x4,x5,x6,(x7,x8),x9,x10,aS,aV,M)) (fun h=>by have:=XH.2 h;cases this)))
    have KX:=ak K5.out
    have HPX:=ak xA.out
    have Gb:=ak lX.out
    clear XH
    go_wp2
    go_roundw
    case rel=>exact ⟨k+1,by omega,by go_num,KX,ak (by rw [HM.out];exact HPX.out),Gb.out⟩
    case measure=>simp [intOf];omega
   | true=>
    have HM:=ak ((EW (f:=kL n) HX.out).symm.trans (congrArg _ (Ee (n:=n) (x:=((x0,x1),x2,x3,x4,x5,x6,(x7,x8),x9,x10,aS,aV,M)) EI.out (XH.1 rfl))))
    have HBE:=ak (Mr (st:=1) xA.out.JH (fun q hq=>by have h1:q<t1:=hq.2;omega) HMX.out)
    have k5:=K5.out.at_ 5 rfl
    clear XH
    go_wp2_with fail
    refine HBE.out.mono ?_
    rintro e w6 ⟨rfl,hT6,ho6,hs6,hg6⟩
    have YO:=abV ho6 hg6
    have KX:=ak (aO.offt K5.out YO (by omega))
    have HPX:=ak (xA.out.tasks YO hT6)
    have Gb:=ak (lX.out.trans (Ra YO (show lo≤t0 by omega) (by omega)))
    clear hT6 ho6 YO hs6 hg6 HBE k5
    go_wp2
    go_roundw
    case rel=>exact ⟨k+1,by omega,by go_num,KX,ak (by rw [HM.out];exact HPX.out),Gb.out⟩
    case measure=>simp [intOf];omega
  ·have hdl:decide ((k:Int)<(T.length:Int))=false:=dS (by omega)
   obtain rfl:k=T.length:=by omega
   have FN:=ak (show FX lo wr g ((C,P,Q,hf),N,T.map (kL n),U,now) ca pa qa na ta ua cc pc qc nc tc uc c0 c1 n0 n1 t0 t1 u0 u1 from by have h:=cZ.out;rw [mid_end] at h;exact h)
   go_wp2
   go_end0
   exact ⟨rfl,⟨ca,pa,qa,na,ta,ua,cc,pc,qc,nc,tc,uc,c0,c1,n0,n1,t0,t1,u0,u1,by show aO wr g _ #[_,_,_,_,_,.slice ta (T.map (kL n)).length tc,_,_,_];rw [List.length_map];exact K1.out,FN.out⟩,HB1.out⟩
end
section
open Go.RowKit bN bO bJ bQ
def ChgR (wq:World)(S:Nat→Prop)(ng:aP→Int×aP)(M:List aP)(g k:Nat)(x:aP)(e:Ending)(w':World):Prop:=
 e=.returned (.int .i64 (ng x).1)∧Off S wq w'∧((ng x).1=0→∃ S' Eu,Row aL w' S' (M.set k (ng x).2) g Eu∧∀ q,S' q→(S q∨wq.heap.size≤q)∧q<w'.heap.size)
theorem RO {wq:World}{S:Nat→Prop}{ng:aP→Int×aP}{M:List aP}{g k:Nat}{x:aP}{e:Ending}{w':World}(h:ChgR wq S ng M g k x e w'):e=.returned (.int .i64 (ng x).1)∧Off S wq w'∧((ng x).1=0→∃ S' Eu,Row aL w' S' (M.set k (ng x).2) g Eu∧∀ q,S' q→(S q∨wq.heap.size≤q)∧q<w'.heap.size):=h
def ChgF (F:Nat)(lb:Array Value)(ng:aP→Int×aP)(W:World):Prop:=
 ∀ (wq:World) (S:Nat→Prop) (M:List aP) (g k:Nat) (Sf:Nat→Nat→Prop) (x:aP),Row aL wq S M g Sf→(∀ q,S q→q<wq.heap.size)→(∀ q,S q→W.heap.size≤q)→Below W.heap.size W wq→M[k]? = some x→PN x →
  Calls Tryz.prog F (#[.pointer (some ⟨g,k*2,none⟩)]++lb) wq (ChgR wq S ng M g k x)
theorem kI {W w':World}{c:Int}(hb:Below W.heap.size W w'):kT eX ([],c) W (.returned (.agg #[.slice none 0 0,.int .i64 c])) w':=
 ⟨[.slice none 0 0,.int .i64 c],rfl,oI (T0:=fun _=>False) (L0:=[]) (fun k h=>h.elim) ⟨bK _,dV _,fun h=>absurd h (jH _)⟩,hb⟩
theorem Em {L:List aP}{n:Int}{ok:Bool}{ng:aP→Int×aP}(h:400<L.length):lg L n ok ng=([],2):=by unfold lg;rw [if_pos h]
theorem sH {L:List aP}{n:Int}{ok:Bool}{ng:aP→Int×aP}(h:¬400<L.length)(h2:(iU L&&ok)=false):lg L n ok ng=([],1):=by unfold lg;rw [if_neg h,if_pos h2]
theorem yE {L:List aP}{n:Int}{ok:Bool}{ng:aP→Int×aP}(h:¬400<L.length)(h2:(iU L&&ok)=true)(h3:dD n 0 ((L.length:Int)-1)=false):lg L n ok ng=([],6):=by unfold lg;rw [if_neg h,if_neg (by rw [h2];decide),if_pos h3]
theorem E5 {L:List aP}{m:Nat}{ok:Bool}{ng:aP→Int×aP}{x:aP}(h:¬400<L.length)(h2:(iU L&&ok)=true)(hx:L[m]? = some x):lg L m ok ng=if (ng x).1=0 then (L.set m (ng x).2,0) else ([],(ng x).1):=by
 have hm:=kM hx
 have h3:dD (m:Int) 0 ((L.length:Int)-1)=true:=(dG _ _ _).2 ⟨by omega,by omega⟩
 unfold lg
 rw [if_neg h,if_neg (by rw [h2];decide),if_neg (by rw [h3];decide),Int.toNat_natCast,hx]
theorem JE {F:Nat}{lb:Array Value}{ng:aP→Int×aP}(eg:∀ args w,(callFunc F args).run Tryz.prog w=.ok (.enter F args) w){L:List aP}{n:Int}{ok:Bool}{a:Option Addr}{cap:Nat}{W:World}(h:aJ aL W W.heap.size L a cap)(hF:ChgF F lb ng W) :
 Calls Tryz.prog 171 #[.slice a L.length cap,.int .i64 n,.bool ok,.func (.func F) #[] lb] W (kT eX (lg L n ok ng) W):=by
 obtain ⟨w0,hw0⟩:∃ w,w=W.alloc (.cells #[.slice none 0 0,.int .i64 0] 95):=⟨_,rfl⟩
 have hb0:Below W.heap.size W w0:=by rw [hw0];exact (aW _ _).alloc (bK _) _
 have X0:=ak (show aO w0 W.heap.size 95 #[.slice none 0 0,.int .i64 0] from by rw [hw0];exact aO.new _ _ _)
 have H0:=ak (qR aK h hb0)
 have HB0:=ak hb0
 have HF:=ak hF
 have HEG:=ak eg
 have hnn:=EK h
 have hz0:=hb0.size
 have hs:=Hz H0.out
 obtain ⟨z,hz⟩:∃ z,iU L=z:=⟨_,rfl⟩
 rw [hz] at hs
 have HZ:=ak hz
 clear h hF eg hz hb0
 by_cases CV:400<L.length
 ·rw [Em CV]
  have hd:decide ((400:Int)<(L.length:Int))=true:=eD (by omega)
  go_enter Tryz.func171,Tryz.ntmps171
  go_wp2
  refine qC (v:=.agg #[.slice none 0 0,.int .i64 2]) (by simp [results,Tryz.results171,go_sem, *]) rfl (kI ?_)
  first | exact (aW _ _).alloc (bK _) _ | exact ((aW _ _).alloc (bK _) _).setCell (by first | omega | simp) _
 have hd:decide ((400:Int)<(L.length:Int))=false:=dS (by omega)
 go_enter Tryz.func171,Tryz.ntmps171
 go_wp2_with fail
 rw [←hw0]
 clear hw0
 refine hs.mono ?_
 intro e w1 h
 obtain ⟨rfl,hb⟩:=bU h
 have X1:=ak (X0.out.call hb)
 have H1:=ak (qR aK H0.out hb)
 have HB1:=ak (HB0.out.trans (hb.mono hz0))
 obtain ⟨q0,q1⟩:=X1.out.kS rfl
 obtain ⟨f0,f1⟩:=X1.out.Ae
 clear h hb hs
 by_cases hzo:(z&&ok)=false
 ·have HE:=ak (sH (n:=n) (ng:=ng) CV (show (iU L&&ok)=false from by rw [HZ.out];exact hzo))
  have key:z=false∨(z=true∧ok=false):=by cases z <;> cases ok <;> simp_all
  clear hzo
  rcases key with rfl | ⟨rfl,rfl⟩
  ·go_wp2
   rw [HE.out]
   refine qC (v:=.agg #[.slice none 0 0,.int .i64 1]) (by simp [results,Tryz.results171,go_sem, *]) rfl (kI ?_)
   exact (HB1.out.setCell (p:=⟨W.heap.size,0,none⟩) (bK _) _).setCell (p:=⟨W.heap.size,1,none⟩) (bK _) _
  ·go_wp2
   rw [HE.out]
   refine qC (v:=.agg #[.slice none 0 0,.int .i64 1]) (by simp [results,Tryz.results171,go_sem, *]) rfl (kI ?_)
   exact (HB1.out.setCell (p:=⟨W.heap.size,0,none⟩) (bK _) _).setCell (p:=⟨W.heap.size,1,none⟩) (bK _) _
 have hzo2:z=true∧ok=true:=by cases z <;> cases ok <;> simp_all
 obtain ⟨rfl,rfl⟩:=hzo2
 have HZO:=ak (show (iU L&&true)=true from by rw [HZ.out];rfl)
 have hN:=gG.1 HZ.out
 have hsm:=lJ hN
 have hL1:=hN.1.1
 have hL6:=hN.1.2
 have HN:=ak hN
 clear hzo hN
 have hwr:IntKind.i64.wrap ((L.length:Int)-1)=(L.length:Int)-1:=gK _ (by omega)
 obtain ⟨y,hy⟩:∃ y,dD n 0 ((L.length:Int)-1)=y:=⟨_,rfl⟩
 have hi:=fun W=>lF n 0 ((L.length:Int)-1) W
 rw [hy] at hi
 have HY:=ak hy
 clear hy
 cases y with
 | false=>
  have HE:=ak (yE (ng:=ng) CV HZO.out HY.out)
  go_wp2_with (go_at_call 191;refine (hi _).mono ?_;rintro e w' ⟨rfl,rfl⟩)
  rw [HE.out]
  refine qC (v:=.agg #[.slice none 0 0,.int .i64 6]) (by simp [results,Tryz.results171,go_sem, *]) rfl (kI ?_)
  exact (HB1.out.setCell (p:=⟨W.heap.size,0,none⟩) (bK _) _).setCell (p:=⟨W.heap.size,1,none⟩) (bK _) _
 | true=>
  have hnb:=(dG _ _ _).1 HY.out
  obtain ⟨m,rfl⟩:∃ m:Nat,n=m:=⟨n.toNat,by omega⟩
  have hm:m<L.length:=by omega
  obtain ⟨x,hx⟩:=aM hm
  have HV:=ak (E5 (ng:=ng) CV HZO.out hx)
  have kX:=ak (jR HN.out hx)
  have HX:=ak hx
  have hi0:(0:Int)≤(m:Int):=eu _
  have hi1:(m:Int)<(L.length:Int):=by omega
  clear hx hnb q0 q1 f0 f1
  go_wp2_with (first | (go_at_call 191;refine (hi _).mono ?_;rintro e w' ⟨rfl,rfl⟩) | fail)
  refine (za hsm.1 (by omega) hsm.2 H1.out).mono ?_
  intro e w2 h
  obtain ⟨a',c',rfl,ho,hb⟩:=bL h
  obtain ⟨g,Sf,rfl,hrow⟩:=ho.row (by omega)
  have hc1:=ho.1
  have hc2:=ho.2.1
  have HB2:=ak (HB1.out.trans (hb.mono HB1.out.size))
  have X2:=ak (X1.out.call hb)
  have hsz12:=hb.size
  have hlt1:=X1.out.lt
  have hcl:=HF.out w2 _ L g m Sf x hrow (fun q hq=>hq.2) (fun q hq=>eF HB1.out.size hq.1) HB2.out HX.out kX.out
  have MZ:=ak hcl
  have eg:=HEG.out
  clear h ho hb hrow hcl hi hwr
  go_wp2_with fail
  refine MZ.out.mono ?_
  intro e w3 h
  obtain ⟨rfl,hof,hrow⟩:=RO h
  have hz2:=HB2.out.size
  have hz3:=hof.size
  have hxl:=X2.out.lt
  have X3:=ak (show aO w3 W.heap.size 95 #[.slice none 0 0,.int .i64 0] from (hof.block W.heap.size hxl (fun h=>by have h9:w1.heap.size≤W.heap.size:=h.1;omega)).trans X2.out)
  have HB3:=ak (HB2.out.trans (hof.below hz2 fun q hq=>eF HB1.out.size hq.1))
  have HROW:=ak hrow
  have HVV:=ak HV.out
  obtain ⟨c,hc⟩:∃ c,(ng x).1=c:=⟨_,rfl⟩
  have HC:=ak hc
  rw [hc]
  obtain ⟨q0,q1⟩:=X3.out.kS rfl
  obtain ⟨f0,f1⟩:=X3.out.Ae
  clear h hof hrow hc eg
  by_cases hc0:c=0
  ·have HC0:=ak hc0
   subst hc0
   go_wp2
   rw [HV.out,if_pos HC.out]
   obtain ⟨S',Eu,hR,hS⟩:=HROW.out HC.out
   refine qC (v:=.agg #[.slice (some ⟨g,0,none⟩) L.length c',.int .i64 0]) (by simp [results,Tryz.results171,go_sem, *]) rfl ⟨[.slice (some ⟨g,0,none⟩) (L.set m (ng x).2).length c',.int .i64 0],by rw [List.length_set],?_,(HB3.out.setCell (p:=⟨W.heap.size,0,none⟩) (bK _) _).setCell (p:=⟨W.heap.size,1,none⟩) (bK _) _⟩
   refine oI (T0:=S') (fun q hq=>?_) ((hR.slice (by rw [List.length_set];exact hc1) hc2).keep aK fun q hq=>?_)
   ·obtain ⟨h1,h2⟩:=hS q hq
    refine ⟨?_,by simp;exact h2⟩
    rcases h1 with h1 | h1
    ·exact eF HB1.out.size h1.1
    ·omega
   ·have hq2:q≠W.heap.size:=by
     obtain ⟨h1,h2⟩:=hS q hq
     rcases h1 with h1 | h1
     ·have h9:w1.heap.size≤q:=h1.1;omega
     ·omega
    rw [Below.heap_setCell _ ⟨W.heap.size,1,none⟩ _ q hq2,Below.heap_setCell _ ⟨W.heap.size,0,none⟩ _ q hq2]
  ·have hb:(c != 0)=true:=by simp [hc0]
   have HC0:=ak hc0
   clear hc0
   go_wp2
   rw [HV.out,if_neg (by rw [HC.out];exact HC0.out),HC.out]
   refine qC (v:=.agg #[.slice none 0 0,.int .i64 c]) (by simp [results,Tryz.results171,go_sem, *]) rfl (kI ?_)
   exact (HB3.out.setCell (p:=⟨W.heap.size,0,none⟩) (bK _) _).setCell (p:=⟨W.heap.size,1,none⟩) (bK _) _
theorem DN {st:Int}{M:List dJ}{s:Int}(h:s=st):lY st (s,M)=(10,(s,M)):=if_pos h
theorem G9 {st:Int}{M:List dJ}{s:Int}(h:s≠st):lY st (s,M)=(0,(st,M)):=if_neg h
theorem ZH {bx:Nat}{st:Int}{W:World}(hbx:W.cell? ⟨bx,0,none⟩=some (.int .i64 st))(hbl:bx<W.heap.size):ChgF 173 #[.pointer (some ⟨bx,0,none⟩)] (lY st) W:=fun wq S M g k Sf x hR hS1 hS2 hB hx hok=>by
 show Calls Tryz.prog 173 #[.pointer (some ⟨g,k*2,none⟩),.pointer (some ⟨bx,0,none⟩)] wq _
 obtain ⟨us,hu,hr⟩:=hR.el k x hx
 obtain ⟨s,B⟩:=x
 obtain ⟨ba,bc,T0,rfl,hT0,hO⟩:=zT hr
 rw [eT] at hu
 have hgl:g<wq.heap.size:=hS1 g hR.own
 have e0:wq.cell? ⟨g,k*2,none⟩=some (.int .i64 s):=by simpa using hu 0 _ rfl
 have e1:wq.cell? ⟨g,k*2+1,none⟩=some (.slice ba B.length bc):=hu 1 _ rfl
 have eb:wq.cell? ⟨bx,0,none⟩=some (.int .i64 st):=(hB.cell (p:=⟨bx,0,none⟩) hbl).trans hbx
 have hbl2:bx<wq.heap.size:=bV hbl hB.size
 have HR:=ak hR
 have zn:=ak hS1
 have HT0:=ak hT0
 have HO:=ak hO
 have HX:=ak hx
 have Sy:=ak e1
 have hgb:bx≠g:=fun e=>by have:=hS2 g hR.own;omega
 clear hR hS1 hT0 hO hx hu hr hok hB hS2 hbx hbl e1
 by_cases hs:s=st
 ·have hq:(s==st)=true:=beq_iff_eq.2 hs
  have HV:=ak (DN (M:=B) hs)
  clear hs
  go_enter Tryz.func173,Tryz.ntmps173
  go_wp2_with fail
  refine dX (S:=(fun V=>Below (wq).heap.size (wq) V)) (by kernel_rfl) ((aW _ _).drew) (fun ah=>?_)
  refine tk 0 ah ?_
  refine tk 1 ah ?_
  refine tk 2 ah ?_
  refine tk 3 ah ?_ (hy:=fun w aj=>by (try dsimp only at aj);have k0:=(aj.cell (p:=⟨g,k*2,none⟩) hgl).trans e0;clear aj;go_simp;try with_reducible rfl)
  refine tk 4 ah ?_ (hy:=fun w aj=>by (try dsimp only at aj);have k0:=(aj.cell (p:=⟨bx,0,none⟩) hbl2).trans eb;clear aj;go_simp;try with_reducible rfl)
  refine tk 5 ah ?_
  refine dQ ?_
  have HF:=ak ah
  clear ah
  go_wp2
  go_ret
  exact ⟨by rw [HV.out];rfl,(Off.refl _ wq).of_below HF.out,fun h=>by rw [HV.out] at h;cases h⟩
 ·have hq:(s==st)=false:=beq_eq_false_iff_ne.2 hs
  have HV:=ak (G9 (M:=B) hs)
  clear hs
  go_enter Tryz.func173,Tryz.ntmps173
  go_wp2_with fail
  refine dX (S:=(fun V=>Below (wq).heap.size (wq) V)) (by kernel_rfl) ((aW _ _).drew) (fun ah=>?_)
  refine tk 0 ah ?_
  refine tk 1 ah ?_
  refine tk 2 ah ?_
  refine tk 3 ah ?_ (hy:=fun w aj=>by (try dsimp only at aj);have k0:=(aj.cell (p:=⟨g,k*2,none⟩) hgl).trans e0;clear aj;go_simp;try with_reducible rfl)
  refine tk 4 ah ?_ (hy:=fun w aj=>by (try dsimp only at aj);have k0:=(aj.cell (p:=⟨bx,0,none⟩) hbl2).trans eb;clear aj;go_simp;try with_reducible rfl)
  refine tk 5 ah ?_
  refine dQ ?_
  have HF:=ak ah
  clear ah
  have s0:=HR.out.soft (k*2)
  go_wp2
  go_ret
  have hset:∀ q,q≠g→(wq.drew.setCell ⟨g,k*2,none⟩ (.int .i64 st)).heap[q]? = wq.heap[q]?:=fun q hq=>Below.heap_setCell wq.drew ⟨g,k*2,none⟩ _ q hq
  have hU:ni wq (wq.drew.setCell ⟨g,k*2,none⟩ (.int .i64 st)) g (k*2) ((k+1)*2) (Sf k):=(ni.below (T:=Sf k) (aW _ wq).drew hgl).trans (ni.set (lo:=k*2) (hi:=(k+1)*2) _ _ ⟨by omega,by omega⟩ _)
  have hrow:=HR.out.set aK zn.out (x:=(st,B)) (us:=[.int .i64 st,.slice ba B.length bc]) (by rw [eT];exact hU) (fun j d hd=>by
   rw [eT]
   match j,hd with
   | 0,hd=>simp at hd;subst hd;exact World.cell?_setCell_same _ _ _ e0
   | 1,hd=>simp at hd;subst hd;rw [World.cell?_setCell_other _ _ _ _ (fun e=>by injection e with _ e2;omega)];exact Sy.out
   | j+2,hd=>simp at hd) (lS HT0.out (HO.out.keep bG fun q hq=>hset q (HR.out.sub k q (HT0.out q hq)).2))
  refine ⟨by rw [HV.out];rfl,((Off.refl _ wq).of_below (aW _ wq).drew).setCell (p:=⟨g,k*2,none⟩) HR.out.own _,fun _=>⟨S,Sf,by rw [HV.out];exact hrow,fun q hq=>⟨.inl hq,by have:=zn.out q hq;simpa using this⟩⟩⟩
theorem VK {L:List aP}{n st:Int}{a:Option Addr}{cap:Nat}{W:World}(h:aJ aL W W.heap.size L a cap) :
 Calls Tryz.prog 113 #[.slice a L.length cap,.int .i64 n,.int .i64 st] W (kT eX (lg L n (dD st 1 3) (lY st)) W):=by
 obtain ⟨w0,hw0⟩:∃ w,w=W.alloc (.cells #[.int .i64 st] 2):=⟨_,rfl⟩
 have hb0:Below W.heap.size W w0:=by rw [hw0];exact (aW _ _).alloc (bK _) _
 have hs0:w0.heap.size=W.heap.size+1:=by rw [hw0];simp
 have x0:aO w0 W.heap.size 2 #[.int .i64 st]:=by rw [hw0];exact aO.new _ _ _
 obtain ⟨w1,hw1⟩:∃ w,w=w0.alloc (.cells #[.slice none 0 0,.int .i64 0] 95):=⟨_,rfl⟩
 have hb1:Below w0.heap.size w0 w1:=by rw [hw1];exact (aW _ _).alloc (bK _) _
 have hs1:w1.heap.size=W.heap.size+2:=by rw [hw1];simp [hs0]
 have XR:=ak (show aO w1 (W.heap.size+1) 95 #[.slice none 0 0,.int .i64 0] from by rw [←hs0,hw1];exact aO.new _ _ _)
 have X1:=ak (x0.call hb1)
 have HB1:=ak (hb0.trans (hb1.mono hb0.size))
 have Aa:=ak hs1
 have H:=ak (qR aK h HB1.out)
 have HCH:=ak (ZH (X1.out.at_ 0 rfl) X1.out.lt)
 have hst:=fun W=>uX st W
 have hmf:∀ (fn:Fn) (first cap:Array Value) (w:World),(Instr.makeFunc fn first cap).run Tryz.prog w=.ok (.func fn first cap) w:=fun _ _ _ _=>rfl
 have eg:∀ args w,(callFunc 173 args).run Tryz.prog w=.ok (.enter 173 args) w:=enters_of Tryz.func173 (by kernel_rfl) rfl
 have HEG:=ak eg
 clear eg h hb0 hb1 x0 hs1
 have p0:=X1.out.at_ 0 rfl
 rw [hw1,hw0] at p0
 go_enter Tryz.func113,Tryz.ntmps113
 go_wp2_with (first | (go_at_call 172;refine (hst _).mono ?_;rintro e w' ⟨rfl,rfl⟩) | fail)
 rw [←hw0,←hw1]
 clear p0 hw1 hw0 hs0
 refine (JE HEG.out H.out HCH.out).mono ?_
 intro e w5 h
 obtain ⟨⟨R,cd⟩,hd⟩:∃ d,lg L n (dD st 1 3) (lY st)=d:=⟨_,rfl⟩
 rw [hd] at h
 have Xy:=ak hd
 obtain ⟨us,rfl,hu,hb⟩:=bY h
 obtain ⟨a0,c0,rfl,hu⟩:=Fu hu
 have XR:=ak (XR.out.call hb)
 have lX:=ak (HB1.out.trans (hb.mono HB1.out.size))
 have HU:=ak hu
 obtain ⟨q0,q1⟩:=XR.out.kS rfl
 obtain ⟨f0,f1⟩:=XR.out.Ae
 have hzr:=XR.out.lt
 have hz1:=hb.size
 clear h hu hb hd
 go_wp2
 refine qC (v:=.agg #[.slice a0 R.length c0,.int .i64 cd]) (by simp [results,Tryz.results113,go_sem, *]) rfl ⟨[.slice a0 R.length c0,.int .i64 cd],rfl,?_,(lX.out.setCell (p:=⟨W.heap.size+1,0,none⟩) (show W.heap.size≤W.heap.size+1 by omega) _).setCell (p:=⟨W.heap.size+1,1,none⟩) (show W.heap.size≤W.heap.size+1 by omega) _⟩
 have hsw:=Aa.out
 rw [Xy.out]
 refine uF.pU (uF.bT HU.out fun q hq=>?_) fun q hq=>⟨?_,?_⟩
 ·have hq1:=hq.1
  rw [Below.heap_setCell _ ⟨W.heap.size+1,1,none⟩ _ q (show q≠W.heap.size+1 by omega),Below.heap_setCell _ ⟨W.heap.size+1,0,none⟩ _ q (show q≠W.heap.size+1 by omega)]
 ·have hq1:=hq.1
  omega
 ·have hq2:=hq.2
  simp;exact hq2
end
section
open Go.RowKit bN bO
theorem ZV {k:Int}:bC.mm ((k,k+1),(jv (k+1+1)),k+1+1+1) k (k+1+1+1+1):=by
 dsimp only [bC,av,St,Pr,I,atom,Sl]
 exact ⟨k+1+1,⟨k+1,⟨by omega,by omega⟩,⟨by omega,by omega⟩⟩,⟨k+1+1+1,⟨rfl,by omega⟩,⟨by omega,by omega⟩⟩⟩
theorem ZW {k k':Int}{x0:Int}{x1:Int}{x2:ByteArray}{x3:Int}(h:bC.mm ((x0,x1),x2,x3) k k'):x0=k∧x1=k+1∧x2=jv (k+1+1)∧x3=k+1+1+1∧k'=k+1+1+1+1:=by
 dsimp only [bC,av,St,Pr,I,atom,Sl] at h
 obtain ⟨z1,h1,g1⟩:=h
 obtain ⟨z2,h2,g2⟩:=h1
 obtain ⟨e0,f0⟩:=h2
 have e0:x0=_:=e0
 obtain ⟨e1,f1⟩:=g2
 have e1:x1=_:=e1
 obtain ⟨z3,h3,g3⟩:=g1
 obtain ⟨e2,f2⟩:=h3
 have e2:x2=_:=e2
 obtain ⟨e3,f3⟩:=g3
 have e3:x3=_:=e3
 exact ⟨by omega,by omega,by rw [e2];exact congrArg jv (by omega),by omega,by omega⟩
theorem wU:Mn bC:=(jV eY (jV aa0 pG))
theorem acp:(bC).size=4:=rfl
theorem Rk {L:List (bI)}{a:Option Addr}{cap:Nat}{W:World}{S:Nat→Prop}{k:Int}(h0:0≤k)(h1:k+(bD (bC).cm L:Nat)≤4611686018427387904)(hS:∀ i,S i→i<W.heap.size)(h:bH bC W S L a cap):Calls Tryz.prog 46 #[.slice a L.length cap,.int .i64 k] W (jD bC S L a cap k W):=by
 have hcap:=h.1
 have hmax:=h.2.1
 have hn:L.length≤9223372036854775807:=by have h2:=h.2.1;unfold maxLen at h2;omega
 have H:=ak h
 have HCAP:=ak hcap
 have qP:=ak hmax
 clear h hcap hmax
 rcases Nat.eq_zero_or_pos L.length with hz | hpos
 ·have HR:=ak (jD.none_ (k:=k) H.out hz)
  have HZ:=ak hz
  rw [hz]
  clear hz
  go_enter Tryz.func46,Tryz.ntmps46
  go_wp2
  go_loopw [5,1] (fun i q wr=>i=.int .i64 0∧q=.int .i64 k∧wr=W) (fun i _ _=>0)
  case atStart=>exact ⟨rfl,rfl,rfl⟩
  case round=>
   obtain ⟨rfl,rfl,rfl⟩:=hrel
   go_wp2
   go_ret
   exact HR.out
 ·obtain ⟨g,Sf,rfl,hrow⟩:=H.out.row hpos
  have HM:=ak (xG.start (k:=k) hrow)
  clear hrow
  go_enter Tryz.func46,Tryz.ntmps46
  go_wp2
  go_loopw [5,1] (fun i q wr=>∃ j:Nat,j≤L.length∧i=.int .i64 j∧∃ (M:List (bI)) (z:Int),q=.int .i64 z∧xG bC W wr S L g Sf k z j M) (fun i _ _=>L.length-(intOf i).toNat)
  case atStart=>exact ⟨0,dV _,rfl,_,_,rfl,HM.out⟩
  case round=>
   obtain ⟨j,hj,rfl,M,z,rfl,hM⟩:=hrel
   have je:=ak hM
   have aj:∀ i,S i→i<wr.heap.size:=fun i hi=>bV (hS i hi) hM.off.size
   have Aa:=ak aj
   by_cases hlt:j<L.length
   ·obtain ⟨⟨⟨x0,x1⟩,x2,x3⟩,hx⟩:=aM hlt
    have HX:=ak hx
    have hcm:=fB (bC).cm hx
    have hle:=dh (bC).cm L (j+1)
    have qL:=hM.num
    obtain ⟨us,hu,hr⟩:=hM.el hx
    obtain ⟨rfl,_⟩:=ES hr
    have hgl:g<wr.heap.size:=aj g hM.row.own
    have hi0:(0:Int)≤(j:Int):=eu _
    have hi1:(j:Int)<(L.length:Int):=by omega
    have hz0:0≤z:=by omega
    obtain ⟨e0,e1,e2,e3⟩:=Kn (a:=j*4) hu rfl
    have s0:=hM.row.soft (j*4)
    have s1:=hM.row.soft (j*4+1)
    have s2:=hM.row.soft (j*4+2)
    have s3:=hM.row.soft (j*4+3)
    have hcx:bC.cm ((x0,x1),x2,x3)=4:=by first | (simp only [bC,av,Pr,I,St,atom,Sl];done) | (simp only [bC,av,Pr,I,St,atom,Sl];omega)
    rw [hcm,hcx] at hle
    have hb1:z+((4:Nat):Int)≤4611686018427387904:=by omega
    have hne:¬Sf j g:=fun hg=>(je.out.row.sub j g hg).2 rfl
    have Pm:=ak (ni.refl wr g (j*4) ((j+1)*4) (Sf j))
    have J7:=ak (Off.refl S wr)
    clear hM aj hx hu hcm hle qL
    have hc:=dn g [.int .i64 (z),.int .i64 (z+1)] wr (j*4) (fun p hp=>by
     match p,hp with
     | 0,_=>exact ⟨_,by simpa [Nat.add_assoc] using e0⟩
     | 1,_=>exact ⟨_,by simpa [Nat.add_assoc] using e1⟩
     | _+2,hp=>simp at hp;omega)
    have d0:(putCells wr g (j*4) [.int .i64 (z),.int .i64 (z+1)]).cell? ⟨g,j*4,none⟩=some (.int .i64 (z)):=by simpa [Nat.add_assoc] using hc 0 _ rfl
    have d1:(putCells wr g (j*4) [.int .i64 (z),.int .i64 (z+1)]).cell? ⟨g,j*4+1,none⟩=some (.int .i64 (z+1)):=by simpa [Nat.add_assoc] using hc 1 _ rfl
    have d2:(putCells wr g (j*4) [.int .i64 (z),.int .i64 (z+1)]).cell? ⟨g,j*4+2,none⟩=some (.string x2):=(bF g _ wr _ (by first | (simp;done) | (simp;omega))).trans e2
    have d3:(putCells wr g (j*4) [.int .i64 (z),.int .i64 (z+1)]).cell? ⟨g,j*4+3,none⟩=some (.int .i64 x3):=(bF g _ wr _ (by first | (simp;done) | (simp;omega))).trans e3
    have t0:(putCells wr g (j*4) [.int .i64 (z),.int .i64 (z+1)]).frozen? ⟨g,j*4,none⟩=false:=(aH g _ _ wr _).trans s0
    have t1:(putCells wr g (j*4) [.int .i64 (z),.int .i64 (z+1)]).frozen? ⟨g,j*4+1,none⟩=false:=(aH g _ _ wr _).trans s1
    have t2:(putCells wr g (j*4) [.int .i64 (z),.int .i64 (z+1)]).frozen? ⟨g,j*4+2,none⟩=false:=(aH g _ _ wr _).trans s2
    have t3:(putCells wr g (j*4) [.int .i64 (z),.int .i64 (z+1)]).frozen? ⟨g,j*4+3,none⟩=false:=(aH g _ _ wr _).trans s3
    have J4:=ak (Pm.out.trans (ni.put wr (Sf j) (g:=g) (o:=j*4) (cs:=[.int .i64 (z),.int .i64 (z+1)]) ⟨by omega,by first | (simp;done) | (simp;omega)⟩))
    have Ad:=ak (J7.out.trans ((dO g [.int .i64 (z),.int .i64 (z+1)] wr (j*4)).more (fun x e=>by rw [e];exact je.out.row.own)))
    clear hc
    have hbz:0≤z+1+1∧z+1+1≤4611686018427387904:=by omega
    have D0:=ak d0
    have F0:=ak t0
    have D1:=ak d1
    have F1:=ak t1
    have D2:=ak d2
    have F2:=ak t2
    have D3:=ak d3
    have F3:=ak t3
    clear d0 t0 d1 t1 d2 t2 d3 t3
    go_wp2_with fail
    refine (qb (z+1+1) ((putCells wr g (j*4) [.int .i64 (z),.int .i64 (z+1)])) hbz.1 hbz.2).mono ?_
    intro e eZ h
    obtain ⟨rfl,hms,hb⟩:=wQ h
    have HMS1:=ak hms
    have hgg:g<(putCells wr g (j*4) [.int .i64 (z),.int .i64 (z+1)]).heap.size:=bV hgl Ad.out.size
    have n0:eZ.cell? ⟨g,j*4,none⟩=some (.int .i64 (z)):=(hb.cell (p:=⟨g,j*4,none⟩) hgg).trans D0.out
    have n1:eZ.cell? ⟨g,j*4+1,none⟩=some (.int .i64 (z+1)):=(hb.cell (p:=⟨g,j*4+1,none⟩) hgg).trans D1.out
    have n2:eZ.cell? ⟨g,j*4+2,none⟩=some (.string x2):=(hb.cell (p:=⟨g,j*4+2,none⟩) hgg).trans D2.out
    have n3:eZ.cell? ⟨g,j*4+3,none⟩=some (.int .i64 x3):=(hb.cell (p:=⟨g,j*4+3,none⟩) hgg).trans D3.out
    have m0:eZ.frozen? ⟨g,j*4,none⟩=false:=(hb.frozen (p:=⟨g,j*4,none⟩) hgg).trans F0.out
    have m1:eZ.frozen? ⟨g,j*4+1,none⟩=false:=(hb.frozen (p:=⟨g,j*4+1,none⟩) hgg).trans F1.out
    have m2:eZ.frozen? ⟨g,j*4+2,none⟩=false:=(hb.frozen (p:=⟨g,j*4+2,none⟩) hgg).trans F2.out
    have m3:eZ.frozen? ⟨g,j*4+3,none⟩=false:=(hb.frozen (p:=⟨g,j*4+3,none⟩) hgg).trans F3.out
    have HU2:=ak (J4.out.trans (ni.below hb hgg))
    have Xx:=ak (Ad.out.of_below hb)
    clear h hb hgg hbz hms D0 F0 D1 F1 D2 F2 D3 F3
    have e0:=n0
    have s0:=m0
    have e1:=n1
    have s1:=m1
    have e2:=n2
    have s2:=m2
    have e3:=n3
    have s3:=m3
    clear n0 m0 n1 m1 n2 m2 n3 m3
    have hc:=dn g [.string (jv (z+1+1)),.int .i64 (z+1+1+1)] eZ (j*4+2) (fun p hp=>by
     match p,hp with
     | 0,_=>exact ⟨_,by simpa [Nat.add_assoc] using e2⟩
     | 1,_=>exact ⟨_,by simpa [Nat.add_assoc] using e3⟩
     | _+2,hp=>simp at hp;omega)
    have d2:(putCells eZ g (j*4+2) [.string (jv (z+1+1)),.int .i64 (z+1+1+1)]).cell? ⟨g,j*4+2,none⟩=some (.string (jv (z+1+1))):=by simpa [Nat.add_assoc] using hc 0 _ rfl
    have d3:(putCells eZ g (j*4+2) [.string (jv (z+1+1)),.int .i64 (z+1+1+1)]).cell? ⟨g,j*4+3,none⟩=some (.int .i64 (z+1+1+1)):=by simpa [Nat.add_assoc] using hc 1 _ rfl
    have d0:(putCells eZ g (j*4+2) [.string (jv (z+1+1)),.int .i64 (z+1+1+1)]).cell? ⟨g,j*4,none⟩=some (.int .i64 (z)):=(bF g _ eZ _ (by first | (simp;done) | (simp;omega))).trans e0
    have d1:(putCells eZ g (j*4+2) [.string (jv (z+1+1)),.int .i64 (z+1+1+1)]).cell? ⟨g,j*4+1,none⟩=some (.int .i64 (z+1)):=(bF g _ eZ _ (by first | (simp;done) | (simp;omega))).trans e1
    have t0:(putCells eZ g (j*4+2) [.string (jv (z+1+1)),.int .i64 (z+1+1+1)]).frozen? ⟨g,j*4,none⟩=false:=(aH g _ _ eZ _).trans s0
    have t1:(putCells eZ g (j*4+2) [.string (jv (z+1+1)),.int .i64 (z+1+1+1)]).frozen? ⟨g,j*4+1,none⟩=false:=(aH g _ _ eZ _).trans s1
    have t2:(putCells eZ g (j*4+2) [.string (jv (z+1+1)),.int .i64 (z+1+1+1)]).frozen? ⟨g,j*4+2,none⟩=false:=(aH g _ _ eZ _).trans s2
    have t3:(putCells eZ g (j*4+2) [.string (jv (z+1+1)),.int .i64 (z+1+1+1)]).frozen? ⟨g,j*4+3,none⟩=false:=(aH g _ _ eZ _).trans s3
    have HU3:=ak (HU2.out.trans (ni.put eZ (Sf j) (g:=g) (o:=j*4+2) (cs:=[.string (jv (z+1+1)),.int .i64 (z+1+1+1)]) ⟨by omega,by first | (simp;done) | (simp;omega)⟩))
    have HF3:=ak (Xx.out.trans ((dO g [.string (jv (z+1+1)),.int .i64 (z+1+1+1)] eZ (j*4+2)).more (fun x e=>by rw [e];exact je.out.row.own)))
    clear hc
    have hcf:aR (putCells eZ g (j*4+2) [.string (jv (z+1+1)),.int .i64 (z+1+1+1)]) g (j*4) [.int .i64 (z),.int .i64 (z+1),.string (jv (z+1+1)),.int .i64 (z+1+1+1)]:=aR.cons.2 ⟨d0,aR.cons.2 ⟨d1,aR.cons.2 ⟨d2,aR.cons.2 ⟨d3,aR.nil⟩⟩⟩⟩
    have iY:=ak (je.out.step aU (w':=(putCells eZ g (j*4+2) [.string (jv (z+1+1)),.int .i64 (z+1+1+1)])) (y:=((z,z+1),(jv (z+1+1)),z+1+1+1)) (q':=z+1+1+1+1) Aa.out HX.out HU3.out HF3.out hcf (Bn HMS1.out) (ZV) (by rw [hcx];omega))
    clear d0 t0 d1 t1 d2 t2 d3 t3
    have hzb:0≤z+1+1+1+1∧z+1+1+1+1≤4611686018427387904:=by omega
    clear hcf hcx
    go_wp2
    go_roundw
    case rel=>exact ⟨j+1,by omega,by go_num,_,_,rfl,by first | exact iY.out | simpa [putCells,Nat.add_assoc,Int.add_assoc] using iY.out⟩
    case measure=>simp [intOf];omega
   ·obtain rfl:j=L.length:=by omega
    have HR:=ak (je.out.done HCAP.out qP.out)
    clear hM aj
    go_wp2
    go_ret
    exact HR.out
theorem QK:(bC).size=4:=rfl
theorem Rz {L:List (bI)}{a:Option Addr}{cap:Nat}{W:World}{k k':Int}(h0:0≤k)(h1:k'≤4611686018427387904)(hm:jC bC L k k')(h:aJ bC W W.heap.size L a cap):Calls Tryz.prog 96 #[.slice a L.length cap,.int .i64 k] W (nN k' W):=by
 have hn:L.length≤9223372036854775807:=by have h1:=h.1;have h2:=h.2.1;unfold maxLen at h2;omega
 have H:=ak h
 have HM:=ak hm
 clear h hm
 go_enter Tryz.func96,Tryz.ntmps96
 go_wp2
 go_loopw [5,1] (fun i q wr=>∃ j:Nat,j≤L.length∧i=.int .i64 j∧(∃ z:Int,q=.int .i64 z∧0≤z∧jC bC (L.drop j) z k')∧Below W.heap.size W wr) (fun i _ _=>L.length-(intOf i).toNat)
 case atStart=>exact ⟨0,dV _,rfl,⟨k,rfl,h0,HM.out⟩,aW _ _⟩
 case round=>
  obtain ⟨j,hj,rfl,⟨z,rfl,hz,hmz⟩,hB⟩:=hrel
  have HB:=ak hB
  have hsz:=hB.size
  by_cases hlt:j<L.length
  ·obtain ⟨⟨⟨x0,x1⟩,x2,x3⟩,hx⟩:=aM hlt
   obtain ⟨k1,hxm,hmn⟩:=jX hx hmz
   have hzb:=eG wU hmn
   have hxb:=wU _ _ _ hxm
   obtain ⟨g,o,us,rfl,hg,hu,hr⟩:=(H.out.below aU hB).at_ hx
   have FZ:=ak hmn
   have hi0:(0:Int)≤(j:Int):=eu _
   have hi1:(j:Int)<(L.length:Int):=by omega
   obtain ⟨rfl,oF⟩:=ku hr
   obtain ⟨rfl,rfl,rfl,rfl,hk1⟩:=ZW hxm
   have e0:=cO hu 0 rfl
   have e1:=cO hu 1 rfl
   have e2:=cO hu 2 rfl
   have e3:=cO hu 3 rfl
   simp only [QK] at e0 e1 e2 e3
   simp only [←Nat.add_assoc,Nat.add_zero] at e0 e1 e2 e3
   have hfin:k1≤4611686018427387904:=by omega
   have J6:=ak hk1
   clear hB hx hu hmz hmn hxm
   have hgl:g<wr.heap.size:=bV hg hsz
   go_wp2_with fail
   refine dX (S:=(fun V=>Below (wr).heap.size (wr) V)) (by kernel_rfl) ((aW _ _).drew) (fun ah=>?_)
   refine tk 0 ah ?_
   refine tk 1 ah ?_
   refine tk 2 ah ?_
   refine tk 3 ah ?_
   refine tk 4 ah ?_ (hy:=fun w aj=>by (try dsimp only at aj);have k0:=(aj.cell (p:=⟨g,o+j*4+2,none⟩) hgl).trans e2;clear aj;go_simp;try with_reducible rfl)
   refine tk 5 ah ?_
   refine dw 6 (fun K hK=>?_)
   go_simp
   go_at_call 91
   refine (qb (x0+1+1) _ (by omega) (by omega)).mono ?_
   intro e w1 h
   obtain ⟨rfl,hms,hb⟩:=wQ h
   clear h hms
   refine hK.out _ _ (ah.trans (hb.mono ah.size)) (fun ah=>?_)
   clear hK K hb
   refine tk 7 ah ?_
   refine dQ ?_
   have HF:=ak ah
   clear ah
   have HB2:=ak (HB.out.trans (HF.out.mono hsz))
   replace e3:=(HF.out.cell (p:=⟨g,_,none⟩) hgl).trans e3
   go_wp2
   go_roundw
   case rel=>exact ⟨j+1,by omega,by go_num,⟨_,rfl,by omega,by rw [←J6.out];exact FZ.out⟩,HB2.out⟩
   case measure=>simp [intOf];omega
  ·obtain rfl:j=L.length:=by omega
   have HE:=ak (lD hmz)
   clear hmz hB
   go_wp2
   go_ret
   exact ⟨by rw [HE.out];rfl,HB.out⟩
def Ci (L0:List (List (ay)))(L1:List (bA))(L2:List (aX))(x3:Int)(L3:List (aP))(L4:List (aF))(L5:List (bI))(x7:Int)(a0:Option Addr)(c0:Nat)(a1:Option Addr)(c1:Nat)(a2:Option Addr)(c2:Nat)(a3:Option Addr)(c3:Nat)(a4:Option Addr)(c4:Nat)(a5:Option Addr)(c5:Nat)(T0:Nat→Prop)(T1:Nat→Prop)(T2:Nat→Prop)(T3:Nat→Prop)(T4:Nat→Prop)(T5:Nat→Prop)(k:Int)(W:World)(e:Ending)(w':World):Prop:=∃ z0 z1 z2 z3 z4 z5:Int,∃ (y0:List (List (ay)))(y1:List (bA))(y2:List (aX))(y3:List (aP))(y4:List (aF))(y5:List (bI)),e=.returned (.int .i64 z5)∧(y0.length=L0.length∧jC (Sl av) y0 k z0∧z0=k+(bD ((Sl av)).cm L0:Nat)∧bH (Sl av) w' T0 y0 a0 c0)∧(y1.length=L1.length∧jC aT y1 z0 z1∧z1=z0+(bD (aT).cm L1:Nat)∧bH aT w' T1 y1 a1 c1)∧(y2.length=L2.length∧jC aN y2 z1 z2∧z2=z1+(bD (aN).cm L2:Nat)∧bH aN w' T2 y2 a2 c2)∧(y3.length=L3.length∧jC aL y3 z2 z3∧z3=z2+(bD (aL).cm L3:Nat)∧bH aL w' T3 y3 a3 c3)∧(y4.length=L4.length∧jC aI y4 z3 z4∧z4=z3+(bD (aI).cm L4:Nat)∧bH aI w' T4 y4 a4 c4)∧(y5.length=L5.length∧jC bC y5 z4 z5∧z5=z4+(bD (bC).cm L5:Nat)∧bH bC w' T5 y5 a5 c5)∧Off (fun q=>T0 q∨T1 q∨T2 q∨T3 q∨T4 q∨T5 q) W w'
theorem Eb {L0:List (List (ay))}{L1:List (bA)}{L2:List (aX)}{x3:Int}{L3:List (aP)}{L4:List (aF)}{L5:List (bI)}{x7:Int}{a0:Option Addr}{c0:Nat}{a1:Option Addr}{c1:Nat}{a2:Option Addr}{c2:Nat}{a3:Option Addr}{c3:Nat}{a4:Option Addr}{c4:Nat}{a5:Option Addr}{c5:Nat}{W:World}{T0:Nat→Prop}{T1:Nat→Prop}{T2:Nat→Prop}{T3:Nat→Prop}{T4:Nat→Prop}{T5:Nat→Prop}{k:Int}(h0:0≤k)(h1:k+(bD ((Sl av)).cm L0:Nat)+(bD (aT).cm L1:Nat)+(bD (aN).cm L2:Nat)+(bD (aL).cm L3:Nat)+(bD (aI).cm L4:Nat)+(bD (bC).cm L5:Nat)≤4611686018427387904)(hS0:∀ q,T0 q→q<W.heap.size)(hS1:∀ q,T1 q→q<W.heap.size)(hS2:∀ q,T2 q→q<W.heap.size)(hS3:∀ q,T3 q→q<W.heap.size)(Xp:∀ q,T4 q→q<W.heap.size)(hS5:∀ q,T5 q→q<W.heap.size)(jO:∀ q,T0 q→T1 q→False)(jN:∀ q,T0 q→T2 q→False)(mM:∀ q,T0 q→T3 q→False)(mK:∀ q,T0 q→T4 q→False)(mJ:∀ q,T0 q→T5 q→False)(jM:∀ q,T1 q→T2 q→False)(mI:∀ q,T1 q→T3 q→False)(mH:∀ q,T1 q→T4 q→False)(mG:∀ q,T1 q→T5 q→False)(mF:∀ q,T2 q→T3 q→False)(mE:∀ q,T2 q→T4 q→False)(mD:∀ q,T2 q→T5 q→False)(mq:∀ q,T3 q→T4 q→False)(mo:∀ q,T3 q→T5 q→False)(mh:∀ q,T4 q→T5 q→False)(dP:bH (Sl av) W T0 L0 a0 c0)(gN:bH aT W T1 L1 a1 c1)(gM:bH aN W T2 L2 a2 c2)(ko:bH aL W T3 L3 a3 c3)(kg:bH aI W T4 L4 a4 c4)(j6:bH bC W T5 L5 a5 c5):Calls Tryz.prog 14 #[.agg #[.slice a0 L0.length c0,.slice a1 L1.length c1,.slice a2 L2.length c2,.int .i64 x3,.slice a3 L3.length c3,.slice a4 L4.length c4,.slice a5 L5.length c5,.int .i64 x7],.int .i64 k] W (Ci L0 L1 L2 x3 L3 L4 L5 x7 a0 c0 a1 c1 a2 c2 a3 c3 a4 c4 a5 c5 T0 T1 T2 T3 T4 T5 k W):=by
 have GR:=ak (show Off (fun q=>T0 q∨T1 q∨T2 q∨T3 q∨T4 q∨T5 q) W (W.alloc (.cells #[.slice a0 L0.length c0,.slice a1 L1.length c1,.slice a2 L2.length c2,.int .i64 x3,.slice a3 L3.length c3,.slice a4 L4.length c4,.slice a5 L5.length c5,.int .i64 x7] 44)) from (Off.refl _ _).alloc _)
 have hP:=aO.new W 44 #[.slice a0 L0.length c0,.slice a1 L1.length c1,.slice a2 L2.length c2,.int .i64 x3,.slice a3 L3.length c3,.slice a4 L4.length c4,.slice a5 L5.length c5,.int .i64 x7]
 have gY:=ak hP
 have hz0:W.heap.size<(W.alloc (.cells #[.slice a0 L0.length c0,.slice a1 L1.length c1,.slice a2 L2.length c2,.int .i64 x3,.slice a3 L3.length c3,.slice a4 L4.length c4,.slice a5 L5.length c5,.int .i64 x7] 44)).heap.size:=by simp
 clear hP
 have fI:=ak (bH.keep (aZ au) (W':=W.alloc (.cells #[.slice a0 L0.length c0,.slice a1 L1.length c1,.slice a2 L2.length c2,.int .i64 x3,.slice a3 L3.length c3,.slice a4 L4.length c4,.slice a5 L5.length c5,.int .i64 x7] 44)) dP (fun q hq=>Below.heap_alloc _ _ _ (hS0 q hq)))
 have zR:=ak hS0
 have pF:=ak (bH.keep aG (W':=W.alloc (.cells #[.slice a0 L0.length c0,.slice a1 L1.length c1,.slice a2 L2.length c2,.int .i64 x3,.slice a3 L3.length c3,.slice a4 L4.length c4,.slice a5 L5.length c5,.int .i64 x7] 44)) gN (fun q hq=>Below.heap_alloc _ _ _ (hS1 q hq)))
 have zn:=ak hS1
 have pE:=ak (bH.keep aC (W':=W.alloc (.cells #[.slice a0 L0.length c0,.slice a1 L1.length c1,.slice a2 L2.length c2,.int .i64 x3,.slice a3 L3.length c3,.slice a4 L4.length c4,.slice a5 L5.length c5,.int .i64 x7] 44)) gM (fun q hq=>Below.heap_alloc _ _ _ (hS2 q hq)))
 have HS2:=ak hS2
 have Am:=ak (bH.keep aK (W':=W.alloc (.cells #[.slice a0 L0.length c0,.slice a1 L1.length c1,.slice a2 L2.length c2,.int .i64 x3,.slice a3 L3.length c3,.slice a4 L4.length c4,.slice a5 L5.length c5,.int .i64 x7] 44)) ko (fun q hq=>Below.heap_alloc _ _ _ (hS3 q hq)))
 have vH:=ak hS3
 have Al:=ak (bH.keep aA (W':=W.alloc (.cells #[.slice a0 L0.length c0,.slice a1 L1.length c1,.slice a2 L2.length c2,.int .i64 x3,.slice a3 L3.length c3,.slice a4 L4.length c4,.slice a5 L5.length c5,.int .i64 x7] 44)) kg (fun q hq=>Below.heap_alloc _ _ _ (Xp q hq)))
 have Dn:=ak Xp
 have Ak:=ak (bH.keep aU (W':=W.alloc (.cells #[.slice a0 L0.length c0,.slice a1 L1.length c1,.slice a2 L2.length c2,.int .i64 x3,.slice a3 L3.length c3,.slice a4 L4.length c4,.slice a5 L5.length c5,.int .i64 x7] 44)) j6 (fun q hq=>Below.heap_alloc _ _ _ (hS5 q hq)))
 have HS5:=ak hS5
 have DF:=ak jO
 have DC:=ak jN
 have NA:=ak mM
 have Nz:=ak mK
 have Ny:=ak mJ
 have Dz:=ak jM
 have Nw:=ak mI
 have Nv:=ak mH
 have Nu:=ak mG
 have Nt:=ak mF
 have Ns:=ak mE
 have Nr:=ak mD
 have Nq:=ak mq
 have Np:=ak mo
 have Nn:=ak mh
 clear dP gN gM ko kg j6 hS0 hS1 hS2 hS3 Xp hS5 jO jN mM mK mJ jM mI mH mG mF mE mD mq mo mh
 go_enter Tryz.func14,Tryz.ntmps14
 have hbz:0≤k∧k+(bD ((Sl av)).cm L0:Nat)+(bD (aT).cm L1:Nat)+(bD (aN).cm L2:Nat)≤4611686018427387904:=by omega
 go_wp2_with fail
 refine (Jh (W:=W.alloc (.cells #[.slice a0 L0.length c0,.slice a1 L1.length c1,.slice a2 L2.length c2,.int .i64 x3,.slice a3 L3.length c3,.slice a4 L4.length c4,.slice a5 L5.length c5,.int .i64 x7] 44)) hbz.1 hbz.2 (fun q hq=>iF (zR.out q hq) hz0) (fun q hq=>iF (zn.out q hq) hz0) (fun q hq=>iF (HS2.out q hq) hz0) DF.out DC.out Dz.out fI.out pF.out pE.out).mono ?_
 intro e w3 h
 obtain ⟨z0,z1,z2,y0,y1,y2,rfl,⟨hyl0,hmm0,hzz0,how0⟩,⟨hyl1,hmm1,hzz1,how1⟩,⟨hyl2,hmm2,hzz2,how2⟩,hoff⟩:=h
 have iG:=ak (aO.off gY.out hoff hz0 (fun hg=>by rcases hg with hg | hg | hg <;> first | exact jH _ (zR.out _ hg) | exact jH _ (zn.out _ hg) | exact jH _ (HS2.out _ hg)))
 have UD:=ak (GR.out.trans (hoff.more (fun q hg=>by rcases hg with hg | hg | hg <;> first | exact Or.inl hg | exact Or.inr (Or.inl hg) | exact Or.inr (Or.inr (Or.inl hg)))))
 have hz3:W.heap.size<w3.heap.size:=bV hz0 hoff.size
 have Am:=ak (Am.out.keep aK (fun q hq=>hoff.block q (iF (vH.out q hq) hz0) (fun hg=>by rcases hg with hg | hg | hg <;> first | exact NA.out q hg hq | exact Nw.out q hg hq | exact Nt.out q hg hq)))
 have Al:=ak (Al.out.keep aA (fun q hq=>hoff.block q (iF (Dn.out q hq) hz0) (fun hg=>by rcases hg with hg | hg | hg <;> first | exact Nz.out q hg hq | exact Nv.out q hg hq | exact Ns.out q hg hq)))
 have Ak:=ak (Ak.out.keep aU (fun q hq=>hoff.block q (iF (HS5.out q hq) hz0) (fun hg=>by rcases hg with hg | hg | hg <;> first | exact Ny.out q hg hq | exact Nu.out q hg hq | exact Nr.out q hg hq)))
 have fI:=ak how0
 have Kt:=ak hmm0
 have Kr:=ak hyl0
 have vO:=ak hzz0
 have pF:=ak how1
 have HMM1:=ak hmm1
 have HYL1:=ak hyl1
 have Kq:=ak hzz1
 have pE:=ak how2
 have HMM2:=ak hmm2
 have HYL2:=ak hyl2
 have Qh:=ak hzz2
 have hzn2:0≤z2∧z2≤4611686018427387904:=by omega
 clear hbz hoff hyl0 hmm0 hzz0 how0 hyl1 hmm1 hzz1 how1 hyl2 hmm2 hzz2 how2
 have EC:=iG.out.at_ 0 rfl
 have EB:=iG.out.at_ 1 rfl
 have EA:=iG.out.at_ 2 rfl
 have SF:=iG.out.at_ 4 rfl
 have SE:=iG.out.at_ 5 rfl
 have Kg:=iG.out.at_ 6 rfl
 have hbz:0≤z2∧z2+(bD (aL).cm L3:Nat)≤4611686018427387904:=by have q0:=vO.out;have q1:=Kq.out;have q2:=Qh.out;omega
 go_wp2_with fail
 refine (Lv (W:=w3) hbz.1 hbz.2 (fun q hq=>iF (vH.out q hq) hz3) Am.out).mono ?_
 intro e w4 h
 obtain ⟨y3,z3,rfl,hyl,hmm,hzz,how,hoff⟩:=iO h
 have j5:=ak (aO.off iG.out hoff hz3 (fun hg=>jH _ (vH.out _ hg)))
 have aed:=ak (UD.out.trans (hoff.more (fun q hq=>Or.inr (Or.inr (Or.inr (Or.inl hq))))))
 have lW:W.heap.size<w4.heap.size:=bV hz3 hoff.size
 have fI:=ak (fI.out.keep (aZ au) (fun q hq=>hoff.block q (iF (zR.out q hq) hz3) (fun hi=>NA.out q hq hi)))
 have pF:=ak (pF.out.keep aG (fun q hq=>hoff.block q (iF (zn.out q hq) hz3) (fun hi=>Nw.out q hq hi)))
 have pE:=ak (pE.out.keep aC (fun q hq=>hoff.block q (iF (HS2.out q hq) hz3) (fun hi=>Nt.out q hq hi)))
 have Al:=ak (Al.out.keep aA (fun q hq=>hoff.block q (iF (Dn.out q hq) hz3) (fun hi=>Nq.out q hi hq)))
 have Ak:=ak (Ak.out.keep aU (fun q hq=>hoff.block q (iF (HS5.out q hq) hz3) (fun hi=>Np.out q hi hq)))
 have Am:=ak how
 have HMM3:=ak hmm
 have HYL3:=ak hyl
 have HZZ3:=ak hzz
 have hzn3:0≤z3∧z3≤4611686018427387904:=by omega
 clear h hyl hmm how hoff hzz hbz
 have p4_0:=j5.out.at_ 0 rfl
 have p4_1:=j5.out.at_ 1 rfl
 have p4_2:=j5.out.at_ 2 rfl
 have p4_4:=j5.out.at_ 4 rfl
 have p4_5:=j5.out.at_ 5 rfl
 have p4_6:=j5.out.at_ 6 rfl
 have hbz:0≤z3∧z3+(bD (aI).cm L4:Nat)≤4611686018427387904:=by have q0:=vO.out;have q1:=Kq.out;have q2:=Qh.out;have q3:=HZZ3.out;omega
 go_wp2_with fail
 refine (Lp (W:=w4) hbz.1 hbz.2 (fun q hq=>iF (Dn.out q hq) lW) Al.out).mono ?_
 intro e w5 h
 obtain ⟨y4,z4,rfl,hyl,hmm,hzz,how,hoff⟩:=iO h
 have xA:=ak (aO.off j5.out hoff lW (fun hg=>jH _ (Dn.out _ hg)))
 have aec:=ak (aed.out.trans (hoff.more (fun q hq=>Or.inr (Or.inr (Or.inr (Or.inr (Or.inl hq)))))))
 have uI:W.heap.size<w5.heap.size:=bV lW hoff.size
 have fI:=ak (fI.out.keep (aZ au) (fun q hq=>hoff.block q (iF (zR.out q hq) lW) (fun hi=>Nz.out q hq hi)))
 have pF:=ak (pF.out.keep aG (fun q hq=>hoff.block q (iF (zn.out q hq) lW) (fun hi=>Nv.out q hq hi)))
 have pE:=ak (pE.out.keep aC (fun q hq=>hoff.block q (iF (HS2.out q hq) lW) (fun hi=>Ns.out q hq hi)))
 have Am:=ak (Am.out.keep aK (fun q hq=>hoff.block q (iF (vH.out q hq) lW) (fun hi=>Nq.out q hq hi)))
 have Ak:=ak (Ak.out.keep aU (fun q hq=>hoff.block q (iF (HS5.out q hq) lW) (fun hi=>Nn.out q hi hq)))
 have Al:=ak how
 have HMM4:=ak hmm
 have HYL4:=ak hyl
 have HZZ4:=ak hzz
 have hzn4:0≤z4∧z4≤4611686018427387904:=by omega
 clear h hyl hmm how hoff hzz hbz
 have p5_0:=xA.out.at_ 0 rfl
 have p5_1:=xA.out.at_ 1 rfl
 have p5_2:=xA.out.at_ 2 rfl
 have p5_4:=xA.out.at_ 4 rfl
 have p5_5:=xA.out.at_ 5 rfl
 have p5_6:=xA.out.at_ 6 rfl
 have hbz:0≤z4∧z4+(bD (bC).cm L5:Nat)≤4611686018427387904:=by have q0:=vO.out;have q1:=Kq.out;have q2:=Qh.out;have q3:=HZZ3.out;have q4:=HZZ4.out;omega
 go_wp2_with fail
 refine (Rk (W:=w5) hbz.1 hbz.2 (fun q hq=>iF (HS5.out q hq) uI) Ak.out).mono ?_
 intro e w6 h
 obtain ⟨y5,z5,rfl,hyl,hmm,hzz,how,hoff⟩:=iO h
 have J5:=ak (aO.off xA.out hoff uI (fun hg=>jH _ (HS5.out _ hg)))
 have aeb:=ak (aec.out.trans (hoff.more (fun q hq=>Or.inr (Or.inr (Or.inr (Or.inr (Or.inr (hq))))))))
 have hz6:W.heap.size<w6.heap.size:=bV uI hoff.size
 have fI:=ak (fI.out.keep (aZ au) (fun q hq=>hoff.block q (iF (zR.out q hq) uI) (fun hi=>Ny.out q hq hi)))
 have pF:=ak (pF.out.keep aG (fun q hq=>hoff.block q (iF (zn.out q hq) uI) (fun hi=>Nu.out q hq hi)))
 have pE:=ak (pE.out.keep aC (fun q hq=>hoff.block q (iF (HS2.out q hq) uI) (fun hi=>Nr.out q hq hi)))
 have Am:=ak (Am.out.keep aK (fun q hq=>hoff.block q (iF (vH.out q hq) uI) (fun hi=>Np.out q hq hi)))
 have Al:=ak (Al.out.keep aA (fun q hq=>hoff.block q (iF (Dn.out q hq) uI) (fun hi=>Nn.out q hq hi)))
 have Ak:=ak how
 have HMM5:=ak hmm
 have HYL5:=ak hyl
 have HZZ5:=ak hzz
 have hzn5:0≤z5∧z5≤4611686018427387904:=by omega
 clear h hyl hmm how hoff hzz hbz
 have p6_0:=J5.out.at_ 0 rfl
 have p6_1:=J5.out.at_ 1 rfl
 have p6_2:=J5.out.at_ 2 rfl
 have p6_4:=J5.out.at_ 4 rfl
 have p6_5:=J5.out.at_ 5 rfl
 have p6_6:=J5.out.at_ 6 rfl
 go_wp2
 go_ret
 exact ⟨z0,z1,z2,z3,z4,z5,y0,y1,y2,y3,y4,y5,rfl,⟨Kr.out,Kt.out,vO.out,fI.out⟩,⟨HYL1.out,HMM1.out,Kq.out,pF.out⟩,⟨HYL2.out,HMM2.out,Qh.out,pE.out⟩,⟨HYL3.out,HMM3.out,HZZ3.out,Am.out⟩,⟨HYL4.out,HMM4.out,HZZ4.out,Al.out⟩,⟨HYL5.out,HMM5.out,HZZ5.out,Ak.out⟩,aeb.out⟩
theorem Ry {L0:List (List (ay))}{L1:List (bA)}{L2:List (aX)}{x3:Int}{L3:List (aP)}{L4:List (aF)}{L5:List (bI)}{x7:Int}{a0:Option Addr}{c0:Nat}{a1:Option Addr}{c1:Nat}{a2:Option Addr}{c2:Nat}{a3:Option Addr}{c3:Nat}{a4:Option Addr}{c4:Nat}{a5:Option Addr}{c5:Nat}{W:World}{k:Int}{z0:Int}{z1:Int}{z2:Int}{z3:Int}{z4:Int}{z5:Int}(h0:0≤k)(h1:z5≤4611686018427387904)(hm0:jC (Sl av) L0 k z0)(hm1:jC aT L1 z0 z1)(hm2:jC aN L2 z1 z2)(Pg:jC aL L3 z2 z3)(Pf:jC aI L4 z3 z4)(Pb:jC bC L5 z4 z5)(dP:aJ (Sl av) W W.heap.size L0 a0 c0)(gN:aJ aT W W.heap.size L1 a1 c1)(gM:aJ aN W W.heap.size L2 a2 c2)(ko:aJ aL W W.heap.size L3 a3 c3)(kg:aJ aI W W.heap.size L4 a4 c4)(j6:aJ bC W W.heap.size L5 a5 c5):Calls Tryz.prog 47 #[.agg #[.slice a0 L0.length c0,.slice a1 L1.length c1,.slice a2 L2.length c2,.int .i64 x3,.slice a3 L3.length c3,.slice a4 L4.length c4,.slice a5 L5.length c5,.int .i64 x7],.int .i64 k] W (nN z5 W):=by
 have jJ:=ak dP
 have pJ:=ak gN
 have pI:=ak gM
 have Aq:=ak ko
 have Ap:=ak kg
 have Ao:=ak j6
 have HM0:=ak hm0
 have hl0:=eG (AU eY) hm0
 have Cz:=ak hm1
 have hl1:=eG o7 hm1
 have je:=ak hm2
 have hl2:=eG mW hm2
 have HM3:=ak Pg
 have hl3:=eG sM Pg
 have HM4:=ak Pf
 have hl4:=eG sJ Pf
 have HM5:=ak Pb
 have hl5:=eG wU Pb
 clear dP gN gM ko kg j6 hm0 hm1 hm2 Pg Pf Pb
 have HB0:=ak (show Below W.heap.size W (W.alloc (.cells #[.slice a0 L0.length c0,.slice a1 L1.length c1,.slice a2 L2.length c2,.int .i64 x3,.slice a3 L3.length c3,.slice a4 L4.length c4,.slice a5 L5.length c5,.int .i64 x7] 44)) from (aW _ _).alloc (bK _) _)
 have hP:=aO.new W 44 #[.slice a0 L0.length c0,.slice a1 L1.length c1,.slice a2 L2.length c2,.int .i64 x3,.slice a3 L3.length c3,.slice a4 L4.length c4,.slice a5 L5.length c5,.int .i64 x7]
 have gY:=ak hP
 have hz0:W.heap.size≤(W.alloc (.cells #[.slice a0 L0.length c0,.slice a1 L1.length c1,.slice a2 L2.length c2,.int .i64 x3,.slice a3 L3.length c3,.slice a4 L4.length c4,.slice a5 L5.length c5,.int .i64 x7] 44)).heap.size:=HB0.out.size
 clear hP
 go_enter Tryz.func47,Tryz.ntmps47
 go_wp2_with fail
 refine (Jq (k:=k) (by omega) (by omega) HM0.out Cz.out je.out ((jJ.out.below (aZ au) HB0.out).more (aZ au) hz0) ((pJ.out.below aG HB0.out).more aG hz0) ((pI.out.below aC HB0.out).more aC hz0)).mono ?_
 intro e w3 h
 obtain ⟨rfl,hb⟩:=eU h
 have iG:=ak (gY.out.call hb)
 have HB3:=ak (HB0.out.trans (hb.mono hz0))
 have hz3:W.heap.size≤w3.heap.size:=HB3.out.size
 clear h hb
 have EC:=iG.out.at_ 0 rfl
 have EB:=iG.out.at_ 1 rfl
 have EA:=iG.out.at_ 2 rfl
 have SF:=iG.out.at_ 4 rfl
 have SE:=iG.out.at_ 5 rfl
 have Kg:=iG.out.at_ 6 rfl
 have Uk:(0:Int)≤z2:=by omega
 go_wp2_with fail
 refine (LX (k:=z2) (k':=z3) (by omega) (by omega) HM3.out ((Aq.out.below aK HB3.out).more aK hz3)).mono ?_
 intro e w4 h
 obtain ⟨rfl,hb⟩:=eU h
 have j5:=ak (iG.out.call hb)
 have jL:=ak (HB3.out.trans (hb.mono hz3))
 have lW:W.heap.size≤w4.heap.size:=jL.out.size
 clear h hb
 have p4_0:=j5.out.at_ 0 rfl
 have p4_1:=j5.out.at_ 1 rfl
 have p4_2:=j5.out.at_ 2 rfl
 have p4_4:=j5.out.at_ 4 rfl
 have p4_5:=j5.out.at_ 5 rfl
 have p4_6:=j5.out.at_ 6 rfl
 have adE:(0:Int)≤z3:=by omega
 go_wp2_with fail
 refine (LU (k:=z3) (k':=z4) (by omega) (by omega) HM4.out ((Ap.out.below aA jL.out).more aA lW)).mono ?_
 intro e w5 h
 obtain ⟨rfl,hb⟩:=eU h
 have xA:=ak (j5.out.call hb)
 have lX:=ak (jL.out.trans (hb.mono lW))
 have uI:W.heap.size≤w5.heap.size:=lX.out.size
 clear h hb
 have p5_0:=xA.out.at_ 0 rfl
 have p5_1:=xA.out.at_ 1 rfl
 have p5_2:=xA.out.at_ 2 rfl
 have p5_4:=xA.out.at_ 4 rfl
 have p5_5:=xA.out.at_ 5 rfl
 have p5_6:=xA.out.at_ 6 rfl
 have hpos4:(0:Int)≤z4:=by omega
 go_wp2_with fail
 refine (Rz (k:=z4) (k':=z5) (by omega) (by omega) HM5.out ((Ao.out.below aU lX.out).more aU uI)).mono ?_
 intro e w6 h
 obtain ⟨rfl,hb⟩:=eU h
 have J5:=ak (xA.out.call hb)
 have xC:=ak (lX.out.trans (hb.mono uI))
 have hz6:W.heap.size≤w6.heap.size:=xC.out.size
 clear h hb
 have p6_0:=J5.out.at_ 0 rfl
 have p6_1:=J5.out.at_ 1 rfl
 have p6_2:=J5.out.at_ 2 rfl
 have p6_4:=J5.out.at_ 4 rfl
 have p6_5:=J5.out.at_ 5 rfl
 have p6_6:=J5.out.at_ 6 rfl
 have hpos5:(0:Int)≤z5:=by omega
 go_wp2
 go_ret
 exact ⟨rfl,xC.out⟩
theorem Fw {L0:List (List (ay))}{L1:List (bA)}{L2:List (aX)}{x3:Int}{L3:List (aP)}{L4:List (aF)}{L5:List (bI)}{x7:Int}{x8:Int}{x9:Int}{a0:Option Addr}{c0:Nat}{a1:Option Addr}{c1:Nat}{a2:Option Addr}{c2:Nat}{a3:Option Addr}{c3:Nat}{a4:Option Addr}{c4:Nat}{a5:Option Addr}{c5:Nat}{W:World}{T0:Nat→Prop}{T1:Nat→Prop}{T2:Nat→Prop}{T3:Nat→Prop}{T4:Nat→Prop}{T5:Nat→Prop}{k:Int}(h0:0≤k)(h1:k+(bD ((Sl av)).cm L0:Nat)+(bD (aT).cm L1:Nat)+(bD (aN).cm L2:Nat)+(bD (aL).cm L3:Nat)+(bD (aI).cm L4:Nat)+(bD (bC).cm L5:Nat)≤4611686018427387904)(hS0:∀ q,T0 q→q<W.heap.size)(hS1:∀ q,T1 q→q<W.heap.size)(hS2:∀ q,T2 q→q<W.heap.size)(hS3:∀ q,T3 q→q<W.heap.size)(Xp:∀ q,T4 q→q<W.heap.size)(hS5:∀ q,T5 q→q<W.heap.size)(jO:∀ q,T0 q→T1 q→False)(jN:∀ q,T0 q→T2 q→False)(mM:∀ q,T0 q→T3 q→False)(mK:∀ q,T0 q→T4 q→False)(mJ:∀ q,T0 q→T5 q→False)(jM:∀ q,T1 q→T2 q→False)(mI:∀ q,T1 q→T3 q→False)(mH:∀ q,T1 q→T4 q→False)(mG:∀ q,T1 q→T5 q→False)(mF:∀ q,T2 q→T3 q→False)(mE:∀ q,T2 q→T4 q→False)(mD:∀ q,T2 q→T5 q→False)(mq:∀ q,T3 q→T4 q→False)(mo:∀ q,T3 q→T5 q→False)(mh:∀ q,T4 q→T5 q→False)(dP:bH (Sl av) W T0 L0 a0 c0)(gN:bH aT W T1 L1 a1 c1)(gM:bH aN W T2 L2 a2 c2)(ko:bH aL W T3 L3 a3 c3)(kg:bH aI W T4 L4 a4 c4)(j6:bH bC W T5 L5 a5 c5):Calls Tryz.prog 15 #[.agg #[.slice a0 L0.length c0,.slice a1 L1.length c1,.slice a2 L2.length c2,.int .i64 x3,.slice a3 L3.length c3,.slice a4 L4.length c4,.slice a5 L5.length c5,.int .i64 x7,.int .i64 x8,.int .i64 x9],.int .i64 k] W (Ci L0 L1 L2 x3 L3 L4 L5 x7 a0 c0 a1 c1 a2 c2 a3 c3 a4 c4 a5 c5 T0 T1 T2 T3 T4 T5 k W):=by
 have GR:=ak (show Off (fun q=>T0 q∨T1 q∨T2 q∨T3 q∨T4 q∨T5 q) W (W.alloc (.cells #[.slice a0 L0.length c0,.slice a1 L1.length c1,.slice a2 L2.length c2,.int .i64 x3,.slice a3 L3.length c3,.slice a4 L4.length c4,.slice a5 L5.length c5,.int .i64 x7,.int .i64 x8,.int .i64 x9] 46)) from (Off.refl _ _).alloc _)
 have hz0:W.heap.size<(W.alloc (.cells #[.slice a0 L0.length c0,.slice a1 L1.length c1,.slice a2 L2.length c2,.int .i64 x3,.slice a3 L3.length c3,.slice a4 L4.length c4,.slice a5 L5.length c5,.int .i64 x7,.int .i64 x8,.int .i64 x9] 46)).heap.size:=by simp
 have hP:=aO.new W 46 #[.slice a0 L0.length c0,.slice a1 L1.length c1,.slice a2 L2.length c2,.int .i64 x3,.slice a3 L3.length c3,.slice a4 L4.length c4,.slice a5 L5.length c5,.int .i64 x7,.int .i64 x8,.int .i64 x9]
 have gY:=ak hP
 clear hP
 have fI:=ak (bH.keep (aZ au) (W':=W.alloc (.cells #[.slice a0 L0.length c0,.slice a1 L1.length c1,.slice a2 L2.length c2,.int .i64 x3,.slice a3 L3.length c3,.slice a4 L4.length c4,.slice a5 L5.length c5,.int .i64 x7,.int .i64 x8,.int .i64 x9] 46)) dP (fun q hq=>Below.heap_alloc _ _ _ (hS0 q hq)))
 have zR:=ak hS0
 have pF:=ak (bH.keep aG (W':=W.alloc (.cells #[.slice a0 L0.length c0,.slice a1 L1.length c1,.slice a2 L2.length c2,.int .i64 x3,.slice a3 L3.length c3,.slice a4 L4.length c4,.slice a5 L5.length c5,.int .i64 x7,.int .i64 x8,.int .i64 x9] 46)) gN (fun q hq=>Below.heap_alloc _ _ _ (hS1 q hq)))
 have zn:=ak hS1
 have pE:=ak (bH.keep aC (W':=W.alloc (.cells #[.slice a0 L0.length c0,.slice a1 L1.length c1,.slice a2 L2.length c2,.int .i64 x3,.slice a3 L3.length c3,.slice a4 L4.length c4,.slice a5 L5.length c5,.int .i64 x7,.int .i64 x8,.int .i64 x9] 46)) gM (fun q hq=>Below.heap_alloc _ _ _ (hS2 q hq)))
 have HS2:=ak hS2
 have Am:=ak (bH.keep aK (W':=W.alloc (.cells #[.slice a0 L0.length c0,.slice a1 L1.length c1,.slice a2 L2.length c2,.int .i64 x3,.slice a3 L3.length c3,.slice a4 L4.length c4,.slice a5 L5.length c5,.int .i64 x7,.int .i64 x8,.int .i64 x9] 46)) ko (fun q hq=>Below.heap_alloc _ _ _ (hS3 q hq)))
 have vH:=ak hS3
 have Al:=ak (bH.keep aA (W':=W.alloc (.cells #[.slice a0 L0.length c0,.slice a1 L1.length c1,.slice a2 L2.length c2,.int .i64 x3,.slice a3 L3.length c3,.slice a4 L4.length c4,.slice a5 L5.length c5,.int .i64 x7,.int .i64 x8,.int .i64 x9] 46)) kg (fun q hq=>Below.heap_alloc _ _ _ (Xp q hq)))
 have Dn:=ak Xp
 have Ak:=ak (bH.keep aU (W':=W.alloc (.cells #[.slice a0 L0.length c0,.slice a1 L1.length c1,.slice a2 L2.length c2,.int .i64 x3,.slice a3 L3.length c3,.slice a4 L4.length c4,.slice a5 L5.length c5,.int .i64 x7,.int .i64 x8,.int .i64 x9] 46)) j6 (fun q hq=>Below.heap_alloc _ _ _ (hS5 q hq)))
 have HS5:=ak hS5
 have DF:=ak jO
 have DC:=ak jN
 have NA:=ak mM
 have Nz:=ak mK
 have Ny:=ak mJ
 have Dz:=ak jM
 have Nw:=ak mI
 have Nv:=ak mH
 have Nu:=ak mG
 have Nt:=ak mF
 have Ns:=ak mE
 have Nr:=ak mD
 have Nq:=ak mq
 have Np:=ak mo
 have Nn:=ak mh
 clear dP gN gM ko kg j6 hS0 hS1 hS2 hS3 Xp hS5 jO jN mM mK mJ jM mI mH mG mF mE mD mq mo mh
 go_enter Tryz.func15,Tryz.ntmps15
 go_wp2_with fail
 refine (Eb (W:=W.alloc (.cells #[.slice a0 L0.length c0,.slice a1 L1.length c1,.slice a2 L2.length c2,.int .i64 x3,.slice a3 L3.length c3,.slice a4 L4.length c4,.slice a5 L5.length c5,.int .i64 x7,.int .i64 x8,.int .i64 x9] 46)) h0 h1 (fun q hq=>iF (zR.out q hq) hz0) (fun q hq=>iF (zn.out q hq) hz0) (fun q hq=>iF (HS2.out q hq) hz0) (fun q hq=>iF (vH.out q hq) hz0) (fun q hq=>iF (Dn.out q hq) hz0) (fun q hq=>iF (HS5.out q hq) hz0) DF.out DC.out NA.out Nz.out Ny.out Dz.out Nw.out Nv.out Nu.out Nt.out Ns.out Nr.out Nq.out Np.out Nn.out fI.out pF.out pE.out Am.out Al.out Ak.out).mono ?_
 intro e w1 h
 obtain ⟨z0,z1,z2,z3,z4,z5,y0,y1,y2,y3,y4,y5,rfl,hh0,hh1,hh2,hh3,hh4,hh5,hoff⟩:=h
 have HH0:=ak hh0
 have HH1:=ak hh1
 have HH2:=ak hh2
 have HH3:=ak hh3
 have HH4:=ak hh4
 have HH5:=ak hh5
 have UE:=ak (GR.out.trans hoff)
 clear hoff hh0 hh1 hh2 hh3 hh4 hh5
 go_wp2
 go_ret
 exact ⟨z0,z1,z2,z3,z4,z5,y0,y1,y2,y3,y4,y5,rfl,HH0.out,HH1.out,HH2.out,HH3.out,HH4.out,HH5.out,UE.out⟩
theorem FD {L0:List (List (ay))}{L1:List (bA)}{L2:List (aX)}{x3:Int}{L3:List (aP)}{L4:List (aF)}{L5:List (bI)}{x7:Int}{x8:Int}{x9:Int}{a0:Option Addr}{c0:Nat}{a1:Option Addr}{c1:Nat}{a2:Option Addr}{c2:Nat}{a3:Option Addr}{c3:Nat}{a4:Option Addr}{c4:Nat}{a5:Option Addr}{c5:Nat}{W:World}{k:Int}{z0:Int}{z1:Int}{z2:Int}{z3:Int}{z4:Int}{z5:Int}(h0:0≤k)(h1:z5≤4611686018427387904)(hm0:jC (Sl av) L0 k z0)(hm1:jC aT L1 z0 z1)(hm2:jC aN L2 z1 z2)(Pg:jC aL L3 z2 z3)(Pf:jC aI L4 z3 z4)(Pb:jC bC L5 z4 z5)(dP:aJ (Sl av) W W.heap.size L0 a0 c0)(gN:aJ aT W W.heap.size L1 a1 c1)(gM:aJ aN W W.heap.size L2 a2 c2)(ko:aJ aL W W.heap.size L3 a3 c3)(kg:aJ aI W W.heap.size L4 a4 c4)(j6:aJ bC W W.heap.size L5 a5 c5):Calls Tryz.prog 16 #[.agg #[.slice a0 L0.length c0,.slice a1 L1.length c1,.slice a2 L2.length c2,.int .i64 x3,.slice a3 L3.length c3,.slice a4 L4.length c4,.slice a5 L5.length c5,.int .i64 x7,.int .i64 x8,.int .i64 x9],.int .i64 k] W (nN z5 W):=by
 have HM0:=ak hm0
 have hl0:=eG (AU eY) hm0
 have jJ:=ak dP
 have Cz:=ak hm1
 have hl1:=eG o7 hm1
 have pJ:=ak gN
 have je:=ak hm2
 have hl2:=eG mW hm2
 have pI:=ak gM
 have HM3:=ak Pg
 have hl3:=eG sM Pg
 have Aq:=ak ko
 have HM4:=ak Pf
 have hl4:=eG sJ Pf
 have Ap:=ak kg
 have HM5:=ak Pb
 have hl5:=eG wU Pb
 have Ao:=ak j6
 clear dP gN gM ko kg j6 hm0 hm1 hm2 Pg Pf Pb
 have HB0:=ak (show Below W.heap.size W (W.alloc (.cells #[.slice a0 L0.length c0,.slice a1 L1.length c1,.slice a2 L2.length c2,.int .i64 x3,.slice a3 L3.length c3,.slice a4 L4.length c4,.slice a5 L5.length c5,.int .i64 x7,.int .i64 x8,.int .i64 x9] 46)) from (aW _ _).alloc (bK _) _)
 have hP:=aO.new W 46 #[.slice a0 L0.length c0,.slice a1 L1.length c1,.slice a2 L2.length c2,.int .i64 x3,.slice a3 L3.length c3,.slice a4 L4.length c4,.slice a5 L5.length c5,.int .i64 x7,.int .i64 x8,.int .i64 x9]
 have gY:=ak hP
 have hz0:W.heap.size≤(W.alloc (.cells #[.slice a0 L0.length c0,.slice a1 L1.length c1,.slice a2 L2.length c2,.int .i64 x3,.slice a3 L3.length c3,.slice a4 L4.length c4,.slice a5 L5.length c5,.int .i64 x7,.int .i64 x8,.int .i64 x9] 46)).heap.size:=HB0.out.size
 clear hP
 go_enter Tryz.func16,Tryz.ntmps16
 go_wp2_with fail
 refine (Ry (k:=k) h0 h1 HM0.out Cz.out je.out HM3.out HM4.out HM5.out ((jJ.out.below (aZ au) HB0.out).more (aZ au) hz0) ((pJ.out.below aG HB0.out).more aG hz0) ((pI.out.below aC HB0.out).more aC hz0) ((Aq.out.below aK HB0.out).more aK hz0) ((Ap.out.below aA HB0.out).more aA hz0) ((Ao.out.below aU HB0.out).more aU hz0)).mono ?_
 intro e w1 h
 obtain ⟨rfl,hb⟩:=eU h
 have HB1:=ak (HB0.out.trans (hb.mono hz0))
 have hpos:(0:Int)≤z5:=by omega
 clear h hb
 go_wp2
 go_ret
 exact ⟨rfl,HB1.out⟩
theorem Iq {d:dF}{cs:List Value}{W:World}{l:Int}(h0:0≤l)(h1:l≤1048576)(h:bW.rd W W.heap.size d cs):Calls Tryz.prog 7 #[.agg cs.toArray,.int .i64 l] W (JN l (bW.sz d) W):=by
 obtain ⟨⟨L0,L1,L2,x3⟩,L3,L4,L5,x7⟩:=d
 obtain ⟨a0,c0,a1,c1,a2,c2,a3,c3,a4,c4,a5,c5,rfl,dY,l7,lZ,oD,oC,oz⟩:=pR h
 exact ZB h0 h1 dY l7 lZ oD oC oz
theorem wS {d:dF}{cs:List Value}{W:World}(hsz:bW.sz d≤1048576)(h:bW.rd W W.heap.size d cs):Calls Tryz.prog 9 #[.agg cs.toArray] W (kT bW d W):=by
 obtain ⟨⟨L0,L1,L2,x3⟩,L3,L4,L5,x7⟩:=d
 obtain ⟨a0,c0,a1,c1,a2,c2,a3,c3,a4,c4,a5,c5,rfl,dY,l7,lZ,oD,oC,oz⟩:=pR h
 exact Zr hsz dY l7 lZ oD oC oz
theorem WI {d:dF}{cs cs':List Value}{W:World}(h:bW.rd W W.heap.size d cs)(h':bW.rd W W.heap.size d cs'):Calls Tryz.prog 13 #[.agg cs.toArray,.agg cs'.toArray] W (sS true W):=by
 obtain ⟨⟨L0,L1,L2,x3⟩,L3,L4,L5,x7⟩:=d
 obtain ⟨a0,c0,a1,c1,a2,c2,a3,c3,a4,c4,a5,c5,rfl,dY,l7,lZ,oD,oC,oz⟩:=pR h
 obtain ⟨a0',c0',a1',c1',Cx,c2',a3',c3',a4',JZ,J2,JY,rfl,vU,Uf,Ue,Ud,Uc,Ub⟩:=pR h'
 exact eq_Yard dY l7 lZ oD oC oz vU Uf Ue Ud Uc Ub
theorem wN {W:World}{S:Nat→Prop}{L0:List (List (ay))}{L1:List (bA)}{L2:List (aX)}{x3:Int}{L3:List (aP)}{L4:List (aF)}{L5:List (bI)}{x7:Int}{cs:List Value}(h:bW.ow W S ((L0,L1,L2,x3),L3,L4,L5,x7) cs):∃ a0 c0 a1 c1 a2 c2 a3 c3 a4 c4 a5 c5,cs = [.slice a0 L0.length c0,.slice a1 L1.length c1,.slice a2 L2.length c2,.int .i64 x3,.slice a3 L3.length c3,.slice a4 L4.length c4,.slice a5 L5.length c5,.int .i64 x7]∧bW.ow W S ((L0,L1,L2,x3),L3,L4,L5,x7) [.slice a0 L0.length c0,.slice a1 L1.length c1,.slice a2 L2.length c2,.int .i64 x3,.slice a3 L3.length c3,.slice a4 L4.length c4,.slice a5 L5.length c5,.int .i64 x7]:=by
 have h0:=h
 obtain ⟨a0,c0,a1,c1,a2,c2,a3,c3,a4,c4,a5,c5,T0,T1,T2,T3,T4,T5,rfl,_⟩:=ER h
 exact ⟨a0,c0,a1,c1,a2,c2,a3,c3,a4,c4,a5,c5,rfl,h0⟩
theorem VO {W:World}{B:Nat}{L0:List (List (ay))}{L1:List (bA)}{L2:List (aX)}{x3:Int}{L3:List (aP)}{L4:List (aF)}{L5:List (bI)}{x7:Int}{cs:List Value}(h:bW.rd W B ((L0,L1,L2,x3),L3,L4,L5,x7) cs):∃ a0 c0 a1 c1 a2 c2 a3 c3 a4 c4 a5 c5,cs = [.slice a0 L0.length c0,.slice a1 L1.length c1,.slice a2 L2.length c2,.int .i64 x3,.slice a3 L3.length c3,.slice a4 L4.length c4,.slice a5 L5.length c5,.int .i64 x7]∧bW.rd W B ((L0,L1,L2,x3),L3,L4,L5,x7) [.slice a0 L0.length c0,.slice a1 L1.length c1,.slice a2 L2.length c2,.int .i64 x3,.slice a3 L3.length c3,.slice a4 L4.length c4,.slice a5 L5.length c5,.int .i64 x7]:=by
 have h0:=h
 obtain ⟨a0,c0,a1,c1,a2,c2,a3,c3,a4,c4,a5,c5,rfl,_⟩:=pR h
 exact ⟨a0,c0,a1,c1,a2,c2,a3,c3,a4,c4,a5,c5,rfl,h0⟩
theorem Iu {L0:List (List (ay))}{L1:List (bA)}{L2:List (aX)}{x3:Int}{L3:List (aP)}{L4:List (aF)}{L5:List (bI)}{x7:Int}:bW.cv ((L0,L1,L2,x3),L3,L4,L5,x7)=bD ((Sl av)).cm L0+bD (aT).cm L1+bD (aN).cm L2+bD (aL).cm L3+bD (aI).cm L4+bD (bC).cm L5:=by
 simp only [bW,cu,Pr,Sl,I,Bo,atom];omega
theorem L6 {d:dF}{cs:List Value}{W:World}{S:Nat→Prop}{k:Int}(h0:0≤k)(h1:k+(bW.cv d:Nat)≤4611686018427387904)(hS:∀ q,S q→q<W.heap.size)(h:bW.ow W S d cs):Calls Tryz.prog 14 #[.agg cs.toArray,.int .i64 k] W (Uw bW d cs S k W):=by
 obtain ⟨⟨L0,L1,L2,x3⟩,L3,L4,L5,x7⟩:=d
 obtain ⟨a0,c0,a1,c1,a2,c2,a3,c3,a4,c4,a5,c5,T0,T1,T2,T3,T4,T5,rfl,hs0,hs1,hs2,hs3,hs4,hs5,jO,jN,mM,mK,mJ,jM,mI,mH,mG,mF,mE,mD,mq,mo,mh,dY,l7,lZ,oD,oC,oz⟩:=ER h
 have hcv:=Iu (L0:=L0) (L1:=L1) (L2:=L2) (x3:=x3) (L3:=L3) (L4:=L4) (L5:=L5) (x7:=x7)
 refine (Eb h0 (by rw [hcv] at h1;omega) (fun q hq=>hS q (hs0 q hq)) (fun q hq=>hS q (hs1 q hq)) (fun q hq=>hS q (hs2 q hq)) (fun q hq=>hS q (hs3 q hq)) (fun q hq=>hS q (hs4 q hq)) (fun q hq=>hS q (hs5 q hq)) (fun q hi hj=>jO q hi hj) (fun q hi hj=>jN q hi hj) (fun q hi hj=>mM q hi hj) (fun q hi hj=>mK q hi hj) (fun q hi hj=>mJ q hi hj) (fun q hi hj=>jM q hi hj) (fun q hi hj=>mI q hi hj) (fun q hi hj=>mH q hi hj) (fun q hi hj=>mG q hi hj) (fun q hi hj=>mF q hi hj) (fun q hi hj=>mE q hi hj) (fun q hi hj=>mD q hi hj) (fun q hi hj=>mq q hi hj) (fun q hi hj=>mo q hi hj) (fun q hi hj=>mh q hi hj) dY l7 lZ oD oC oz).mono fun e w' hh=>?_
 obtain ⟨z0,z1,z2,z3,z4,z5,y0,y1,y2,y3,y4,y5,rfl,⟨hl0,hm0,hz0,ho0⟩,⟨hl1,hm1,hz1,ho1⟩,⟨hl2,hm2,hz2,ho2⟩,⟨hl3,Pg,hz3,ho3⟩,⟨hl4,Pf,lW,ho4⟩,⟨hl5,Pb,uI,Sm⟩,hoff⟩:=hh
 have hmk:=yh (x3:=x3) (x7:=x7) hs0 hs1 hs2 hs3 hs4 hs5 jO jN mM mK mJ jM mI mH mG mF mE mD mq mo mh ho0 ho1 ho2 ho3 ho4 Sm
 simp only [hl0,hl1,hl2,hl3,hl4,hl5] at hmk
 exact ⟨((y0,y1,y2,x3),y3,y4,y5,x7),_,rfl,⟨z2,⟨z0,hm0,⟨z1,hm1,⟨z2,hm2,rfl⟩⟩⟩,⟨z3,Pg,⟨z4,Pf,⟨z5,Pb,rfl⟩⟩⟩⟩,by rw [hcv];omega,hmk,hoff.more fun q hq=>by rcases hq with hq | hq | hq | hq | hq | hq <;> first | exact hs0 q hq | exact hs1 q hq | exact hs2 q hq | exact hs3 q hq | exact hs4 q hq | exact hs5 q hq⟩
theorem rC {d:dU}{cs cs':List Value}{W:World}(h:cB.rd W W.heap.size d cs)(h':cB.rd W W.heap.size d cs'):Calls Tryz.prog 12 #[.agg cs.toArray,.agg cs'.toArray] W (sS true W):=by
 obtain ⟨⟨⟨L0,L1,L2,x3⟩,L3,L4,L5,x7⟩,x8,x9⟩:=d
 obtain ⟨a0,c0,a1,c1,a2,c2,a3,c3,a4,c4,a5,c5,rfl,dY,l7,lZ,oD,oC,oz⟩:=uZ h
 obtain ⟨a0',c0',a1',c1',Cx,c2',a3',c3',a4',JZ,J2,JY,rfl,vU,Uf,Ue,Ud,Uc,Ub⟩:=uZ h'
 exact eq_YardOut dY l7 lZ oD oC oz vU Uf Ue Ud Uc Ub
theorem nX {W:World}{S:Nat→Prop}{L0:List (List (ay))}{L1:List (bA)}{L2:List (aX)}{x3:Int}{L3:List (aP)}{L4:List (aF)}{L5:List (bI)}{x7:Int}{x8:Int}{x9:Int}{cs:List Value}(h:cB.ow W S (((L0,L1,L2,x3),L3,L4,L5,x7),x8,x9) cs):∃ a0 c0 a1 c1 a2 c2 a3 c3 a4 c4 a5 c5,cs = [.slice a0 L0.length c0,.slice a1 L1.length c1,.slice a2 L2.length c2,.int .i64 x3,.slice a3 L3.length c3,.slice a4 L4.length c4,.slice a5 L5.length c5,.int .i64 x7,.int .i64 x8,.int .i64 x9]∧cB.ow W S (((L0,L1,L2,x3),L3,L4,L5,x7),x8,x9) [.slice a0 L0.length c0,.slice a1 L1.length c1,.slice a2 L2.length c2,.int .i64 x3,.slice a3 L3.length c3,.slice a4 L4.length c4,.slice a5 L5.length c5,.int .i64 x7,.int .i64 x8,.int .i64 x9]:=by
 have h0:=h
 obtain ⟨a0,c0,a1,c1,a2,c2,a3,c3,a4,c4,a5,c5,T0,T1,T2,T3,T4,T5,rfl,_⟩:=BI h
 exact ⟨a0,c0,a1,c1,a2,c2,a3,c3,a4,c4,a5,c5,rfl,h0⟩
theorem rE {L0:List (List (ay))}{L1:List (bA)}{L2:List (aX)}{x3:Int}{L3:List (aP)}{L4:List (aF)}{L5:List (bI)}{x7:Int}{x8:Int}{x9:Int}:cB.cv (((L0,L1,L2,x3),L3,L4,L5,x7),x8,x9)=bD ((Sl av)).cm L0+bD (aT).cm L1+bD (aN).cm L2+bD (aL).cm L3+bD (aI).cm L4+bD (bC).cm L5:=by
 simp only [cB,bW,cu,Pr,Sl,I,Bo,atom];omega
theorem Dl {d:dU}{cs:List Value}{W:World}{S:Nat→Prop}{k:Int}(h0:0≤k)(h1:k+(cB.cv d:Nat)≤4611686018427387904)(hS:∀ q,S q→q<W.heap.size)(h:cB.ow W S d cs):Calls Tryz.prog 15 #[.agg cs.toArray,.int .i64 k] W (Uw cB d cs S k W):=by
 obtain ⟨⟨⟨L0,L1,L2,x3⟩,L3,L4,L5,x7⟩,x8,x9⟩:=d
 obtain ⟨a0,c0,a1,c1,a2,c2,a3,c3,a4,c4,a5,c5,T0,T1,T2,T3,T4,T5,rfl,hs0,hs1,hs2,hs3,hs4,hs5,jO,jN,mM,mK,mJ,jM,mI,mH,mG,mF,mE,mD,mq,mo,mh,dY,l7,lZ,oD,oC,oz⟩:=BI h
 have hcv:=rE (L0:=L0) (L1:=L1) (L2:=L2) (x3:=x3) (L3:=L3) (L4:=L4) (L5:=L5) (x7:=x7) (x8:=x8) (x9:=x9)
 refine (Fw h0 (by rw [hcv] at h1;omega) (fun q hq=>hS q (hs0 q hq)) (fun q hq=>hS q (hs1 q hq)) (fun q hq=>hS q (hs2 q hq)) (fun q hq=>hS q (hs3 q hq)) (fun q hq=>hS q (hs4 q hq)) (fun q hq=>hS q (hs5 q hq)) (fun q hi hj=>jO q hi hj) (fun q hi hj=>jN q hi hj) (fun q hi hj=>mM q hi hj) (fun q hi hj=>mK q hi hj) (fun q hi hj=>mJ q hi hj) (fun q hi hj=>jM q hi hj) (fun q hi hj=>mI q hi hj) (fun q hi hj=>mH q hi hj) (fun q hi hj=>mG q hi hj) (fun q hi hj=>mF q hi hj) (fun q hi hj=>mE q hi hj) (fun q hi hj=>mD q hi hj) (fun q hi hj=>mq q hi hj) (fun q hi hj=>mo q hi hj) (fun q hi hj=>mh q hi hj) dY l7 lZ oD oC oz).mono fun e w' hh=>?_
 obtain ⟨z0,z1,z2,z3,z4,z5,y0,y1,y2,y3,y4,y5,rfl,⟨hl0,hm0,hz0,ho0⟩,⟨hl1,hm1,hz1,ho1⟩,⟨hl2,hm2,hz2,ho2⟩,⟨hl3,Pg,hz3,ho3⟩,⟨hl4,Pf,lW,ho4⟩,⟨hl5,Pb,uI,Sm⟩,hoff⟩:=hh
 have hmk:=Fv (x3:=x3) (x7:=x7) (x8:=x8) (x9:=x9) hs0 hs1 hs2 hs3 hs4 hs5 jO jN mM mK mJ jM mI mH mG mF mE mD mq mo mh ho0 ho1 ho2 ho3 ho4 Sm
 simp only [hl0,hl1,hl2,hl3,hl4,hl5] at hmk
 exact ⟨(((y0,y1,y2,x3),y3,y4,y5,x7),x8,x9),_,rfl,⟨z5,⟨z2,⟨z0,hm0,⟨z1,hm1,⟨z2,hm2,rfl⟩⟩⟩,⟨z3,Pg,⟨z4,Pf,⟨z5,Pb,rfl⟩⟩⟩⟩,⟨z5,rfl,rfl⟩⟩,by rw [hcv];omega,hmk,hoff.more fun q hq=>by rcases hq with hq | hq | hq | hq | hq | hq <;> first | exact hs0 q hq | exact hs1 q hq | exact hs2 q hq | exact hs3 q hq | exact hs4 q hq | exact hs5 q hq⟩
theorem uD {d:dU}{cs:List Value}{W:World}{k z:Int}(h0:0≤k)(h1:z≤4611686018427387904)(hm:cB.mv d k z)(h:cB.rd W W.heap.size d cs):Calls Tryz.prog 16 #[.agg cs.toArray,.int .i64 k] W (nN z W):=by
 obtain ⟨⟨⟨L0,L1,L2,x3⟩,L3,L4,L5,x7⟩,x8,x9⟩:=d
 obtain ⟨a0,c0,a1,c1,a2,c2,a3,c3,a4,c4,a5,c5,rfl,dY,l7,lZ,oD,oC,oz⟩:=uZ h
 obtain ⟨_,⟨_,⟨_,hm0,⟨_,hm1,⟨_,hm2,rfl⟩⟩⟩,⟨_,Pg,⟨_,Pf,⟨_,Pb,rfl⟩⟩⟩⟩,⟨_,rfl,rfl⟩⟩:=hm
 exact FD h0 h1 hm0 hm1 hm2 Pg Pf Pb dY l7 lZ oD oC oz
end
end aQ
end Go.Proofs.YtlhfiapfncikdaaGreatDoor
