import Derived.Test.YtlhfiapfncikdaaGreatDoorPU14
set_option linter.unusedVariables false
set_option linter.unusedSimpArgs false
set_option maxRecDepth 100000
set_option maxHeartbeats 3200000
namespace Go.Proofs.YtlhfiapfncikdaaGreatDoor.aP
section
open Go.RowKit bN bP
theorem Zq {W:World}{lo:Nat}{T:TypeId}{size n:Nat}{v:Value}{c:Nat→Value}(h:jf W lo T size v n c):∀ a cap,v=.slice a n cap→cap≤maxLen:=by
 rintro a cap rfl
 rcases h.2 with ⟨h1,h2⟩ | ⟨g,cap',cur,hv,_,_,_,hm,_⟩
 ·cases h1
  exact dX _
 ·cases hv
  exact hm
theorem Vw {W:World}{lo:Nat}{T:TypeId}{v:Value}{L:List Int}{c:Nat→Value}(h:jf W lo T 1 v L.length c)(hc:∀ j x,L[j]? = some x→c j=.int .i64 x) :
 ∃ a cap,v=.slice a L.length cap∧bG I W (Rg lo W.heap.size) L a cap:=by
 obtain ⟨a,cap,rfl⟩:=h.isSlice
 have hm:=Zq h a cap rfl
 by_cases hn:0<L.length
 ·obtain ⟨g,cap',hv,hlo,hg,hl,hcs,hf⟩:=h.form hn
  cases hv
  refine ⟨_,_,rfl,hl,hm,fun _=>⟨g,fun _ _=>False,rfl,⟨hlo,hg⟩,hf,fun i k h=>h.elim,fun i j k _ h=>h.elim,fun i x hx=>⟨[.int .i64 x],fun j d hd=>?_,rfl⟩⟩⟩
  have hj:j=0:=by have:=(List.getElem?_eq_some_iff.1 hd).1;simp at this;omega
  subst hj
  simp at hd
  subst hd
  have:=hcs i (by have:=(List.getElem?_eq_some_iff.1 hx).1;omega)
  rw [hc i x hx] at this
  simpa [show I.size=1 from rfl] using this
 ·have hn0:L.length=0:=by omega
  refine ⟨a,cap,rfl,?_,hm,fun h=>absurd h hn⟩
  rcases h.2 with ⟨h1,h2⟩ | ⟨g,cap',cur,hv,_,_,hl,_⟩
  ·omega
  ·omega
theorem V7:∃ i,Tryz.prog.info? 2=some i∧i.zero=some (.int .i64 0)∧i.size=1∧i.bytes=8:=by
 have h:(Tryz.prog.info? 2).map (fun i=>(i.zero,i.size,i.bytes))=some (some (.int .i64 0),1,8):=by kernel_rfl
 cases hx:Tryz.prog.info? 2 with
 | none=>rw [hx] at h;simp at h
 | some i=>rw [hx] at h;simp at h;exact ⟨i,rfl,h.1,h.2.1,h.2.2⟩
theorem Iq {L:List Int}{a:Option Addr}{cap:Nat}{W:World}{ty:TypeId}(hn:L.length≤1048576)(h:aH I W W.heap.size L a cap) :
 ∃ a' c' W',(Builtin.append_ #[70,70] ty #[.slice (some ⟨W.heap.size,0,none⟩) 0 0,.slice a L.length cap]).run Tryz.prog (W.alloc (.cells #[] 2))=.ok (.slice a' L.length c') W'∧bG I W' (Rg W.heap.size W'.heap.size) L a' c'∧Below W.heap.size W W':=by
 obtain ⟨i,hi,hz,hs,hb⟩:=V7
 have hbel:Below W.heap.size W (W.alloc (.cells #[] 2)):=(aU _ _).alloc (bK _) _
 have hown:=jf.ado W W.heap.size 2 1 (fun _=>.int .i64 0) (bK _)
 by_cases h0:L.length=0
 ·have hL:L = []:=List.eq_nil_of_length_eq_zero h0
  subst hL
  exact ⟨_,_,_,ET Tryz.underlying70 hi _ a 0 cap,⟨bK _,dX _,fun h=>absurd h (jK _)⟩,hbel⟩
 ·obtain ⟨g,o,rfl,hg,hel⟩:=h.2.2 (by omega)
  have hcell:∀ j,j<L.length*1→W.cell? ⟨g,o+j,none⟩=some (.int .i64 (L.getD j 0)):=fun j hj=>by
   obtain ⟨us,hu,hr⟩:=hel j (L[j]'(by omega)) (List.getElem?_eq_getElem (by omega))
   obtain rfl:us = [_]:=hr
   have:=hu 0 _ rfl
   rw [List.getD_eq_getElem?_getD,List.getElem?_eq_getElem (by omega)]
   simpa [show I.size=1 from rfl] using this
  obtain ⟨v',W',hr,hro,hb2,_,_⟩:=Zk (P:=Tryz.prog) (W.alloc (.cells #[] 2)) W.heap.size 70 ty 2 i _ 1 8 Tryz.underlying70 hi hz hs hb rfl (by omega) _ 0 _ hown g o L.length cap (fun j=>.int .i64 (L.getD j 0))
   (fun j hj=>(hbel.cell (p:=⟨g,o+j,none⟩) hg).trans (hcell j hj)) (fun j hj=>rfl) (by unfold maxLen;omega) (by omega) (by simp)
  rw [Nat.zero_add] at hro
  obtain ⟨a',c',rfl,hos⟩:=Vw hro (fun j x hx=>by
   have hj:=(List.getElem?_eq_some_iff.1 hx).1
   simp [List.getD_eq_getElem?_getD,hx])
  exact ⟨a',c',W',hr,hos,hbel.trans hb2⟩
theorem LQ {L:List Int}{a:Option Addr}{cap:Nat}{W:World}(hn:L.length≤1048576)(h:aH I W W.heap.size L a cap) :
 Calls Tryz.prog 250 #[.slice a L.length cap] W (jW I L W):=by
 have qT:∀ (w:World) (a:Option Addr) (n c n' c':Nat),(binOp .eql 70 (.slice a n c) (.slice none n' c')).run Tryz.prog w=.ok (.bool a.isNone) w:=fun w a n c n' c'=>Lib.run_eql_slice_nil w _ _ a n c n' c' Tryz.underlying70
 cases a with
 | none=>
  have h0:L.length=0:=by
   by_cases hp:0<L.length
   ·obtain ⟨g,o,he,_⟩:=h.2.2 hp
    cases he
   ·omega
  have hL:L = []:=List.eq_nil_of_length_eq_zero h0
  subst hL
  go_enter Tryz.func250,Tryz.ntmps250
  go_wp2
  go_ret
  exact ⟨none,0,rfl,⟨bK _,dX _,fun h=>absurd h (jK _)⟩,aU _ _⟩
 | some x=>
  obtain ⟨a',c',w5,hr,hos,hb⟩:=Iq (ty:=70) hn h
  have HR:=aj hr
  have HO:=aj hos
  have HB:=aj hb
  clear hr hos hb h
  go_enter Tryz.func250,Tryz.ntmps250
  go_wp2_with (at_builtin;refine dR rfl (.tmp 5) (.tmp 6) 70 rfl rfl rfl HR.out ?_)
  go_ret
  exact ⟨a',c',rfl,HO.out,HB.out⟩
theorem eD {w:World}{g i:Nat}{v:Value}(h:w.cell? ⟨g,i,none⟩=some v):w.setCell ⟨g,i,none⟩ v=w:=by
 have e:(w.setCell ⟨g,i,none⟩ v).heap=w.heap:=by
  unfold World.setCell
  apply Array.ext_getElem?
  intro j
  show (Array.modify _ _ _)[j]? = _
  rw [Array.getElem?_modify]
  by_cases hj:g=j
  ·subst hj
   rw [if_pos rfl]
   unfold World.cell? at h
   cases ho:w.heap[g]? with
   | none=>rfl
   | some o=>
    rw [ho] at h
    cases o with
    | cells c t f=>
     simp at h
     simp only [Option.map_some,Option.isSome_none,Bool.false_eq_true,if_false]
     congr 2
     apply Array.ext_getElem?
     intro q
     rw [Array.getElem?_setIfInBounds]
     by_cases hq:i=q
     ·subst hq
      rw [if_pos rfl]
      have:=(Array.getElem?_eq_some_iff.1 h).1
      rw [if_pos this,h]
     ·rw [if_neg hq]
    | _=>simp at h
  ·rw [if_neg hj]
 have e2:w.setCell ⟨g,i,none⟩ v={ w with heap:=(w.setCell ⟨g,i,none⟩ v).heap }:=rfl
 rw [e2,e]
end
section
open Go.RowKit bN bP bJ bM fT
theorem LG {x0 x1 x2:Int}{x3:ByteArray}{x4 x5 x6 x7 x8 x9 x10 aR aW:Int}{L:List Int}{a:Option Addr}{c:Nat}{W:World}(gW:x3.size≤maxLen)(hn:L.length≤1048576)(h:aH I W W.heap.size L a c) :
 Calls Tryz.prog 69 #[.agg #[.int .i64 x0,.int .i64 x1,.int .i64 x2,.string x3,.int .i64 x4,.int .i64 x5,.int .i64 x6,.int .i64 x7,.int .i64 x8,.int .i64 x9,.int .i64 x10,.int .i64 aR,.int .i64 aW,.slice a L.length c]] W (kU aI ((x0,x1),x2,x3,x4,x5,x6,(x7,x8),x9,x10,aR,aW,L) W):=by
 have Mt:=aj gW
 have hB0:Below W.heap.size W ((W.alloc (.cells #[.int .i64 x0,.int .i64 x1,.int .i64 x2,.string x3,.int .i64 x4,.int .i64 x5,.int .i64 x6,.int .i64 x7,.int .i64 x8,.int .i64 x9,.int .i64 x10,.int .i64 aR,.int .i64 aW,.slice a L.length c] 72)).alloc (.cells #[.int .i64 0,.int .i64 0,.int .i64 0,.string ⟨#[]⟩,.int .i64 0,.int .i64 0,.int .i64 0,.int .i64 0,.int .i64 0,.int .i64 0,.int .i64 0,.int .i64 0,.int .i64 0,.slice none 0 0] 72)):=((aU _ _).alloc (bK _) _).alloc (by simp) _
 obtain ⟨a',c',w5,hr,hos,hb⟩:=Iq (ty:=70) hn ((h.below cO hB0).more cO hB0.size)
 have hP:=(aN.new W 72 #[.int .i64 x0,.int .i64 x1,.int .i64 x2,.string x3,.int .i64 x4,.int .i64 x5,.int .i64 x6,.int .i64 x7,.int .i64 x8,.int .i64 x9,.int .i64 x10,.int .i64 aR,.int .i64 aW,.slice a L.length c]).alloc (.cells #[.int .i64 0,.int .i64 0,.int .i64 0,.string ⟨#[]⟩,.int .i64 0,.int .i64 0,.int .i64 0,.int .i64 0,.int .i64 0,.int .i64 0,.int .i64 0,.int .i64 0,.int .i64 0,.slice none 0 0] 72)
 have hR:=aN.new (W.alloc (.cells #[.int .i64 x0,.int .i64 x1,.int .i64 x2,.string x3,.int .i64 x4,.int .i64 x5,.int .i64 x6,.int .i64 x7,.int .i64 x8,.int .i64 x9,.int .i64 x10,.int .i64 aR,.int .i64 aW,.slice a L.length c] 72)) 72 #[.int .i64 0,.int .i64 0,.int .i64 0,.string ⟨#[]⟩,.int .i64 0,.int .i64 0,.int .i64 0,.int .i64 0,.int .i64 0,.int .i64 0,.int .i64 0,.int .i64 0,.int .i64 0,.slice none 0 0]
 have hP5:=aj (hP.call hb)
 have hR5:=aj (hR.call hb)
 have ny:=aj (hB0.trans (hb.mono hB0.size))
 have hsz5:=hb.size
 simp only [World.size_alloc] at hr
 have HR:=aj hr
 have HO:=aj hos
 simp only [World.size_alloc] at hsz5 hP hR
 have hgo:W.heap.size+2≤w5.heap.size:=hsz5
 have p0:=hP.at_ 0 rfl
 have p1:=hP.at_ 1 rfl
 have p2:=hP.at_ 2 rfl
 have p3:=hP.at_ 3 rfl
 have p4:=hP.at_ 4 rfl
 have p5:=hP.at_ 5 rfl
 have p6:=hP.at_ 6 rfl
 have p7:=hP.at_ 7 rfl
 have p8:=hP.at_ 8 rfl
 have p9:=hP.at_ 9 rfl
 have RQ:=hP.at_ 10 rfl
 have RP:=hP.at_ 11 rfl
 have RO:=hP.at_ 12 rfl
 have RN:=hP.at_ 13 rfl
 clear hP hR hB0 hr hos hb h
 have hRx:=hR5.out
 simp only [World.size_alloc] at hRx
 have HR5:=aj hRx
 obtain ⟨q0,q1,q2,q3,q4,q5,q6,q7,q8,q9,RL,RJ,RI,LZ⟩:=hP5.out.fQ rfl
 obtain ⟨f0,f1,f2,f3,f4,f5,f6,f7,f8,f9,f10,f11,f12,f13⟩:=hP5.out.qN
 obtain ⟨r0,r1,r2,r3,r4,r5,r6,r7,r8,r9,r10,r11,r12,r13⟩:=HR5.out.fQ rfl
 obtain ⟨g0,g1,g2,g3,g4,g5,g6,g7,g8,g9,g10,g11,g12,g13⟩:=HR5.out.qN
 clear hRx hR5 gW
 go_enter Tryz.func69,Tryz.ntmps69
 go_wp2_with (at_builtin;refine dR rfl (.tmp 3) (.tmp 5) 70 rfl rfl rfl HR.out ?_)
 refine qA (v:=.agg #[.int .i64 x0,.int .i64 x1,.int .i64 x2,.string x3,.int .i64 x4,.int .i64 x5,.int .i64 x6,.int .i64 x7,.int .i64 x8,.int .i64 x9,.int .i64 x10,.int .i64 aR,.int .i64 aW,.slice a' L.length c']) (by simp [results,Tryz.results69,go_sem, *]) rfl ⟨[.int .i64 x0,.int .i64 x1,.int .i64 x2,.string x3,.int .i64 x4,.int .i64 x5,.int .i64 x6,.int .i64 x7,.int .i64 x8,.int .i64 x9,.int .i64 x10,.int .i64 aR,.int .i64 aW,.slice a' L.length c'],rfl,?_,(((((((((((((((ny.out.setCell (p:=⟨W.heap.size,13,none⟩) (by show W.heap.size≤W.heap.size;omega) (.slice a' L.length c')).setCell (p:=⟨W.heap.size+1,0,none⟩) (by show W.heap.size≤W.heap.size+1;omega) (.int .i64 x0)).setCell (p:=⟨W.heap.size+1,1,none⟩) (by show W.heap.size≤W.heap.size+1;omega) (.int .i64 x1)).setCell (p:=⟨W.heap.size+1,2,none⟩) (by show W.heap.size≤W.heap.size+1;omega) (.int .i64 x2)).setCell (p:=⟨W.heap.size+1,3,none⟩) (by show W.heap.size≤W.heap.size+1;omega) (.string x3)).setCell (p:=⟨W.heap.size+1,4,none⟩) (by show W.heap.size≤W.heap.size+1;omega) (.int .i64 x4)).setCell (p:=⟨W.heap.size+1,5,none⟩) (by show W.heap.size≤W.heap.size+1;omega) (.int .i64 x5)).setCell (p:=⟨W.heap.size+1,6,none⟩) (by show W.heap.size≤W.heap.size+1;omega) (.int .i64 x6)).setCell (p:=⟨W.heap.size+1,7,none⟩) (by show W.heap.size≤W.heap.size+1;omega) (.int .i64 x7)).setCell (p:=⟨W.heap.size+1,8,none⟩) (by show W.heap.size≤W.heap.size+1;omega) (.int .i64 x8)).setCell (p:=⟨W.heap.size+1,9,none⟩) (by show W.heap.size≤W.heap.size+1;omega) (.int .i64 x9)).setCell (p:=⟨W.heap.size+1,10,none⟩) (by show W.heap.size≤W.heap.size+1;omega) (.int .i64 x10)).setCell (p:=⟨W.heap.size+1,11,none⟩) (by show W.heap.size≤W.heap.size+1;omega) (.int .i64 aR)).setCell (p:=⟨W.heap.size+1,12,none⟩) (by show W.heap.size≤W.heap.size+1;omega) (.int .i64 aW)).setCell (p:=⟨W.heap.size+1,13,none⟩) (by show W.heap.size≤W.heap.size+1;omega) (.slice a' L.length c'))⟩
 have hoff:=((((((((((((((((Off.refl (fun x=>x<W.heap.size+2) w5).setCell (p:=⟨W.heap.size,13,none⟩) (by show W.heap.size<W.heap.size+2;omega) (.slice a' L.length c')).setCell (p:=⟨W.heap.size+1,0,none⟩) (by show W.heap.size+1<W.heap.size+2;omega) (.int .i64 x0)).setCell (p:=⟨W.heap.size+1,1,none⟩) (by show W.heap.size+1<W.heap.size+2;omega) (.int .i64 x1)).setCell (p:=⟨W.heap.size+1,2,none⟩) (by show W.heap.size+1<W.heap.size+2;omega) (.int .i64 x2)).setCell (p:=⟨W.heap.size+1,3,none⟩) (by show W.heap.size+1<W.heap.size+2;omega) (.string x3)).setCell (p:=⟨W.heap.size+1,4,none⟩) (by show W.heap.size+1<W.heap.size+2;omega) (.int .i64 x4)).setCell (p:=⟨W.heap.size+1,5,none⟩) (by show W.heap.size+1<W.heap.size+2;omega) (.int .i64 x5)).setCell (p:=⟨W.heap.size+1,6,none⟩) (by show W.heap.size+1<W.heap.size+2;omega) (.int .i64 x6)).setCell (p:=⟨W.heap.size+1,7,none⟩) (by show W.heap.size+1<W.heap.size+2;omega) (.int .i64 x7)).setCell (p:=⟨W.heap.size+1,8,none⟩) (by show W.heap.size+1<W.heap.size+2;omega) (.int .i64 x8)).setCell (p:=⟨W.heap.size+1,9,none⟩) (by show W.heap.size+1<W.heap.size+2;omega) (.int .i64 x9)).setCell (p:=⟨W.heap.size+1,10,none⟩) (by show W.heap.size+1<W.heap.size+2;omega) (.int .i64 x10)).setCell (p:=⟨W.heap.size+1,11,none⟩) (by show W.heap.size+1<W.heap.size+2;omega) (.int .i64 aR)).setCell (p:=⟨W.heap.size+1,12,none⟩) (by show W.heap.size+1<W.heap.size+2;omega) (.int .i64 aW)).setCell (p:=⟨W.heap.size+1,13,none⟩) (by show W.heap.size+1<W.heap.size+2;omega) (.slice a' L.length c'))
 have hsz:=hoff.size
 have hos:=HO.out
 simp only [World.size_alloc] at hos
 exact oN (fun k hk=>⟨by have:=hk.1;omega,by have:=hk.2;omega⟩) (hos.keep cO (fun k hk=>hoff.block k hk.2 (by have:=hk.1;omega))) Mt.out
theorem LH {x0 x1 x2:Int}{x3:ByteArray}{x4 x5 x6 x7 x8 x9 x10 aR aW:Int}{L:List Int}{a:Option Addr}{c:Nat}{W:World}(gW:x3.size≤1048576)(hn:L.length≤1048576)(h:aH I W W.heap.size L a c) :
 Calls Tryz.prog 211 #[.agg #[.int .i64 x0,.int .i64 x1,.int .i64 x2,.string x3,.int .i64 x4,.int .i64 x5,.int .i64 x6,.int .i64 x7,.int .i64 x8,.int .i64 x9,.int .i64 x10,.int .i64 aR,.int .i64 aW,.slice a L.length c]] W (kU aI ((x0,x1),x2,x3,x4,x5,x6,(x7,x8),x9,x10,aR,aW,L) W):=by
 have Mt:=aj (show x3.size≤maxLen from by unfold maxLen;omega)
 obtain ⟨w0,hw0⟩:∃ w,w=(W.alloc (.cells #[.int .i64 x0,.int .i64 x1,.int .i64 x2,.string x3,.int .i64 x4,.int .i64 x5,.int .i64 x6,.int .i64 x7,.int .i64 x8,.int .i64 x9,.int .i64 x10,.int .i64 aR,.int .i64 aW,.slice a L.length c] 72)).alloc (.cells #[.int .i64 0,.int .i64 0,.int .i64 0,.string ⟨#[]⟩,.int .i64 0,.int .i64 0,.int .i64 0,.int .i64 0,.int .i64 0,.int .i64 0,.int .i64 0,.int .i64 0,.int .i64 0,.slice none 0 0] 72):=⟨_,rfl⟩
 have hB0:Below W.heap.size W w0:=by rw [hw0];exact ((aU _ _).alloc (bK _) _).alloc (by simp) _
 have iF:=aj (show aN w0 W.heap.size 72 #[.int .i64 x0,.int .i64 x1,.int .i64 x2,.string x3,.int .i64 x4,.int .i64 x5,.int .i64 x6,.int .i64 x7,.int .i64 x8,.int .i64 x9,.int .i64 x10,.int .i64 aR,.int .i64 aW,.slice a L.length c] from by rw [hw0];exact (aN.new W 72 #[.int .i64 x0,.int .i64 x1,.int .i64 x2,.string x3,.int .i64 x4,.int .i64 x5,.int .i64 x6,.int .i64 x7,.int .i64 x8,.int .i64 x9,.int .i64 x10,.int .i64 aR,.int .i64 aW,.slice a L.length c]).alloc (.cells #[.int .i64 0,.int .i64 0,.int .i64 0,.string ⟨#[]⟩,.int .i64 0,.int .i64 0,.int .i64 0,.int .i64 0,.int .i64 0,.int .i64 0,.int .i64 0,.int .i64 0,.int .i64 0,.slice none 0 0] 72))
 have zT:=aj (show aN w0 (W.heap.size+1) 72 #[.int .i64 0,.int .i64 0,.int .i64 0,.string ⟨#[]⟩,.int .i64 0,.int .i64 0,.int .i64 0,.int .i64 0,.int .i64 0,.int .i64 0,.int .i64 0,.int .i64 0,.int .i64 0,.slice none 0 0] from by
  have h9:=aN.new (W.alloc (.cells #[.int .i64 x0,.int .i64 x1,.int .i64 x2,.string x3,.int .i64 x4,.int .i64 x5,.int .i64 x6,.int .i64 x7,.int .i64 x8,.int .i64 x9,.int .i64 x10,.int .i64 aR,.int .i64 aW,.slice a L.length c] 72)) 72 #[.int .i64 0,.int .i64 0,.int .i64 0,.string ⟨#[]⟩,.int .i64 0,.int .i64 0,.int .i64 0,.int .i64 0,.int .i64 0,.int .i64 0,.int .i64 0,.int .i64 0,.int .i64 0,.slice none 0 0]
  simp only [World.size_alloc] at h9
  rw [hw0];exact h9)
 have HH:=aj ((h.below cO hB0).more cO hB0.size)
 have HB0:=aj hB0
 have HN:=aj hn
 clear h hB0
 go_enter Tryz.func211,Tryz.ntmps211
 go_upto_region 1 with fail
 rw [←hw0]
 clear hw0
 obtain ⟨q0,q1,q2,q3,q4,q5,q6,q7,q8,q9,RL,RJ,RI,LZ⟩:=iF.out.fQ rfl
 go_wp2_with fail
 refine (Kq.yc x3 _ gW).mono ?_
 rintro e w1 ⟨rfl,hb⟩
 have dh:=aj (iF.out.call hb)
 have HR1:=aj (zT.out.call hb)
 have HB1:=aj (HB0.out.trans (hb.mono HB0.out.size))
 have HH1:=aj ((HH.out.below cO hb).more cO hb.size)
 have HS:=aj (show w1.setCell ⟨W.heap.size,3,none⟩ (.string x3)=w1 from eD (dh.out.at_ 3 rfl))
 clear hb q0 q1 q2 q3 q4 q5 q6 q7 q8 q9 RL RJ RI LZ
 obtain ⟨q0,q1,q2,q3,q4,q5,q6,q7,q8,q9,RL,RJ,RI,LZ⟩:=dh.out.fQ rfl
 obtain ⟨f0,f1,f2,f3,f4,f5,f6,f7,f8,f9,f10,f11,f12,f13⟩:=dh.out.qN
 go_wp2_with fail
 rw [HS.out]
 refine (LQ HN.out HH1.out).mono ?_
 intro e w5 h
 obtain ⟨a',c',rfl,hos,hb⟩:=bI h
 have zF:=aj (dh.out.call hb)
 have HR5:=aj (HR1.out.call hb)
 have ny:=aj (HB1.out.trans (hb.mono HB1.out.size))
 have HO:=aj hos
 have hgo:W.heap.size+2≤w1.heap.size:=by have:=HR1.out.lt;omega
 have hgo5:W.heap.size+2≤w5.heap.size:=by have:=HR5.out.lt;omega
 clear h hb hos HS q0 f0 q1 f1 q2 f2 q3 f3 q4 f4 q5 f5 q6 f6 q7 f7 q8 f8 q9 f9 RL f10 RJ f11 RI f12 LZ f13
 obtain ⟨q0,q1,q2,q3,q4,q5,q6,q7,q8,q9,RL,RJ,RI,LZ⟩:=zF.out.fQ rfl
 obtain ⟨f0,f1,f2,f3,f4,f5,f6,f7,f8,f9,f10,f11,f12,f13⟩:=zF.out.qN
 obtain ⟨r0,r1,r2,r3,r4,r5,r6,r7,r8,r9,r10,r11,r12,r13⟩:=HR5.out.fQ rfl
 obtain ⟨g0,g1,g2,g3,g4,g5,g6,g7,g8,g9,g10,g11,g12,g13⟩:=HR5.out.qN
 go_wp2
 refine qA (v:=.agg #[.int .i64 x0,.int .i64 x1,.int .i64 x2,.string x3,.int .i64 x4,.int .i64 x5,.int .i64 x6,.int .i64 x7,.int .i64 x8,.int .i64 x9,.int .i64 x10,.int .i64 aR,.int .i64 aW,.slice a' L.length c']) (by simp [results,Tryz.results211,go_sem, *]) rfl ⟨[.int .i64 x0,.int .i64 x1,.int .i64 x2,.string x3,.int .i64 x4,.int .i64 x5,.int .i64 x6,.int .i64 x7,.int .i64 x8,.int .i64 x9,.int .i64 x10,.int .i64 aR,.int .i64 aW,.slice a' L.length c'],rfl,?_,(((((((((((((((ny.out.setCell (p:=⟨W.heap.size,13,none⟩) (by show W.heap.size≤W.heap.size;omega) (.slice a' L.length c')).setCell (p:=⟨W.heap.size+1,0,none⟩) (by show W.heap.size≤W.heap.size+1;omega) (.int .i64 x0)).setCell (p:=⟨W.heap.size+1,1,none⟩) (by show W.heap.size≤W.heap.size+1;omega) (.int .i64 x1)).setCell (p:=⟨W.heap.size+1,2,none⟩) (by show W.heap.size≤W.heap.size+1;omega) (.int .i64 x2)).setCell (p:=⟨W.heap.size+1,3,none⟩) (by show W.heap.size≤W.heap.size+1;omega) (.string x3)).setCell (p:=⟨W.heap.size+1,4,none⟩) (by show W.heap.size≤W.heap.size+1;omega) (.int .i64 x4)).setCell (p:=⟨W.heap.size+1,5,none⟩) (by show W.heap.size≤W.heap.size+1;omega) (.int .i64 x5)).setCell (p:=⟨W.heap.size+1,6,none⟩) (by show W.heap.size≤W.heap.size+1;omega) (.int .i64 x6)).setCell (p:=⟨W.heap.size+1,7,none⟩) (by show W.heap.size≤W.heap.size+1;omega) (.int .i64 x7)).setCell (p:=⟨W.heap.size+1,8,none⟩) (by show W.heap.size≤W.heap.size+1;omega) (.int .i64 x8)).setCell (p:=⟨W.heap.size+1,9,none⟩) (by show W.heap.size≤W.heap.size+1;omega) (.int .i64 x9)).setCell (p:=⟨W.heap.size+1,10,none⟩) (by show W.heap.size≤W.heap.size+1;omega) (.int .i64 x10)).setCell (p:=⟨W.heap.size+1,11,none⟩) (by show W.heap.size≤W.heap.size+1;omega) (.int .i64 aR)).setCell (p:=⟨W.heap.size+1,12,none⟩) (by show W.heap.size≤W.heap.size+1;omega) (.int .i64 aW)).setCell (p:=⟨W.heap.size+1,13,none⟩) (by show W.heap.size≤W.heap.size+1;omega) (.slice a' L.length c'))⟩
 have hoff:=((((((((((((((((Off.refl (fun x=>x<W.heap.size+2) w5).setCell (p:=⟨W.heap.size,13,none⟩) (by show W.heap.size<W.heap.size+2;omega) (.slice a' L.length c')).setCell (p:=⟨W.heap.size+1,0,none⟩) (by show W.heap.size+1<W.heap.size+2;omega) (.int .i64 x0)).setCell (p:=⟨W.heap.size+1,1,none⟩) (by show W.heap.size+1<W.heap.size+2;omega) (.int .i64 x1)).setCell (p:=⟨W.heap.size+1,2,none⟩) (by show W.heap.size+1<W.heap.size+2;omega) (.int .i64 x2)).setCell (p:=⟨W.heap.size+1,3,none⟩) (by show W.heap.size+1<W.heap.size+2;omega) (.string x3)).setCell (p:=⟨W.heap.size+1,4,none⟩) (by show W.heap.size+1<W.heap.size+2;omega) (.int .i64 x4)).setCell (p:=⟨W.heap.size+1,5,none⟩) (by show W.heap.size+1<W.heap.size+2;omega) (.int .i64 x5)).setCell (p:=⟨W.heap.size+1,6,none⟩) (by show W.heap.size+1<W.heap.size+2;omega) (.int .i64 x6)).setCell (p:=⟨W.heap.size+1,7,none⟩) (by show W.heap.size+1<W.heap.size+2;omega) (.int .i64 x7)).setCell (p:=⟨W.heap.size+1,8,none⟩) (by show W.heap.size+1<W.heap.size+2;omega) (.int .i64 x8)).setCell (p:=⟨W.heap.size+1,9,none⟩) (by show W.heap.size+1<W.heap.size+2;omega) (.int .i64 x9)).setCell (p:=⟨W.heap.size+1,10,none⟩) (by show W.heap.size+1<W.heap.size+2;omega) (.int .i64 x10)).setCell (p:=⟨W.heap.size+1,11,none⟩) (by show W.heap.size+1<W.heap.size+2;omega) (.int .i64 aR)).setCell (p:=⟨W.heap.size+1,12,none⟩) (by show W.heap.size+1<W.heap.size+2;omega) (.int .i64 aW)).setCell (p:=⟨W.heap.size+1,13,none⟩) (by show W.heap.size+1<W.heap.size+2;omega) (.slice a' L.length c'))
 have hsz:=hoff.size
 have hos:=HO.out
 exact oN (fun k hk=>⟨by have:=hk.1;omega,by have:=hk.2;omega⟩) (hos.keep cO (fun k hk=>hoff.block k hk.2 (by have:=hk.1;omega))) Mt.out
end
end Go.Proofs.YtlhfiapfncikdaaGreatDoor.aP
