import Derived.Test.YtlhfiapfncikdaaGreatDoorPN3
import Derived.Test.YtlhfiapfncikdaaGreatDoorPN9
import Derived.Test.YtlhfiapfncikdaaGreatDoorPN11
set_option linter.unusedVariables false
set_option linter.unusedSimpArgs false
set_option maxRecDepth 100000
set_option maxHeartbeats 3200000
namespace Go.Proofs.YtlhfiapfncikdaaGreatDoor
namespace aQ
section
open Go.RowKit bN bO bJ bQ
noncomputable def lg (L:List aP)(n:Int)(ok:Bool)(ng:aP→Int×aP):mX:=
 if 400<L.length then ([],2)
 else if (iU L&&ok)=false then ([],1)
 else if dD n 0 ((L.length:Int)-1)=false then ([],6)
 else match L[n.toNat]? with
  | none=>([],6)
  | some x=>if (ng x).1=0 then (L.set n.toNat (ng x).2,0) else ([],(ng x).1)
def lY (st:Int)(x:aP):Int×aP:=if x.1=st then (10,x) else (0,(st,x.2))
structure zJ (w W:World)(L:List aP)(g k:Nat)(Sf:Nat→Nat→Prop):Prop where
 el:∀ i x,L[i]? = some x→∃ a c,W.cell? ⟨g,i*2,none⟩=some (.int .i64 x.1)∧W.cell? ⟨g,i*2+1,none⟩=some (.slice a x.2.length c)∧(i<k→bH bE W (Sf i) x.2 a c)∧(k≤i→aJ bE W w.heap.size x.2 a c)
 soft:∀ j,W.frozen? ⟨g,j,none⟩=false
 sub:∀ i q,Sf i q→g<q∧q<W.heap.size∧i<k
 zO:∀ i j q,i<j→Sf i q→¬Sf j q
 base:w.heap.size≤g
 lt:g<W.heap.size
 below:Below w.heap.size w W
theorem zJ.call {w W W':World}{L:List aP}{g k:Nat}{Sf:Nat→Nat→Prop}(h:zJ w W L g k Sf)(hb:Below W.heap.size W W'):zJ w W' L g k Sf:=by
 refine ⟨fun i x hx=>?_,fun j=>(hb.frozen (p:=⟨g,j,none⟩) h.lt).trans (h.soft j),fun i q hq=>by have:=h.sub i q hq;have:=hb.size;omega,h.zO,h.base,bV h.lt hb.size,h.below.trans (hb.mono h.below.size)⟩
 obtain ⟨a,c,h1,h2,h3,h4⟩:=h.el i x hx
 exact ⟨a,c,(hb.cell (p:=⟨g,i*2,none⟩) h.lt).trans h1,(hb.cell (p:=⟨g,i*2+1,none⟩) h.lt).trans h2,fun hi=>(h3 hi).keep bG fun q hq=>hb.block q (h.sub i q hq).2.1,fun hi=>(h4 hi).below bG (hb.mono h.below.size)⟩
theorem zJ.put {w W W1:World}{L:List aP}{g k:Nat}{Sf:Nat→Nat→Prop}{x:aP}{a:Option Addr}{c:Nat}(h:zJ w W L g k Sf)(hx:L[k]? = some x)(hb:Below W.heap.size W W1)(hr:bH bE W1 (Rg W.heap.size W1.heap.size) x.2 a c) :
 zJ w (W1.setCell ⟨g,k*2+1,none⟩ (.slice a x.2.length c)) L g (k+1) (fun i q=>if i=k then Rg W.heap.size W1.heap.size q else Sf i q):=by
 have hgl:=h.lt
 have hsz:=hb.size
 have hbs:=h.base
 have hws:=h.below.size
 obtain ⟨a0,c0,g1,g2,_,_⟩:=h.el k x hx
 have hk1:W1.cell? ⟨g,k*2+1,none⟩=some (.slice a0 x.2.length c0):=(hb.cell (p:=⟨g,k*2+1,none⟩) hgl).trans g2
 have hset:∀ q,q≠g→(W1.setCell ⟨g,k*2+1,none⟩ (.slice a x.2.length c)).heap[q]? = W1.heap[q]?:=fun q hq=>Below.heap_setCell W1 ⟨g,k*2+1,none⟩ _ q hq
 have hss:(W1.setCell ⟨g,k*2+1,none⟩ (.slice a x.2.length c)).heap.size=W1.heap.size:=by simp
 refine ⟨fun i y hy=>?_,fun j=>?_,fun i q hq=>?_,fun i j q hij hi=>?_,h.base,by rw [hss];omega,(h.below.trans (hb.mono hws)).setCell (by exact hbs) _⟩
 ·by_cases e:i=k
  ·subst e
   rw [hx] at hy
   cases hy
   refine ⟨a,c,?_,World.cell?_setCell_same _ _ _ hk1,fun _=>?_,fun hi=>absurd hi (by omega)⟩
   ·rw [World.cell?_setCell_other _ _ _ _ (fun e=>by injection e with _ e2;omega)]
    exact (hb.cell (p:=⟨g,i*2,none⟩) hgl).trans g1
   ·simp only [if_true]
    exact hr.keep bG fun q hq=>hset q (by unfold Rg at hq;omega)
  ·obtain ⟨a',c',h1,h2,h3,h4⟩:=h.el i y hy
   refine ⟨a',c',?_,?_,fun hi=>?_,fun hi=>?_⟩
   ·rw [World.cell?_setCell_other _ _ _ _ (fun e=>by injection e with _ e2;omega)]
    exact (hb.cell (p:=⟨g,i*2,none⟩) hgl).trans h1
   ·rw [World.cell?_setCell_other _ _ _ _ (fun e=>by injection e with _ e2;omega)]
    exact (hb.cell (p:=⟨g,i*2+1,none⟩) hgl).trans h2
   ·simp only [e,if_false]
    exact ((h3 (by omega)).keep bG fun q hq=>hb.block q (h.sub i q hq).2.1).keep bG fun q hq=>hset q (by have:=h.sub i q hq;omega)
   ·exact (h4 (by omega)).below bG ((hb.mono hws).trans ((aW _ _).setCell (by exact hbs) _))
 ·simp only [World.frozen?_setCell]
  exact (hb.frozen (p:=⟨g,j,none⟩) hgl).trans (h.soft j)
 ·rw [hss]
  by_cases e:i=k
  ·simp only [e,if_true] at hq
   unfold Rg at hq
   omega
  ·simp only [e,if_false] at hq
   have:=h.sub i q hq
   omega
 ·by_cases e1:i=k
  ·subst e1
   simp only [if_true] at hi
   have e2:j≠i:=by omega
   simp only [e2,if_false]
   intro hj
   have:=(h.sub j q hj).2.2
   omega
  ·simp only [e1,if_false] at hi
   by_cases e2:j=k
   ·simp only [e2,if_true]
    have:=(h.sub i q hi).2.1
    unfold Rg
    omega
   ·simp only [e2,if_false]
    exact h.zO i j q hij hi
theorem zJ.done {w W:World}{L:List aP}{g:Nat}{Sf:Nat→Nat→Prop}(h:zJ w W L g L.length Sf):Row aL W (Rg w.heap.size W.heap.size) L g Sf:=by
 refine ⟨⟨h.base,h.lt⟩,h.soft,fun i k hk=>⟨⟨by have:=(h.sub i k hk).1;have:=h.base;omega,(h.sub i k hk).2.1⟩,by have:=(h.sub i k hk).1;omega⟩,h.zO,fun i x hx=>?_⟩
 obtain ⟨a,c,h1,h2,h3,_⟩:=h.el i x hx
 refine ⟨[.int .i64 x.1,.slice a x.2.length c],fun j d hd=>?_,lS (fun k hk=>hk) (h3 (kM hx))⟩
 rw [eT]
 match j,hd with
 | 0,hd=>simp at hd;subst hd;simpa using h1
 | 1,hd=>simp at hd;subst hd;exact h2
 | j+2,hd=>simp at hd
theorem Row.put {α:Type}{E:Rp α}(hE:Ok E){W W':World}{S T:Nat→Prop}{L:List α}{g i:Nat}{Sf:Nat→Nat→Prop}{x:α}{us:List Value}(h:Row E W S L g Sf)(hS:∀ k,S k→k<W.heap.size)(hU:ni W W' g (i*E.size) ((i+1)*E.size) (Sf i))
 (hT:∀ k,T k→W.heap.size≤k) (hc:aR W' g (i*E.size) us) (hr:E.ow W' T x us):Row E W' (fun k=>S k∨T k) (L.set i x) g (fun j k=>if j=i then T k else Sf j k):=by
 have hg:=hS g h.own
 refine ⟨.inl h.own,fun j=>(hU.soft j).trans (h.soft j),fun j k hk=>?_,fun j l k hjl hj=>?_,fun j y hy=>?_⟩
 ·by_cases e:j=i
  ·simp only [e,if_true] at hk;exact ⟨.inr hk,by have:=hT k hk;omega⟩
  ·simp only [e,if_false] at hk;exact ⟨.inl (h.sub j k hk).1,(h.sub j k hk).2⟩
 ·by_cases e:j=i
  ·have e2:l≠i:=by omega
   simp only [e,if_true] at hj
   simp only [e2,if_false]
   exact fun hl=>by have:=hT k hj;have:=hS k (h.sub l k hl).1;omega
  ·simp only [e,if_false] at hj
   by_cases e2:l=i
   ·simp only [e2,if_true]
    exact fun hl=>by have:=hT k hl;have:=hS k (h.sub j k hj).1;omega
   ·simp only [e2,if_false]
    exact h.zO j l k hjl hj
 ·by_cases e:i=j
  ·subst e
   rw [List.getElem?_set] at hy
   split at hy
   ·split at hy
    ·injection hy with hy
     subst hy
     exact ⟨us,hc,by simpa using hr⟩
    ·cases hy
   ·exact absurd rfl ‹_›
  ·rw [List.getElem?_set_ne e] at hy
   obtain ⟨vs,hv,hw⟩:=h.el j y hy
   have e':j≠i:=fun q=>e q.symm
   refine ⟨vs,fun p c hp=>?_,?_⟩
   ·have hl:=(List.getElem?_eq_some_iff.1 hp).1
    rw [hE.jG hw] at hl
    rw [hU.cells _ (sw hl e)]
    exact hv p c hp
   ·simp only [e',if_false]
    refine hE.bT hw fun k hk=>hU.block k (hS k (h.sub j k hk).1) (h.sub j k hk).2 (fun hi=>?_)
    rcases Nat.lt_or_gt_of_ne e with e2 | e2
    ·exact h.zO i j k e2 hi hk
    ·exact h.zO j i k e2 hk hi
theorem xV {α:Type}{E:Rp α}{w:World}:bH E w (fun _=>False) ([]:List α) none 0:=⟨bK _,dV _,fun h=>absurd h (jH _)⟩
theorem EU {W:World}{S:Nat→Prop}{C:List (List ay)}{P:List bA}{Q:List aX}{hf:Int}{N:List aP}{T:List aF}{U:List bI}{now:Int}{cs:List Value}{na ta ua:Option Addr}{nc tc uc:Nat}{SC SN ST SU:Nat→Prop}(h1:∀ k,SC k→S k)(h2:∀ k,SN k→S k)(h3:∀ k,ST k→S k)(h4:∀ k,SU k→S k)(MF:∀ k,SC k→¬SN k)(Sr:∀ k,SC k→¬ST k)(d14:∀ k,SC k→¬SU k)(d23:∀ k,SN k→¬ST k)(d24:∀ k,SN k→¬SU k)(d34:∀ k,ST k→¬SU k)(hC:cu.ow W SC (C,P,Q,hf) cs)(hN:bH aL W SN N na nc)(hT:bH aI W ST T ta tc)(hU:bH bC W SU U ua uc) :
 bW.ow W S ((C,P,Q,hf),N,T,U,now) (cs++[.slice na N.length nc,.slice ta T.length tc,.slice ua U.length uc,.int .i64 now]):=
 ⟨cs,[.slice na N.length nc,.slice ta T.length tc,.slice ua U.length uc,.int .i64 now],SC,(fun k=>SN k∨ST k∨SU k),rfl,h1,(fun k h=>h.elim (h2 k) fun h=>h.elim (h3 k) (h4 k)),(fun k h h'=>h'.elim (MF k h) fun h'=>h'.elim (Sr k h) (d14 k h)),hC,
  ⟨[.slice na N.length nc],[.slice ta T.length tc,.slice ua U.length uc,.int .i64 now],SN,(fun k=>ST k∨SU k),rfl,(fun k h=>.inl h),(fun k h=>.inr h),(fun k h h'=>h'.elim (d23 k h) (d24 k h)),⟨na,nc,rfl,hN⟩,
   ⟨[.slice ta T.length tc],[.slice ua U.length uc,.int .i64 now],ST,SU,rfl,(fun k h=>.inl h),(fun k h=>.inr h),d34,⟨ta,tc,rfl,hT⟩,
    ⟨[.slice ua U.length uc],[.int .i64 now],SU,(fun _=>False),rfl,(fun k h=>h),(fun k h=>h.elim),(fun k h h'=>h'.elim),⟨ua,uc,rfl,hU⟩,rfl⟩⟩⟩⟩
theorem KA {W:World}{S:Nat→Prop}{y:dF}{cs:List Value}{id code:Int}(h:bW.ow W S y cs):cB.ow W S (y,id,code) (cs++[.int .i64 id,.int .i64 code]):=
 ⟨cs,[.int .i64 id,.int .i64 code],S,(fun _=>False),rfl,(fun k h=>h),(fun k h=>h.elim),(fun k h h'=>h'.elim),h,⟨[.int .i64 id],[.int .i64 code],(fun _=>False),(fun _=>False),rfl,(fun k h=>h.elim),(fun k h=>h.elim),(fun k h h'=>h'.elim),rfl,rfl⟩⟩
def jw (code:Int):dU:=((([],[],[],0),[],[],[],0),0,code)
theorem mk_zero {W:World}{S:Nat→Prop}(code:Int):cB.ow W S (jw code) [.slice none 0 0,.slice none 0 0,.slice none 0 0,.int .i64 0,.slice none 0 0,.slice none 0 0,.slice none 0 0,.int .i64 0,.int .i64 0,.int .i64 code]:=
 KA (EU (SC:=fun _=>False) (SN:=fun _=>False) (ST:=fun _=>False) (SU:=fun _=>False) (fun k h=>h.elim) (fun k h=>h.elim) (fun k h=>h.elim) (fun k h=>h.elim) (fun k h=>h.elim) (fun k h=>h.elim) (fun k h=>h.elim) (fun k h=>h.elim) (fun k h=>h.elim) (fun k h=>h.elim) (nY (T0:=fun _=>False) (T1:=fun _=>False) (T2:=fun _=>False) (fun k h=>h) (fun k h=>h) (fun k h=>h) (fun k h=>h.elim) (fun k h=>h.elim) (fun k h=>h.elim) xV xV xV) xV xV xV)
end
end aQ
end Go.Proofs.YtlhfiapfncikdaaGreatDoor
