import Derived.Test.YtlhfiapfncikdaaGreatDoorPN12
import Derived.Test.YtlhfiapfncikdaaGreatDoorPN15
set_option linter.unusedVariables false
set_option linter.unusedSimpArgs false
set_option maxRecDepth 100000
set_option maxHeartbeats 3200000
namespace Go.Proofs.YtlhfiapfncikdaaGreatDoor
namespace aQ
section
open Go.RowKit bN bO
structure Half {α:Type}(E:Rp α)(B:Nat)(w:World)(lo hi:Nat)(T:TypeId)(v:Value)(L:List α)(k:Nat)(xs:List Value)(Sf:Nat→Nat→Prop):Prop where
 own:w.ownsRow lo T E.size v L.length xs
 el:∀ i x,i<k→L[i]? = some x→∃ us,(∀ j c,us[j]? = some c→xs[i*E.size+j]? = some c)∧E.ow w (Sf i) x us
 rest:∀ i x,k≤i→L[i]? = some x→∃ us,(∀ j c,us[j]? = some c→xs[i*E.size+j]? = some c)∧E.rd w B x us
 sub:∀ i q,Sf i q→lo≤q∧q<hi∧v.ownBlock≠some q∧i<k
 zO:∀ i j q,i<j→Sf i q→¬Sf j q
 blk:∀ q,v.ownBlock=some q→lo≤q∧q<hi
 le:hi≤w.heap.size
 base:B≤lo
 top:B≤w.heap.size
section
variable {α:Type}{E:Rp α}{B:Nat}{w w' w1:World}{lo hi g n c:Nat}{T:TypeId}{v:Value}{L:List α}{k:Nat}{xs:List Value}{Sf:Nat→Nat→Prop}
theorem Half.done (h:Half E B w lo hi T v L L.length xs Sf):App E w lo hi T v L xs Sf:=
 ⟨h.own,fun i x hx=>h.el i x (List.getElem?_eq_some_iff.1 hx).1 hx,fun i q hq=>⟨(h.sub i q hq).1,(h.sub i q hq).2.1,(h.sub i q hq).2.2.1⟩,h.zO,h.blk,h.le⟩
theorem Half.mv (hE:Ok E)(h:Half E B w lo hi T v L k xs Sf)(hs:w.heap.size≤w'.heap.size)(hb:∀ q,(v.ownBlock=some q∨∃ i,Sf i q)→w'.heap[q]? = w.heap[q]?)(hB:Below B w w'):Half E B w' lo hi T v L k xs Sf:=by
 refine ⟨?_,fun i x hi hx=>?_,fun i x hi hx=>?_,h.sub,h.zO,h.blk,eF h.le hs,h.base,eF h.top hs⟩
 ·obtain ⟨h1,h2⟩:=h.own
  refine ⟨h1,?_⟩
  rcases h2 with h2 | ⟨g,cap,cur,rfl,hlo,hg,h3⟩
  ·exact .inl h2
  ·exact .inr ⟨g,cap,cur,rfl,hlo,(hb g (.inl rfl)).trans hg,h3⟩
 ·obtain ⟨us,h1,h2⟩:=h.el i x hi hx
  exact ⟨us,h1,hE.bT h2 fun q hq=>hb q (.inr ⟨i,hq⟩)⟩
 ·obtain ⟨us,h1,h2⟩:=h.rest i x hi hx
  exact ⟨us,h1,hE.fG h2 hB⟩
theorem Half.call (hE:Ok E)(h:Half E B w lo hi T v L k xs Sf)(hb:Below w.heap.size w w'):Half E B w' lo hi T v L k xs Sf:=by
 have hle:=h.le
 refine h.mv hE hb.size (fun q hq=>hb.block q ?_) (hb.mono h.top)
 rcases hq with hq | ⟨i,hq⟩
 ·have:=h.blk q hq;omega
 ·have:=h.sub i q hq;omega
theorem Half.at_ (h:Half E B w lo hi T (.slice (some ⟨g,0,none⟩) n c) L k xs Sf){i:Nat}{x:α}(hi:k≤i)(hx:L[i]? = some x):∃ us,aR w g (i*E.size) us∧E.rd w B x us∧(∀ j c,us[j]? = some c→xs[i*E.size+j]? = some c):=by
 obtain ⟨us,h1,h2⟩:=h.rest i x hi hx
 refine ⟨us,fun j d hj=>?_,h2,h1⟩
 have h4:=h1 j d hj
 rcases h.own.2 with ⟨e,_⟩ | ⟨g',cap,cur,e,hlo,hg,hn,hm,hc,ht⟩
 ·cases e
 ·cases e
  rw [←ht] at h4
  have h5:cur.toList[i*E.size+j]? = some d:=by
   rw [List.getElem?_take] at h4
   split at h4
   ·exact h4
   ·cases h4
  exact (cell_of_row w _ _ cur _ _ hg).trans (by simpa using h5)
theorem Half.soft (h:Half E B w lo hi T (.slice (some ⟨g,0,none⟩) n c) L k xs Sf)(j:Nat):w.frozen? ⟨g,j,none⟩=false:=by
 rcases h.own.2 with ⟨e,_⟩ | ⟨g',cap,cur,e,hlo,hg,hn,hm,hc,ht⟩
 ·cases e
 ·cases e
  simp [World.frozen?,hg]
theorem Half.step (hE:Ok E)(h:Half E B w lo hi T (.slice (some ⟨g,0,none⟩) n c) L k xs Sf){x:α}(hx:L[k]? = some x){us:List Value}(Xn:∀ j c,us[j]? = some c→xs[k*E.size+j]? = some c){p:Nat}(hp:p<E.size)(RV:us.length=E.size){u:Value}
 (hb:Below w.heap.size w w1) (ho:E.ow w1 (Rg w.heap.size w1.heap.size) x (us.set p u)) :
 ∃ xs' Eu,Half E B (w1.setCell ⟨g,k*E.size+p,none⟩ u) lo w1.heap.size T (.slice (some ⟨g,0,none⟩) n c) L (k+1) xs' Eu∧(∀ i q,Eu i q→Sf i q∨Rg w.heap.size w1.heap.size q):=by
 have hle:=h.le
 have hbs:=hb.size
 have hgb:=h.blk g rfl
 have hgl:g<w.heap.size:=by omega
 have hkL:=(List.getElem?_eq_some_iff.1 hx).1
 have Xo:=h.base
 have hsz:(w1.setCell ⟨g,k*E.size+p,none⟩ u).heap.size=w1.heap.size:=by simp [World.setCell]
 have hmul:(k+1)*E.size≤L.length*E.size:=Nat.mul_le_mul_right _ (by omega)
 rw [Nat.add_mul,Nat.one_mul] at hmul
 have far:∀ q,q≠g→(w1.setCell ⟨g,k*E.size+p,none⟩ u).heap[q]? = w1.heap[q]?:=fun q hq=>Below.heap_setCell _ _ _ _ hq
 have hB2:Below B w (w1.setCell ⟨g,k*E.size+p,none⟩ u):=(hb.mono h.top).setCell (p:=⟨g,k*E.size+p,none⟩) (by show B≤g;omega) u
 have idx:∀ i j,i≠k→j<E.size→i*E.size+j≠k*E.size+p:=fun i j hik hj e=>by
  have:=sw (i:=k) (j:=i) hj (Ne.symm hik)
  rw [Nat.add_mul,Nat.one_mul] at this
  omega
 refine ⟨xs.set (k*E.size+p) u,fun i q=>if i=k then Rg w.heap.size w1.heap.size q else Sf i q,⟨⟨?_,?_⟩,fun i y hi hy=>?_,fun i y hi hy=>?_,fun i q hq=>?_,fun i j q hij hi=>?_,fun q hq=>?_,by rw [hsz];exact bK _,h.base,by rw [hsz];exact eF h.top hbs⟩,fun i q hq=>by
  by_cases e:i=k
  ·simp only [e,if_true] at hq;exact .inr hq
  ·simp only [e,if_false] at hq;exact .inl hq⟩
 ·rw [List.length_set];exact h.own.1
 ·rcases h.own.2 with ⟨e,_⟩ | ⟨g',cap,cur,e,hlo,hg,hn,hm,hc,ht⟩
  ·cases e
  ·cases e
   refine .inr ⟨g,_,cur.setIfInBounds (k*E.size+p) u,rfl,hlo,?_,hn,hm,by rw [Array.size_setIfInBounds];exact hc,?_⟩
   ·have h1:w1.heap[g]? = some (.cells cur T (0,0)):=(hb.block g hgl).trans hg
    simp [World.setCell,Array.getElem?_modify,h1]
   ·rw [Array.toList_setIfInBounds,List.take_set,ht]
 ·by_cases e:i=k
  ·subst e
   rw [hx] at hy
   obtain rfl:=fC hy
   refine ⟨us.set p u,fun j d hj=>?_,?_⟩
   ·by_cases ej:j=p
    ·subst ej
     rw [List.getElem?_set_self (by omega)] at hj
     cases hj
     rw [List.getElem?_set_self (by rw [h.own.1];omega)]
    ·rw [List.getElem?_set_ne (Ne.symm ej)] at hj
     rw [List.getElem?_set_ne (by omega)]
     exact Xn j d hj
   ·simp only [if_true]
    exact hE.bT ho fun q hq=>far q (by have:=hq.1;omega)
  ·obtain ⟨vs,h1,h2⟩:=h.el i y (by omega) hy
   refine ⟨vs,fun j d hj=>?_,?_⟩
   ·have hj2:j<E.size:=by rw [←hE.jG h2];exact (List.getElem?_eq_some_iff.1 hj).1
    rw [List.getElem?_set_ne (fun e2=>idx i j e hj2 e2.symm)]
    exact h1 j d hj
   ·simp only [e,if_false]
    exact hE.bT h2 fun q hq=>(far q (fun e2=>(h.sub i q hq).2.2.1 (by rw [e2];rfl))).trans (hb.block q (by have:=(h.sub i q hq).2.1;omega))
 ·obtain ⟨vs,h1,h2⟩:=h.rest i y (by omega) hy
  refine ⟨vs,fun j d hj=>?_,hE.fG h2 hB2⟩
  have hj2:j<E.size:=by rw [←hE.qW h2];exact (List.getElem?_eq_some_iff.1 hj).1
  rw [List.getElem?_set_ne (fun e2=>idx i j (by omega) hj2 e2.symm)]
  exact h1 j d hj
 ·by_cases e:i=k
  ·simp only [e,if_true] at hq
   have:=hq.1
   have:=hq.2
   refine ⟨by omega,by omega,fun e2=>?_,by omega⟩
   have e3:g=q:=fC e2
   omega
  ·simp only [e,if_false] at hq
   have:=h.sub i q hq
   exact ⟨this.1,by omega,this.2.2.1,by omega⟩
 ·by_cases e1:i=k
  ·subst e1
   simp only [if_true] at hi
   simp only [show j≠i by omega,if_false]
   intro hj
   have h1:=(h.sub j q hj).2.1
   have h2:=hi.1
   omega
  ·simp only [e1,if_false] at hi
   by_cases e2:j=k
   ·simp only [e2,if_true]
    intro hj
    have h1:=(h.sub i q hi).2.1
    have h2:=hj.1
    omega
   ·simp only [e2,if_false]
    exact h.zO i j q hij hi
 ·have:=h.blk q hq
  omega
end
theorem QV {α:Type}{E:Rp α}(hE:Ok E){w:World}{B g o:Nat}{L:List α}(hel:∀ i x,L[i]? = some x→∃ us,aR w g (o+i*E.size) us∧E.rd w B x us) :
 ∃ xs:List Value,xs.length=L.length*E.size∧aR w g o xs∧(∀ u∈xs,u.oneCell'=true)∧∀ i x,L[i]? = some x→∃ us,(∀ j c,us[j]? = some c→xs[i*E.size+j]? = some c)∧E.rd w B x us:=by
 have key:∀ n,n≤L.length→∃ xs:List Value,xs.length=n*E.size∧aR w g o xs∧(∀ u∈xs,u.oneCell'=true)∧∀ i x,i<n→L[i]? = some x→∃ us,(∀ j c,us[j]? = some c→xs[i*E.size+j]? = some c)∧E.rd w B x us:=by
  intro n
  induction n with
  | zero=>exact fun _=>⟨[],by simp,aR.nil,fun u hu=>by simp at hu,fun i x h=>absurd h (gZ _)⟩
  | succ n ih=>
   intro hn
   obtain ⟨xs,h1,h2,h3,h4⟩:=ih (by omega)
   obtain ⟨x,hx⟩:=aM (L:=L) (k:=n) (by omega)
   obtain ⟨us,hu,hr⟩:=hel n x hx
   have RV:=hE.qW hr
   refine ⟨xs++us,by rw [List.length_append,h1,RV,Nat.add_mul,Nat.one_mul],aR.app.2 ⟨h2,by rw [h1];exact hu⟩,fun u hu2=>?_,fun i y hi hy=>?_⟩
   ·rcases List.mem_append.1 hu2 with h | h
    ·exact h3 u h
    ·exact hE.one hr u h
   ·by_cases e:i=n
    ·subst e
     rw [hx] at hy
     obtain rfl:=fC hy
     refine ⟨us,fun j c hj=>?_,hr⟩
     rw [List.getElem?_append_right (by omega),h1,Nat.add_sub_cancel_left]
     exact hj
    ·obtain ⟨vs,h5,h6⟩:=h4 i y (by omega) hy
     refine ⟨vs,fun j c hj=>?_,h6⟩
     have h7:=h5 j c hj
     rw [List.getElem?_append_left (List.getElem?_eq_some_iff.1 h7).1]
     exact h7
 obtain ⟨xs,h1,h2,h3,h4⟩:=key L.length (bK _)
 exact ⟨xs,h1,h2,h3,fun i x hx=>h4 i x (List.getElem?_eq_some_iff.1 hx).1 hx⟩
theorem IL {α:Type}{E:Rp α}(hE:Ok E){P:Program}{L:List α}{a:Option Addr}{cap:Nat}{w:World}{t ty T:TypeId}{i:TypeInfo}{z:Value}{bytes:Nat}(ht:P.underlying t=some (.slice T))(hi:P.info? T=some i)(hz:i.zero=some z)(hsize:i.size=E.size)(hby:i.bytes=bytes)
 (hzs:z.cells.size=E.size) (hpos:0<E.size) (hn:L.length≤maxLen) (hnb:L.length*bytes≤140737488355328) (h:aJ E w w.heap.size L a cap) :
 ∃ a' c' w' xs,(Builtin.append_ #[t,t] ty #[.slice (some ⟨w.heap.size,0,none⟩) 0 0,.slice a L.length cap]).run P (w.alloc (.cells #[] T))=.ok (.slice a' L.length c') w'∧Half E w.heap.size w' w.heap.size w'.heap.size T (.slice a' L.length c') L 0 xs (fun _ _=>False)∧Below w.heap.size w w':=by
 have hbel:Below w.heap.size w (w.alloc (.cells #[] T)):=(aW _ _).alloc (bK _) _
 by_cases h0:L.length=0
 ·have hL:L = []:=List.eq_nil_of_length_eq_zero h0
  subst hL
  refine ⟨_,_,_,[],E9 ht hi _ a 0 cap,⟨(App.made E w T).own,fun i x hi=>absurd hi (gZ _),fun i x _ hx=>by simp at hx,fun i q hq=>hq.elim,fun i j q _ hq=>hq.elim,fun q hq=>?_,bK _,bK _,hbel.size⟩,hbel⟩
  cases hq
  exact ⟨bK _,by simp⟩
 ·obtain ⟨g,o,rfl,hg,hel⟩:=h.2.2 (by omega)
  obtain ⟨xs,h1,h2,h3,h4⟩:=QV hE hel
  obtain ⟨v',w',hrun,hown,hgr,hnone,hat⟩:=run_append_own_at (P:=P) (w.alloc (.cells #[] T)) w.heap.size t ty T i z E.size bytes ht hi hz hsize hby hzs hpos _ 0 [] (App.made E w T).own ⟨g,o,none⟩ L.length cap xs h1
   (fun j u hj=>by
    have hadd:(⟨g,o,none⟩:Addr).add j=⟨g,o+j,none⟩:=by unfold Addr.add;split <;> simp_all
    rw [hadd]
    exact (hbel.cell (p:=⟨g,o+j,none⟩) hg).trans (h2 j u hj)) h3 (by omega) (by simpa using hnb) (by simp)
  rw [Nat.zero_add,List.nil_append] at hown
  have hb2:Below w.heap.size w w':=hbel.trans (by
   refine ⟨hgr.os,hgr.tape,hgr.output,hgr.size,fun k hk=>hgr.block k (by simp;omega) (fun e=>by cases e;exact jH _ hk)⟩)
  rcases hown.2 with ⟨hn0,hL0⟩ | ⟨g',cap',cur,rfl,hlo,hgg,hnc,hm,hc,htk⟩
  ·omega
  ·have hgl:g'<w'.heap.size:=(Array.getElem?_eq_some_iff.1 hgg).1
   refine ⟨_,cap',w',xs,hrun,⟨hown,fun i x hi=>absurd hi (gZ _),fun i x _ hx=>?_,fun i q hq=>hq.elim,fun i j q _ hq=>hq.elim,fun q hq=>?_,bK _,bK _,hb2.size⟩,hb2⟩
   ·obtain ⟨us,h5,h6⟩:=h4 i x hx
    exact ⟨us,h5,hE.fG h6 hb2⟩
   ·cases hq
    exact ⟨hlo,hgl⟩
def Uy {α:Type}(E:Rp α)(T:TypeId)(L:List α)(w:World)(e:Ending)(w':World):Prop:=∃ a cap xs,e=.returned (.slice a L.length cap)∧Half E w.heap.size w' w.heap.size w'.heap.size T (.slice a L.length cap) L 0 xs (fun _ _=>False)∧Below w.heap.size w w'
theorem BS {α:Type}{E:Rp α}{T:TypeId}{L:List α}{w:World}{e:Ending}{w':World}(h:Uy E T L w e w'):∃ a cap xs,e=.returned (.slice a L.length cap)∧Half E w.heap.size w' w.heap.size w'.heap.size T (.slice a L.length cap) L 0 xs (fun _ _=>False)∧Below w.heap.size w w':=h
theorem Ip {α:Type}(E:Rp α)(T:TypeId)(w:World):Half E w.heap.size w w.heap.size w.heap.size T (.slice none 0 0) ([]:List α) 0 [] (fun _ _=>False):=
 ⟨⟨by simp,.inl ⟨rfl,rfl⟩⟩,fun i x hi=>absurd hi (gZ _),fun i x _ hx=>by simp at hx,fun i q hq=>hq.elim,fun i j q _ hq=>hq.elim,fun q hq=>(by cases hq),bK _,bK _,bK _⟩
end
section
open Go.RowKit bN bO bJ bQ
theorem Vb:∃ i,Tryz.prog.info? 155=some i∧i.zero=some (.slice none 0 0)∧i.size=1∧i.bytes=24:=xX (by kernel_rfl)
theorem Ik:∃ i,Tryz.prog.info? 176=some i∧i.zero=some (.agg #[.int .i64 0,.int .i64 0,.int .i64 0,.int .i64 0,.int .i64 0])∧i.size=5∧i.bytes=40:=xX (by kernel_rfl)
theorem Ej:∃ i,Tryz.prog.info? 181=some i∧i.zero=some (.agg #[.int .i64 0,.int .i64 0,.int .i64 0])∧i.size=3∧i.bytes=24:=xX (by kernel_rfl)
theorem yB:Flat aT (fun x=>[.int .i64 x.1.1,.int .i64 x.1.2,.int .i64 x.2.1.1,.int .i64 x.2.1.2,.int .i64 x.2.2]):=⟨fun {W B x us} h=>by obtain ⟨⟨a,b⟩,⟨c,d⟩,e⟩:=x;exact lC h,fun W S x=>by obtain ⟨⟨a,b⟩,⟨c,d⟩,e⟩:=x;exact yt⟩
theorem vB:Flat aN (fun x=>[.int .i64 x.1.1,.int .i64 x.1.2,.int .i64 x.2]):=⟨fun {W B x us} h=>by obtain ⟨⟨a,b⟩,c⟩:=x;exact jm h,fun W S x=>by obtain ⟨⟨a,b⟩,c⟩:=x;exact vo⟩
theorem Mh {L:List (bA)}{a:Option Addr}{cap:Nat}{W:World}(hn:L.length≤1048576)(h:aJ (aT) W W.heap.size L a cap) :
 Calls Tryz.prog 207 #[.slice a L.length cap] W (jU aT L W):=by
 have qT:∀ (w:World) (a:Option Addr) (n c n' c':Nat),(binOp .eql 36 (.slice a n c) (.slice none n' c')).run Tryz.prog w=.ok (.bool a.isNone) w:=fun w a n c n' c'=>Lib.run_eql_slice_nil w _ _ a n c n' c' Tryz.underlying36
 cases a with
 | none=>
  have h0:L.length=0:=by
   by_cases hp:0<L.length
   ·obtain ⟨g,o,he,_⟩:=h.2.2 hp
    cases he
   ·omega
  have hL:L = []:=List.eq_nil_of_length_eq_zero h0
  subst hL
  go_enter Tryz.func207,Tryz.ntmps207
  go_wp2
  go_ret
  exact ⟨none,0,rfl,⟨bK _,dV _,fun h=>absurd h (jH _)⟩,aW _ _⟩
 | some x=>
  obtain ⟨iL,JM,sN,hsL,hbL⟩:=Ik
  obtain ⟨a',c',w5,hr,hos,hb⟩:=qZ (P:=Tryz.prog) (ty:=36) aG yB Tryz.underlying36 JM sN hsL hbL rfl (by decide) (by unfold maxLen;omega) (by omega) h
  clear JM sN hsL hbL
  have HR:=ak hr
  have HO:=ak hos
  have HB:=ak hb
  clear hr hos hb h
  go_enter Tryz.func207,Tryz.ntmps207
  go_wp2_with (at_builtin;refine dZ rfl (.tmp 5) (.tmp 6) 36 rfl rfl rfl HR.out ?_)
  go_ret
  exact ⟨a',c',rfl,HO.out,HB.out⟩
theorem JA {L:List (aX)}{a:Option Addr}{cap:Nat}{W:World}(hn:L.length≤1048576)(h:aJ (aN) W W.heap.size L a cap) :
 Calls Tryz.prog 208 #[.slice a L.length cap] W (jU aN L W):=by
 have qT:∀ (w:World) (a:Option Addr) (n c n' c':Nat),(binOp .eql 37 (.slice a n c) (.slice none n' c')).run Tryz.prog w=.ok (.bool a.isNone) w:=fun w a n c n' c'=>Lib.run_eql_slice_nil w _ _ a n c n' c' Tryz.underlying37
 cases a with
 | none=>
  have h0:L.length=0:=by
   by_cases hp:0<L.length
   ·obtain ⟨g,o,he,_⟩:=h.2.2 hp
    cases he
   ·omega
  have hL:L = []:=List.eq_nil_of_length_eq_zero h0
  subst hL
  go_enter Tryz.func208,Tryz.ntmps208
  go_wp2
  go_ret
  exact ⟨none,0,rfl,⟨bK _,dV _,fun h=>absurd h (jH _)⟩,aW _ _⟩
 | some x=>
  obtain ⟨iL,JM,sN,hsL,hbL⟩:=Ej
  obtain ⟨a',c',w5,hr,hos,hb⟩:=qZ (P:=Tryz.prog) (ty:=37) aC vB Tryz.underlying37 JM sN hsL hbL rfl (by decide) (by unfold maxLen;omega) (by omega) h
  clear JM sN hsL hbL
  have HR:=ak hr
  have HO:=ak hos
  have HB:=ak hb
  clear hr hos hb h
  go_enter Tryz.func208,Tryz.ntmps208
  go_wp2_with (at_builtin;refine dZ rfl (.tmp 5) (.tmp 6) 37 rfl rfl rfl HR.out ?_)
  go_ret
  exact ⟨a',c',rfl,HO.out,HB.out⟩
theorem WX {L:List (List ay)}{a:Option Addr}{cap:Nat}{W:World}(hn:L.length≤1048576)(h:aJ (Sl av) W W.heap.size L a cap) :
 Calls Tryz.prog 248 #[.slice a L.length cap] W (Uy (Sl av) 155 L W):=by
 have qT:∀ (w:World) (a:Option Addr) (n c n' c':Nat),(binOp .eql 35 (.slice a n c) (.slice none n' c')).run Tryz.prog w=.ok (.bool a.isNone) w:=fun w a n c n' c'=>Lib.run_eql_slice_nil w _ _ a n c n' c' Tryz.underlying35
 cases a with
 | none=>
  have h0:L.length=0:=by
   by_cases hp:0<L.length
   ·obtain ⟨g,o,he,_⟩:=h.2.2 hp
    cases he
   ·omega
  have hL:L = []:=List.eq_nil_of_length_eq_zero h0
  subst hL
  go_enter Tryz.func248,Tryz.ntmps248
  go_wp2
  go_ret
  exact ⟨none,0,_,rfl,Ip (Sl av) _ _,aW _ _⟩
 | some x=>
  obtain ⟨iL,JM,sN,hsL,hbL⟩:=Vb
  obtain ⟨a',c',w5,xs,hr,hos,hb⟩:=IL (P:=Tryz.prog) (ty:=35) (aZ au) Tryz.underlying35 JM sN hsL hbL rfl (by decide) (by unfold maxLen;omega) (by omega) h
  clear JM sN hsL hbL
  have HR:=ak hr
  have HO:=ak hos
  have HB:=ak hb
  clear hr hos hb h
  go_enter Tryz.func248,Tryz.ntmps248
  go_wp2_with (at_builtin;refine dZ rfl (.tmp 5) (.tmp 6) 35 rfl rfl rfl HR.out ?_)
  go_ret
  exact ⟨a',c',xs,rfl,HO.out,HB.out⟩
theorem Cu {L:List (List ay)}{a:Option Addr}{cap:Nat}{W:World}(hR:iW L)(h:aJ (Sl av) W W.heap.size L a cap) :
 Calls Tryz.prog 206 #[.slice a L.length cap] W (jU (Sl av) L W):=by
 have hn:L.length≤6:=hR.2.1
 have HRR:=ak hR
 have MZ:=ak (WX (by omega) h)
 clear h hR
 go_enter Tryz.func206,Tryz.ntmps206
 go_wp2_with fail
 refine MZ.out.mono ?_
 intro e w1 h
 obtain ⟨ja,jc,xs0,rfl,hh,hb⟩:=BS h
 have HH1:=ak hh
 have HB1:=ak hb
 clear h hh hb MZ
 go_wp2
 go_loopw [10] (fun i wr=>∃ k:Nat,k≤L.length∧i=.int .i64 k∧Hid (∃ hi xs Sf,Half (Sl av) W.heap.size wr W.heap.size hi 155 (.slice ja L.length jc) L k xs Sf)∧Below W.heap.size W wr) (fun i _=>L.length-(intOf i).toNat)
 case atStart=>exact ⟨0,dV _,rfl,ak ⟨_,_,_,HH1.out⟩,HB1.out⟩
 case round=>
  obtain ⟨k,hk,rfl,HH,hB⟩:=hrel
  obtain ⟨hi,xs,Sf,hh⟩:=HH.out
  have xB:=ak hh
  have HB:=ak hB
  have hsz:=hB.size
  by_cases hlt:k<L.length
  ·have hdl:decide ((k:Int)<(L.length:Int))=true:=eD (by omega)
   obtain ⟨x,hx⟩:=aM hlt
   have HX:=ak hx
   have hch:=HRR.out.2.2 k x hx
   have hx1:0<x.length:=hch.1
   have hx4:x.length≤4:=hch.2.1
   obtain ⟨g,rfl⟩:∃ g,ja=some ⟨g,0,none⟩:=by
    obtain ⟨h0,h1⟩:=hh.own
    rcases h1 with ⟨e,h1⟩ | ⟨g,c',cur,e,_⟩
    ·omega
    ·cases e;exact ⟨g,rfl⟩
   obtain ⟨us,hu,hr,Xn⟩:=xB.out.at_ (bK _) hx
   have hgb:=xB.out.blk g rfl
   have hgl:g<wr.heap.size:=bV hgb.2 xB.out.le
   obtain ⟨ba,bc,rfl,sP⟩:=hr
   have e0:wr.cell? ⟨g,k,none⟩=some (.slice ba x.length bc):=by simpa [jP] using hu 0 _ rfl
   have HUS:=ak Xn
   have hi0:(0:Int)≤(k:Int):=eu _
   have hi1:(k:Int)<(L.length:Int):=by omega
   have HK2:=ak (aJ.more au sP hsz)
   clear hB hx hu hh sP Xn hch
   go_upto_region 5 with fail
   go_wp2_with fail
   refine (Cc (by omega) hx1 HK2.out).mono ?_
   intro e w5 h
   obtain ⟨a5,c5,rfl,ho,hb⟩:=bL h
   obtain ⟨xs',Eu,hH,hsf⟩:=xB.out.step (aZ au) HX.out HUS.out (p:=0) (by decide) rfl (u:=.slice a5 x.length c5) hb ⟨a5,c5,rfl,ho⟩
   rw [show k*(Sl av).size+0=k from by show k*1+0=k;omega] at hH
   have HH5:=ak hH
   have HBN:=ak (show Below W.heap.size W (w5.setCell ⟨g,k,none⟩ (.slice a5 x.length c5)) from (HB.out.trans (hb.mono hsz)).setCell (p:=⟨g,k,none⟩) hgb.1 _)
   have e0':w5.cell? ⟨g,k,none⟩=some (.slice ba x.length bc):=(hb.cell (p:=⟨g,k,none⟩) hgl).trans e0
   have f0':=(hb.frozen (p:=⟨g,k,none⟩) hgl).trans (xB.out.soft k)
   clear e0 h ho hH hsf hb
   go_wp2
   go_roundw
   case rel=>exact ⟨k+1,by omega,by go_num,ak ⟨_,_,_,HH5.out⟩,HBN.out⟩
   case measure=>simp [intOf];omega
  ·have hdl:decide ((k:Int)<(L.length:Int))=false:=dS (by omega)
   obtain rfl:k=L.length:=by omega
   obtain ⟨ra,rc,hv,ho⟩:=xB.out.done.done
   have HO:=ak (show bH (Sl av) wr (Rg W.heap.size wr.heap.size) L ja jc from by cases hv;exact ho.more fun q hq=>⟨hq.1,bV hq.2 xB.out.le⟩)
   clear hB hv ho hh
   go_wp2
   go_ret
   exact ⟨ja,jc,rfl,HO.out,HB.out⟩
theorem Vd (c:Int)(W:World):Calls Tryz.prog 29 #[.int .i64 c] W (fun e w'=>e=.returned (.agg #[.slice none 0 0,.slice none 0 0,.slice none 0 0,.int .i64 0,.slice none 0 0,.slice none 0 0,.slice none 0 0,.int .i64 0,.int .i64 0,.int .i64 c])∧Below W.heap.size W w'):=by
 go_enter Tryz.func29,Tryz.ntmps29
 go_wp2
 refine qC (v:=.agg #[.slice none 0 0,.slice none 0 0,.slice none 0 0,.int .i64 0,.slice none 0 0,.slice none 0 0,.slice none 0 0,.int .i64 0,.int .i64 0,.int .i64 c]) (by simp [results,Tryz.results29,go_sem]) rfl ⟨rfl,(aW _ _).alloc (bK _) _⟩
theorem gW.low {α:Type}{E:Rp α}{w w':World}{lo:Nat}{T:TypeId}{v:Value}{L:List α}(hE:Ok E)(h:gW E w lo T v L)(hs:w.heap.size≤w'.heap.size)(hb:∀ k,lo≤k→k<w.heap.size→w'.heap[k]? = w.heap[k]?):gW E w' lo T v L:=by
 obtain ⟨S,h⟩:=h
 exact ⟨S,(h.mv hE hs fun k hk=>hb k (h.bnd hk).1 (h.bnd hk).2).rise hs⟩
theorem KO {α:Type}{L:List α}{k:Nat}{x:α}(h:L[k]? = some x):L.take k++[x]=L.take (k+1):=by rw [List.take_add_one,h,Option.toList_some]
theorem acd {w w':World}{lo:Nat}{v:Value}{L:List (List ay)}(h:gW (Sl av) w lo 155 v L)(hb:Below w.heap.size w w'){M:List ay}{a:Option Addr}{c blk:Nat}(hc:aO w' blk 155 #[.slice a M.length c])(hM:bH av w' (Rg w.heap.size w'.heap.size) M a c)(hL:L.length≤4096) :
 ∃ a' c' w2,(Builtin.append_ #[35,35] 35 #[v,.slice (some ⟨blk,0,none⟩) 1 1]).run Tryz.prog w'=.ok (.slice a' (L++[M]).length c') w2∧gW (Sl av) w2 lo 155 (.slice a' (L++[M]).length c') (L++[M])∧Below lo w' w2:=by
 obtain ⟨i,hi',hz,hs,hby⟩:=Vb
 exact h.app (aZ au) hb Tryz.underlying35 hi' hz hs hby rfl (by decide) (us:=[.slice a M.length c]) (fun j u hj=>hc.at_ j (by simpa using hj)) ⟨a,c,rfl,hM⟩ (by unfold maxLen;omega) (by omega)
theorem RH {L:List ay}{a:Option Addr}{cap:Nat}{w:World}{ty:TypeId}(hn:L.length≤1048576)(h:aJ av w w.heap.size L a cap) :
 ∃ a' c' w',(Builtin.append_ #[155,155] ty #[.slice (some ⟨w.heap.size,0,none⟩) 0 0,.slice a L.length cap]).run Tryz.prog (w.alloc (.cells #[] 49))=.ok (.slice a' L.length c') w'∧bH av w' (Rg w.heap.size w'.heap.size) L a' c'∧Below w.heap.size w w':=by
 obtain ⟨i,hi',hz,hs,hby⟩:=Bb
 exact qZ au mV Tryz.underlying155 hi' hz hs hby rfl (by decide) (by unfold maxLen;omega) (by omega) h
theorem xk {C:List (List ay)}{P:List bA}{Q:List aX}{hf:Int}{ca pa qa:Option Addr}{cc pc qc:Nat}{W:World}(hR:iW C)(hp:P.length≤1048576)(hq:Q.length≤1048576)(hC:aJ (Sl av) W W.heap.size C ca cc)(hP:aJ aT W W.heap.size P pa pc)(hQ:aJ aN W W.heap.size Q qa qc) :
 Calls Tryz.prog 110 #[.agg #[.slice ca C.length cc,.slice pa P.length pc,.slice qa Q.length qc,.int .i64 hf]] W (kT cu (C,P,Q,hf) W):=by
 have hn:C.length≤6:=hR.2.1
 have HRR:=ak hR
 have JU:=ak hC
 have FM:=ak hP
 have JQ:=ak hQ
 clear hR hC hP hQ
 obtain ⟨w0,hw0⟩:∃ w,w=((W.alloc (.cells #[.slice ca C.length cc,.slice pa P.length pc,.slice qa Q.length qc,.int .i64 hf] 39)).alloc (.cells #[.slice none 0 0,.slice none 0 0,.slice none 0 0,.int .i64 0] 39)).alloc (.cells #[.slice none 0 0,.slice none 0 0,.slice none 0 0,.int .i64 hf] 39):=⟨_,rfl⟩
 have hb0:Below W.heap.size W w0:=by rw [hw0];exact (((aW _ _).alloc (bK _) _).alloc (by simp) _).alloc (by simp <;> omega) _
 have kW:aO w0 (W.heap.size) 39 #[.slice ca C.length cc,.slice pa P.length pc,.slice qa Q.length qc,.int .i64 hf]:=by
  have h9:=aO.new W 39 #[.slice ca C.length cc,.slice pa P.length pc,.slice qa Q.length qc,.int .i64 hf]
  try simp only [World.size_alloc] at h9
  rw [hw0];exact ((h9.alloc _).alloc _)
 have X0:=ak kW
 have qH:aO w0 (W.heap.size+1) 39 #[.slice none 0 0,.slice none 0 0,.slice none 0 0,.int .i64 0]:=by
  have h9:=aO.new (W.alloc (.cells #[.slice ca C.length cc,.slice pa P.length pc,.slice qa Q.length qc,.int .i64 hf] 39)) 39 #[.slice none 0 0,.slice none 0 0,.slice none 0 0,.int .i64 0]
  try simp only [World.size_alloc] at h9
  rw [hw0];exact (h9.alloc _)
 have X1:=ak qH
 have x2_:aO w0 (W.heap.size+1+1) 39 #[.slice none 0 0,.slice none 0 0,.slice none 0 0,.int .i64 hf]:=by
  have h9:=aO.new ((W.alloc (.cells #[.slice ca C.length cc,.slice pa P.length pc,.slice qa Q.length qc,.int .i64 hf] 39)).alloc (.cells #[.slice none 0 0,.slice none 0 0,.slice none 0 0,.int .i64 0] 39)) 39 #[.slice none 0 0,.slice none 0 0,.slice none 0 0,.int .i64 hf]
  try simp only [World.size_alloc] at h9
  rw [hw0];exact h9
 have X2:=ak x2_
 have HB0:=ak hb0
 have hz0:=hb0.size
 clear hb0  kW qH x2_
 have hs0:w0.heap.size=W.heap.size+1+1+1:=by rw [hw0];simp
 have HA0:=ak (show gW (Sl av) w0 w0.heap.size 155 (.slice none 0 0) (C.take 0) from gW.none_ _ _ _)
 go_enter Tryz.func110,Tryz.ntmps110
 go_upto_region 2 with fail
 rw [←hw0]
 clear hw0
 go_wp2
 go_loopw [4] (fun i wr=>∃ k:Nat,k≤C.length∧i=.int .i64 k∧∃ v,Hid (gW (Sl av) wr w0.heap.size 155 v (C.take k))∧Hid (aO wr (W.heap.size+1+1) 39 #[v,.slice none 0 0,.slice none 0 0,.int .i64 hf])∧Hid (aO wr (W.heap.size+1) 39 #[.slice none 0 0,.slice none 0 0,.slice none 0 0,.int .i64 0])∧Hid (aO wr W.heap.size 39 #[.slice ca C.length cc,.slice pa P.length pc,.slice qa Q.length qc,.int .i64 hf])∧Hid (Below W.heap.size W wr)∧w0.heap.size≤wr.heap.size) (fun i _=>C.length-(intOf i).toNat)
 case atStart=>exact ⟨0,dV _,rfl,_,HA0,X2,X1,X0,HB0,bK _⟩
 case round=>
  obtain ⟨k,hk,rfl,v,HA,Y2,Y1,Y0,HB,hsz⟩:=hrel
  obtain ⟨va,vc,hv⟩:=HA.out.isSlice
  rw [List.length_take,Nat.min_eq_left hk] at hv
  subst hv
  have q0:=Y0.out.at_ 0 rfl
  by_cases hlt:k<C.length
  ·have hdl:decide ((k:Int)<(C.length:Int))=true:=eD (by omega)
   obtain ⟨x,hx⟩:=aM hlt
   have HT:=ak (KO hx)
   have hx4:x.length≤4:=(HRR.out.2.2 k x hx).2.1
   obtain ⟨g,o,us,rfl,hg,hu,hr⟩:=JU.out.at_ hx
   obtain ⟨ba,bc,rfl,hM⟩:=hr
   have e0:W.cell? ⟨g,o+k,none⟩=some (.slice ba x.length bc):=by simpa [jP] using hu 0 _ rfl
   have hi0:(0:Int)≤(k:Int):=eu _
   have hi1:(k:Int)<(C.length:Int):=by omega
   have Xq:aJ av wr.drew wr.drew.heap.size x ba bc:=aD au hM HB.out.drew
   obtain ⟨a1,c1,w1,Gz,ho1,hb1⟩:=RH (ty:=155) (w:=wr.drew) (by omega) Xq
   have hA:Below wr.heap.size wr ((wr.alloc (.cells #[] 49)).drew):=((aW _ _).alloc (bK _) _).drew
   have hb1':Below wr.heap.size wr w1:=(aW _ wr).drew.trans hb1
   have Td:bH av w1 (Rg wr.heap.size w1.heap.size) x a1 c1:=ho1
   have GN:=ak (show (Builtin.append_ #[155,155] 155 #[.slice (some ⟨wr.heap.size,0,none⟩) 0 0,.slice ba x.length bc]).run Tryz.prog ((wr.alloc (.cells #[] 49)).drew)=.ok (.slice a1 x.length c1) w1 from Gz)
   obtain ⟨w2,hw2⟩:∃ w,w=w1.alloc (.cells #[.slice a1 x.length c1] 155):=⟨_,rfl⟩
   have xK:Below w1.heap.size w1 w2:=by rw [hw2];exact (aW _ _).alloc (bK _) _
   have hbl:aO w2 w1.heap.size 155 #[.slice a1 x.length c1]:=by rw [hw2];exact aO.new _ _ _
   have ho2:bH av w2 (Rg wr.heap.size w2.heap.size) x a1 c1:=(Td.keep au fun q hq=>xK.block q hq.2).more fun q hq=>⟨hq.1,bV hq.2 xK.size⟩
   have hb2:Below wr.heap.size wr w2:=hb1'.trans (xK.mono hb1'.size)
   obtain ⟨a3,c3,w3,Gy,hrow,hb3⟩:=acd HA.out hb2 hbl ho2 (by rw [List.length_take];omega)
   have hz3:w2.heap.size≤w3.heap.size:=hb3.size
   have hz2:wr.heap.size≤w2.heap.size:=hb2.size
   have uj:=ak Gy
   have hlen:(C.take (k+1)).length=k+1:=by rw [List.length_take];omega
   have hlk:(C.take k).length=k:=by rw [List.length_take];omega
   rw [HT.out,hlen] at hrow uj
   have Y2A:=ak (Y2.out.call hA)
   have Y21:=ak (Y2.out.call hb1')
   have Y22:=ak (Y2.out.call hb2)
   have low:∀ q,q<w0.heap.size→w3.heap[q]? = w2.heap[q]?:=fun q hq=>hb3.block q hq
   have Y23:=ak (show aO w3 (W.heap.size+1+1) 39 #[.slice va k vc,.slice none 0 0,.slice none 0 0,.int .i64 hf] from (low (W.heap.size+1+1) (by omega)).trans Y22.out)
   have Y13:=ak (show aO w3 (W.heap.size+1) 39 #[.slice none 0 0,.slice none 0 0,.slice none 0 0,.int .i64 0] from (low (W.heap.size+1) (by omega)).trans (Y1.out.call hb2))
   have Y03:=ak (show aO w3 W.heap.size 39 #[.slice (some ⟨g,o,none⟩) C.length cc,.slice pa P.length pc,.slice qa Q.length qc,.int .i64 hf] from (low W.heap.size (by omega)).trans (Y0.out.call hb2))
   have HB3:=ak ((HB.out.trans (hb2.mono HB.out.size)).trans (hb3.mono (by omega)))
   have Y24:=ak (show aO (w3.setCell ⟨(W.heap.size+1+1),0,none⟩ (.slice a3 (k+1) c3)) (W.heap.size+1+1) 39 #[.slice a3 (k+1) c3,.slice none 0 0,.slice none 0 0,.int .i64 hf] from Y23.out.set 0 _)
   have Y14:=ak (aO.far (b:=(W.heap.size+1+1)) (o:=0) Y13.out (by omega) (.slice a3 (k+1) c3))
   have Y04:=ak (aO.far (b:=(W.heap.size+1+1)) (o:=0) Y03.out (by omega) (.slice a3 (k+1) c3))
   have jL:=ak (HB3.out.setCell (p:=⟨(W.heap.size+1+1),0,none⟩) (by show W.heap.size≤(W.heap.size+1+1);omega) (.slice a3 (k+1) c3))
   have HR4:=ak (gW.low (w':=w3.setCell ⟨(W.heap.size+1+1),0,none⟩ (.slice a3 (k+1) c3)) (aZ au) hrow (by simp) fun q hq _=>Below.heap_setCell w3 ⟨(W.heap.size+1+1),0,none⟩ (.slice a3 (k+1) c3) q (by show q≠(W.heap.size+1+1);omega))
   have lW:w0.heap.size≤(w3.setCell ⟨(W.heap.size+1+1),0,none⟩ (.slice a3 (k+1) c3)).heap.size:=by simp;omega
   have HSA:=ak (show (fun V=>Below W.heap.size W V∧aO V W.heap.size 39 #[.slice (some ⟨g,o,none⟩) C.length cc,.slice pa P.length pc,.slice qa Q.length qc,.int .i64 hf]) ((wr.alloc (.cells #[] 49)).drew) from ⟨HB.out.trans (hA.mono HB.out.size),Y0.out.call hA⟩)
   have zn:=ak (show (fun V=>Below W.heap.size W V∧aO V W.heap.size 39 #[.slice (some ⟨g,o,none⟩) C.length cc,.slice pa P.length pc,.slice qa Q.length qc,.int .i64 hf]) w1 from ⟨HB.out.trans (hb1'.mono HB.out.size),Y0.out.call hb1'⟩)
   have HS2:=ak (show (fun V=>Below W.heap.size W V∧aO V W.heap.size 39 #[.slice (some ⟨g,o,none⟩) C.length cc,.slice pa P.length pc,.slice qa Q.length qc,.int .i64 hf]) w2 from ⟨HB.out.trans (hb2.mono HB.out.size),Y0.out.call hb2⟩)
   have vH:=ak (show (fun V=>Below W.heap.size W V∧aO V W.heap.size 39 #[.slice (some ⟨g,o,none⟩) C.length cc,.slice pa P.length pc,.slice qa Q.length qc,.int .i64 hf]) w3 from ⟨HB3.out,Y03.out⟩)
   have Dn:=ak (show (fun V=>Below W.heap.size W V∧aO V W.heap.size 39 #[.slice (some ⟨g,o,none⟩) C.length cc,.slice pa P.length pc,.slice qa Q.length qc,.int .i64 hf]) (w3.setCell ⟨(W.heap.size+1+1),0,none⟩ (.slice a3 (k+1) c3)) from ⟨jL.out,Y04.out⟩)
   have HG:=ak hg
   have hS0:(fun V=>Below W.heap.size W V∧aO V W.heap.size 39 #[.slice (some ⟨g,o,none⟩) C.length cc,.slice pa P.length pc,.slice qa Q.length qc,.int .i64 hf]) wr.drew:=⟨HB.out.drew,Y0.out.call (aW _ wr).drew⟩
   have HD2:=ak (Y2.out.call (aW _ wr).drew)
   rw [hw2] at uj HS2 Y22
   clear Gz Gy hrow hb1 hb1' ho1 Td xK hbl ho2 hb2 hb3 hw2 Xq hu hM hx hlen hA low
   go_upto_region 5 with fail
   have c0:=HD2.out.at_ 0 rfl
   have cA:=Y2A.out.at_ 0 rfl
   have c1_:=Y21.out.at_ 0 rfl
   have c2_:=Y22.out.at_ 0 rfl
   have c3_:=Y23.out.at_ 0 rfl
   have f3_:=Y23.out.soft 0
   refine dX (S:=(fun V=>Below W.heap.size W V∧aO V W.heap.size 39 #[.slice (some ⟨g,o,none⟩) C.length cc,.slice pa P.length pc,.slice qa Q.length qc,.int .i64 hf])) (by kernel_rfl) (hS0) (fun ah=>?_)
   refine tk 0 ah ?_
   refine tk 3 ah ?_
   refine tk 4 ah ?_ (hy:=fun w aj=>by (try dsimp only at aj);have k0:=aj.2.at_ 0 rfl;clear aj;go_simp;try with_reducible rfl)
   refine tk 5 ah ?_
   refine tk 6 ah ?_
   refine tk 7 ah ?_ (hy:=fun w aj=>by (try dsimp only at aj);have k0:=(aj.1.cell (p:=⟨g,o+k,none⟩) HG.out).trans e0;clear aj;go_simp;try with_reducible rfl)
   refine rd2 1 2 (fun K hK=>?_) (fun K hK=>?_)
   ·skip
    go_simp
    refine hK.out _ _ ah (fun ah=>?_)
    clear hK K
    refine dw 2 (fun K hK=>?_)
    go_simp
    refine hK.out _ _ HSA.out (fun ah=>?_)
    clear hK K
    refine dw 8 (fun K hK=>?_)
    refine iy rfl (.tmp 17) (.tmp 22) 155 rfl rfl rfl GN.out ?_
    refine hK.out _ _ zn.out (fun ah=>?_)
    clear hK K
    refine dw 9 (fun K hK=>?_)
    go_simp
    refine hK.out _ _ HS2.out (fun ah=>?_)
    clear hK K
    refine dw 10 (fun K hK=>?_)
    refine iy rfl (.tmp 16) (.tmp 24) 35 rfl rfl rfl uj.out ?_
    refine hK.out _ _ vH.out (fun ah=>?_)
    clear hK K
    refine tk 11 ah ?_
    refine dw 12 (fun K hK=>?_)
    go_simp
    refine hK.out _ _ Dn.out (fun ah=>?_)
    clear hK K
    refine dQ ?_
    clear ah
    go_wp2
    go_roundw
    case rel=>exact ⟨k+1,by omega,by go_num,_,HR4,Y24,Y14,Y04,jL,lW⟩
    case measure=>simp [intOf];omega
   ·skip
    go_simp
    refine hK.out _ _ HSA.out (fun ah=>?_)
    clear hK K
    refine rd2 1 8 (fun K hK=>?_) (fun K hK=>?_)
    ·skip
     go_simp
     refine hK.out _ _ ah (fun ah=>?_)
     clear hK K
     refine dw 8 (fun K hK=>?_)
     refine iy rfl (.tmp 17) (.tmp 22) 155 rfl rfl rfl GN.out ?_
     refine hK.out _ _ zn.out (fun ah=>?_)
     clear hK K
     refine dw 9 (fun K hK=>?_)
     go_simp
     refine hK.out _ _ HS2.out (fun ah=>?_)
     clear hK K
     refine dw 10 (fun K hK=>?_)
     refine iy rfl (.tmp 16) (.tmp 24) 35 rfl rfl rfl uj.out ?_
     refine hK.out _ _ vH.out (fun ah=>?_)
     clear hK K
     refine tk 11 ah ?_
     refine dw 12 (fun K hK=>?_)
     go_simp
     refine hK.out _ _ Dn.out (fun ah=>?_)
     clear hK K
     refine dQ ?_
     clear ah
     go_wp2
     go_roundw
     case rel=>exact ⟨k+1,by omega,by go_num,_,HR4,Y24,Y14,Y04,jL,lW⟩
     case measure=>simp [intOf];omega
    ·skip
     refine iy rfl (.tmp 17) (.tmp 22) 155 rfl rfl rfl GN.out ?_
     refine hK.out _ _ zn.out (fun ah=>?_)
     clear hK K
     refine rd2 1 9 (fun K hK=>?_) (fun K hK=>?_)
     ·skip
      go_simp
      refine hK.out _ _ ah (fun ah=>?_)
      clear hK K
      refine dw 9 (fun K hK=>?_)
      go_simp
      refine hK.out _ _ HS2.out (fun ah=>?_)
      clear hK K
      refine dw 10 (fun K hK=>?_)
      refine iy rfl (.tmp 16) (.tmp 24) 35 rfl rfl rfl uj.out ?_
      refine hK.out _ _ vH.out (fun ah=>?_)
      clear hK K
      refine tk 11 ah ?_
      refine dw 12 (fun K hK=>?_)
      go_simp
      refine hK.out _ _ Dn.out (fun ah=>?_)
      clear hK K
      refine dQ ?_
      clear ah
      go_wp2
      go_roundw
      case rel=>exact ⟨k+1,by omega,by go_num,_,HR4,Y24,Y14,Y04,jL,lW⟩
      case measure=>simp [intOf];omega
     ·skip
      go_simp
      refine hK.out _ _ HS2.out (fun ah=>?_)
      clear hK K
      refine dw 1 (fun K hK=>?_)
      go_simp
      refine hK.out _ _ ah (fun ah=>?_)
      clear hK K
      refine dw 10 (fun K hK=>?_)
      refine iy rfl (.tmp 16) (.tmp 24) 35 rfl rfl rfl uj.out ?_
      refine hK.out _ _ vH.out (fun ah=>?_)
      clear hK K
      refine tk 11 ah ?_
      refine dw 12 (fun K hK=>?_)
      go_simp
      refine hK.out _ _ Dn.out (fun ah=>?_)
      clear hK K
      refine dQ ?_
      clear ah
      go_wp2
      go_roundw
      case rel=>exact ⟨k+1,by omega,by go_num,_,HR4,Y24,Y14,Y04,jL,lW⟩
      case measure=>simp [intOf];omega
  ·have hdl:decide ((k:Int)<(C.length:Int))=false:=dS (by omega)
   obtain rfl:k=C.length:=by omega
   obtain ⟨S,hS⟩:=HA.out
   rw [List.take_length] at hS
   obtain ⟨ra,rc,hv,ho0⟩:=hS.done (aZ au)
   cases hv
   have zo:=ak ho0
   -- the pairs
   obtain ⟨i5,hi5,uI,hs5,hby5⟩:=Ik
   obtain ⟨pa',pc',w6,hr6,Uh,hb6⟩:=jg.more (ty:=36) aG yB (jg.none_ aT _ wr wr.heap.size 176) Tryz.underlying36 hi5 uI hs5 hby5 rfl (by decide) (aD aG FM.out HB.out) (bK _) (by unfold maxLen;simp only [List.length_nil];omega) (by simp only [List.length_nil];omega)
   simp only [List.nil_append] at hr6 Uh
   obtain ⟨_,_,e6,ho6,_⟩:=bL (jg.news aG yB Uh (bK _) hb6)
   cases e6
   have HR6:=ak hr6
   have rQ:=ak ho6
   have hz6:=hb6.size
   have Z2:=ak (Y2.out.call hb6)
   have xC:=ak (HB.out.trans (hb6.mono HB.out.size))
   obtain ⟨w7,hw7⟩:∃ w,w=w6.setCell ⟨(W.heap.size+1+1),1,none⟩ (.slice pa' P.length pc'):=⟨_,rfl⟩
   have V2:=ak (show aO w7 (W.heap.size+1+1) 39 #[.slice va C.length vc,.slice pa' P.length pc',.slice none 0 0,.int .i64 hf] from by rw [hw7];exact Z2.out.set 1 _)
   have V1:=ak (show aO w7 (W.heap.size+1) 39 #[.slice none 0 0,.slice none 0 0,.slice none 0 0,.int .i64 0] from by rw [hw7];exact aO.far (b:=(W.heap.size+1+1)) (o:=1) (Y1.out.call hb6) (by omega) _)
   have V0:=ak (show aO w7 W.heap.size 39 #[.slice ca C.length cc,.slice pa P.length pc,.slice qa Q.length qc,.int .i64 hf] from by rw [hw7];exact aO.far (b:=(W.heap.size+1+1)) (o:=1) (Y0.out.call hb6) (by omega) _)
   have rR:=ak (show Below W.heap.size W w7 from by rw [hw7];exact xC.out.setCell (p:=⟨(W.heap.size+1+1),1,none⟩) (by show W.heap.size≤(W.heap.size+1+1);omega) _)
   have hz7:w7.heap.size=w6.heap.size:=by rw [hw7];simp
   have hk7:∀ q,w0.heap.size≤q→w7.heap[q]? = w6.heap[q]?:=fun q hq=>by rw [hw7];exact Below.heap_setCell w6 ⟨(W.heap.size+1+1),1,none⟩ _ q (by show q≠(W.heap.size+1+1);omega)
   have zo:=ak ((zo.out.keep (aZ au) fun q hq=>hb6.block q hq.2).keep (aZ au) fun q hq=>hk7 q hq.1)
   have rQ:=ak (rQ.out.keep aG fun q hq=>hk7 q (by have:=hq.1;omega))
   -- the aew
   obtain ⟨i8,hi8,hz8,hs8,hby8⟩:=Ej
   obtain ⟨nH,nG,w8,hr8,Ug,ME⟩:=jg.more (ty:=37) aC vB (jg.none_ aN _ w7 w7.heap.size 181) Tryz.underlying37 hi8 hz8 hs8 hby8 rfl (by decide) (aD aC JQ.out rR.out) (bK _) (by unfold maxLen;simp only [List.length_nil];omega) (by simp only [List.length_nil];omega)
   simp only [List.nil_append] at hr8 Ug
   obtain ⟨_,_,e8,XE,_⟩:=bL (jg.news aC vB Ug (bK _) ME)
   cases e8
   have HR8:=ak hr8
   have vJ:=ak XE
   have hzz8:=ME.size
   have U2:=ak (V2.out.call ME)
   have Pv:=ak (rR.out.trans (ME.mono rR.out.size))
   obtain ⟨w9,Sk⟩:∃ w,w=w8.setCell ⟨(W.heap.size+1+1),2,none⟩ (.slice nH Q.length nG):=⟨_,rfl⟩
   have T2:=ak (show aO w9 (W.heap.size+1+1) 39 #[.slice va C.length vc,.slice pa' P.length pc',.slice nH Q.length nG,.int .i64 hf] from by rw [Sk];exact U2.out.set 2 _)
   have T1:=ak (show aO w9 (W.heap.size+1) 39 #[.slice none 0 0,.slice none 0 0,.slice none 0 0,.int .i64 0] from by rw [Sk];exact aO.far (b:=(W.heap.size+1+1)) (o:=2) (V1.out.call ME) (by omega) _)
   have mY:=ak (show Below W.heap.size W w9 from by rw [Sk];exact Pv.out.setCell (p:=⟨(W.heap.size+1+1),2,none⟩) (by show W.heap.size≤(W.heap.size+1+1);omega) _)
   have hz9:w9.heap.size=w8.heap.size:=by rw [Sk];simp
   have hk9:∀ q,w0.heap.size≤q→w9.heap[q]? = w8.heap[q]?:=fun q hq=>by rw [Sk];exact Below.heap_setCell w8 ⟨(W.heap.size+1+1),2,none⟩ _ q (by show q≠(W.heap.size+1+1);omega)
   have zo:=ak ((zo.out.keep (aZ au) fun q hq=>ME.block q (by have:=hq.2;omega)).keep (aZ au) fun q hq=>hk9 q hq.1)
   have rQ:=ak ((rQ.out.keep aG fun q hq=>ME.block q (by have:=hq.2;omega)).keep aG fun q hq=>hk9 q (by have:=hq.1;omega))
   have vJ:=ak (vJ.out.keep aC fun q hq=>hk9 q (by have:=hq.1;omega))
   have HST:=ak (yS w9 (W.heap.size+1) (.slice va C.length vc) (.slice pa' P.length pc') (.slice nH Q.length nG) (.int .i64 hf))
   have rM:=ak (yT (w:=w9) (g:=W.heap.size+1) (v0:=.slice va C.length vc) (v1:=.slice pa' P.length pc') (v2:=.slice nH Q.length nG) (v3:=.int .i64 hf) T1.out)
   have uK:=ak (jA mY.out HST.out (fun k hk=>by rw [hk];omega) mY.out.size)
   have hzr:w0.heap.size≤wr.heap.size:=hsz
   clear hi5 uI hs5 hby5 hr6 Uh ho6 hi8 hz8 hs8 hby8 hr8 Ug XE ho0 hS
   have y0:=Y0.out.at_ 1 rfl
   have y1:=Y2.out.at_ 1 rfl
   have z1:=Z2.out.at_ 1 rfl
   have z1f:=Z2.out.soft 1
   have v0_:=V0.out.at_ 2 rfl
   have v2_:=V2.out.at_ 2 rfl
   have u2_:=U2.out.at_ 2 rfl
   have u2f:=U2.out.soft 2
   obtain ⟨t0,t1,t2,t3⟩:=T2.out.jE rfl
   obtain ⟨s0,s1,s2,s3⟩:=T1.out.jE rfl
   obtain ⟨k0,k1,k2,k3⟩:=T1.out.CG
   clear hb6 ME
   go_upto_region 7 with (at_builtin;refine dZ rfl (.tmp 28) (.tmp 30) 36 rfl rfl rfl HR6.out ?_)
   rw [←hw7]
   clear hw7 y1 z1 z1f
   go_upto_region 8 with (at_builtin;refine dZ rfl (.tmp 34) (.tmp 36) 37 rfl rfl rfl HR8.out ?_)
   rw [←Sk]
   clear Sk u2_ u2f v2_
   go_wp2
   obtain ⟨r0,r1,r2,r3⟩:=rM.out.jE rfl
   refine qC (v:=.agg #[.slice va C.length vc,.slice pa' P.length pc',.slice nH Q.length nG,.int .i64 hf]) (by simp [results,Tryz.results110,go_sem, *]) rfl ⟨[.slice va C.length vc,.slice pa' P.length pc',.slice nH Q.length nG,.int .i64 hf],rfl,?_,uK.out⟩
   have hszf:=HST.out.size
   have hoff:∀ q,w0.heap.size≤q→q<w9.heap.size→q<w9.heap.size∧¬q=W.heap.size+1:=fun q h1 h2=>⟨h2,by omega⟩
   exact nY (T0:=Rg w0.heap.size wr.heap.size) (T1:=Rg wr.heap.size w6.heap.size) (T2:=Rg w7.heap.size w8.heap.size) (fun k hk=>⟨by have:=hk.1;omega,by have:=hk.2;omega⟩) (fun k hk=>⟨by have:=hk.1;omega,by have:=hk.2;omega⟩) (fun k hk=>⟨by have:=hk.1;omega,by have:=hk.2;omega⟩) (fun k h h'=>by have h1:=h.2;have h2:=h'.1;omega) (fun k h h'=>by have h1:=h.2;have h2:=h'.1;omega) (fun k h h'=>by have h1:=h.2;have h2:=h'.1;omega) (xU (aZ au) zo.out HST.out fun q hq=>hoff q hq.1 (by have:=hq.2;omega)) (xU aG rQ.out HST.out fun q hq=>hoff q (by have:=hq.1;omega) (by have:=hq.2;omega)) (xU aC vJ.out HST.out fun q hq=>hoff q (by have:=hq.1;omega) (by have:=hq.2;omega))
theorem uW (n:Int)(w:World):Calls Tryz.prog 107 #[.int .i64 n] w fun e w'=>e=.returned (.bool (dD n 1 3))∧w=w':=by
 go_enter Tryz.func107,Tryz.ntmps107
 go_wp2_with (go_at_call 157;refine (pW _ _ _ _).mono ?_;rintro e w' ⟨rfl,rfl⟩)
 go_ret
 exact ⟨rfl,rfl⟩
theorem uX (n:Int)(w:World):Calls Tryz.prog 172 #[.int .i64 n] w fun e w'=>e=.returned (.bool (dD n 1 3))∧w=w':=by
 go_enter Tryz.func172,Tryz.ntmps172
 go_wp2_with (go_at_call 191;refine (lF _ _ _ _).mono ?_;rintro e w' ⟨rfl,rfl⟩)
 go_ret
 exact ⟨rfl,rfl⟩
theorem EK {α:Type}{E:Rp α}{L:List α}{W:World}{B:Nat}{a:Option Addr}{cap:Nat}(h:aJ E W B L a cap):L.length≤9223372036854775807:=by
 have h1:=h.1;have h2:=h.2.1;unfold maxLen at h2;omega
theorem Hw {L:List aP}{a:Option Addr}{cap:Nat}{W:World}(h:aJ aL W W.heap.size L a cap) :
 Calls Tryz.prog 99 #[.slice a L.length cap] W (sS (iU L) W):=by
 refine Calls.mono ?_ fun e w' h=>Hg gG h
 have hn:=EK h
 have H:=ak h
 clear h
 by_cases h1:1≤L.length
 rotate_left
 ·have HN:=ak (show ¬qM L from fun h=>h1 h.1.1)
  have hd:decide ((L.length:Int)<1)=true:=eD (by omega)
  go_enter Tryz.func99,Tryz.ntmps99
  go_wp2
  go_ret
  exact aB HN.out (aW _ _)
 have hd:decide ((L.length:Int)<1)=false:=dS (by omega)
 by_cases h6:L.length≤6
 rotate_left
 ·have HN:=ak (show ¬qM L from fun h=>h6 h.1.2)
  have hd2:decide ((6:Int)<(L.length:Int))=true:=eD (by omega)
  go_enter Tryz.func99,Tryz.ntmps99
  go_wp2
  go_ret
  exact aB HN.out (aW _ _)
 have hd2:decide ((6:Int)<(L.length:Int))=false:=dS (by omega)
 go_enter Tryz.func99,Tryz.ntmps99
 go_wp2
 go_loopw [3] (fun i wr=>∃ k:Nat,k≤L.length∧i=.int .i64 k∧Hid (PL L k)∧Below W.heap.size W wr) (fun i _=>L.length-(intOf i).toNat)
 case atStart=>exact ⟨0,dV _,rfl,ak DX,aW _ _⟩
 case round=>
  obtain ⟨k,hk,rfl,HO,hB⟩:=hrel
  have HB:=ak hB
  have hsz:=hB.size
  by_cases hlt:k<L.length
  ·skip
   obtain ⟨x,hx⟩:=aM hlt
   have HX:=ak hx
   have hcr:=qR aK H.out hB
   obtain ⟨g,o,us,rfl,hg,hu,hr⟩:=hcr.at_ hx
   obtain ⟨st,M⟩:=x
   obtain ⟨ba,bc,rfl,hM⟩:=kH hr
   obtain ⟨e0,e1⟩:=ny (a:=o+k*2) hu rfl
   have hi0:(0:Int)≤(k:Int):=eu _
   have hi1:(k:Int)<(L.length:Int):=by omega
   have HG:=ak hg
   have HM:=ak hM
   clear hcr hu hr hM hg hB hx
   cases hq:dD st 1 3 with
   | false=>
    have HN:=ak (show ¬qM L from fun h=>by have:=(jR h HX.out).1;rw [hq] at this;cases this)
    have hs:=fun W=>uW st W
    rw [hq] at hs
    clear hq
    go_wp2_with (go_at_call 107;refine (hs _).mono ?_;rintro e w' ⟨rfl,rfl⟩)
    go_ret
    exact aB HN.out HB.out
   | true=>
   have HQ:=ak hq
   have hs:=fun W=>uW st W
   rw [hq] at hs
   clear hq
   by_cases h4:M.length≤4
   rotate_left
   ·have HN:=ak (show ¬qM L from fun h=>h4 (jR h HX.out).2.1)
    have hd:decide ((4:Int)<(M.length:Int))=true:=eD (by omega)
    go_wp2_with (go_at_call 107;refine (hs _).mono ?_;rintro e w' ⟨rfl,rfl⟩)
    go_ret
    exact aB HN.out HB.out
   have hd:decide ((4:Int)<(M.length:Int))=false:=dS (by omega)
   go_wp2_with (first | (go_at_call 107;refine (hs _).mono ?_;rintro e w' ⟨rfl,rfl⟩) | fail)
   refine (I5 ba M.length bc (gt M) _ (by omega) (aaF (qR bG HM.out (w':=_) (aW _ _)) (bK _))).mono ?_
   intro e w5 h
   obtain ⟨z,rfl,hz,hb⟩:=bq h
   have HZ:=ak hz
   have lX:=ak (HB.out.trans (hb.mono hsz))
   clear h hz hb hs hd
   cases z with
   | false=>
    have HN:=ak (show ¬qM L from fun h=>by have:=HZ.out.2 (jR h HX.out).2.2;cases this)
    go_wp2
    go_ret
    exact aB HN.out lX.out
   | true=>
    have vJ:=ak (DY HO.out HX.out ⟨HQ.out,h4,HZ.out.1 rfl⟩)
    go_wp2
    go_roundw
    case rel=>exact ⟨k+1,by omega,by go_num,vJ,lX.out⟩
    case measure=>simp [intOf];omega
  ·have hdl:decide ((k:Int)<(L.length:Int))=false:=dS (by omega)
   obtain rfl:k=L.length:=by omega
   have HY:=ak (BL h1 h6 HO.out)
   clear hB
   go_wp2
   go_ret
   exact bM HY.out HB.out
theorem Hz {L:List aP}{a:Option Addr}{cap:Nat}{W:World}(h:aJ aL W W.heap.size L a cap) :
 Calls Tryz.prog 131 #[.slice a L.length cap] W (sS (iU L) W):=by
 refine Calls.mono ?_ fun e w' h=>Hg gG h
 have hn:=EK h
 have H:=ak h
 clear h
 cases h16:dD (L.length:Int) 1 6 with
 | false=>
  have HN:=ak (show ¬qM L from fun h=>by have h1:=h.1.1;have h2:=h.1.2;rw [(dG _ _ _).2 ⟨by omega,by omega⟩] at h16;cases h16)
  have hs:=fun W=>lF (L.length:Int) 1 6 W
  rw [h16] at hs
  clear h16
  go_enter Tryz.func131,Tryz.ntmps131
  go_wp2_with (go_at_call 191;refine (hs _).mono ?_;rintro e w' ⟨rfl,rfl⟩)
  go_ret
  exact aB HN.out (aW _ _)
 | true=>
 have h1:1≤L.length:=by have:=((dG _ _ _).1 h16).1;omega
 have h6:L.length≤6:=by have:=((dG _ _ _).1 h16).2;omega
 have hs:=fun W=>lF (L.length:Int) 1 6 W
 rw [h16] at hs
 clear h16
 go_enter Tryz.func131,Tryz.ntmps131
 go_wp2_with (go_at_call 191;refine (hs _).mono ?_;rintro e w' ⟨rfl,rfl⟩)
 clear hs
 go_loopw [11] (fun i wr=>∃ k:Nat,k≤L.length∧i=.int .i64 k∧Hid (PL L k)∧Below W.heap.size W wr) (fun i _=>L.length-(intOf i).toNat)
 case atStart=>exact ⟨0,dV _,rfl,ak DX,aW _ _⟩
 case round=>
  obtain ⟨k,hk,rfl,HO,hB⟩:=hrel
  have HB:=ak hB
  have hsz:=hB.size
  by_cases hlt:k<L.length
  ·skip
   obtain ⟨x,hx⟩:=aM hlt
   have HX:=ak hx
   have hcr:=qR aK H.out hB
   obtain ⟨g,o,us,rfl,hg,hu,hr⟩:=hcr.at_ hx
   obtain ⟨st,M⟩:=x
   obtain ⟨ba,bc,rfl,hM⟩:=kH hr
   obtain ⟨e0,e1⟩:=ny (a:=o+k*2) hu rfl
   have hi0:(0:Int)≤(k:Int):=eu _
   have hi1:(k:Int)<(L.length:Int):=by omega
   have HG:=ak hg
   have HM:=ak hM
   clear hcr hu hr hM hg hB hx
   cases hq:dD st 1 3 with
   | false=>
    have HN:=ak (show ¬qM L from fun h=>by have:=(jR h HX.out).1;rw [hq] at this;cases this)
    have hs:=fun W=>uX st W
    rw [hq] at hs
    clear hq
    go_wp2_with (go_at_call 172;refine (hs _).mono ?_;rintro e w' ⟨rfl,rfl⟩)
    go_ret
    exact aB HN.out (HB.out.trans (Below.mono (B:=wr.heap.size) (by repeat (first | exact aW _ _ | refine Below.drew ?_ | refine Below.setCell ?_ (by first | omega | (simp;done) | (simp;omega)) _ | refine Below.alloc ?_ (by first | omega | (simp;done) | (simp;omega)) _)) hsz))
   | true=>
   have HQ:=ak hq
   have hs:=fun W=>uX st W
   rw [hq] at hs
   clear hq
   by_cases h4:M.length≤4
   rotate_left
   ·have HN:=ak (show ¬qM L from fun h=>h4 (jR h HX.out).2.1)
    have hd:decide ((4:Int)<(M.length:Int))=true:=eD (by omega)
    go_wp2_with (go_at_call 172;refine (hs _).mono ?_;rintro e w' ⟨rfl,rfl⟩)
    go_ret
    exact aB HN.out (HB.out.trans (Below.mono (B:=wr.heap.size) (by repeat (first | exact aW _ _ | refine Below.drew ?_ | refine Below.setCell ?_ (by first | omega | (simp;done) | (simp;omega)) _ | refine Below.alloc ?_ (by first | omega | (simp;done) | (simp;omega)) _)) hsz))
   have hd:decide ((4:Int)<(M.length:Int))=false:=dS (by omega)
   go_wp2_with (first | (go_at_call 172;refine (hs _).mono ?_;rintro e w' ⟨rfl,rfl⟩) | fail)
   refine (KQ ba M.length bc (gt M) _ (by omega) (aaF (qR bG HM.out (w':=_) (by repeat (first | exact aW _ _ | refine Below.drew ?_ | refine Below.setCell ?_ (by first | omega | (simp;done) | (simp;omega)) _ | refine Below.alloc ?_ (by first | omega | (simp;done) | (simp;omega)) _))) (bK _))).mono ?_
   intro e w5 h
   obtain ⟨z,rfl,hz,hb⟩:=bq h
   have HZ:=ak hz
   have lX:=ak ((HB.out.trans (Below.mono (B:=wr.heap.size) (by repeat (first | exact aW _ _ | refine Below.drew ?_ | refine Below.setCell ?_ (by first | omega | (simp;done) | (simp;omega)) _ | refine Below.alloc ?_ (by first | omega | (simp;done) | (simp;omega)) _)) hsz)).trans (hb.mono (by simp;omega)))
   clear h hz hb hs hd
   cases z with
   | false=>
    have HN:=ak (show ¬qM L from fun h=>by have:=HZ.out.2 (jR h HX.out).2.2;cases this)
    go_wp2
    go_ret
    exact aB HN.out lX.out
   | true=>
    have vJ:=ak (DY HO.out HX.out ⟨HQ.out,h4,HZ.out.1 rfl⟩)
    go_wp2
    go_roundw
    case rel=>exact ⟨k+1,by omega,by go_num,vJ,lX.out⟩
    case measure=>simp [intOf];omega
  ·have hdl:decide ((k:Int)<(L.length:Int))=false:=dS (by omega)
   obtain rfl:k=L.length:=by omega
   have HY:=ak (BL h1 h6 HO.out)
   clear hB
   go_wp2
   go_ret
   exact bM HY.out HB.out
theorem QA {α:Type}{L:List α}{k:Nat}{x:α}(h:L[k]? = some x):L.take k++[x]=L.take (k+1):=by rw [List.take_add_one,h,Option.toList_some]
theorem ql {L:List aP}{a:Option Addr}{cap:Nat}{W:World}(hn:L.length≤4096)(hM:∀ x∈L,x.2.length≤1048576)(h:aJ aL W W.heap.size L a cap) :
 Calls Tryz.prog 109 #[.slice a L.length cap] W (jU aL L W):=by
 have H:=ak h
 have HS:=ak hM
 clear h hM
 obtain ⟨w0,hw0⟩:∃ w,w=W.alloc (.cells #[] 124):=⟨_,rfl⟩
 have hb0:Below W.heap.size W w0:=by rw [hw0];exact (aW _ _).alloc (bK _) _
 have Ab:=ak (show gW aL w0 W.heap.size 124 (.slice (some ⟨W.heap.size,0,none⟩) 0 0) [] from by rw [hw0];exact gW.made _ _ _)
 have HB0:=ak hb0
 clear hb0
 go_enter Tryz.func109,Tryz.ntmps109
 go_wp2
 rw [←hw0]
 clear hw0
 go_loopw [4,3] (fun i v wr=>∃ k:Nat,k≤L.length∧i=.int .i64 k∧Hid (gW aL wr W.heap.size 124 v (L.take k))∧Below W.heap.size W wr) (fun i _ _=>L.length-(intOf i).toNat)
 case atStart=>exact ⟨0,dV _,rfl,Ab,HB0.out⟩
 case round=>
  obtain ⟨k,hk,rfl,HR,hB⟩:=hrel
  have HB:=ak hB
  have hsz:=hB.size
  obtain ⟨va,vc,hv⟩:=HR.out.isSlice
  rw [List.length_take,Nat.min_eq_left hk] at hv
  subst hv
  by_cases hlt:k<L.length
  ·obtain ⟨x,hx⟩:=aM hlt
   have HT:=ak (QA hx)
   have hxl:=HS.out x (List.mem_of_getElem? hx)
   have hcr:=H.out
   obtain ⟨g,o,us,rfl,hg,hu,hr⟩:=hcr.at_ hx
   obtain ⟨st,M⟩:=x
   obtain ⟨ba,bc,rfl,hM⟩:=kH hr
   obtain ⟨e0,e1⟩:=ny (a:=o+k*2) hu rfl
   have hi0:(0:Int)≤(k:Int):=eu _
   have hi1:(k:Int)<(L.length:Int):=by omega
   have Xq:aJ bE wr.drew wr.drew.heap.size M ba bc:=(qR bG hM HB.out.drew)
   obtain ⟨a1,c1,w1,Gz,ho1,hb1⟩:=Ma (ty:=122) (w:=wr.drew) hxl Xq
   have hb1':Below wr.heap.size wr w1:=(aW _ wr).drew.trans hb1
   have Td:bH bE w1 (Rg wr.heap.size w1.heap.size) M a1 c1:=ho1
   have GN:=ak (show (Builtin.append_ #[122,122] 122 #[.slice (some ⟨wr.heap.size,0,none⟩) 0 0,.slice ba M.length bc]).run Tryz.prog ((wr.alloc (.cells #[] 61)).drew)=.ok (.slice a1 M.length c1) w1 from Gz)
   obtain ⟨w2,hw2⟩:∃ w,w=w1.alloc (.cells #[.int .i64 st,.slice a1 M.length c1] 124):=⟨_,rfl⟩
   have xK:Below w1.heap.size w1 w2:=by rw [hw2];exact (aW _ _).alloc (bK _) _
   have hbl:aO w2 w1.heap.size 124 #[.int .i64 st,.slice a1 M.length c1]:=by rw [hw2];exact aO.new _ _ _
   have ho2:bH bE w2 (Rg wr.heap.size w2.heap.size) M a1 c1:=(Td.keep bG fun q hq=>xK.block q hq.2).more fun q hq=>⟨hq.1,bV hq.2 xK.size⟩
   have hb2:Below wr.heap.size wr w2:=hb1'.trans (xK.mono hb1'.size)
   obtain ⟨a3,c3,w3,Gy,hrow,hb3⟩:=Xg HR.out hb2 hbl ho2 (by rw [List.length_take];omega)
   have uj:=ak Gy
   rw [hw2] at uj
   have HB1:=ak (HB.out.trans (hb1'.mono hsz))
   have HB2:=ak (HB.out.trans (hb2.mono hsz))
   have HB3:=ak (HB2.out.trans hb3)
   rw [hw2] at HB2
   have hlen:(L.take (k+1)).length=k+1:=by rw [List.length_take];omega
   rw [HT.out,hlen] at hrow uj
   have HR3:=ak hrow
   have HA1:=ak (HB.out.drew.alloc hsz (.cells #[] 61))
   have HG:=ak hg
   clear Gz Gy hrow hb1 hb1' ho1 Td xK hbl ho2 hb2 hb3 hw2 Xq hB hcr hu hr hM hx hlen
   go_upto_region 5 with fail
   refine dX (S:=(fun V=>Below W.heap.size W V)) (by kernel_rfl) (HB.out.drew) (fun ah=>?_)
   refine tk 0 ah ?_
   refine tk 1 ah ?_
   refine tk 2 ah ?_
   refine tk 3 ah ?_
   refine tk 4 ah ?_
   refine tk 5 ah ?_ (hy:=fun w aj=>by (try dsimp only at aj);have k0:=(aj.cell (p:=⟨g,o+k*2,none⟩) HG.out).trans e0;clear aj;go_simp;try with_reducible rfl)
   refine tk 7 ah ?_
   refine tk 8 ah ?_
   refine tk 9 ah ?_
   refine tk 10 ah ?_
   refine tk 11 ah ?_ (hy:=fun w aj=>by (try dsimp only at aj);have k0:=(aj.cell (p:=⟨g,o+k*2+1,none⟩) HG.out).trans e1;clear aj;go_simp;try with_reducible rfl)
   refine dw 6 (fun K hK=>?_)
   go_simp
   refine hK.out _ _ HA1.out (fun ah=>?_)
   clear hK K
   refine dw 12 (fun K hK=>?_)
   refine iy rfl (.tmp 18) (.tmp 23) 122 rfl rfl rfl GN.out ?_
   refine hK.out _ _ HB1.out (fun ah=>?_)
   clear hK K
   refine tk 13 ah ?_
   refine dw 14 (fun K hK=>?_)
   go_simp
   refine hK.out _ _ HB2.out (fun ah=>?_)
   clear hK K
   refine dw 15 (fun K hK=>?_)
   refine iy rfl (.tmp 12) (.tmp 26) 40 rfl rfl rfl uj.out ?_
   refine hK.out _ _ HB3.out (fun ah=>?_)
   clear hK K
   refine tk 16 ah ?_
   refine dQ ?_
   clear ah
   go_wp2
   go_roundw
   case rel=>exact ⟨k+1,by omega,by go_num,HR3,HB3.out⟩
   case measure=>simp [intOf];omega
  ·have hdl:decide ((k:Int)<(L.length:Int))=false:=dS (by omega)
   obtain rfl:k=L.length:=by omega
   have HR2:=ak (show gW aL wr W.heap.size 124 (.slice va L.length vc) L from by have:=HR.out;rwa [List.take_length] at this)
   clear hB
   go_wp2
   go_ret
   exact HR2.out.news aK (bK _) HB.out
end
end aQ
end Go.Proofs.YtlhfiapfncikdaaGreatDoor
