import Derived.Test.YtlhfiapfncikdaaGreatDoorRows
import Derived.LoopTactic
import Derived.BigQuiet
import Derived.Deep.QuietTactic
import Derived.Deep.RegionWith
import Derived.Deep.RegionHeld3
import Derived.RegionTactic
import Derived.WalkSpells
import Derived.WalkLawsBesides
import Derived.WalkKit
import Derived.ProofKit
import Derived.Below
import Derived.OwnWalk
import Derived.Maps.AppendAt
import Derived.Laws.Append
import Derived.Deep.AppendLies
import Derived.Lib.Hide
import Derived.Deep.DeepCutAuto
import Derived.IntWalk
import Derived.Laws.MakeOwn
import Derived.Laws.Entries
import Derived.Test.YtlhfiapfncikdaaGreatDoorProg
import Derived.BigRegion
import Derived.OpenShut
import Derived.Laws.Bits64
import Derived.StillTailTactics
import Derived.Lib.AppendZeros
import Derived.Lib.SlicesCompact
import Derived.Sort.Statements
import Derived.Carry
import Derived.ChangeOld
import Derived.Lib.SmallJoins
import Derived.Deep.Slices
import Derived.Laws.StructEq
import Derived.Shelf.SlicesG.Cmp
import Derived.Ground.SlgcProg
import Derived.Sort.Grow
import Derived.Sort.Walk0
import Derived.Shelf.SlSortCmp.WholeK
import Derived.Ground.SlsfProg
import Derived.Lib.SliceRun
import Derived.Laws.IdiomStrings
import Derived.Lib.BufferWrite
import Derived.Laws.CopyOwn
import Derived.Laws.Concat
import Derived.Laws.IdiomCopy
import Derived.Test.YtlhfiapfncikdaaGreatDoorChecked
import Derived.LaidEql
import Derived.Stop.Asserts
import Derived.RowKitTokens
import Derived.LaidMore
import Derived.LaidByTextLater
import Derived.Stop.Joined
import Derived.ChangeSame
import Derived.JoinedOf
import Derived.Stop.LaidTwo
import Derived.Stop.ErrReads
import Derived.Stop.LaidErr
import Derived.Shelf.Small.Bits
import Derived.Shelf.Strconv.Itoa0
import Derived.Shelf.Strconv.Itoa1
import Derived.Shelf.LaysM
import Derived.Shelf.Strconv.Itoa2
import Derived.Shelf.Strconv.Itoa3
import Derived.Shelf.Strconv.Itoa4
import Derived.Shelf.Strconv.Clone
import Derived.Lib.LaidTab
import Derived.Lib.AppendIntMem
import Derived.Lib.ItoaLen
import Derived.Shelf.Abstract
set_option linter.unusedVariables false
set_option linter.unusedSimpArgs false
set_option maxRecDepth 100000
set_option maxHeartbeats 3200000
namespace Go.Proofs.YtlhfiapfncikdaaGreatDoor
section
section
variable {P:Program}{ops:Array Oper}{Q:Exit→Act→World→Prop}{md:Region.Mode}{S:World→Prop}
theorem tk (i:Nat){oi:Oper}{v:Value}{fuel:Nat}{listed:Array Bool}{a a':Act}{w:World}(hS:S w)
 (h:wpAnyH P md ops Q S fuel (listed.setIfInBounds i true) a' w)
 (hi:ops[i]? = some oi:=by rfl) (hs:Region.noSelect ops=true:=by kernel_rfl)
 (hf:Region.free md ops listed i=true:=by kernel_rfl) (hr:(Region.ready md ops listed).contains i=true:=by kernel_rfl)
 (hw:Region.wanted oi (yielded ops a.tmps)=true:=by kernel_rfl)
 (hy:∀ w,S w→(execOp a.eval oi).run P w=.ok (.value v) w:=by
  intro w aj;(try dsimp only at aj);go_simp;try with_reducible rfl)
 (hQ:∀ c a w,Q (.panic c) (a.put oi.dst v) w→Q (.panic c) a w:=by exact fun _ _ _ h=>h)
 (ha:a.put oi.dst v=a':=by
  first | (simp only [Act.put,List.getElem_toArray,List.getElem_cons_succ,List.getElem_cons_zero,List.setIfInBounds_toArray,List.set_cons_zero,List.set_cons_succ];done) | (simp only [Act.put,List.getElem_toArray,List.getElem_cons_succ,List.getElem_cons_zero,List.setIfInBounds_toArray,List.set_cons_zero,List.set_cons_succ];exact rfl) | exact rfl) :
 wpAnyH P md ops Q S (fuel+1) listed a w:=by
 subst ha
 exact wpAnyH_take hi hs hf hr hQ (Or.inl ⟨hw,hy⟩) hS h
theorem tn (i:Nat){oi:Oper}{fuel:Nat}{listed:Array Bool}{a a':Act}{w:World}(hS:S w)
 (h:wpAnyH P md ops Q S fuel (listed.setIfInBounds i true) a' w)
 (hi:ops[i]? = some oi:=by rfl) (hs:Region.noSelect ops=true:=by kernel_rfl)
 (hf:Region.free md ops listed i=true:=by kernel_rfl) (hr:(Region.ready md ops listed).contains i=true:=by kernel_rfl)
 (hw:Region.wanted oi (yielded ops a.tmps)=false:=by kernel_rfl)
 (hQ:∀ c a w,Q (.panic c) (a.put oi.dst undef) w→Q (.panic c) a w:=by exact fun _ _ _ h=>h)
 (ha:a.put oi.dst undef=a':=by
  first | (simp only [Act.put,List.getElem_toArray,List.getElem_cons_succ,List.getElem_cons_zero,List.setIfInBounds_toArray,List.set_cons_zero,List.set_cons_succ];done) | (simp only [Act.put,List.getElem_toArray,List.getElem_cons_succ,List.getElem_cons_zero,List.setIfInBounds_toArray,List.set_cons_zero,List.set_cons_succ];exact rfl) | exact rfl) :
 wpAnyH P md ops Q S (fuel+1) listed a w:=by
 subst ha
 exact wpAnyH_take hi hs hf hr hQ (Or.inr ⟨hw,rfl⟩) hS h
theorem dw (i:Nat){o:Oper}{fuel:Nat}{listed:Array Bool}{a a':Act}{w:World}
 (h:∀ K':Act→World→Prop,Shut (∀ a w,S w→(S w→wpAnyH P md ops Q S fuel (listed.setIfInBounds i true) a w)→K' a w)→if Region.wanted o (yielded ops a'.tmps)=true then Oper.wp P o a' w K' Q else K' (a'.put o.dst undef) w)
 (ha:a=a':=by
  first | (simp only [Act.put,List.getElem_toArray,List.getElem_cons_succ,List.getElem_cons_zero,List.setIfInBounds_toArray,List.set_cons_zero,List.set_cons_succ];done) | (simp only [Act.put,List.getElem_toArray,List.getElem_cons_succ,List.getElem_cons_zero,List.setIfInBounds_toArray,List.set_cons_zero,List.set_cons_succ];exact rfl) | exact rfl)
 (ho:ops[i]? = some o:=by rfl) (hr:Region.ready md ops listed = [i]:=by kernel_rfl) :
 wpAnyH P md ops Q S (fuel+1) listed a w:=by
 subst ha
 exact wpAnyH_ready hr (by simp) (AllReadyH.cons ho h AllReadyH.nil)
theorem rd2 (i j:Nat){o o2:Oper}{fuel:Nat}{listed:Array Bool}{a a':Act}{w:World}
 (h:∀ K':Act→World→Prop,Shut (∀ a w,S w→(S w→wpAnyH P md ops Q S fuel (listed.setIfInBounds i true) a w)→K' a w)→if Region.wanted o (yielded ops a'.tmps)=true then Oper.wp P o a' w K' Q else K' (a'.put o.dst undef) w)
 (h2:∀ K':Act→World→Prop,Shut (∀ a w,S w→(S w→wpAnyH P md ops Q S fuel (listed.setIfInBounds j true) a w)→K' a w)→if Region.wanted o2 (yielded ops a'.tmps)=true then Oper.wp P o2 a' w K' Q else K' (a'.put o2.dst undef) w)
 (ha:a=a':=by
  first | (simp only [Act.put,List.getElem_toArray,List.getElem_cons_succ,List.getElem_cons_zero,List.setIfInBounds_toArray,List.set_cons_zero,List.set_cons_succ];done) | (simp only [Act.put,List.getElem_toArray,List.getElem_cons_succ,List.getElem_cons_zero,List.setIfInBounds_toArray,List.set_cons_zero,List.set_cons_succ];exact rfl) | exact rfl)
 (ho:ops[i]? = some o:=by rfl) (ho2:ops[j]? = some o2:=by rfl) (hr:Region.ready md ops listed = [i,j]:=by kernel_rfl) :
 wpAnyH P md ops Q S (fuel+1) listed a w:=by
 subst ha
 exact wpAnyH_ready hr (by simp) (AllReadyH.cons ho h (AllReadyH.cons ho2 h2 AllReadyH.nil))
theorem dQ {listed:Array Bool}{a a':Act}{w:World}{fuel:Nat}(h:Q .normal a' w)
 (ha:a=a':=by
  first | (simp only [Act.put,List.getElem_toArray,List.getElem_cons_succ,List.getElem_cons_zero,List.setIfInBounds_toArray,List.set_cons_zero,List.set_cons_succ];done) | (simp only [Act.put,List.getElem_toArray,List.getElem_cons_succ,List.getElem_cons_zero,List.setIfInBounds_toArray,List.set_cons_zero,List.set_cons_succ];exact rfl) | exact rfl)
 (hr:Region.ready md ops listed = []:=by kernel_rfl):wpAnyH P md ops Q S fuel listed a w:=by
 subst ha
 exact wpAnyH_done hr h fuel
end
end
end Go.Proofs.YtlhfiapfncikdaaGreatDoor
namespace Go.Proofs.YtlhfiapfncikdaaGreatDoor.bN
section
open Go.RowKit
def cl (c:Nat→Value)(m:Nat):List Value:=(List.range m).map c
theorem uS (c:Nat→Value)(m:Nat):(cl c m).length=m:=by simp [cl]
theorem Dx (c:Nat→Value){m j:Nat}(h:j<m):(cl c m)[j]? = some (c j):=by simp [cl,h]
theorem ab6 {c:Nat→Value}{m j:Nat}{u:Value}(h:(cl c m)[j]? = some u):j<m∧u=c j:=by
 have hj:j<m:=by
  rcases Nat.lt_or_ge j m with h1 | h1
  ·exact h1
  ·rw [List.getElem?_eq_none (by rw [uS];exact h1)] at h;cases h
 rw [Dx c hj] at h
 exact ⟨hj,by injection h with h;exact h.symm⟩
theorem WY {c d:Nat→Value}{m:Nat}(h:∀ j,j<m→c j=d j):cl c m=cl d m:=by
 unfold cl
 exact List.map_congr_left fun j hj=>h j (by simpa using hj)
theorem RL (c d:Nat→Value)(m k:Nat):cl c m++cl d k=cl (fun j=>if j<m then c j else d (j-m)) (m+k):=by
 apply List.ext_getElem?
 intro i
 by_cases h:i<m
 ·rw [List.getElem?_append_left (by rw [uS];exact h),Dx c h,Dx _ (by omega),if_pos h]
 ·rw [List.getElem?_append_right (by rw [uS];omega),uS]
  by_cases h2:i<m+k
  ·rw [Dx d (by omega),Dx _ h2,if_neg h]
  ·rw [List.getElem?_eq_none (by rw [uS];omega),List.getElem?_eq_none (by rw [uS];omega)]
theorem ab5 {c:Nat→Value}{m:Nat}{u:Value}(h:u∈cl c m):∃ j,j<m∧u=c j:=by
 obtain ⟨j,hj,rfl⟩:=List.mem_map.1 h
 exact ⟨j,by simpa using hj,rfl⟩
def jd (W:World)(lo:Nat)(T:TypeId)(size:Nat)(v:Value)(n:Nat)(c:Nat→Value):Prop:=W.ownsRow lo T size v n (cl c (n*size))
section
variable {W W':World}{lo:Nat}{T:TypeId}{size:Nat}{v:Value}{n:Nat}{c:Nat→Value}
theorem jd.form (h:jd W lo T size v n c)(hn:0<n):∃ g cap,v=.slice (some ⟨g,0,none⟩) n cap∧lo≤g∧g<W.heap.size∧n≤cap∧(∀ j,j<n*size→W.cell? ⟨g,j,none⟩=some (c j))∧(∀ j,W.frozen? ⟨g,j,none⟩=false):=by
 obtain ⟨g,cap,rfl,hb,hlt⟩:=World.ownsRow.form h hn
 have hc:=World.ownsRow.cells h (g:=g) rfl
 rcases h.2 with ⟨_,h0⟩ | ⟨g',cap',cur,hv,_,hh,hnc,_⟩
 ·omega
 ·injection hv with hv1 hv2 hv3
  injection hv1 with hv1
  injection hv1 with hv1
  subst hv1
  subst hv3
  refine ⟨g,cap,rfl,hb,hlt,hnc,fun j hj=>?_,fun j=>by simp [World.frozen?,hh]⟩
  have hadd:(⟨g,0,none⟩:Addr).add j=⟨g,j,none⟩:=by unfold Addr.add;split <;> simp_all
  rw [←hadd]
  exact hc j _ (Dx c hj)
theorem jd.isSlice (h:jd W lo T size v n c):∃ a cap,v=.slice a n cap:=by
 rcases h.2 with ⟨rfl,rfl⟩ | ⟨g',cap',cur,rfl,_⟩
 ·exact ⟨_,_,rfl⟩
 ·exact ⟨_,_,rfl⟩
theorem jd.own (h:jd W lo T size v n c):∀ k,v.ownBlock=some k→lo≤k∧k<W.heap.size:=World.ownsRow.lt h
theorem jd.keep (h:jd W lo T size v n c)(hb:∀ k,v.ownBlock=some k→W'.heap[k]? = W.heap[k]?):jd W' lo T size v n c:=by
 refine ⟨h.1,?_⟩
 rcases h.2 with hn | ⟨g,cap,cur,rfl,hg,hgg,rest⟩
 ·exact .inl hn
 ·exact .inr ⟨g,cap,cur,rfl,hg,(hb g rfl).trans hgg,rest⟩
theorem jd.below (h:jd W lo T size v n c)(hb:Below W.heap.size W W'):jd W' lo T size v n c:=h.keep fun k hk=>hb.block k (h.own k hk).2
theorem jd.drew (h:jd W lo T size v n c):jd W.drew lo T size v n c:=h
theorem jd.alloc (h:jd W lo T size v n c)(o:Obj):jd (W.alloc o) lo T size v n c:=World.ownsRow.alloc h o
theorem jd.grown {row:Option Nat}(h:jd W lo T size v n c)(hg:W.grownBy W' row)(hne:v.ownBlock=none∨v.ownBlock≠row):jd W' lo T size v n c:=World.ownsRow.kept h hg hne
theorem jd.congr {d:Nat→Value}(h:jd W lo T size v n c)(hc:∀ j,j<n*size→c j=d j):jd W lo T size v n d:=by
 unfold jd at h ⊢
 rw [←WY hc]
 exact h
theorem jd.nil (W:World)(lo:Nat)(T:TypeId)(size:Nat)(c:Nat→Value):jd W lo T size (.slice none 0 0) 0 c:=⟨by simp [cl],.inl ⟨rfl,rfl⟩⟩
theorem jd.adA (W:World)(lo:Nat)(T:TypeId)(size:Nat)(c:Nat→Value)(hl:lo≤W.heap.size):jd (W.alloc (.cells #[] T)) lo T size (.slice (some ⟨W.heap.size,0,none⟩) 0 0) 0 c:=by
 have h:=World.ownsRow_made (e:=T) (size:=size) W #[] 0 hl (Nat.zero_le _) (by simp)
 unfold jd
 simpa [cl] using h
theorem abN {g o m:Nat}{c:Nat→Value}(h:∀ j,j<m→W.cell? ⟨g,o+j,none⟩=some (c j)):∀ j u,(cl c m)[j]? = some u→W.cell? ((⟨g,o,none⟩:Addr).add j)=some u:=by
 intro j u hu
 obtain ⟨hj,rfl⟩:=ab6 hu
 have hadd:(⟨g,o,none⟩:Addr).add j=⟨g,o+j,none⟩:=by unfold Addr.add;split <;> simp_all
 rw [hadd]
 exact h j hj
end
section
variable {P:Program}
theorem ZJ (W:World)(lo:Nat)(t ty T:TypeId)(i:TypeInfo)(z:Value)(size bytes:Nat)(ht:P.underlying t=some (.slice T))(hi:P.info? T=some i)(hz:i.zero=some z)
 (hsize:i.size=size) (hby:i.bytes=bytes) (hzs:z.cells.size=size) (hsz:0<size)
 (v:Value) (n:Nat) (c:Nat→Value) (hown:jd W lo T size v n c) (g o m k:Nat) (d:Nat→Value) (hd:∀ j,j<m*size→W.cell? ⟨g,o+j,none⟩=some (d j)) (h1:∀ j,j<m*size→(d j).oneCell'=true)
 (h63:n+m≤maxLen) (hbytes:(n+m)*bytes≤140737488355328) (hl:lo≤W.heap.size) :
 ∃ v' W',(Builtin.append_ #[t,t] ty #[v,.slice (some ⟨g,o,none⟩) m k]).run P W=.ok v' W'∧jd W' lo T size v' (n+m) (fun j=>if j<n*size then c j else d (j-n*size))∧Below lo W W'∧W.grownBy W' v.ownBlock ∧
  (v'.ownBlock=v.ownBlock∨v'.ownBlock=some W.heap.size):=by
 obtain ⟨v',W',hr,h2,h3,_,h5⟩:=run_append_own_at (P:=P) W lo t ty T i z size bytes ht hi hz hsize hby hzs hsz v n _ hown ⟨g,o,none⟩ m k (cl d (m*size)) (uS _ _) (abN hd)
  (fun u hu=>by obtain ⟨j,hj,rfl⟩:=ab5 hu;exact h1 j hj) h63 hbytes hl
 refine ⟨v',W',hr,?_,(Below.refl lo W).grown h3 hl (fun k hk=>(hown.own k hk).1),h3,h5⟩
 rw [RL] at h2
 unfold jd
 rw [Nat.add_mul]
 exact h2
end
section
variable {P:Program}
theorem dZ {ops:Array Oper}{rest:List Oper}{o:Oper}{a:Act}{W:World}{Q:Exit→Act→World→Prop}(hgd:o.guard=none)(s x:Operand)(t:TypeId)
 (ho:o.op=.call { callee:=.builtin .append,args:=#[s,x],argTypes:=#[t,t] }) {v y:Value} (hs:a.eval s=v) (hx:a.eval x=y)
 {v':Value} {W':World} (hr:(Builtin.append_ #[t,t] o.type #[v,y]).run P W=.ok v' W') (h:wpList P ops Q rest (a.put o.dst v') W'):wpList P ops Q (o::rest) a W:=by
 refine wpList_plain hgd fun K hK=>?_
 unfold Oper.wp execOp
 simp only [ho,resolve,invoke,builtin,Sem.run_bind,Sem.run_pure,Result.andThen_ok,List.map_toArray,List.map_cons,List.map_nil,hs,hx,hr]
 exact hK _ _ h
theorem iy {ops:Array Oper}{o:Oper}{a:Act}{W:World}{K:Act→World→Prop}{Q:Exit→Act→World→Prop}{E:Prop}(hgd:o.guard=none)(s x:Operand)(t:TypeId)
 (ho:o.op=.call { callee:=.builtin .append,args:=#[s,x],argTypes:=#[t,t] }) {v y:Value} (hs:a.eval s=v) (hx:a.eval x=y)
 {v':Value} {W':World} (hr:(Builtin.append_ #[t,t] o.type #[v,y]).run P W=.ok v' W') (h:K (a.put o.dst v') W') :
 if Region.wanted o (yielded ops a.tmps)=true then Oper.wp P o a W K Q else E:=by
 have hw:Region.wanted o (yielded ops a.tmps)=true:=by simp [Region.wanted,hgd]
 rw [if_pos hw]
 unfold Oper.wp execOp
 simp only [ho,resolve,invoke,builtin,Sem.run_bind,Sem.run_pure,Result.andThen_ok,List.map_toArray,List.map_cons,List.map_nil,hs,hx,hr]
 exact h
end
end
end Go.Proofs.YtlhfiapfncikdaaGreatDoor.bN
section
namespace Go.Proofs.YtlhfiapfncikdaaGreatDoor.bQ
open Go.RowKit
structure KS (w:World)(base:Nat)(L:List (Nat×Nat×Value))(W:World):Prop where
 cells:∀ x∈L,W.cell? ⟨x.1,x.2.1,none⟩=some x.2.2
 low:∀ x∈L,x.1<base
 size:base≤W.heap.size
 below:Below w.heap.size w W
 base:w.heap.size≤base
variable {w W W1:World}{base:Nat}{L:List (Nat×Nat×Value)}
theorem KS.call (h:KS w base L W)(hb:Below W.heap.size W W1):KS w base L W1:=
 ⟨fun x hx=>(hb.cell (p:=⟨x.1,x.2.1,none⟩) (Nat.lt_of_lt_of_le (h.low x hx) h.size)).trans (h.cells x hx),h.low,Nat.le_trans h.size hb.size,h.below.trans (hb.mono (Nat.le_trans h.base h.size)),h.base⟩
theorem KS.alloc (h:KS w base L W)(o:Obj):KS w base L (W.alloc o):=h.call ((Below.refl _ _).alloc (Nat.le_refl _) o)
theorem KS.drew (h:KS w base L W):KS w base L W.drew:=h.call (Below.refl _ _).drew
theorem KS.set (h:KS w base L W){b o:Nat}(hb:base≤b)(v:Value):KS w base L (W.setCell ⟨b,o,none⟩ v):=by
 refine ⟨fun x hx=>?_,h.low,by simpa using h.size,h.below.setCell (Nat.le_trans h.base hb) v,h.base⟩
 have hn:(⟨b,o,none⟩:Addr)≠⟨x.1,x.2.1,none⟩:=fun e=>by have:=h.low x hx;injection e;omega
 rw [World.cell?_setCell_other _ _ _ _ hn]
 exact h.cells x hx
theorem KS.nil (w:World):KS w w.heap.size [] w:=⟨fun x hx=>(by cases hx),fun x hx=>(by cases hx),Nat.le_refl _,Below.refl _ _,Nat.le_refl _⟩
theorem KS.push {M:List (Nat×Nat×Value)}{g:Nat}(h:KS w base L W)(hg:base≤g)(hG:g<W.heap.size)(hM:∀ x∈M,x.1=g∧W.cell? ⟨x.1,x.2.1,none⟩=some x.2.2):KS w (g+1) (L++M) W:=by
 refine ⟨fun x hx=>?_,fun x hx=>?_,hG,h.below,Nat.le_trans h.base (Nat.le_succ_of_le hg)⟩
 ·rcases List.mem_append.1 hx with hx | hx
  ·exact h.cells x hx
  ·exact (hM x hx).2
 ·rcases List.mem_append.1 hx with hx | hx
  ·exact Nat.lt_succ_of_lt (Nat.lt_of_lt_of_le (h.low x hx) hg)
  ·exact Nat.lt_succ_of_le (Nat.le_of_eq (hM x hx).1)
theorem KS.at (h:KS w base L W){b o:Nat}{v:Value}(hx:(b,o,v)∈L):W.cell? ⟨b,o,none⟩=some v:=h.cells _ hx
theorem rules (hb:Below W.heap.size W W1):(∀ b o,b<W.heap.size→W1.cell? ⟨b,o,none⟩=W.cell? ⟨b,o,none⟩)∧(∀ b o,b<W.heap.size→W1.frozen? ⟨b,o,none⟩=W.frozen? ⟨b,o,none⟩) ∧
 (∀ n,n<W.heap.size→n<W1.heap.size)∧(∀ n,n<W.heap.size→n≤W1.heap.size):=
 ⟨fun b o h=>hb.cell (p:=⟨b,o,none⟩) h,fun b o h=>hb.frozen (p:=⟨b,o,none⟩) h,fun _ h=>Nat.lt_of_lt_of_le h hb.size,fun _ h=>Nat.le_of_lt (Nat.lt_of_lt_of_le h hb.size)⟩
theorem join {V W W1:World}(h:Below V.heap.size V W)(k:Below W.heap.size W W1):Below V.heap.size V W1:=h.trans (k.mono h.size)
theorem kG {V W W1:World}{o:Obj}(h:Below V.heap.size V W)(k:Below (W.alloc o).heap.size (W.alloc o) W1):Below V.heap.size V W1:=join (h.alloc h.size o) k
theorem lU {V W W1:World}(h:Below V.heap.size V W)(k:Below W.drew.heap.size W.drew W1):Below V.heap.size V W1:=join h.drew k
end Go.Proofs.YtlhfiapfncikdaaGreatDoor.bQ
namespace Go.Proofs.YtlhfiapfncikdaaGreatDoor
open Go.RowKit
theorem ak {p:Prop}(h:p):Go.RowKit.Hid p:=h
abbrev bV:=@Nat.lt_of_lt_of_le
abbrev bK:=@Nat.le_refl
abbrev aW:=@Below.refl
abbrev eu:=@Int.natCast_nonneg
abbrev dS:=@decide_eq_false
abbrev eD:=@decide_eq_true
abbrev eF:=@Nat.le_trans
abbrev dV:=@Nat.zero_le
abbrev dX:=@wp_region_held_drew
abbrev qC:=@bodyPost_ret
abbrev jH:=@Nat.lt_irrefl
abbrev gK:=@IntWalk.i64_in
abbrev zq12:=@List.getElem?_eq_some_iff
abbrev zq13:=@beq_eq_false_iff_ne
abbrev fC:=@Option.some.inj
abbrev iF:=@Nat.lt_trans
abbrev gZ:=@Nat.not_lt_zero
theorem Gg {a0 a1 a2 a3 a4 a5 a6 a7:Prop}(h:a0∧a1∧a2∧a3∧a4∧a5∧a6∧a7):a7:=h.2.2.2.2.2.2.2
theorem qG {a0 a1 a2 a3 a4 a5 a6 a7 a8:Prop}(h:a0∧a1∧a2∧a3∧a4∧a5∧a6∧a7∧a8):a8:=h.2.2.2.2.2.2.2.2
theorem kZ {a0 a1 a2 a3 a4 a5 a6 a7 a8 a9:Prop}(h:a0∧a1∧a2∧a3∧a4∧a5∧a6∧a7∧a8∧a9):a9:=h.2.2.2.2.2.2.2.2.2
theorem iX {a0 a1 a2 a3 a4 a5 a6 a7 a8 a9 o9:Prop}(h:a0∧a1∧a2∧a3∧a4∧a5∧a6∧a7∧a8∧a9∧o9):o9:=h.2.2.2.2.2.2.2.2.2.2
theorem TP {a0 a1 a2 a3 a4 a5 a6 a7 a8 a9 o9 qo:Prop}(h:a0∧a1∧a2∧a3∧a4∧a5∧a6∧a7∧a8∧a9∧o9∧qo):qo:=h.2.2.2.2.2.2.2.2.2.2.2
theorem adq {a0 a1 a2 a3 a4 a5 a6 a7 a8 a9 o9 qo a12:Prop}(h:a0∧a1∧a2∧a3∧a4∧a5∧a6∧a7∧a8∧a9∧o9∧qo∧a12):a12:=h.2.2.2.2.2.2.2.2.2.2.2.2
theorem adp {a0 a1 a2 a3 a4 a5 a6 a7 a8 a9 o9 qo a12 rJ:Prop}(h:a0∧a1∧a2∧a3∧a4∧a5∧a6∧a7∧a8∧a9∧o9∧qo∧a12∧rJ):rJ:=h.2.2.2.2.2.2.2.2.2.2.2.2.2
theorem ado {a0 a1 a2 a3 a4 a5 a6 a7 a8 a9 o9 qo a12 rJ sQ:Prop}(h:a0∧a1∧a2∧a3∧a4∧a5∧a6∧a7∧a8∧a9∧o9∧qo∧a12∧rJ∧sQ):sQ:=h.2.2.2.2.2.2.2.2.2.2.2.2.2.2
theorem adn {a0 a1 a2 a3 a4 a5 a6 a7 a8 a9 o9 qo a12 rJ sQ vG:Prop}(h:a0∧a1∧a2∧a3∧a4∧a5∧a6∧a7∧a8∧a9∧o9∧qo∧a12∧rJ∧sQ∧vG):vG:=h.2.2.2.2.2.2.2.2.2.2.2.2.2.2.2
theorem adl {a0 a1 a2 a3 a4 a5 a6 a7 a8 a9 o9 qo a12 rJ sQ vG a16:Prop}(h:a0∧a1∧a2∧a3∧a4∧a5∧a6∧a7∧a8∧a9∧o9∧qo∧a12∧rJ∧sQ∧vG∧a16):a16:=h.2.2.2.2.2.2.2.2.2.2.2.2.2.2.2.2
theorem adk {a0 a1 a2 a3 a4 a5 a6 a7 a8 a9 o9 qo a12 rJ sQ vG a16 a17:Prop}(h:a0∧a1∧a2∧a3∧a4∧a5∧a6∧a7∧a8∧a9∧o9∧qo∧a12∧rJ∧sQ∧vG∧a16∧a17):a17:=h.2.2.2.2.2.2.2.2.2.2.2.2.2.2.2.2.2
theorem adj {a0 a1 a2 a3 a4 a5 a6 a7 a8 a9 o9 qo a12 rJ sQ vG a16 a17 zP:Prop}(h:a0∧a1∧a2∧a3∧a4∧a5∧a6∧a7∧a8∧a9∧o9∧qo∧a12∧rJ∧sQ∧vG∧a16∧a17∧zP):zP:=h.2.2.2.2.2.2.2.2.2.2.2.2.2.2.2.2.2.2
theorem adi {a0 a1 a2 a3 a4 a5 a6 a7 a8 a9 o9 qo a12 rJ sQ vG a16 a17 zP Cy:Prop}(h:a0∧a1∧a2∧a3∧a4∧a5∧a6∧a7∧a8∧a9∧o9∧qo∧a12∧rJ∧sQ∧vG∧a16∧a17∧zP∧Cy):Cy:=h.2.2.2.2.2.2.2.2.2.2.2.2.2.2.2.2.2.2.2
theorem adh {a0 a1 a2 a3 a4 a5 a6 a7 a8 a9 o9 qo a12 rJ sQ vG a16 a17 zP Cy a20:Prop}(h:a0∧a1∧a2∧a3∧a4∧a5∧a6∧a7∧a8∧a9∧o9∧qo∧a12∧rJ∧sQ∧vG∧a16∧a17∧zP∧Cy∧a20):a20:=h.2.2.2.2.2.2.2.2.2.2.2.2.2.2.2.2.2.2.2.2
theorem adg {a0 a1 a2 a3 a4 a5 a6 a7 a8 a9 o9 qo a12 rJ sQ vG a16 a17 zP Cy a20 a21:Prop}(h:a0∧a1∧a2∧a3∧a4∧a5∧a6∧a7∧a8∧a9∧o9∧qo∧a12∧rJ∧sQ∧vG∧a16∧a17∧zP∧Cy∧a20∧a21):a21:=h.2.2.2.2.2.2.2.2.2.2.2.2.2.2.2.2.2.2.2.2.2
theorem adf {a0 a1 a2 a3 a4 a5 a6 a7 a8 a9 o9 qo a12 rJ sQ vG a16 a17 zP Cy a20 a21 a22:Prop}(h:a0∧a1∧a2∧a3∧a4∧a5∧a6∧a7∧a8∧a9∧o9∧qo∧a12∧rJ∧sQ∧vG∧a16∧a17∧zP∧Cy∧a20∧a21∧a22):a22:=h.2.2.2.2.2.2.2.2.2.2.2.2.2.2.2.2.2.2.2.2.2.2
theorem ade {a0 a1 a2 a3 a4 a5 a6 a7 a8 a9 o9 qo a12 rJ sQ vG a16 a17 zP Cy a20 a21 a22 a23:Prop}(h:a0∧a1∧a2∧a3∧a4∧a5∧a6∧a7∧a8∧a9∧o9∧qo∧a12∧rJ∧sQ∧vG∧a16∧a17∧zP∧Cy∧a20∧a21∧a22∧a23):a23:=h.2.2.2.2.2.2.2.2.2.2.2.2.2.2.2.2.2.2.2.2.2.2.2
theorem adb {a0 a1 a2 a3 a4 a5 a6 a7 a8 a9 o9 qo a12 rJ sQ vG a16 a17 zP Cy a20 a21 a22 a23 a24:Prop}(h:a0∧a1∧a2∧a3∧a4∧a5∧a6∧a7∧a8∧a9∧o9∧qo∧a12∧rJ∧sQ∧vG∧a16∧a17∧zP∧Cy∧a20∧a21∧a22∧a23∧a24):a24:=h.2.2.2.2.2.2.2.2.2.2.2.2.2.2.2.2.2.2.2.2.2.2.2.2
theorem ada {a0 a1 a2 a3 a4 a5 a6 a7 a8 a9 o9 qo a12 rJ sQ vG a16 a17 zP Cy a20 a21 a22 a23 a24 a25:Prop}(h:a0∧a1∧a2∧a3∧a4∧a5∧a6∧a7∧a8∧a9∧o9∧qo∧a12∧rJ∧sQ∧vG∧a16∧a17∧zP∧Cy∧a20∧a21∧a22∧a23∧a24∧a25):a25:=h.2.2.2.2.2.2.2.2.2.2.2.2.2.2.2.2.2.2.2.2.2.2.2.2.2
theorem ac9 {a0 a1 a2 a3 a4 a5 a6 a7 a8 a9 o9 qo a12 rJ sQ vG a16 a17 zP Cy a20 a21 a22 a23 a24 a25 a26:Prop}(h:a0∧a1∧a2∧a3∧a4∧a5∧a6∧a7∧a8∧a9∧o9∧qo∧a12∧rJ∧sQ∧vG∧a16∧a17∧zP∧Cy∧a20∧a21∧a22∧a23∧a24∧a25∧a26):a26:=h.2.2.2.2.2.2.2.2.2.2.2.2.2.2.2.2.2.2.2.2.2.2.2.2.2.2
theorem ac8 {a0 a1 a2 a3 a4 a5 a6 a7 a8 a9 o9 qo a12 rJ sQ vG a16 a17 zP Cy a20 a21 a22 a23 a24 a25 a26 a27:Prop}(h:a0∧a1∧a2∧a3∧a4∧a5∧a6∧a7∧a8∧a9∧o9∧qo∧a12∧rJ∧sQ∧vG∧a16∧a17∧zP∧Cy∧a20∧a21∧a22∧a23∧a24∧a25∧a26∧a27):a27:=h.2.2.2.2.2.2.2.2.2.2.2.2.2.2.2.2.2.2.2.2.2.2.2.2.2.2.2
theorem fV {a0 a1 a2 a3 a4 a5 a6 a7 a8 a9 o9 qo a12 rJ sQ vG a16 a17 zP Cy a20 a21 a22 a23 a24 a25 a26 a27 a28:Prop}(h:a0∧a1∧a2∧a3∧a4∧a5∧a6∧a7∧a8∧a9∧o9∧qo∧a12∧rJ∧sQ∧vG∧a16∧a17∧zP∧Cy∧a20∧a21∧a22∧a23∧a24∧a25∧a26∧a27∧a28):a28:=h.2.2.2.2.2.2.2.2.2.2.2.2.2.2.2.2.2.2.2.2.2.2.2.2.2.2.2.2
theorem Nb {a0 a1 a2 a3 a4 a5 a6 a7 a8 a9 o9 qo a12 rJ sQ vG a16 a17 zP Cy a20 a21 a22 a23 a24 a25 a26 a27 a28 a29:Prop}(h:a0∧a1∧a2∧a3∧a4∧a5∧a6∧a7∧a8∧a9∧o9∧qo∧a12∧rJ∧sQ∧vG∧a16∧a17∧zP∧Cy∧a20∧a21∧a22∧a23∧a24∧a25∧a26∧a27∧a28∧a29):a29:=h.2.2.2.2.2.2.2.2.2.2.2.2.2.2.2.2.2.2.2.2.2.2.2.2.2.2.2.2.2
end Go.Proofs.YtlhfiapfncikdaaGreatDoor
end
namespace Go.Proofs.YtlhfiapfncikdaaGreatDoor.bO
section
open Go.RowKit bN
def Rg (lo hi k:Nat):Prop:=lo≤k∧k<hi
structure Off (S:Nat→Prop)(w w':World):Prop where
 os:w'.os=w.os
 tape:w'.tape=w.tape
 output:w'.output=w.output
 size:w.heap.size≤w'.heap.size
 block:∀ k,k<w.heap.size→¬S k→w'.heap[k]? = w.heap[k]?
theorem Off.refl (S:Nat→Prop)(w:World):Off S w w:=⟨rfl,rfl,rfl,bK _,fun _ _ _=>rfl⟩
theorem Off.trans {S:Nat→Prop}{a b c:World}(h:Off S a b)(k:Off S b c):Off S a c:=
 ⟨k.os.trans h.os,k.tape.trans h.tape,k.output.trans h.output,eF h.size k.size,fun i hi hs=>(k.block i (bV hi h.size) hs).trans (h.block i hi hs)⟩
theorem Off.drew {S:Nat→Prop}{a w:World}(h:Off S a w):Off S a w.drew:=⟨h.os,h.tape,h.output,h.size,h.block⟩
theorem Off.alloc {S:Nat→Prop}{a w:World}(h:Off S a w)(o:Obj):Off S a (w.alloc o):=h.trans ⟨rfl,rfl,rfl,by simp,fun _ hk _=>Below.heap_alloc _ _ _ hk⟩
theorem Off.setCell {S:Nat→Prop}{a w:World}(h:Off S a w){p:Addr}(hp:S p.block)(u:Value):Off S a (w.setCell p u):=
 h.trans ⟨rfl,rfl,rfl,by simp [World.setCell],fun _ _ hs=>Below.heap_setCell _ _ _ _ (fun e=>hs (e ▸ hp))⟩
theorem Off.of_below {S:Nat→Prop}{a w w':World}(h:Off S a w)(k:Below w.heap.size w w'):Off S a w':=h.trans ⟨k.os,k.tape,k.output,k.size,fun i hi _=>k.block i hi⟩
theorem Off.below {S:Nat→Prop}{B:Nat}{w w':World}(h:Off S w w')(hB:B≤w.heap.size)(hS:∀ k,S k→B≤k):Below B w w':=
 ⟨h.os,h.tape,h.output,h.size,fun k hk=>h.block k (by omega) (fun hs=>by have:=hS k hs;omega)⟩
theorem Off.more {S T:Nat→Prop}{w w':World}(h:Off S w w')(hST:∀ k,S k→T k):Off T w w':=⟨h.os,h.tape,h.output,h.size,fun k hk ht=>h.block k hk (fun hs=>ht (hST k hs))⟩
section
variable {W W':World}{S T:Nat→Prop}{v:Value}{n size:Nat}{c d:Nat→Value}
end
def sS (b:Bool)(w:World)(e:Ending)(w':World):Prop:=e=.returned (.bool b)∧Below w.heap.size w w'
theorem bU {b:Bool}{w:World}{e:Ending}{w':World}(h:sS b w e w'):e=.returned (.bool b)∧Below w.heap.size w w':=h
end
end Go.Proofs.YtlhfiapfncikdaaGreatDoor.bO
namespace Go.Proofs.YtlhfiapfncikdaaGreatDoor.aQ
section
open Go.RowKit bN bO
def aR (W:World)(g o:Nat)(cs:List Value):Prop:=∀ j c,cs[j]? = some c→W.cell? ⟨g,o+j,none⟩=some c
theorem aR.keep {W W':World}{g o:Nat}{cs:List Value}(h:aR W g o cs)(hb:W'.heap[g]? = W.heap[g]?):aR W' g o cs:=fun j c hc=>(World.cell?_of_block (a:=⟨g,o+j,none⟩) hb).trans (h j c hc)
theorem aR.app {W:World}{g o:Nat}{cs ds:List Value}:aR W g o (cs++ds)↔aR W g o cs∧aR W g (o+cs.length) ds:=by
 constructor
 ·intro h
  refine ⟨fun j c hc=>h j c ?_,fun j c hc=>?_⟩
  ·have hj:=(List.getElem?_eq_some_iff.1 hc).1
   rw [List.getElem?_append_left hj];exact hc
  ·have:=h (cs.length+j) c (by rw [List.getElem?_append_right (by omega)];simpa using hc)
   rw [Nat.add_assoc]
   exact this
 ·rintro ⟨h1,h2⟩ j c hc
  by_cases hj:j<cs.length
  ·rw [List.getElem?_append_left hj] at hc;exact h1 j c hc
  ·rw [List.getElem?_append_right (by omega)] at hc
   have:=h2 _ c hc
   rw [show o+cs.length+(j-cs.length)=o+j by omega] at this
   exact this
theorem aR.cons {W:World}{g o:Nat}{c:Value}{ds:List Value}:aR W g o (c::ds)↔W.cell? ⟨g,o,none⟩=some c∧aR W g (o+1) ds:=by
 constructor
 ·intro h
  refine ⟨h 0 c rfl,fun j d hd=>?_⟩
  have:=h (j+1) d (by simpa using hd)
  rw [show o+(j+1)=o+1+j by omega] at this
  exact this
 ·rintro ⟨h1,h2⟩ j d hd
  cases j with
  | zero=>simp at hd;subst hd;exact h1
  | succ j=>
   have:=h2 j d (by simpa using hd)
   rw [show o+1+j=o+(j+1) by omega] at this
   exact this
theorem aR.nil {W:World}{g o:Nat}:aR W g o []:=fun j c hc=>by simp at hc
structure Rp (α:Type) where
 size:Nat
 rd:World→Nat→α→List Value→Prop
 ow:World→(Nat→Prop)→α→List Value→Prop
 mm:α→Int→Int→Prop
 mv:α→Int→Int→Prop
 cm:α→Nat
 cv:α→Nat
 sz:α→Nat
structure Ok {α:Type}(E:Rp α):Prop where
 qW:∀ {W B d cs},E.rd W B d cs→cs.length=E.size
 jG:∀ {W S d cs},E.ow W S d cs→cs.length=E.size
 fG:∀ {W W' B d cs},E.rd W B d cs→Below B W W'→E.rd W' B d cs
 jy:∀ {W B B' d cs},E.rd W B d cs→B≤B'→E.rd W B' d cs
 bT:∀ {W W'} {S:Nat→Prop} {d cs},E.ow W S d cs→(∀ k,S k→W'.heap[k]? = W.heap[k]?)→E.ow W' S d cs
 pU:∀ {W} {S T:Nat→Prop} {d cs},E.ow W S d cs→(∀ k,S k→T k)→E.ow W T d cs
 qA:∀ {W} {S:Nat→Prop} {B d cs},E.ow W S d cs→(∀ k,S k→k<B)→E.rd W B d cs
 one:∀ {W B d cs},E.rd W B d cs→∀ u∈cs,u.oneCell'=true
def atom {α:Type}(f:α→Value)(mm:α→Int→Int→Prop)(sz:α→Nat):Rp α:={ size:=1,rd:=fun _ _ d cs=>cs = [f d],ow:=fun _ _ d cs=>cs = [f d],mm:=mm,mv:=fun _ k k'=>k'=k,cm:=fun _=>1,cv:=fun _=>0,sz:=sz }
theorem aan {α:Type}(f:α→Value)(mm:α→Int→Int→Prop)(sz:α→Nat)(h1:∀ d,(f d).oneCell'=true):Ok (atom f mm sz) where
 qW h:=by rw [show _ = [f _] from h];rfl
 jG h:=by rw [show _ = [f _] from h];rfl
 fG h _:=h
 jy h _:=h
 bT h _:=h
 pU h _:=h
 qA h _:=h
 one h u hu:=by rw [show _ = [f _] from h] at hu;simp at hu;subst hu;exact h1 _
def I:Rp Int:=atom (fun n=>.int .i64 n) (fun d k k'=>d=k∧k'=k+1) (fun _=>0)
theorem cK:Ok I:=aan _ _ _ fun _=>rfl
def Bo:Rp Bool:={ atom (fun b=>.bool b) (fun _ k k'=>k'=k) (fun _=>0) with cm:=fun _=>0 }
def Pr {α β:Type}(E:Rp α)(F:Rp β):Rp (α × β) where
 size:=E.size+F.size
 rd W B d cs:=∃ us vs,cs=us++vs∧E.rd W B d.1 us∧F.rd W B d.2 vs
 ow W S d cs:=∃ us vs,∃ S1 S2:Nat→Prop,cs=us++vs∧(∀ k,S1 k→S k)∧(∀ k,S2 k→S k)∧(∀ k,S1 k→¬S2 k)∧E.ow W S1 d.1 us∧F.ow W S2 d.2 vs
 mm d k k':=∃ k1,E.mm d.1 k k1∧F.mm d.2 k1 k'
 mv d k k':=∃ k1,E.mv d.1 k k1∧F.mv d.2 k1 k'
 cm d:=E.cm d.1+F.cm d.2
 cv d:=E.cv d.1+F.cv d.2
 sz d:=E.sz d.1+F.sz d.2
theorem gP {α β:Type}{E:Rp α}{F:Rp β}(hE:Ok E)(hF:Ok F):Ok (Pr E F) where
 qW h:=by obtain ⟨us,vs,rfl,h1,h2⟩:=h;rw [List.length_append,hE.qW h1,hF.qW h2];rfl
 jG h:=by obtain ⟨us,vs,_,_,rfl,_,_,_,h1,h2⟩:=h;rw [List.length_append,hE.jG h1,hF.jG h2];rfl
 fG h hb:=by obtain ⟨us,vs,rfl,h1,h2⟩:=h;exact ⟨us,vs,rfl,hE.fG h1 hb,hF.fG h2 hb⟩
 jy h hb:=by obtain ⟨us,vs,rfl,h1,h2⟩:=h;exact ⟨us,vs,rfl,hE.jy h1 hb,hF.jy h2 hb⟩
 bT h hb:=by
  obtain ⟨us,vs,S1,S2,rfl,a,b,c,h1,h2⟩:=h
  exact ⟨us,vs,S1,S2,rfl,a,b,c,hE.bT h1 (fun k hk=>hb k (a k hk)),hF.bT h2 (fun k hk=>hb k (b k hk))⟩
 pU h hT:=by
  obtain ⟨us,vs,S1,S2,rfl,a,b,c,h1,h2⟩:=h
  exact ⟨us,vs,S1,S2,rfl,fun k hk=>hT k (a k hk),fun k hk=>hT k (b k hk),c,h1,h2⟩
 qA h hB:=by
  obtain ⟨us,vs,S1,S2,rfl,a,b,c,h1,h2⟩:=h
  exact ⟨us,vs,rfl,hE.qA h1 (fun k hk=>hB k (a k hk)),hF.qA h2 (fun k hk=>hB k (b k hk))⟩
 one h u hu:=by
  obtain ⟨us,vs,rfl,h1,h2⟩:=h
  rcases List.mem_append.1 hu with h | h
  ·exact hE.one h1 u h
  ·exact hF.one h2 u h
def aJ {α:Type}(E:Rp α)(W:World)(B:Nat)(L:List α)(a:Option Addr)(cap:Nat):Prop:=
 L.length≤cap∧cap≤maxLen∧(0<L.length→∃ g o,a=some ⟨g,o,none⟩∧g<B∧∀ i x,L[i]? = some x→∃ us,aR W g (o+i*E.size) us∧E.rd W B x us)
def bH {α:Type}(E:Rp α)(W:World)(S:Nat→Prop)(L:List α)(a:Option Addr)(cap:Nat):Prop:=
 L.length≤cap∧cap≤maxLen∧(0<L.length→∃ g,∃ Sf:Nat→Nat→Prop,a=some ⟨g,0,none⟩∧S g∧(∀ j,W.frozen? ⟨g,j,none⟩=false)∧(∀ i k,Sf i k→S k∧k≠g)∧(∀ i j k,i<j→Sf i k→¬Sf j k) ∧
  ∀ i x,L[i]? = some x→∃ us,aR W g (i*E.size) us∧E.ow W (Sf i) x us)
def jC {α:Type}(E:Rp α):List α→Int→Int→Prop
 | [],k,k'=>k'=k
 | x::xs,k,k'=>∃ k1,E.mm x k k1∧jC E xs k1 k'
def bD {α:Type}(f:α→Nat):List α→Nat
 | []=>0
 | x::xs=>f x+bD f xs
def Sl {α:Type}(E:Rp α):Rp (List α) where
 size:=1
 rd W B L cs:=∃ a cap,cs = [.slice a L.length cap]∧aJ E W B L a cap
 ow W S L cs:=∃ a cap,cs = [.slice a L.length cap]∧bH E W S L a cap
 mm:=jC E
 mv:=jC E
 cm:=bD E.cm
 cv:=bD E.cm
 sz L:=L.length+bD E.sz L
theorem aJ.below {α:Type}{E:Rp α}(hE:Ok E){W W':World}{B:Nat}{L:List α}{a:Option Addr}{cap:Nat}(h:aJ E W B L a cap)(hb:Below B W W'):aJ E W' B L a cap:=by
 obtain ⟨h1,h2,h3⟩:=h
 refine ⟨h1,h2,fun hn=>?_⟩
 obtain ⟨g,o,ha,hg,hc⟩:=h3 hn
 refine ⟨g,o,ha,hg,fun i x hx=>?_⟩
 obtain ⟨us,hu,hr⟩:=hc i x hx
 exact ⟨us,hu.keep (hb.block g hg),hE.fG hr hb⟩
theorem aJ.more {α:Type}{E:Rp α}(hE:Ok E){W:World}{B B':Nat}{L:List α}{a:Option Addr}{cap:Nat}(h:aJ E W B L a cap)(hb:B≤B'):aJ E W B' L a cap:=by
 obtain ⟨h1,h2,h3⟩:=h
 refine ⟨h1,h2,fun hn=>?_⟩
 obtain ⟨g,o,ha,hg,hc⟩:=h3 hn
 refine ⟨g,o,ha,bV hg hb,fun i x hx=>?_⟩
 obtain ⟨us,hu,hr⟩:=hc i x hx
 exact ⟨us,hu,hE.jy hr hb⟩
theorem bH.keep {α:Type}{E:Rp α}(hE:Ok E){W W':World}{S:Nat→Prop}{L:List α}{a:Option Addr}{cap:Nat}(h:bH E W S L a cap)(hb:∀ k,S k→W'.heap[k]? = W.heap[k]?):bH E W' S L a cap:=by
 obtain ⟨h1,h2,h3⟩:=h
 refine ⟨h1,h2,fun hn=>?_⟩
 obtain ⟨g,Sf,ha,hg,hf,hs,hd,hc⟩:=h3 hn
 refine ⟨g,Sf,ha,hg,fun j=>(World.frozen?_of_block (a:=⟨g,j,none⟩) (hb g hg)).trans (hf j),hs,hd,fun i x hx=>?_⟩
 obtain ⟨us,hu,hr⟩:=hc i x hx
 exact ⟨us,hu.keep (hb g hg),hE.bT hr (fun k hk=>hb k (hs i k hk).1)⟩
theorem bH.more {α:Type}{E:Rp α}{W:World}{S T:Nat→Prop}{L:List α}{a:Option Addr}{cap:Nat}(h:bH E W S L a cap)(hT:∀ k,S k→T k):bH E W T L a cap:=by
 obtain ⟨h1,h2,h3⟩:=h
 refine ⟨h1,h2,fun hn=>?_⟩
 obtain ⟨g,Sf,ha,hg,hf,hs,hd,hc⟩:=h3 hn
 exact ⟨g,Sf,ha,hT g hg,hf,fun i k hk=>⟨hT k (hs i k hk).1,(hs i k hk).2⟩,hd,hc⟩
theorem bH.rd {α:Type}{E:Rp α}(hE:Ok E){W:World}{S:Nat→Prop}{B:Nat}{L:List α}{a:Option Addr}{cap:Nat}(h:bH E W S L a cap)(hB:∀ k,S k→k<B):aJ E W B L a cap:=by
 obtain ⟨h1,h2,h3⟩:=h
 refine ⟨h1,h2,fun hn=>?_⟩
 obtain ⟨g,Sf,ha,hg,hf,hs,hd,hc⟩:=h3 hn
 refine ⟨g,0,ha,hB g hg,fun i x hx=>?_⟩
 obtain ⟨us,hu,hr⟩:=hc i x hx
 exact ⟨us,by rw [Nat.zero_add];exact hu,hE.qA hr (fun k hk=>hB k (hs i k hk).1)⟩
theorem aZ {α:Type}{E:Rp α}(hE:Ok E):Ok (Sl E) where
 qW h:=by obtain ⟨a,cap,rfl,_⟩:=h;rfl
 jG h:=by obtain ⟨a,cap,rfl,_⟩:=h;rfl
 fG h hb:=by obtain ⟨a,cap,rfl,h⟩:=h;exact ⟨a,cap,rfl,h.below hE hb⟩
 jy h hb:=by obtain ⟨a,cap,rfl,h⟩:=h;exact ⟨a,cap,rfl,h.more hE hb⟩
 bT h hb:=by obtain ⟨a,cap,rfl,h⟩:=h;exact ⟨a,cap,rfl,h.keep hE hb⟩
 pU h hT:=by obtain ⟨a,cap,rfl,h⟩:=h;exact ⟨a,cap,rfl,h.more hT⟩
 qA h hB:=by obtain ⟨a,cap,rfl,h⟩:=h;exact ⟨a,cap,rfl,h.rd hE hB⟩
 one h u hu:=by obtain ⟨a,cap,rfl,h⟩:=h;simp at hu;subst hu;rfl
theorem aJ.at_ {α:Type}{E:Rp α}{W:World}{B:Nat}{L:List α}{a:Option Addr}{cap:Nat}(h:aJ E W B L a cap){i:Nat}{x:α}(hx:L[i]? = some x) :
 ∃ g o us,a=some ⟨g,o,none⟩∧g<B∧aR W g (o+i*E.size) us∧E.rd W B x us:=by
 have hi:=(List.getElem?_eq_some_iff.1 hx).1
 obtain ⟨g,o,ha,hg,hc⟩:=h.2.2 (by omega)
 obtain ⟨us,hu,hr⟩:=hc i x hx
 exact ⟨g,o,us,ha,hg,hu,hr⟩
theorem OO {α:Type}{E:Rp α}:∀ {L M:List α}{k k' k'':Int},jC E L k k'→jC E M k' k''→jC E (L++M) k k''
 | [],M,k,k',k'',h,h'=>by simp only [jC] at h;subst h;exact h'
 | x::xs,M,k,k',k'',⟨k1,h1,h2⟩,h'=>⟨k1,h1,OO h2 h'⟩
theorem Bj {α:Type}(f:α→Nat):∀ (L M:List α),bD f (L++M)=bD f L+bD f M
 | [],M=>by simp [bD]
 | x::xs,M=>by simp only [List.cons_append,bD,Bj f xs M];omega
theorem VH {α:Type}(f:α→Nat)(x:α):bD f [x]=f x:=by simp [bD]
def putCells (W:World)(g:Nat):Nat→List Value→World
 | _,[]=>W
 | o,c::cs=>putCells (W.setCell ⟨g,o,none⟩ c) g (o+1) cs
theorem kJ (g:Nat):∀ (cs:List Value)(W:World)(o:Nat),(putCells W g o cs).heap.size=W.heap.size
 | [],_,_=>rfl
 | c::cs,W,o=>by simp only [putCells];rw [kJ g cs];simp [World.setCell]
theorem aH (g:Nat)(p:Addr):∀ (cs:List Value)(W:World)(o:Nat),(putCells W g o cs).frozen? p=W.frozen? p
 | [],_,_=>rfl
 | c::cs,W,o=>by simp only [putCells];rw [aH g p cs];simp
theorem gH (g:Nat){k:Nat}(hk:k≠g):∀ (cs:List Value)(W:World)(o:Nat),(putCells W g o cs).heap[k]? = W.heap[k]?
 | [],_,_=>rfl
 | c::cs,W,o=>by simp only [putCells];rw [gH g hk cs];exact Below.heap_setCell _ _ _ _ hk
theorem dO (g:Nat):∀ (cs:List Value)(W:World)(o:Nat),Off (fun x=>x=g) W (putCells W g o cs)
 | [],W,_=>Off.refl _ _
 | c::cs,W,o=>by simp only [putCells];exact (Off.setCell (S:=fun x=>x=g) (p:=⟨g,o,none⟩) (Off.refl _ W) rfl c).trans (dO g cs _ _)
theorem bF (g:Nat){j:Nat}:∀ (cs:List Value)(W:World)(o:Nat),(j<o∨o+cs.length≤j)→(putCells W g o cs).cell? ⟨g,j,none⟩=W.cell? ⟨g,j,none⟩
 | [],_,_,_=>rfl
 | c::cs,W,o,h=>by
  simp only [List.length_cons] at h
  simp only [putCells]
  rw [bF g cs _ _ (by omega),World.cell?_setCell_other _ _ _ _ (fun e=>by injection e with _ e2;omega)]
theorem dn (g:Nat):∀ (cs:List Value)(W:World)(o:Nat),(∀ j,j<cs.length→∃ u,W.cell? ⟨g,o+j,none⟩=some u)→aR (putCells W g o cs) g o cs
 | [],_,_,_=>aR.nil
 | c::cs,W,o,h=>by
  simp only [putCells]
  refine aR.cons.2 ⟨?_,dn g cs _ _ fun j hj=>?_⟩
  ·obtain ⟨u,hu⟩:=h 0 (by simp)
   rw [bF g cs _ _ (by omega)]
   exact World.cell?_setCell_same' _ _ _ (by rw [show W.cell? ⟨g,o,none⟩=_ from hu];rfl)
  ·obtain ⟨u,hu⟩:=h (j+1) (by simp only [List.length_cons];omega)
   rw [World.cell?_setCell_other _ _ _ _ (fun e=>by injection e with _ e2;omega),show o+1+j=o+(j+1) by omega]
   exact ⟨u,hu⟩
structure ni (W W':World)(g lo hi:Nat)(T:Nat→Prop):Prop where
 size:W.heap.size≤W'.heap.size
 block:∀ k,k<W.heap.size→k≠g→¬T k→W'.heap[k]? = W.heap[k]?
 cells:∀ j,(j<lo∨hi≤j)→W'.cell? ⟨g,j,none⟩=W.cell? ⟨g,j,none⟩
 soft:∀ j,W'.frozen? ⟨g,j,none⟩=W.frozen? ⟨g,j,none⟩
theorem ni.refl (W:World)(g lo hi:Nat)(T:Nat→Prop):ni W W g lo hi T:=⟨bK _,fun _ _ _ _=>rfl,fun _ _=>rfl,fun _=>rfl⟩
theorem ni.trans {W W' W'':World}{g lo hi:Nat}{T:Nat→Prop}(h:ni W W' g lo hi T)(k:ni W' W'' g lo hi T):ni W W'' g lo hi T:=
 ⟨eF h.size k.size,fun i h1 h2 h3=>(k.block i (bV h1 h.size) h2 h3).trans (h.block i h1 h2 h3),fun j hj=>(k.cells j hj).trans (h.cells j hj),fun j=>(k.soft j).trans (h.soft j)⟩
theorem ni.set (W:World){g lo hi o:Nat}(T:Nat→Prop)(h:lo≤o∧o<hi)(u:Value):ni W (W.setCell ⟨g,o,none⟩ u) g lo hi T:=
 ⟨by simp [World.setCell],fun k _ hk _=>Below.heap_setCell _ _ _ _ hk,fun j hj=>World.cell?_setCell_other _ _ _ _ (fun e=>by injection e with _ e2;omega),fun j=>by simp⟩
theorem ni.put (W:World){g lo hi o:Nat}(T:Nat→Prop){cs:List Value}(h:lo≤o∧o+cs.length≤hi):ni W (putCells W g o cs) g lo hi T:=
 ⟨by rw [kJ];exact bK _,fun k _ hk _=>gH g hk cs W o,fun j hj=>bF g cs W o (by omega),fun j=>aH g _ cs W o⟩
theorem ni.below {W W':World}{g lo hi:Nat}{T:Nat→Prop}(h:Below W.heap.size W W')(hg:g<W.heap.size):ni W W' g lo hi T:=
 ⟨h.size,fun k hk _ _=>h.block k hk,fun j _=>h.cell (p:=⟨g,j,none⟩) hg,fun j=>h.frozen (p:=⟨g,j,none⟩) hg⟩
theorem ni.off {W W':World}{g lo hi:Nat}{T:Nat→Prop}(h:Off T W W')(hg:g<W.heap.size)(hT:¬T g):ni W W' g lo hi T:=
 ⟨h.size,fun k hk _ ht=>h.block k hk ht,fun j _=>World.cell?_of_block (a:=⟨g,j,none⟩) (h.block g hg hT),fun j=>World.frozen?_of_block (a:=⟨g,j,none⟩) (h.block g hg hT)⟩
structure Row {α:Type}(E:Rp α)(W:World)(S:Nat→Prop)(L:List α)(g:Nat)(Sf:Nat→Nat→Prop):Prop where
 own:S g
 soft:∀ j,W.frozen? ⟨g,j,none⟩=false
 sub:∀ i k,Sf i k→S k∧k≠g
 zO:∀ i j k,i<j→Sf i k→¬Sf j k
 el:∀ i x,L[i]? = some x→∃ us,aR W g (i*E.size) us∧E.ow W (Sf i) x us
theorem bH.row {α:Type}{E:Rp α}{W:World}{S:Nat→Prop}{L:List α}{a:Option Addr}{cap:Nat}(h:bH E W S L a cap)(hn:0<L.length):∃ g Sf,a=some ⟨g,0,none⟩∧Row E W S L g Sf:=by
 obtain ⟨g,Sf,ha,hg,hf,hs,hd,hc⟩:=h.2.2 hn
 exact ⟨g,Sf,ha,hg,hf,hs,hd,hc⟩
theorem Row.slice {α:Type}{E:Rp α}{W:World}{S:Nat→Prop}{L:List α}{g:Nat}{Sf:Nat→Nat→Prop}(h:Row E W S L g Sf){cap:Nat}(h1:L.length≤cap)(h2:cap≤maxLen):bH E W S L (some ⟨g,0,none⟩) cap:=
 ⟨h1,h2,fun _=>⟨g,Sf,rfl,h.own,h.soft,h.sub,h.zO,h.el⟩⟩
theorem sw {i j p s:Nat}(hp:p<s)(hij:i≠j):j*s+p<i*s∨(i+1)*s≤j*s+p:=by
 rcases Nat.lt_or_gt_of_ne hij with h | h
 ·right
  have:=Nat.mul_le_mul_right s (show i+1≤j by omega)
  omega
 ·left
  have:=Nat.mul_le_mul_right s (show j+1≤i by omega)
  rw [Nat.add_mul] at this
  omega
theorem Row.set {α:Type}{E:Rp α}(hE:Ok E){W W':World}{S:Nat→Prop}{L:List α}{g i:Nat}{Sf:Nat→Nat→Prop}{x:α}{us:List Value}(h:Row E W S L g Sf)(hS:∀ k,S k→k<W.heap.size)(hU:ni W W' g (i*E.size) ((i+1)*E.size) (Sf i))
 (hc:aR W' g (i*E.size) us) (hr:E.ow W' (Sf i) x us):Row E W' S (L.set i x) g Sf:=by
 refine ⟨h.own,fun j=>(hU.soft j).trans (h.soft j),h.sub,h.zO,fun j y hy=>?_⟩
 by_cases e:i=j
 ·subst e
  rw [List.getElem?_set] at hy
  split at hy
  ·split at hy
   ·injection hy with hy
    subst hy
    exact ⟨us,hc,hr⟩
   ·cases hy
  ·exact absurd rfl ‹_›
 ·rw [List.getElem?_set_ne e] at hy
  obtain ⟨vs,hv,hw⟩:=h.el j y hy
  refine ⟨vs,fun p c hp=>?_,hE.bT hw fun k hk=>hU.block k (hS k (h.sub j k hk).1) (h.sub j k hk).2 (fun hi=>?_)⟩
  ·have hl:=(List.getElem?_eq_some_iff.1 hp).1
   rw [hE.jG hw] at hl
   rw [hU.cells _ (sw hl e)]
   exact hv p c hp
  ·rcases Nat.lt_or_gt_of_ne e with e2 | e2
   ·exact h.zO i j k e2 hi hk
   ·exact h.zO j i k e2 hk hi
structure sU {α:Type}(E:Rp α)(w W:World)(L:List α)(g:Nat)(Sf:Nat→Nat→Prop)(k:Nat):Prop where
 el:∀ i x,i<k→L[i]? = some x→∃ us,aR W g (i*E.size) us∧E.ow W (Sf i) x us
 there:∀ j,j<L.length*E.size→∃ u,W.cell? ⟨g,j,none⟩=some u
 soft:∀ j,W.frozen? ⟨g,j,none⟩=false
 sub:∀ i q,Sf i q→g<q∧q<W.heap.size∧i<k
 zO:∀ i j q,i<j→Sf i q→¬Sf j q
 base:w.heap.size≤g
 lt:g<W.heap.size
 below:Below g w W
theorem sU.new {α:Type}{E:Rp α}{w:World}{L:List α}{cs:Array Value}{t:TypeId}(hs:cs.size=L.length*E.size):sU E w (w.alloc (.cells cs t)) L w.heap.size (fun _ _=>False) 0:=
 ⟨fun i x h=>absurd h (gZ _),fun j hj=>⟨cs[j]'(by omega),by simp [World.cell?_alloc_new,show j<cs.size by omega]⟩,fun j=>by simp,fun i q h=>h.elim,fun i j q _ h=>h.elim,bK _,by simp,(aW _ _).alloc (bK _) _⟩
theorem sU.put {α:Type}{E:Rp α}(hE:Ok E){w W W1:World}{L:List α}{g k:Nat}{Sf:Nat→Nat→Prop}{x:α}{us:List Value}(h:sU E w W L g Sf k)(hx:L[k]? = some x)(hb:Below W.heap.size W W1)(hr:E.ow W1 (Rg W.heap.size W1.heap.size) x us) :
 sU E w (putCells W1 g (k*E.size) us) L g (fun i q=>if i=k then Rg W.heap.size W1.heap.size q else Sf i q) (k+1):=by
 have hk:=(List.getElem?_eq_some_iff.1 hx).1
 have hlen:=hE.jG hr
 have hsz:=hb.size
 have hgl:=h.lt
 have hmul:(k+1)*E.size≤L.length*E.size:=Nat.mul_le_mul_right _ (by omega)
 rw [Nat.add_mul,Nat.one_mul] at hmul
 have Ku:∀ j,j<L.length*E.size→∃ u,W1.cell? ⟨g,j,none⟩=some u:=fun j hj=>by
  obtain ⟨u,hu⟩:=h.there j hj
  exact ⟨u,(hb.cell (p:=⟨g,j,none⟩) hgl).trans hu⟩
 have apart:∀ q,Rg W.heap.size W1.heap.size q→q≠g:=fun q hq=>by unfold Rg at hq;omega
 refine ⟨fun i y hi hy=>?_,fun j hj=>?_,fun j=>?_,fun i q hq=>?_,fun i j q hij hi=>?_,h.base,by rw [kJ];omega,?_⟩
 ·by_cases e:i=k
  ·subst e
   rw [hx] at hy
   injection hy with hy
   subst hy
   refine ⟨us,dn g us W1 _ fun j hj=>Ku _ (by rw [hlen] at hj;omega),?_⟩
   simp only [if_true]
   exact hE.bT hr fun q hq=>gH g (apart q hq) us W1 _
  ·obtain ⟨vs,hv,hw⟩:=h.el i y (by omega) hy
   refine ⟨vs,fun p c hp=>?_,?_⟩
   ·have hl:=(List.getElem?_eq_some_iff.1 hp).1
    rw [hE.jG hw] at hl
    have h1:=sw (i:=k) (j:=i) hl (Ne.symm e)
    rw [Nat.add_mul,Nat.one_mul] at h1
    rw [bF g us W1 _ (by omega)]
    exact (hb.cell (p:=⟨g,_,none⟩) hgl).trans (hv p c hp)
   ·simp only [e,if_false]
    refine hE.bT (hE.bT hw fun q hq=>hb.block q (h.sub i q hq).2.1) fun q hq=>gH g (by have:=(h.sub i q hq).1;omega) us W1 _
 ·obtain ⟨u,hu⟩:=Ku j hj
  by_cases hin:j<k*E.size∨k*E.size+us.length≤j
  ·exact ⟨u,(bF g us W1 _ hin).trans hu⟩
  ·have hc:=dn g us W1 (k*E.size) fun j hj=>Ku _ (by rw [hlen] at hj;omega)
   have hj2:j-k*E.size<us.length:=by omega
   refine ⟨us[j-k*E.size],?_⟩
   have:=hc (j-k*E.size) _ (List.getElem?_eq_getElem hj2)
   rw [show k*E.size+(j-k*E.size)=j by omega] at this
   exact this
 ·rw [aH]
  exact (hb.frozen (p:=⟨g,j,none⟩) hgl).trans (h.soft j)
 ·rw [kJ]
  by_cases e:i=k
  ·simp only [e,if_true] at hq
   unfold Rg at hq
   omega
  ·simp only [e,if_false] at hq
   have:=h.sub i q hq
   omega
 ·by_cases e1:i=k
  ·subst e1
   simp only [if_true] at hi
   have e2:j≠i:=by omega
   simp only [e2,if_false]
   intro hj
   have:=(h.sub j q hj).2.2
   omega
  ·simp only [e1,if_false] at hi
   by_cases e2:j=k
   ·simp only [e2,if_true]
    have:=(h.sub i q hi).2.1
    unfold Rg
    omega
   ·simp only [e2,if_false]
    exact h.zO i j q hij hi
 ·exact (h.below.trans (hb.mono (by omega))).trans ((dO g us W1 _).below (by omega) (fun k hk=>by rw [hk];exact bK _))
theorem sU.done {α:Type}{E:Rp α}{w W:World}{L:List α}{g:Nat}{Sf:Nat→Nat→Prop}(h:sU E w W L g Sf L.length):Row E W (Rg w.heap.size W.heap.size) L g Sf:=
 ⟨⟨h.base,h.lt⟩,h.soft,fun i k hk=>⟨⟨by have:=(h.sub i k hk).1;have:=h.base;omega,(h.sub i k hk).2.1⟩,by have:=(h.sub i k hk).1;omega⟩,h.zO,fun i x hx=>h.el i x (List.getElem?_eq_some_iff.1 hx).1 hx⟩
def aO (w:World)(g:Nat)(t:TypeId)(cs:Array Value):Prop:=w.heap[g]? = some (.cells cs t (0,0))
section
variable {w w':World}{g:Nat}{t:TypeId}{cs:Array Value}
theorem aO.lt (h:aO w g t cs):g<w.heap.size:=(Array.getElem?_eq_some_iff.1 h).1
theorem aO.at_ (h:aO w g t cs)(i:Nat){v:Value}(hv:cs[i]? = some v):w.cell? ⟨g,i,none⟩=some v:=(cell_of_row w g i cs t (0,0) h).trans hv
theorem aO.soft (h:aO w g t cs)(i:Nat):w.frozen? ⟨g,i,none⟩=false:=by
 unfold aO at h
 simp [World.frozen?,h]
theorem aO.new (w:World)(t:TypeId)(cs:Array Value):aO (w.alloc (.cells cs t)) w.heap.size t cs:=heap_alloc_new w _
theorem aO.alloc (h:aO w g t cs)(o:Obj):aO (w.alloc o) g t cs:=(Below.heap_alloc w o g h.lt).trans h
theorem aO.set (h:aO w g t cs)(i:Nat)(u:Value):aO (w.setCell ⟨g,i,none⟩ u) g t (cs.setIfInBounds i u):=by
 unfold aO at h ⊢
 simp [World.setCell,Array.getElem?_modify,h]
theorem aO.far (h:aO w g t cs){b o:Nat}(hp:g≠b)(u:Value):aO (w.setCell ⟨b,o,none⟩ u) g t cs:=(Below.heap_setCell w ⟨b,o,none⟩ u g hp).trans h
theorem aO.call (h:aO w g t cs)(hb:Below w.heap.size w w'):aO w' g t cs:=(hb.block g h.lt).trans h
theorem aO.as (h:aO w g t cs){ds:Array Value}(e:cs=ds):aO w g t ds:=e ▸ h
end
theorem fD {B:Nat}{w W:World}(h:Below B w W)(n:Nat):Below B w (W.drewN n):=⟨h.os,h.tape,h.output,h.size,h.block⟩
def szR (l:Int)(s:Nat):Int:=if (s:Int)≤l then l-s else -1
theorem dL {l:Int}{s:Nat}(h:(s:Int)≤l):szR l s=l-s:=if_pos h
theorem dI {l:Int}{s:Nat}(h:¬(s:Int)≤l):szR l s=-1:=if_neg h
def JN (l:Int)(s:Nat)(w:World)(e:Ending)(w':World):Prop:=e=.returned (.int .i64 (szR l s))∧Below w.heap.size w w'
theorem gD {l:Int}{s:Nat}{w:World}{e:Ending}{w':World}(h:JN l s w e w'):e=.returned (.int .i64 (szR l s))∧Below w.heap.size w w':=h
theorem kC {α:Type}{f:α→Nat}(h:∀ x,f x=0):∀ L:List α,bD f L=0
 | []=>rfl
 | x::xs=>by simp only [bD,h x,kC h xs]
theorem fB {α:Type}(f:α→Nat){L:List α}{k:Nat}{x:α}(h:L[k]? = some x):bD f (L.take (k+1))=bD f (L.take k)+f x:=by
 rw [List.take_add_one,h,Option.toList_some,Bj,VH]
theorem dh {α:Type}(f:α→Nat)(L:List α)(k:Nat):bD f (L.take k)≤bD f L:=by
 have:=Bj f (L.take k) (L.drop k)
 rw [List.take_append_drop] at this
 omega
def Mn {α:Type}(E:Rp α):Prop:=∀ x k k',E.mm x k k'→k≤k'
theorem pG:Mn I:=fun x k k' h=>by have:=h.2;omega
theorem jV {α β:Type}{E:Rp α}{F:Rp β}(hE:Mn E)(hF:Mn F):Mn (Pr E F):=fun x k k' ⟨k1,h1,h2⟩=>Int.le_trans (hE _ _ _ h1) (hF _ _ _ h2)
theorem eG {α:Type}{E:Rp α}(hE:Mn E):∀ {L:List α}{k k':Int},jC E L k k'→k≤k'
 | [],k,k',h=>by simp only [jC] at h;omega
 | x::xs,k,k',⟨k1,h1,h2⟩=>Int.le_trans (hE _ _ _ h1) (eG hE h2)
theorem AU {α:Type}{E:Rp α}(hE:Mn E):Mn (Sl E):=fun _ _ _ h=>eG hE h
theorem O1 {α:Type}{E:Rp α}{L:List α}{a a' b b':Int}(h:jC E L a b)(h1:a=a')(h2:b=b'):jC E L a' b':=by subst h1 h2;exact h
theorem jX {α:Type}{E:Rp α}{L:List α}{j:Nat}{x:α}{k k':Int}(hx:L[j]? = some x)(h:jC E (L.drop j) k k'):∃ k1,E.mm x k k1∧jC E (L.drop (j+1)) k1 k':=by
 have hj:=(List.getElem?_eq_some_iff.1 hx)
 obtain ⟨hlt,he⟩:=hj
 rw [List.drop_eq_getElem_cons hlt,he] at h
 exact h
theorem lD {α:Type}{E:Rp α}{L:List α}{k k':Int}(h:jC E (L.drop L.length) k k'):k'=k:=by rw [List.drop_length] at h;exact h
theorem Wq {α:Type}{E:Rp α}{M:List α}{j:Nat}{x:α}{k q q':Int}(hj:j<M.length)(h:jC E (M.take j) k q)(hx:E.mm x q q'):jC E ((M.set j x).take (j+1)) k q':=by
 have e:(M.set j x).take (j+1)=M.take j++[x]:=by
  rw [List.take_add_one,List.take_set_of_le (Nat.le_refl _),List.getElem?_set_self hj]
  rfl
 rw [e]
 exact OO h ⟨q',hx,rfl⟩
def jD {α:Type}(E:Rp α)(S:Nat→Prop)(L:List α)(a:Option Addr)(cap:Nat)(k:Int)(w:World)(e:Ending)(w':World):Prop:=
 ∃ L' k',e=.returned (.int .i64 k')∧L'.length=L.length∧jC E L' k k'∧k'=k+(bD E.cm L:Nat)∧bH E w' S L' a cap∧Off S w w'
theorem iO {α:Type}{E:Rp α}{S:Nat→Prop}{L:List α}{a:Option Addr}{cap:Nat}{k:Int}{w:World}{e:Ending}{w':World}(h:jD E S L a cap k w e w') :
 ∃ L' k',e=.returned (.int .i64 k')∧L'.length=L.length∧jC E L' k k'∧k'=k+(bD E.cm L:Nat)∧bH E w' S L' a cap∧Off S w w':=h
structure xG {α:Type}(E:Rp α)(W wr:World)(S:Nat→Prop)(L:List α)(g:Nat)(Sf:Nat→Nat→Prop)(k q:Int)(j:Nat)(M:List α):Prop where
 len:M.length=L.length
 rest:∀ p,j≤p→M[p]? = L[p]?
 mm:jC E (M.take j) k q
 num:q=k+(bD E.cm (L.take j):Nat)
 row:Row E wr S M g Sf
 off:Off S W wr
theorem xG.start {α:Type}{E:Rp α}{W:World}{S:Nat→Prop}{L:List α}{g:Nat}{Sf:Nat→Nat→Prop}{k:Int}(h:Row E W S L g Sf):xG E W W S L g Sf k k 0 L:=⟨rfl,fun _ _=>rfl,rfl,by simp [bD],h,Off.refl _ _⟩
theorem xG.done {α:Type}{E:Rp α}{W wr:World}{S:Nat→Prop}{L M:List α}{g cap:Nat}{Sf:Nat→Nat→Prop}{k q:Int}(h:xG E W wr S L g Sf k q L.length M)(h1:L.length≤cap)(h2:cap≤maxLen):jD E S L (some ⟨g,0,none⟩) cap k W (.returned (.int .i64 q)) wr:=by
 refine ⟨M,q,rfl,h.len,?_,?_,h.row.slice (by rw [h.len];exact h1) h2,h.off⟩
 ·have:=h.mm
  rw [←h.len,List.take_length] at this
  exact this
 ·have:=h.num
  rw [List.take_length] at this
  exact this
theorem xG.step {α:Type}{E:Rp α}(hE:Ok E){W wr w':World}{S:Nat→Prop}{L M:List α}{g j:Nat}{Sf:Nat→Nat→Prop}{k q q':Int}{x y:α}{us:List Value}(h:xG E W wr S L g Sf k q j M)(hS:∀ i,S i→i<wr.heap.size)(hx:L[j]? = some x)
 (hU:ni wr w' g (j*E.size) ((j+1)*E.size) (Sf j)) (hO:Off S wr w') (hc:aR w' g (j*E.size) us) (hr:E.ow w' (Sf j) y us) (hm:E.mm y q q') (hn:q'=q+(E.cm x:Nat)):xG E W w' S L g Sf k q' (j+1) (M.set j y):=by
 have hj:j<M.length:=by rw [h.len];exact (List.getElem?_eq_some_iff.1 hx).1
 refine ⟨by rw [List.length_set];exact h.len,fun p hp=>?_,Wq hj h.mm hm,?_,h.row.set hE hS hU hc hr,h.off.trans hO⟩
 ·rw [List.getElem?_set_ne (by omega)]
  exact h.rest p (by omega)
 ·rw [hn,h.num,fB E.cm hx]
  omega
theorem xG.el {α:Type}{E:Rp α}{W wr:World}{S:Nat→Prop}{L M:List α}{g j:Nat}{Sf:Nat→Nat→Prop}{k q:Int}{x:α}(h:xG E W wr S L g Sf k q j M)(hx:L[j]? = some x):∃ us,aR wr g (j*E.size) us∧E.ow wr (Sf j) x us:=
 h.row.el j x (by rw [h.rest j (Nat.le_refl _)];exact hx)
theorem jD.none_ {α:Type}{E:Rp α}{W:World}{S:Nat→Prop}{L:List α}{a:Option Addr}{cap:Nat}{k:Int}(h:bH E W S L a cap)(h0:L.length=0):jD E S L a cap k W (.returned (.int .i64 k)) W:=by
 obtain rfl:=List.eq_nil_of_length_eq_zero h0
 exact ⟨[],k,rfl,rfl,rfl,by simp [bD],h,Off.refl _ _⟩
def kT {α:Type}(E:Rp α)(d:α)(w:World)(e:Ending)(w':World):Prop:=∃ us:List Value,e=.returned (.agg us.toArray)∧E.ow w' (Rg w.heap.size w'.heap.size) d us∧Below w.heap.size w w'
theorem bY {α:Type}{E:Rp α}{d:α}{w:World}{e:Ending}{w':World}(h:kT E d w e w'):∃ us:List Value,e=.returned (.agg us.toArray)∧E.ow w' (Rg w.heap.size w'.heap.size) d us∧Below w.heap.size w w':=h
def jU {α:Type}(E:Rp α)(L:List α)(w:World)(e:Ending)(w':World):Prop:=∃ a cap,e=.returned (.slice a L.length cap)∧bH E w' (Rg w.heap.size w'.heap.size) L a cap∧Below w.heap.size w w'
theorem bL {α:Type}{E:Rp α}{L:List α}{w:World}{e:Ending}{w':World}(h:jU E L w e w'):∃ a cap,e=.returned (.slice a L.length cap)∧bH E w' (Rg w.heap.size w'.heap.size) L a cap∧Below w.heap.size w w':=h
theorem sU.news {α:Type}{E:Rp α}{w W:World}{L:List α}{Sf:Nat→Nat→Prop}(h:sU E w W L w.heap.size Sf L.length)(hn:L.length≤maxLen):jU E L w (.returned (.slice (some ⟨w.heap.size,0,none⟩) L.length L.length)) W:=
 ⟨_,_,rfl,h.done.slice (bK _) hn,h.below⟩
theorem eP {S:Nat→Prop}{w0 Wc w1:World}(hb:Below Wc.heap.size Wc w1)(ho:Off S w0 Wc)(k:Nat)(hk:k<w0.heap.size)(hS:¬S k):w1.heap[k]? = w0.heap[k]?:=
 (hb.block k (bV hk ho.size)).trans (ho.block k hk hS)
theorem bP {S:Nat→Prop}{w0 Wc w1:World}(hb:Below Wc.heap.size Wc w1)(ho:Off S w0 Wc):w0.heap.size≤w1.heap.size:=eF ho.size hb.size
theorem eH {Wc w1:World}{m:Nat}(_:Below Wc.heap.size Wc w1)(hm:m≤Wc.heap.size)(k:Nat)(hk:Rg Wc.heap.size w1.heap.size k):m≤k∧k<w1.heap.size:=⟨eF hm hk.1,hk.2⟩
theorem Du {S:Nat→Prop}{w0 Wc w1:World}(_:Below Wc.heap.size Wc w1)(ho:Off S w0 Wc)(k:Nat)(hk:Rg Wc.heap.size w1.heap.size k):w0.heap.size≤k:=eF ho.size hk.1
theorem aM {α:Type}{L:List α}{k:Nat}(h:k<L.length):∃ x,L[k]? = some x:=⟨L[k],List.getElem?_eq_getElem h⟩
theorem vS {α:Type}{f:α→Nat}{L:List α}{k:Nat}{x:α}{m:Nat}(hx:L[k]? = some x)(h:L.length+bD f L≤m):f x≤m:=by
 have key:∀ (L:List α) (k:Nat),L[k]? = some x→f x≤bD f L:=by
  intro L
  induction L with
  | nil=>intro k hk;simp at hk
  | cons y ys ih=>
   intro k hk
   cases k with
   | zero=>simp at hk;subst hk;simp only [bD];omega
   | succ k=>have:=ih k (by simpa using hk);simp only [bD];omega
 have:=key L k hx
 omega
theorem kM {α:Type}{L:List α}{k:Nat}{x:α}(h:L[k]? = some x):k<L.length:=(List.getElem?_eq_some_iff.1 h).1
theorem cO {W:World}{g o:Nat}{cs:List Value}(h:aR W g o cs)(j:Nat){c:Value}(hj:cs[j]? = some c):W.cell? ⟨g,o+j,none⟩=some c:=h j c hj
theorem aO.hat {w0 w:World}{b:Nat}{t:TypeId}{cs:Array Value}(h:aO w0 b t cs)(hS:Below w0.heap.size w0 w)(i:Nat){v:Value}(hi:cs[i]? = some v):w.cell? ⟨b,i,none⟩=some v:=(hS.cell (p:=⟨b,i,none⟩) h.lt).trans (h.at_ i hi)
theorem aO.kS {w:World}{g:Nat}{t:TypeId}{cs:Array Value}{v0 v1:Value}(h:aO w g t cs)(e:cs.toList.take 2 = [v0,v1]):w.cell? ⟨g,0,none⟩=some v0∧w.cell? ⟨g,1,none⟩=some v1:=by
 have k:∀ (i:Nat) (v:Value),[v0,v1][i]? = some v→cs[i]? = some v:=fun i v hi=>by
  rw [←e,List.getElem?_take] at hi
  split at hi
  ·simpa using hi
  ·cases hi
 exact ⟨h.at_ 0 (k 0 v0 rfl),h.at_ 1 (k 1 v1 rfl)⟩
theorem aO.pz {w:World}{g:Nat}{t:TypeId}{cs:Array Value}{v0 v1 v2:Value}(h:aO w g t cs)(e:cs.toList.take 3 = [v0,v1,v2]):w.cell? ⟨g,0,none⟩=some v0∧w.cell? ⟨g,1,none⟩=some v1∧w.cell? ⟨g,2,none⟩=some v2:=by
 have k:∀ (i:Nat) (v:Value),[v0,v1,v2][i]? = some v→cs[i]? = some v:=fun i v hi=>by
  rw [←e,List.getElem?_take] at hi
  split at hi
  ·simpa using hi
  ·cases hi
 exact ⟨h.at_ 0 (k 0 v0 rfl),h.at_ 1 (k 1 v1 rfl),h.at_ 2 (k 2 v2 rfl)⟩
theorem aO.jE {w:World}{g:Nat}{t:TypeId}{cs:Array Value}{v0 v1 v2 v3:Value}(h:aO w g t cs)(e:cs.toList.take 4 = [v0,v1,v2,v3]):w.cell? ⟨g,0,none⟩=some v0∧w.cell? ⟨g,1,none⟩=some v1∧w.cell? ⟨g,2,none⟩=some v2∧w.cell? ⟨g,3,none⟩=some v3:=by
 have k:∀ (i:Nat) (v:Value),[v0,v1,v2,v3][i]? = some v→cs[i]? = some v:=fun i v hi=>by
  rw [←e,List.getElem?_take] at hi
  split at hi
  ·simpa using hi
  ·cases hi
 exact ⟨h.at_ 0 (k 0 v0 rfl),h.at_ 1 (k 1 v1 rfl),h.at_ 2 (k 2 v2 rfl),h.at_ 3 (k 3 v3 rfl)⟩
theorem aO.vN {w:World}{g:Nat}{t:TypeId}{cs:Array Value}{v0 v1 v2 v3 v4:Value}(h:aO w g t cs)(e:cs.toList.take 5 = [v0,v1,v2,v3,v4]):w.cell? ⟨g,0,none⟩=some v0∧w.cell? ⟨g,1,none⟩=some v1∧w.cell? ⟨g,2,none⟩=some v2∧w.cell? ⟨g,3,none⟩=some v3∧w.cell? ⟨g,4,none⟩=some v4:=by
 have k:∀ (i:Nat) (v:Value),[v0,v1,v2,v3,v4][i]? = some v→cs[i]? = some v:=fun i v hi=>by
  rw [←e,List.getElem?_take] at hi
  split at hi
  ·simpa using hi
  ·cases hi
 exact ⟨h.at_ 0 (k 0 v0 rfl),h.at_ 1 (k 1 v1 rfl),h.at_ 2 (k 2 v2 rfl),h.at_ 3 (k 3 v3 rfl),h.at_ 4 (k 4 v4 rfl)⟩
theorem aO.gy {w:World}{g:Nat}{t:TypeId}{cs:Array Value}{v0 v1 v2 v3 v4 v5 v6 v7:Value}(h:aO w g t cs)(e:cs.toList.take 8 = [v0,v1,v2,v3,v4,v5,v6,v7]):w.cell? ⟨g,0,none⟩=some v0∧w.cell? ⟨g,1,none⟩=some v1∧w.cell? ⟨g,2,none⟩=some v2∧w.cell? ⟨g,3,none⟩=some v3∧w.cell? ⟨g,4,none⟩=some v4∧w.cell? ⟨g,5,none⟩=some v5∧w.cell? ⟨g,6,none⟩=some v6∧w.cell? ⟨g,7,none⟩=some v7:=by
 have k:∀ (i:Nat) (v:Value),[v0,v1,v2,v3,v4,v5,v6,v7][i]? = some v→cs[i]? = some v:=fun i v hi=>by
  rw [←e,List.getElem?_take] at hi
  split at hi
  ·simpa using hi
  ·cases hi
 exact ⟨h.at_ 0 (k 0 v0 rfl),h.at_ 1 (k 1 v1 rfl),h.at_ 2 (k 2 v2 rfl),h.at_ 3 (k 3 v3 rfl),h.at_ 4 (k 4 v4 rfl),h.at_ 5 (k 5 v5 rfl),h.at_ 6 (k 6 v6 rfl),h.at_ 7 (k 7 v7 rfl)⟩
theorem aO.ji {w:World}{g:Nat}{t:TypeId}{cs:Array Value}{v0 v1 v2 v3 v4 v5 v6 v7 v8 v9:Value}(h:aO w g t cs)(e:cs.toList.take 10 = [v0,v1,v2,v3,v4,v5,v6,v7,v8,v9]):w.cell? ⟨g,0,none⟩=some v0∧w.cell? ⟨g,1,none⟩=some v1∧w.cell? ⟨g,2,none⟩=some v2∧w.cell? ⟨g,3,none⟩=some v3∧w.cell? ⟨g,4,none⟩=some v4∧w.cell? ⟨g,5,none⟩=some v5∧w.cell? ⟨g,6,none⟩=some v6∧w.cell? ⟨g,7,none⟩=some v7∧w.cell? ⟨g,8,none⟩=some v8∧w.cell? ⟨g,9,none⟩=some v9:=by
 have k:∀ (i:Nat) (v:Value),[v0,v1,v2,v3,v4,v5,v6,v7,v8,v9][i]? = some v→cs[i]? = some v:=fun i v hi=>by
  rw [←e,List.getElem?_take] at hi
  split at hi
  ·simpa using hi
  ·cases hi
 exact ⟨h.at_ 0 (k 0 v0 rfl),h.at_ 1 (k 1 v1 rfl),h.at_ 2 (k 2 v2 rfl),h.at_ 3 (k 3 v3 rfl),h.at_ 4 (k 4 v4 rfl),h.at_ 5 (k 5 v5 rfl),h.at_ 6 (k 6 v6 rfl),h.at_ 7 (k 7 v7 rfl),h.at_ 8 (k 8 v8 rfl),h.at_ 9 (k 9 v9 rfl)⟩
theorem aO.fF {w:World}{g:Nat}{t:TypeId}{cs:Array Value}{v0 v1 v2 v3 v4 v5 v6 v7 v8 v9 v10 v11 v12 v13:Value}(h:aO w g t cs)(e:cs.toList.take 14 = [v0,v1,v2,v3,v4,v5,v6,v7,v8,v9,v10,v11,v12,v13]):w.cell? ⟨g,0,none⟩=some v0∧w.cell? ⟨g,1,none⟩=some v1∧w.cell? ⟨g,2,none⟩=some v2∧w.cell? ⟨g,3,none⟩=some v3∧w.cell? ⟨g,4,none⟩=some v4∧w.cell? ⟨g,5,none⟩=some v5∧w.cell? ⟨g,6,none⟩=some v6∧w.cell? ⟨g,7,none⟩=some v7∧w.cell? ⟨g,8,none⟩=some v8∧w.cell? ⟨g,9,none⟩=some v9∧w.cell? ⟨g,10,none⟩=some v10∧w.cell? ⟨g,11,none⟩=some v11∧w.cell? ⟨g,12,none⟩=some v12∧w.cell? ⟨g,13,none⟩=some v13:=by
 have k:∀ (i:Nat) (v:Value),[v0,v1,v2,v3,v4,v5,v6,v7,v8,v9,v10,v11,v12,v13][i]? = some v→cs[i]? = some v:=fun i v hi=>by
  rw [←e,List.getElem?_take] at hi
  split at hi
  ·simpa using hi
  ·cases hi
 exact ⟨h.at_ 0 (k 0 v0 rfl),h.at_ 1 (k 1 v1 rfl),h.at_ 2 (k 2 v2 rfl),h.at_ 3 (k 3 v3 rfl),h.at_ 4 (k 4 v4 rfl),h.at_ 5 (k 5 v5 rfl),h.at_ 6 (k 6 v6 rfl),h.at_ 7 (k 7 v7 rfl),h.at_ 8 (k 8 v8 rfl),h.at_ 9 (k 9 v9 rfl),h.at_ 10 (k 10 v10 rfl),h.at_ 11 (k 11 v11 rfl),h.at_ 12 (k 12 v12 rfl),h.at_ 13 (k 13 v13 rfl)⟩
theorem aO.Ae {w:World}{g:Nat}{t:TypeId}{cs:Array Value}(h:aO w g t cs):w.frozen? ⟨g,0,none⟩=false∧w.frozen? ⟨g,1,none⟩=false:=⟨h.soft 0,h.soft 1⟩
theorem aO.sof3 {w:World}{g:Nat}{t:TypeId}{cs:Array Value}(h:aO w g t cs):w.frozen? ⟨g,0,none⟩=false∧w.frozen? ⟨g,1,none⟩=false∧w.frozen? ⟨g,2,none⟩=false:=⟨h.soft 0,h.soft 1,h.soft 2⟩
theorem aO.CG {w:World}{g:Nat}{t:TypeId}{cs:Array Value}(h:aO w g t cs):w.frozen? ⟨g,0,none⟩=false∧w.frozen? ⟨g,1,none⟩=false∧w.frozen? ⟨g,2,none⟩=false∧w.frozen? ⟨g,3,none⟩=false:=⟨h.soft 0,h.soft 1,h.soft 2,h.soft 3⟩
theorem aO.XV {w:World}{g:Nat}{t:TypeId}{cs:Array Value}(h:aO w g t cs):w.frozen? ⟨g,0,none⟩=false∧w.frozen? ⟨g,1,none⟩=false∧w.frozen? ⟨g,2,none⟩=false∧w.frozen? ⟨g,3,none⟩=false∧w.frozen? ⟨g,4,none⟩=false:=⟨h.soft 0,h.soft 1,h.soft 2,h.soft 3,h.soft 4⟩
theorem aO.zF {w:World}{g:Nat}{t:TypeId}{cs:Array Value}(h:aO w g t cs):w.frozen? ⟨g,0,none⟩=false∧w.frozen? ⟨g,1,none⟩=false∧w.frozen? ⟨g,2,none⟩=false∧w.frozen? ⟨g,3,none⟩=false∧w.frozen? ⟨g,4,none⟩=false∧w.frozen? ⟨g,5,none⟩=false∧w.frozen? ⟨g,6,none⟩=false∧w.frozen? ⟨g,7,none⟩=false:=⟨h.soft 0,h.soft 1,h.soft 2,h.soft 3,h.soft 4,h.soft 5,h.soft 6,h.soft 7⟩
theorem aO.Au {w:World}{g:Nat}{t:TypeId}{cs:Array Value}(h:aO w g t cs):w.frozen? ⟨g,0,none⟩=false∧w.frozen? ⟨g,1,none⟩=false∧w.frozen? ⟨g,2,none⟩=false∧w.frozen? ⟨g,3,none⟩=false∧w.frozen? ⟨g,4,none⟩=false∧w.frozen? ⟨g,5,none⟩=false∧w.frozen? ⟨g,6,none⟩=false∧w.frozen? ⟨g,7,none⟩=false∧w.frozen? ⟨g,8,none⟩=false∧w.frozen? ⟨g,9,none⟩=false:=⟨h.soft 0,h.soft 1,h.soft 2,h.soft 3,h.soft 4,h.soft 5,h.soft 6,h.soft 7,h.soft 8,h.soft 9⟩
theorem aO.qQ {w:World}{g:Nat}{t:TypeId}{cs:Array Value}(h:aO w g t cs):w.frozen? ⟨g,0,none⟩=false∧w.frozen? ⟨g,1,none⟩=false∧w.frozen? ⟨g,2,none⟩=false∧w.frozen? ⟨g,3,none⟩=false∧w.frozen? ⟨g,4,none⟩=false∧w.frozen? ⟨g,5,none⟩=false∧w.frozen? ⟨g,6,none⟩=false∧w.frozen? ⟨g,7,none⟩=false∧w.frozen? ⟨g,8,none⟩=false∧w.frozen? ⟨g,9,none⟩=false∧w.frozen? ⟨g,10,none⟩=false∧w.frozen? ⟨g,11,none⟩=false∧w.frozen? ⟨g,12,none⟩=false∧w.frozen? ⟨g,13,none⟩=false:=⟨h.soft 0,h.soft 1,h.soft 2,h.soft 3,h.soft 4,h.soft 5,h.soft 6,h.soft 7,h.soft 8,h.soft 9,h.soft 10,h.soft 11,h.soft 12,h.soft 13⟩
theorem ny {w:World}{g a:Nat}{us:List Value}{v0 v1:Value}(h:∀ (j:Nat)(u:Value),us[j]? = some u→w.cell? ⟨g,a+j,none⟩=some u)(e:us.take 2 = [v0,v1]):w.cell? ⟨g,a,none⟩=some v0∧w.cell? ⟨g,a+1,none⟩=some v1:=by
 have k:∀ (i:Nat) (v:Value),[v0,v1][i]? = some v→us[i]? = some v:=fun i v hi=>by
  rw [←e,List.getElem?_take] at hi
  split at hi
  ·exact hi
  ·cases hi
 exact ⟨h 0 v0 (k 0 v0 rfl),h 1 v1 (k 1 v1 rfl)⟩
theorem Ko {w:World}{g a:Nat}{us:List Value}{v0 v1 v2:Value}(h:∀ (j:Nat)(u:Value),us[j]? = some u→w.cell? ⟨g,a+j,none⟩=some u)(e:us.take 3 = [v0,v1,v2]):w.cell? ⟨g,a,none⟩=some v0∧w.cell? ⟨g,a+1,none⟩=some v1∧w.cell? ⟨g,a+2,none⟩=some v2:=by
 have k:∀ (i:Nat) (v:Value),[v0,v1,v2][i]? = some v→us[i]? = some v:=fun i v hi=>by
  rw [←e,List.getElem?_take] at hi
  split at hi
  ·exact hi
  ·cases hi
 exact ⟨h 0 v0 (k 0 v0 rfl),h 1 v1 (k 1 v1 rfl),h 2 v2 (k 2 v2 rfl)⟩
theorem Kn {w:World}{g a:Nat}{us:List Value}{v0 v1 v2 v3:Value}(h:∀ (j:Nat)(u:Value),us[j]? = some u→w.cell? ⟨g,a+j,none⟩=some u)(e:us.take 4 = [v0,v1,v2,v3]):w.cell? ⟨g,a,none⟩=some v0∧w.cell? ⟨g,a+1,none⟩=some v1∧w.cell? ⟨g,a+2,none⟩=some v2∧w.cell? ⟨g,a+3,none⟩=some v3:=by
 have k:∀ (i:Nat) (v:Value),[v0,v1,v2,v3][i]? = some v→us[i]? = some v:=fun i v hi=>by
  rw [←e,List.getElem?_take] at hi
  split at hi
  ·exact hi
  ·cases hi
 exact ⟨h 0 v0 (k 0 v0 rfl),h 1 v1 (k 1 v1 rfl),h 2 v2 (k 2 v2 rfl),h 3 v3 (k 3 v3 rfl)⟩
theorem Tj {w:World}{g a:Nat}{us:List Value}{v0 v1 v2 v3 v4:Value}(h:∀ (j:Nat)(u:Value),us[j]? = some u→w.cell? ⟨g,a+j,none⟩=some u)(e:us.take 5 = [v0,v1,v2,v3,v4]):w.cell? ⟨g,a,none⟩=some v0∧w.cell? ⟨g,a+1,none⟩=some v1∧w.cell? ⟨g,a+2,none⟩=some v2∧w.cell? ⟨g,a+3,none⟩=some v3∧w.cell? ⟨g,a+4,none⟩=some v4:=by
 have k:∀ (i:Nat) (v:Value),[v0,v1,v2,v3,v4][i]? = some v→us[i]? = some v:=fun i v hi=>by
  rw [←e,List.getElem?_take] at hi
  split at hi
  ·exact hi
  ·cases hi
 exact ⟨h 0 v0 (k 0 v0 rfl),h 1 v1 (k 1 v1 rfl),h 2 v2 (k 2 v2 rfl),h 3 v3 (k 3 v3 rfl),h 4 v4 (k 4 v4 rfl)⟩
theorem kY {w:World}{g a:Nat}{us:List Value}{v0 v1 v2 v3 v4 v5 v6 v7 v8 v9 v10 v11 v12 v13:Value}(h:∀ (j:Nat)(u:Value),us[j]? = some u→w.cell? ⟨g,a+j,none⟩=some u)(e:us.take 14 = [v0,v1,v2,v3,v4,v5,v6,v7,v8,v9,v10,v11,v12,v13]):w.cell? ⟨g,a,none⟩=some v0∧w.cell? ⟨g,a+1,none⟩=some v1∧w.cell? ⟨g,a+2,none⟩=some v2∧w.cell? ⟨g,a+3,none⟩=some v3∧w.cell? ⟨g,a+4,none⟩=some v4∧w.cell? ⟨g,a+5,none⟩=some v5∧w.cell? ⟨g,a+6,none⟩=some v6∧w.cell? ⟨g,a+7,none⟩=some v7∧w.cell? ⟨g,a+8,none⟩=some v8∧w.cell? ⟨g,a+9,none⟩=some v9∧w.cell? ⟨g,a+10,none⟩=some v10∧w.cell? ⟨g,a+11,none⟩=some v11∧w.cell? ⟨g,a+12,none⟩=some v12∧w.cell? ⟨g,a+13,none⟩=some v13:=by
 have k:∀ (i:Nat) (v:Value),[v0,v1,v2,v3,v4,v5,v6,v7,v8,v9,v10,v11,v12,v13][i]? = some v→us[i]? = some v:=fun i v hi=>by
  rw [←e,List.getElem?_take] at hi
  split at hi
  ·exact hi
  ·cases hi
 exact ⟨h 0 v0 (k 0 v0 rfl),h 1 v1 (k 1 v1 rfl),h 2 v2 (k 2 v2 rfl),h 3 v3 (k 3 v3 rfl),h 4 v4 (k 4 v4 rfl),h 5 v5 (k 5 v5 rfl),h 6 v6 (k 6 v6 rfl),h 7 v7 (k 7 v7 rfl),h 8 v8 (k 8 v8 rfl),h 9 v9 (k 9 v9 rfl),h 10 v10 (k 10 v10 rfl),h 11 v11 (k 11 v11 rfl),h 12 v12 (k 12 v12 rfl),h 13 v13 (k 13 v13 rfl)⟩
def nN (k':Int)(w:World)(e:Ending)(w':World):Prop:=e=.returned (.int .i64 k')∧Below w.heap.size w w'
theorem eU {k':Int}{w:World}{e:Ending}{w':World}(h:nN k' w e w'):e=.returned (.int .i64 k')∧Below w.heap.size w w':=h
theorem aO.off {w w':World}{g:Nat}{t:TypeId}{cs:Array Value}{S:Nat→Prop}(h:aO w g t cs)(ho:Off S w w')(hg:g<w.heap.size)(hS:¬S g):aO w' g t cs:=(ho.block g hg hS).trans h
theorem Jp {L:List Int}{a:Option Addr}{cap:Nat}{W:World}{k k':Int}(h0:0≤k)(h1:k'≤4611686018427387904)(hm:jC I L k k')(h:aJ I W W.heap.size L a cap):Calls Tryz.prog 156 #[.slice a L.length cap,.int .i64 k] W (nN k' W):=by
 have hn:L.length≤9223372036854775807:=by have h1:=h.1;have h2:=h.2.1;unfold maxLen at h2;omega
 have H:=ak h
 have HM:=ak hm
 clear h hm
 go_enter Tryz.func156,Tryz.ntmps156
 go_wp2
 go_loopw [5,1] (fun i q wr=>∃ j:Nat,j≤L.length∧i=.int .i64 j∧(∃ z:Int,q=.int .i64 z∧0≤z∧jC I (L.drop j) z k')∧Below W.heap.size W wr) (fun i _ _=>L.length-(intOf i).toNat)
 case atStart=>exact ⟨0,dV _,rfl,⟨k,rfl,h0,HM.out⟩,aW _ _⟩
 case round=>
  obtain ⟨j,hj,rfl,⟨z,rfl,hz,hmz⟩,hB⟩:=hrel
  have HB:=ak hB
  by_cases hlt:j<L.length
  ·obtain ⟨x,hx⟩:=aM hlt
   obtain ⟨k1,hxm,hmn⟩:=jX hx hmz
   obtain ⟨rfl,rfl⟩:x=z∧k1=z+1:=hxm
   have hzb:=eG pG hmn
   obtain ⟨g,o,us,rfl,hg,hu,hr⟩:=(H.out.below cK hB).at_ hx
   obtain rfl:us = [_]:=hr
   have e0:wr.cell? ⟨g,o+j,none⟩=some (.int .i64 x):=by simpa [show I.size=1 from rfl] using hu 0 _ rfl
   have FZ:=ak hmn
   have hi0:(0:Int)≤(j:Int):=eu _
   have hi1:(j:Int)<(L.length:Int):=by omega
   have hx1:x+1≤4611686018427387904:=by omega
   clear hB hx hu hmz hmn
   go_wp2
   go_roundw
   case rel=>exact ⟨j+1,by omega,by go_num,⟨_,rfl,by omega,FZ.out⟩,HB.out⟩
   case measure=>simp [intOf];omega
  ·obtain rfl:j=L.length:=by omega
   have HE:=ak (lD hmz)
   clear hmz hB
   go_wp2
   go_ret
   exact ⟨by rw [HE.out];rfl,HB.out⟩
abbrev ay:Type:=(Int)×(Int)
def av:Rp ay:=(Pr I I)
theorem au:Ok av:=(gP cK cK)
theorem gF {W:World}{B:Nat}{x0:Int}{x1:Int}{cs:List Value}(h:av.rd W B (x0,x1) cs):cs = [.int .i64 x0,.int .i64 x1]:=by
 obtain ⟨u1,v1,rfl,h1,g1⟩:=h
 obtain rfl:u1 = [_]:=h1
 obtain rfl:v1 = [_]:=g1
 rfl
theorem Lm {W:World}{B:Nat}{x0:Int}{x1:Int}  : av.rd W B (x0,x1) [.int .i64 x0,.int .i64 x1]:=⟨[.int .i64 x0],[.int .i64 x1],rfl,rfl,rfl⟩
theorem pY {W:World}{S:Nat→Prop}{x0:Int}{x1:Int}  : av.ow W S (x0,x1) [.int .i64 x0,.int .i64 x1]:=⟨[.int .i64 x0],[.int .i64 x1],(fun _=>False),(fun _=>False),rfl,(fun k h=>h.elim),(fun k h=>h.elim),(fun k h h'=>h.elim),rfl,rfl⟩
theorem jQ {W:World}{S:Nat→Prop}{x0:Int}{x1:Int}{cs:List Value}(h:av.ow W S (x0,x1) cs):cs = [.int .i64 x0,.int .i64 x1]:=by
 obtain ⟨u1,v1,A1,B1,rfl,sa1,sb1,dd1,h1,g1⟩:=h
 obtain rfl:u1 = [_]:=h1
 obtain rfl:v1 = [_]:=g1
 rfl
theorem nW:(I).size=1:=rfl
def yc (n:Nat):Array Value:=madeCells #[.int .i64 0] (n*1)
theorem Cm (n:Nat):(yc n).size=n*(I).size:=by unfold yc;simp [madeCells,nW]
theorem Jk (n:Nat)(hn:n≤1048576):∀ W:World,(Instr.makeSlice 70 (.int .i64 (n:Int)) (.int .i64 (n:Int))).run Tryz.prog W=.ok (.slice (some ⟨W.heap.size,0,none⟩) n n) (W.alloc (.cells (yc n) 2)):=by
 intro W
 obtain ⟨i,hi,hz,hs,hb⟩:∃ i,Tryz.prog.info? 2=some i∧i.zero=some (.int .i64 0)∧i.size=1∧i.bytes=8:=by
  have h:(Tryz.prog.info? 2).map (fun i=>(i.zero,i.size,i.bytes))=some (some (.int .i64 0),1,8):=by kernel_rfl
  cases hx:Tryz.prog.info? 2 with
  | none=>rw [hx] at h;simp at h
  | some i=>rw [hx] at h;simp at h;exact ⟨i,rfl,h.1,h.2.1,h.2.2⟩
 have hr:=run_make (P:=Tryz.prog) W 70 2 i _ Tryz.underlying70 hi hz .i64 .i64 n n (by omega) (by omega) (by rw [hb];omega) (by omega)
 rw [hs] at hr
 simp only [Int.toNat_natCast] at hr
 exact hr
theorem Qy {L:List (Int)}{a:Option Addr}{cap:Nat}{W:World}(hsz:((Sl I)).sz L≤1048576)(h:aJ I W W.heap.size L a cap):Calls Tryz.prog 129 #[.slice a L.length cap] W (jU I L W):=by
 have hn:L.length≤1048576:=eF (Nat.le_add_right _ _) hsz
 have hmk:=Jk L.length hn
 have H:=ak h
 have nI:=ak hsz
 clear h hsz
 go_enter Tryz.func129,Tryz.ntmps129
 go_wp2
 go_loopw [4] (fun i wr=>∃ k:Nat,k≤L.length∧i=.int .i64 k∧∃ Sf,sU I W wr L W.heap.size Sf k) (fun i _=>L.length-(intOf i).toNat)
 case atStart=>exact ⟨0,dV _,rfl,_,sU.new (by exact Cm _)⟩
 case round=>
  obtain ⟨k,hk,rfl,Sf,hF⟩:=hrel
  have HF:=ak hF
  by_cases hlt:k<L.length
  ·obtain ⟨x,hx⟩:=aM hlt
   have HX:=ak hx
   obtain ⟨g,o,us,rfl,hg,hu,hr⟩:=(H.out.below cK hF.below).at_ hx
   obtain rfl:us = [_]:=hr
   have e0:wr.cell? ⟨g,o+k,none⟩=some (.int .i64 x):=by simpa [nW,Nat.add_assoc] using hu 0 _ rfl
   have hi0:(0:Int)≤(k:Int):=eu _
   have hi1:(k:Int)<(L.length:Int):=by omega
   have HP:=ak (HF.out.put cK (us:=[.int .i64 x]) HX.out (aW _ _) rfl)
   obtain ⟨t0,ht0⟩:=HF.out.there k (by rw [nW];omega)
   have hs0:=HF.out.soft k
   clear hF hx hu hmk
   go_wp2
   go_roundw
   case rel=>exact ⟨k+1,by omega,by go_num,_,by simpa [putCells,nW] using HP.out⟩
   case measure=>simp [intOf];omega
  ·obtain rfl:k=L.length:=by omega
   have HR:=ak (HF.out.news (by unfold maxLen;omega))
   clear hF hmk
   go_wp2
   go_ret
   exact HR.out
theorem mQ {x0:Int}{x1:Int}  {W:World}(hsz:av.sz (x0,x1)≤1048576):Calls Tryz.prog 10 #[.agg #[.int .i64 x0,.int .i64 x1]] W (kT av (x0,x1) W):=by
 have nI:=ak hsz
 clear hsz
 go_enter Tryz.func10,Tryz.ntmps10
 go_wp2
 refine qC (v:=.agg #[.int .i64 x0,.int .i64 x1]) (by simp [results,Tryz.results10,go_sem]) rfl ⟨[.int .i64 x0,.int .i64 x1],rfl,pY,(by repeat (first | exact aW _ _ | refine Below.drew ?_ | refine Below.setCell ?_ (by first | omega | (simp;done) | (simp;omega)) _ | refine Below.alloc ?_ (by first | omega | (simp;done) | (simp;omega)) _))⟩
theorem eq_Label {x0:Int}{x1:Int}   {W:World}:Calls Tryz.prog 149 #[.agg #[.int .i64 x0,.int .i64 x1],.agg #[.int .i64 x0,.int .i64 x1]] W (sS true W):=by
 have HB0:=ak (show Below W.heap.size W ((W.alloc (.cells #[.int .i64 x0,.int .i64 x1] 49)).alloc (.cells #[.int .i64 x0,.int .i64 x1] 49)) from ((aW _ _).alloc (bK _) _).alloc (by simp) _)
 go_enter Tryz.func149,Tryz.ntmps149
 go_wp2
 all_goals
  go_ret
  exact ⟨rfl,HB0.out⟩
theorem wW:(I).size=1:=rfl
theorem eq_Int64S {L:List (Int)}{a a':Option Addr}{cap cap':Nat}{W:World}(h:aJ I W W.heap.size L a cap)(h':aJ I W W.heap.size L a' cap'):Calls Tryz.prog 150 #[.slice a L.length cap,.slice a' L.length cap'] W (sS true W):=by
 have hn:L.length≤9223372036854775807:=by have h1:=h.1;have h2:=h.2.1;unfold maxLen at h2;omega
 have H:=ak h
 have H':=ak h'
 clear h h'
 go_enter Tryz.func150,Tryz.ntmps150
 go_wp2
 go_loopw [5] (fun i wr=>∃ k:Nat,k≤L.length∧i=.int .i64 k∧Below W.heap.size W wr) (fun i _=>L.length-(intOf i).toNat)
 case atStart=>exact ⟨0,dV _,rfl,aW _ _⟩
 case round=>
  obtain ⟨k,hk,rfl,hB⟩:=hrel
  have HB:=ak hB
  have hsz:=hB.size
  by_cases hlt:k<L.length
  ·obtain ⟨x,hx⟩:=aM hlt
   have HX:=ak hx
   obtain ⟨g,o,us,rfl,hg,hu,hr⟩:=(H.out.below cK hB).at_ hx
   obtain ⟨g',o',vs,rfl,hg',hu',hr'⟩:=(H'.out.below cK hB).at_ hx
   obtain rfl:us = [_]:=hr
   obtain rfl:vs = [_]:=hr'
   have e0:wr.cell? ⟨g,o+k,none⟩=some (.int .i64 x):=by simpa [wW,Nat.add_assoc] using hu 0 _ rfl
   have d0:wr.cell? ⟨g',o'+k,none⟩=some (.int .i64 x):=by simpa [wW,Nat.add_assoc] using hu' 0 _ rfl
   have hi0:(0:Int)≤(k:Int):=eu _
   have hi1:(k:Int)<(L.length:Int):=by omega
   have hgl:g<wr.heap.size:=bV hg hsz
   have ig:g'<wr.heap.size:=bV hg' hsz
   clear hB hx hu hu'
   go_wp2_with fail
   go_quiet (fail)
   all_goals
    go_wp2
    go_roundw
    case rel=>exact ⟨k+1,by omega,by go_num,by first | exact fD HB.out _ | exact HB.out.drew | exact HB.out⟩
    case measure=>simp [intOf];omega
  ·clear hB
   go_wp2
   go_ret
   exact ⟨rfl,HB.out⟩
theorem Js (L:List (Int)):(Sl I).sz L=L.length:=by
 have:bD (I).sz L=0:=kC (fun _=>rfl) L
 simp only [Sl,this,Nat.add_zero]
theorem QG {L:List (Int)}{a:Option Addr}{cap:Nat}{W:World}{l:Int}(h0:0≤l)(h1:l≤1048576)(h:aJ I W W.heap.size L a cap):Calls Tryz.prog 122 #[.slice a L.length cap,.int .i64 l] W (JN l ((Sl I).sz L) W):=by
 have hn:L.length≤9223372036854775807:=by have h1:=h.1;have h2:=h.2.1;unfold maxLen at h2;omega
 rw [Js]
 clear h
 by_cases hf:(L.length:Int)≤l
 ·have HR:=ak (dL hf)
  go_enter Tryz.func122,Tryz.ntmps122
  go_wp2
  go_ret
  exact ⟨by first | (rw [HR.out];done) | (rw [HR.out];rfl),aW _ _⟩
 ·have HR:=ak (dI hf)
  go_enter Tryz.func122,Tryz.ntmps122
  go_wp2
  go_ret
  exact ⟨by first | (rw [HR.out];done) | (rw [HR.out];rfl),aW _ _⟩
theorem Rf {k:Int}:av.mm (k,k+1) k (k+1+1):=by
 dsimp only [av,Pr,I,atom,Sl]
 exact ⟨k+1,⟨by omega,by omega⟩,⟨by omega,by omega⟩⟩
theorem Ri {k k':Int}{x0:Int}{x1:Int}(h:av.mm (x0,x1) k k'):x0=k∧x1=k+1∧k'=k+1+1:=by
 dsimp only [av,Pr,I,atom,Sl] at h
 obtain ⟨z1,h1,g1⟩:=h
 obtain ⟨e0,f0⟩:=h1
 have e0:x0=_:=e0
 obtain ⟨e1,f1⟩:=g1
 have e1:x1=_:=e1
 exact ⟨by omega,by omega,by omega⟩
theorem eY:Mn av:=(jV pG pG)
theorem kQ:(I).size=1:=rfl
theorem Jg {L:List (Int)}{a:Option Addr}{cap:Nat}{W:World}{S:Nat→Prop}{k:Int}(h0:0≤k)(h1:k+(bD (I).cm L:Nat)≤4611686018427387904)(hS:∀ i,S i→i<W.heap.size)(h:bH I W S L a cap):Calls Tryz.prog 92 #[.slice a L.length cap,.int .i64 k] W (jD I S L a cap k W):=by
 have hcap:=h.1
 have hmax:=h.2.1
 have hn:L.length≤9223372036854775807:=by have h2:=h.2.1;unfold maxLen at h2;omega
 have H:=ak h
 have HCAP:=ak hcap
 have qP:=ak hmax
 clear h hcap hmax
 rcases Nat.eq_zero_or_pos L.length with hz | hpos
 ·have HR:=ak (jD.none_ (k:=k) H.out hz)
  have HZ:=ak hz
  rw [hz]
  clear hz
  go_enter Tryz.func92,Tryz.ntmps92
  go_wp2
  go_loopw [5,1] (fun i q wr=>i=.int .i64 0∧q=.int .i64 k∧wr=W) (fun i _ _=>0)
  case atStart=>exact ⟨rfl,rfl,rfl⟩
  case round=>
   obtain ⟨rfl,rfl,rfl⟩:=hrel
   go_wp2
   go_ret
   exact HR.out
 ·obtain ⟨g,Sf,rfl,hrow⟩:=H.out.row hpos
  have HM:=ak (xG.start (k:=k) hrow)
  clear hrow
  go_enter Tryz.func92,Tryz.ntmps92
  go_wp2
  go_loopw [5,1] (fun i q wr=>∃ j:Nat,j≤L.length∧i=.int .i64 j∧∃ (M:List (Int)) (z:Int),q=.int .i64 z∧xG I W wr S L g Sf k z j M) (fun i _ _=>L.length-(intOf i).toNat)
  case atStart=>exact ⟨0,dV _,rfl,_,_,rfl,HM.out⟩
  case round=>
   obtain ⟨j,hj,rfl,M,z,rfl,hM⟩:=hrel
   have je:=ak hM
   have aj:∀ i,S i→i<wr.heap.size:=fun i hi=>bV (hS i hi) hM.off.size
   have Aa:=ak aj
   by_cases hlt:j<L.length
   ·obtain ⟨x,hx⟩:=aM hlt
    have HX:=ak hx
    have hcm:=fB (I).cm hx
    have hle:=dh (I).cm L (j+1)
    have qL:=hM.num
    obtain ⟨us,hu,hr⟩:=hM.el hx
    obtain rfl:us = [_]:=hr
    have hgl:g<wr.heap.size:=aj g hM.row.own
    have hi0:(0:Int)≤(j:Int):=eu _
    have hi1:(j:Int)<(L.length:Int):=by omega
    have hz0:0≤z:=by omega
    have e0:wr.cell? ⟨g,j,none⟩=some (.int .i64 x):=by simpa [kQ] using hu 0 _ rfl
    have s0:=hM.row.soft j
    have hz1:z+1≤4611686018427387904:=by rw [hcm] at hle;have:I.cm x=1:=rfl;omega
    have iY:=ak (je.out.step cK (w':=putCells wr g (j*1) [.int .i64 z]) (y:=z) (us:=[.int .i64 z]) (q':=z+1) Aa.out HX.out (ni.put wr (Sf j) (o:=j*1) ⟨by simp [kQ],by first | (simp [kQ];done) | (simp [kQ];omega)⟩) ((dO g _ wr _).more (fun x e=>by rw [e];exact je.out.row.own)) (by simpa [kQ] using dn g [.int .i64 z] wr (j*1) (fun p hp=>by simp at hp;subst hp;exact ⟨_,by simpa using e0⟩)) rfl ⟨rfl,rfl⟩ rfl)
    clear hM aj hx hu hcm hle qL
    go_wp2
    go_roundw
    case rel=>exact ⟨j+1,by omega,by go_num,_,_,rfl,by simpa [putCells] using iY.out⟩
    case measure=>simp [intOf];omega
   ·obtain rfl:j=L.length:=by omega
    have HR:=ak (je.out.done HCAP.out qP.out)
    clear hM aj
    go_wp2
    go_ret
    exact HR.out
theorem nV:(av).size=2:=rfl
def xZ (n:Nat):Array Value:=madeCells #[.int .i64 0,.int .i64 0] (n*2)
theorem Ck (n:Nat):(xZ n).size=n*(av).size:=by unfold xZ;simp [madeCells,nV]
theorem Jj (n:Nat)(hn:n≤1048576):∀ W:World,(Instr.makeSlice 155 (.int .i64 (n:Int)) (.int .i64 (n:Int))).run Tryz.prog W=.ok (.slice (some ⟨W.heap.size,0,none⟩) n n) (W.alloc (.cells (xZ n) 49)):=by
 intro W
 obtain ⟨i,hi,hz,hs,hb⟩:∃ i,Tryz.prog.info? 49=some i∧i.zero=some (.agg #[.int .i64 0,.int .i64 0])∧i.size=2∧i.bytes=16:=by
  have h:(Tryz.prog.info? 49).map (fun i=>(i.zero,i.size,i.bytes))=some (some (.agg #[.int .i64 0,.int .i64 0]),2,16):=by kernel_rfl
  cases hx:Tryz.prog.info? 49 with
  | none=>rw [hx] at h;simp at h
  | some i=>rw [hx] at h;simp at h;exact ⟨i,rfl,h.1,h.2.1,h.2.2⟩
 have hr:=run_make (P:=Tryz.prog) W 155 49 i _ Tryz.underlying155 hi hz .i64 .i64 n n (by omega) (by omega) (by rw [hb];omega) (by omega)
 rw [hs] at hr
 simp only [Int.toNat_natCast] at hr
 exact hr
theorem Qx {L:List (ay)}{a:Option Addr}{cap:Nat}{W:World}(hsz:((Sl av)).sz L≤1048576)(h:aJ av W W.heap.size L a cap):Calls Tryz.prog 125 #[.slice a L.length cap] W (jU av L W):=by
 have hn:L.length≤1048576:=eF (Nat.le_add_right _ _) hsz
 have hmk:=Jj L.length hn
 have H:=ak h
 have nI:=ak hsz
 clear h hsz
 go_enter Tryz.func125,Tryz.ntmps125
 go_wp2
 go_loopw [4] (fun i wr=>∃ k:Nat,k≤L.length∧i=.int .i64 k∧∃ Sf,sU av W wr L W.heap.size Sf k) (fun i _=>L.length-(intOf i).toNat)
 case atStart=>exact ⟨0,dV _,rfl,_,sU.new (by exact Ck _)⟩
 case round=>
  obtain ⟨k,hk,rfl,Sf,hF⟩:=hrel
  have HF:=ak hF
  by_cases hlt:k<L.length
  ·obtain ⟨⟨x0,x1⟩,hx⟩:=aM hlt
   have HX:=ak hx
   obtain ⟨g,o,us,rfl,hg,hu,hr⟩:=(H.out.below au hF.below).at_ hx
   obtain rfl:=gF hr
   obtain ⟨e0,e1⟩:=ny (a:=o+k*2) hu rfl
   have hi0:(0:Int)≤(k:Int):=eu _
   have hi1:(k:Int)<(L.length:Int):=by omega
   have HE:=ak (vS (f:=(av).sz) HX.out nI.out)
   clear hF hx hu hmk
   go_wp2_with fail
   refine (mQ (by exact HE.out)).mono ?_
   intro e w1 h
   obtain ⟨vs,rfl,how,hb⟩:=bY h
   have HOW:=ak how
   obtain rfl:=jQ how
   have HP:=ak (HF.out.put au HX.out hb HOW.out)
   have hlt1:=HF.out.lt
   obtain ⟨t0,ht0⟩:=HF.out.there (k*2) (by rw [nV];omega)
   have q0:=(hb.cell (p:=⟨W.heap.size,k*2,none⟩) hlt1).trans ht0
   have s0:=(hb.frozen (p:=⟨W.heap.size,k*2,none⟩) hlt1).trans (HF.out.soft (k*2))
   obtain ⟨t1,ht1⟩:=HF.out.there (k*2+1) (by rw [nV];omega)
   have q1:=(hb.cell (p:=⟨W.heap.size,k*2+1,none⟩) hlt1).trans ht1
   have s1:=(hb.frozen (p:=⟨W.heap.size,k*2+1,none⟩) hlt1).trans (HF.out.soft (k*2+1))
   clear h how hb ht0 ht1 e0 e1
   go_wp2
   go_roundw
   case rel=>exact ⟨k+1,by omega,by go_num,_,by simpa [putCells,nV,Nat.add_assoc] using HP.out⟩
   case measure=>simp [intOf];omega
  ·obtain rfl:k=L.length:=by omega
   have HR:=ak (HF.out.news (by unfold maxLen;omega))
   clear hF hmk
   go_wp2
   go_ret
   exact HR.out
theorem lH:((Sl av)).size=1:=rfl
def uT (n:Nat):Array Value:=madeCells #[.slice none 0 0] (n*1)
theorem zK (n:Nat):(uT n).size=n*((Sl av)).size:=by unfold uT;simp [madeCells,lH]
theorem Fy (n:Nat)(hn:n≤1048576):∀ W:World,(Instr.makeSlice 35 (.int .i64 (n:Int)) (.int .i64 (n:Int))).run Tryz.prog W=.ok (.slice (some ⟨W.heap.size,0,none⟩) n n) (W.alloc (.cells (uT n) 155)):=by
 intro W
 obtain ⟨i,hi,hz,hs,hb⟩:∃ i,Tryz.prog.info? 155=some i∧i.zero=some (.slice none 0 0)∧i.size=1∧i.bytes=24:=by
  have h:(Tryz.prog.info? 155).map (fun i=>(i.zero,i.size,i.bytes))=some (some (.slice none 0 0),1,24):=by kernel_rfl
  cases hx:Tryz.prog.info? 155 with
  | none=>rw [hx] at h;simp at h
  | some i=>rw [hx] at h;simp at h;exact ⟨i,rfl,h.1,h.2.1,h.2.2⟩
 have hr:=run_make (P:=Tryz.prog) W 35 155 i _ Tryz.underlying35 hi hz .i64 .i64 n n (by omega) (by omega) (by rw [hb];omega) (by omega)
 rw [hs] at hr
 simp only [Int.toNat_natCast] at hr
 exact hr
theorem KI {L:List (List (ay))}{a:Option Addr}{cap:Nat}{W:World}(hsz:((Sl (Sl av))).sz L≤1048576)(h:aJ (Sl av) W W.heap.size L a cap):Calls Tryz.prog 70 #[.slice a L.length cap] W (jU (Sl av) L W):=by
 have hn:L.length≤1048576:=eF (Nat.le_add_right _ _) hsz
 have hmk:=Fy L.length hn
 have H:=ak h
 have nI:=ak hsz
 clear h hsz
 go_enter Tryz.func70,Tryz.ntmps70
 go_wp2
 go_loopw [4] (fun i wr=>∃ k:Nat,k≤L.length∧i=.int .i64 k∧∃ Sf,sU (Sl av) W wr L W.heap.size Sf k) (fun i _=>L.length-(intOf i).toNat)
 case atStart=>exact ⟨0,dV _,rfl,_,sU.new (by exact zK _)⟩
 case round=>
  obtain ⟨k,hk,rfl,Sf,hF⟩:=hrel
  have HF:=ak hF
  by_cases hlt:k<L.length
  ·obtain ⟨x,hx⟩:=aM hlt
   have HX:=ak hx
   obtain ⟨g,o,us,rfl,hg,hu,hr⟩:=(H.out.below (aZ au) hF.below).at_ hx
   obtain ⟨a1,c1,rfl,uH⟩:=hr
   have e0:wr.cell? ⟨g,o+k,none⟩=some (.slice a1 x.length c1):=by simpa [lH,Nat.add_assoc] using hu 0 _ rfl
   have hi0:(0:Int)≤(k:Int):=eu _
   have hi1:(k:Int)<(L.length:Int):=by omega
   have HE:=ak (vS (f:=((Sl av)).sz) HX.out nI.out)
   have HK:=ak (uH.more au (Nat.le_of_lt HF.out.lt))
   clear hF hx hu hmk uH
   go_wp2_with fail
   refine (Qx (by exact HE.out) (by exact HK.out)).mono ?_
   intro e w1 h
   obtain ⟨b0,d0,rfl,how,hb⟩:=bL h
   have HOW:=ak (show ((Sl av)).ow _ _ x [.slice b0 x.length d0] from ⟨b0,d0,rfl,how⟩)
   have HP:=ak (HF.out.put (aZ au) HX.out hb HOW.out)
   have hlt1:=HF.out.lt
   obtain ⟨t0,ht0⟩:=HF.out.there (k) (by rw [lH];omega)
   have q0:=(hb.cell (p:=⟨W.heap.size,k,none⟩) hlt1).trans ht0
   have s0:=(hb.frozen (p:=⟨W.heap.size,k,none⟩) hlt1).trans (HF.out.soft (k))
   clear h how hb ht0 e0
   go_wp2
   go_roundw
   case rel=>exact ⟨k+1,by omega,by go_num,_,by simpa [putCells,lH,Nat.add_assoc] using HP.out⟩
   case measure=>simp [intOf];omega
  ·obtain rfl:k=L.length:=by omega
   have HR:=ak (HF.out.news (by unfold maxLen;omega))
   clear hF hmk
   go_wp2
   go_ret
   exact HR.out
theorem lG:(av).size=2:=rfl
theorem eq_LabelS {L:List (ay)}{a a':Option Addr}{cap cap':Nat}{W:World}(h:aJ av W W.heap.size L a cap)(h':aJ av W W.heap.size L a' cap'):Calls Tryz.prog 145 #[.slice a L.length cap,.slice a' L.length cap'] W (sS true W):=by
 have hn:L.length≤9223372036854775807:=by have h1:=h.1;have h2:=h.2.1;unfold maxLen at h2;omega
 have H:=ak h
 have H':=ak h'
 clear h h'
 go_enter Tryz.func145,Tryz.ntmps145
 go_wp2
 go_loopw [5] (fun i wr=>∃ k:Nat,k≤L.length∧i=.int .i64 k∧Below W.heap.size W wr) (fun i _=>L.length-(intOf i).toNat)
 case atStart=>exact ⟨0,dV _,rfl,aW _ _⟩
 case round=>
  obtain ⟨k,hk,rfl,hB⟩:=hrel
  have HB:=ak hB
  have hsz:=hB.size
  by_cases hlt:k<L.length
  ·obtain ⟨⟨x0,x1⟩,hx⟩:=aM hlt
   have HX:=ak hx
   obtain ⟨g,o,us,rfl,hg,hu,hr⟩:=(H.out.below au hB).at_ hx
   obtain ⟨g',o',vs,rfl,hg',hu',hr'⟩:=(H'.out.below au hB).at_ hx
   obtain rfl:=gF hr
   obtain rfl:=gF hr'
   have e0:wr.cell? ⟨g,o+k*2,none⟩=some (.int .i64 x0):=by simpa [lG,Nat.add_assoc] using hu 0 _ rfl
   have d0:wr.cell? ⟨g',o'+k*2,none⟩=some (.int .i64 x0):=by simpa [lG,Nat.add_assoc] using hu' 0 _ rfl
   have e1:wr.cell? ⟨g,o+k*2+1,none⟩=some (.int .i64 x1):=by simpa [lG,Nat.add_assoc] using hu 1 _ rfl
   have d1:wr.cell? ⟨g',o'+k*2+1,none⟩=some (.int .i64 x1):=by simpa [lG,Nat.add_assoc] using hu' 1 _ rfl
   have hi0:(0:Int)≤(k:Int):=eu _
   have hi1:(k:Int)<(L.length:Int):=by omega
   have hgl:g<wr.heap.size:=bV hg hsz
   have ig:g'<wr.heap.size:=bV hg' hsz
   clear hB hx hu hu'
   go_wp2_with fail
   refine dX (S:=(fun W=>W.cell? ⟨g,o+k*2,none⟩=some (.int .i64 x0)∧W.cell? ⟨g,o+k*2+1,none⟩=some (.int .i64 x1)∧W.cell? ⟨g',o'+k*2,none⟩=some (.int .i64 x0)∧W.cell? ⟨g',o'+k*2+1,none⟩=some (.int .i64 x1)∧wr.heap.size≤W.heap.size∧Below wr.heap.size wr W)) (by kernel_rfl) (⟨e0,e1,d0,d1,bK _,(aW _ _).drew⟩) (fun ah=>?_)
   refine wpAnyH_take (i:=0) (v:=?hv1) rfl (by kernel_rfl) (by kernel_rfl) (by kernel_rfl) (fun _ _ _ h=>h) (Or.inl ⟨by kernel_rfl,?hy1⟩) ah ?hr1
   case hy1=>(intro w aj;(try dsimp only at aj);go_simp;try with_reducible rfl)
   refine wpAnyH_take (i:=1) (v:=?hv2) rfl (by kernel_rfl) (by kernel_rfl) (by kernel_rfl) (fun _ _ _ h=>h) (Or.inl ⟨by kernel_rfl,?hy2⟩) ah ?hr2
   case hy2=>(intro w aj;(try dsimp only at aj);go_simp;try with_reducible rfl)
   refine wpAnyH_take (i:=2) (v:=?hv3) rfl (by kernel_rfl) (by kernel_rfl) (by kernel_rfl) (fun _ _ _ h=>h) (Or.inl ⟨by kernel_rfl,?hy3⟩) ah ?hr3
   case hy3=>(intro w aj;(try dsimp only at aj);go_simp;try with_reducible rfl)
   refine wpAnyH_take (i:=3) (v:=?hv4) rfl (by kernel_rfl) (by kernel_rfl) (by kernel_rfl) (fun _ _ _ h=>h) (Or.inl ⟨by kernel_rfl,?hy4⟩) ah ?hr4
   case hy4=>(intro w aj;(try dsimp only at aj);go_simp;try with_reducible rfl)
   refine wpAnyH_take (i:=4) (v:=?hv5) rfl (by kernel_rfl) (by kernel_rfl) (by kernel_rfl) (fun _ _ _ h=>h) (Or.inl ⟨by kernel_rfl,?XD⟩) ah ?hr5
   case XD=>(intro w aj;(try dsimp only at aj);go_simp;try with_reducible rfl)
   refine wpAnyH_take (i:=5) (v:=?hv6) rfl (by kernel_rfl) (by kernel_rfl) (by kernel_rfl) (fun _ _ _ h=>h) (Or.inl ⟨by kernel_rfl,?XC⟩) ah ?hr6
   case XC=>(intro w aj;(try dsimp only at aj);go_simp;try with_reducible rfl)
   refine wpAnyH_take (i:=6) (v:=?hv7) rfl (by kernel_rfl) (by kernel_rfl) (by kernel_rfl) (fun _ _ _ h=>h) (Or.inl ⟨by kernel_rfl,?XB⟩) ah ?hr7
   case XB=>(intro w aj;(try dsimp only at aj);go_simp;try with_reducible rfl)
   refine wpAnyH_take (i:=7) (v:=?hv8) rfl (by kernel_rfl) (by kernel_rfl) (by kernel_rfl) (fun _ _ _ h=>h) (Or.inl ⟨by kernel_rfl,?XA⟩) ah ?hr8
   case XA=>(intro w aj;(try dsimp only at aj);go_simp;try with_reducible rfl)
   refine dw 8 (fun K hK=>?_)
   go_simp
   refine (eq_Label).mono ?_
   intro e w1 h
   obtain ⟨rfl,hb⟩:=bU h
   refine hK.out _ _ (⟨(hb.cell (p:=⟨g,o+k*2,none⟩) (bV hgl ah.2.2.2.2.1)).trans ah.1,(hb.cell (p:=⟨g,o+k*2+1,none⟩) (bV hgl ah.2.2.2.2.1)).trans ah.2.1,(hb.cell (p:=⟨g',o'+k*2,none⟩) (bV ig ah.2.2.2.2.1)).trans ah.2.2.1,(hb.cell (p:=⟨g',o'+k*2+1,none⟩) (bV ig ah.2.2.2.2.1)).trans ah.2.2.2.1,eF ah.2.2.2.2.1 hb.size,ah.2.2.2.2.2.trans (hb.mono ah.2.2.2.2.1)⟩) (fun ah=>?_)
   clear hK K h
   refine tk 9 ah ?_
   refine dQ ?_
   have HB2:=ak (HB.out.trans (ah.2.2.2.2.2.mono hsz))
   clear ah
   go_wp2
   go_roundw
   case rel=>exact ⟨k+1,by omega,by go_num,HB2.out⟩
   case measure=>simp [intOf];omega
  ·clear hB
   go_wp2
   go_ret
   exact ⟨rfl,HB.out⟩
theorem uw:((Sl av)).size=1:=rfl
theorem eq_LabelSS {L:List (List (ay))}{a a':Option Addr}{cap cap':Nat}{W:World}(h:aJ (Sl av) W W.heap.size L a cap)(h':aJ (Sl av) W W.heap.size L a' cap'):Calls Tryz.prog 81 #[.slice a L.length cap,.slice a' L.length cap'] W (sS true W):=by
 have hn:L.length≤9223372036854775807:=by have h1:=h.1;have h2:=h.2.1;unfold maxLen at h2;omega
 have H:=ak h
 have H':=ak h'
 clear h h'
 go_enter Tryz.func81,Tryz.ntmps81
 go_wp2
 go_loopw [5] (fun i wr=>∃ k:Nat,k≤L.length∧i=.int .i64 k∧Below W.heap.size W wr) (fun i _=>L.length-(intOf i).toNat)
 case atStart=>exact ⟨0,dV _,rfl,aW _ _⟩
 case round=>
  obtain ⟨k,hk,rfl,hB⟩:=hrel
  have HB:=ak hB
  have hsz:=hB.size
  by_cases hlt:k<L.length
  ·obtain ⟨x,hx⟩:=aM hlt
   have HX:=ak hx
   obtain ⟨g,o,us,rfl,hg,hu,hr⟩:=(H.out.below (aZ au) hB).at_ hx
   obtain ⟨g',o',vs,rfl,hg',hu',hr'⟩:=(H'.out.below (aZ au) hB).at_ hx
   obtain ⟨a1,c1,rfl,uH⟩:=hr
   obtain ⟨a1',c1',rfl,k'_x⟩:=hr'
   have e0:wr.cell? ⟨g,o+k,none⟩=some (.slice a1 x.length c1):=by simpa [uw,Nat.add_assoc] using hu 0 _ rfl
   have d0:wr.cell? ⟨g',o'+k,none⟩=some (.slice a1' x.length c1'):=by simpa [uw,Nat.add_assoc] using hu' 0 _ rfl
   have hi0:(0:Int)≤(k:Int):=eu _
   have hi1:(k:Int)<(L.length:Int):=by omega
   have hgl:g<wr.heap.size:=bV hg hsz
   have ig:g'<wr.heap.size:=bV hg' hsz
   have K:=ak (uH.more au hsz)
   have K':=ak (k'_x.more au hsz)
   clear hB hx hu hu' uH k'_x
   go_wp2_with fail
   refine dX (S:=(fun W=>W.cell? ⟨g,o+k,none⟩=some (.slice a1 x.length c1)∧W.cell? ⟨g',o'+k,none⟩=some (.slice a1' x.length c1')∧wr.heap.size≤W.heap.size∧Below wr.heap.size wr W)) (by kernel_rfl) (⟨e0,d0,bK _,(aW _ _).drew⟩) (fun ah=>?_)
   refine wpAnyH_take (i:=0) (v:=?hv10) rfl (by kernel_rfl) (by kernel_rfl) (by kernel_rfl) (fun _ _ _ h=>h) (Or.inl ⟨by kernel_rfl,?Tc⟩) ah ?hr10
   case Tc=>(intro w aj;(try dsimp only at aj);go_simp;try with_reducible rfl)
   refine wpAnyH_take (i:=1) (v:=?hv11) rfl (by kernel_rfl) (by kernel_rfl) (by kernel_rfl) (fun _ _ _ h=>h) (Or.inl ⟨by kernel_rfl,?Ta⟩) ah ?hr11
   case Ta=>(intro w aj;(try dsimp only at aj);go_simp;try with_reducible rfl)
   refine wpAnyH_take (i:=2) (v:=?hv12) rfl (by kernel_rfl) (by kernel_rfl) (by kernel_rfl) (fun _ _ _ h=>h) (Or.inl ⟨by kernel_rfl,?S9⟩) ah ?hr12
   case S9=>(intro w aj;(try dsimp only at aj);go_simp;try with_reducible rfl)
   refine wpAnyH_take (i:=3) (v:=?hv13) rfl (by kernel_rfl) (by kernel_rfl) (by kernel_rfl) (fun _ _ _ h=>h) (Or.inl ⟨by kernel_rfl,?SY⟩) ah ?hr13
   case SY=>(intro w aj;(try dsimp only at aj);go_simp;try with_reducible rfl)
   refine wpAnyH_take (i:=4) (v:=?hv14) rfl (by kernel_rfl) (by kernel_rfl) (by kernel_rfl) (fun _ _ _ h=>h) (Or.inl ⟨by kernel_rfl,?SX⟩) ah ?hr14
   case SX=>(intro w aj;(try dsimp only at aj);go_simp;try with_reducible rfl)
   refine wpAnyH_take (i:=5) (v:=?hv15) rfl (by kernel_rfl) (by kernel_rfl) (by kernel_rfl) (fun _ _ _ h=>h) (Or.inl ⟨by kernel_rfl,?SV⟩) ah ?hr15
   case SV=>(intro w aj;(try dsimp only at aj);go_simp;try with_reducible rfl)
   refine wpAnyH_take (i:=6) (v:=?hv16) rfl (by kernel_rfl) (by kernel_rfl) (by kernel_rfl) (fun _ _ _ h=>h) (Or.inl ⟨by kernel_rfl,?SS⟩) ah ?hr16
   case SS=>(intro w aj;(try dsimp only at aj);go_simp;try with_reducible rfl)
   refine wpAnyH_take (i:=7) (v:=?hv17) rfl (by kernel_rfl) (by kernel_rfl) (by kernel_rfl) (fun _ _ _ h=>h) (Or.inl ⟨by kernel_rfl,?SQ⟩) ah ?hr17
   case SQ=>(intro w aj;(try dsimp only at aj);go_simp;try with_reducible rfl)
   refine wpAnyH_ready (rs:=[8]) (by kernel_rfl) (by simp) ?_
   refine AllReadyH.cons rfl (fun KK hK=>?_) AllReadyH.nil
   go_simp
   refine (eq_LabelS ((K.out.below au (by exact ah.2.2.2)).more au (by exact ah.2.2.1)) ((K'.out.below au (by exact ah.2.2.2)).more au (by exact ah.2.2.1))).mono ?_
   intro e w1 h
   obtain ⟨rfl,hb⟩:=bU h
   refine hK.out _ _ (⟨(hb.cell (p:=⟨g,o+k,none⟩) (bV hgl ah.2.2.1)).trans ah.1,(hb.cell (p:=⟨g',o'+k,none⟩) (bV ig ah.2.2.1)).trans ah.2.1,eF ah.2.2.1 hb.size,ah.2.2.2.trans (hb.mono ah.2.2.1)⟩) (fun ah=>?_)
   clear hK KK h
   refine wpAnyH_take (i:=9) (v:=?hv18) rfl (by kernel_rfl) (by kernel_rfl) (by kernel_rfl) (fun _ _ _ h=>h) (Or.inl ⟨by kernel_rfl,?SL⟩) ah ?hr18
   case SL=>(intro w aj;(try dsimp only at aj);go_simp;try with_reducible rfl)
   refine dQ ?_
   have HB2:=ak (HB.out.trans (ah.2.2.2.mono hsz))
   clear ah
   go_wp2
   go_roundw
   case rel=>exact ⟨k+1,by omega,by go_num,HB2.out⟩
   case measure=>simp [intOf];omega
  ·clear hB
   go_wp2
   go_ret
   exact ⟨rfl,HB.out⟩
theorem Jr (L:List (ay)):(Sl av).sz L=L.length:=by
 have:bD (av).sz L=0:=kC (fun _=>rfl) L
 simp only [Sl,this,Nat.add_zero]
theorem QF {L:List (ay)}{a:Option Addr}{cap:Nat}{W:World}{l:Int}(h0:0≤l)(h1:l≤1048576)(h:aJ av W W.heap.size L a cap):Calls Tryz.prog 120 #[.slice a L.length cap,.int .i64 l] W (JN l ((Sl av).sz L) W):=by
 have hn:L.length≤9223372036854775807:=by have h1:=h.1;have h2:=h.2.1;unfold maxLen at h2;omega
 rw [Jr]
 clear h
 by_cases hf:(L.length:Int)≤l
 ·have HR:=ak (dL hf)
  go_enter Tryz.func120,Tryz.ntmps120
  go_wp2
  go_ret
  exact ⟨by first | (rw [HR.out];done) | (rw [HR.out];rfl),aW _ _⟩
 ·have HR:=ak (dI hf)
  go_enter Tryz.func120,Tryz.ntmps120
  go_wp2
  go_ret
  exact ⟨by first | (rw [HR.out];done) | (rw [HR.out];rfl),aW _ _⟩
theorem Fb:((Sl av)).size=1:=rfl
theorem IZ (L:List (List (ay))):(Sl (Sl av)).sz L=L.length+bD ((Sl av)).sz L:=rfl
theorem KP {L:List (List (ay))}{a:Option Addr}{cap:Nat}{W:World}{l:Int}(h0:0≤l)(h1:l≤1048576)(h:aJ (Sl av) W W.heap.size L a cap):Calls Tryz.prog 60 #[.slice a L.length cap,.int .i64 l] W (JN l ((Sl (Sl av)).sz L) W):=by
 have hn:L.length≤9223372036854775807:=by have h1:=h.1;have h2:=h.2.1;unfold maxLen at h2;omega
 have H:=ak h
 have HD:=ak (IZ L)
 clear h
 by_cases hlen:(L.length:Int)≤l
 ·go_enter Tryz.func60,Tryz.ntmps60
  go_wp2
  go_loopw [5,1] (fun i q wr=>∃ k:Nat,k≤L.length∧i=.int .i64 k∧(L.length:Int)+(bD ((Sl av)).sz (L.take k):Nat)≤l∧q=.int .i64 (l-L.length-(bD ((Sl av)).sz (L.take k):Nat))∧Below W.heap.size W wr) (fun i _ _=>L.length-(intOf i).toNat)
  case atStart=>exact ⟨0,dV _,rfl,by simpa [bD] using hlen,by simp [bD],aW _ _⟩
  case round=>
   obtain ⟨k,hk,rfl,hfit,rfl,hB⟩:=hrel
   have HB:=ak hB
   have hsz:=hB.size
   have hle:=dh ((Sl av)).sz L k
   by_cases hlt:k<L.length
   ·obtain ⟨x,hx⟩:=aM hlt
    have HS:=ak (fB ((Sl av)).sz hx)
    have hle2:=dh ((Sl av)).sz L (k+1)
    obtain ⟨g,o,us,rfl,hg,hu,hr⟩:=(H.out.below (aZ au) hB).at_ hx
    obtain ⟨a1,c1,rfl,uH⟩:=hr
    have e0:wr.cell? ⟨g,o+k,none⟩=some (.slice a1 x.length c1):=by simpa [Fb,Nat.add_assoc] using hu 0 _ rfl
    have K_x:=ak (uH.more au hsz)
    obtain ⟨q,hq⟩:∃ q,q=bD ((Sl av)).sz (L.take k):=⟨_,rfl⟩
    obtain ⟨p,hp⟩:∃ p,p=((Sl av)).sz x:=⟨_,rfl⟩
    rw [←hq] at hfit hle HS
    rw [←hp] at HS
    have HQ:=ak hq
    have HP:=ak hp
    have hi0:(0:Int)≤(k:Int):=eu _
    have hi1:(k:Int)<(L.length:Int):=by omega
    have hgl:g<wr.heap.size:=bV hg hsz
    have hle3:q+p≤bD ((Sl av)).sz L:=by rw [←HS.out];exact hle2
    rw [←hq]
    clear hB hx hu uH hq hp hle2
    go_wp2_with fail
    refine (QF (by omega) (by omega) K_x.out).mono ?_
    intro e w1 h
    obtain ⟨rfl,hb⟩:=gD h
    rw [←HP.out]
    have HB2:=ak (HB.out.trans (hb.mono hsz))
    clear h hb
    by_cases hf:(p:Int)≤l-L.length-(q:Nat)
    ·rw [dL hf]
     have hpos:(0:Int)≤l-L.length-(q:Nat)-(p:Nat):=by omega
     go_wp2
     go_roundw
     case rel=>exact ⟨k+1,by omega,by go_num,by rw [HS.out];omega,by rw [HS.out];congr 1;omega,HB2.out⟩
     case measure=>simp [intOf];omega
    ·rw [dI hf]
     have HR:=ak (dI (l:=l) (s:=(Sl (Sl av)).sz L) (by rw [HD.out];omega))
     go_wp2
     go_ret
     exact ⟨by first | (rw [HR.out];done) | (rw [HR.out];rfl),HB2.out⟩
   ·obtain rfl:k=L.length:=by omega
    have HR:=ak (dL (l:=l) (s:=(Sl (Sl av)).sz L) (by rw [HD.out];rw [List.take_length] at hfit;omega))
    have HT:=ak (show L.take L.length=L from List.take_length)
    clear hB
    go_wp2
    go_ret
    exact ⟨by rw [HR.out,HD.out,←HT.out];first | rfl | (simp;done) | (simp;omega),HB.out⟩
 ·have HR:=ak (dI (l:=l) (s:=(Sl (Sl av)).sz L) (by rw [HD.out];omega))
  go_enter Tryz.func60,Tryz.ntmps60
  go_wp2
  go_ret
  exact ⟨by first | (rw [HR.out];done) | (rw [HR.out];rfl),aW _ _⟩
end
end Go.Proofs.YtlhfiapfncikdaaGreatDoor.aQ
