/- How a law's functions on data end: general in the program. -/
import Derived.Test.YtfmgjkmlnaeagaaRep2
import Derived.LoopTactic
import Derived.BigQuiet
import Derived.Deep.QuietTactic
import Derived.Deep.RegionWith
import Derived.Deep.RegionHeld3
import Derived.Deep.DeepCutAuto
import Derived.RegionTactic
import Derived.WalkSpells
import Derived.WalkLawsBesides
import Derived.IntWalk
import Derived.Lib.Hide
import Derived.Laws.MakeOwn
import Derived.Laws.Entries
namespace Go.Proofs.Ytfmgjkmlnaeagaa.RepC
open Go.RowKit RowC ValC
set_option linter.unusedVariables false

/-- a block that is known whole, soft -/
def Blk (w : World) (g : Nat) (t : TypeId) (cs : Array Value) : Prop := w.heap[g]? = some (.cells cs t (0, 0))
section
variable {w w' : World} {g : Nat} {t : TypeId} {cs : Array Value}
theorem Blk.lt (h : Blk w g t cs) : g < w.heap.size := (Array.getElem?_eq_some_iff.1 h).1
theorem Blk.at_ (h : Blk w g t cs) (i : Nat) {v : Value} (hv : cs[i]? = some v) : w.cell? ⟨g, i, none⟩ = some v := (cell_of_row w g i cs t (0, 0) h).trans hv
theorem Blk.soft (h : Blk w g t cs) (i : Nat) : w.frozen? ⟨g, i, none⟩ = false := by
  unfold Blk at h
  simp [World.frozen?, h]
theorem Blk.new (w : World) (t : TypeId) (cs : Array Value) : Blk (w.alloc (.cells cs t)) w.heap.size t cs := heap_alloc_new w _
theorem Blk.alloc (h : Blk w g t cs) (o : Obj) : Blk (w.alloc o) g t cs := (Below.heap_alloc w o g h.lt).trans h
theorem Blk.set (h : Blk w g t cs) (i : Nat) (u : Value) : Blk (w.setCell ⟨g, i, none⟩ u) g t (cs.setIfInBounds i u) := by
  unfold Blk at h ⊢
  simp [World.setCell, Array.getElem?_modify, h]
theorem Blk.far (h : Blk w g t cs) {b o : Nat} (hp : g ≠ b) (u : Value) : Blk (w.setCell ⟨b, o, none⟩ u) g t cs := (Below.heap_setCell w ⟨b, o, none⟩ u g hp).trans h
theorem Blk.call (h : Blk w g t cs) (hb : Below w.heap.size w w') : Blk w' g t cs := (hb.block g h.lt).trans h
theorem Blk.as (h : Blk w g t cs) {ds : Array Value} (e : cs = ds) : Blk w g t ds := e ▸ h
end
theorem bdrewN {B : Nat} {w W : World} (h : Below B w W) (n : Nat) : Below B w (W.drewN n) := ⟨h.os, h.tape, h.output, h.size, h.block⟩
/-- what is left of l behind s; -1 where it does not suffice -/
def szR (l : Int) (s : Nat) : Int := if (s : Int) ≤ l then l - s else -1
theorem szR_yes {l : Int} {s : Nat} (h : (s : Int) ≤ l) : szR l s = l - s := if_pos h
theorem szR_no {l : Int} {s : Nat} (h : ¬ (s : Int) ≤ l) : szR l s = -1 := if_neg h
def SzC (l : Int) (s : Nat) (w : World) (e : Ending) (w' : World) : Prop := e = .returned (.int .i64 (szR l s)) ∧ Below w.heap.size w w'
theorem szC_elim {l : Int} {s : Nat} {w : World} {e : Ending} {w' : World} (h : SzC l s w e w') : e = .returned (.int .i64 (szR l s)) ∧ Below w.heap.size w w' := h
theorem sumL_zero {α : Type} {f : α → Nat} (h : ∀ x, f x = 0) : ∀ L : List α, sumL f L = 0
  | [] => rfl
  | x :: xs => by simp only [sumL, h x, sumL_zero h xs]
theorem sumL_take {α : Type} (f : α → Nat) {L : List α} {k : Nat} {x : α} (h : L[k]? = some x) : sumL f (L.take (k + 1)) = sumL f (L.take k) + f x := by
  rw [List.take_add_one, h, Option.toList_some, sumL_app, sumL_one]
theorem sumL_take_le {α : Type} (f : α → Nat) (L : List α) (k : Nat) : sumL f (L.take k) ≤ sumL f L := by
  have := sumL_app f (L.take k) (L.drop k)
  rw [List.take_append_drop] at this
  omega
/-- the marks do not fall -/
def Mn {α : Type} (E : Rp α) : Prop := ∀ x k k', E.mm x k k' → k ≤ k'
theorem I_mn : Mn I := fun x k k' h => by have := h.2; omega
theorem Bo_mn : Mn Bo := fun x k k' h => by have : k' = k := h; omega
theorem Pr_mn {α β : Type} {E : Rp α} {F : Rp β} (hE : Mn E) (hF : Mn F) : Mn (Pr E F) := fun x k k' ⟨k1, h1, h2⟩ => Int.le_trans (hE _ _ _ h1) (hF _ _ _ h2)
theorem mmL_le {α : Type} {E : Rp α} (hE : Mn E) : ∀ {L : List α} {k k' : Int}, mmL E L k k' → k ≤ k'
  | [], k, k', h => by simp only [mmL] at h; omega
  | x :: xs, k, k', ⟨k1, h1, h2⟩ => Int.le_trans (hE _ _ _ h1) (mmL_le hE h2)
theorem Sl_mn {α : Type} {E : Rp α} (hE : Mn E) : Mn (Sl E) := fun _ _ _ h => mmL_le hE h
theorem cast_mm {α : Type} {E : Rp α} {L : List α} {a a' b b' : Int} (h : mmL E L a b) (h1 : a = a') (h2 : b = b') : mmL E L a' b' := by subst h1 h2; exact h
theorem mmL_drop {α : Type} {E : Rp α} {L : List α} {j : Nat} {x : α} {k k' : Int} (hx : L[j]? = some x) (h : mmL E (L.drop j) k k') : ∃ k1, E.mm x k k1 ∧ mmL E (L.drop (j + 1)) k1 k' := by
  have hj := (List.getElem?_eq_some_iff.1 hx)
  obtain ⟨hlt, he⟩ := hj
  rw [List.drop_eq_getElem_cons hlt, he] at h
  exact h
theorem mmL_end {α : Type} {E : Rp α} {L : List α} {k k' : Int} (h : mmL E (L.drop L.length) k k') : k' = k := by rw [List.drop_length] at h; exact h
theorem mmL_take {α : Type} {E : Rp α} {M : List α} {j : Nat} {x : α} {k q q' : Int} (hj : j < M.length) (h : mmL E (M.take j) k q) (hx : E.mm x q q') : mmL E ((M.set j x).take (j + 1)) k q' := by
  have e : (M.set j x).take (j + 1) = M.take j ++ [x] := by
    rw [List.take_add_one, List.take_set_of_le (Nat.le_refl _), List.getElem?_set_self hj]
    rfl
  rw [e]
  exact mmL_app h ⟨q', hx, rfl⟩
/-- what marking a slice leaves -/
def MarkR {α : Type} (E : Rp α) (S : Nat → Prop) (L : List α) (a : Option Addr) (cap : Nat) (k : Int) (w : World) (e : Ending) (w' : World) : Prop :=
  ∃ L' k', e = .returned (.int .i64 k') ∧ L'.length = L.length ∧ mmL E L' k k' ∧ k' = k + (sumL E.cm L : Nat) ∧ OwSl E w' S L' a cap ∧ Off S w w'
theorem markR_elim {α : Type} {E : Rp α} {S : Nat → Prop} {L : List α} {a : Option Addr} {cap : Nat} {k : Int} {w : World} {e : Ending} {w' : World} (h : MarkR E S L a cap k w e w') :
  ∃ L' k', e = .returned (.int .i64 k') ∧ L'.length = L.length ∧ mmL E L' k k' ∧ k' = k + (sumL E.cm L : Nat) ∧ OwSl E w' S L' a cap ∧ Off S w w' := h
/-- a slice that is being marked: the first j elements are -/
structure Mkd {α : Type} (E : Rp α) (W wr : World) (S : Nat → Prop) (L : List α) (g : Nat) (Sf : Nat → Nat → Prop) (k q : Int) (j : Nat) (M : List α) : Prop where
  len : M.length = L.length
  rest : ∀ p, j ≤ p → M[p]? = L[p]?
  mm : mmL E (M.take j) k q
  num : q = k + (sumL E.cm (L.take j) : Nat)
  row : Row E wr S M g Sf
  off : Off S W wr
theorem Mkd.start {α : Type} {E : Rp α} {W : World} {S : Nat → Prop} {L : List α} {g : Nat} {Sf : Nat → Nat → Prop} {k : Int} (h : Row E W S L g Sf) : Mkd E W W S L g Sf k k 0 L := ⟨rfl, fun _ _ => rfl, rfl, by simp [sumL], h, Off.refl _ _⟩
theorem Mkd.done {α : Type} {E : Rp α} {W wr : World} {S : Nat → Prop} {L M : List α} {g cap : Nat} {Sf : Nat → Nat → Prop} {k q : Int} (h : Mkd E W wr S L g Sf k q L.length M) (h1 : L.length ≤ cap) (h2 : cap ≤ maxLen) : MarkR E S L (some ⟨g, 0, none⟩) cap k W (.returned (.int .i64 q)) wr := by
  refine ⟨M, q, rfl, h.len, ?_, ?_, h.row.slice (by rw [h.len]; exact h1) h2, h.off⟩
  · have := h.mm
    rw [← h.len, List.take_length] at this
    exact this
  · have := h.num
    rw [List.take_length] at this
    exact this
theorem Mkd.step {α : Type} {E : Rp α} (hE : Ok E) {W wr w' : World} {S : Nat → Prop} {L M : List α} {g j : Nat} {Sf : Nat → Nat → Prop} {k q q' : Int} {x y : α} {us : List Value} (h : Mkd E W wr S L g Sf k q j M) (hS : ∀ i, S i → i < wr.heap.size) (hx : L[j]? = some x)
    (hU : Upd wr w' g (j * E.size) ((j + 1) * E.size) (Sf j)) (hO : Off S wr w') (hc : CellsAt w' g (j * E.size) us) (hr : E.ow w' (Sf j) y us) (hm : E.mm y q q') (hn : q' = q + (E.cm x : Nat)) : Mkd E W w' S L g Sf k q' (j + 1) (M.set j y) := by
  have hj : j < M.length := by rw [h.len]; exact (List.getElem?_eq_some_iff.1 hx).1
  refine ⟨by rw [List.length_set]; exact h.len, fun p hp => ?_, mmL_take hj h.mm hm, ?_, h.row.set hE hS hU hc hr, h.off.trans hO⟩
  · rw [List.getElem?_set_ne (by omega)]
    exact h.rest p (by omega)
  · rw [hn, h.num, sumL_take E.cm hx]
    omega
theorem Mkd.el {α : Type} {E : Rp α} {W wr : World} {S : Nat → Prop} {L M : List α} {g j : Nat} {Sf : Nat → Nat → Prop} {k q : Int} {x : α} (h : Mkd E W wr S L g Sf k q j M) (hx : L[j]? = some x) : ∃ us, CellsAt wr g (j * E.size) us ∧ E.ow wr (Sf j) x us :=
  h.row.el j x (by rw [h.rest j (Nat.le_refl _)]; exact hx)
theorem MarkR.none_ {α : Type} {E : Rp α} {W : World} {S : Nat → Prop} {L : List α} {a : Option Addr} {cap : Nat} {k : Int} (h : OwSl E W S L a cap) (h0 : L.length = 0) : MarkR E S L a cap k W (.returned (.int .i64 k)) W := by
  obtain rfl := List.eq_nil_of_length_eq_zero h0
  exact ⟨[], k, rfl, rfl, rfl, by simp [sumL], h, Off.refl _ _⟩
/-- a new struct -/
def NewV {α : Type} (E : Rp α) (d : α) (w : World) (e : Ending) (w' : World) : Prop := ∃ us : List Value, e = .returned (.agg us.toArray) ∧ E.ow w' (Rg w.heap.size w'.heap.size) d us ∧ Below w.heap.size w w'
theorem newV_elim {α : Type} {E : Rp α} {d : α} {w : World} {e : Ending} {w' : World} (h : NewV E d w e w') : ∃ us : List Value, e = .returned (.agg us.toArray) ∧ E.ow w' (Rg w.heap.size w'.heap.size) d us ∧ Below w.heap.size w w' := h
/-- a new slice -/
def NewS {α : Type} (E : Rp α) (L : List α) (w : World) (e : Ending) (w' : World) : Prop := ∃ a cap, e = .returned (.slice a L.length cap) ∧ OwSl E w' (Rg w.heap.size w'.heap.size) L a cap ∧ Below w.heap.size w w'
theorem newS_elim {α : Type} {E : Rp α} {L : List α} {w : World} {e : Ending} {w' : World} (h : NewS E L w e w') : ∃ a cap, e = .returned (.slice a L.length cap) ∧ OwSl E w' (Rg w.heap.size w'.heap.size) L a cap ∧ Below w.heap.size w w' := h
theorem Fil.news {α : Type} {E : Rp α} {w W : World} {L : List α} {Sf : Nat → Nat → Prop} (h : Fil E w W L w.heap.size Sf L.length) (hn : L.length ≤ maxLen) : NewS E L w (.returned (.slice (some ⟨w.heap.size, 0, none⟩) L.length L.length)) W :=
  ⟨_, _, rfl, h.done.slice (Nat.le_refl _) hn, h.below⟩
theorem keep_call {S : Nat → Prop} {w0 Wc w1 : World} (hb : Below Wc.heap.size Wc w1) (ho : Off S w0 Wc) (k : Nat) (hk : k < w0.heap.size) (hS : ¬ S k) : w1.heap[k]? = w0.heap[k]? :=
  (hb.block k (Nat.lt_of_lt_of_le hk ho.size)).trans (ho.block k hk hS)
theorem size_call {S : Nat → Prop} {w0 Wc w1 : World} (hb : Below Wc.heap.size Wc w1) (ho : Off S w0 Wc) : w0.heap.size ≤ w1.heap.size := Nat.le_trans ho.size hb.size
theorem rg_call {Wc w1 : World} {m : Nat} (_ : Below Wc.heap.size Wc w1) (hm : m ≤ Wc.heap.size) (k : Nat) (hk : Rg Wc.heap.size w1.heap.size k) : m ≤ k ∧ k < w1.heap.size := ⟨Nat.le_trans hm hk.1, hk.2⟩
theorem lo_of {S : Nat → Prop} {w0 Wc w1 : World} (_ : Below Wc.heap.size Wc w1) (ho : Off S w0 Wc) (k : Nat) (hk : Rg Wc.heap.size w1.heap.size k) : w0.heap.size ≤ k := Nat.le_trans ho.size hk.1
theorem el_some {α : Type} {L : List α} {k : Nat} (h : k < L.length) : ∃ x, L[k]? = some x := ⟨L[k], List.getElem?_eq_getElem h⟩
theorem sz_at {α : Type} {f : α → Nat} {L : List α} {k : Nat} {x : α} {m : Nat} (hx : L[k]? = some x) (h : L.length + sumL f L ≤ m) : f x ≤ m := by
  have key : ∀ (L : List α) (k : Nat), L[k]? = some x → f x ≤ sumL f L := by
    intro L
    induction L with
    | nil => intro k hk; simp at hk
    | cons y ys ih =>
      intro k hk
      cases k with
      | zero => simp at hk; subst hk; simp only [sumL]; omega
      | succ k => have := ih k (by simpa using hk); simp only [sumL]; omega
  have := key L k hx
  omega
theorem el_lt {α : Type} {L : List α} {k : Nat} {x : α} (h : L[k]? = some x) : k < L.length := (List.getElem?_eq_some_iff.1 h).1
theorem cells_at {W : World} {g o : Nat} {cs : List Value} (h : CellsAt W g o cs) (j : Nat) {c : Value} (hj : cs[j]? = some c) : W.cell? ⟨g, o + j, none⟩ = some c := h j c hj
end Go.Proofs.Ytfmgjkmlnaeagaa.RepC
