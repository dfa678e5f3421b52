/- Rows of data: an element written anew; a row that is being made: general in the program. -/
import Derived.Test.YtfmgjkmlnaeagaaRep
namespace Go.Proofs.Ytfmgjkmlnaeagaa.RepC
open Go.RowKit RowC ValC

/-- the cells cs stored from ⟨g, o⟩ on, one behind the other -/
def putCells (W : World) (g : Nat) : Nat → List Value → World
  | _, [] => W
  | o, c :: cs => putCells (W.setCell ⟨g, o, none⟩ c) g (o + 1) cs
theorem putCells_size (g : Nat) : ∀ (cs : List Value) (W : World) (o : Nat), (putCells W g o cs).heap.size = W.heap.size
  | [], _, _ => rfl
  | c :: cs, W, o => by simp only [putCells]; rw [putCells_size g cs]; simp [World.setCell]
theorem putCells_frozen (g : Nat) (p : Addr) : ∀ (cs : List Value) (W : World) (o : Nat), (putCells W g o cs).frozen? p = W.frozen? p
  | [], _, _ => rfl
  | c :: cs, W, o => by simp only [putCells]; rw [putCells_frozen g p cs]; simp
theorem putCells_block (g : Nat) {k : Nat} (hk : k ≠ g) : ∀ (cs : List Value) (W : World) (o : Nat), (putCells W g o cs).heap[k]? = W.heap[k]?
  | [], _, _ => rfl
  | c :: cs, W, o => by simp only [putCells]; rw [putCells_block g hk cs]; exact Below.heap_setCell _ _ _ _ hk
theorem putCells_off (g : Nat) : ∀ (cs : List Value) (W : World) (o : Nat), Off (fun x => x = g) W (putCells W g o cs)
  | [], W, _ => Off.refl _ _
  | c :: cs, W, o => by simp only [putCells]; exact (Off.setCell (S := fun x => x = g) (p := ⟨g, o, none⟩) (Off.refl _ W) rfl c).trans (putCells_off g cs _ _)
theorem putCells_other (g : Nat) {j : Nat} : ∀ (cs : List Value) (W : World) (o : Nat), (j < o ∨ o + cs.length ≤ j) → (putCells W g o cs).cell? ⟨g, j, none⟩ = W.cell? ⟨g, j, none⟩
  | [], _, _, _ => rfl
  | c :: cs, W, o, h => by
    simp only [List.length_cons] at h
    simp only [putCells]
    rw [putCells_other g cs _ _ (by omega), World.cell?_setCell_other _ _ _ _ (fun e => by injection e with _ e2; omega)]
theorem putCells_cells (g : Nat) : ∀ (cs : List Value) (W : World) (o : Nat), (∀ j, j < cs.length → ∃ u, W.cell? ⟨g, o + j, none⟩ = some u) → CellsAt (putCells W g o cs) g o cs
  | [], _, _, _ => CellsAt.nil
  | c :: cs, W, o, h => by
    simp only [putCells]
    refine CellsAt.cons.2 ⟨?_, putCells_cells g cs _ _ fun j hj => ?_⟩
    · obtain ⟨u, hu⟩ := h 0 (by simp)
      rw [putCells_other g cs _ _ (by omega)]
      exact World.cell?_setCell_same' _ _ _ (by rw [show W.cell? ⟨g, o, none⟩ = _ from hu]; rfl)
    · obtain ⟨u, hu⟩ := h (j + 1) (by simp only [List.length_cons]; omega)
      rw [World.cell?_setCell_other _ _ _ _ (fun e => by injection e with _ e2; omega), show o + 1 + j = o + (j + 1) by omega]
      exact ⟨u, hu⟩

/-- block g has turned between lo and hi alone, and the blocks of T may have; all else is as it was -/
structure Upd (W W' : World) (g lo hi : Nat) (T : Nat → Prop) : Prop where
  size : W.heap.size ≤ W'.heap.size
  block : ∀ k, k < W.heap.size → k ≠ g → ¬ T k → W'.heap[k]? = W.heap[k]?
  cells : ∀ j, (j < lo ∨ hi ≤ j) → W'.cell? ⟨g, j, none⟩ = W.cell? ⟨g, j, none⟩
  soft : ∀ j, W'.frozen? ⟨g, j, none⟩ = W.frozen? ⟨g, j, none⟩
theorem Upd.refl (W : World) (g lo hi : Nat) (T : Nat → Prop) : Upd W W g lo hi T := ⟨Nat.le_refl _, fun _ _ _ _ => rfl, fun _ _ => rfl, fun _ => rfl⟩
theorem Upd.trans {W W' W'' : World} {g lo hi : Nat} {T : Nat → Prop} (h : Upd W W' g lo hi T) (k : Upd W' W'' g lo hi T) : Upd W W'' g lo hi T :=
  ⟨Nat.le_trans h.size k.size, fun i h1 h2 h3 => (k.block i (Nat.lt_of_lt_of_le h1 h.size) h2 h3).trans (h.block i h1 h2 h3), fun j hj => (k.cells j hj).trans (h.cells j hj), fun j => (k.soft j).trans (h.soft j)⟩
theorem Upd.set (W : World) {g lo hi o : Nat} (T : Nat → Prop) (h : lo ≤ o ∧ o < hi) (u : Value) : Upd W (W.setCell ⟨g, o, none⟩ u) g lo hi T :=
  ⟨by simp [World.setCell], fun k _ hk _ => Below.heap_setCell _ _ _ _ hk, fun j hj => World.cell?_setCell_other _ _ _ _ (fun e => by injection e with _ e2; omega), fun j => by simp⟩
theorem Upd.put (W : World) {g lo hi o : Nat} (T : Nat → Prop) {cs : List Value} (h : lo ≤ o ∧ o + cs.length ≤ hi) : Upd W (putCells W g o cs) g lo hi T :=
  ⟨by rw [putCells_size]; exact Nat.le_refl _, fun k _ hk _ => putCells_block g hk cs W o, fun j hj => putCells_other g cs W o (by omega), fun j => putCells_frozen g _ cs W o⟩
theorem Upd.below {W W' : World} {g lo hi : Nat} {T : Nat → Prop} (h : Below W.heap.size W W') (hg : g < W.heap.size) : Upd W W' g lo hi T :=
  ⟨h.size, fun k hk _ _ => h.block k hk, fun j _ => h.cell (p := ⟨g, j, none⟩) hg, fun j => h.frozen (p := ⟨g, j, none⟩) hg⟩
theorem Upd.off {W W' : World} {g lo hi : Nat} {T : Nat → Prop} (h : Off T W W') (hg : g < W.heap.size) (hT : ¬ T g) : Upd W W' g lo hi T :=
  ⟨h.size, fun k hk _ ht => h.block k hk ht, fun j _ => World.cell?_of_block (a := ⟨g, j, none⟩) (h.block g hg hT), fun j => World.frozen?_of_block (a := ⟨g, j, none⟩) (h.block g hg hT)⟩

/-- the row that a slice of its own shows -/
structure Row {α : Type} (E : Rp α) (W : World) (S : Nat → Prop) (L : List α) (g : Nat) (Sf : Nat → Nat → Prop) : Prop where
  own : S g
  soft : ∀ j, W.frozen? ⟨g, j, none⟩ = false
  sub : ∀ i k, Sf i k → S k ∧ k ≠ g
  dis : ∀ i j k, i < j → Sf i k → ¬ Sf j k
  el : ∀ i x, L[i]? = some x → ∃ us, CellsAt W g (i * E.size) us ∧ E.ow W (Sf i) x us
theorem OwSl.row {α : Type} {E : Rp α} {W : World} {S : Nat → Prop} {L : List α} {a : Option Addr} {cap : Nat} (h : OwSl E W S L a cap) (hn : 0 < L.length) : ∃ g Sf, a = some ⟨g, 0, none⟩ ∧ Row E W S L g Sf := by
  obtain ⟨g, Sf, ha, hg, hf, hs, hd, hc⟩ := h.2.2 hn
  exact ⟨g, Sf, ha, hg, hf, hs, hd, hc⟩
theorem Row.slice {α : Type} {E : Rp α} {W : World} {S : Nat → Prop} {L : List α} {g : Nat} {Sf : Nat → Nat → Prop} (h : Row E W S L g Sf) {cap : Nat} (h1 : L.length ≤ cap) (h2 : cap ≤ maxLen) : OwSl E W S L (some ⟨g, 0, none⟩) cap :=
  ⟨h1, h2, fun _ => ⟨g, Sf, rfl, h.own, h.soft, h.sub, h.dis, h.el⟩⟩
theorem mul_lt_el {i j p s : Nat} (hp : p < s) (hij : i ≠ j) : j * s + p < i * s ∨ (i + 1) * s ≤ j * s + p := by
  rcases Nat.lt_or_gt_of_ne hij with h | h
  · right
    have := Nat.mul_le_mul_right s (show i + 1 ≤ j by omega)
    omega
  · left
    have := Nat.mul_le_mul_right s (show j + 1 ≤ i by omega)
    rw [Nat.add_mul] at this
    omega
theorem Row.set {α : Type} {E : Rp α} (hE : Ok E) {W W' : World} {S : Nat → Prop} {L : List α} {g i : Nat} {Sf : Nat → Nat → Prop} {x : α} {us : List Value} (h : Row E W S L g Sf) (hS : ∀ k, S k → k < W.heap.size) (hU : Upd W W' g (i * E.size) ((i + 1) * E.size) (Sf i))
    (hc : CellsAt W' g (i * E.size) us) (hr : E.ow W' (Sf i) x us) : Row E W' S (L.set i x) g Sf := by
  refine ⟨h.own, fun j => (hU.soft j).trans (h.soft j), h.sub, h.dis, fun j y hy => ?_⟩
  by_cases e : i = j
  · subst e
    rw [List.getElem?_set] at hy
    split at hy
    · split at hy
      · injection hy with hy
        subst hy
        exact ⟨us, hc, hr⟩
      · cases hy
    · exact absurd rfl ‹_›
  · rw [List.getElem?_set_ne e] at hy
    obtain ⟨vs, hv, hw⟩ := h.el j y hy
    refine ⟨vs, fun p c hp => ?_, hE.ow_keep hw fun k hk => hU.block k (hS k (h.sub j k hk).1) (h.sub j k hk).2 (fun hi => ?_)⟩
    · have hl := (List.getElem?_eq_some_iff.1 hp).1
      rw [hE.ow_len hw] at hl
      rw [hU.cells _ (mul_lt_el hl e)]
      exact hv p c hp
    · rcases Nat.lt_or_gt_of_ne e with e2 | e2
      · exact h.dis i j k e2 hi hk
      · exact h.dis j i k e2 hk hi

/-- a row of the data L that is being made in block g: its first k elements are there -/
structure Fil {α : Type} (E : Rp α) (w W : World) (L : List α) (g : Nat) (Sf : Nat → Nat → Prop) (k : Nat) : Prop where
  el : ∀ i x, i < k → L[i]? = some x → ∃ us, CellsAt W g (i * E.size) us ∧ E.ow W (Sf i) x us
  there : ∀ j, j < L.length * E.size → ∃ u, W.cell? ⟨g, j, none⟩ = some u
  soft : ∀ j, W.frozen? ⟨g, j, none⟩ = false
  sub : ∀ i q, Sf i q → g < q ∧ q < W.heap.size ∧ i < k
  dis : ∀ i j q, i < j → Sf i q → ¬ Sf j q
  base : w.heap.size ≤ g
  lt : g < W.heap.size
  below : Below g w W
theorem Fil.new {α : Type} {E : Rp α} {w : World} {L : List α} {cs : Array Value} {t : TypeId} (hs : cs.size = L.length * E.size) : Fil E w (w.alloc (.cells cs t)) L w.heap.size (fun _ _ => False) 0 :=
  ⟨fun i x h => absurd h (Nat.not_lt_zero _), fun j hj => ⟨cs[j]'(by omega), by simp [World.cell?_alloc_new, show j < cs.size by omega]⟩, fun j => by simp, fun i q h => h.elim, fun i j q _ h => h.elim, Nat.le_refl _, by simp, (Below.refl _ _).alloc (Nat.le_refl _) _⟩
/-- the next element was made in between (the world W1), and its cells are stored -/
theorem Fil.put {α : Type} {E : Rp α} (hE : Ok E) {w W W1 : World} {L : List α} {g k : Nat} {Sf : Nat → Nat → Prop} {x : α} {us : List Value} (h : Fil E w W L g Sf k) (hx : L[k]? = some x) (hb : Below W.heap.size W W1) (hr : E.ow W1 (Rg W.heap.size W1.heap.size) x us) :
    Fil E w (putCells W1 g (k * E.size) us) L g (fun i q => if i = k then Rg W.heap.size W1.heap.size q else Sf i q) (k + 1) := by
  have hk := (List.getElem?_eq_some_iff.1 hx).1
  have hlen := hE.ow_len hr
  have hsz := hb.size
  have hgl := h.lt
  have hmul : (k + 1) * E.size ≤ L.length * E.size := Nat.mul_le_mul_right _ (by omega)
  rw [Nat.add_mul, Nat.one_mul] at hmul
  have there1 : ∀ j, j < L.length * E.size → ∃ u, W1.cell? ⟨g, j, none⟩ = some u := fun j hj => by
    obtain ⟨u, hu⟩ := h.there j hj
    exact ⟨u, (hb.cell (p := ⟨g, j, none⟩) hgl).trans hu⟩
  have apart : ∀ q, Rg W.heap.size W1.heap.size q → q ≠ g := fun q hq => by unfold Rg at hq; omega
  refine ⟨fun i y hi hy => ?_, fun j hj => ?_, fun j => ?_, fun i q hq => ?_, fun i j q hij hi => ?_, h.base, by rw [putCells_size]; omega, ?_⟩
  · by_cases e : i = k
    · subst e
      rw [hx] at hy
      injection hy with hy
      subst hy
      refine ⟨us, putCells_cells g us W1 _ fun j hj => there1 _ (by rw [hlen] at hj; omega), ?_⟩
      simp only [if_true]
      exact hE.ow_keep hr fun q hq => putCells_block g (apart q hq) us W1 _
    · obtain ⟨vs, hv, hw⟩ := h.el i y (by omega) hy
      refine ⟨vs, fun p c hp => ?_, ?_⟩
      · have hl := (List.getElem?_eq_some_iff.1 hp).1
        rw [hE.ow_len hw] at hl
        have h1 := mul_lt_el (i := k) (j := i) hl (Ne.symm e)
        rw [Nat.add_mul, Nat.one_mul] at h1
        rw [putCells_other g us W1 _ (by omega)]
        exact (hb.cell (p := ⟨g, _, none⟩) hgl).trans (hv p c hp)
      · simp only [e, if_false]
        refine hE.ow_keep (hE.ow_keep hw fun q hq => hb.block q (h.sub i q hq).2.1) fun q hq => putCells_block g (by have := (h.sub i q hq).1; omega) us W1 _
  · obtain ⟨u, hu⟩ := there1 j hj
    by_cases hin : j < k * E.size ∨ k * E.size + us.length ≤ j
    · exact ⟨u, (putCells_other g us W1 _ hin).trans hu⟩
    · have hc := putCells_cells g us W1 (k * E.size) fun j hj => there1 _ (by rw [hlen] at hj; omega)
      have hj2 : j - k * E.size < us.length := by omega
      refine ⟨us[j - k * E.size], ?_⟩
      have := hc (j - k * E.size) _ (List.getElem?_eq_getElem hj2)
      rw [show k * E.size + (j - k * E.size) = j by omega] at this
      exact this
  · rw [putCells_frozen]
    exact (hb.frozen (p := ⟨g, j, none⟩) hgl).trans (h.soft j)
  · rw [putCells_size]
    by_cases e : i = k
    · simp only [e, if_true] at hq
      unfold Rg at hq
      omega
    · simp only [e, if_false] at hq
      have := h.sub i q hq
      omega
  · by_cases e1 : i = k
    · subst e1
      simp only [if_true] at hi
      have e2 : j ≠ i := by omega
      simp only [e2, if_false]
      intro hj
      have := (h.sub j q hj).2.2
      omega
    · simp only [e1, if_false] at hi
      by_cases e2 : j = k
      · simp only [e2, if_true]
        have := (h.sub i q hi).2.1
        unfold Rg
        omega
      · simp only [e2, if_false]
        exact h.dis i j q hij hi
  · exact (h.below.trans (hb.mono (by omega))).trans ((putCells_off g us W1 _).below (by omega) (fun k hk => by rw [hk]; exact Nat.le_refl _))
theorem Fil.done {α : Type} {E : Rp α} {w W : World} {L : List α} {g : Nat} {Sf : Nat → Nat → Prop} (h : Fil E w W L g Sf L.length) : Row E W (Rg w.heap.size W.heap.size) L g Sf :=
  ⟨⟨h.base, h.lt⟩, h.soft, fun i k hk => ⟨⟨by have := (h.sub i k hk).1; have := h.base; omega, (h.sub i k hk).2.1⟩, by have := (h.sub i k hk).1; omega⟩, h.dis, fun i x hx => h.el i x (List.getElem?_eq_some_iff.1 hx).1 hx⟩
end Go.Proofs.Ytfmgjkmlnaeagaa.RepC
