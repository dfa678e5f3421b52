/- A row of the call's own, copied from another one: its elements still share what they refer to; one after the other is made its own: general in the program. -/
import Derived.Test.YtjpkeofpcpaoaaaApp
namespace Go.Proofs.Ytjpkeofpcpaoaaa.RepC
open Go.RowKit RowC ValC
set_option linter.unusedVariables false

/-- the first k elements own what they refer to, the others may be read below B -/
structure Half {α : Type} (E : Rp α) (B : Nat) (w : World) (lo hi : Nat) (T : TypeId) (v : Value) (L : List α) (k : Nat) (xs : List Value) (Sf : Nat → Nat → Prop) : Prop where
  own : w.ownsRow lo T E.size v L.length xs
  el : ∀ i x, i < k → L[i]? = some x → ∃ us, (∀ j c, us[j]? = some c → xs[i * E.size + j]? = some c) ∧ E.ow w (Sf i) x us
  rest : ∀ i x, k ≤ i → L[i]? = some x → ∃ us, (∀ j c, us[j]? = some c → xs[i * E.size + j]? = some c) ∧ E.rd w B x us
  sub : ∀ i q, Sf i q → lo ≤ q ∧ q < hi ∧ v.ownBlock ≠ some q ∧ i < k
  dis : ∀ i j q, i < j → Sf i q → ¬ Sf j q
  blk : ∀ q, v.ownBlock = some q → lo ≤ q ∧ q < hi
  le : hi ≤ w.heap.size
  base : B ≤ lo
  top : B ≤ w.heap.size
section
variable {α : Type} {E : Rp α} {B : Nat} {w w' w1 : World} {lo hi g n c : Nat} {T : TypeId} {v : Value} {L : List α} {k : Nat} {xs : List Value} {Sf : Nat → Nat → Prop}
theorem Half.done (h : Half E B w lo hi T v L L.length xs Sf) : App E w lo hi T v L xs Sf :=
  ⟨h.own, fun i x hx => h.el i x (List.getElem?_eq_some_iff.1 hx).1 hx, fun i q hq => ⟨(h.sub i q hq).1, (h.sub i q hq).2.1, (h.sub i q hq).2.2.1⟩, h.dis, h.blk, h.le⟩
/-- the blocks that bear it, and those below B, have not turned -/
theorem Half.mv (hE : Ok E) (h : Half E B w lo hi T v L k xs Sf) (hs : w.heap.size ≤ w'.heap.size) (hb : ∀ q, (v.ownBlock = some q ∨ ∃ i, Sf i q) → w'.heap[q]? = w.heap[q]?) (hB : Below B w w') : Half E B w' lo hi T v L k xs Sf := by
  refine ⟨?_, fun i x hi hx => ?_, fun i x hi hx => ?_, h.sub, h.dis, h.blk, Nat.le_trans h.le hs, h.base, Nat.le_trans h.top hs⟩
  · obtain ⟨h1, h2⟩ := h.own
    refine ⟨h1, ?_⟩
    rcases h2 with h2 | ⟨g, cap, cur, rfl, hlo, hg, h3⟩
    · exact .inl h2
    · exact .inr ⟨g, cap, cur, rfl, hlo, (hb g (.inl rfl)).trans hg, h3⟩
  · obtain ⟨us, h1, h2⟩ := h.el i x hi hx
    exact ⟨us, h1, hE.ow_keep h2 fun q hq => hb q (.inr ⟨i, hq⟩)⟩
  · obtain ⟨us, h1, h2⟩ := h.rest i x hi hx
    exact ⟨us, h1, hE.rd_below h2 hB⟩
theorem Half.call (hE : Ok E) (h : Half E B w lo hi T v L k xs Sf) (hb : Below w.heap.size w w') : Half E B w' lo hi T v L k xs Sf := by
  have hle := h.le
  refine h.mv hE hb.size (fun q hq => hb.block q ?_) (hb.mono h.top)
  rcases hq with hq | ⟨i, hq⟩
  · have := h.blk q hq; omega
  · have := h.sub i q hq; omega
/-- the cells of an element that is not yet its own -/
theorem Half.at_ (h : Half E B w lo hi T (.slice (some ⟨g, 0, none⟩) n c) L k xs Sf) {i : Nat} {x : α} (hi : k ≤ i) (hx : L[i]? = some x) : ∃ us, CellsAt w g (i * E.size) us ∧ E.rd w B x us ∧ (∀ j c, us[j]? = some c → xs[i * E.size + j]? = some c) := by
  obtain ⟨us, h1, h2⟩ := h.rest i x hi hx
  refine ⟨us, fun j d hj => ?_, h2, h1⟩
  have h4 := h1 j d hj
  rcases h.own.2 with ⟨e, _⟩ | ⟨g', cap, cur, e, hlo, hg, hn, hm, hc, ht⟩
  · cases e
  · cases e
    rw [← ht] at h4
    have h5 : cur.toList[i * E.size + j]? = some d := by
      rw [List.getElem?_take] at h4
      split at h4
      · exact h4
      · cases h4
    exact (cell_of_row w _ _ cur _ _ hg).trans (by simpa using h5)
theorem Half.soft (h : Half E B w lo hi T (.slice (some ⟨g, 0, none⟩) n c) L k xs Sf) (j : Nat) : w.frozen? ⟨g, j, none⟩ = false := by
  rcases h.own.2 with ⟨e, _⟩ | ⟨g', cap, cur, e, hlo, hg, hn, hm, hc, ht⟩
  · cases e
  · cases e
    simp [World.frozen?, hg]
/-- one cell of the next element is written, and the element is its own from then on -/
theorem Half.step (hE : Ok E) (h : Half E B w lo hi T (.slice (some ⟨g, 0, none⟩) n c) L k xs Sf) {x : α} (hx : L[k]? = some x) {us : List Value} (hus : ∀ j c, us[j]? = some c → xs[k * E.size + j]? = some c) {p : Nat} (hp : p < E.size) (hul : us.length = E.size) {u : Value}
    (hb : Below w.heap.size w w1) (ho : E.ow w1 (Rg w.heap.size w1.heap.size) x (us.set p u)) :
    ∃ xs' Sf', Half E B (w1.setCell ⟨g, k * E.size + p, none⟩ u) lo w1.heap.size T (.slice (some ⟨g, 0, none⟩) n c) L (k + 1) xs' Sf' ∧ (∀ i q, Sf' i q → Sf i q ∨ Rg w.heap.size w1.heap.size q) := by
  have hle := h.le
  have hbs := hb.size
  have hgb := h.blk g rfl
  have hgl : g < w.heap.size := by omega
  have hkL := (List.getElem?_eq_some_iff.1 hx).1
  have hbB := h.base
  have hsz : (w1.setCell ⟨g, k * E.size + p, none⟩ u).heap.size = w1.heap.size := by simp [World.setCell]
  have hmul : (k + 1) * E.size ≤ L.length * E.size := Nat.mul_le_mul_right _ (by omega)
  rw [Nat.add_mul, Nat.one_mul] at hmul
  have far : ∀ q, q ≠ g → (w1.setCell ⟨g, k * E.size + p, none⟩ u).heap[q]? = w1.heap[q]? := fun q hq => Below.heap_setCell _ _ _ _ hq
  have hB2 : Below B w (w1.setCell ⟨g, k * E.size + p, none⟩ u) := (hb.mono h.top).setCell (p := ⟨g, k * E.size + p, none⟩) (by show B ≤ g; omega) u
  have idx : ∀ i j, i ≠ k → j < E.size → i * E.size + j ≠ k * E.size + p := fun i j hik hj e => by
    have := mul_lt_el (i := k) (j := i) hj (Ne.symm hik)
    rw [Nat.add_mul, Nat.one_mul] at this
    omega
  refine ⟨xs.set (k * E.size + p) u, fun i q => if i = k then Rg w.heap.size w1.heap.size q else Sf i q, ⟨⟨?_, ?_⟩, fun i y hi hy => ?_, fun i y hi hy => ?_, fun i q hq => ?_, fun i j q hij hi => ?_, fun q hq => ?_, by rw [hsz]; exact Nat.le_refl _, h.base, by rw [hsz]; exact Nat.le_trans h.top hbs⟩, fun i q hq => by
    by_cases e : i = k
    · simp only [e, if_true] at hq; exact .inr hq
    · simp only [e, if_false] at hq; exact .inl hq⟩
  · rw [List.length_set]; exact h.own.1
  · rcases h.own.2 with ⟨e, _⟩ | ⟨g', cap, cur, e, hlo, hg, hn, hm, hc, ht⟩
    · cases e
    · cases e
      refine .inr ⟨g, _, cur.setIfInBounds (k * E.size + p) u, rfl, hlo, ?_, hn, hm, by rw [Array.size_setIfInBounds]; exact hc, ?_⟩
      · have h1 : w1.heap[g]? = some (.cells cur T (0, 0)) := (hb.block g hgl).trans hg
        simp [World.setCell, Array.getElem?_modify, h1]
      · rw [Array.toList_setIfInBounds, List.take_set, ht]
  · by_cases e : i = k
    · subst e
      rw [hx] at hy
      obtain rfl := Option.some.inj hy
      refine ⟨us.set p u, fun j d hj => ?_, ?_⟩
      · by_cases ej : j = p
        · subst ej
          rw [List.getElem?_set_self (by omega)] at hj
          cases hj
          rw [List.getElem?_set_self (by rw [h.own.1]; omega)]
        · rw [List.getElem?_set_ne (Ne.symm ej)] at hj
          rw [List.getElem?_set_ne (by omega)]
          exact hus j d hj
      · simp only [if_true]
        exact hE.ow_keep ho fun q hq => far q (by have := hq.1; omega)
    · obtain ⟨vs, h1, h2⟩ := h.el i y (by omega) hy
      refine ⟨vs, fun j d hj => ?_, ?_⟩
      · have hj2 : j < E.size := by rw [← hE.ow_len h2]; exact (List.getElem?_eq_some_iff.1 hj).1
        rw [List.getElem?_set_ne (fun e2 => idx i j e hj2 e2.symm)]
        exact h1 j d hj
      · simp only [e, if_false]
        exact hE.ow_keep h2 fun q hq => (far q (fun e2 => (h.sub i q hq).2.2.1 (by rw [e2]; rfl))).trans (hb.block q (by have := (h.sub i q hq).2.1; omega))
  · obtain ⟨vs, h1, h2⟩ := h.rest i y (by omega) hy
    refine ⟨vs, fun j d hj => ?_, hE.rd_below h2 hB2⟩
    have hj2 : j < E.size := by rw [← hE.rd_len h2]; exact (List.getElem?_eq_some_iff.1 hj).1
    rw [List.getElem?_set_ne (fun e2 => idx i j (by omega) hj2 e2.symm)]
    exact h1 j d hj
  · by_cases e : i = k
    · simp only [e, if_true] at hq
      have := hq.1
      have := hq.2
      refine ⟨by omega, by omega, fun e2 => ?_, by omega⟩
      have e3 : g = q := Option.some.inj e2
      omega
    · simp only [e, if_false] at hq
      have := h.sub i q hq
      exact ⟨this.1, by omega, this.2.2.1, by omega⟩
  · by_cases e1 : i = k
    · subst e1
      simp only [if_true] at hi
      simp only [show j ≠ i by omega, if_false]
      intro hj
      have h1 := (h.sub j q hj).2.1
      have h2 := hi.1
      omega
    · simp only [e1, if_false] at hi
      by_cases e2 : j = k
      · simp only [e2, if_true]
        intro hj
        have h1 := (h.sub i q hi).2.1
        have h2 := hj.1
        omega
      · simp only [e2, if_false]
        exact h.dis i j q hij hi
  · have := h.blk q hq
    omega
end
/-- all the cells of a row that may be read -/
theorem row_cells {α : Type} {E : Rp α} (hE : Ok E) {w : World} {B g o : Nat} {L : List α} (hel : ∀ i x, L[i]? = some x → ∃ us, CellsAt w g (o + i * E.size) us ∧ E.rd w B x us) :
    ∃ xs : List Value, xs.length = L.length * E.size ∧ CellsAt w g o xs ∧ (∀ u ∈ xs, u.oneCell' = true) ∧ ∀ i x, L[i]? = some x → ∃ us, (∀ j c, us[j]? = some c → xs[i * E.size + j]? = some c) ∧ E.rd w B x us := by
  have key : ∀ n, n ≤ L.length → ∃ xs : List Value, xs.length = n * E.size ∧ CellsAt w g o xs ∧ (∀ u ∈ xs, u.oneCell' = true) ∧ ∀ i x, i < n → L[i]? = some x → ∃ us, (∀ j c, us[j]? = some c → xs[i * E.size + j]? = some c) ∧ E.rd w B x us := by
    intro n
    induction n with
    | zero => exact fun _ => ⟨[], by simp, CellsAt.nil, fun u hu => by simp at hu, fun i x h => absurd h (Nat.not_lt_zero _)⟩
    | succ n ih =>
      intro hn
      obtain ⟨xs, h1, h2, h3, h4⟩ := ih (by omega)
      obtain ⟨x, hx⟩ := el_some (L := L) (k := n) (by omega)
      obtain ⟨us, hu, hr⟩ := hel n x hx
      have hul := hE.rd_len hr
      refine ⟨xs ++ us, by rw [List.length_append, h1, hul, Nat.add_mul, Nat.one_mul], CellsAt.app.2 ⟨h2, by rw [h1]; exact hu⟩, fun u hu2 => ?_, fun i y hi hy => ?_⟩
      · rcases List.mem_append.1 hu2 with h | h
        · exact h3 u h
        · exact hE.one hr u h
      · by_cases e : i = n
        · subst e
          rw [hx] at hy
          obtain rfl := Option.some.inj hy
          refine ⟨us, fun j c hj => ?_, hr⟩
          rw [List.getElem?_append_right (by omega), h1, Nat.add_sub_cancel_left]
          exact hj
        · obtain ⟨vs, h5, h6⟩ := h4 i y (by omega) hy
          refine ⟨vs, fun j c hj => ?_, h6⟩
          have h7 := h5 j c hj
          rw [List.getElem?_append_left (List.getElem?_eq_some_iff.1 h7).1]
          exact h7
  obtain ⟨xs, h1, h2, h3, h4⟩ := key L.length (Nat.le_refl _)
  exact ⟨xs, h1, h2, h3, fun i x hx => h4 i x (List.getElem?_eq_some_iff.1 hx).1 hx⟩
/-- 'append([]T{}, l...)' of any rows: a copy whose elements still share -/
theorem app_half {α : Type} {E : Rp α} (hE : Ok E) {P : Program} {L : List α} {a : Option Addr} {cap : Nat} {w : World} {t ty T : TypeId} {i : TypeInfo} {z : Value} {bytes : Nat} (ht : P.underlying t = some (.slice T)) (hi : P.info? T = some i) (hz : i.zero = some z) (hsize : i.size = E.size) (hby : i.bytes = bytes)
    (hzs : z.cells.size = E.size) (hpos : 0 < E.size) (hn : L.length ≤ maxLen) (hnb : L.length * bytes ≤ 140737488355328) (h : RdSl E w w.heap.size L a cap) :
    ∃ a' c' w' xs, (Builtin.append_ #[t, t] ty #[.slice (some ⟨w.heap.size, 0, none⟩) 0 0, .slice a L.length cap]).run P (w.alloc (.cells #[] T)) = .ok (.slice a' L.length c') w' ∧ Half E w.heap.size w' w.heap.size w'.heap.size T (.slice a' L.length c') L 0 xs (fun _ _ => False) ∧ Below w.heap.size w w' := by
  have hbel : Below w.heap.size w (w.alloc (.cells #[] T)) := (Below.refl _ _).alloc (Nat.le_refl _) _
  by_cases h0 : L.length = 0
  · have hL : L = [] := List.eq_nil_of_length_eq_zero h0
    subst hL
    refine ⟨_, _, _, [], app_nil ht hi _ a 0 cap, ⟨(App.made E w T).own, fun i x hi => absurd hi (Nat.not_lt_zero _), fun i x _ hx => by simp at hx, fun i q hq => hq.elim, fun i j q _ hq => hq.elim, fun q hq => ?_, Nat.le_refl _, Nat.le_refl _, hbel.size⟩, hbel⟩
    cases hq
    exact ⟨Nat.le_refl _, by simp⟩
  · obtain ⟨g, o, rfl, hg, hel⟩ := h.2.2 (by omega)
    obtain ⟨xs, h1, h2, h3, h4⟩ := row_cells hE hel
    obtain ⟨v', w', hrun, hown, hgr, hnone, hat⟩ := run_append_own_at (P := P) (w.alloc (.cells #[] T)) w.heap.size t ty T i z E.size bytes ht hi hz hsize hby hzs hpos _ 0 [] (App.made E w T).own ⟨g, o, none⟩ L.length cap xs h1
      (fun j u hj => by
        have hadd : (⟨g, o, none⟩ : Addr).add j = ⟨g, o + j, none⟩ := by unfold Addr.add; split <;> simp_all
        rw [hadd]
        exact (hbel.cell (p := ⟨g, o + j, none⟩) hg).trans (h2 j u hj)) h3 (by omega) (by simpa using hnb) (by simp)
    rw [Nat.zero_add, List.nil_append] at hown
    have hb2 : Below w.heap.size w w' := hbel.trans (by
      refine ⟨hgr.os, hgr.tape, hgr.output, hgr.size, fun k hk => hgr.block k (by simp; omega) (fun e => by cases e; exact Nat.lt_irrefl _ hk)⟩)
    rcases hown.2 with ⟨hn0, hL0⟩ | ⟨g', cap', cur, rfl, hlo, hgg, hnc, hm, hc, htk⟩
    · omega
    · have hgl : g' < w'.heap.size := (Array.getElem?_eq_some_iff.1 hgg).1
      refine ⟨_, cap', w', xs, hrun, ⟨hown, fun i x hi => absurd hi (Nat.not_lt_zero _), fun i x _ hx => ?_, fun i q hq => hq.elim, fun i j q _ hq => hq.elim, fun q hq => ?_, Nat.le_refl _, Nat.le_refl _, hb2.size⟩, hb2⟩
      · obtain ⟨us, h5, h6⟩ := h4 i x hx
        exact ⟨us, h5, hE.rd_below h6 hb2⟩
      · cases hq
        exact ⟨hlo, hgl⟩
end Go.Proofs.Ytjpkeofpcpaoaaa.RepC
