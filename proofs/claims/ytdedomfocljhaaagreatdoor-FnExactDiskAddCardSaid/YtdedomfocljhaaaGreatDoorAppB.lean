/- Common to LApp and NApp. -/
import Derived.Test.YtdedomfocljhaaaGreatDoorRep3
import Derived.Test.YtdedomfocljhaaaGreatDoorRowO
import Derived.Test.YtdedomfocljhaaaGreatDoorVals
namespace Go.Proofs.YtdedomfocljhaaaGreatDoor.RepC
open Go.RowKit RowC ValC
set_option linter.unusedVariables false
set_option maxRecDepth 100000
section
variable {α : Type} {E : Rp α} {w w' : World} {lo hi : Nat} {T : TypeId} {v : Value} {L : List α} {xs : List Value} {Sf : Nat → Nat → Prop}
theorem app_nil {P : Program} {w : World} {t ty e : TypeId} {i : TypeInfo} (ht : P.underlying t = some (.slice e)) (hi : P.info? e = some i) (base a : Option Addr) (cap c : Nat) :
    (Builtin.append_ #[t, t] ty #[.slice base 0 cap, .slice a 0 c]).run P w = .ok (.slice base 0 cap) w := by
  have hf : (Builtin.firstCells i.size 0 (.slice a 0 c)).run P w = .ok #[] w := by
    cases a with
    | none => exact run_firstCells_none _ _ _ _ _
    | some a => exact run_firstCells_some _ _ 0 a 0 c [] (by simp) (by simp)
  cases base <;> simp [Builtin.append_, run_underlying ht, sizeOf, typeInfo, hi, Builtin.lenOf, hf, storeCells]
/-- the slice v shows L; its row and what its elements own lie between lo and hi, apart from one another -/
structure App {α : Type} (E : Rp α) (w : World) (lo hi : Nat) (T : TypeId) (v : Value) (L : List α) (xs : List Value) (Sf : Nat → Nat → Prop) : Prop where
  own : w.ownsRow lo T E.size v L.length xs
  el : ∀ i x, L[i]? = some x → ∃ us, (∀ j c, us[j]? = some c → xs[i * E.size + j]? = some c) ∧ E.ow w (Sf i) x us
  sub : ∀ i k, Sf i k → lo ≤ k ∧ k < hi ∧ v.ownBlock ≠ some k
  dis : ∀ i j k, i < j → Sf i k → ¬ Sf j k
  blk : ∀ k, v.ownBlock = some k → lo ≤ k ∧ k < hi
  le : hi ≤ w.heap.size
theorem App.none_ (E : Rp α) (w : World) {lo hi : Nat} (T : TypeId) (h : hi ≤ w.heap.size) : App E w lo hi T (.slice none 0 0) [] [] (fun _ _ => False) :=
  ⟨⟨by simp, .inl ⟨rfl, rfl⟩⟩, fun i x hx => by simp at hx, fun i k h => h.elim, fun i j k _ h => h.elim, fun k hk => (by cases hk), h⟩
theorem App.made (E : Rp α) (w : World) (T : TypeId) : App E (w.alloc (.cells #[] T)) w.heap.size (w.heap.size + 1) T (.slice (some ⟨w.heap.size, 0, none⟩) 0 0) [] [] (fun _ _ => False) :=
  ⟨⟨by simp, .inr ⟨w.heap.size, 0, #[], rfl, Nat.le_refl _, heap_alloc_new w _, Nat.le_refl _, Nat.zero_le _, by simp, by simp⟩⟩, fun i x hx => by simp at hx, fun i k h => h.elim, fun i j k _ h => h.elim, fun k hk => (by cases hk; exact ⟨Nat.le_refl _, Nat.lt_succ_self _⟩), by simp⟩
/-- nothing below hi has turned -/
theorem App.mv (hE : Ok E) (h : App E w lo hi T v L xs Sf) (hs : w.heap.size ≤ w'.heap.size) (hb : ∀ k, lo ≤ k → k < hi → w'.heap[k]? = w.heap[k]?) : App E w' lo hi T v L xs Sf := by
  refine ⟨?_, fun i x hx => ?_, h.sub, h.dis, h.blk, Nat.le_trans h.le hs⟩
  · obtain ⟨h1, h2⟩ := h.own
    refine ⟨h1, ?_⟩
    rcases h2 with h2 | ⟨g, cap, cur, rfl, hlo, hg, h3⟩
    · exact .inl h2
    · have := h.blk g rfl
      exact .inr ⟨g, cap, cur, rfl, hlo, (hb g this.1 this.2).trans hg, h3⟩
  · obtain ⟨us, h1, h2⟩ := h.el i x hx
    exact ⟨us, h1, hE.ow_keep h2 fun k hk => hb k (h.sub i k hk).1 (h.sub i k hk).2.1⟩
theorem App.call (hE : Ok E) (h : App E w lo hi T v L xs Sf) (hb : Below w.heap.size w w') : App E w' lo hi T v L xs Sf := h.mv hE hb.size fun k _ hk => hb.block k (Nat.lt_of_lt_of_le hk h.le)
theorem App.isSlice (h : App E w lo hi T v L xs Sf) : ∃ a cap, v = .slice a L.length cap := by
  obtain ⟨_, h2⟩ := h.own
  rcases h2 with ⟨rfl, h0⟩ | ⟨g, cap, cur, rfl, _⟩
  · exact ⟨none, 0, by rw [h0]⟩
  · exact ⟨_, _, rfl⟩
theorem App.done (h : App E w lo hi T v L xs Sf) : ∃ a cap, v = .slice a L.length cap ∧ OwSl E w (Rg lo hi) L a cap := by
  obtain ⟨hx, h2⟩ := h.own
  rcases h2 with ⟨rfl, h0⟩ | ⟨g, cap, cur, rfl, hlo, hg, hn, hm, hc, ht⟩
  · have : L = [] := List.eq_nil_of_length_eq_zero h0
    subst this
    exact ⟨none, 0, rfl, Nat.le_refl _, Nat.zero_le _, fun h => absurd h (Nat.lt_irrefl _)⟩
  · have hb := h.blk g rfl
    refine ⟨_, cap, rfl, hn, hm, fun _ => ⟨g, Sf, rfl, ⟨hb.1, hb.2⟩, fun j => by simp [World.frozen?, hg], fun i k hk => ⟨⟨(h.sub i k hk).1, (h.sub i k hk).2.1⟩, fun e => (h.sub i k hk).2.2 (by rw [e]; rfl)⟩, h.dis, fun i x hi => ?_⟩⟩
    obtain ⟨us, h1, h3⟩ := h.el i x hi
    refine ⟨us, fun j c hj => ?_, h3⟩
    have h4 := h1 j c hj
    rw [← ht] at h4
    have h5 : cur.toList[i * E.size + j]? = some c := by
      rw [List.getElem?_take] at h4
      split at h4
      · exact h4
      · cases h4
    exact (cell_of_row w g _ cur _ _ hg).trans (by simpa using h5)
/-- one element more -/
theorem App.app2 {P : Program} (hE : Ok E) (h : App E w lo hi T v L xs Sf) {t ty : TypeId} {i : TypeInfo} {z : Value} {bytes : Nat} (ht : P.underlying t = some (.slice T)) (hi' : P.info? T = some i) (hz : i.zero = some z) (hsize : i.size = E.size) (hby : i.bytes = bytes) (hzs : z.cells.size = E.size) (hpos : 0 < E.size)
    {x : α} {us : List Value} {Sx : Nat → Prop} {blk c : Nat} (hrow : ∀ j u, us[j]? = some u → w.cell? ⟨blk, j, none⟩ = some u) (hx : E.ow w Sx x us) (hS : ∀ k, Sx k → hi ≤ k ∧ k < w.heap.size) (hlo : lo ≤ hi) (hL : L.length + 1 ≤ maxLen) (hLb : (L.length + 1) * bytes ≤ 140737488355328) :
    ∃ v' w' xs' Sf', (Builtin.append_ #[t, t] ty #[v, .slice (some ⟨blk, 0, none⟩) 1 c]).run P w = .ok v' w' ∧ App E w' lo w'.heap.size T v' (L ++ [x]) xs' Sf' ∧ w.grownBy w' v.ownBlock ∧ (∀ k, v'.ownBlock = some k → v.ownBlock = some k ∨ k = w.heap.size) ∧ (∀ i k, Sf' i k → Sf i k ∨ Sx k) := by
  have hul := hE.ow_len hx
  obtain ⟨v', w', hrun, hown, hg, _, hat⟩ := run_append_own_at (P := P) w lo t ty T i z E.size bytes ht hi' hz hsize hby hzs hpos v L.length xs h.own ⟨blk, 0, none⟩ 1 c us (by rw [hul, Nat.one_mul])
    (fun j u hj => by
      have hadd : (⟨blk, 0, none⟩ : Addr).add j = ⟨blk, j, none⟩ := by unfold Addr.add; split <;> simp_all
      rw [hadd]
      exact hrow j u hj) (hE.one (hE.ow_rd (B := w.heap.size) hx fun k hk => (hS k hk).2)) hL hLb (Nat.le_trans hlo h.le)
  have hsz := hg.size
  have hle := h.le
  have hxl : xs.length = L.length * E.size := h.own.1
  have hnb : ∀ k, hi ≤ k → some k ≠ v.ownBlock := fun k hk e => by have := (h.blk k e.symm).2; omega
  refine ⟨v', w', xs ++ us, fun q k => if q = L.length then Sx k else Sf q k, hrun, ⟨by rw [List.length_append]; exact hown, fun q y hy => ?_, fun q k hk => ?_, fun q r k hqr hk => ?_, fun k hk => ?_, Nat.le_refl _⟩, hg, fun k hk => ?_, fun q k hk => ?_⟩
  · by_cases hq : q < L.length
    · rw [List.getElem?_append_left hq] at hy
      obtain ⟨vs, h1, h2⟩ := h.el q y hy
      refine ⟨vs, fun j d hj => ?_, ?_⟩
      · have h3 := h1 j d hj
        rw [List.getElem?_append_left (List.getElem?_eq_some_iff.1 h3).1]
        exact h3
      · simp only [show ¬ q = L.length from by omega, if_false]
        exact hE.ow_keep h2 fun k hk => hg.block k (Nat.lt_of_lt_of_le (h.sub q k hk).2.1 hle) (fun e => (h.sub q k hk).2.2 e.symm)
    · rw [List.getElem?_append_right (by omega)] at hy
      have hq2 : q = L.length := by
        have := (List.getElem?_eq_some_iff.1 hy).1
        simp at this
        omega
      subst hq2
      simp at hy
      subst hy
      refine ⟨us, fun j d hj => ?_, ?_⟩
      · rw [List.getElem?_append_right (by omega), hxl, Nat.add_sub_cancel_left]
        exact hj
      · simp only [if_true]
        exact hE.ow_keep hx fun k hk => hg.block k (hS k hk).2 (hnb k (hS k hk).1)
  · have hne : ∀ k, k < w.heap.size → v.ownBlock ≠ some k → v'.ownBlock ≠ some k := fun k hk hn e => by
      rcases hat with e2 | e2
      · exact hn (e2 ▸ e)
      · rw [e2] at e
        cases e
        omega
    by_cases hq : q = L.length
    · simp only [hq, if_true] at hk
      have := hS k hk
      exact ⟨by omega, by omega, hne k this.2 (fun e => hnb k this.1 e.symm)⟩
    · simp only [hq, if_false] at hk
      have := h.sub q k hk
      exact ⟨this.1, by omega, hne k (by omega) this.2.2⟩
  · by_cases hq : q = L.length
    · simp only [hq, if_true] at hk
      simp only [show ¬ r = L.length from by omega, if_false]
      intro h2
      have h3 := (h.sub r k h2).2.1
      have h4 := (hS k hk).1
      omega
    · simp only [hq, if_false] at hk
      by_cases hr : r = L.length
      · simp only [hr, if_true]
        intro h2
        have h3 := (h.sub q k hk).2.1
        have h4 := (hS k h2).1
        omega
      · simp only [hr, if_false]
        exact h.dis q r k hqr hk
  · rcases hat with e2 | e2
    · rw [e2] at hk
      have := h.blk k hk
      omega
    · rw [e2] at hk
      cases hk
      rcases hown.2 with ⟨hn, h0⟩ | ⟨g, cap, cur, hv, hlog, hgg, _⟩
      · rw [hn] at e2
        cases e2
      · rw [hv] at e2
        cases e2
        exact ⟨hlog, (Array.getElem?_eq_some_iff.1 hgg).1⟩
  · rcases hat with e2 | e2
    · exact .inl (e2 ▸ hk)
    · rw [e2] at hk
      cases hk
      exact .inr rfl
  · by_cases hq : q = L.length
    · simp only [hq, if_true] at hk
      exact .inr hk
    · simp only [hq, if_false] at hk
      exact .inl hk
theorem App.app {P : Program} (hE : Ok E) (h : App E w lo hi T v L xs Sf) {t ty : TypeId} {i : TypeInfo} {z : Value} {bytes : Nat} (ht : P.underlying t = some (.slice T)) (hi' : P.info? T = some i) (hz : i.zero = some z) (hsize : i.size = E.size) (hby : i.bytes = bytes) (hzs : z.cells.size = E.size) (hpos : 0 < E.size)
    {x : α} {us : List Value} {Sx : Nat → Prop} {blk c : Nat} (hrow : ∀ j u, us[j]? = some u → w.cell? ⟨blk, j, none⟩ = some u) (hx : E.ow w Sx x us) (hS : ∀ k, Sx k → hi ≤ k ∧ k < w.heap.size) (hlo : lo ≤ hi) (hL : L.length + 1 ≤ maxLen) (hLb : (L.length + 1) * bytes ≤ 140737488355328) :
    ∃ v' w' xs' Sf', (Builtin.append_ #[t, t] ty #[v, .slice (some ⟨blk, 0, none⟩) 1 c]).run P w = .ok v' w' ∧ App E w' lo w'.heap.size T v' (L ++ [x]) xs' Sf' ∧ w.grownBy w' v.ownBlock := by
  obtain ⟨v', w', xs', Sf', h1, h2, h3, _⟩ := h.app2 (ty := ty) (c := c) hE ht hi' hz hsize hby hzs hpos hrow hx hS hlo hL hLb
  exact ⟨v', w', xs', Sf', h1, h2, h3⟩
/-- the blocks that bear it have not turned -/
theorem App.mv2 (hE : Ok E) (h : App E w lo hi T v L xs Sf) (hs : w.heap.size ≤ w'.heap.size) (hb : ∀ k, v.ownBlock = some k → w'.heap[k]? = w.heap[k]?) (hb2 : ∀ i k, Sf i k → w'.heap[k]? = w.heap[k]?) : App E w' lo hi T v L xs Sf := by
  refine ⟨?_, fun i x hx => ?_, h.sub, h.dis, h.blk, Nat.le_trans h.le hs⟩
  · obtain ⟨h1, h2⟩ := h.own
    refine ⟨h1, ?_⟩
    rcases h2 with h2 | ⟨g, cap, cur, rfl, hlo, hg, h3⟩
    · exact .inl h2
    · exact .inr ⟨g, cap, cur, rfl, hlo, (hb g rfl).trans hg, h3⟩
  · obtain ⟨us, h1, h2⟩ := h.el i x hx
    exact ⟨us, h1, hE.ow_keep h2 fun k hk => hb2 i k hk⟩
end
/-- a kind of data that lie in their cells alone -/
structure Flat {α : Type} (E : Rp α) (f : α → List Value) : Prop where
  rd : ∀ {W B x us}, E.rd W B x us → us = f x
  ow : ∀ (W : World) (S : Nat → Prop) (x : α), E.ow W S x (f x)
/-- 'append([]T{}, l...)' of such -/
theorem app_flat {α : Type} {E : Rp α} {f : α → List Value} (hE : Ok E) (hF : Flat E f) {P : Program} {L : List α} {a : Option Addr} {cap : Nat} {w : World} {t ty T : TypeId} {i : TypeInfo} {z : Value} {bytes : Nat} (ht : P.underlying t = some (.slice T)) (hi : P.info? T = some i) (hz : i.zero = some z) (hsize : i.size = E.size) (hby : i.bytes = bytes)
    (hzs : z.cells.size = E.size) (hpos : 0 < E.size) (hn : L.length ≤ maxLen) (hnb : L.length * bytes ≤ 140737488355328) (h : RdSl E w w.heap.size L a cap) :
    ∃ a' c' w', (Builtin.append_ #[t, t] ty #[.slice (some ⟨w.heap.size, 0, none⟩) 0 0, .slice a L.length cap]).run P (w.alloc (.cells #[] T)) = .ok (.slice a' L.length c') w' ∧ OwSl E w' (Rg w.heap.size w'.heap.size) L a' c' ∧ Below w.heap.size w w' := by
  have hbel : Below w.heap.size w (w.alloc (.cells #[] T)) := (Below.refl _ _).alloc (Nat.le_refl _) _
  by_cases h0 : L.length = 0
  · have hL : L = [] := List.eq_nil_of_length_eq_zero h0
    subst hL
    exact ⟨_, _, _, app_nil ht hi _ a 0 cap, ⟨Nat.le_refl _, Nat.zero_le _, fun h => absurd h (Nat.lt_irrefl _)⟩, hbel⟩
  · obtain ⟨g, o, rfl, hg, hel⟩ := h.2.2 (by omega)
    have hlen : ∀ x ∈ L, (f x).length = E.size := fun x hx => hE.ow_len (hF.ow w (fun _ => False) x)
    have hfl : ∀ M : List α, (∀ x ∈ M, (f x).length = E.size) → (M.flatMap f).length = M.length * E.size := fun M hM => by
      induction M with
      | nil => simp
      | cons y ys ih => simp only [List.flatMap_cons, List.length_append, List.length_cons, ih fun x hx => hM x (by simp [hx]), hM y (by simp), Nat.add_mul, Nat.one_mul]; omega
    have hcell : ∀ (M : List α) (b : Nat), (∀ x ∈ M, (f x).length = E.size) → (∀ i x, M[i]? = some x → CellsAt w g (b + i * E.size) (f x)) → CellsAt w g b (M.flatMap f) := by
      intro M
      induction M with
      | nil => exact fun b _ _ => CellsAt.nil
      | cons y ys ih =>
        intro b hM hc
        simp only [List.flatMap_cons]
        refine CellsAt.app.2 ⟨by simpa using hc 0 y rfl, ?_⟩
        rw [hM y (by simp)]
        refine ih _ (fun x hx => hM x (by simp [hx])) fun i x hx => ?_
        have := hc (i + 1) x (by simpa using hx)
        rw [Nat.add_mul, Nat.one_mul] at this
        rw [show b + E.size + i * E.size = b + (i * E.size + E.size) by omega]
        exact this
    have hall := hcell L o hlen fun i x hx => by
      obtain ⟨us, hu, hr⟩ := hel i x hx
      rw [← hF.rd hr]
      exact hu
    obtain ⟨v', w', hrun, hown, hgr, _, hat⟩ := run_append_own_at (P := P) (w.alloc (.cells #[] T)) w.heap.size t ty T i z E.size bytes ht hi hz hsize hby hzs hpos _ 0 [] (App.made E w T).own ⟨g, o, none⟩ L.length cap (L.flatMap f) (hfl L hlen)
      (fun j u hj => by
        have hadd : (⟨g, o, none⟩ : Addr).add j = ⟨g, o + j, none⟩ := by unfold Addr.add; split <;> simp_all
        rw [hadd]
        exact (hbel.cell (p := ⟨g, o + j, none⟩) hg).trans (hall j u hj)) (fun u hu => by
        obtain ⟨x, hx, hu⟩ := List.mem_flatMap.1 hu
        exact hE.one (hE.ow_rd (B := 0) (hF.ow w (fun _ => False) x) (fun k h => h.elim)) u hu) (by omega) (by simpa using hnb) (by simp)
    rw [Nat.zero_add, List.nil_append] at hown
    have hb2 : Below w.heap.size w w' := hbel.trans (by
      refine ⟨hgr.os, hgr.tape, hgr.output, hgr.size, fun k hk => hgr.block k (by simp; omega) (fun e => by cases e; exact Nat.lt_irrefl _ hk)⟩)
    rcases hown.2 with ⟨hn0, hL0⟩ | ⟨g', cap', cur, rfl, hlo, hgg, hnc, hm, hc, htk⟩
    · omega
    · have hgl : g' < w'.heap.size := (Array.getElem?_eq_some_iff.1 hgg).1
      refine ⟨_, cap', w', hrun, ⟨hnc, hm, fun _ => ⟨g', fun _ _ => False, rfl, ⟨hlo, hgl⟩, fun j => by simp [World.frozen?, hgg], fun i k h => h.elim, fun i j k _ h => h.elim, fun q x hq => ⟨f x, fun j d hj => ?_, hF.ow _ _ _⟩⟩⟩, hb2⟩
      have hidx : ∀ (M : List α) (q : Nat) (x : α), (∀ x ∈ M, (f x).length = E.size) → M[q]? = some x → ∀ j d, (f x)[j]? = some d → (M.flatMap f)[q * E.size + j]? = some d := by
        intro M
        induction M with
        | nil => intro q x _ hq; simp at hq
        | cons y ys ih =>
          intro q x hM hq j d hj
          simp only [List.flatMap_cons]
          cases q with
          | zero =>
            simp at hq
            subst hq
            rw [Nat.zero_mul, Nat.zero_add, List.getElem?_append_left (List.getElem?_eq_some_iff.1 hj).1]
            exact hj
          | succ q =>
            have hy := hM y (by simp)
            rw [List.getElem?_append_right (by rw [hy, Nat.add_mul, Nat.one_mul]; omega), hy, Nat.add_mul, Nat.one_mul, show q * E.size + E.size + j - E.size = q * E.size + j by omega]
            exact ih q x (fun x hx => hM x (by simp [hx])) (by simpa using hq) j d hj
      have h4 := hidx L q x hlen hq j d hj
      rw [← htk] at h4
      have h5 : cur.toList[q * E.size + j]? = some d := by
        rw [List.getElem?_take] at h4
        split at h4
        · exact h4
        · cases h4
      exact (cell_of_row w' g' _ cur _ _ hgg).trans (by simpa using h5)
end Go.Proofs.YtdedomfocljhaaaGreatDoor.RepC
