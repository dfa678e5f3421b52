/- Rows that grow by one element with memory of its own: general in the type. -/
import Derived.Test.YtdedomfocljhaaaGreatDoorNApp
import Derived.Test.YtdedomfocljhaaaGreatDoorFlatA
import Derived.Test.YtdedomfocljhaaaGreatDoorRep3
namespace Go.Proofs.YtdedomfocljhaaaGreatDoor.RepC
open Go.RowKit RowC ValC
set_option linter.unusedVariables false
set_option linter.unusedSimpArgs false
set_option maxRecDepth 100000

theorem infoOf {t : TypeId} {z : Value} {n b : Nat} (h : (Tryz.prog.info? t).map (fun i => (i.zero, i.size, i.bytes)) = some (some z, n, b)) : ∃ i, Tryz.prog.info? t = some i ∧ i.zero = some z ∧ i.size = n ∧ i.bytes = b := by
  cases hx : Tryz.prog.info? t with
  | none => rw [hx] at h; simp at h
  | some i => rw [hx] at h; simp at h; exact ⟨i, rfl, h.1, h.2.1, h.2.2⟩
/-- the row v shows L; S: the blocks that bear it, from base on and below top -/
def AppS {α : Type} (E : Rp α) (w : World) (base top : Nat) (T : TypeId) (v : Value) (L : List α) (S : Nat → Prop) : Prop :=
  ∃ lo hi xs Sf, base ≤ lo ∧ lo ≤ hi ∧ hi ≤ top ∧ App E w lo hi T v L xs Sf ∧ ∀ k, S k ↔ (v.ownBlock = some k ∨ ∃ i, Sf i k)
section
variable {α : Type} {E : Rp α} {w w' : World} {base top : Nat} {T : TypeId} {v : Value} {L : List α} {S : Nat → Prop}
theorem AppS.none_ (E : Rp α) (w : World) (T : TypeId) : AppS E w w.heap.size w.heap.size T (.slice none 0 0) [] (fun _ => False) :=
  ⟨_, _, _, _, Nat.le_refl _, Nat.le_refl _, Nat.le_refl _, App.none_ E w T (Nat.le_refl _), fun k => ⟨fun h => h.elim, fun h => h.elim (fun h => by cases h) fun ⟨_, h⟩ => h⟩⟩
theorem AppS.bnd (h : AppS E w base top T v L S) {k : Nat} (hk : S k) : base ≤ k ∧ k < top := by
  obtain ⟨lo, hi, xs, Sf, h1, h2, h3, hA, hS⟩ := h
  rcases (hS k).1 hk with h | ⟨i, h⟩
  · have := hA.blk k h; omega
  · have := hA.sub i k h; omega
theorem AppS.isSlice (h : AppS E w base top T v L S) : ∃ a c, v = .slice a L.length c := by
  obtain ⟨lo, hi, xs, Sf, h1, h2, h3, hA, hS⟩ := h
  exact hA.isSlice
theorem AppS.mv (hE : Ok E) (h : AppS E w base top T v L S) (hs : w.heap.size ≤ w'.heap.size) (hb : ∀ k, S k → w'.heap[k]? = w.heap[k]?) : AppS E w' base top T v L S := by
  obtain ⟨lo, hi, xs, Sf, h1, h2, h3, hA, hS⟩ := h
  exact ⟨lo, hi, xs, Sf, h1, h2, h3, hA.mv2 hE hs (fun k hk => hb k ((hS k).2 (.inl hk))) (fun i k hk => hb k ((hS k).2 (.inr ⟨i, hk⟩))), hS⟩
theorem AppS.call (hE : Ok E) (h : AppS E w base top T v L S) (ht : top ≤ w.heap.size) (hb : Below w.heap.size w w') : AppS E w' base top T v L S :=
  h.mv hE hb.size fun k hk => hb.block k (Nat.lt_of_lt_of_le (h.bnd hk).2 ht)
theorem AppS.rise {top' : Nat} (h : AppS E w base top T v L S) (ht : top ≤ top') : AppS E w base top' T v L S := by
  obtain ⟨lo, hi, xs, Sf, h1, h2, h3, hA, hS⟩ := h
  exact ⟨lo, hi, xs, Sf, h1, h2, Nat.le_trans h3 ht, hA, hS⟩
theorem AppS.done (hE : Ok E) (h : AppS E w base top T v L S) : ∃ a c, v = .slice a L.length c ∧ OwSl E w (Rg base top) L a c := by
  obtain ⟨lo, hi, xs, Sf, h1, h2, h3, hA, hS⟩ := h
  obtain ⟨a, c, rfl, hO⟩ := hA.done
  exact ⟨a, c, rfl, hO.more (fun k hk => ⟨Nat.le_trans h1 hk.1, Nat.lt_of_lt_of_le hk.2 h3⟩)⟩
theorem AppS.done2 (h : AppS E w base top T v L S) : ∃ a c, v = .slice a L.length c ∧ OwSl E w S L a c := by
  obtain ⟨lo, hi, xs, Sf, h1, h2, h3, hA, hS⟩ := h
  obtain ⟨hx, h2⟩ := hA.own
  rcases h2 with ⟨rfl, h0⟩ | ⟨g, cap, cur, rfl, hlo, hg, hn, hm, hc, ht⟩
  · have : L = [] := List.eq_nil_of_length_eq_zero h0
    subst this
    exact ⟨none, 0, rfl, Nat.le_refl _, Nat.zero_le _, fun h => absurd h (Nat.lt_irrefl _)⟩
  · refine ⟨_, cap, rfl, hn, hm, fun _ => ⟨g, Sf, rfl, (hS g).2 (.inl rfl), fun j => by simp [World.frozen?, hg], fun i k hk => ⟨(hS k).2 (.inr ⟨i, hk⟩), fun e => (hA.sub i k hk).2.2 (by rw [e]; rfl)⟩, hA.dis, fun i x hi => ?_⟩⟩
    obtain ⟨us, h1, h3⟩ := hA.el i x hi
    refine ⟨us, fun j c hj => ?_, h3⟩
    have h4 := h1 j c hj
    rw [← ht] at h4
    have h5 : cur.toList[i * E.size + j]? = some c := by
      rw [List.getElem?_take] at h4
      split at h4
      · exact h4
      · cases h4
    exact (cell_of_row w g _ cur _ _ hg).trans (by simpa using h5)
/-- one element more -/
theorem AppS.app {P : Program} (hE : Ok E) (h : AppS E w base top T v L S) {t ty : TypeId} {i : TypeInfo} {z : Value} {bytes : Nat} (ht : P.underlying t = some (.slice T)) (hi' : P.info? T = some i) (hz : i.zero = some z) (hsize : i.size = E.size) (hby : i.bytes = bytes) (hzs : z.cells.size = E.size) (hpos : 0 < E.size)
    {x : α} {us : List Value} {Sx : Nat → Prop} {blk c : Nat} (hrow : ∀ j u, us[j]? = some u → w.cell? ⟨blk, j, none⟩ = some u) (hx : E.ow w Sx x us) (hS : ∀ k, Sx k → top ≤ k ∧ k < w.heap.size) (htop : top ≤ w.heap.size) (hL : L.length + 1 ≤ maxLen) (hLb : (L.length + 1) * bytes ≤ 140737488355328) :
    ∃ v' w' S', (Builtin.append_ #[t, t] ty #[v, .slice (some ⟨blk, 0, none⟩) 1 c]).run P w = .ok v' w' ∧ AppS E w' base w'.heap.size T v' (L ++ [x]) S' ∧ w.grownBy w' v.ownBlock ∧ (∀ k, v.ownBlock = some k → S k) ∧ ∀ k, S' k → S k ∨ top ≤ k := by
  obtain ⟨lo, hi, xs, Sf, h1, h2, h3, hA, hSS⟩ := h
  obtain ⟨v', w', xs', Sf', hrun, hA', hg, hown, hsub⟩ := hA.app2 (ty := ty) (c := c) hE ht hi' hz hsize hby hzs hpos hrow hx (fun k hk => ⟨by have := hS k hk; omega, (hS k hk).2⟩) h2 hL hLb
  refine ⟨v', w', fun k => v'.ownBlock = some k ∨ ∃ i, Sf' i k, hrun, ⟨lo, w'.heap.size, xs', Sf', h1, ?_, Nat.le_refl _, hA', fun k => Iff.rfl⟩, hg, fun k hk => (hSS k).2 (.inl hk), fun k hk => ?_⟩
  · have := hg.size; omega
  · rcases hk with hk | ⟨i, hk⟩
    · rcases hown k hk with h | h
      · exact .inl ((hSS k).2 (.inl h))
      · exact .inr (by omega)
    · rcases hsub i k hk with h | h
      · exact .inl ((hSS k).2 (.inr ⟨i, h⟩))
      · exact .inr (hS k h).1
end

/-- the row v, of the call's own from lo on, shows L -/
def ARow {α : Type} (E : Rp α) (w : World) (lo : Nat) (T : TypeId) (v : Value) (L : List α) : Prop := ∃ S, AppS E w lo w.heap.size T v L S
section
variable {α : Type} {E : Rp α} {w w' : World} {lo : Nat} {T : TypeId} {v : Value} {L : List α}
theorem ARow.none_ (E : Rp α) (w : World) (T : TypeId) : ARow E w w.heap.size T (.slice none 0 0) [] := ⟨_, AppS.none_ E w T⟩
theorem ARow.made (E : Rp α) (w : World) (T : TypeId) : ARow E (w.alloc (.cells #[] T)) w.heap.size T (.slice (some ⟨w.heap.size, 0, none⟩) 0 0) [] :=
  ⟨_, _, _, _, _, Nat.le_refl _, Nat.le_succ _, by simp, App.made E w T, fun k => Iff.rfl⟩
theorem ARow.call (hE : Ok E) (h : ARow E w lo T v L) (hb : Below w.heap.size w w') : ARow E w' lo T v L := by
  obtain ⟨S, h⟩ := h
  exact ⟨S, (h.call hE (Nat.le_refl _) hb).rise hb.size⟩
theorem ARow.isSlice (h : ARow E w lo T v L) : ∃ a c, v = .slice a L.length c := by obtain ⟨S, h⟩ := h; exact h.isSlice
theorem ARow.base (h : ARow E w lo T v L) : lo ≤ w.heap.size := by
  obtain ⟨S, a, b, xs, Sf, h1, h2, h3, _⟩ := h
  omega
theorem ARow.app {P : Program} (hE : Ok E) (h : ARow E w lo T v L) (hb : Below w.heap.size w w') {t ty : TypeId} {i : TypeInfo} {z : Value} {bytes : Nat} (ht : P.underlying t = some (.slice T)) (hi' : P.info? T = some i) (hz : i.zero = some z) (hsize : i.size = E.size) (hby : i.bytes = bytes) (hzs : z.cells.size = E.size) (hpos : 0 < E.size)
    {x : α} {us : List Value} {blk c : Nat} (hrow : ∀ j u, us[j]? = some u → w'.cell? ⟨blk, j, none⟩ = some u) (hx : E.ow w' (Rg w.heap.size w'.heap.size) x us) (hL : L.length + 1 ≤ maxLen) (hLb : (L.length + 1) * bytes ≤ 140737488355328) :
    ∃ a' c' w2, (Builtin.append_ #[t, t] ty #[v, .slice (some ⟨blk, 0, none⟩) 1 c]).run P w' = .ok (.slice a' (L ++ [x]).length c') w2 ∧ ARow E w2 lo T (.slice a' (L ++ [x]).length c') (L ++ [x]) ∧ Below lo w' w2 := by
  obtain ⟨S, h⟩ := h
  have h' := h.call hE (Nat.le_refl _) hb
  obtain ⟨v', w2, S', hrun, hA, hg, ho, _⟩ := h'.app (ty := ty) (c := c) hE ht hi' hz hsize hby hzs hpos hrow hx (fun k hk => hk) hb.size hL hLb
  have hA2 : ARow E w2 lo T v' (L ++ [x]) := ⟨S', hA⟩
  obtain ⟨a', c', rfl⟩ := hA2.isSlice
  have hlo := ARow.base (show ARow E w lo T v L from ⟨S, h⟩)
  exact ⟨a', c', w2, hrun, hA2, below_own hg (fun k hk => (h.bnd (ho k hk)).1) (Nat.le_trans hlo hb.size)⟩
theorem ARow.news (hE : Ok E) {W : World} (h : ARow E w lo T v L) (hlo : W.heap.size ≤ lo) (hb : Below W.heap.size W w) : NewS E L W (.returned v) w := by
  obtain ⟨S, h⟩ := h
  obtain ⟨a, c, rfl, ho⟩ := h.done hE
  exact ⟨a, c, rfl, ho.more fun k hk => ⟨Nat.le_trans hlo hk.1, hk.2⟩, hb⟩
end
end Go.Proofs.YtdedomfocljhaaaGreatDoor.RepC
