/- Labels of a configuration: the maths. -/
import Derived.Test.YtmmnkdilnlhbfaaRep3
import Derived.Test.YtmmnkdilnlhbfaaLab
import Derived.Test.YtmmnkdilnlhbfaaSp
import Derived.Lib.SlicesCompact
import Derived.Sort.Statements
namespace Go.Proofs.Ytmmnkdilnlhbfaa.CfC
open Go.Lib Go.Sort
set_option linter.unusedVariables false
set_option linter.unusedSimpArgs false

abbrev Lb := Int × Int
def ltB (a b : Lb) : Prop := a.1 < b.1 ∨ a.1 = b.1 ∧ a.2 < b.2
def labAt (k : Nat) : Lb := (((k / 8 : Nat) : Int), ((k % 8 : Nat) : Int))
/-- the labels with numbers below n for which a node is cleared -/
def labsTo (C : List (List Lb)) (n : Nat) : List Lb := ((List.range n).map labAt).filter (fun a => decide (∃ x ∈ C, a ∈ x))
def labsOf (C : List (List Lb)) : List Lb := labsTo C 32
theorem labsTo_zero (C : List (List Lb)) : labsTo C 0 = [] := rfl
theorem labsTo_yes {C : List (List Lb)} {k : Nat} (h : ∃ x ∈ C, labAt k ∈ x) : labsTo C (k + 1) = labsTo C k ++ [labAt k] := by
  unfold labsTo
  rw [List.range_succ, List.map_append, List.filter_append]
  simp only [List.map_cons, List.map_nil, List.filter_cons, decide_eq_true h, List.filter_nil, if_true]
theorem labsTo_no {C : List (List Lb)} {k : Nat} (h : ¬ ∃ x ∈ C, labAt k ∈ x) : labsTo C (k + 1) = labsTo C k := by
  unfold labsTo
  rw [List.range_succ, List.map_append, List.filter_append]
  simp only [List.map_cons, List.map_nil, List.filter_cons, decide_eq_false h, List.filter_nil, Bool.false_eq_true, if_false, List.append_nil]
theorem labsTo_len (C : List (List Lb)) (n : Nat) : (labsTo C n).length ≤ n := by
  unfold labsTo
  exact Nat.le_trans (List.length_filter_le _ _) (by simp)
theorem mem_labs {C : List (List Lb)} {a : Lb} : a ∈ labsOf C ↔ LabC.rP a.1 a.2 ∧ ∃ x ∈ C, a ∈ x := by
  unfold labsOf labsTo
  rw [List.mem_filter, List.mem_map]
  constructor
  · rintro ⟨⟨k, hk, rfl⟩, h⟩
    rw [List.mem_range] at hk
    refine ⟨?_, of_decide_eq_true h⟩
    show 0 ≤ ((k / 8 : Nat) : Int) ∧ ((k / 8 : Nat) : Int) ≤ 3 ∧ 0 ≤ ((k % 8 : Nat) : Int) ∧ ((k % 8 : Nat) : Int) ≤ 7
    omega
  · rintro ⟨⟨h1, h2, h3, h4⟩, h⟩
    obtain ⟨l, s⟩ := a
    refine ⟨⟨(8 * l + s).toNat, ?_, ?_⟩, decide_eq_true h⟩
    · rw [List.mem_range]; simp only at h1 h2 h3 h4; omega
    · show ((((8 * l + s).toNat / 8 : Nat) : Int), (((8 * l + s).toNat % 8 : Nat) : Int)) = (l, s)
      simp only at h1 h2 h3 h4
      rw [Prod.mk.injEq]
      omega
theorem labs_sorted (C : List (List Lb)) (n : Nat) : (labsTo C n).Pairwise ltB := by
  unfold labsTo
  refine List.Pairwise.filter _ ?_
  rw [List.pairwise_map]
  refine List.Pairwise.imp ?_ List.pairwise_lt_range
  intro i j h
  show ((i / 8 : Nat) : Int) < ((j / 8 : Nat) : Int) ∨ ((i / 8 : Nat) : Int) = ((j / 8 : Nat) : Int) ∧ ((i % 8 : Nat) : Int) < ((j % 8 : Nat) : Int)
  omega
theorem ltB_trans {a b c : Lb} (h1 : ltB a b) (h2 : ltB b c) : ltB a c := by unfold ltB at *; omega
theorem ltB_irrefl {a : Lb} (h : ltB a a) : False := by unfold ltB at h; omega
theorem ltB_total (a b : Lb) : ltB a b ∨ a = b ∨ ltB b a := by
  unfold ltB
  obtain ⟨p, q⟩ := a
  obtain ⟨r, s⟩ := b
  simp only [Prod.mk.injEq]
  omega
theorem sorted_eq : ∀ {L M : List Lb}, L.Pairwise ltB → M.Pairwise ltB → (∀ a, a ∈ L ↔ a ∈ M) → L = M
  | [], [], _, _, _ => rfl
  | [], y :: ys, _, _, h => by have := (h y).2 List.mem_cons_self; cases this
  | x :: xs, [], _, _, h => by have := (h x).1 List.mem_cons_self; cases this
  | x :: xs, y :: ys, hL, hM, h => by
    rw [List.pairwise_cons] at hL hM
    have hxy : x = y := by
      rcases List.mem_cons.1 ((h x).1 List.mem_cons_self) with e | e
      · exact e
      · rcases List.mem_cons.1 ((h y).2 List.mem_cons_self) with e2 | e2
        · exact e2.symm
        · exact (ltB_irrefl (ltB_trans (hL.1 _ e2) (hM.1 _ e))).elim
    subst hxy
    rw [sorted_eq hL.2 hM.2 fun a => ?_]
    constructor
    · intro ha
      rcases List.mem_cons.1 ((h a).1 (List.mem_cons_of_mem _ ha)) with e | e
      · subst e; exact (ltB_irrefl (hL.1 _ ha)).elim
      · exact e
    · intro ha
      rcases List.mem_cons.1 ((h a).2 (List.mem_cons_of_mem _ ha)) with e | e
      · subst e; exact (ltB_irrefl (hM.1 _ ha)).elim
      · exact e
theorem sorted_len {L M : List Lb} (hL : L.Pairwise ltB) (hM : M.Pairwise ltB) (h : ∀ a, a ∈ L → a ∈ M) : L.length ≤ M.length := by
  have e : L = M.filter (fun a => decide (a ∈ L)) := sorted_eq hL (hM.filter _) fun a => by
    rw [List.mem_filter]
    exact ⟨fun ha => ⟨h a ha, decide_eq_true ha⟩, fun ha => of_decide_eq_true ha.2⟩
  rw [e]
  exact List.length_filter_le _ _
/-- what Compact leaves of a sorted row is strictly sorted, and has the same members -/
theorem compact_sorted {d : Array Lb} (hs : ∀ i j, i < j → j < d.size → ¬ ltB d[j]! d[i]!) :
    ∀ m, m ≤ d.size → (compactUpTo d m).Pairwise ltB ∧ (∀ a, a ∈ compactUpTo d m ↔ ∃ j, j < m ∧ d[j]! = a) ∧ (∀ a ∈ compactUpTo d m, a = d[m - 1]! ∨ ltB a d[m - 1]!)
  | 0, _ => by
    refine ⟨List.Pairwise.nil, fun a => ⟨fun h => (by cases h), fun ⟨j, h, _⟩ => absurd h (Nat.not_lt_zero _)⟩, fun a h => (by cases h)⟩
  | m + 1, hm => by
    obtain ⟨h1, h2, h3⟩ := compact_sorted hs m (by omega)
    rw [compactUpTo_succ]
    show _ ∧ _ ∧ ∀ a ∈ _, a = d[m]! ∨ ltB a d[m]!
    by_cases hk : keeps d m = true
    · rw [if_pos hk]
      have hlt : ∀ a ∈ compactUpTo d m, ltB a d[m]! := fun a ha => by
        by_cases hm0 : m = 0
        · subst hm0; cases ha
        · have hne : d[m]! ≠ d[m - 1]! := by
            have := of_decide_eq_true hk
            rcases this with h | h
            · exact absurd h hm0
            · exact h
          have hl : ltB d[m - 1]! d[m]! := by
            rcases ltB_total d[m - 1]! d[m]! with h | h | h
            · exact h
            · exact absurd h.symm hne
            · exact absurd h (hs (m - 1) m (by omega) (by omega))
          rcases h3 a ha with e | e
          · rw [e]; exact hl
          · exact ltB_trans e hl
      refine ⟨?_, fun a => ?_, fun a ha => ?_⟩
      · rw [List.pairwise_append]
        refine ⟨h1, List.pairwise_singleton _ _, fun a ha b hb => ?_⟩
        rw [List.mem_singleton] at hb
        subst hb
        exact hlt a ha
      · rw [List.mem_append, List.mem_singleton, h2]
        constructor
        · rintro (⟨j, hj, e⟩ | e)
          · exact ⟨j, by omega, e⟩
          · exact ⟨m, by omega, e.symm⟩
        · rintro ⟨j, hj, e⟩
          by_cases hjm : j = m
          · right; subst hjm; exact e.symm
          · left; exact ⟨j, by omega, e⟩
      · rw [List.mem_append, List.mem_singleton] at ha
        rcases ha with ha | ha
        · right; exact hlt a ha
        · left; exact ha
    · rw [if_neg hk, List.append_nil]
      have hk' : m ≠ 0 ∧ d[m]! = d[m - 1]! := by
        have h : ¬ (m = 0 ∨ d[m]! ≠ d[m - 1]!) := fun h => hk (decide_eq_true h)
        exact ⟨fun e => h (Or.inl e), Classical.byContradiction fun e => h (Or.inr e)⟩
      refine ⟨h1, fun a => ?_, fun a ha => ?_⟩
      · rw [h2]
        constructor
        · rintro ⟨j, hj, e⟩; exact ⟨j, by omega, e⟩
        · rintro ⟨j, hj, e⟩
          by_cases hjm : j = m
          · subst hjm; exact ⟨j - 1, by omega, hk'.2 ▸ e⟩
          · exact ⟨j, by omega, e⟩
      · rw [hk'.2]; exact h3 a ha

/-! ### what is right -/
abbrev Pr3 := Lb × Lb × Int
abbrev Qt := Lb × Int
def okP (labs : List Lb) (P : List Pr3) (i : Nat) (x : Pr3) : Prop := x.1 ∈ labs ∧ x.2.1 ∈ labs ∧ LabC.bB x.1.1 x.1.2 x.2.1.1 x.2.1.2 = false ∧ SpanC.isB x.2.2 1 3 = true ∧ ∀ (k : Nat) y, k < i → P[k]? = some y → ¬ (y.1 = x.1 ∧ y.2.1 = x.2.1)
def PairsR (labs : List Lb) (P : List Pr3) : Prop := P.length ≤ 4 ∧ ∀ (i : Nat) x, P[i]? = some x → okP labs P i x
def okQ (labs : List Lb) (Q : List Qt) (i : Nat) (x : Qt) : Prop := x.1 ∈ labs ∧ SpanC.isB x.2 1 9 = true ∧ (0 < i → ∀ y, Q[i - 1]? = some y → ltB y.1 x.1)
def QuotasR (labs : List Lb) (Q : List Qt) : Prop := ∀ (i : Nat) x, Q[i]? = some x → okQ labs Q i x
theorem quotas_sorted {labs : List Lb} : ∀ {Q : List Qt}, QuotasR labs Q → (Q.map (·.1)).Pairwise ltB
  | [], _ => List.Pairwise.nil
  | [x], _ => List.pairwise_singleton _ _
  | x :: y :: t, h => by
    have ht : QuotasR labs (y :: t) := fun i z hz => by
      obtain ⟨h1, h2, h3⟩ := h (i + 1) z (by simpa using hz)
      refine ⟨h1, h2, fun hi w hw => h3 (by omega) w ?_⟩
      show (x :: y :: t)[i]? = some w
      obtain ⟨i', rfl⟩ : ∃ i', i = i' + 1 := ⟨i - 1, by omega⟩
      simpa using hw
    have hp := quotas_sorted ht
    rw [List.map_cons]
    refine List.pairwise_cons.2 ⟨fun a ha => ?_, hp⟩
    have hxy : ltB x.1 y.1 := (h 1 y rfl).2.2 (by omega) x rfl
    rw [List.map_cons] at ha hp
    rcases List.mem_cons.1 ha with e | e
    · rw [e]; exact hxy
    · exact ltB_trans hxy ((List.pairwise_cons.1 hp).1 a e)
theorem quotas_len {labs : List Lb} {Q : List Qt} (hl : labs.Pairwise ltB) (h : QuotasR labs Q) : Q.length ≤ labs.length := by
  refine Nat.le_trans (Nat.le_of_eq (show (Q.map (·.1)).length = Q.length from List.length_map _).symm) ?_
  refine sorted_len (quotas_sorted h) hl fun a ha => ?_
  obtain ⟨x, hx, rfl⟩ := List.mem_map.1 ha
  obtain ⟨i, hi⟩ := List.getElem?_of_mem hx
  exact (h i x hi).1
end Go.Proofs.Ytmmnkdilnlhbfaa.CfC
