/- Tasks: what is right; where a task is in a list; what becomes of a list's tasks. -/
import Derived.Test.YtmmnkdilnlhbfaaTaT
import Derived.Test.YtmmnkdilnlhbfaaUsQ
import Derived.Test.YtmmnkdilnlhbfaaJobN
namespace Go.Proofs.Ytmmnkdilnlhbfaa.RepC
open Go.RowKit RowC ValC SpanC KeptC NameC
set_option linter.unusedVariables false
set_option linter.unusedSimpArgs false

/-! ### one task -/
def PlR (need start : Int) (L : List Int) : Prop := isB start 0 1000000 = true ∧ (L.length : Int) = need ∧ NodesR L
def NoP (start : Int) (L : List Int) : Prop := start = 0 ∧ L.length = 0
def DepR (l s id ul us after : Int) : Prop := (after = 0 → ul = 0 ∧ us = 0) ∧ (after ≠ 0 → isB after 1 12 = true ∧ LabC.belowB ul us l s = true ∧ ¬ ((ul = l ∧ us = s) ∧ id ≤ after))
def Has (st : Int) (L : List Int) : Prop := st = 2 ∨ (st = 1 ∧ 0 < L.length)
def TaskR : D_Task → Prop
  | ((l, s), id, ow, need, long, prio, (ul, us), after, born, st, start, L) => LabC.rB l s = true ∧ isB id 1 12 = true ∧ nameB ow = true ∧ isB need 1 6 = true ∧ isB long 1 20 = true ∧ isB prio 0 9 = true ∧ isB born 0 999900 = true ∧ isB st 1 6 = true ∧ DepR l s id ul us after ∧ (Has st L → PlR need start L) ∧ (¬ Has st L → NoP start L)
open Classical in
noncomputable def taskB (x : D_Task) : Bool := decide (TaskR x)
open Classical in
theorem taskB_iff {x : D_Task} : taskB x = true ↔ TaskR x := by unfold taskB; simp
abbrev tLab (x : D_Task) : D_Label := x.1
abbrev tId (x : D_Task) : Int := x.2.1
abbrev tOwner (x : D_Task) : ByteArray := x.2.2.1
abbrev tNeed (x : D_Task) : Int := x.2.2.2.1
abbrev tLong (x : D_Task) : Int := x.2.2.2.2.1
abbrev tPrio (x : D_Task) : Int := x.2.2.2.2.2.1
abbrev tUnder (x : D_Task) : D_Label := x.2.2.2.2.2.2.1
abbrev tAfter (x : D_Task) : Int := x.2.2.2.2.2.2.2.1
abbrev tBorn (x : D_Task) : Int := x.2.2.2.2.2.2.2.2.1
abbrev tState (x : D_Task) : Int := x.2.2.2.2.2.2.2.2.2.1
abbrev tStart (x : D_Task) : Int := x.2.2.2.2.2.2.2.2.2.2.1
abbrev tNodes (x : D_Task) : List Int := x.2.2.2.2.2.2.2.2.2.2.2
abbrev tKey (x : D_Task) : D_Label × Int := (x.1, x.2.1)
theorem TaskR.lab {x : D_Task} (h : TaskR x) : LabC.rB (tLab x).1 (tLab x).2 = true := h.1
theorem TaskR.id {x : D_Task} (h : TaskR x) : 1 ≤ tId x ∧ tId x ≤ 12 := (isB_iff _ _ _).1 h.2.1
theorem TaskR.dep {x : D_Task} (h : TaskR x) : DepR (tLab x).1 (tLab x).2 (tId x) (tUnder x).1 (tUnder x).2 (tAfter x) := h.2.2.2.2.2.2.2.2.1
theorem TaskR.state {x : D_Task} (h : TaskR x) : 1 ≤ tState x ∧ tState x ≤ 6 := (isB_iff _ _ _).1 h.2.2.2.2.2.2.2.1
theorem nodesR_len {L : List Int} (h : NodesR L) : L.length ≤ 6 := by
  have key : ∀ i, i < L.length → ∃ x, L[i]? = some x ∧ (i : Int) ≤ x ∧ x ≤ 5 := by
    intro i
    induction i with
    | zero =>
      intro hi
      obtain ⟨x, hx⟩ : ∃ x, L[0]? = some x := ⟨L[0], List.getElem?_eq_getElem hi⟩
      have := (isB_iff _ _ _).1 (h 0 hi x hx).1
      exact ⟨x, hx, by omega, by omega⟩
    | succ i ih =>
      intro hi
      obtain ⟨y, hy, h1, h2⟩ := ih (by omega)
      obtain ⟨x, hx⟩ : ∃ x, L[i + 1]? = some x := ⟨L[i + 1], List.getElem?_eq_getElem hi⟩
      have h3 := (isB_iff _ _ _).1 (h (i + 1) hi x hx).1
      have h4 := (h (i + 1) hi x hx).2 (by omega) y (by rw [Nat.add_sub_cancel]; exact hy)
      exact ⟨x, hx, by omega, by omega⟩
  by_cases hl : L.length ≤ 6
  · exact hl
  · obtain ⟨x, _, h1, h2⟩ := key 6 (by omega)
    omega

/-! ### keys in order -/
def ltK (a b : D_Label × Int) : Prop := ltLb a.1 b.1 ∨ (a.1 = b.1 ∧ a.2 < b.2)
theorem ltK_trans {a b c : D_Label × Int} (h1 : ltK a b) (h2 : ltK b c) : ltK a c := by
  obtain ⟨⟨a0, a1⟩, a2⟩ := a; obtain ⟨⟨b0, b1⟩, b2⟩ := b; obtain ⟨⟨c0, c1⟩, c2⟩ := c
  unfold ltK ltLb at *
  simp only [Prod.mk.injEq] at *
  omega
theorem ltK_irrefl {a : D_Label × Int} : ¬ ltK a a := by
  obtain ⟨⟨a0, a1⟩, a2⟩ := a
  unfold ltK ltLb
  simp only [Prod.mk.injEq]
  omega
theorem ltK_tri (a b : D_Label × Int) : ltK a b ∨ a = b ∨ ltK b a := by
  obtain ⟨⟨a0, a1⟩, a2⟩ := a; obtain ⟨⟨b0, b1⟩, b2⟩ := b
  unfold ltK ltLb
  simp only [Prod.mk.injEq]
  omega
/-- the first n tasks of the list are in order -/
def IncT (L : List D_Task) (n : Nat) : Prop := ∀ i j x y, i < j → j < n → L[i]? = some x → L[j]? = some y → ltK (tKey x) (tKey y)
theorem IncT.zero {L : List D_Task} : IncT L 0 := fun i j x y _ h => absurd h (Nat.not_lt_zero _)
theorem IncT.less {L : List D_Task} {n m : Nat} (h : IncT L n) (hm : m ≤ n) : IncT L m := fun i j x y hij hj hx hy => h i j x y hij (Nat.lt_of_lt_of_le hj hm) hx hy
theorem IncT.step {L : List D_Task} {n : Nat} {x : D_Task} (h : IncT L n) (hx : L[n]? = some x) (hl : ∀ y, 0 < n → L[n - 1]? = some y → ltK (tKey y) (tKey x)) : IncT L (n + 1) := by
  intro i j u v hij hj hu hv
  by_cases e : j = n
  · subst e
    rw [hx] at hv; cases hv
    have hj : j < L.length := (List.getElem?_eq_some_iff.1 hx).1
    obtain ⟨y, hy⟩ : ∃ y, L[j - 1]? = some y := ⟨L[j - 1], List.getElem?_eq_getElem (by omega)⟩
    have h1 := hl y (by omega) hy
    by_cases e2 : i = j - 1
    · subst e2; rw [hu] at hy; cases hy; exact h1
    · exact ltK_trans (h i (j - 1) u y (by omega) (by omega) hu hy) h1
  · exact h i j u v hij (by omega) hu hv
theorem IncT.take {L : List D_Task} {n m : Nat} (h : IncT L n) (hm : m ≤ n) (hL : m ≤ L.length) : IncT (L.take m) (L.take m).length := by
  intro i j x y hij hj hx hy
  rw [List.length_take, Nat.min_eq_left hL] at hj
  rw [List.getElem?_take, if_pos (by omega)] at hx hy
  exact h i j x y hij (by omega) hx hy

/-! ### where a task is -/
/-- the place of a key in the list, or -1 -/
def atT (L : List D_Task) (a : D_Label × Int) : Int := match L.findIdx? (fun x => decide (tKey x = a)) with
  | some i => (i : Int)
  | none => -1
theorem atT_hit {L : List D_Task} {a : D_Label × Int} {k : Nat} {x : D_Task} (h : ∀ i y, i < k → L[i]? = some y → tKey y ≠ a) (hx : L[k]? = some x) (hk : tKey x = a) : atT L a = (k : Int) := by
  have hkl := (List.getElem?_eq_some_iff.1 hx).1
  have : L.findIdx? (fun x => decide (tKey x = a)) = some k := by
    rw [List.findIdx?_eq_some_iff_getElem]
    refine ⟨hkl, ?_, fun j hj => ?_⟩
    · have := (List.getElem?_eq_some_iff.1 hx).2
      rw [this]; simpa using hk
    · have h1 := h j _ hj (List.getElem?_eq_getElem (Nat.lt_trans hj hkl))
      simpa using h1
  unfold atT
  rw [this]
theorem atT_miss {L : List D_Task} {a : D_Label × Int} (h : ∀ i y, i < L.length → L[i]? = some y → tKey y ≠ a) : atT L a = -1 := by
  have : L.findIdx? (fun x => decide (tKey x = a)) = none := by
    rw [List.findIdx?_eq_none_iff]
    intro x hx
    obtain ⟨i, hi, rfl⟩ := List.mem_iff_getElem.1 hx
    have := h i _ hi (List.getElem?_eq_getElem hi)
    simpa using this
  unfold atT
  rw [this]
theorem atT_cases (L : List D_Task) (a : D_Label × Int) : (atT L a = -1 ∧ ∀ (i : Nat) (y : D_Task), L[i]? = some y → tKey y ≠ a) ∨ ∃ (k : Nat) (x : D_Task), atT L a = (k : Int) ∧ L[k]? = some x ∧ tKey x = a ∧ ∀ i y, i < k → L[i]? = some y → tKey y ≠ a := by
  cases hf : L.findIdx? (fun x => decide (tKey x = a)) with
  | none =>
    left
    rw [List.findIdx?_eq_none_iff] at hf
    refine ⟨by unfold atT; rw [show L.findIdx? (fun x => decide (tKey x = a)) = none from by rw [List.findIdx?_eq_none_iff]; exact hf], fun i y hy => ?_⟩
    have := hf y (List.mem_of_getElem? hy)
    simpa using this
  | some k =>
    right
    have hf0 := hf
    rw [List.findIdx?_eq_some_iff_getElem] at hf
    obtain ⟨hk, h1, h2⟩ := hf
    refine ⟨k, L[k], by unfold atT; rw [hf0], List.getElem?_eq_getElem hk, by simpa using h1, fun i y hi hy => ?_⟩
    have := h2 i hi
    rw [(List.getElem?_eq_some_iff.1 hy).2] at this
    simpa using this
theorem atT_lt (L : List D_Task) (a : D_Label × Int) : -1 ≤ atT L a ∧ atT L a < L.length ∨ atT L a = -1 := by
  rcases atT_cases L a with ⟨h, _⟩ | ⟨k, x, h, hx, _⟩
  · exact .inr h
  · have := (List.getElem?_eq_some_iff.1 hx).1
    exact .inl (by omega)

/-! ### lists of tasks -/
def NextT (y x : D_Task) : Prop := (tLab y = tLab x ∧ tId x = tId y + 1) ∨ (ltLb (tLab y) (tLab x) ∧ tId x = 1)
/-- the task x, at place i of L, is right and stands where it may -/
def okT (L : List D_Task) (i : Nat) (x : D_Task) : Prop := TaskR x ∧ (i = 0 → tId x = 1) ∧ (∀ y, 0 < i → L[i - 1]? = some y → NextT y x) ∧ (tAfter x ≠ 0 → 0 ≤ atT (L.take i) (tUnder x, tAfter x))
def tasTo (L : List D_Task) (k : Nat) : Prop := ∀ i x, i < k → L[i]? = some x → okT L i x
def TasksR (L : List D_Task) : Prop := L.length ≤ 96 ∧ ∀ i x, L[i]? = some x → okT L i x
open Classical in
noncomputable def tasksB (L : List D_Task) : Bool := decide (TasksR L)
open Classical in
theorem tasksB_iff {L : List D_Task} : tasksB L = true ↔ TasksR L := by unfold tasksB; simp
theorem tasTo_zero {L : List D_Task} : tasTo L 0 := fun i x h => absurd h (Nat.not_lt_zero _)
theorem tasTo_step {L : List D_Task} {k : Nat} {x : D_Task} (h : tasTo L k) (hx : L[k]? = some x) (hk : okT L k x) : tasTo L (k + 1) := fun i y hi hy => by
  rcases Nat.lt_succ_iff_lt_or_eq.1 hi with h1 | h1
  · exact h i y h1 hy
  · subst h1; rw [hx] at hy; cases hy; exact hk
theorem tasksR_all {L : List D_Task} (h1 : L.length ≤ 96) (h : tasTo L L.length) : TasksR L := ⟨h1, fun i x hx => h i x (List.getElem?_eq_some_iff.1 hx).1 hx⟩
theorem tasksR_to {L : List D_Task} (h : TasksR L) (k : Nat) : tasTo L k := fun i x _ hx => h.2 i x hx
theorem not_tasks {L : List D_Task} {k : Nat} {x : D_Task} (hx : L[k]? = some x) (h : ¬ okT L k x) : ¬ TasksR L := fun hr => h (hr.2 k x hx)
theorem nextT_lt {y x : D_Task} (h : NextT y x) : ltK (tKey y) (tKey x) := by
  rcases h with ⟨h1, h2⟩ | ⟨h1, h2⟩
  · exact .inr ⟨h1, by show tId y < tId x; omega⟩
  · exact .inl h1
theorem tasTo_inc {L : List D_Task} : ∀ {k : Nat}, tasTo L k → k ≤ L.length → IncT L k
  | 0, _, _ => IncT.zero
  | k + 1, h, hk => by
    obtain ⟨x, hx⟩ : ∃ x, L[k]? = some x := ⟨L[k], List.getElem?_eq_getElem (by omega)⟩
    exact (tasTo_inc (fun i x hi hx => h i x (by omega) hx) (by omega)).step hx fun y h0 hy => nextT_lt ((h k x (by omega) hx).2.2.1 y h0 hy)
theorem tasksR_inc {L : List D_Task} (h : TasksR L) : IncT L L.length := tasTo_inc (tasksR_to h _) (Nat.le_refl _)
/-- a list in order has a key once -/
theorem incT_one {L : List D_Task} (h : IncT L L.length) {i j : Nat} {x y : D_Task} (hx : L[i]? = some x) (hy : L[j]? = some y) (he : tKey x = tKey y) : i = j := by
  have hi := (List.getElem?_eq_some_iff.1 hx).1
  have hj := (List.getElem?_eq_some_iff.1 hy).1
  rcases Nat.lt_trichotomy i j with h1 | h1 | h1
  · exact absurd (he ▸ h i j x y h1 hj hx hy) ltK_irrefl
  · exact h1
  · exact absurd (he ▸ h j i y x h1 hi hy hx) ltK_irrefl
theorem atT_of {L : List D_Task} (h : IncT L L.length) {k : Nat} {x : D_Task} {a : D_Label × Int} (hx : L[k]? = some x) (hk : tKey x = a) : atT L a = (k : Int) :=
  atT_hit (fun i y hi hy he => by have := incT_one h hy hx (he.trans hk.symm); omega) hx hk
end Go.Proofs.Ytmmnkdilnlhbfaa.RepC
