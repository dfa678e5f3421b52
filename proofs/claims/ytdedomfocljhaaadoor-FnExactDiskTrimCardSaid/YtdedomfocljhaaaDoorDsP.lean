/- Disks: what is right: plain facts. -/
import Derived.Test.YtdedomfocljhaaaDoorDsT
import Derived.Test.YtdedomfocljhaaaDoorResB
import Derived.Test.YtdedomfocljhaaaDoorSp
namespace Go.Proofs.YtdedomfocljhaaaDoor.RepC
open Go.RowKit RowC ValC SpanC KeptC
set_option linter.unusedVariables false
set_option linter.unusedSimpArgs false
set_option maxRecDepth 100000

/-- a region is right -/
def regP (x : D_Region) : Prop := x.1.size ≤ 3000 ∧ x.2.1.size ≤ 3000 ∧ x.2.2.size ≤ 3000
def regB (x : D_Region) : Bool := decide (x.1.size ≤ 3000) && decide (x.2.1.size ≤ 3000) && decide (x.2.2.size ≤ 3000)
theorem regB_iff {x : D_Region} : regB x = true ↔ regP x := by unfold regB regP; simp [and_assoc]
/-- a disk is right -/
def diskP (L : List D_Region) (p : Int) : Prop := (1 ≤ L.length ∧ L.length ≤ 13) ∧ (-1 ≤ p ∧ p ≤ 1000000) ∧ ∀ x ∈ L, regP x
def diskB (L : List D_Region) (p : Int) : Bool := isB L.length 1 13 && isB p (-1) 1000000 && L.all regB
theorem diskB_iff {L : List D_Region} {p : Int} : diskB L p = true ↔ diskP L p := by
  unfold diskB diskP
  rw [Bool.and_eq_true, Bool.and_eq_true, isB_iff, isB_iff, List.all_eq_true]
  constructor
  · rintro ⟨⟨h1, h2⟩, h3⟩
    exact ⟨by omega, by omega, fun x hx => regB_iff.1 (h3 x hx)⟩
  · rintro ⟨h1, h2, h3⟩
    exact ⟨⟨by omega, by omega⟩, fun x hx => regB_iff.2 (h3 x hx)⟩
theorem resB_is {P : Prop} {q : Bool} {w : World} {e : Ending} {w' : World} (hq : q = true ↔ P) (h : ResB P w e w') : IsB q w e w' := by
  obtain ⟨b, rfl, hb, h2⟩ := h
  have e : b = q := by
    cases b <;> cases q <;> simp_all
  rw [e]
  exact ⟨rfl, h2⟩
theorem disk_step {L : List D_Region} {k : Nat} {x : D_Region} (h : ∀ (j : Nat) (y : D_Region), j < k → L[j]? = some y → regP y) (hx : L[k]? = some x) (hr : regP x) : ∀ (j : Nat) (y : D_Region), j < k + 1 → L[j]? = some y → regP y := fun j y hj hy => by
  by_cases e : j = k
  · subst e
    rw [hx] at hy
    injection hy with hy
    exact hy ▸ hr
  · exact h j y (by omega) hy
theorem disk_end {L : List D_Region} (h : ∀ (j : Nat) (y : D_Region), j < L.length → L[j]? = some y → regP y) : ∀ x ∈ L, regP x := fun x hx => by
  obtain ⟨j, hj⟩ := List.getElem?_of_mem hx
  exact h j x (List.getElem?_eq_some_iff.1 hj).1 hj
end Go.Proofs.YtdedomfocljhaaaDoor.RepC
