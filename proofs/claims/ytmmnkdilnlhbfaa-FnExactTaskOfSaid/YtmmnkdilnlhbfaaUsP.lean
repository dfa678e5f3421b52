/- Uses: what is right. -/
import Derived.Test.YtmmnkdilnlhbfaaUsT
import Derived.Test.YtmmnkdilnlhbfaaName
import Derived.Test.YtmmnkdilnlhbfaaLab
import Derived.Test.YtmmnkdilnlhbfaaResB
import Derived.Test.YtmmnkdilnlhbfaaSp
import Derived.Sort.Walk0
namespace Go.Proofs.Ytmmnkdilnlhbfaa.RepC
open Go.RowKit RowC ValC SpanC KeptC NameC
set_option linter.unusedVariables false
set_option linter.unusedSimpArgs false

/-! ### texts in order -/
def sLt (a b : ByteArray) : Bool := Op.bytesLess a.toList b.toList
theorem sLt_iff (a b : ByteArray) : sLt a b = true ↔ a.toList < b.toList := by unfold sLt; rw [bytesLess_eq]; simp
theorem bl_inj {a b : ByteArray} (h : a.toList = b.toList) : a = b := by
  rw [Lib.toList_data, Lib.toList_data] at h
  cases a; cases b
  simp only [ByteArray.mk.injEq]
  exact Array.toList_inj.1 h
theorem u8_irrefl (a : UInt8) : ¬ a < a := UInt8.lt_irrefl a
theorem sLt_irrefl (a : ByteArray) : sLt a a = false := by
  rw [Bool.eq_false_iff, ne_eq, sLt_iff]
  exact List.lt_irrefl _
theorem sLt_trans {a b c : ByteArray} (h1 : sLt a b = true) (h2 : sLt b c = true) : sLt a c = true := by
  rw [sLt_iff] at *
  exact List.lt_trans h1 h2
theorem sLt_tri {a b : ByteArray} (h1 : sLt a b = false) (h2 : sLt b a = false) : a = b := by
  rw [Bool.eq_false_iff, ne_eq, sLt_iff] at *
  exact bl_inj (List.le_antisymm (List.not_lt.1 h2) (List.not_lt.1 h1))
theorem sLt_asymm {a b : ByteArray} (h1 : sLt a b = true) : sLt b a = false := by
  rw [Bool.eq_false_iff]
  intro h2
  have := sLt_trans h1 h2
  rw [sLt_irrefl] at this
  cases this
/-! ### labels in order; uses in order -/
def ltLb (a b : D_Label) : Prop := a.1 < b.1 ∨ (a.1 = b.1 ∧ a.2 < b.2)
def leLb (a b : D_Label) : Prop := a = b ∨ ltLb a b
theorem ltLb_trans {a b c : D_Label} (h1 : ltLb a b) (h2 : ltLb b c) : ltLb a c := by unfold ltLb at *; omega
theorem ltLb_irrefl {a : D_Label} : ¬ ltLb a a := by unfold ltLb; omega
theorem leLb_trans {a b c : D_Label} (h1 : leLb a b) (h2 : leLb b c) : leLb a c := by
  rcases h1 with rfl | h1
  · exact h2
  · rcases h2 with rfl | h2
    · exact .inr h1
    · exact .inr (ltLb_trans h1 h2)
theorem leLb_anti {a b : D_Label} (h1 : leLb a b) (h2 : leLb b a) : a = b := by
  rcases h1 with h | h1
  · exact h
  · rcases h2 with h | h2
    · exact h.symm
    · exact absurd (ltLb_trans h1 h2) ltLb_irrefl
def ltU (x y : D_Use) : Prop := ltLb x.1 y.1 ∨ (x.1 = y.1 ∧ sLt x.2.1 y.2.1 = true)
theorem ltU_lab {x y : D_Use} (h : ltU x y) : leLb x.1 y.1 := by
  rcases h with h | ⟨h, _⟩
  · exact .inr h
  · exact .inl h
theorem ltU_trans {x y z : D_Use} (h1 : ltU x y) (h2 : ltU y z) : ltU x z := by
  obtain ⟨a, o, n⟩ := x
  obtain ⟨b, p, m⟩ := y
  obtain ⟨c, q, k⟩ := z
  unfold ltU at *
  simp only at *
  rcases h1 with h1 | ⟨rfl, h1⟩
  · rcases h2 with h2 | ⟨rfl, h2⟩
    · exact .inl (ltLb_trans h1 h2)
    · exact .inl h1
  · rcases h2 with h2 | ⟨rfl, h2⟩
    · exact .inl h2
    · exact .inr ⟨rfl, sLt_trans h1 h2⟩
/-- a right use -/
def okU (x : D_Use) : Prop := LabC.rB x.1.1 x.1.2 = true ∧ NameP x.2.1 ∧ isB x.2.2 1 100000 = true
/-- the use x, at place i of L, is right, behind the one ahead of it, and six places away is another label -/
def okAt (L : List D_Use) (i : Nat) (x : D_Use) : Prop := okU x ∧ (∀ y, 0 < i → L[i - 1]? = some y → ltU y x) ∧ ∀ y, 6 ≤ i → L[i - 6]? = some y → y.1 ≠ x.1
def usTo (L : List D_Use) (k : Nat) : Prop := ∀ i x, i < k → L[i]? = some x → okAt L i x
def UsesR (L : List D_Use) : Prop := L.length ≤ 48 ∧ ∀ i x, L[i]? = some x → okAt L i x
open Classical in
noncomputable def usesB (L : List D_Use) : Bool := decide (UsesR L)
open Classical in
theorem usesB_iff {L : List D_Use} : usesB L = true ↔ UsesR L := by unfold usesB; simp
theorem usTo_zero {L : List D_Use} : usTo L 0 := fun i x h => absurd h (Nat.not_lt_zero _)
theorem usTo_step {L : List D_Use} {k : Nat} {x : D_Use} (h : usTo L k) (hx : L[k]? = some x) (hk : okAt L k x) : usTo L (k + 1) := fun i y hi hy => by
  rcases Nat.lt_succ_iff_lt_or_eq.1 hi with h1 | h1
  · exact h i y h1 hy
  · subst h1; rw [hx] at hy; cases hy; exact hk
theorem usesR_all {L : List D_Use} (h1 : L.length ≤ 48) (h : usTo L L.length) : UsesR L := ⟨h1, fun i x hx => h i x (List.getElem?_eq_some_iff.1 hx).1 hx⟩
theorem usesR_to {L : List D_Use} (h : UsesR L) (k : Nat) : usTo L k := fun i x _ hx => h.2 i x hx
theorem resB_is {P : Prop} {b : Bool} {w w' : World} {e : Ending} (hb : b = true ↔ P) (h : ResB P w e w') : IsB b w e w' := by
  obtain ⟨c, rfl, hc, hB⟩ := h
  obtain rfl : c = b := by
    cases c <;> cases b <;> first | rfl | exact absurd (hc.2 (hb.1 rfl)) (by decide) | exact absurd (hb.2 (hc.1 rfl)) (by decide)
  exact ⟨rfl, hB⟩
/-! ### how often the last label has come in a row -/
def runU (L : List D_Use) (k c : Nat) : Prop := (k = 0 ∧ c = 0) ∨ (1 ≤ c ∧ c ≤ k ∧ (∀ j x y, k - c ≤ j → j < k → L[j]? = some x → L[k - 1]? = some y → x.1 = y.1) ∧ ∀ x y, c < k → L[k - c - 1]? = some x → L[k - 1]? = some y → x.1 ≠ y.1)
theorem runU_zero {L : List D_Use} : runU L 0 0 := .inl ⟨rfl, rfl⟩
theorem el_of {L : List D_Use} {k : Nat} (h : k < L.length) : ∃ x, L[k]? = some x := ⟨L[k], List.getElem?_eq_getElem h⟩
theorem runU_more {L : List D_Use} {k c : Nat} {x y : D_Use} (h : runU L k c) (h0 : 0 < k) (hy : L[k - 1]? = some y) (hx : L[k]? = some x) (he : y.1 = x.1) : runU L (k + 1) (c + 1) := by
  rcases h with ⟨h, _⟩ | ⟨h1, h2, h3, h4⟩
  · omega
  · refine .inr ⟨by omega, by omega, fun j u v hj hj2 hu hv => ?_, fun u v hc hu hv => ?_⟩
    · rw [Nat.add_sub_cancel] at hv
      rw [hx] at hv
      cases hv
      by_cases e : j = k
      · subst e; rw [hx] at hu; cases hu; rfl
      · exact (h3 j u y (by omega) (by omega) hu hy).trans he
    · rw [Nat.add_sub_cancel] at hv
      rw [hx] at hv
      cases hv
      rw [← he]
      exact h4 u y (by omega) (by rw [show k - c - 1 = k + 1 - (c + 1) - 1 by omega]; exact hu) hy
theorem runU_new {L : List D_Use} {k : Nat} {x : D_Use} (hx : L[k]? = some x) (h : ∀ y, 0 < k → L[k - 1]? = some y → y.1 ≠ x.1) : runU L (k + 1) 1 := by
  refine .inr ⟨Nat.le_refl _, by omega, fun j u v hj hj2 hu hv => ?_, fun u v hc hu hv => ?_⟩
  · rw [Nat.add_sub_cancel] at hv
    obtain rfl : j = k := by omega
    rw [hu] at hv
    cases hv
    rfl
  · rw [Nat.add_sub_cancel] at hv
    rw [hx] at hv
    cases hv
    exact h u (by omega) hu
theorem usTo_mono {L : List D_Use} {k : Nat} (h : usTo L k) (hk : k ≤ L.length) {i : Nat} {x : D_Use} (hx : L[i]? = some x) : ∀ {j : Nat} {y : D_Use}, i ≤ j → j < k → L[j]? = some y → leLb x.1 y.1 := by
  intro j
  induction j with
  | zero =>
    intro y hij _ hy
    obtain rfl : i = 0 := by omega
    rw [hx] at hy; cases hy
    exact .inl rfl
  | succ j ih =>
    intro y hij hj hy
    by_cases e : i = j + 1
    · subst e; rw [hx] at hy; cases hy; exact .inl rfl
    · obtain ⟨z, hz⟩ := el_of (L := L) (k := j) (by omega)
      exact leLb_trans (ih (by omega) (by omega) hz) (ltU_lab ((h (j + 1) y hj hy).2.1 z (by omega) hz))
/-- six in a row or fewer: that is what is asked six places away -/
theorem run_six {L : List D_Use} {k c : Nat} {x : D_Use} (hT : usTo L k) (hx : L[k]? = some x) (ho : okU x) (hl : ∀ y, 0 < k → L[k - 1]? = some y → ltU y x) (hr : runU L (k + 1) c) : c ≤ 6 ↔ ∀ y, 6 ≤ k → L[k - 6]? = some y → y.1 ≠ x.1 := by
  have hk : k < L.length := (List.getElem?_eq_some_iff.1 hx).1
  rcases hr with ⟨h, _⟩ | ⟨h1, h2, h3, h4⟩
  · omega
  rw [Nat.add_sub_cancel] at h3 h4
  constructor
  · intro hc y h6 hy he
    obtain ⟨z, hz⟩ := el_of (L := L) (k := k + 1 - c - 1) (by omega)
    have hlast : ∀ {j : Nat} {u : D_Use}, j < k → L[j]? = some u → leLb u.1 x.1 := fun {j u} hj hu => by
      obtain ⟨v, hv⟩ := el_of (L := L) (k := k - 1) (by omega)
      exact leLb_trans (usTo_mono hT (by omega) hu (by omega) (by omega) hv) (ltU_lab (hl v (by omega) hv))
    have e1 : leLb y.1 z.1 := usTo_mono hT (by omega) hy (by omega) (by omega) hz
    have e2 : leLb z.1 x.1 := hlast (by omega) hz
    rw [he] at e1
    exact h4 z x (by omega) hz hx (leLb_anti e2 e1)
  · intro h
    by_cases hc : c ≤ 6
    · exact hc
    · exfalso
      obtain ⟨z, hz⟩ := el_of (L := L) (k := k - 6) (by omega)
      exact h z (by omega) hz (h3 (k - 6) z x (by omega) (by omega) hz hx)
end Go.Proofs.Ytmmnkdilnlhbfaa.RepC
