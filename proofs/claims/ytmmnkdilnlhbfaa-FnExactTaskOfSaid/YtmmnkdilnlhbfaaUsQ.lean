/- Uses: what both sides ask of names and labels; the model's order of uses: contracts. -/
import Derived.Test.YtmmnkdilnlhbfaaTk
import Derived.Test.YtmmnkdilnlhbfaaTk
import Derived.Test.YtmmnkdilnlhbfaaUsP
import Derived.Test.YtmmnkdilnlhbfaaLabBelow
import Derived.Test.YtmmnkdilnlhbfaaLabEq
import Derived.Test.YtmmnkdilnlhbfaaTk
namespace Go.Proofs.Ytmmnkdilnlhbfaa.RepC
open Go.RowKit RowC ValC SpanC KeptC NameC
set_option linter.unusedVariables false
set_option linter.unusedSimpArgs false

open Classical in
noncomputable def nameB (s : ByteArray) : Bool := decide (NameP s)
open Classical in
theorem nameB_iff {s : ByteArray} : nameB s = true ↔ NameP s := by unfold nameB; simp
theorem res_name {s : ByteArray} {w w' : World} {e : Ending} (h : NameC.Res (NameP s) w e w') : e = .returned (.bool (nameB s)) ∧ Below w.heap.size w w' := by
  obtain ⟨b, rfl, hb, rfl⟩ := h
  have : b = nameB s := by
    cases b <;> cases hn : nameB s
    · rfl
    · exact absurd (hb.2 (nameB_iff.1 hn)) (by decide)
    · exact absurd (nameB_iff.2 (hb.1 rfl)) (by rw [hn]; decide)
    · rfl
  exact ⟨by rw [this], Below.refl _ _⟩
theorem ns_w (s : ByteArray) (hs : s.size ≤ maxLen) (w : World) : Calls Try.prog 95 #[.string s] w fun e w' => e = .returned (.bool (nameB s)) ∧ Below w.heap.size w w' := (spec_any s w hs).mono fun _ _ h => res_name h
theorem ni_w (s : ByteArray) (hs : s.size ≤ maxLen) (w : World) : Calls Try.prog 102 #[.string s] w fun e w' => e = .returned (.bool (nameB s)) ∧ Below w.heap.size w w' := (impl_any s w hs).mono fun _ _ h => res_name h
theorem is_w (n lo hi : Int) (w : World) : Calls Try.prog 76 #[.int .i64 n, .int .i64 lo, .int .i64 hi] w fun e w' => e = .returned (.bool (isB n lo hi)) ∧ Below w.heap.size w w' := (is_spec n lo hi w).mono fun _ _ ⟨h1, h2⟩ => ⟨h1, by rw [h2]; exact Below.refl _ _⟩
theorem rB_bd {l s : Int} (h : LabC.rB l s = true) : 0 ≤ l ∧ l ≤ 3 ∧ 0 ≤ s ∧ s ≤ 7 := by simpa [LabC.rB_iff, LabC.rP] using h
theorem ord_w {l s : Int} (h : LabC.rB l s = true) (w : World) : Calls Try.prog 59 #[.agg #[.int .i64 l, .int .i64 s]] w fun e w' => e = .returned (.int .i64 (8 * l + s)) ∧ Below w.heap.size w w' := by
  obtain ⟨h1, h2, h3, h4⟩ := rB_bd h
  go_enter Try.func59, Try.ntmps59
  go_wp2
  go_ret
  exact ⟨rfl, (Below.refl _ _).alloc (Nat.le_refl _) _⟩
/-- the model's 'ahead of' -/
def lessB (x y : D_Use) : Bool := if decide (x.1 = y.1) = true then sLt x.2.1 y.2.1 else decide (8 * x.1.1 + x.1.2 < 8 * y.1.1 + y.1.2)
theorem lessB_iff {x y : D_Use} (hx : LabC.rB x.1.1 x.1.2 = true) (hy : LabC.rB y.1.1 y.1.2 = true) : lessB x y = true ↔ ltU x y := by
  obtain ⟨⟨a, b⟩, o, n⟩ := x
  obtain ⟨⟨c, d⟩, p, m⟩ := y
  have h1 := rB_bd hx
  have h2 := rB_bd hy
  unfold lessB ltU ltLb
  simp only at *
  split
  · rename_i h
    simp only [decide_eq_true_eq, Prod.mk.injEq] at h
    obtain ⟨rfl, rfl⟩ := h
    simp
  · rename_i h
    simp only [decide_eq_true_eq, Prod.mk.injEq] at h
    simp only [decide_eq_true_eq, Prod.mk.injEq]
    constructor
    · intro h3; left; omega
    · rintro (h3 | ⟨h3, _⟩) <;> omega
end Go.Proofs.Ytmmnkdilnlhbfaa.RepC
