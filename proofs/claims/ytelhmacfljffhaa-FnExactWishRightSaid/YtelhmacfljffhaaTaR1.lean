/- TaskRight of the model: a contract. -/
import Derived.Test.YtelhmacfljffhaaTaP
namespace Go.Proofs.Ytelhmacfljffhaa.RepC
open Go.RowKit RowC ValC SpanC KeptC NameC
set_option linter.unusedVariables false
set_option linter.unusedSimpArgs false

theorem isS_at (n lo hi : Int) {b : Bool} (hb : isB n lo hi = b) (w : World) :
    Calls Try.prog 9 #[.int .i64 n, .int .i64 lo, .int .i64 hi] w fun e w' => e = .returned (.bool b) ∧ w = w' := by
  subst hb
  exact is_spec n lo hi w
theorem res_nameX {s : ByteArray} {w w' : World} {e : Ending} (h : NameC.Res (NameP s) w e w') : e = .returned (.bool (nameB s)) ∧ w = w' := by
  obtain ⟨b, rfl, hb, rfl⟩ := h
  have : b = nameB s := by
    cases b <;> cases hn : nameB s
    · rfl
    · exact absurd (hb.2 (nameB_iff.1 hn)) (by decide)
    · exact absurd (nameB_iff.2 (hb.1 rfl)) (by rw [hn]; decide)
    · rfl
  exact ⟨by rw [this], rfl⟩
theorem nameS_at {s : ByteArray} {b : Bool} (hs : s.size ≤ maxLen) (hb : nameB s = b) (w : World) : Calls Try.prog 8 #[.string s] w fun e w' => e = .returned (.bool b) ∧ w = w' := by
  subst hb
  exact (spec_any s w hs).mono fun _ _ h => res_nameX h
theorem nameI_at {s : ByteArray} {b : Bool} (hs : s.size ≤ maxLen) (hb : nameB s = b) (w : World) : Calls Try.prog 12 #[.string s] w fun e w' => e = .returned (.bool b) ∧ w = w' := by
  subst hb
  exact (impl_any s w hs).mono fun _ _ h => res_nameX h
theorem labS_at (l s : Int) {b : Bool} (hb : LabC.rB l s = b) (w : World) :
    Calls Try.prog 10 #[.agg #[.int .i64 l, .int .i64 s]] w fun e w' => e = .returned (.bool b) ∧ Below w.heap.size w w' := by
  subst hb
  exact (LabC.right_spec l s w).mono fun _ _ ⟨h1, h2⟩ => ⟨h1, by rw [← h2]; exact (Below.refl _ _).alloc (Nat.le_refl _) _⟩
end Go.Proofs.Ytelhmacfljffhaa.RepC
