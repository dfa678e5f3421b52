/- TaskRight of the program: a contract. -/
import Derived.Test.YtelhmacfljffhaaTaR1
import Derived.Test.YtelhmacfljffhaaJobI0
namespace Go.Proofs.Ytelhmacfljffhaa.RepC
open Go.RowKit RowC ValC SpanC KeptC NameC
set_option linter.unusedVariables false
set_option linter.unusedSimpArgs false

theorem tid_at (n : Int) {b : Bool} (hb : isB n 1 12 = b) (w : World) :
    Calls Try.prog 18 #[.int .i64 n] w fun e w' => e = .returned (.bool b) ∧ w = w' := by
  subst hb
  go_enter Try.func18, Try.ntmps18
  go_wp2_with (go_at_call 15; refine (is_impl _ _ _ _).mono ?_; rintro e w' ⟨rfl, rfl⟩)
  go_ret
  exact ⟨rfl, rfl⟩
def nopB (start : Int) (L : List Int) : Bool := decide (start = 0) && decide (L.length = 0)
theorem nopB_iff {start : Int} {L : List Int} : nopB start L = true ↔ NoP start L := by simp [nopB, NoP]
theorem wishI_at {x3 x4 x5 : Int} {b : Bool} (hb : (isB x3 1 6 && (isB x4 1 20 && isB x5 0 9)) = b) (W : World) : Calls Try.prog 13 #[.int .i64 x3, .int .i64 x4, .int .i64 x5] W fun e w' => e = .returned (.bool b) ∧ W = w' := wish_impl hb W
theorem taskR_of (x0 x1 x2 : Int) (x3 : ByteArray) (x4 x5 x6 x7 x8 x9 x10 x11 x12 : Int) (L : List Int)  : TaskR ((x0, x1), x2, x3, x4, x5, x6, (x7, x8), x9, x10, x11, x12, L) ↔ LabC.rB x0 x1 = true ∧ isB x2 1 12 = true ∧ nameB x3 = true ∧ (isB x4 1 6 && (isB x5 1 20 && isB x6 0 9)) = true ∧ DepR x0 x1 x2 x7 x8 x9 ∧ isB x10 0 999900 = true ∧ ((Has x11 L → PlR x4 x12 L) ∧ (¬ Has x11 L → NoP x12 L) ∧ (1 ≤ x11 ∧ x11 ≤ 6)) := by
  show _ ∧ _ ∧ _ ∧ _ ∧ _ ∧ _ ∧ _ ∧ _ ∧ _ ∧ _ ∧ _ ↔ _
  simp only [Bool.and_eq_true]
  constructor
  · rintro ⟨h0, h1, h2, h3, h4, h5, h6, h7, h8, h9, h10⟩
    exact ⟨h0, h1, h2, ⟨h3, h4, h5⟩, h8, h6, h9, h10, (isB_iff _ _ _).1 h7⟩
  · rintro ⟨h0, h1, h2, ⟨h3, h4, h5⟩, h8, h6, h9, h10, h7⟩
    exact ⟨h0, h1, h2, h3, h4, h5, h6, (isB_iff _ _ _).2 h7, h8, h9, h10⟩
end Go.Proofs.Ytelhmacfljffhaa.RepC
