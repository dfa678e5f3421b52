/- Numbers within their limits, in the program: contracts. -/
import Derived.Test.YtfmgjkmlnaeagaaResB
import Derived.Test.YtfmgjkmlnaeagaaSp
import Derived.Test.YtfmgjkmlnaeagaaRep3
namespace Go.Proofs.Ytfmgjkmlnaeagaa.RepC
open Go.RowKit RowC ValC SpanC KeptC
set_option linter.unusedVariables false
set_option linter.unusedSimpArgs false

theorem wi_at (n lo hi : Int) {b : Bool} (hb : isB n lo hi = b) (w : World) :
    Calls Try.prog 32 #[.int .i64 n, .int .i64 lo, .int .i64 hi] w fun e w' => e = .returned (.bool b) ∧ w = w' := by
  subst hb
  exact is_impl n lo hi w
theorem isB_io {n lo hi : Int} : isB n lo hi = true ↔ lo ≤ n ∧ n ≤ hi := isB_iff n lo hi
end Go.Proofs.Ytfmgjkmlnaeagaa.RepC
