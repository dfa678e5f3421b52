/- Numbers within their limits, in the program: contracts. -/
import Derived.Test.YtmmnkdilnlhbfaaResB
import Derived.Test.YtmmnkdilnlhbfaaSp
import Derived.Test.YtmmnkdilnlhbfaaRep3
namespace Go.Proofs.Ytmmnkdilnlhbfaa.RepC
open Go.RowKit RowC ValC SpanC KeptC
set_option linter.unusedVariables false
set_option linter.unusedSimpArgs false

theorem wi_at (n lo hi : Int) {b : Bool} (hb : isB n lo hi = b) (w : World) :
    Calls Try.prog 87 #[.int .i64 n, .int .i64 lo, .int .i64 hi] w fun e w' => e = .returned (.bool b) ∧ w = w' := by
  subst hb
  exact is_impl n lo hi w
theorem isB_io {n lo hi : Int} : isB n lo hi = true ↔ lo ≤ n ∧ n ≤ hi := isB_iff n lo hi
end Go.Proofs.Ytmmnkdilnlhbfaa.RepC
