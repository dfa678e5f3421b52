/- The numbers of a job's nodes, in the model: a contract. -/
import Derived.Test.YtelhmacfljffhaaTk
import Derived.Test.YtelhmacfljffhaaHeld
import Derived.Test.YtelhmacfljffhaaSpRight
namespace Go.Proofs.Ytelhmacfljffhaa.RepC
open Go.RowKit RowC ValC SpanC KeptC
set_option linter.unusedVariables false
set_option linter.unusedSimpArgs false

/-- the i-th number may stand there -/
def okN (L : List Int) (i : Nat) : Prop := ∀ x, L[i]? = some x → isB x 0 5 = true ∧ (0 < i → ∀ y, L[i - 1]? = some y → y < x)
def NodesR (L : List Int) : Prop := ∀ i, i < L.length → okN L i
theorem is_below (n lo hi : Int) {b : Bool} (hb : isB n lo hi = b) (w : World) :
    Calls Try.prog 9 #[.int .i64 n, .int .i64 lo, .int .i64 hi] w fun e w' => e = .returned (.bool b) ∧ Below w.heap.size w w' := by
  subst hb
  exact (is_spec n lo hi w).mono fun _ _ ⟨h1, h2⟩ => ⟨h1, h2 ▸ Below.refl _ _⟩

end Go.Proofs.Ytelhmacfljffhaa.RepC
