/- Valid rows of spans: what that is. -/
import Derived.Test.YtfmgjkmlnaeagaaResB
import Derived.Test.YtfmgjkmlnaeagaaSpPairs
namespace Go.Proofs.Ytfmgjkmlnaeagaa.SpanC
open Go.RowKit KeptC
def okS (f : Nat → Int × Int) (i : Nat) : Prop := spB (f i).1 (f i).2 = true ∧ (0 < i → (f (i - 1)).2 ≤ (f i).1)
def SpR (n : Nat) (f : Nat → Int × Int) : Prop := n ≤ 20 ∧ ∀ i, i < n → okS f i

end Go.Proofs.Ytfmgjkmlnaeagaa.SpanC
