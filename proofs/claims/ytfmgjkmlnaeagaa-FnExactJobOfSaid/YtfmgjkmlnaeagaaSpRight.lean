/- SpansRight, in the program and in its model: contracts. -/
import Derived.Test.YtfmgjkmlnaeagaaTk
import Derived.Test.YtfmgjkmlnaeagaaSpD
namespace Go.Proofs.Ytfmgjkmlnaeagaa.SpanC
open Go.RowKit KeptC
set_option linter.unusedSimpArgs false

end Go.Proofs.Ytfmgjkmlnaeagaa.SpanC
