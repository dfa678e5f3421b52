/- SpansRight, in the program and in its model: contracts. -/
import Derived.Test.YtelhmacfljffhaaTk
import Derived.Test.YtelhmacfljffhaaSpD
namespace Go.Proofs.Ytelhmacfljffhaa.SpanC
open Go.RowKit KeptC
set_option linter.unusedSimpArgs false

end Go.Proofs.Ytelhmacfljffhaa.SpanC
