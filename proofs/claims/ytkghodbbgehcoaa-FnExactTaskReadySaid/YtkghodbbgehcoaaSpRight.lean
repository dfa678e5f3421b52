/- SpansRight, in the program and in its model: contracts. -/
import Derived.Test.YtkghodbbgehcoaaTk
import Derived.Test.YtkghodbbgehcoaaSpD
namespace Go.Proofs.Ytkghodbbgehcoaa.SpanC
open Go.RowKit KeptC
set_option linter.unusedSimpArgs false

end Go.Proofs.Ytkghodbbgehcoaa.SpanC
