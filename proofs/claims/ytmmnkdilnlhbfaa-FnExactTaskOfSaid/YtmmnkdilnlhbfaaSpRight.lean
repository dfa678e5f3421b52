/- SpansRight, in the program and in its model: contracts. -/
import Derived.Test.YtmmnkdilnlhbfaaTk
import Derived.Test.YtmmnkdilnlhbfaaSpD
namespace Go.Proofs.Ytmmnkdilnlhbfaa.SpanC
open Go.RowKit KeptC
set_option linter.unusedSimpArgs false

end Go.Proofs.Ytmmnkdilnlhbfaa.SpanC
