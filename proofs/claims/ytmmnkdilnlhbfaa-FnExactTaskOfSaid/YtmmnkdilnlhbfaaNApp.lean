/- Rows that are made by append, element by element, each with blocks of its own: general in the type. -/
import Derived.Test.YtmmnkdilnlhbfaaAppB
import Derived.Test.YtmmnkdilnlhbfaaRep3
import Derived.Test.YtmmnkdilnlhbfaaRowO
import Derived.Test.YtmmnkdilnlhbfaaVals
namespace Go.Proofs.Ytmmnkdilnlhbfaa.RepC
open Go.RowKit RowC ValC
set_option linter.unusedVariables false
set_option maxRecDepth 100000
end Go.Proofs.Ytmmnkdilnlhbfaa.RepC
