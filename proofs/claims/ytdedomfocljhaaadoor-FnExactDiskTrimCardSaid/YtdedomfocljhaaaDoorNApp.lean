/- Rows that are made by append, element by element, each with blocks of its own: general in the type. -/
import Derived.Test.YtdedomfocljhaaaDoorAppB
import Derived.Test.YtdedomfocljhaaaDoorRep3
import Derived.Test.YtdedomfocljhaaaDoorRowO
import Derived.Test.YtdedomfocljhaaaDoorVals
namespace Go.Proofs.YtdedomfocljhaaaDoor.RepC
open Go.RowKit RowC ValC
set_option linter.unusedVariables false
set_option maxRecDepth 100000
end Go.Proofs.YtdedomfocljhaaaDoor.RepC
