/- Rows that are made by append, element by element, each with blocks of its own: general in the type. -/
import Derived.Test.YtdedomfocljhaaaGreatDoorAppB
import Derived.Test.YtdedomfocljhaaaGreatDoorRep3
import Derived.Test.YtdedomfocljhaaaGreatDoorRowO
import Derived.Test.YtdedomfocljhaaaGreatDoorVals
namespace Go.Proofs.YtdedomfocljhaaaGreatDoor.RepC
open Go.RowKit RowC ValC
set_option linter.unusedVariables false
set_option maxRecDepth 100000
end Go.Proofs.YtdedomfocljhaaaGreatDoor.RepC
