/- Jobs that came in, opened. -/
import Derived.Test.YtdedomfocljhaaaGreatDoorOpn
import Derived.Test.YtdedomfocljhaaaGreatDoorJobT
namespace Go.Proofs.YtdedomfocljhaaaGreatDoor.RepC
open Go.ChangeShapes Go.WideShapes Go.ChangeAt Go.RowKit Go.Joins Go.Deep RowC ValC
set_option linter.unusedVariables false
set_option maxRecDepth 100000

theorem c_int64 : Tryz.prog.cellsOf 2 = 1 := by kernel_rfl
theorem opn_i64 : Opn I 2 := opn_int Tryz.underlying2
end Go.Proofs.YtdedomfocljhaaaGreatDoor.RepC
