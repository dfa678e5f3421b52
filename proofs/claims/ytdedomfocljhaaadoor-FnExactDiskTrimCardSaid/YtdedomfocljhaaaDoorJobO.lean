/- Jobs that came in, opened. -/
import Derived.Test.YtdedomfocljhaaaDoorOpn
import Derived.Test.YtdedomfocljhaaaDoorJobT
namespace Go.Proofs.YtdedomfocljhaaaDoor.RepC
open Go.ChangeShapes Go.WideShapes Go.ChangeAt Go.RowKit Go.Joins Go.Deep RowC ValC
set_option linter.unusedVariables false
set_option maxRecDepth 100000

theorem c_int64 : Tryd.prog.cellsOf 2 = 1 := by kernel_rfl
theorem opn_i64 : Opn I 2 := opn_int Tryd.underlying2
end Go.Proofs.YtdedomfocljhaaaDoor.RepC
