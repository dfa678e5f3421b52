/- A label that came in, opened. -/
import Derived.Test.YtdimpopkkjpddaaDoorLab
import Derived.Test.YtdimpopkkjpddaaDoorLift
namespace Go.Proofs.YtdimpopkkjpddaaDoor.LabC
set_option maxRecDepth 100000
open Go.ChangeShapes Go.WideShapes Go.ChangeAt Go.RowKit Go.Joins

end Go.Proofs.YtdimpopkkjpddaaDoor.LabC
