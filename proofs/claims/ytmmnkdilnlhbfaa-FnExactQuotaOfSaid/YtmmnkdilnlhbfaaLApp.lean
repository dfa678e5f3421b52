/- Rows that are made by append, element by element, each with blocks of its own: general in the type. -/
import Derived.Test.YtmmnkdilnlhbfaaAppB
import Derived.Test.YtmmnkdilnlhbfaaRep3
import Derived.Test.YtmmnkdilnlhbfaaRowO
import Derived.Test.YtmmnkdilnlhbfaaVals
import Derived.Test.YtmmnkdilnlhbfaaJobT
namespace Go.Proofs.Ytmmnkdilnlhbfaa.RepC
open Go.RowKit RowC ValC
set_option linter.unusedVariables false
set_option maxRecDepth 100000
theorem flat_Label : Flat R_Label (fun x => [.int .i64 x.1, .int .i64 x.2]) := ⟨fun {W B x us} h => by obtain ⟨a, b⟩ := x; exact rd_Label h, fun W S x => by obtain ⟨a, b⟩ := x; exact mkow_Label⟩
end Go.Proofs.Ytmmnkdilnlhbfaa.RepC
