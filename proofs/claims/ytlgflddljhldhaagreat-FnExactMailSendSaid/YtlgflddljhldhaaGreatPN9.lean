/- Of this claim's texts the part 9: LApp. -/
import Derived.Test.YtlgflddljhldhaaGreatPN4
import Derived.Test.YtlgflddljhldhaaGreatPN8
section
namespace Go.Proofs.YtlgflddljhldhaaGreat.RepC
open Go.RowKit RowC ValC
set_option linter.unusedVariables false
set_option maxRecDepth 100000
theorem flat_Label : Flat R_Label (fun x => [.int .i64 x.1, .int .i64 x.2]) := ⟨fun {W B x us} h => by obtain ⟨a, b⟩ := x; exact rd_Label h, fun W S x => by obtain ⟨a, b⟩ := x; exact mkow_Label⟩
end Go.Proofs.YtlgflddljhldhaaGreat.RepC
end
