/- FrameBytes as its law wants it. -/
import Derived.Test.YtdedomfocljhaaaFrB
import Derived.Test.YtdedomfocljhaaaFrG
import Derived.Test.YtdedomfocljhaaaOpn
namespace Go.Proofs.Ytdedomfocljhaaa.RepC
open Go.RowKit RowC ValC SpanC KeptC
set_option linter.unusedVariables false
set_option linter.unusedSimpArgs false

theorem gfb_spec {x : D_Frame} {cs : List Value} {W : World} (h : R_Frame.rd W W.heap.size x cs) : Calls Try.prog 10 #[.agg cs.toArray] W fun e w' => e = .returned (.string (FrC.bytesF x.1 x.2)) ∧ Below W.heap.size W w' := by
  obtain ⟨n, t⟩ := x
  obtain ⟨rfl, b⟩ := rd_Frame h
  exact FrC.bytes_s n t W b
theorem gfb_impl {x : D_Frame} {cs : List Value} {W : World} (h : R_Frame.rd W W.heap.size x cs) : Calls Try.prog 12 #[.agg cs.toArray] W fun e w' => e = .returned (.string (FrC.bytesF x.1 x.2)) ∧ Below W.heap.size W w' := by
  obtain ⟨n, t⟩ := x
  obtain ⟨rfl, b⟩ := rd_Frame h
  exact FrC.bytes_i n t W b
theorem cvs_Frame {x : D_Frame} (h : R_Frame.sz x ≤ 1048576) : R_Frame.cv x ≤ 8388608 := by
  show 0 + 0 ≤ _
  omega
end Go.Proofs.Ytdedomfocljhaaa.RepC
