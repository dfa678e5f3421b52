/- TaskReady as its law wants it. -/
import Derived.Test.YtmmnkdilnlhbfaaTaGw
import Derived.Test.YtmmnkdilnlhbfaaTaL2
namespace Go.Proofs.Ytmmnkdilnlhbfaa.RepC
open Go.RowKit RowC ValC SpanC KeptC
set_option linter.unusedVariables false
set_option linter.unusedSimpArgs false

theorem gready_spec {L : List D_Task} {v : Value} {x : D_Task} {cs : List Value} {W : World} (h : (Sl R_Task).rd W W.heap.size L [v]) (hx : R_Task.rd W W.heap.size x cs) : Calls Try.prog 35 #[v, .agg cs.toArray] W (IsB (readyB L x) W) := by
  obtain ⟨al, cap, he, k⟩ := h; cases he
  obtain ⟨⟨x0, x1⟩, x2, x3, x4, x5, x6, ⟨x7, x8⟩, x9, x10, x11, x12, M⟩ := x
  have hx0 := hx
  obtain ⟨ba, bc, rfl, k2, b2⟩ := rd_Task hx
  exact ready_spec k hx0
theorem gready_impl {L : List D_Task} {v : Value} {x : D_Task} {cs : List Value} {W : World} (h : (Sl R_Task).rd W W.heap.size L [v]) (hx : R_Task.rd W W.heap.size x cs) : Calls Try.prog 37 #[v, .agg cs.toArray] W (IsB (readyB L x) W) := by
  obtain ⟨al, cap, he, k⟩ := h; cases he
  obtain ⟨⟨x0, x1⟩, x2, x3, x4, x5, x6, ⟨x7, x8⟩, x9, x10, x11, x12, M⟩ := x
  have hx0 := hx
  obtain ⟨ba, bc, rfl, k2, b2⟩ := rd_Task hx
  exact ready_impl k hx0
end Go.Proofs.Ytmmnkdilnlhbfaa.RepC
