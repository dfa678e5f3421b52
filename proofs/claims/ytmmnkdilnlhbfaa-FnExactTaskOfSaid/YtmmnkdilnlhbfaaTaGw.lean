/- TasksRight as its law wants it. -/
import Derived.Test.YtmmnkdilnlhbfaaTaR4
namespace Go.Proofs.Ytmmnkdilnlhbfaa.RepC
open Go.RowKit RowC ValC SpanC KeptC
set_option linter.unusedVariables false
set_option linter.unusedSimpArgs false

theorem gtasks_spec {L : List D_Task} {v : Value} {W : World} (h : (Sl R_Task).rd W W.heap.size L [v]) : Calls Try.prog 22 #[v] W (IsB (tasksB L) W) := by
  obtain ⟨al, cap, he, k⟩ := h; cases he
  exact tasks_spec k
theorem gtasks_impl {L : List D_Task} {v : Value} {W : World} (h : (Sl R_Task).rd W W.heap.size L [v]) : Calls Try.prog 24 #[v] W (IsB (tasksB L) W) := by
  obtain ⟨al, cap, he, k⟩ := h; cases he
  exact tasks_impl k
end Go.Proofs.Ytmmnkdilnlhbfaa.RepC
