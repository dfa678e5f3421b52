/- TaskOf as its law wants it. -/
import Derived.Test.YtkghodbbgehcoaaTaGw
import Derived.Test.YtkghodbbgehcoaaTaC2
namespace Go.Proofs.Ytkghodbbgehcoaa.RepC
open Go.RowKit RowC ValC SpanC KeptC
set_option linter.unusedVariables false
set_option linter.unusedSimpArgs false

theorem gtaskof_spec {L : List D_Task} {v : Value} {l s id : Int} {W : World} (hsz : (Sl R_Task).sz L ≤ 1048576) (h : (Sl R_Task).rd W W.heap.size L [v]) : Calls Try.prog 33 #[v, .agg #[.int .i64 l, .int .i64 s], .int .i64 id] W (NewV R_Task (taskOf L ((l, s), id)) W) := by
  obtain ⟨al, cap, he, k⟩ := h; cases he
  exact taskof_spec hsz k
theorem gtaskof_impl {L : List D_Task} {v : Value} {l s id : Int} {W : World} (hsz : (Sl R_Task).sz L ≤ 1048576) (h : (Sl R_Task).rd W W.heap.size L [v]) : Calls Try.prog 35 #[v, .agg #[.int .i64 l, .int .i64 s], .int .i64 id] W (NewV R_Task (taskOf L ((l, s), id)) W) := by
  obtain ⟨al, cap, he, k⟩ := h; cases he
  exact taskof_impl hsz k
theorem taskof_small {L : List D_Task} {a : D_Label × Int} {d : D_Task} (hsz : (Sl R_Task).sz L ≤ 1048576) (hd : taskOf L a = d) : R_Task.cv d ≤ 8388608 := by
  apply cvs_Task
  rw [← hd]
  have hz : R_Task.sz zeroT ≤ 1048576 := by rw [sz_task]; decide
  unfold taskOf
  split
  · cases hx : L[(atT L a).toNat]? with
    | none => exact hz
    | some x =>
      have := sz_at (f := R_Task.sz) hx hsz
      simpa using this
  · exact hz
end Go.Proofs.Ytkghodbbgehcoaa.RepC
