/- The sizes of data of tasks; TaskRight as its law wants it. -/
import Derived.Test.YtmmnkdilnlhbfaaTaR2
import Derived.Test.YtmmnkdilnlhbfaaTaO
namespace Go.Proofs.Ytmmnkdilnlhbfaa.RepC
open Go.RowKit RowC ValC SpanC KeptC
set_option linter.unusedVariables false
set_option linter.unusedSimpArgs false

theorem sumL_cmI : ∀ L : List Int, sumL I.cm L = L.length
  | [] => rfl
  | x :: xs => by simp only [sumL, sumL_cmI xs, List.length_cons]; show 1 + _ = _; omega
theorem cm_task (x : D_Task) : R_Task.cm x = 13 + (tNodes x).length := by
  obtain ⟨⟨x0, x1⟩, x2, x3, x4, x5, x6, ⟨x7, x8⟩, x9, x10, x11, x12, M⟩ := x
  show 1 + 1 + (1 + (1 + (1 + (1 + (1 + (1 + 1 + (1 + (1 + (1 + (1 + sumL I.cm M))))))))))  = _
  rw [sumL_cmI]
  show _ = 13 + M.length
  omega
theorem sz_task (x : D_Task) : R_Task.sz x = (tOwner x).size + (tNodes x).length := by
  obtain ⟨⟨x0, x1⟩, x2, x3, x4, x5, x6, ⟨x7, x8⟩, x9, x10, x11, x12, M⟩ := x
  rw [szd_Task]
  have h0 : sumL I.sz M = 0 := sumL_zero (fun _ => rfl) M
  show x3.size + (M.length + sumL I.sz M) = x3.size + M.length
  omega
theorem cv_task (x : D_Task) : R_Task.cv x = (tNodes x).length := by
  obtain ⟨⟨x0, x1⟩, x2, x3, x4, x5, x6, ⟨x7, x8⟩, x9, x10, x11, x12, M⟩ := x
  rw [cvd_Task, sumL_cmI]
theorem cvs_Task {x : D_Task} (h : R_Task.sz x ≤ 1048576) : R_Task.cv x ≤ 8388608 := by
  rw [sz_task] at h
  rw [cv_task]
  omega
theorem cm_tasks : ∀ L : List D_Task, sumL R_Task.cm L ≤ 13 * L.length + sumL R_Task.sz L
  | [] => Nat.le_refl _
  | x :: xs => by
    have h := cm_tasks xs
    have h1 := cm_task x
    have h2 := sz_task x
    simp only [sumL, List.length_cons]
    omega
theorem cvs_TaskS {L : List D_Task} (h : (Sl R_Task).sz L ≤ 1048576) : (Sl R_Task).cv L ≤ 33554432 := by
  have e := cm_tasks L
  have e2 : (Sl R_Task).sz L = L.length + sumL R_Task.sz L := rfl
  show sumL R_Task.cm L ≤ _
  omega
theorem taskI_w {x : D_Task} {cs : List Value} {W : World} (h : R_Task.rd W W.heap.size x cs) : Calls Try.prog 61 #[.agg cs.toArray] W fun e w' => e = .returned (.bool (taskB x)) ∧ Below W.heap.size W w' := by
  obtain ⟨⟨x0, x1⟩, x2, x3, x4, x5, x6, ⟨x7, x8⟩, x9, x10, x11, x12, M⟩ := x
  obtain ⟨ba, bc, rfl, k, b⟩ := rd_Task h
  exact (taskP_impl b k).mono fun e w' h => resB_is taskB_iff h
theorem gtask_spec {x : D_Task} {cs : List Value} {W : World} (h : R_Task.rd W W.heap.size x cs) : Calls Try.prog 58 #[.agg cs.toArray] W (IsB (taskB x) W) := by
  obtain ⟨⟨x0, x1⟩, x2, x3, x4, x5, x6, ⟨x7, x8⟩, x9, x10, x11, x12, M⟩ := x
  obtain ⟨ba, bc, rfl, k, b⟩ := rd_Task h
  exact (taskP_spec b k).mono fun e w' h => resB_is taskB_iff h
theorem gtask_impl {x : D_Task} {cs : List Value} {W : World} (h : R_Task.rd W W.heap.size x cs) : Calls Try.prog 61 #[.agg cs.toArray] W (IsB (taskB x) W) := by
  obtain ⟨⟨x0, x1⟩, x2, x3, x4, x5, x6, ⟨x7, x8⟩, x9, x10, x11, x12, M⟩ := x
  obtain ⟨ba, bc, rfl, k, b⟩ := rd_Task h
  exact (taskP_impl b k).mono fun e w' h => resB_is taskB_iff h
end Go.Proofs.Ytmmnkdilnlhbfaa.RepC
