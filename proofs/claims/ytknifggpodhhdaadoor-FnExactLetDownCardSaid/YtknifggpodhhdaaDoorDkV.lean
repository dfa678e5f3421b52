/- NextTime as its law wants it. -/
import Derived.Test.YtknifggpodhhdaaDoorDkU
import Derived.Test.YtknifggpodhhdaaDoorDkQ
import Derived.Test.YtknifggpodhhdaaDoorDeskO
namespace Go.Proofs.YtknifggpodhhdaaDoor.RepC
open SenC Go.RowKit RowC ValC SpanC KeptC
set_option linter.unusedVariables false
set_option linter.unusedSimpArgs false

theorem gnext_spec {d : D_Desk} {cs : List Value} {W : World} (hsz : R_Desk.sz d ≤ 1048576) (h : R_Desk.rd W W.heap.size d cs) : Calls Tryd.prog 33 #[.agg cs.toArray] W (NewV R_DeskStep (nextG d) W) := by
  obtain ⟨P, B, A, u, n⟩ := d
  obtain ⟨a0, c0, a1, c1, a2, c2, rfl, k0, k1, k2⟩ := rd_Desk h
  rw [szd_Desk2] at hsz
  exact nexttime_spec ⟨by omega, by omega, by omega⟩ k0 k1 k2
theorem gnext_impl {d : D_Desk} {cs : List Value} {W : World} {a1 a2 a3 a4 : Addr} (hS : Sent W a1 a2 a3 a4) (h : R_Desk.rd W W.heap.size d cs) : Calls Tryd.prog 29 #[.agg cs.toArray] W (NewV R_DeskStep (nextG d) W) := by
  obtain ⟨P, B, A, u, n⟩ := d
  obtain ⟨a0, c0, a1, c1, a2, c2, rfl, k0, k1, k2⟩ := rd_Desk h
  exact nexttime_impl hS k0 k1 k2
theorem next_small {d : D_Desk} {R : D_DeskStep} (h : R_Desk.sz d ≤ 1048576) (hd : nextG d = R) : R_DeskStep.cv R ≤ 8388608 := by
  obtain ⟨P, B, A, u, n⟩ := d
  rw [szd_Desk2] at h
  rw [← hd]
  unfold nextG zeroD
  split
  · split
    · rw [cvd_DeskStep, cm_letters]; simp
    · rw [cvd_DeskStep, cm_letters, cm_letters, cm_letters]
      show 6 * P.length + 6 * ([] : List D_Letter).length + 6 * A.length ≤ _
      simp only [List.length_nil]
      omega
  · rw [cvd_DeskStep, cm_letters]; simp
theorem Sent.mvW {W W' : World} {a1 a2 a3 a4 : Addr} (h : Sent W a1 a2 a3 a4) (hb : Below W.heap.size W W') : Sent W' a1 a2 a3 a4 := h.mv hb
end Go.Proofs.YtknifggpodhhdaaDoor.RepC
