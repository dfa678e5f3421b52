/- UsesHalf as the law wants it. -/
import Derived.Test.YtjhcphmehlihcaaUsGv
import Derived.Test.YtjhcphmehlihcaaUsH2
namespace Go.Proofs.Ytjhcphmehlihcaa.RepC
open Go.RowKit RowC ValC SpanC KeptC SortC
set_option linter.unusedVariables false
set_option linter.unusedSimpArgs false

theorem guh_spec {L : List D_Use} {v : Value} {W : World} (h : (Sl R_Use).rd W W.heap.size L [v]) : Calls Try.prog 17 #[v] W (NewS R_Use (halfV L) W) := by
  obtain ⟨al, cap, he, k⟩ := h; cases he
  exact half_spec k
theorem guh_impl {L : List D_Use} {v : Value} {W : World} (h : (Sl R_Use).rd W W.heap.size L [v]) : Calls Try.prog 16 #[v] W (NewS R_Use (halfV L) W) := by
  obtain ⟨al, cap, he, k⟩ := h; cases he
  exact half_impl k
theorem half_small {L R : List D_Use} (hd : halfV L = R) : (Sl R_Use).cv R ≤ 1048576 := by
  show sumL R_Use.cm R ≤ _
  rw [cm_uses, ← hd]
  cases hq : usesB L with
  | false => rw [halfV_no hq]; simp
  | true =>
    rw [halfV_yes hq]
    have h1 := halfL_len L
    have h2 := (usesB_iff.1 hq).1
    omega
end Go.Proofs.Ytjhcphmehlihcaa.RepC
