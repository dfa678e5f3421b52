/- The sizes of data of uses; UsesRight as the law wants it. -/
import Derived.Test.YtjhcphmehlihcaaUsR2
import Derived.Test.YtjhcphmehlihcaaUsG
import Derived.Test.YtjhcphmehlihcaaUsO
namespace Go.Proofs.Ytjhcphmehlihcaa.RepC
open Go.RowKit RowC ValC SpanC KeptC
set_option linter.unusedVariables false
set_option linter.unusedSimpArgs false

theorem cm_uses : ∀ L : List D_Use, sumL R_Use.cm L = 4 * L.length
  | [] => rfl
  | x :: xs => by
    simp only [sumL, cm_uses xs, List.length_cons]
    have : R_Use.cm x = 4 := rfl
    omega
theorem cvs_UseS {L : List D_Use} (h : (Sl R_Use).sz L ≤ 1048576) : (Sl R_Use).cv L ≤ 8388608 := by
  have e := cm_uses L
  have e2 : (Sl R_Use).sz L = L.length + sumL R_Use.sz L := rfl
  show sumL R_Use.cm L ≤ _
  omega
theorem guses_spec {L : List D_Use} {v : Value} {W : World} (h : (Sl R_Use).rd W W.heap.size L [v]) : Calls Try.prog 15 #[v] W (IsB (usesB L) W) := by
  obtain ⟨al, cap, he, k⟩ := h; cases he
  exact uses_spec k
theorem guses_impl {L : List D_Use} {v : Value} {W : World} (h : (Sl R_Use).rd W W.heap.size L [v]) : Calls Try.prog 14 #[v] W (IsB (usesB L) W) := by
  obtain ⟨al, cap, he, k⟩ := h; cases he
  exact uses_impl k
end Go.Proofs.Ytjhcphmehlihcaa.RepC
