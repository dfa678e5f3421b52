/- RowsNew and RowsHard as the laws want them. -/
import Derived.Test.YtfciojkibklkfaaNdQ2
import Derived.Test.YtfciojkibklkfaaNdGv
import Derived.Test.YtfciojkibklkfaaNdO2
namespace Go.Proofs.Ytfciojkibklkfaa.RepC
open Go.RowKit RowC ValC SpanC KeptC
set_option linter.unusedVariables false
set_option linter.unusedSimpArgs false

theorem rows_small {t : Int} {L : List D_Node} {R : List (List D_Span)} (hz : (Sl R_Node).sz L ≤ 1048576) (hd : rowsV t L = R) : (Sl (Sl R_Span)).cv R ≤ 8388608 := by
  show sumL (Sl R_Span).cm R ≤ _
  rw [cm_spanss, ← hd]
  cases hq : nodesB L with
  | false => rw [rowsV_no hq]; simp
  | true =>
    rw [rowsV_yes hq]
    have hN := nodesB_iff.1 hq
    have key : ∀ K : List D_Node, (∀ x ∈ K, x.2.length ≤ 4) → ((K.map (rowOf t)).map List.length).sum ≤ 4 * K.length := by
      intro K hK
      induction K with
      | nil => simp
      | cons y ys ih =>
        have h1 := ih fun x hx => hK x (by simp [hx])
        have h2 := hK y (by simp)
        have h3 : (rowOf t y).length ≤ 4 := by unfold rowOf; split <;> first | exact h2 | simp
        simp only [List.map_cons, List.sum_cons, List.length_cons]
        omega
    have h1 := key L fun x hx => (hN.2 x hx).2.1
    have h2 := hN.1.2
    omega
theorem grn_spec {L : List D_Node} {v : Value} {W : World} (h : (Sl R_Node).rd W W.heap.size L [v]) : Calls Try.prog 40 #[v] W (NewS (Sl R_Span) (rowsV 2 L) W) := by
  obtain ⟨a, cap, he, k⟩ := h; cases he
  exact rowsnew_spec k
theorem grn_impl {L : List D_Node} {v : Value} {W : World} (h : (Sl R_Node).rd W W.heap.size L [v]) : Calls Try.prog 21 #[v] W (NewS (Sl R_Span) (rowsV 2 L) W) := by
  obtain ⟨a, cap, he, k⟩ := h; cases he
  exact rowsnew_impl k
theorem grh_spec {L : List D_Node} {v : Value} {W : World} (h : (Sl R_Node).rd W W.heap.size L [v]) : Calls Try.prog 44 #[v] W (NewS (Sl R_Span) (rowsV 3 L) W) := by
  obtain ⟨a, cap, he, k⟩ := h; cases he
  exact rowshard_spec k
theorem grh_impl {L : List D_Node} {v : Value} {W : World} (h : (Sl R_Node).rd W W.heap.size L [v]) : Calls Try.prog 25 #[v] W (NewS (Sl R_Span) (rowsV 3 L) W) := by
  obtain ⟨a, cap, he, k⟩ := h; cases he
  exact rowshard_impl k
end Go.Proofs.Ytfciojkibklkfaa.RepC
