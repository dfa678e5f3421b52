/- BooksPass as the law wants it. -/
import Derived.Test.YtfciojkibklkfaaNdY2
import Derived.Test.YtfciojkibklkfaaNdGv
import Derived.Test.YtfciojkibklkfaaNdO2
namespace Go.Proofs.Ytfciojkibklkfaa.RepC
open Go.RowKit RowC ValC SpanC KeptC
set_option linter.unusedVariables false
set_option linter.unusedSimpArgs false

theorem pass_small {L R : List D_Node} {now : Int} (hz : (Sl R_Node).sz L ≤ 1048576) (hd : passV L now = R) : (Sl R_Node).cv R ≤ 8388608 := by
  show sumL R_Node.cm R ≤ _
  rw [← hd]
  cases hq : nodesB L with
  | false => rw [passV_no hq]; decide
  | true =>
    rw [passV_yes hq]
    have hN := nodesB_iff.1 hq
    have key : ∀ K : List D_Node, (∀ x ∈ K, x.2.length ≤ 4) → sumL R_Node.cm (K.map (passN now)) ≤ 9 * K.length := by
      intro K hK
      induction K with
      | nil => exact Nat.zero_le _
      | cons y ys ih =>
        have h1 := ih fun x hx => hK x (by simp [hx])
        have h2 := hK y (by simp)
        have h3 : R_Node.cm (passN now y) = 1 + sumL R_Span.cm (passN now y).2 := rfl
        have h4 : (passN now y).2.length ≤ y.2.length := List.length_filter_le _ _
        simp only [List.map_cons, sumL, List.length_cons]
        rw [h3, cm_spans]
        omega
    have h1 := key L fun x hx => (hN.2 x hx).2.1
    have h2 := hN.1.2
    omega
theorem gbp_spec {L : List D_Node} {v : Value} {now : Int} {W : World} (h : (Sl R_Node).rd W W.heap.size L [v]) : Calls Try.prog 39 #[v, .int .i64 now] W (NewS R_Node (passV L now) W) := by
  obtain ⟨a, cap, he, k⟩ := h; cases he
  exact pass_spec k
theorem gbp_impl {L : List D_Node} {v : Value} {now : Int} {W : World} (h : (Sl R_Node).rd W W.heap.size L [v]) : Calls Try.prog 24 #[v, .int .i64 now] W (NewS R_Node (passV L now) W) := by
  obtain ⟨a, cap, he, k⟩ := h; cases he
  exact pass_impl k
end Go.Proofs.Ytfciojkibklkfaa.RepC
