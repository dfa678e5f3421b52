/- The sizes of data of nodes; NodesRight as the law wants it. -/
import Derived.Test.YtfciojkibklkfaaNdR
import Derived.Test.YtfciojkibklkfaaNdO
namespace Go.Proofs.Ytfciojkibklkfaa.RepC
open Go.RowKit RowC ValC SpanC KeptC
set_option linter.unusedVariables false
set_option linter.unusedSimpArgs false

theorem cm_spans : ∀ L : List D_Span, sumL R_Span.cm L = 2 * L.length
  | [] => rfl
  | x :: xs => by
    simp only [sumL, cm_spans xs, List.length_cons]
    have : R_Span.cm x = 2 := rfl
    omega
theorem cm_nodes : ∀ L : List D_Node, sumL R_Node.cm L ≤ 2 * (Sl R_Node).sz L
  | [] => Nat.zero_le _
  | x :: xs => by
    have h := cm_nodes xs
    have e : (Sl R_Node).sz (x :: xs) = (x :: xs).length + (R_Node.sz x + sumL R_Node.sz xs) := rfl
    have e2 : (Sl R_Node).sz xs = xs.length + sumL R_Node.sz xs := rfl
    obtain ⟨s, b⟩ := x
    have e3 : R_Node.sz (s, b) = b.length := by rw [szd_Node, flat_SpanS]
    have e4 : R_Node.cm (s, b) = 1 + sumL R_Span.cm b := rfl
    rw [e, e3]
    rw [e2] at h
    simp only [sumL, List.length_cons]
    rw [e4, cm_spans]
    omega
theorem cvs_NodeS {L : List D_Node} (h : (Sl R_Node).sz L ≤ 1048576) : (Sl R_Node).cv L ≤ 8388608 := by
  have := cm_nodes L
  show sumL R_Node.cm L ≤ _
  omega
theorem cm_spanss : ∀ L : List (List D_Span), sumL (Sl R_Span).cm L = 2 * (L.map List.length).sum
  | [] => rfl
  | x :: xs => by
    simp only [sumL, cm_spanss xs, List.map_cons, List.sum_cons]
    have : (Sl R_Span).cm x = sumL R_Span.cm x := rfl
    rw [this, cm_spans]
    omega
theorem gnodes_spec {L : List D_Node} {v : Value} {W : World} (h : (Sl R_Node).rd W W.heap.size L [v]) : Calls Try.prog 20 #[v] W (IsB (nodesB L) W) := by
  obtain ⟨a, cap, he, k⟩ := h; cases he
  exact nodes_spec k
theorem gnodes_impl {L : List D_Node} {v : Value} {W : World} (h : (Sl R_Node).rd W W.heap.size L [v]) : Calls Try.prog 19 #[v] W (IsB (nodesB L) W) := by
  obtain ⟨a, cap, he, k⟩ := h; cases he
  exact nodes_impl k
end Go.Proofs.Ytfciojkibklkfaa.RepC
