/- BookCut as the law wants it. -/
import Derived.Test.YtfciojkibklkfaaNdT2
import Derived.Test.YtfciojkibklkfaaNdU
import Derived.Test.YtfciojkibklkfaaNdGs
namespace Go.Proofs.Ytfciojkibklkfaa.RepC
open Go.RowKit RowC ValC SpanC KeptC
set_option linter.unusedVariables false
set_option linter.unusedSimpArgs false

theorem gbc_spec {L : List D_Node} {v : Value} {n frm : Int} {W : World} (h : (Sl R_Node).rd W W.heap.size L [v]) : Calls Try.prog 38 #[v, .int .i64 n, .int .i64 frm] W (NewV R_NodesOut (chgV L n true (cutN frm)) W) := by
  obtain ⟨a, cap, he, k⟩ := h; cases he
  exact cut_spec k
theorem gbc_impl {L : List D_Node} {v : Value} {n frm : Int} {W : World} (h : (Sl R_Node).rd W W.heap.size L [v]) : Calls Try.prog 22 #[v, .int .i64 n, .int .i64 frm] W (NewV R_NodesOut (chgV L n true (cutN frm)) W) := by
  obtain ⟨a, cap, he, k⟩ := h; cases he
  exact cut_impl k
theorem cut_small {L : List D_Node} {n frm : Int} {d : D_NodesOut} (hz : (Sl R_Node).sz L ≤ 1048576) (hd : chgV L n true (cutN frm) = d) : R_NodesOut.cv d ≤ 8388608 :=
  chg_small hz (fun x hx => by
    have h4 := hx.2.1
    have h5 := List.length_filter_le (fun s : D_Span => !decide (s.1 = frm)) x.2
    unfold cutN
    split
    · show x.2.length ≤ 5; omega
    · show (x.2.filter _).length ≤ 5; omega) hd
end Go.Proofs.Ytfciojkibklkfaa.RepC
