/- UseOf as the law wants it. -/
import Derived.Test.YtjhcphmehlihcaaUsGv
import Derived.Test.YtjhcphmehlihcaaUsU2
namespace Go.Proofs.Ytjhcphmehlihcaa.RepC
open Go.RowKit RowC ValC SpanC KeptC SortC
set_option linter.unusedVariables false
set_option linter.unusedSimpArgs false

def IsI (v : Int) (w : World) (e : Ending) (w' : World) : Prop := e = .returned (.int .i64 v) ∧ Below w.heap.size w w'
theorem isI_elim {v : Int} {w : World} {e : Ending} {w' : World} (h : IsI v w e w') : e = .returned (.int .i64 v) ∧ Below w.heap.size w w' := h
theorem guo_spec {L : List D_Use} {v : Value} {l0 l1 : Int} {s : ByteArray} {W : World} (h : (Sl R_Use).rd W W.heap.size L [v]) (hs : s.size ≤ maxLen) : Calls Try.prog 19 #[v, .agg #[.int .i64 l0, .int .i64 l1], .string s] W (IsI (ofV L ((l0, l1), s)) W) := by
  obtain ⟨al, cap, he, k⟩ := h; cases he
  exact (useof_spec k hs).mono fun _ _ h => h
theorem guo_impl {L : List D_Use} {v : Value} {l0 l1 : Int} {s : ByteArray} {W : World} (h : (Sl R_Use).rd W W.heap.size L [v]) (hs : WfA ((l0, l1), s)) : Calls Try.prog 18 #[v, .agg #[.int .i64 l0, .int .i64 l1], .string s] W (IsI (ofV L ((l0, l1), s)) W) := by
  obtain ⟨al, cap, he, k⟩ := h; cases he
  exact (useof_impl k hs).mono fun _ _ h => h
end Go.Proofs.Ytjhcphmehlihcaa.RepC
