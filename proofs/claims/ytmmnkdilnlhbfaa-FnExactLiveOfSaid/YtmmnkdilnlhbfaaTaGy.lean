/- LiveOf as its law wants it. -/
import Derived.Test.YtmmnkdilnlhbfaaTaGw
import Derived.Test.YtmmnkdilnlhbfaaTaL1
namespace Go.Proofs.Ytmmnkdilnlhbfaa.RepC
open Go.RowKit RowC ValC SpanC KeptC
set_option linter.unusedVariables false
set_option linter.unusedSimpArgs false

def IsI (v : Int) (w : World) (e : Ending) (w' : World) : Prop := e = .returned (.int .i64 v) ∧ Below w.heap.size w w'
theorem isI_elim {v : Int} {w : World} {e : Ending} {w' : World} (h : IsI v w e w') : e = .returned (.int .i64 v) ∧ Below w.heap.size w w' := h
theorem glive_spec {L : List D_Task} {v : Value} {l s : Int} {W : World} (h : (Sl R_Task).rd W W.heap.size L [v]) : Calls Try.prog 32 #[v, .agg #[.int .i64 l, .int .i64 s]] W (IsI (liveOf L (l, s)) W) := by
  obtain ⟨al, cap, he, k⟩ := h; cases he
  exact live_spec k
theorem glive_impl {L : List D_Task} {v : Value} {l s : Int} {W : World} (h : (Sl R_Task).rd W W.heap.size L [v]) : Calls Try.prog 33 #[v, .agg #[.int .i64 l, .int .i64 s]] W (IsI (liveOf L (l, s)) W) := by
  obtain ⟨al, cap, he, k⟩ := h; cases he
  exact live_impl k
end Go.Proofs.Ytmmnkdilnlhbfaa.RepC
