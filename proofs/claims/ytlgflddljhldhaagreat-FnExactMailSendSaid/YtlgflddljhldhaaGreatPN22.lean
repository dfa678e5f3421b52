/- Of this claim's texts the part 22: MlTs. -/
import Derived.Test.YtlgflddljhldhaaGreatPN19
import Derived.Test.YtlgflddljhldhaaGreatPN21
section
namespace Go.Proofs.YtlgflddljhldhaaGreat.RepC
open Go.RowKit RowC ValC SpanC KeptC CfC
set_option linter.unusedVariables false
set_option linter.unusedSimpArgs false
set_option maxRecDepth 100000 in
set_option maxHeartbeats 1600000 in
theorem ill15_at (n : Int) (w : World) : Calls Tryz.prog 36 #[.int .i64 n] w fun e w' => e = .returned (.agg #[.slice none 0 0, .int .i64 n]) ∧ Below w.heap.size w w' := by
  have H0 := Blk.new w 38 #[.slice none 0 0, .int .i64 0]
  have q0 := H0.at_ 0 rfl
  have q1 := H0.at_ 1 rfl
  have s0 := H0.soft 0
  have s1 := H0.soft 1
  go_enter Tryz.func36, Tryz.ntmps36
  go_wp2
  refine bodyPost_ret (v := .agg #[.slice none 0 0, .int .i64 n]) (by simp [results, Tryz.results36, go_sem, *]) rfl ⟨rfl, ?_⟩
  exact (Below.refl _ _).alloc (Nat.le_refl _) _
end Go.Proofs.YtlgflddljhldhaaGreat.RepC
end
