/- Pair as the laws want it. -/
import Derived.Test.YtdghcjlgmajffaaCfGv
import Derived.Test.YtdghcjlgmajffaaCfV7
import Derived.Test.YtdghcjlgmajffaaCfV8
namespace Go.Proofs.Ytdghcjlgmajffaa.RepC
open Go.RowKit RowC ValC SpanC KeptC
set_option linter.unusedVariables false
set_option linter.unusedSimpArgs false

noncomputable def pairG (d : D_Config) (f0 f1 t0 t1 : Int) : Int := pairV d.1 d.2.1 d.2.2.1 d.2.2.2 (f0, f1) (t0, t1)
theorem gpair_spec {d : D_Config} {cs : List Value} {f0 f1 t0 t1 : Int} {W : World} (h : R_Config.rd W W.heap.size d cs) : Calls Try.prog 27 #[.agg cs.toArray, .agg #[.int .i64 f0, .int .i64 f1], .agg #[.int .i64 t0, .int .i64 t1]] W (IsI (pairG d f0 f1 t0 t1) W) := by
  obtain ⟨C, P, Q, hf⟩ := d
  obtain ⟨a0, c0, a1, c1, a2, c2, rfl, k0, k1, k2⟩ := rd_Config h
  exact pairat_spec k0 k1 k2
theorem gpair_impl {d : D_Config} {cs : List Value} {f0 f1 t0 t1 : Int} {W : World} (h : R_Config.rd W W.heap.size d cs) : Calls Try.prog 28 #[.agg cs.toArray, .agg #[.int .i64 f0, .int .i64 f1], .agg #[.int .i64 t0, .int .i64 t1]] W (IsI (pairG d f0 f1 t0 t1) W) := by
  obtain ⟨C, P, Q, hf⟩ := d
  obtain ⟨a0, c0, a1, c1, a2, c2, rfl, k0, k1, k2⟩ := rd_Config h
  exact pairat_impl k0 k1 k2
end Go.Proofs.Ytdghcjlgmajffaa.RepC
