/- Quota as the laws want it. -/
import Derived.Test.YtdghcjlgmajffaaCfGv
import Derived.Test.YtdghcjlgmajffaaCfV5
import Derived.Test.YtdghcjlgmajffaaCfV6
namespace Go.Proofs.Ytdghcjlgmajffaa.RepC
open Go.RowKit RowC ValC SpanC KeptC
set_option linter.unusedVariables false
set_option linter.unusedSimpArgs false

noncomputable def quotaG (d : D_Config) (l s : Int) : Int := quotaV d.1 d.2.1 d.2.2.1 d.2.2.2 (l, s)
theorem gquota_spec {d : D_Config} {cs : List Value} {l s : Int} {W : World} (h : R_Config.rd W W.heap.size d cs) : Calls Try.prog 25 #[.agg cs.toArray, .agg #[.int .i64 l, .int .i64 s]] W (IsI (quotaG d l s) W) := by
  obtain ⟨C, P, Q, hf⟩ := d
  obtain ⟨a0, c0, a1, c1, a2, c2, rfl, k0, k1, k2⟩ := rd_Config h
  exact quotaof_spec k0 k1 k2
theorem gquota_impl {d : D_Config} {cs : List Value} {l s : Int} {W : World} (h : R_Config.rd W W.heap.size d cs) : Calls Try.prog 26 #[.agg cs.toArray, .agg #[.int .i64 l, .int .i64 s]] W (IsI (quotaG d l s) W) := by
  obtain ⟨C, P, Q, hf⟩ := d
  obtain ⟨a0, c0, a1, c1, a2, c2, rfl, k0, k1, k2⟩ := rd_Config h
  exact quotaof_impl k0 k1 k2
end Go.Proofs.Ytdghcjlgmajffaa.RepC
