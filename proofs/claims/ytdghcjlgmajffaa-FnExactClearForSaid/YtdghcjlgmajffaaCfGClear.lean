/- Clear as the laws want it. -/
import Derived.Test.YtdghcjlgmajffaaCfGv
import Derived.Test.YtdghcjlgmajffaaCfV3
import Derived.Test.YtdghcjlgmajffaaCfV4
namespace Go.Proofs.Ytdghcjlgmajffaa.RepC
open Go.RowKit RowC ValC SpanC KeptC
set_option linter.unusedVariables false
set_option linter.unusedSimpArgs false

noncomputable def clearG (d : D_Config) (l s : Int) : List Int := clearV d.1 d.2.1 d.2.2.1 d.2.2.2 (l, s)
theorem gclear_spec {d : D_Config} {cs : List Value} {l s : Int} {W : World} (h : R_Config.rd W W.heap.size d cs) : Calls Try.prog 19 #[.agg cs.toArray, .agg #[.int .i64 l, .int .i64 s]] W (NewS I (clearG d l s) W) := by
  obtain ⟨C, P, Q, hf⟩ := d
  obtain ⟨a0, c0, a1, c1, a2, c2, rfl, k0, k1, k2⟩ := rd_Config h
  exact clearfor_spec k0 k1 k2
theorem gclear_impl {d : D_Config} {cs : List Value} {l s : Int} {W : World} (h : R_Config.rd W W.heap.size d cs) : Calls Try.prog 21 #[.agg cs.toArray, .agg #[.int .i64 l, .int .i64 s]] W (NewS I (clearG d l s) W) := by
  obtain ⟨C, P, Q, hf⟩ := d
  obtain ⟨a0, c0, a1, c1, a2, c2, rfl, k0, k1, k2⟩ := rd_Config h
  exact clearfor_impl k0 k1 k2
theorem cm_ints : ∀ L : List Int, sumL I.cm L = L.length
  | [] => rfl
  | x :: xs => by simp only [sumL, cm_ints xs, List.length_cons]; show 1 + xs.length = _; omega
theorem clear_small {d : D_Config} {l s : Int} {R : List Int} (hz : R_Config.sz d ≤ 1048576) (hd : clearG d l s = R) : (Sl I).cv R ≤ 1048576 := by
  show sumL I.cm R ≤ _
  rw [cm_ints, ← hd]
  obtain ⟨C, P, Q, hf⟩ := d
  unfold clearG clearV
  split
  · have h := nodesTo_len C (l, s) C.length
    rw [szd_Config] at hz
    have e : (Sl (Sl R_Label)).sz C = C.length + sumL (Sl R_Label).sz C := rfl
    show (nodesTo C (l, s) C.length).length ≤ _
    omega
  · simp
end Go.Proofs.Ytdghcjlgmajffaa.RepC
