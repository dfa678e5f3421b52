/- Of this claim's texts the part 20: MlG MlO. -/
import Derived.Test.YtlgflddljhldhaaGreatPU4
import Derived.Test.YtlgflddljhldhaaGreatPU12
section
namespace Go.Proofs.YtlgflddljhldhaaGreat.RepC
open Go.RowKit RowC ValC
set_option linter.unusedVariables false
set_option linter.unusedSimpArgs false
theorem gsz_Mail {d : D_Mail} {cs : List Value} {W : World} {l : Int} (h0 : 0 ≤ l) (h1 : l ≤ 1048576) (h : R_Mail.rd W W.heap.size d cs) : Calls Tryz.prog 9 #[.agg cs.toArray, .int .i64 l] W (SzC l (R_Mail.sz d) W) := by
  rename D_Mail => L0
  obtain ⟨a0, c0, rfl, k_L0⟩ := rd_Mail h
  exact sz_Mail h0 h1 k_L0
theorem gto_Mail {d : D_Mail} {cs : List Value} {W : World} (hsz : R_Mail.sz d ≤ 1048576) (h : R_Mail.rd W W.heap.size d cs) : Calls Tryz.prog 12 #[.agg cs.toArray] W (NewV R_Mail d W) := by
  rename D_Mail => L0
  obtain ⟨a0, c0, rfl, k_L0⟩ := rd_Mail h
  exact to_Mail hsz k_L0
theorem geq_Mail {d : D_Mail} {cs cs' : List Value} {W : World} (h : R_Mail.rd W W.heap.size d cs) (h' : R_Mail.rd W W.heap.size d cs') : Calls Tryz.prog 17 #[.agg cs.toArray, .agg cs'.toArray] W (IsB true W) := by
  rename D_Mail => L0
  obtain ⟨a0, c0, rfl, k_L0⟩ := rd_Mail h
  obtain ⟨a0', c0', rfl, k'_L0⟩ := rd_Mail h'
  exact eq_Mail k_L0 k'_L0
theorem owc_Mail {W : World} {S : Nat → Prop} {L0 : List (D_Box)} {cs : List Value} (h : R_Mail.ow W S L0 cs) : ∃ a0 c0, cs = [.slice a0 L0.length c0] ∧ R_Mail.ow W S L0 [.slice a0 L0.length c0] := by
  have h0 := h
  obtain ⟨a0, c0, T0, rfl, _⟩ := ow_Mail h
  exact ⟨a0, c0, rfl, h0⟩
theorem rdc_Mail {W : World} {B : Nat} {L0 : List (D_Box)} {cs : List Value} (h : R_Mail.rd W B L0 cs) : ∃ a0 c0, cs = [.slice a0 L0.length c0] ∧ R_Mail.rd W B L0 [.slice a0 L0.length c0] := by
  have h0 := h
  obtain ⟨a0, c0, rfl, _⟩ := rd_Mail h
  exact ⟨a0, c0, rfl, h0⟩
end Go.Proofs.YtlgflddljhldhaaGreat.RepC
end
section
namespace Go.Proofs.YtlgflddljhldhaaGreat.RepC
open Go.ChangeShapes Go.WideShapes Go.ChangeAt Go.RowKit Go.Joins Go.Deep RowC ValC
set_option maxRecDepth 100000
set_option linter.unusedVariables false
set_option linter.unusedSimpArgs false
theorem c_Note : Tryz.prog.cellsOf 171 = 2 := by kernel_rfl
theorem c_NoteS : Tryz.prog.cellsOf 115 = 1 := by kernel_rfl
theorem c_Box : Tryz.prog.cellsOf 117 = 3 := by kernel_rfl
theorem c_BoxS : Tryz.prog.cellsOf 27 = 1 := by kernel_rfl
theorem c_Mail : Tryz.prog.cellsOf 29 = 1 := by kernel_rfl
end Go.Proofs.YtlgflddljhldhaaGreat.RepC
end
