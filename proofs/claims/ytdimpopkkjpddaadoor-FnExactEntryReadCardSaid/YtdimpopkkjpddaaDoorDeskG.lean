/- The laws' data: contracts. -/
import Derived.Test.YtdimpopkkjpddaaDoorDeskM
import Derived.Test.YtdimpopkkjpddaaDoorGen
namespace Go.Proofs.YtdimpopkkjpddaaDoor.RepC
open Go.RowKit RowC ValC
set_option linter.unusedVariables false
set_option linter.unusedSimpArgs false

theorem owc_Desk {W : World} {S : Nat → Prop} {L0 : List (D_Letter)} {L1 : List (D_Letter)} {L2 : List (D_Letter)} {x3 : Int} {x4 : Int} {cs : List Value} (h : R_Desk.ow W S (L0, L1, L2, x3, x4) cs) : ∃ a0 c0 a1 c1 a2 c2, cs = [.slice a0 L0.length c0, .slice a1 L1.length c1, .slice a2 L2.length c2, .int .i64 x3, .int .i64 x4] ∧ R_Desk.ow W S (L0, L1, L2, x3, x4) [.slice a0 L0.length c0, .slice a1 L1.length c1, .slice a2 L2.length c2, .int .i64 x3, .int .i64 x4] := by
  have h0 := h
  obtain ⟨a0, c0, a1, c1, a2, c2, T0, T1, T2, rfl, _⟩ := ow_Desk h
  exact ⟨a0, c0, a1, c1, a2, c2, rfl, h0⟩
theorem rdc_Desk {W : World} {B : Nat} {L0 : List (D_Letter)} {L1 : List (D_Letter)} {L2 : List (D_Letter)} {x3 : Int} {x4 : Int} {cs : List Value} (h : R_Desk.rd W B (L0, L1, L2, x3, x4) cs) : ∃ a0 c0 a1 c1 a2 c2, cs = [.slice a0 L0.length c0, .slice a1 L1.length c1, .slice a2 L2.length c2, .int .i64 x3, .int .i64 x4] ∧ R_Desk.rd W B (L0, L1, L2, x3, x4) [.slice a0 L0.length c0, .slice a1 L1.length c1, .slice a2 L2.length c2, .int .i64 x3, .int .i64 x4] := by
  have h0 := h
  obtain ⟨a0, c0, a1, c1, a2, c2, rfl, _⟩ := rd_Desk h
  exact ⟨a0, c0, a1, c1, a2, c2, rfl, h0⟩
theorem cvd_Desk {L0 : List (D_Letter)} {L1 : List (D_Letter)} {L2 : List (D_Letter)} {x3 : Int} {x4 : Int} : R_Desk.cv (L0, L1, L2, x3, x4) = sumL (R_Letter).cm L0 + sumL (R_Letter).cm L1 + sumL (R_Letter).cm L2 := by
  simp only [R_Desk, Pr, Sl, I, Bo, atom]; omega
theorem owc_DeskStep {W : World} {S : Nat → Prop} {L0 : List (D_Letter)} {L1 : List (D_Letter)} {L2 : List (D_Letter)} {x3 : Int} {x4 : Int} {x5 : Int} {cs : List Value} (h : R_DeskStep.ow W S ((L0, L1, L2, x3, x4), x5) cs) : ∃ a0 c0 a1 c1 a2 c2, cs = [.slice a0 L0.length c0, .slice a1 L1.length c1, .slice a2 L2.length c2, .int .i64 x3, .int .i64 x4, .int .i64 x5] ∧ R_DeskStep.ow W S ((L0, L1, L2, x3, x4), x5) [.slice a0 L0.length c0, .slice a1 L1.length c1, .slice a2 L2.length c2, .int .i64 x3, .int .i64 x4, .int .i64 x5] := by
  have h0 := h
  obtain ⟨a0, c0, a1, c1, a2, c2, T0, T1, T2, rfl, _⟩ := ow_DeskStep h
  exact ⟨a0, c0, a1, c1, a2, c2, rfl, h0⟩
theorem rdc_DeskStep {W : World} {B : Nat} {L0 : List (D_Letter)} {L1 : List (D_Letter)} {L2 : List (D_Letter)} {x3 : Int} {x4 : Int} {x5 : Int} {cs : List Value} (h : R_DeskStep.rd W B ((L0, L1, L2, x3, x4), x5) cs) : ∃ a0 c0 a1 c1 a2 c2, cs = [.slice a0 L0.length c0, .slice a1 L1.length c1, .slice a2 L2.length c2, .int .i64 x3, .int .i64 x4, .int .i64 x5] ∧ R_DeskStep.rd W B ((L0, L1, L2, x3, x4), x5) [.slice a0 L0.length c0, .slice a1 L1.length c1, .slice a2 L2.length c2, .int .i64 x3, .int .i64 x4, .int .i64 x5] := by
  have h0 := h
  obtain ⟨a0, c0, a1, c1, a2, c2, rfl, _⟩ := rd_DeskStep h
  exact ⟨a0, c0, a1, c1, a2, c2, rfl, h0⟩
theorem cvd_DeskStep {L0 : List (D_Letter)} {L1 : List (D_Letter)} {L2 : List (D_Letter)} {x3 : Int} {x4 : Int} {x5 : Int} : R_DeskStep.cv ((L0, L1, L2, x3, x4), x5) = sumL (R_Letter).cm L0 + sumL (R_Letter).cm L1 + sumL (R_Letter).cm L2 := by
  simp only [R_DeskStep, R_Desk, Pr, Sl, I, Bo, atom]; omega
end Go.Proofs.YtdimpopkkjpddaaDoor.RepC
