/- The laws' data: contracts. -/
import Derived.Test.YtdedomfocljhaaaGreatDoorFrM
import Derived.Test.YtdedomfocljhaaaGreatDoorGen
namespace Go.Proofs.YtdedomfocljhaaaGreatDoor.RepC
open Go.RowKit RowC ValC
set_option linter.unusedVariables false
set_option linter.unusedSimpArgs false

theorem gsz_Frame {d : D_Frame} {cs : List Value} {W : World} {l : Int} (h0 : 0 ≤ l) (h1 : l ≤ 1048576) (h : R_Frame.rd W W.heap.size d cs) : Calls Tryz.prog 5 #[.agg cs.toArray, .int .i64 l] W (SzC l (R_Frame.sz d) W) := by
  obtain ⟨x0, x1⟩ := d
  obtain ⟨rfl, b_x1⟩ := rd_Frame h
  exact sz_Frame h0 h1 b_x1
theorem gto_Frame {d : D_Frame} {cs : List Value} {W : World} (hsz : R_Frame.sz d ≤ 1048576) (h : R_Frame.rd W W.heap.size d cs) : Calls Tryz.prog 8 #[.agg cs.toArray] W (NewV R_Frame d W) := by
  obtain ⟨x0, x1⟩ := d
  obtain ⟨rfl, b_x1⟩ := rd_Frame h
  exact to_Frame hsz b_x1
theorem owc_Frame {W : World} {S : Nat → Prop} {x0 : Int} {x1 : ByteArray} {cs : List Value} (h : R_Frame.ow W S (x0, x1) cs) : cs = [.int .i64 x0, .string x1] ∧ R_Frame.ow W S (x0, x1) [.int .i64 x0, .string x1] := by
  have h0 := h
  obtain ⟨rfl, _⟩ := ow0_Frame h
  exact ⟨rfl, h0⟩

theorem owc_FrameOut {W : World} {S : Nat → Prop} {x0 : Int} {x1 : ByteArray} {x2 : Int} {x3 : Int} {cs : List Value} (h : R_FrameOut.ow W S ((x0, x1), x2, x3) cs) : cs = [.int .i64 x0, .string x1, .int .i64 x2, .int .i64 x3] ∧ R_FrameOut.ow W S ((x0, x1), x2, x3) [.int .i64 x0, .string x1, .int .i64 x2, .int .i64 x3] := by
  have h0 := h
  obtain ⟨rfl, _⟩ := ow0_FrameOut h
  exact ⟨rfl, h0⟩

theorem owc_LogOut {W : World} {S : Nat → Prop} {L0 : List (D_Frame)} {x1 : Int} {x2 : Int} {cs : List Value} (h : R_LogOut.ow W S (L0, x1, x2) cs) : ∃ a0 c0, cs = [.slice a0 L0.length c0, .int .i64 x1, .int .i64 x2] ∧ R_LogOut.ow W S (L0, x1, x2) [.slice a0 L0.length c0, .int .i64 x1, .int .i64 x2] := by
  have h0 := h
  obtain ⟨a0, c0, T0, rfl, _⟩ := ow_LogOut h
  exact ⟨a0, c0, rfl, h0⟩
theorem rdc_LogOut {W : World} {B : Nat} {L0 : List (D_Frame)} {x1 : Int} {x2 : Int} {cs : List Value} (h : R_LogOut.rd W B (L0, x1, x2) cs) : ∃ a0 c0, cs = [.slice a0 L0.length c0, .int .i64 x1, .int .i64 x2] ∧ R_LogOut.rd W B (L0, x1, x2) [.slice a0 L0.length c0, .int .i64 x1, .int .i64 x2] := by
  have h0 := h
  obtain ⟨a0, c0, rfl, _⟩ := rd_LogOut h
  exact ⟨a0, c0, rfl, h0⟩
theorem cvd_LogOut {L0 : List (D_Frame)} {x1 : Int} {x2 : Int} : R_LogOut.cv (L0, x1, x2) = sumL (R_Frame).cm L0 := by
  simp only [R_LogOut, Pr, Sl, I, Bo, atom] <;> omega
end Go.Proofs.YtdedomfocljhaaaGreatDoor.RepC
