/- The laws' data: contracts. -/
import Derived.Test.YtdedomfocljhaaaDoorFrM
import Derived.Test.YtdedomfocljhaaaDoorGen
namespace Go.Proofs.YtdedomfocljhaaaDoor.RepC
open Go.RowKit RowC ValC
set_option linter.unusedVariables false
set_option linter.unusedSimpArgs false

theorem geq_Frame {d : D_Frame} {cs cs' : List Value} {W : World} (h : R_Frame.rd W W.heap.size d cs) (h' : R_Frame.rd W W.heap.size d cs') : Calls Tryd.prog 35 #[.agg cs.toArray, .agg cs'.toArray] W (IsB true W) := by
  obtain ⟨x0, x1⟩ := d
  obtain ⟨rfl, b_x1⟩ := rd_Frame h
  obtain ⟨rfl, b'_x1⟩ := rd_Frame h'
  exact eq_Frame
theorem owc_Frame {W : World} {S : Nat → Prop} {x0 : Int} {x1 : ByteArray} {cs : List Value} (h : R_Frame.ow W S (x0, x1) cs) : cs = [.int .i64 x0, .string x1] ∧ R_Frame.ow W S (x0, x1) [.int .i64 x0, .string x1] := by
  have h0 := h
  obtain ⟨rfl, _⟩ := ow0_Frame h
  exact ⟨rfl, h0⟩

theorem geq_FrameOut {d : D_FrameOut} {cs cs' : List Value} {W : World} (h : R_FrameOut.rd W W.heap.size d cs) (h' : R_FrameOut.rd W W.heap.size d cs') : Calls Tryd.prog 10 #[.agg cs.toArray, .agg cs'.toArray] W (IsB true W) := by
  obtain ⟨⟨x0, x1⟩, x2, x3⟩ := d
  obtain ⟨rfl, b_x1⟩ := rd_FrameOut h
  obtain ⟨rfl, b'_x1⟩ := rd_FrameOut h'
  exact eq_FrameOut
theorem owc_FrameOut {W : World} {S : Nat → Prop} {x0 : Int} {x1 : ByteArray} {x2 : Int} {x3 : Int} {cs : List Value} (h : R_FrameOut.ow W S ((x0, x1), x2, x3) cs) : cs = [.int .i64 x0, .string x1, .int .i64 x2, .int .i64 x3] ∧ R_FrameOut.ow W S ((x0, x1), x2, x3) [.int .i64 x0, .string x1, .int .i64 x2, .int .i64 x3] := by
  have h0 := h
  obtain ⟨rfl, _⟩ := ow0_FrameOut h
  exact ⟨rfl, h0⟩

theorem geq_FrameS {L : List (D_Frame)} {v v' : Value} {W : World} (h : (Sl R_Frame).rd W W.heap.size L [v]) (h' : (Sl R_Frame).rd W W.heap.size L [v']) : Calls Tryd.prog 36 #[v, v'] W (IsB true W) := by
  obtain ⟨a, cap, he, k⟩ := h; cases he
  obtain ⟨a', cap', he, k'⟩ := h'; cases he
  exact eq_FrameS k k'
theorem gmark_FrameS {L : List (D_Frame)} {v : Value} {W : World} {S : Nat → Prop} {k : Int} (h0 : 0 ≤ k) (h1 : k + ((Sl R_Frame).cv L : Nat) ≤ 4611686018427387904) (hS : ∀ q, S q → q < W.heap.size) (h : (Sl R_Frame).ow W S L [v]) : Calls Tryd.prog 37 #[v, .int .i64 k] W (MarkG (Sl R_Frame) L [v] S k W) := by
  obtain ⟨a, cap, he, ho⟩ := h; cases he
  refine (mark_FrameS h0 h1 hS ho).mono fun e w' hh => ?_
  obtain ⟨y, z, rfl, hl, hm, hz, ho', hoff⟩ := markR_elim hh
  exact ⟨y, z, rfl, hm, hz, ⟨a, cap, by rw [hl], ho'⟩, hoff⟩
theorem gheld_FrameS {L : List (D_Frame)} {v : Value} {W : World} {k z : Int} (h0 : 0 ≤ k) (h1 : z ≤ 4611686018427387904) (hm : (Sl R_Frame).mv L k z) (h : (Sl R_Frame).rd W W.heap.size L [v]) : Calls Tryd.prog 38 #[v, .int .i64 k] W (HeldC z W) := by
  obtain ⟨a, cap, he, q⟩ := h; cases he
  exact held_FrameS h0 h1 hm q

theorem geq_LogOut {d : D_LogOut} {cs cs' : List Value} {W : World} (h : R_LogOut.rd W W.heap.size d cs) (h' : R_LogOut.rd W W.heap.size d cs') : Calls Tryd.prog 13 #[.agg cs.toArray, .agg cs'.toArray] W (IsB true W) := by
  obtain ⟨L0, x1, x2⟩ := d
  obtain ⟨a0, c0, rfl, k_L0⟩ := rd_LogOut h
  obtain ⟨a0', c0', rfl, k'_L0⟩ := rd_LogOut h'
  exact eq_LogOut k_L0 k'_L0
theorem owc_LogOut {W : World} {S : Nat → Prop} {L0 : List (D_Frame)} {x1 : Int} {x2 : Int} {cs : List Value} (h : R_LogOut.ow W S (L0, x1, x2) cs) : ∃ a0 c0, cs = [.slice a0 L0.length c0, .int .i64 x1, .int .i64 x2] ∧ R_LogOut.ow W S (L0, x1, x2) [.slice a0 L0.length c0, .int .i64 x1, .int .i64 x2] := by
  have h0 := h
  obtain ⟨a0, c0, T0, rfl, _⟩ := ow_LogOut h
  exact ⟨a0, c0, rfl, h0⟩
theorem rdc_LogOut {W : World} {B : Nat} {L0 : List (D_Frame)} {x1 : Int} {x2 : Int} {cs : List Value} (h : R_LogOut.rd W B (L0, x1, x2) cs) : ∃ a0 c0, cs = [.slice a0 L0.length c0, .int .i64 x1, .int .i64 x2] ∧ R_LogOut.rd W B (L0, x1, x2) [.slice a0 L0.length c0, .int .i64 x1, .int .i64 x2] := by
  have h0 := h
  obtain ⟨a0, c0, rfl, _⟩ := rd_LogOut h
  exact ⟨a0, c0, rfl, h0⟩
theorem cvd_LogOut {L0 : List (D_Frame)} {x1 : Int} {x2 : Int} : R_LogOut.cv (L0, x1, x2) = sumL (R_Frame).cm L0 := by
  simp only [R_LogOut, Pr, Sl, I, Bo, atom] <;> omega
set_option maxRecDepth 100000 in
theorem gmark_LogOut {d : D_LogOut} {cs : List Value} {W : World} {S : Nat → Prop} {k : Int} (h0 : 0 ≤ k) (h1 : k + (R_LogOut.cv d : Nat) ≤ 4611686018427387904) (hS : ∀ q, S q → q < W.heap.size) (h : R_LogOut.ow W S d cs) : Calls Tryd.prog 14 #[.agg cs.toArray, .int .i64 k] W (MarkG R_LogOut d cs S k W) := by
  obtain ⟨L0, x1, x2⟩ := d
  obtain ⟨a0, c0, T0, rfl, hs0, k_L0⟩ := ow_LogOut h
  have hcv := cvd_LogOut (L0 := L0) (x1 := x1) (x2 := x2)
  refine (mark_LogOut h0 (by rw [hcv] at h1; omega) (fun q hq => hS q (hs0 q hq)) k_L0).mono fun e w' hh => ?_
  obtain ⟨z0, y0, rfl, ⟨hl0, hm0, hz0, ho0⟩, hoff⟩ := hh
  have hmk := mkow_LogOut (x1 := x1) (x2 := x2) hs0 ho0
  simp only [hl0] at hmk
  exact ⟨(y0, x1, x2), _, rfl, ⟨z0, hm0, ⟨z0, rfl, rfl⟩⟩, by rw [hcv]; omega, hmk, hoff.more fun q hq => by exact hs0 q hq⟩
set_option maxRecDepth 100000 in
theorem gheld_LogOut {d : D_LogOut} {cs : List Value} {W : World} {k z : Int} (h0 : 0 ≤ k) (h1 : z ≤ 4611686018427387904) (hm : R_LogOut.mv d k z) (h : R_LogOut.rd W W.heap.size d cs) : Calls Tryd.prog 15 #[.agg cs.toArray, .int .i64 k] W (HeldC z W) := by
  obtain ⟨L0, x1, x2⟩ := d
  obtain ⟨a0, c0, rfl, k_L0⟩ := rd_LogOut h
  obtain ⟨_, hm0, ⟨_, rfl, rfl⟩⟩ := hm
  exact held_LogOut h0 h1 hm0 k_L0

end Go.Proofs.YtdedomfocljhaaaDoor.RepC
