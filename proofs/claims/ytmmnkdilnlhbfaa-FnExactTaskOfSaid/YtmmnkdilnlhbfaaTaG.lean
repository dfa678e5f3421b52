/- The laws' data: contracts. -/
import Derived.Test.YtmmnkdilnlhbfaaTaM
import Derived.Test.YtmmnkdilnlhbfaaTaS
import Derived.Test.YtmmnkdilnlhbfaaGen
namespace Go.Proofs.Ytmmnkdilnlhbfaa.RepC
open Go.RowKit RowC ValC
set_option linter.unusedVariables false
set_option linter.unusedSimpArgs false

theorem gsz_Task {d : D_Task} {cs : List Value} {W : World} {l : Int} (h0 : 0 ≤ l) (h1 : l ≤ 1048576) (h : R_Task.rd W W.heap.size d cs) : Calls Try.prog 34 #[.agg cs.toArray, .int .i64 l] W (SzC l (R_Task.sz d) W) := by
  obtain ⟨⟨x0, x1⟩, x2, x3, x4, x5, x6, ⟨x7, x8⟩, x9, x10, x11, x12, L0⟩ := d
  obtain ⟨a0, c0, rfl, k_L0, b_x3⟩ := rd_Task h
  exact sz_Task h0 h1 k_L0 b_x3
theorem gto_Task {d : D_Task} {cs : List Value} {W : World} (hsz : R_Task.sz d ≤ 1048576) (h : R_Task.rd W W.heap.size d cs) : Calls Try.prog 36 #[.agg cs.toArray] W (NewV R_Task d W) := by
  obtain ⟨⟨x0, x1⟩, x2, x3, x4, x5, x6, ⟨x7, x8⟩, x9, x10, x11, x12, L0⟩ := d
  obtain ⟨a0, c0, rfl, k_L0, b_x3⟩ := rd_Task h
  exact to_Task hsz k_L0 b_x3
theorem geq_Task {d : D_Task} {cs cs' : List Value} {W : World} (h : R_Task.rd W W.heap.size d cs) (h' : R_Task.rd W W.heap.size d cs') : Calls Try.prog 28 #[.agg cs.toArray, .agg cs'.toArray] W (IsB true W) := by
  obtain ⟨⟨x0, x1⟩, x2, x3, x4, x5, x6, ⟨x7, x8⟩, x9, x10, x11, x12, L0⟩ := d
  obtain ⟨a0, c0, rfl, k_L0, b_x3⟩ := rd_Task h
  obtain ⟨a0', c0', rfl, k'_L0, b'_x3⟩ := rd_Task h'
  exact eq_Task k_L0 k'_L0
theorem owc_Task {W : World} {S : Nat → Prop} {x0 : Int} {x1 : Int} {x2 : Int} {x3 : ByteArray} {x4 : Int} {x5 : Int} {x6 : Int} {x7 : Int} {x8 : Int} {x9 : Int} {x10 : Int} {x11 : Int} {x12 : Int} {L0 : List (Int)} {cs : List Value} (h : R_Task.ow W S ((x0, x1), x2, x3, x4, x5, x6, (x7, x8), x9, x10, x11, x12, L0) cs) : ∃ a0 c0, cs = [.int .i64 x0, .int .i64 x1, .int .i64 x2, .string x3, .int .i64 x4, .int .i64 x5, .int .i64 x6, .int .i64 x7, .int .i64 x8, .int .i64 x9, .int .i64 x10, .int .i64 x11, .int .i64 x12, .slice a0 L0.length c0] ∧ R_Task.ow W S ((x0, x1), x2, x3, x4, x5, x6, (x7, x8), x9, x10, x11, x12, L0) [.int .i64 x0, .int .i64 x1, .int .i64 x2, .string x3, .int .i64 x4, .int .i64 x5, .int .i64 x6, .int .i64 x7, .int .i64 x8, .int .i64 x9, .int .i64 x10, .int .i64 x11, .int .i64 x12, .slice a0 L0.length c0] := by
  have h0 := h
  obtain ⟨a0, c0, T0, rfl, _⟩ := ow_Task h
  exact ⟨a0, c0, rfl, h0⟩
theorem rdc_Task {W : World} {B : Nat} {x0 : Int} {x1 : Int} {x2 : Int} {x3 : ByteArray} {x4 : Int} {x5 : Int} {x6 : Int} {x7 : Int} {x8 : Int} {x9 : Int} {x10 : Int} {x11 : Int} {x12 : Int} {L0 : List (Int)} {cs : List Value} (h : R_Task.rd W B ((x0, x1), x2, x3, x4, x5, x6, (x7, x8), x9, x10, x11, x12, L0) cs) : ∃ a0 c0, cs = [.int .i64 x0, .int .i64 x1, .int .i64 x2, .string x3, .int .i64 x4, .int .i64 x5, .int .i64 x6, .int .i64 x7, .int .i64 x8, .int .i64 x9, .int .i64 x10, .int .i64 x11, .int .i64 x12, .slice a0 L0.length c0] ∧ R_Task.rd W B ((x0, x1), x2, x3, x4, x5, x6, (x7, x8), x9, x10, x11, x12, L0) [.int .i64 x0, .int .i64 x1, .int .i64 x2, .string x3, .int .i64 x4, .int .i64 x5, .int .i64 x6, .int .i64 x7, .int .i64 x8, .int .i64 x9, .int .i64 x10, .int .i64 x11, .int .i64 x12, .slice a0 L0.length c0] := by
  have h0 := h
  obtain ⟨a0, c0, rfl, _⟩ := rd_Task h
  exact ⟨a0, c0, rfl, h0⟩
theorem cvd_Task {x0 : Int} {x1 : Int} {x2 : Int} {x3 : ByteArray} {x4 : Int} {x5 : Int} {x6 : Int} {x7 : Int} {x8 : Int} {x9 : Int} {x10 : Int} {x11 : Int} {x12 : Int} {L0 : List (Int)} : R_Task.cv ((x0, x1), x2, x3, x4, x5, x6, (x7, x8), x9, x10, x11, x12, L0) = sumL (I).cm L0 := by
  simp only [R_Task, R_Label, Pr, Sl, I, Bo, St, atom]; omega
set_option maxRecDepth 100000 in
theorem gmark_Task {d : D_Task} {cs : List Value} {W : World} {S : Nat → Prop} {k : Int} (h0 : 0 ≤ k) (h1 : k + (R_Task.cv d : Nat) ≤ 4611686018427387904) (hS : ∀ q, S q → q < W.heap.size) (h : R_Task.ow W S d cs) : Calls Try.prog 30 #[.agg cs.toArray, .int .i64 k] W (MarkG R_Task d cs S k W) := by
  obtain ⟨⟨x0, x1⟩, x2, x3, x4, x5, x6, ⟨x7, x8⟩, x9, x10, x11, x12, L0⟩ := d
  obtain ⟨a0, c0, T0, rfl, hs0, k_L0, b_x3⟩ := ow_Task h
  have hcv := cvd_Task (x0 := x0) (x1 := x1) (x2 := x2) (x3 := x3) (x4 := x4) (x5 := x5) (x6 := x6) (x7 := x7) (x8 := x8) (x9 := x9) (x10 := x10) (x11 := x11) (x12 := x12) (L0 := L0)
  refine (mark_Task h0 (by rw [hcv] at h1; omega) (fun q hq => hS q (hs0 q hq)) k_L0).mono fun e w' hh => ?_
  obtain ⟨z0, y0, rfl, ⟨hl0, hm0, hz0, ho0⟩, hoff⟩ := hh
  have hmk := mkow_Task (x0 := x0) (x1 := x1) (x2 := x2) (x3 := x3) (x4 := x4) (x5 := x5) (x6 := x6) (x7 := x7) (x8 := x8) (x9 := x9) (x10 := x10) (x11 := x11) (x12 := x12) hs0 ho0 b_x3
  simp only [hl0] at hmk
  exact ⟨((x0, x1), x2, x3, x4, x5, x6, (x7, x8), x9, x10, x11, x12, y0), _, rfl, ⟨k, ⟨k, rfl, rfl⟩, ⟨k, rfl, ⟨k, rfl, ⟨k, rfl, ⟨k, rfl, ⟨k, rfl, ⟨k, ⟨k, rfl, rfl⟩, ⟨k, rfl, ⟨k, rfl, ⟨k, rfl, ⟨k, rfl, hm0⟩⟩⟩⟩⟩⟩⟩⟩⟩⟩⟩, by rw [hcv]; omega, hmk, hoff.more fun q hq => by exact hs0 q hq⟩
set_option maxRecDepth 100000 in
theorem gheld_Task {d : D_Task} {cs : List Value} {W : World} {k z : Int} (h0 : 0 ≤ k) (h1 : z ≤ 4611686018427387904) (hm : R_Task.mv d k z) (h : R_Task.rd W W.heap.size d cs) : Calls Try.prog 31 #[.agg cs.toArray, .int .i64 k] W (HeldC z W) := by
  obtain ⟨⟨x0, x1⟩, x2, x3, x4, x5, x6, ⟨x7, x8⟩, x9, x10, x11, x12, L0⟩ := d
  obtain ⟨a0, c0, rfl, k_L0, b_x3⟩ := rd_Task h
  obtain ⟨_, ⟨_, rfl, rfl⟩, ⟨_, rfl, ⟨_, rfl, ⟨_, rfl, ⟨_, rfl, ⟨_, rfl, ⟨_, ⟨_, rfl, rfl⟩, ⟨_, rfl, ⟨_, rfl, ⟨_, rfl, ⟨_, rfl, hm0⟩⟩⟩⟩⟩⟩⟩⟩⟩⟩⟩ := hm
  exact held_Task h0 h1 hm0 k_L0

theorem gsz_TaskS {L : List (D_Task)} {v : Value} {W : World} {l : Int} (h0 : 0 ≤ l) (h1 : l ≤ 1048576) (h : (Sl R_Task).rd W W.heap.size L [v]) : Calls Try.prog 21 #[v, .int .i64 l] W (SzC l ((Sl R_Task).sz L) W) := by
  obtain ⟨a, cap, he, k⟩ := h; cases he
  exact sz_TaskS h0 h1 k
theorem gto_TaskS {L : List (D_Task)} {v : Value} {W : World} (hsz : (Sl R_Task).sz L ≤ 1048576) (h : (Sl R_Task).rd W W.heap.size L [v]) : Calls Try.prog 23 #[v] W (NewS R_Task L W) := by
  obtain ⟨a, cap, he, k⟩ := h; cases he
  exact to_TaskS hsz k
theorem geq_TaskS {L : List (D_Task)} {v v' : Value} {W : World} (h : (Sl R_Task).rd W W.heap.size L [v]) (h' : (Sl R_Task).rd W W.heap.size L [v']) : Calls Try.prog 25 #[v, v'] W (IsB true W) := by
  obtain ⟨a, cap, he, k⟩ := h; cases he
  obtain ⟨a', cap', he, k'⟩ := h'; cases he
  exact eq_TaskS k k'
theorem gmark_TaskS {L : List (D_Task)} {v : Value} {W : World} {S : Nat → Prop} {k : Int} (h0 : 0 ≤ k) (h1 : k + ((Sl R_Task).cv L : Nat) ≤ 4611686018427387904) (hS : ∀ q, S q → q < W.heap.size) (h : (Sl R_Task).ow W S L [v]) : Calls Try.prog 29 #[v, .int .i64 k] W (MarkG (Sl R_Task) L [v] S k W) := by
  obtain ⟨a, cap, he, ho⟩ := h; cases he
  refine (mark_TaskS h0 h1 hS ho).mono fun e w' hh => ?_
  obtain ⟨y, z, rfl, hl, hm, hz, ho', hoff⟩ := markR_elim hh
  exact ⟨y, z, rfl, hm, hz, ⟨a, cap, by rw [hl], ho'⟩, hoff⟩
theorem owc_TaskOut {W : World} {S : Nat → Prop} {x0 : Int} {x1 : Int} {x2 : Int} {x3 : ByteArray} {x4 : Int} {x5 : Int} {x6 : Int} {x7 : Int} {x8 : Int} {x9 : Int} {x10 : Int} {x11 : Int} {x12 : Int} {L0 : List (Int)} {x14 : Int} {x15 : Int} {cs : List Value} (h : R_TaskOut.ow W S (((x0, x1), x2, x3, x4, x5, x6, (x7, x8), x9, x10, x11, x12, L0), x14, x15) cs) : ∃ a0 c0, cs = [.int .i64 x0, .int .i64 x1, .int .i64 x2, .string x3, .int .i64 x4, .int .i64 x5, .int .i64 x6, .int .i64 x7, .int .i64 x8, .int .i64 x9, .int .i64 x10, .int .i64 x11, .int .i64 x12, .slice a0 L0.length c0, .int .i64 x14, .int .i64 x15] ∧ R_TaskOut.ow W S (((x0, x1), x2, x3, x4, x5, x6, (x7, x8), x9, x10, x11, x12, L0), x14, x15) [.int .i64 x0, .int .i64 x1, .int .i64 x2, .string x3, .int .i64 x4, .int .i64 x5, .int .i64 x6, .int .i64 x7, .int .i64 x8, .int .i64 x9, .int .i64 x10, .int .i64 x11, .int .i64 x12, .slice a0 L0.length c0, .int .i64 x14, .int .i64 x15] := by
  have h0 := h
  obtain ⟨a0, c0, T0, rfl, _⟩ := ow_TaskOut h
  exact ⟨a0, c0, rfl, h0⟩
theorem rdc_TaskOut {W : World} {B : Nat} {x0 : Int} {x1 : Int} {x2 : Int} {x3 : ByteArray} {x4 : Int} {x5 : Int} {x6 : Int} {x7 : Int} {x8 : Int} {x9 : Int} {x10 : Int} {x11 : Int} {x12 : Int} {L0 : List (Int)} {x14 : Int} {x15 : Int} {cs : List Value} (h : R_TaskOut.rd W B (((x0, x1), x2, x3, x4, x5, x6, (x7, x8), x9, x10, x11, x12, L0), x14, x15) cs) : ∃ a0 c0, cs = [.int .i64 x0, .int .i64 x1, .int .i64 x2, .string x3, .int .i64 x4, .int .i64 x5, .int .i64 x6, .int .i64 x7, .int .i64 x8, .int .i64 x9, .int .i64 x10, .int .i64 x11, .int .i64 x12, .slice a0 L0.length c0, .int .i64 x14, .int .i64 x15] ∧ R_TaskOut.rd W B (((x0, x1), x2, x3, x4, x5, x6, (x7, x8), x9, x10, x11, x12, L0), x14, x15) [.int .i64 x0, .int .i64 x1, .int .i64 x2, .string x3, .int .i64 x4, .int .i64 x5, .int .i64 x6, .int .i64 x7, .int .i64 x8, .int .i64 x9, .int .i64 x10, .int .i64 x11, .int .i64 x12, .slice a0 L0.length c0, .int .i64 x14, .int .i64 x15] := by
  have h0 := h
  obtain ⟨a0, c0, rfl, _⟩ := rd_TaskOut h
  exact ⟨a0, c0, rfl, h0⟩
theorem cvd_TaskOut {x0 : Int} {x1 : Int} {x2 : Int} {x3 : ByteArray} {x4 : Int} {x5 : Int} {x6 : Int} {x7 : Int} {x8 : Int} {x9 : Int} {x10 : Int} {x11 : Int} {x12 : Int} {L0 : List (Int)} {x14 : Int} {x15 : Int} : R_TaskOut.cv (((x0, x1), x2, x3, x4, x5, x6, (x7, x8), x9, x10, x11, x12, L0), x14, x15) = sumL (I).cm L0 := by
  simp only [R_TaskOut, R_Task, R_Label, Pr, Sl, I, Bo, St, atom]; omega
end Go.Proofs.Ytmmnkdilnlhbfaa.RepC
