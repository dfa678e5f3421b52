/- The laws' data: contracts. -/
import Derived.Test.YtknifggpodhhdaaDeskM
import Derived.Test.YtknifggpodhhdaaGen
namespace Go.Proofs.Ytknifggpodhhdaa.RepC
open Go.RowKit RowC ValC
set_option linter.unusedVariables false
set_option linter.unusedSimpArgs false

theorem gsz_Desk {d : D_Desk} {cs : List Value} {W : World} {l : Int} (h0 : 0 ≤ l) (h1 : l ≤ 1048576) (h : R_Desk.rd W W.heap.size d cs) : Calls Try.prog 22 #[.agg cs.toArray, .int .i64 l] W (SzC l (R_Desk.sz d) W) := by
  obtain ⟨L0, L1, L2, x3, x4⟩ := d
  obtain ⟨a0, c0, a1, c1, a2, c2, rfl, k_L0, k_L1, k_L2⟩ := rd_Desk h
  exact sz_Desk h0 h1 k_L0 k_L1 k_L2
theorem gto_Desk {d : D_Desk} {cs : List Value} {W : World} (hsz : R_Desk.sz d ≤ 1048576) (h : R_Desk.rd W W.heap.size d cs) : Calls Try.prog 24 #[.agg cs.toArray] W (NewV R_Desk d W) := by
  obtain ⟨L0, L1, L2, x3, x4⟩ := d
  obtain ⟨a0, c0, a1, c1, a2, c2, rfl, k_L0, k_L1, k_L2⟩ := rd_Desk h
  exact to_Desk hsz k_L0 k_L1 k_L2
theorem geq_Desk {d : D_Desk} {cs cs' : List Value} {W : World} (h : R_Desk.rd W W.heap.size d cs) (h' : R_Desk.rd W W.heap.size d cs') : Calls Try.prog 26 #[.agg cs.toArray, .agg cs'.toArray] W (IsB true W) := by
  obtain ⟨L0, L1, L2, x3, x4⟩ := d
  obtain ⟨a0, c0, a1, c1, a2, c2, rfl, k_L0, k_L1, k_L2⟩ := rd_Desk h
  obtain ⟨a0', c0', a1', c1', a2', c2', rfl, k'_L0, k'_L1, k'_L2⟩ := rd_Desk h'
  exact eq_Desk k_L0 k_L1 k_L2 k'_L0 k'_L1 k'_L2
theorem owc_Desk {W : World} {S : Nat → Prop} {L0 : List (D_Letter)} {L1 : List (D_Letter)} {L2 : List (D_Letter)} {x3 : Int} {x4 : Int} {cs : List Value} (h : R_Desk.ow W S (L0, L1, L2, x3, x4) cs) : ∃ a0 c0 a1 c1 a2 c2, cs = [.slice a0 L0.length c0, .slice a1 L1.length c1, .slice a2 L2.length c2, .int .i64 x3, .int .i64 x4] ∧ R_Desk.ow W S (L0, L1, L2, x3, x4) [.slice a0 L0.length c0, .slice a1 L1.length c1, .slice a2 L2.length c2, .int .i64 x3, .int .i64 x4] := by
  have h0 := h
  obtain ⟨a0, c0, a1, c1, a2, c2, T0, T1, T2, rfl, _⟩ := ow_Desk h
  exact ⟨a0, c0, a1, c1, a2, c2, rfl, h0⟩
theorem rdc_Desk {W : World} {B : Nat} {L0 : List (D_Letter)} {L1 : List (D_Letter)} {L2 : List (D_Letter)} {x3 : Int} {x4 : Int} {cs : List Value} (h : R_Desk.rd W B (L0, L1, L2, x3, x4) cs) : ∃ a0 c0 a1 c1 a2 c2, cs = [.slice a0 L0.length c0, .slice a1 L1.length c1, .slice a2 L2.length c2, .int .i64 x3, .int .i64 x4] ∧ R_Desk.rd W B (L0, L1, L2, x3, x4) [.slice a0 L0.length c0, .slice a1 L1.length c1, .slice a2 L2.length c2, .int .i64 x3, .int .i64 x4] := by
  have h0 := h
  obtain ⟨a0, c0, a1, c1, a2, c2, rfl, _⟩ := rd_Desk h
  exact ⟨a0, c0, a1, c1, a2, c2, rfl, h0⟩
theorem cvd_Desk {L0 : List (D_Letter)} {L1 : List (D_Letter)} {L2 : List (D_Letter)} {x3 : Int} {x4 : Int} : R_Desk.cv (L0, L1, L2, x3, x4) = sumL (R_Letter).cm L0 + sumL (R_Letter).cm L1 + sumL (R_Letter).cm L2 := by
  simp only [R_Desk, Pr, Sl, I, Bo, atom]; omega
set_option maxRecDepth 100000 in
theorem gmark_Desk {d : D_Desk} {cs : List Value} {W : World} {S : Nat → Prop} {k : Int} (h0 : 0 ≤ k) (h1 : k + (R_Desk.cv d : Nat) ≤ 4611686018427387904) (hS : ∀ q, S q → q < W.heap.size) (h : R_Desk.ow W S d cs) : Calls Try.prog 31 #[.agg cs.toArray, .int .i64 k] W (MarkG R_Desk d cs S k W) := by
  obtain ⟨L0, L1, L2, x3, x4⟩ := d
  obtain ⟨a0, c0, a1, c1, a2, c2, T0, T1, T2, rfl, hs0, hs1, hs2, hd0_1, hd0_2, hd1_2, k_L0, k_L1, k_L2⟩ := ow_Desk h
  have hcv := cvd_Desk (L0 := L0) (L1 := L1) (L2 := L2) (x3 := x3) (x4 := x4)
  refine (mark_Desk h0 (by rw [hcv] at h1; omega) (fun q hq => hS q (hs0 q hq)) (fun q hq => hS q (hs1 q hq)) (fun q hq => hS q (hs2 q hq)) (fun q hi hj => hd0_1 q hi hj) (fun q hi hj => hd0_2 q hi hj) (fun q hi hj => hd1_2 q hi hj) k_L0 k_L1 k_L2).mono fun e w' hh => ?_
  obtain ⟨z0, z1, z2, y0, y1, y2, rfl, ⟨hl0, hm0, hz0, ho0⟩, ⟨hl1, hm1, hz1, ho1⟩, ⟨hl2, hm2, hz2, ho2⟩, hoff⟩ := hh
  have hmk := mkow_Desk (x3 := x3) (x4 := x4) hs0 hs1 hs2 hd0_1 hd0_2 hd1_2 ho0 ho1 ho2
  simp only [hl0, hl1, hl2] at hmk
  exact ⟨(y0, y1, y2, x3, x4), _, rfl, ⟨z0, hm0, ⟨z1, hm1, ⟨z2, hm2, ⟨z2, rfl, rfl⟩⟩⟩⟩, by rw [hcv]; omega, hmk, hoff.more fun q hq => by rcases hq with hq | hq | hq <;> first | exact hs0 q hq | exact hs1 q hq | exact hs2 q hq⟩
theorem owc_DeskStep {W : World} {S : Nat → Prop} {L0 : List (D_Letter)} {L1 : List (D_Letter)} {L2 : List (D_Letter)} {x3 : Int} {x4 : Int} {x5 : Int} {cs : List Value} (h : R_DeskStep.ow W S ((L0, L1, L2, x3, x4), x5) cs) : ∃ a0 c0 a1 c1 a2 c2, cs = [.slice a0 L0.length c0, .slice a1 L1.length c1, .slice a2 L2.length c2, .int .i64 x3, .int .i64 x4, .int .i64 x5] ∧ R_DeskStep.ow W S ((L0, L1, L2, x3, x4), x5) [.slice a0 L0.length c0, .slice a1 L1.length c1, .slice a2 L2.length c2, .int .i64 x3, .int .i64 x4, .int .i64 x5] := by
  have h0 := h
  obtain ⟨a0, c0, a1, c1, a2, c2, T0, T1, T2, rfl, _⟩ := ow_DeskStep h
  exact ⟨a0, c0, a1, c1, a2, c2, rfl, h0⟩
theorem rdc_DeskStep {W : World} {B : Nat} {L0 : List (D_Letter)} {L1 : List (D_Letter)} {L2 : List (D_Letter)} {x3 : Int} {x4 : Int} {x5 : Int} {cs : List Value} (h : R_DeskStep.rd W B ((L0, L1, L2, x3, x4), x5) cs) : ∃ a0 c0 a1 c1 a2 c2, cs = [.slice a0 L0.length c0, .slice a1 L1.length c1, .slice a2 L2.length c2, .int .i64 x3, .int .i64 x4, .int .i64 x5] ∧ R_DeskStep.rd W B ((L0, L1, L2, x3, x4), x5) [.slice a0 L0.length c0, .slice a1 L1.length c1, .slice a2 L2.length c2, .int .i64 x3, .int .i64 x4, .int .i64 x5] := by
  have h0 := h
  obtain ⟨a0, c0, a1, c1, a2, c2, rfl, _⟩ := rd_DeskStep h
  exact ⟨a0, c0, a1, c1, a2, c2, rfl, h0⟩
theorem cvd_DeskStep {L0 : List (D_Letter)} {L1 : List (D_Letter)} {L2 : List (D_Letter)} {x3 : Int} {x4 : Int} {x5 : Int} : R_DeskStep.cv ((L0, L1, L2, x3, x4), x5) = sumL (R_Letter).cm L0 + sumL (R_Letter).cm L1 + sumL (R_Letter).cm L2 := by
  simp only [R_DeskStep, R_Desk, Pr, Sl, I, Bo, atom]; omega
theorem geq_Int64S {L : List (Int)} {v v' : Value} {W : World} (h : (Sl I).rd W W.heap.size L [v]) (h' : (Sl I).rd W W.heap.size L [v']) : Calls Try.prog 30 #[v, v'] W (IsB true W) := by
  obtain ⟨a, cap, he, k⟩ := h; cases he
  obtain ⟨a', cap', he, k'⟩ := h'; cases he
  exact eq_Int64S k k'
theorem gmark_Int64S {L : List (Int)} {v : Value} {W : World} {S : Nat → Prop} {k : Int} (h0 : 0 ≤ k) (h1 : k + ((Sl I).cv L : Nat) ≤ 4611686018427387904) (hS : ∀ q, S q → q < W.heap.size) (h : (Sl I).ow W S L [v]) : Calls Try.prog 32 #[v, .int .i64 k] W (MarkG (Sl I) L [v] S k W) := by
  obtain ⟨a, cap, he, ho⟩ := h; cases he
  refine (mark_Int64S h0 h1 hS ho).mono fun e w' hh => ?_
  obtain ⟨y, z, rfl, hl, hm, hz, ho', hoff⟩ := markR_elim hh
  exact ⟨y, z, rfl, hm, hz, ⟨a, cap, by rw [hl], ho'⟩, hoff⟩
theorem gheld_Int64S {L : List (Int)} {v : Value} {W : World} {k z : Int} (h0 : 0 ≤ k) (h1 : z ≤ 4611686018427387904) (hm : (Sl I).mv L k z) (h : (Sl I).rd W W.heap.size L [v]) : Calls Try.prog 33 #[v, .int .i64 k] W (HeldC z W) := by
  obtain ⟨a, cap, he, q⟩ := h; cases he
  exact held_Int64S h0 h1 hm q

end Go.Proofs.Ytknifggpodhhdaa.RepC
