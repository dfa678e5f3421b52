/- The laws' data: contracts. -/
import Derived.Test.YtknifggpodhhdaaDoorDeskM
import Derived.Test.YtknifggpodhhdaaDoorGen
namespace Go.Proofs.YtknifggpodhhdaaDoor.RepC
open Go.RowKit RowC ValC
set_option linter.unusedVariables false
set_option linter.unusedSimpArgs false

theorem gsz_Desk {d : D_Desk} {cs : List Value} {W : World} {l : Int} (h0 : 0 ≤ l) (h1 : l ≤ 1048576) (h : R_Desk.rd W W.heap.size d cs) : Calls Tryd.prog 40 #[.agg cs.toArray, .int .i64 l] W (SzC l (R_Desk.sz d) W) := by
  obtain ⟨L0, L1, L2, x3, x4⟩ := d
  obtain ⟨a0, c0, a1, c1, a2, c2, rfl, k_L0, k_L1, k_L2⟩ := rd_Desk h
  exact sz_Desk h0 h1 k_L0 k_L1 k_L2
theorem gto_Desk {d : D_Desk} {cs : List Value} {W : World} (hsz : R_Desk.sz d ≤ 1048576) (h : R_Desk.rd W W.heap.size d cs) : Calls Tryd.prog 41 #[.agg cs.toArray] W (NewV R_Desk d W) := by
  obtain ⟨L0, L1, L2, x3, x4⟩ := d
  obtain ⟨a0, c0, a1, c1, a2, c2, rfl, k_L0, k_L1, k_L2⟩ := rd_Desk h
  exact to_Desk hsz k_L0 k_L1 k_L2
theorem geq_Desk {d : D_Desk} {cs cs' : List Value} {W : World} (h : R_Desk.rd W W.heap.size d cs) (h' : R_Desk.rd W W.heap.size d cs') : Calls Tryd.prog 44 #[.agg cs.toArray, .agg cs'.toArray] W (IsB true W) := by
  obtain ⟨L0, L1, L2, x3, x4⟩ := d
  obtain ⟨a0, c0, a1, c1, a2, c2, rfl, k_L0, k_L1, k_L2⟩ := rd_Desk h
  obtain ⟨a0', c0', a1', c1', a2', c2', rfl, k'_L0, k'_L1, k'_L2⟩ := rd_Desk h'
  exact eq_Desk k_L0 k_L1 k_L2 k'_L0 k'_L1 k'_L2
theorem owc_Desk {W : World} {S : Nat → Prop} {L0 : List (D_Letter)} {L1 : List (D_Letter)} {L2 : List (D_Letter)} {x3 : Int} {x4 : Int} {cs : List Value} (h : R_Desk.ow W S (L0, L1, L2, x3, x4) cs) : ∃ a0 c0 a1 c1 a2 c2, cs = [.slice a0 L0.length c0, .slice a1 L1.length c1, .slice a2 L2.length c2, .int .i64 x3, .int .i64 x4] ∧ R_Desk.ow W S (L0, L1, L2, x3, x4) [.slice a0 L0.length c0, .slice a1 L1.length c1, .slice a2 L2.length c2, .int .i64 x3, .int .i64 x4] := by
  have h0 := h
  obtain ⟨a0, c0, a1, c1, a2, c2, T0, T1, T2, rfl, _⟩ := ow_Desk h
  exact ⟨a0, c0, a1, c1, a2, c2, rfl, h0⟩
theorem rdc_Desk {W : World} {B : Nat} {L0 : List (D_Letter)} {L1 : List (D_Letter)} {L2 : List (D_Letter)} {x3 : Int} {x4 : Int} {cs : List Value} (h : R_Desk.rd W B (L0, L1, L2, x3, x4) cs) : ∃ a0 c0 a1 c1 a2 c2, cs = [.slice a0 L0.length c0, .slice a1 L1.length c1, .slice a2 L2.length c2, .int .i64 x3, .int .i64 x4] ∧ R_Desk.rd W B (L0, L1, L2, x3, x4) [.slice a0 L0.length c0, .slice a1 L1.length c1, .slice a2 L2.length c2, .int .i64 x3, .int .i64 x4] := by
  have h0 := h
  obtain ⟨a0, c0, a1, c1, a2, c2, rfl, _⟩ := rd_Desk h
  exact ⟨a0, c0, a1, c1, a2, c2, rfl, h0⟩
theorem cvd_Desk {L0 : List (D_Letter)} {L1 : List (D_Letter)} {L2 : List (D_Letter)} {x3 : Int} {x4 : Int} : R_Desk.cv (L0, L1, L2, x3, x4) = sumL (R_Letter).cm L0 + sumL (R_Letter).cm L1 + sumL (R_Letter).cm L2 := by
  simp only [R_Desk, Pr, Sl, I, Bo, atom]; omega
set_option maxRecDepth 100000 in
theorem gmark_Desk {d : D_Desk} {cs : List Value} {W : World} {S : Nat → Prop} {k : Int} (h0 : 0 ≤ k) (h1 : k + (R_Desk.cv d : Nat) ≤ 4611686018427387904) (hS : ∀ q, S q → q < W.heap.size) (h : R_Desk.ow W S d cs) : Calls Tryd.prog 45 #[.agg cs.toArray, .int .i64 k] W (MarkG R_Desk d cs S k W) := by
  obtain ⟨L0, L1, L2, x3, x4⟩ := d
  obtain ⟨a0, c0, a1, c1, a2, c2, T0, T1, T2, rfl, hs0, hs1, hs2, hd0_1, hd0_2, hd1_2, k_L0, k_L1, k_L2⟩ := ow_Desk h
  have hcv := cvd_Desk (L0 := L0) (L1 := L1) (L2 := L2) (x3 := x3) (x4 := x4)
  refine (mark_Desk h0 (by rw [hcv] at h1; omega) (fun q hq => hS q (hs0 q hq)) (fun q hq => hS q (hs1 q hq)) (fun q hq => hS q (hs2 q hq)) (fun q hi hj => hd0_1 q hi hj) (fun q hi hj => hd0_2 q hi hj) (fun q hi hj => hd1_2 q hi hj) k_L0 k_L1 k_L2).mono fun e w' hh => ?_
  obtain ⟨z0, z1, z2, y0, y1, y2, rfl, ⟨hl0, hm0, hz0, ho0⟩, ⟨hl1, hm1, hz1, ho1⟩, ⟨hl2, hm2, hz2, ho2⟩, hoff⟩ := hh
  have hmk := mkow_Desk (x3 := x3) (x4 := x4) hs0 hs1 hs2 hd0_1 hd0_2 hd1_2 ho0 ho1 ho2
  simp only [hl0, hl1, hl2] at hmk
  exact ⟨(y0, y1, y2, x3, x4), _, rfl, ⟨z0, hm0, ⟨z1, hm1, ⟨z2, hm2, ⟨z2, rfl, rfl⟩⟩⟩⟩, by rw [hcv]; omega, hmk, hoff.more fun q hq => by rcases hq with hq | hq | hq <;> first | exact hs0 q hq | exact hs1 q hq | exact hs2 q hq⟩
set_option maxRecDepth 100000 in
theorem gheld_Desk {d : D_Desk} {cs : List Value} {W : World} {k z : Int} (h0 : 0 ≤ k) (h1 : z ≤ 4611686018427387904) (hm : R_Desk.mv d k z) (h : R_Desk.rd W W.heap.size d cs) : Calls Tryd.prog 81 #[.agg cs.toArray, .int .i64 k] W (HeldC z W) := by
  obtain ⟨L0, L1, L2, x3, x4⟩ := d
  obtain ⟨a0, c0, a1, c1, a2, c2, rfl, k_L0, k_L1, k_L2⟩ := rd_Desk h
  obtain ⟨_, hm0, ⟨_, hm1, ⟨_, hm2, ⟨_, rfl, rfl⟩⟩⟩⟩ := hm
  exact held_Desk h0 h1 hm0 hm1 hm2 k_L0 k_L1 k_L2

theorem geq_DeskStep {d : D_DeskStep} {cs cs' : List Value} {W : World} (h : R_DeskStep.rd W W.heap.size d cs) (h' : R_DeskStep.rd W W.heap.size d cs') : Calls Tryd.prog 43 #[.agg cs.toArray, .agg cs'.toArray] W (IsB true W) := by
  obtain ⟨⟨L0, L1, L2, x3, x4⟩, x5⟩ := d
  obtain ⟨a0, c0, a1, c1, a2, c2, rfl, k_L0, k_L1, k_L2⟩ := rd_DeskStep h
  obtain ⟨a0', c0', a1', c1', a2', c2', rfl, k'_L0, k'_L1, k'_L2⟩ := rd_DeskStep h'
  exact eq_DeskStep k_L0 k_L1 k_L2 k'_L0 k'_L1 k'_L2
theorem owc_DeskStep {W : World} {S : Nat → Prop} {L0 : List (D_Letter)} {L1 : List (D_Letter)} {L2 : List (D_Letter)} {x3 : Int} {x4 : Int} {x5 : Int} {cs : List Value} (h : R_DeskStep.ow W S ((L0, L1, L2, x3, x4), x5) cs) : ∃ a0 c0 a1 c1 a2 c2, cs = [.slice a0 L0.length c0, .slice a1 L1.length c1, .slice a2 L2.length c2, .int .i64 x3, .int .i64 x4, .int .i64 x5] ∧ R_DeskStep.ow W S ((L0, L1, L2, x3, x4), x5) [.slice a0 L0.length c0, .slice a1 L1.length c1, .slice a2 L2.length c2, .int .i64 x3, .int .i64 x4, .int .i64 x5] := by
  have h0 := h
  obtain ⟨a0, c0, a1, c1, a2, c2, T0, T1, T2, rfl, _⟩ := ow_DeskStep h
  exact ⟨a0, c0, a1, c1, a2, c2, rfl, h0⟩
theorem rdc_DeskStep {W : World} {B : Nat} {L0 : List (D_Letter)} {L1 : List (D_Letter)} {L2 : List (D_Letter)} {x3 : Int} {x4 : Int} {x5 : Int} {cs : List Value} (h : R_DeskStep.rd W B ((L0, L1, L2, x3, x4), x5) cs) : ∃ a0 c0 a1 c1 a2 c2, cs = [.slice a0 L0.length c0, .slice a1 L1.length c1, .slice a2 L2.length c2, .int .i64 x3, .int .i64 x4, .int .i64 x5] ∧ R_DeskStep.rd W B ((L0, L1, L2, x3, x4), x5) [.slice a0 L0.length c0, .slice a1 L1.length c1, .slice a2 L2.length c2, .int .i64 x3, .int .i64 x4, .int .i64 x5] := by
  have h0 := h
  obtain ⟨a0, c0, a1, c1, a2, c2, rfl, _⟩ := rd_DeskStep h
  exact ⟨a0, c0, a1, c1, a2, c2, rfl, h0⟩
theorem cvd_DeskStep {L0 : List (D_Letter)} {L1 : List (D_Letter)} {L2 : List (D_Letter)} {x3 : Int} {x4 : Int} {x5 : Int} : R_DeskStep.cv ((L0, L1, L2, x3, x4), x5) = sumL (R_Letter).cm L0 + sumL (R_Letter).cm L1 + sumL (R_Letter).cm L2 := by
  simp only [R_DeskStep, R_Desk, Pr, Sl, I, Bo, atom]; omega
set_option maxRecDepth 100000 in
theorem gmark_DeskStep {d : D_DeskStep} {cs : List Value} {W : World} {S : Nat → Prop} {k : Int} (h0 : 0 ≤ k) (h1 : k + (R_DeskStep.cv d : Nat) ≤ 4611686018427387904) (hS : ∀ q, S q → q < W.heap.size) (h : R_DeskStep.ow W S d cs) : Calls Tryd.prog 46 #[.agg cs.toArray, .int .i64 k] W (MarkG R_DeskStep d cs S k W) := by
  obtain ⟨⟨L0, L1, L2, x3, x4⟩, x5⟩ := d
  obtain ⟨a0, c0, a1, c1, a2, c2, T0, T1, T2, rfl, hs0, hs1, hs2, hd0_1, hd0_2, hd1_2, k_L0, k_L1, k_L2⟩ := ow_DeskStep h
  have hcv := cvd_DeskStep (L0 := L0) (L1 := L1) (L2 := L2) (x3 := x3) (x4 := x4) (x5 := x5)
  refine (mark_DeskStep h0 (by rw [hcv] at h1; omega) (fun q hq => hS q (hs0 q hq)) (fun q hq => hS q (hs1 q hq)) (fun q hq => hS q (hs2 q hq)) (fun q hi hj => hd0_1 q hi hj) (fun q hi hj => hd0_2 q hi hj) (fun q hi hj => hd1_2 q hi hj) k_L0 k_L1 k_L2).mono fun e w' hh => ?_
  obtain ⟨z0, z1, z2, y0, y1, y2, rfl, ⟨hl0, hm0, hz0, ho0⟩, ⟨hl1, hm1, hz1, ho1⟩, ⟨hl2, hm2, hz2, ho2⟩, hoff⟩ := hh
  have hmk := mkow_DeskStep (x3 := x3) (x4 := x4) (x5 := x5) hs0 hs1 hs2 hd0_1 hd0_2 hd1_2 ho0 ho1 ho2
  simp only [hl0, hl1, hl2] at hmk
  exact ⟨((y0, y1, y2, x3, x4), x5), _, rfl, ⟨z2, ⟨z0, hm0, ⟨z1, hm1, ⟨z2, hm2, ⟨z2, rfl, rfl⟩⟩⟩⟩, rfl⟩, by rw [hcv]; omega, hmk, hoff.more fun q hq => by rcases hq with hq | hq | hq <;> first | exact hs0 q hq | exact hs1 q hq | exact hs2 q hq⟩
set_option maxRecDepth 100000 in
theorem gheld_DeskStep {d : D_DeskStep} {cs : List Value} {W : World} {k z : Int} (h0 : 0 ≤ k) (h1 : z ≤ 4611686018427387904) (hm : R_DeskStep.mv d k z) (h : R_DeskStep.rd W W.heap.size d cs) : Calls Tryd.prog 47 #[.agg cs.toArray, .int .i64 k] W (HeldC z W) := by
  obtain ⟨⟨L0, L1, L2, x3, x4⟩, x5⟩ := d
  obtain ⟨a0, c0, a1, c1, a2, c2, rfl, k_L0, k_L1, k_L2⟩ := rd_DeskStep h
  obtain ⟨_, ⟨_, hm0, ⟨_, hm1, ⟨_, hm2, ⟨_, rfl, rfl⟩⟩⟩⟩, rfl⟩ := hm
  exact held_DeskStep h0 h1 hm0 hm1 hm2 k_L0 k_L1 k_L2

end Go.Proofs.YtknifggpodhhdaaDoor.RepC
