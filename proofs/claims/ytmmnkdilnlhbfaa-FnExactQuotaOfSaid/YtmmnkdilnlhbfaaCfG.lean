/- The laws' data: contracts. -/
import Derived.Test.YtmmnkdilnlhbfaaCfM
import Derived.Test.YtmmnkdilnlhbfaaGen
namespace Go.Proofs.Ytmmnkdilnlhbfaa.RepC
open Go.RowKit RowC ValC
set_option linter.unusedVariables false
set_option linter.unusedSimpArgs false

theorem gsz_Config {d : D_Config} {cs : List Value} {W : World} {l : Int} (h0 : 0 ≤ l) (h1 : l ≤ 1048576) (h : R_Config.rd W W.heap.size d cs) : Calls Try.prog 9 #[.agg cs.toArray, .int .i64 l] W (SzC l (R_Config.sz d) W) := by
  obtain ⟨L0, L1, L2, x3⟩ := d
  obtain ⟨a0, c0, a1, c1, a2, c2, rfl, k_L0, k_L1, k_L2⟩ := rd_Config h
  exact sz_Config h0 h1 k_L0 k_L1 k_L2
theorem gto_Config {d : D_Config} {cs : List Value} {W : World} (hsz : R_Config.sz d ≤ 1048576) (h : R_Config.rd W W.heap.size d cs) : Calls Try.prog 11 #[.agg cs.toArray] W (NewV R_Config d W) := by
  obtain ⟨L0, L1, L2, x3⟩ := d
  obtain ⟨a0, c0, a1, c1, a2, c2, rfl, k_L0, k_L1, k_L2⟩ := rd_Config h
  exact to_Config hsz k_L0 k_L1 k_L2
theorem geq_Config {d : D_Config} {cs cs' : List Value} {W : World} (h : R_Config.rd W W.heap.size d cs) (h' : R_Config.rd W W.heap.size d cs') : Calls Try.prog 15 #[.agg cs.toArray, .agg cs'.toArray] W (IsB true W) := by
  obtain ⟨L0, L1, L2, x3⟩ := d
  obtain ⟨a0, c0, a1, c1, a2, c2, rfl, k_L0, k_L1, k_L2⟩ := rd_Config h
  obtain ⟨a0', c0', a1', c1', a2', c2', rfl, k'_L0, k'_L1, k'_L2⟩ := rd_Config h'
  exact eq_Config k_L0 k_L1 k_L2 k'_L0 k'_L1 k'_L2
theorem owc_Config {W : World} {S : Nat → Prop} {L0 : List (List (D_Label))} {L1 : List (D_Pair)} {L2 : List (D_Quota)} {x3 : Int} {cs : List Value} (h : R_Config.ow W S (L0, L1, L2, x3) cs) : ∃ a0 c0 a1 c1 a2 c2, cs = [.slice a0 L0.length c0, .slice a1 L1.length c1, .slice a2 L2.length c2, .int .i64 x3] ∧ R_Config.ow W S (L0, L1, L2, x3) [.slice a0 L0.length c0, .slice a1 L1.length c1, .slice a2 L2.length c2, .int .i64 x3] := by
  have h0 := h
  obtain ⟨a0, c0, a1, c1, a2, c2, T0, T1, T2, rfl, _⟩ := ow_Config h
  exact ⟨a0, c0, a1, c1, a2, c2, rfl, h0⟩
theorem rdc_Config {W : World} {B : Nat} {L0 : List (List (D_Label))} {L1 : List (D_Pair)} {L2 : List (D_Quota)} {x3 : Int} {cs : List Value} (h : R_Config.rd W B (L0, L1, L2, x3) cs) : ∃ a0 c0 a1 c1 a2 c2, cs = [.slice a0 L0.length c0, .slice a1 L1.length c1, .slice a2 L2.length c2, .int .i64 x3] ∧ R_Config.rd W B (L0, L1, L2, x3) [.slice a0 L0.length c0, .slice a1 L1.length c1, .slice a2 L2.length c2, .int .i64 x3] := by
  have h0 := h
  obtain ⟨a0, c0, a1, c1, a2, c2, rfl, _⟩ := rd_Config h
  exact ⟨a0, c0, a1, c1, a2, c2, rfl, h0⟩
theorem cvd_Config {L0 : List (List (D_Label))} {L1 : List (D_Pair)} {L2 : List (D_Quota)} {x3 : Int} : R_Config.cv (L0, L1, L2, x3) = sumL ((Sl R_Label)).cm L0 + sumL (R_Pair).cm L1 + sumL (R_Quota).cm L2 := by
  simp only [R_Config, Pr, Sl, I, Bo, atom]; omega
set_option maxRecDepth 100000 in
theorem gmark_Config {d : D_Config} {cs : List Value} {W : World} {S : Nat → Prop} {k : Int} (h0 : 0 ≤ k) (h1 : k + (R_Config.cv d : Nat) ≤ 4611686018427387904) (hS : ∀ q, S q → q < W.heap.size) (h : R_Config.ow W S d cs) : Calls Try.prog 16 #[.agg cs.toArray, .int .i64 k] W (MarkG R_Config d cs S k W) := by
  obtain ⟨L0, L1, L2, x3⟩ := d
  obtain ⟨a0, c0, a1, c1, a2, c2, T0, T1, T2, rfl, hs0, hs1, hs2, hd0_1, hd0_2, hd1_2, k_L0, k_L1, k_L2⟩ := ow_Config h
  have hcv := cvd_Config (L0 := L0) (L1 := L1) (L2 := L2) (x3 := x3)
  refine (mark_Config h0 (by rw [hcv] at h1; omega) (fun q hq => hS q (hs0 q hq)) (fun q hq => hS q (hs1 q hq)) (fun q hq => hS q (hs2 q hq)) (fun q hi hj => hd0_1 q hi hj) (fun q hi hj => hd0_2 q hi hj) (fun q hi hj => hd1_2 q hi hj) k_L0 k_L1 k_L2).mono fun e w' hh => ?_
  obtain ⟨z0, z1, z2, y0, y1, y2, rfl, ⟨hl0, hm0, hz0, ho0⟩, ⟨hl1, hm1, hz1, ho1⟩, ⟨hl2, hm2, hz2, ho2⟩, hoff⟩ := hh
  have hmk := mkow_Config (x3 := x3) hs0 hs1 hs2 hd0_1 hd0_2 hd1_2 ho0 ho1 ho2
  simp only [hl0, hl1, hl2] at hmk
  exact ⟨(y0, y1, y2, x3), _, rfl, ⟨z0, hm0, ⟨z1, hm1, ⟨z2, hm2, rfl⟩⟩⟩, by rw [hcv]; omega, hmk, hoff.more fun q hq => by rcases hq with hq | hq | hq <;> first | exact hs0 q hq | exact hs1 q hq | exact hs2 q hq⟩
theorem owc_ConfigOut {W : World} {S : Nat → Prop} {L0 : List (List (D_Label))} {L1 : List (D_Pair)} {L2 : List (D_Quota)} {x3 : Int} {x4 : Int} {x5 : Int} {cs : List Value} (h : R_ConfigOut.ow W S ((L0, L1, L2, x3), x4, x5) cs) : ∃ a0 c0 a1 c1 a2 c2, cs = [.slice a0 L0.length c0, .slice a1 L1.length c1, .slice a2 L2.length c2, .int .i64 x3, .int .i64 x4, .int .i64 x5] ∧ R_ConfigOut.ow W S ((L0, L1, L2, x3), x4, x5) [.slice a0 L0.length c0, .slice a1 L1.length c1, .slice a2 L2.length c2, .int .i64 x3, .int .i64 x4, .int .i64 x5] := by
  have h0 := h
  obtain ⟨a0, c0, a1, c1, a2, c2, T0, T1, T2, rfl, _⟩ := ow_ConfigOut h
  exact ⟨a0, c0, a1, c1, a2, c2, rfl, h0⟩
theorem rdc_ConfigOut {W : World} {B : Nat} {L0 : List (List (D_Label))} {L1 : List (D_Pair)} {L2 : List (D_Quota)} {x3 : Int} {x4 : Int} {x5 : Int} {cs : List Value} (h : R_ConfigOut.rd W B ((L0, L1, L2, x3), x4, x5) cs) : ∃ a0 c0 a1 c1 a2 c2, cs = [.slice a0 L0.length c0, .slice a1 L1.length c1, .slice a2 L2.length c2, .int .i64 x3, .int .i64 x4, .int .i64 x5] ∧ R_ConfigOut.rd W B ((L0, L1, L2, x3), x4, x5) [.slice a0 L0.length c0, .slice a1 L1.length c1, .slice a2 L2.length c2, .int .i64 x3, .int .i64 x4, .int .i64 x5] := by
  have h0 := h
  obtain ⟨a0, c0, a1, c1, a2, c2, rfl, _⟩ := rd_ConfigOut h
  exact ⟨a0, c0, a1, c1, a2, c2, rfl, h0⟩
theorem cvd_ConfigOut {L0 : List (List (D_Label))} {L1 : List (D_Pair)} {L2 : List (D_Quota)} {x3 : Int} {x4 : Int} {x5 : Int} : R_ConfigOut.cv ((L0, L1, L2, x3), x4, x5) = sumL ((Sl R_Label)).cm L0 + sumL (R_Pair).cm L1 + sumL (R_Quota).cm L2 := by
  simp only [R_ConfigOut, R_Config, Pr, Sl, I, Bo, atom]; omega
theorem gsz_Int64S {L : List (Int)} {v : Value} {W : World} {l : Int} (h0 : 0 ≤ l) (h1 : l ≤ 1048576) (h : (Sl I).rd W W.heap.size L [v]) : Calls Try.prog 70 #[v, .int .i64 l] W (SzC l ((Sl I).sz L) W) := by
  obtain ⟨a, cap, he, k⟩ := h; cases he
  exact sz_Int64S h0 h1 k
theorem gto_Int64S {L : List (Int)} {v : Value} {W : World} (hsz : (Sl I).sz L ≤ 1048576) (h : (Sl I).rd W W.heap.size L [v]) : Calls Try.prog 72 #[v] W (NewS I L W) := by
  obtain ⟨a, cap, he, k⟩ := h; cases he
  exact to_Int64S hsz k
theorem geq_Int64S {L : List (Int)} {v v' : Value} {W : World} (h : (Sl I).rd W W.heap.size L [v]) (h' : (Sl I).rd W W.heap.size L [v']) : Calls Try.prog 14 #[v, v'] W (IsB true W) := by
  obtain ⟨a, cap, he, k⟩ := h; cases he
  obtain ⟨a', cap', he, k'⟩ := h'; cases he
  exact eq_Int64S k k'
theorem gmark_Int64S {L : List (Int)} {v : Value} {W : World} {S : Nat → Prop} {k : Int} (h0 : 0 ≤ k) (h1 : k + ((Sl I).cv L : Nat) ≤ 4611686018427387904) (hS : ∀ q, S q → q < W.heap.size) (h : (Sl I).ow W S L [v]) : Calls Try.prog 17 #[v, .int .i64 k] W (MarkG (Sl I) L [v] S k W) := by
  obtain ⟨a, cap, he, ho⟩ := h; cases he
  refine (mark_Int64S h0 h1 hS ho).mono fun e w' hh => ?_
  obtain ⟨y, z, rfl, hl, hm, hz, ho', hoff⟩ := markR_elim hh
  exact ⟨y, z, rfl, hm, hz, ⟨a, cap, by rw [hl], ho'⟩, hoff⟩
theorem gheld_Int64S {L : List (Int)} {v : Value} {W : World} {k z : Int} (h0 : 0 ≤ k) (h1 : z ≤ 4611686018427387904) (hm : (Sl I).mv L k z) (h : (Sl I).rd W W.heap.size L [v]) : Calls Try.prog 18 #[v, .int .i64 k] W (HeldC z W) := by
  obtain ⟨a, cap, he, q⟩ := h; cases he
  exact held_Int64S h0 h1 hm q

theorem gsz_LabelS {L : List (D_Label)} {v : Value} {W : World} {l : Int} (h0 : 0 ≤ l) (h1 : l ≤ 1048576) (h : (Sl R_Label).rd W W.heap.size L [v]) : Calls Try.prog 74 #[v, .int .i64 l] W (SzC l ((Sl R_Label).sz L) W) := by
  obtain ⟨a, cap, he, k⟩ := h; cases he
  exact sz_LabelS h0 h1 k
theorem gto_LabelS {L : List (D_Label)} {v : Value} {W : World} (hsz : (Sl R_Label).sz L ≤ 1048576) (h : (Sl R_Label).rd W W.heap.size L [v]) : Calls Try.prog 80 #[v] W (NewS R_Label L W) := by
  obtain ⟨a, cap, he, k⟩ := h; cases he
  exact to_LabelS hsz k
theorem geq_LabelS {L : List (D_Label)} {v v' : Value} {W : World} (h : (Sl R_Label).rd W W.heap.size L [v]) (h' : (Sl R_Label).rd W W.heap.size L [v']) : Calls Try.prog 89 #[v, v'] W (IsB true W) := by
  obtain ⟨a, cap, he, k⟩ := h; cases he
  obtain ⟨a', cap', he, k'⟩ := h'; cases he
  exact eq_LabelS k k'
theorem gmark_LabelS {L : List (D_Label)} {v : Value} {W : World} {S : Nat → Prop} {k : Int} (h0 : 0 ≤ k) (h1 : k + ((Sl R_Label).cv L : Nat) ≤ 4611686018427387904) (hS : ∀ q, S q → q < W.heap.size) (h : (Sl R_Label).ow W S L [v]) : Calls Try.prog 92 #[v, .int .i64 k] W (MarkG (Sl R_Label) L [v] S k W) := by
  obtain ⟨a, cap, he, ho⟩ := h; cases he
  refine (mark_LabelS h0 h1 hS ho).mono fun e w' hh => ?_
  obtain ⟨y, z, rfl, hl, hm, hz, ho', hoff⟩ := markR_elim hh
  exact ⟨y, z, rfl, hm, hz, ⟨a, cap, by rw [hl], ho'⟩, hoff⟩
end Go.Proofs.Ytmmnkdilnlhbfaa.RepC
