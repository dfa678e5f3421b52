/- Of this claim's texts the part 6: YaM YaG YbGv YaW3. -/
import Derived.Test.YtelhmacfljffhaaGreatPN5
section
namespace Go.Proofs.YtelhmacfljffhaaGreat.RepC
open Go.RowKit RowC ValC
set_option linter.unusedVariables false
set_option linter.unusedSimpArgs false
def MarkV_Yard (L0 : List (List (D_Label))) (L1 : List (D_Pair)) (L2 : List (D_Quota)) (x3 : Int) (L3 : List (D_Node)) (L4 : List (D_Task)) (L5 : List (D_Use)) (x7 : Int) (a0 : Option Addr) (c0 : Nat) (a1 : Option Addr) (c1 : Nat) (a2 : Option Addr) (c2 : Nat) (a3 : Option Addr) (c3 : Nat) (a4 : Option Addr) (c4 : Nat) (a5 : Option Addr) (c5 : Nat) (T0 : Nat → Prop) (T1 : Nat → Prop) (T2 : Nat → Prop) (T3 : Nat → Prop) (T4 : Nat → Prop) (T5 : Nat → Prop) (k : Int) (W : World) (e : Ending) (w' : World) : Prop := ∃ z0 z1 z2 z3 z4 z5 : Int, ∃ (y0 : List (List (D_Label))) (y1 : List (D_Pair)) (y2 : List (D_Quota)) (y3 : List (D_Node)) (y4 : List (D_Task)) (y5 : List (D_Use)), e = .returned (.int .i64 z5) ∧ (y0.length = L0.length ∧ mmL (Sl R_Label) y0 k z0 ∧ z0 = k + (sumL ((Sl R_Label)).cm L0 : Nat) ∧ OwSl (Sl R_Label) w' T0 y0 a0 c0) ∧ (y1.length = L1.length ∧ mmL R_Pair y1 z0 z1 ∧ z1 = z0 + (sumL (R_Pair).cm L1 : Nat) ∧ OwSl R_Pair w' T1 y1 a1 c1) ∧ (y2.length = L2.length ∧ mmL R_Quota y2 z1 z2 ∧ z2 = z1 + (sumL (R_Quota).cm L2 : Nat) ∧ OwSl R_Quota w' T2 y2 a2 c2) ∧ (y3.length = L3.length ∧ mmL R_Node y3 z2 z3 ∧ z3 = z2 + (sumL (R_Node).cm L3 : Nat) ∧ OwSl R_Node w' T3 y3 a3 c3) ∧ (y4.length = L4.length ∧ mmL R_Task y4 z3 z4 ∧ z4 = z3 + (sumL (R_Task).cm L4 : Nat) ∧ OwSl R_Task w' T4 y4 a4 c4) ∧ (y5.length = L5.length ∧ mmL R_Use y5 z4 z5 ∧ z5 = z4 + (sumL (R_Use).cm L5 : Nat) ∧ OwSl R_Use w' T5 y5 a5 c5) ∧ Off (fun q => T0 q ∨ T1 q ∨ T2 q ∨ T3 q ∨ T4 q ∨ T5 q) W w'
set_option maxRecDepth 100000 in
set_option maxHeartbeats 1600000 in
theorem mark_Yard {L0 : List (List (D_Label))} {L1 : List (D_Pair)} {L2 : List (D_Quota)} {x3 : Int} {L3 : List (D_Node)} {L4 : List (D_Task)} {L5 : List (D_Use)} {x7 : Int} {a0 : Option Addr} {c0 : Nat} {a1 : Option Addr} {c1 : Nat} {a2 : Option Addr} {c2 : Nat} {a3 : Option Addr} {c3 : Nat} {a4 : Option Addr} {c4 : Nat} {a5 : Option Addr} {c5 : Nat} {W : World} {T0 : Nat → Prop} {T1 : Nat → Prop} {T2 : Nat → Prop} {T3 : Nat → Prop} {T4 : Nat → Prop} {T5 : Nat → Prop} {k : Int} (h0 : 0 ≤ k) (h1 : k + (sumL ((Sl R_Label)).cm L0 : Nat) + (sumL (R_Pair).cm L1 : Nat) + (sumL (R_Quota).cm L2 : Nat) + (sumL (R_Node).cm L3 : Nat) + (sumL (R_Task).cm L4 : Nat) + (sumL (R_Use).cm L5 : Nat) ≤ 4611686018427387904) (hS0 : ∀ q, T0 q → q < W.heap.size) (hS1 : ∀ q, T1 q → q < W.heap.size) (hS2 : ∀ q, T2 q → q < W.heap.size) (hS3 : ∀ q, T3 q → q < W.heap.size) (hS4 : ∀ q, T4 q → q < W.heap.size) (hS5 : ∀ q, T5 q → q < W.heap.size) (hd0_1 : ∀ q, T0 q → T1 q → False) (hd0_2 : ∀ q, T0 q → T2 q → False) (hd0_3 : ∀ q, T0 q → T3 q → False) (hd0_4 : ∀ q, T0 q → T4 q → False) (hd0_5 : ∀ q, T0 q → T5 q → False) (hd1_2 : ∀ q, T1 q → T2 q → False) (hd1_3 : ∀ q, T1 q → T3 q → False) (hd1_4 : ∀ q, T1 q → T4 q → False) (hd1_5 : ∀ q, T1 q → T5 q → False) (hd2_3 : ∀ q, T2 q → T3 q → False) (hd2_4 : ∀ q, T2 q → T4 q → False) (hd2_5 : ∀ q, T2 q → T5 q → False) (hd3_4 : ∀ q, T3 q → T4 q → False) (hd3_5 : ∀ q, T3 q → T5 q → False) (hd4_5 : ∀ q, T4 q → T5 q → False) (h_L0 : OwSl (Sl R_Label) W T0 L0 a0 c0) (h_L1 : OwSl R_Pair W T1 L1 a1 c1) (h_L2 : OwSl R_Quota W T2 L2 a2 c2) (h_L3 : OwSl R_Node W T3 L3 a3 c3) (h_L4 : OwSl R_Task W T4 L4 a4 c4) (h_L5 : OwSl R_Use W T5 L5 a5 c5) : Calls Tryz.prog 62 #[.agg #[.slice a0 L0.length c0, .slice a1 L1.length c1, .slice a2 L2.length c2, .int .i64 x3, .slice a3 L3.length c3, .slice a4 L4.length c4, .slice a5 L5.length c5, .int .i64 x7], .int .i64 k] W (MarkV_Yard L0 L1 L2 x3 L3 L4 L5 x7 a0 c0 a1 c1 a2 c2 a3 c3 a4 c4 a5 c5 T0 T1 T2 T3 T4 T5 k W) := by
  have HOFF0 := Lib.hid (show Off (fun q => T0 q ∨ T1 q ∨ T2 q ∨ T3 q ∨ T4 q ∨ T5 q) W (W.alloc (.cells #[.slice a0 L0.length c0, .slice a1 L1.length c1, .slice a2 L2.length c2, .int .i64 x3, .slice a3 L3.length c3, .slice a4 L4.length c4, .slice a5 L5.length c5, .int .i64 x7] 43)) from (Off.refl _ _).alloc _)
  have hP := Blk.new W 43 #[.slice a0 L0.length c0, .slice a1 L1.length c1, .slice a2 L2.length c2, .int .i64 x3, .slice a3 L3.length c3, .slice a4 L4.length c4, .slice a5 L5.length c5, .int .i64 x7]
  have HP0 := Lib.hid hP
  have hz0 : W.heap.size < (W.alloc (.cells #[.slice a0 L0.length c0, .slice a1 L1.length c1, .slice a2 L2.length c2, .int .i64 x3, .slice a3 L3.length c3, .slice a4 L4.length c4, .slice a5 L5.length c5, .int .i64 x7] 43)).heap.size := by simp
  clear hP
  have K_L0 := Lib.hid (OwSl.keep (Sl_ok R_Label_ok) (W' := W.alloc (.cells #[.slice a0 L0.length c0, .slice a1 L1.length c1, .slice a2 L2.length c2, .int .i64 x3, .slice a3 L3.length c3, .slice a4 L4.length c4, .slice a5 L5.length c5, .int .i64 x7] 43)) h_L0 (fun q hq => Below.heap_alloc _ _ _ (hS0 q hq)))
  have HS0 := Lib.hid hS0
  have K_L1 := Lib.hid (OwSl.keep R_Pair_ok (W' := W.alloc (.cells #[.slice a0 L0.length c0, .slice a1 L1.length c1, .slice a2 L2.length c2, .int .i64 x3, .slice a3 L3.length c3, .slice a4 L4.length c4, .slice a5 L5.length c5, .int .i64 x7] 43)) h_L1 (fun q hq => Below.heap_alloc _ _ _ (hS1 q hq)))
  have HS1 := Lib.hid hS1
  have K_L2 := Lib.hid (OwSl.keep R_Quota_ok (W' := W.alloc (.cells #[.slice a0 L0.length c0, .slice a1 L1.length c1, .slice a2 L2.length c2, .int .i64 x3, .slice a3 L3.length c3, .slice a4 L4.length c4, .slice a5 L5.length c5, .int .i64 x7] 43)) h_L2 (fun q hq => Below.heap_alloc _ _ _ (hS2 q hq)))
  have HS2 := Lib.hid hS2
  have K_L3 := Lib.hid (OwSl.keep R_Node_ok (W' := W.alloc (.cells #[.slice a0 L0.length c0, .slice a1 L1.length c1, .slice a2 L2.length c2, .int .i64 x3, .slice a3 L3.length c3, .slice a4 L4.length c4, .slice a5 L5.length c5, .int .i64 x7] 43)) h_L3 (fun q hq => Below.heap_alloc _ _ _ (hS3 q hq)))
  have HS3 := Lib.hid hS3
  have K_L4 := Lib.hid (OwSl.keep R_Task_ok (W' := W.alloc (.cells #[.slice a0 L0.length c0, .slice a1 L1.length c1, .slice a2 L2.length c2, .int .i64 x3, .slice a3 L3.length c3, .slice a4 L4.length c4, .slice a5 L5.length c5, .int .i64 x7] 43)) h_L4 (fun q hq => Below.heap_alloc _ _ _ (hS4 q hq)))
  have HS4 := Lib.hid hS4
  have K_L5 := Lib.hid (OwSl.keep R_Use_ok (W' := W.alloc (.cells #[.slice a0 L0.length c0, .slice a1 L1.length c1, .slice a2 L2.length c2, .int .i64 x3, .slice a3 L3.length c3, .slice a4 L4.length c4, .slice a5 L5.length c5, .int .i64 x7] 43)) h_L5 (fun q hq => Below.heap_alloc _ _ _ (hS5 q hq)))
  have HS5 := Lib.hid hS5
  have HD0_1 := Lib.hid hd0_1
  have HD0_2 := Lib.hid hd0_2
  have HD0_3 := Lib.hid hd0_3
  have HD0_4 := Lib.hid hd0_4
  have HD0_5 := Lib.hid hd0_5
  have HD1_2 := Lib.hid hd1_2
  have HD1_3 := Lib.hid hd1_3
  have HD1_4 := Lib.hid hd1_4
  have HD1_5 := Lib.hid hd1_5
  have HD2_3 := Lib.hid hd2_3
  have HD2_4 := Lib.hid hd2_4
  have HD2_5 := Lib.hid hd2_5
  have HD3_4 := Lib.hid hd3_4
  have HD3_5 := Lib.hid hd3_5
  have HD4_5 := Lib.hid hd4_5
  clear h_L0 h_L1 h_L2 h_L3 h_L4 h_L5 hS0 hS1 hS2 hS3 hS4 hS5 hd0_1 hd0_2 hd0_3 hd0_4 hd0_5 hd1_2 hd1_3 hd1_4 hd1_5 hd2_3 hd2_4 hd2_5 hd3_4 hd3_5 hd4_5
  go_enter Tryz.func62, Tryz.ntmps62
  have hbz : 0 ≤ k ∧ k + (sumL ((Sl R_Label)).cm L0 : Nat) + (sumL (R_Pair).cm L1 : Nat) + (sumL (R_Quota).cm L2 : Nat) ≤ 4611686018427387904 := by omega
  go_wp2_with fail
  refine (mark_Config (W := W.alloc (.cells #[.slice a0 L0.length c0, .slice a1 L1.length c1, .slice a2 L2.length c2, .int .i64 x3, .slice a3 L3.length c3, .slice a4 L4.length c4, .slice a5 L5.length c5, .int .i64 x7] 43)) hbz.1 hbz.2 (fun q hq => Nat.lt_trans (HS0.out q hq) hz0) (fun q hq => Nat.lt_trans (HS1.out q hq) hz0) (fun q hq => Nat.lt_trans (HS2.out q hq) hz0) HD0_1.out HD0_2.out HD1_2.out K_L0.out K_L1.out K_L2.out).mono ?_
  intro e w3 h
  obtain ⟨z0, z1, z2, y0, y1, y2, rfl, ⟨hyl0, hmm0, hzz0, how0⟩, ⟨hyl1, hmm1, hzz1, how1⟩, ⟨hyl2, hmm2, hzz2, how2⟩, hoff⟩ := h
  have HP3 := Lib.hid (Blk.off HP0.out hoff hz0 (fun hg => by rcases hg with hg | hg | hg <;> first | exact Nat.lt_irrefl _ (HS0.out _ hg) | exact Nat.lt_irrefl _ (HS1.out _ hg) | exact Nat.lt_irrefl _ (HS2.out _ hg)))
  have HOFF3 := Lib.hid (HOFF0.out.trans (hoff.more (fun q hg => by rcases hg with hg | hg | hg <;> first | exact Or.inl hg | exact Or.inr (Or.inl hg) | exact Or.inr (Or.inr (Or.inl hg)))))
  have hz3 : W.heap.size < w3.heap.size := Nat.lt_of_lt_of_le hz0 hoff.size
  have K_L3 := Lib.hid (K_L3.out.keep R_Node_ok (fun q hq => hoff.block q (Nat.lt_trans (HS3.out q hq) hz0) (fun hg => by rcases hg with hg | hg | hg <;> first | exact HD0_3.out q hg hq | exact HD1_3.out q hg hq | exact HD2_3.out q hg hq)))
  have K_L4 := Lib.hid (K_L4.out.keep R_Task_ok (fun q hq => hoff.block q (Nat.lt_trans (HS4.out q hq) hz0) (fun hg => by rcases hg with hg | hg | hg <;> first | exact HD0_4.out q hg hq | exact HD1_4.out q hg hq | exact HD2_4.out q hg hq)))
  have K_L5 := Lib.hid (K_L5.out.keep R_Use_ok (fun q hq => hoff.block q (Nat.lt_trans (HS5.out q hq) hz0) (fun hg => by rcases hg with hg | hg | hg <;> first | exact HD0_5.out q hg hq | exact HD1_5.out q hg hq | exact HD2_5.out q hg hq)))
  have K_L0 := Lib.hid how0
  have HMM0 := Lib.hid hmm0
  have HYL0 := Lib.hid hyl0
  have HZZ0 := Lib.hid hzz0
  have K_L1 := Lib.hid how1
  have HMM1 := Lib.hid hmm1
  have HYL1 := Lib.hid hyl1
  have HZZ1 := Lib.hid hzz1
  have K_L2 := Lib.hid how2
  have HMM2 := Lib.hid hmm2
  have HYL2 := Lib.hid hyl2
  have HZZ2 := Lib.hid hzz2
  have hzn2 : 0 ≤ z2 ∧ z2 ≤ 4611686018427387904 := by omega
  clear hbz hoff hyl0 hmm0 hzz0 how0 hyl1 hmm1 hzz1 how1 hyl2 hmm2 hzz2 how2
  have p3_0 := HP3.out.at_ 0 rfl
  have p3_1 := HP3.out.at_ 1 rfl
  have p3_2 := HP3.out.at_ 2 rfl
  have p3_4 := HP3.out.at_ 4 rfl
  have p3_5 := HP3.out.at_ 5 rfl
  have p3_6 := HP3.out.at_ 6 rfl
  have hbz : 0 ≤ z2 ∧ z2 + (sumL (R_Node).cm L3 : Nat) ≤ 4611686018427387904 := by have q0 := HZZ0.out; have q1 := HZZ1.out; have q2 := HZZ2.out; omega
  go_wp2_with fail
  refine (mark_NodeS (W := w3) hbz.1 hbz.2 (fun q hq => Nat.lt_trans (HS3.out q hq) hz3) K_L3.out).mono ?_
  intro e w4 h
  obtain ⟨y3, z3, rfl, hyl, hmm, hzz, how, hoff⟩ := markR_elim h
  have HP4 := Lib.hid (Blk.off HP3.out hoff hz3 (fun hg => Nat.lt_irrefl _ (HS3.out _ hg)))
  have HOFF4 := Lib.hid (HOFF3.out.trans (hoff.more (fun q hq => Or.inr (Or.inr (Or.inr (Or.inl hq))))))
  have hz4 : W.heap.size < w4.heap.size := Nat.lt_of_lt_of_le hz3 hoff.size
  have K_L0 := Lib.hid (K_L0.out.keep (Sl_ok R_Label_ok) (fun q hq => hoff.block q (Nat.lt_trans (HS0.out q hq) hz3) (fun hi => HD0_3.out q hq hi)))
  have K_L1 := Lib.hid (K_L1.out.keep R_Pair_ok (fun q hq => hoff.block q (Nat.lt_trans (HS1.out q hq) hz3) (fun hi => HD1_3.out q hq hi)))
  have K_L2 := Lib.hid (K_L2.out.keep R_Quota_ok (fun q hq => hoff.block q (Nat.lt_trans (HS2.out q hq) hz3) (fun hi => HD2_3.out q hq hi)))
  have K_L4 := Lib.hid (K_L4.out.keep R_Task_ok (fun q hq => hoff.block q (Nat.lt_trans (HS4.out q hq) hz3) (fun hi => HD3_4.out q hi hq)))
  have K_L5 := Lib.hid (K_L5.out.keep R_Use_ok (fun q hq => hoff.block q (Nat.lt_trans (HS5.out q hq) hz3) (fun hi => HD3_5.out q hi hq)))
  have K_L3 := Lib.hid how
  have HMM3 := Lib.hid hmm
  have HYL3 := Lib.hid hyl
  have HZZ3 := Lib.hid hzz
  have hzn3 : 0 ≤ z3 ∧ z3 ≤ 4611686018427387904 := by omega
  clear h hyl hmm how hoff hzz hbz
  have p4_0 := HP4.out.at_ 0 rfl
  have p4_1 := HP4.out.at_ 1 rfl
  have p4_2 := HP4.out.at_ 2 rfl
  have p4_4 := HP4.out.at_ 4 rfl
  have p4_5 := HP4.out.at_ 5 rfl
  have p4_6 := HP4.out.at_ 6 rfl
  have hbz : 0 ≤ z3 ∧ z3 + (sumL (R_Task).cm L4 : Nat) ≤ 4611686018427387904 := by have q0 := HZZ0.out; have q1 := HZZ1.out; have q2 := HZZ2.out; have q3 := HZZ3.out; omega
  go_wp2_with fail
  refine (mark_TaskS (W := w4) hbz.1 hbz.2 (fun q hq => Nat.lt_trans (HS4.out q hq) hz4) K_L4.out).mono ?_
  intro e w5 h
  obtain ⟨y4, z4, rfl, hyl, hmm, hzz, how, hoff⟩ := markR_elim h
  have HP5 := Lib.hid (Blk.off HP4.out hoff hz4 (fun hg => Nat.lt_irrefl _ (HS4.out _ hg)))
  have HOFF5 := Lib.hid (HOFF4.out.trans (hoff.more (fun q hq => Or.inr (Or.inr (Or.inr (Or.inr (Or.inl hq)))))))
  have hz5 : W.heap.size < w5.heap.size := Nat.lt_of_lt_of_le hz4 hoff.size
  have K_L0 := Lib.hid (K_L0.out.keep (Sl_ok R_Label_ok) (fun q hq => hoff.block q (Nat.lt_trans (HS0.out q hq) hz4) (fun hi => HD0_4.out q hq hi)))
  have K_L1 := Lib.hid (K_L1.out.keep R_Pair_ok (fun q hq => hoff.block q (Nat.lt_trans (HS1.out q hq) hz4) (fun hi => HD1_4.out q hq hi)))
  have K_L2 := Lib.hid (K_L2.out.keep R_Quota_ok (fun q hq => hoff.block q (Nat.lt_trans (HS2.out q hq) hz4) (fun hi => HD2_4.out q hq hi)))
  have K_L3 := Lib.hid (K_L3.out.keep R_Node_ok (fun q hq => hoff.block q (Nat.lt_trans (HS3.out q hq) hz4) (fun hi => HD3_4.out q hq hi)))
  have K_L5 := Lib.hid (K_L5.out.keep R_Use_ok (fun q hq => hoff.block q (Nat.lt_trans (HS5.out q hq) hz4) (fun hi => HD4_5.out q hi hq)))
  have K_L4 := Lib.hid how
  have HMM4 := Lib.hid hmm
  have HYL4 := Lib.hid hyl
  have HZZ4 := Lib.hid hzz
  have hzn4 : 0 ≤ z4 ∧ z4 ≤ 4611686018427387904 := by omega
  clear h hyl hmm how hoff hzz hbz
  have p5_0 := HP5.out.at_ 0 rfl
  have p5_1 := HP5.out.at_ 1 rfl
  have p5_2 := HP5.out.at_ 2 rfl
  have p5_4 := HP5.out.at_ 4 rfl
  have p5_5 := HP5.out.at_ 5 rfl
  have p5_6 := HP5.out.at_ 6 rfl
  have hbz : 0 ≤ z4 ∧ z4 + (sumL (R_Use).cm L5 : Nat) ≤ 4611686018427387904 := by have q0 := HZZ0.out; have q1 := HZZ1.out; have q2 := HZZ2.out; have q3 := HZZ3.out; have q4 := HZZ4.out; omega
  go_wp2_with fail
  refine (mark_UseS (W := w5) hbz.1 hbz.2 (fun q hq => Nat.lt_trans (HS5.out q hq) hz5) K_L5.out).mono ?_
  intro e w6 h
  obtain ⟨y5, z5, rfl, hyl, hmm, hzz, how, hoff⟩ := markR_elim h
  have HP6 := Lib.hid (Blk.off HP5.out hoff hz5 (fun hg => Nat.lt_irrefl _ (HS5.out _ hg)))
  have HOFF6 := Lib.hid (HOFF5.out.trans (hoff.more (fun q hq => Or.inr (Or.inr (Or.inr (Or.inr (Or.inr (hq))))))))
  have hz6 : W.heap.size < w6.heap.size := Nat.lt_of_lt_of_le hz5 hoff.size
  have K_L0 := Lib.hid (K_L0.out.keep (Sl_ok R_Label_ok) (fun q hq => hoff.block q (Nat.lt_trans (HS0.out q hq) hz5) (fun hi => HD0_5.out q hq hi)))
  have K_L1 := Lib.hid (K_L1.out.keep R_Pair_ok (fun q hq => hoff.block q (Nat.lt_trans (HS1.out q hq) hz5) (fun hi => HD1_5.out q hq hi)))
  have K_L2 := Lib.hid (K_L2.out.keep R_Quota_ok (fun q hq => hoff.block q (Nat.lt_trans (HS2.out q hq) hz5) (fun hi => HD2_5.out q hq hi)))
  have K_L3 := Lib.hid (K_L3.out.keep R_Node_ok (fun q hq => hoff.block q (Nat.lt_trans (HS3.out q hq) hz5) (fun hi => HD3_5.out q hq hi)))
  have K_L4 := Lib.hid (K_L4.out.keep R_Task_ok (fun q hq => hoff.block q (Nat.lt_trans (HS4.out q hq) hz5) (fun hi => HD4_5.out q hq hi)))
  have K_L5 := Lib.hid how
  have HMM5 := Lib.hid hmm
  have HYL5 := Lib.hid hyl
  have HZZ5 := Lib.hid hzz
  have hzn5 : 0 ≤ z5 ∧ z5 ≤ 4611686018427387904 := by omega
  clear h hyl hmm how hoff hzz hbz
  have p6_0 := HP6.out.at_ 0 rfl
  have p6_1 := HP6.out.at_ 1 rfl
  have p6_2 := HP6.out.at_ 2 rfl
  have p6_4 := HP6.out.at_ 4 rfl
  have p6_5 := HP6.out.at_ 5 rfl
  have p6_6 := HP6.out.at_ 6 rfl
  go_wp2
  go_ret
  exact ⟨z0, z1, z2, z3, z4, z5, y0, y1, y2, y3, y4, y5, rfl, ⟨HYL0.out, HMM0.out, HZZ0.out, K_L0.out⟩, ⟨HYL1.out, HMM1.out, HZZ1.out, K_L1.out⟩, ⟨HYL2.out, HMM2.out, HZZ2.out, K_L2.out⟩, ⟨HYL3.out, HMM3.out, HZZ3.out, K_L3.out⟩, ⟨HYL4.out, HMM4.out, HZZ4.out, K_L4.out⟩, ⟨HYL5.out, HMM5.out, HZZ5.out, K_L5.out⟩, HOFF6.out⟩
set_option maxRecDepth 100000 in
set_option maxHeartbeats 1600000 in
theorem held_Yard {L0 : List (List (D_Label))} {L1 : List (D_Pair)} {L2 : List (D_Quota)} {x3 : Int} {L3 : List (D_Node)} {L4 : List (D_Task)} {L5 : List (D_Use)} {x7 : Int} {a0 : Option Addr} {c0 : Nat} {a1 : Option Addr} {c1 : Nat} {a2 : Option Addr} {c2 : Nat} {a3 : Option Addr} {c3 : Nat} {a4 : Option Addr} {c4 : Nat} {a5 : Option Addr} {c5 : Nat} {W : World} {k : Int} {z0 : Int} {z1 : Int} {z2 : Int} {z3 : Int} {z4 : Int} {z5 : Int} (h0 : 0 ≤ k) (h1 : z5 ≤ 4611686018427387904) (hm0 : mmL (Sl R_Label) L0 k z0) (hm1 : mmL R_Pair L1 z0 z1) (hm2 : mmL R_Quota L2 z1 z2) (hm3 : mmL R_Node L3 z2 z3) (hm4 : mmL R_Task L4 z3 z4) (hm5 : mmL R_Use L5 z4 z5) (h_L0 : RdSl (Sl R_Label) W W.heap.size L0 a0 c0) (h_L1 : RdSl R_Pair W W.heap.size L1 a1 c1) (h_L2 : RdSl R_Quota W W.heap.size L2 a2 c2) (h_L3 : RdSl R_Node W W.heap.size L3 a3 c3) (h_L4 : RdSl R_Task W W.heap.size L4 a4 c4) (h_L5 : RdSl R_Use W W.heap.size L5 a5 c5) : Calls Tryz.prog 63 #[.agg #[.slice a0 L0.length c0, .slice a1 L1.length c1, .slice a2 L2.length c2, .int .i64 x3, .slice a3 L3.length c3, .slice a4 L4.length c4, .slice a5 L5.length c5, .int .i64 x7], .int .i64 k] W (HeldC z5 W) := by
  have H_L0 := Lib.hid h_L0
  have H_L1 := Lib.hid h_L1
  have H_L2 := Lib.hid h_L2
  have H_L3 := Lib.hid h_L3
  have H_L4 := Lib.hid h_L4
  have H_L5 := Lib.hid h_L5
  have HM0 := Lib.hid hm0
  have hl0 := mmL_le (Sl_mn R_Label_mn) hm0
  have HM1 := Lib.hid hm1
  have hl1 := mmL_le R_Pair_mn hm1
  have HM2 := Lib.hid hm2
  have hl2 := mmL_le R_Quota_mn hm2
  have HM3 := Lib.hid hm3
  have hl3 := mmL_le R_Node_mn hm3
  have HM4 := Lib.hid hm4
  have hl4 := mmL_le R_Task_mn hm4
  have HM5 := Lib.hid hm5
  have hl5 := mmL_le R_Use_mn hm5
  clear h_L0 h_L1 h_L2 h_L3 h_L4 h_L5 hm0 hm1 hm2 hm3 hm4 hm5
  have HB0 := Lib.hid (show Below W.heap.size W (W.alloc (.cells #[.slice a0 L0.length c0, .slice a1 L1.length c1, .slice a2 L2.length c2, .int .i64 x3, .slice a3 L3.length c3, .slice a4 L4.length c4, .slice a5 L5.length c5, .int .i64 x7] 43)) from (Below.refl _ _).alloc (Nat.le_refl _) _)
  have hP := Blk.new W 43 #[.slice a0 L0.length c0, .slice a1 L1.length c1, .slice a2 L2.length c2, .int .i64 x3, .slice a3 L3.length c3, .slice a4 L4.length c4, .slice a5 L5.length c5, .int .i64 x7]
  have HP0 := Lib.hid hP
  have hz0 : W.heap.size ≤ (W.alloc (.cells #[.slice a0 L0.length c0, .slice a1 L1.length c1, .slice a2 L2.length c2, .int .i64 x3, .slice a3 L3.length c3, .slice a4 L4.length c4, .slice a5 L5.length c5, .int .i64 x7] 43)).heap.size := HB0.out.size
  clear hP
  go_enter Tryz.func63, Tryz.ntmps63
  go_wp2_with fail
  refine (held_Config (k := k) (by omega) (by omega) HM0.out HM1.out HM2.out ((H_L0.out.below (Sl_ok R_Label_ok) HB0.out).more (Sl_ok R_Label_ok) hz0) ((H_L1.out.below R_Pair_ok HB0.out).more R_Pair_ok hz0) ((H_L2.out.below R_Quota_ok HB0.out).more R_Quota_ok hz0)).mono ?_
  intro e w3 h
  obtain ⟨rfl, hb⟩ := heldC_elim h
  have HP3 := Lib.hid (HP0.out.call hb)
  have HB3 := Lib.hid (HB0.out.trans (hb.mono hz0))
  have hz3 : W.heap.size ≤ w3.heap.size := HB3.out.size
  clear h hb
  have p3_0 := HP3.out.at_ 0 rfl
  have p3_1 := HP3.out.at_ 1 rfl
  have p3_2 := HP3.out.at_ 2 rfl
  have p3_4 := HP3.out.at_ 4 rfl
  have p3_5 := HP3.out.at_ 5 rfl
  have p3_6 := HP3.out.at_ 6 rfl
  have hpos2 : (0 : Int) ≤ z2 := by omega
  go_wp2_with fail
  refine (held_NodeS (k := z2) (k' := z3) (by omega) (by omega) HM3.out ((H_L3.out.below R_Node_ok HB3.out).more R_Node_ok hz3)).mono ?_
  intro e w4 h
  obtain ⟨rfl, hb⟩ := heldC_elim h
  have HP4 := Lib.hid (HP3.out.call hb)
  have HB4 := Lib.hid (HB3.out.trans (hb.mono hz3))
  have hz4 : W.heap.size ≤ w4.heap.size := HB4.out.size
  clear h hb
  have p4_0 := HP4.out.at_ 0 rfl
  have p4_1 := HP4.out.at_ 1 rfl
  have p4_2 := HP4.out.at_ 2 rfl
  have p4_4 := HP4.out.at_ 4 rfl
  have p4_5 := HP4.out.at_ 5 rfl
  have p4_6 := HP4.out.at_ 6 rfl
  have hpos3 : (0 : Int) ≤ z3 := by omega
  go_wp2_with fail
  refine (held_TaskS (k := z3) (k' := z4) (by omega) (by omega) HM4.out ((H_L4.out.below R_Task_ok HB4.out).more R_Task_ok hz4)).mono ?_
  intro e w5 h
  obtain ⟨rfl, hb⟩ := heldC_elim h
  have HP5 := Lib.hid (HP4.out.call hb)
  have HB5 := Lib.hid (HB4.out.trans (hb.mono hz4))
  have hz5 : W.heap.size ≤ w5.heap.size := HB5.out.size
  clear h hb
  have p5_0 := HP5.out.at_ 0 rfl
  have p5_1 := HP5.out.at_ 1 rfl
  have p5_2 := HP5.out.at_ 2 rfl
  have p5_4 := HP5.out.at_ 4 rfl
  have p5_5 := HP5.out.at_ 5 rfl
  have p5_6 := HP5.out.at_ 6 rfl
  have hpos4 : (0 : Int) ≤ z4 := by omega
  go_wp2_with fail
  refine (held_UseS (k := z4) (k' := z5) (by omega) (by omega) HM5.out ((H_L5.out.below R_Use_ok HB5.out).more R_Use_ok hz5)).mono ?_
  intro e w6 h
  obtain ⟨rfl, hb⟩ := heldC_elim h
  have HP6 := Lib.hid (HP5.out.call hb)
  have HB6 := Lib.hid (HB5.out.trans (hb.mono hz5))
  have hz6 : W.heap.size ≤ w6.heap.size := HB6.out.size
  clear h hb
  have p6_0 := HP6.out.at_ 0 rfl
  have p6_1 := HP6.out.at_ 1 rfl
  have p6_2 := HP6.out.at_ 2 rfl
  have p6_4 := HP6.out.at_ 4 rfl
  have p6_5 := HP6.out.at_ 5 rfl
  have p6_6 := HP6.out.at_ 6 rfl
  have hpos5 : (0 : Int) ≤ z5 := by omega
  go_wp2
  go_ret
  exact ⟨rfl, HB6.out⟩
set_option maxRecDepth 100000 in
set_option maxHeartbeats 1600000 in
theorem mark_YardOut {L0 : List (List (D_Label))} {L1 : List (D_Pair)} {L2 : List (D_Quota)} {x3 : Int} {L3 : List (D_Node)} {L4 : List (D_Task)} {L5 : List (D_Use)} {x7 : Int} {x8 : Int} {x9 : Int} {a0 : Option Addr} {c0 : Nat} {a1 : Option Addr} {c1 : Nat} {a2 : Option Addr} {c2 : Nat} {a3 : Option Addr} {c3 : Nat} {a4 : Option Addr} {c4 : Nat} {a5 : Option Addr} {c5 : Nat} {W : World} {T0 : Nat → Prop} {T1 : Nat → Prop} {T2 : Nat → Prop} {T3 : Nat → Prop} {T4 : Nat → Prop} {T5 : Nat → Prop} {k : Int} (h0 : 0 ≤ k) (h1 : k + (sumL ((Sl R_Label)).cm L0 : Nat) + (sumL (R_Pair).cm L1 : Nat) + (sumL (R_Quota).cm L2 : Nat) + (sumL (R_Node).cm L3 : Nat) + (sumL (R_Task).cm L4 : Nat) + (sumL (R_Use).cm L5 : Nat) ≤ 4611686018427387904) (hS0 : ∀ q, T0 q → q < W.heap.size) (hS1 : ∀ q, T1 q → q < W.heap.size) (hS2 : ∀ q, T2 q → q < W.heap.size) (hS3 : ∀ q, T3 q → q < W.heap.size) (hS4 : ∀ q, T4 q → q < W.heap.size) (hS5 : ∀ q, T5 q → q < W.heap.size) (hd0_1 : ∀ q, T0 q → T1 q → False) (hd0_2 : ∀ q, T0 q → T2 q → False) (hd0_3 : ∀ q, T0 q → T3 q → False) (hd0_4 : ∀ q, T0 q → T4 q → False) (hd0_5 : ∀ q, T0 q → T5 q → False) (hd1_2 : ∀ q, T1 q → T2 q → False) (hd1_3 : ∀ q, T1 q → T3 q → False) (hd1_4 : ∀ q, T1 q → T4 q → False) (hd1_5 : ∀ q, T1 q → T5 q → False) (hd2_3 : ∀ q, T2 q → T3 q → False) (hd2_4 : ∀ q, T2 q → T4 q → False) (hd2_5 : ∀ q, T2 q → T5 q → False) (hd3_4 : ∀ q, T3 q → T4 q → False) (hd3_5 : ∀ q, T3 q → T5 q → False) (hd4_5 : ∀ q, T4 q → T5 q → False) (h_L0 : OwSl (Sl R_Label) W T0 L0 a0 c0) (h_L1 : OwSl R_Pair W T1 L1 a1 c1) (h_L2 : OwSl R_Quota W T2 L2 a2 c2) (h_L3 : OwSl R_Node W T3 L3 a3 c3) (h_L4 : OwSl R_Task W T4 L4 a4 c4) (h_L5 : OwSl R_Use W T5 L5 a5 c5) : Calls Tryz.prog 17 #[.agg #[.slice a0 L0.length c0, .slice a1 L1.length c1, .slice a2 L2.length c2, .int .i64 x3, .slice a3 L3.length c3, .slice a4 L4.length c4, .slice a5 L5.length c5, .int .i64 x7, .int .i64 x8, .int .i64 x9], .int .i64 k] W (MarkV_Yard L0 L1 L2 x3 L3 L4 L5 x7 a0 c0 a1 c1 a2 c2 a3 c3 a4 c4 a5 c5 T0 T1 T2 T3 T4 T5 k W) := by
  have HOFF0 := Lib.hid (show Off (fun q => T0 q ∨ T1 q ∨ T2 q ∨ T3 q ∨ T4 q ∨ T5 q) W (W.alloc (.cells #[.slice a0 L0.length c0, .slice a1 L1.length c1, .slice a2 L2.length c2, .int .i64 x3, .slice a3 L3.length c3, .slice a4 L4.length c4, .slice a5 L5.length c5, .int .i64 x7, .int .i64 x8, .int .i64 x9] 49)) from (Off.refl _ _).alloc _)
  have hz0 : W.heap.size < (W.alloc (.cells #[.slice a0 L0.length c0, .slice a1 L1.length c1, .slice a2 L2.length c2, .int .i64 x3, .slice a3 L3.length c3, .slice a4 L4.length c4, .slice a5 L5.length c5, .int .i64 x7, .int .i64 x8, .int .i64 x9] 49)).heap.size := by simp
  have hP := Blk.new W 49 #[.slice a0 L0.length c0, .slice a1 L1.length c1, .slice a2 L2.length c2, .int .i64 x3, .slice a3 L3.length c3, .slice a4 L4.length c4, .slice a5 L5.length c5, .int .i64 x7, .int .i64 x8, .int .i64 x9]
  have HP0 := Lib.hid hP
  clear hP
  have K_L0 := Lib.hid (OwSl.keep (Sl_ok R_Label_ok) (W' := W.alloc (.cells #[.slice a0 L0.length c0, .slice a1 L1.length c1, .slice a2 L2.length c2, .int .i64 x3, .slice a3 L3.length c3, .slice a4 L4.length c4, .slice a5 L5.length c5, .int .i64 x7, .int .i64 x8, .int .i64 x9] 49)) h_L0 (fun q hq => Below.heap_alloc _ _ _ (hS0 q hq)))
  have HS0 := Lib.hid hS0
  have K_L1 := Lib.hid (OwSl.keep R_Pair_ok (W' := W.alloc (.cells #[.slice a0 L0.length c0, .slice a1 L1.length c1, .slice a2 L2.length c2, .int .i64 x3, .slice a3 L3.length c3, .slice a4 L4.length c4, .slice a5 L5.length c5, .int .i64 x7, .int .i64 x8, .int .i64 x9] 49)) h_L1 (fun q hq => Below.heap_alloc _ _ _ (hS1 q hq)))
  have HS1 := Lib.hid hS1
  have K_L2 := Lib.hid (OwSl.keep R_Quota_ok (W' := W.alloc (.cells #[.slice a0 L0.length c0, .slice a1 L1.length c1, .slice a2 L2.length c2, .int .i64 x3, .slice a3 L3.length c3, .slice a4 L4.length c4, .slice a5 L5.length c5, .int .i64 x7, .int .i64 x8, .int .i64 x9] 49)) h_L2 (fun q hq => Below.heap_alloc _ _ _ (hS2 q hq)))
  have HS2 := Lib.hid hS2
  have K_L3 := Lib.hid (OwSl.keep R_Node_ok (W' := W.alloc (.cells #[.slice a0 L0.length c0, .slice a1 L1.length c1, .slice a2 L2.length c2, .int .i64 x3, .slice a3 L3.length c3, .slice a4 L4.length c4, .slice a5 L5.length c5, .int .i64 x7, .int .i64 x8, .int .i64 x9] 49)) h_L3 (fun q hq => Below.heap_alloc _ _ _ (hS3 q hq)))
  have HS3 := Lib.hid hS3
  have K_L4 := Lib.hid (OwSl.keep R_Task_ok (W' := W.alloc (.cells #[.slice a0 L0.length c0, .slice a1 L1.length c1, .slice a2 L2.length c2, .int .i64 x3, .slice a3 L3.length c3, .slice a4 L4.length c4, .slice a5 L5.length c5, .int .i64 x7, .int .i64 x8, .int .i64 x9] 49)) h_L4 (fun q hq => Below.heap_alloc _ _ _ (hS4 q hq)))
  have HS4 := Lib.hid hS4
  have K_L5 := Lib.hid (OwSl.keep R_Use_ok (W' := W.alloc (.cells #[.slice a0 L0.length c0, .slice a1 L1.length c1, .slice a2 L2.length c2, .int .i64 x3, .slice a3 L3.length c3, .slice a4 L4.length c4, .slice a5 L5.length c5, .int .i64 x7, .int .i64 x8, .int .i64 x9] 49)) h_L5 (fun q hq => Below.heap_alloc _ _ _ (hS5 q hq)))
  have HS5 := Lib.hid hS5
  have HD0_1 := Lib.hid hd0_1
  have HD0_2 := Lib.hid hd0_2
  have HD0_3 := Lib.hid hd0_3
  have HD0_4 := Lib.hid hd0_4
  have HD0_5 := Lib.hid hd0_5
  have HD1_2 := Lib.hid hd1_2
  have HD1_3 := Lib.hid hd1_3
  have HD1_4 := Lib.hid hd1_4
  have HD1_5 := Lib.hid hd1_5
  have HD2_3 := Lib.hid hd2_3
  have HD2_4 := Lib.hid hd2_4
  have HD2_5 := Lib.hid hd2_5
  have HD3_4 := Lib.hid hd3_4
  have HD3_5 := Lib.hid hd3_5
  have HD4_5 := Lib.hid hd4_5
  clear h_L0 h_L1 h_L2 h_L3 h_L4 h_L5 hS0 hS1 hS2 hS3 hS4 hS5 hd0_1 hd0_2 hd0_3 hd0_4 hd0_5 hd1_2 hd1_3 hd1_4 hd1_5 hd2_3 hd2_4 hd2_5 hd3_4 hd3_5 hd4_5
  go_enter Tryz.func17, Tryz.ntmps17
  go_wp2_with fail
  refine (mark_Yard (W := W.alloc (.cells #[.slice a0 L0.length c0, .slice a1 L1.length c1, .slice a2 L2.length c2, .int .i64 x3, .slice a3 L3.length c3, .slice a4 L4.length c4, .slice a5 L5.length c5, .int .i64 x7, .int .i64 x8, .int .i64 x9] 49)) h0 h1 (fun q hq => Nat.lt_trans (HS0.out q hq) hz0) (fun q hq => Nat.lt_trans (HS1.out q hq) hz0) (fun q hq => Nat.lt_trans (HS2.out q hq) hz0) (fun q hq => Nat.lt_trans (HS3.out q hq) hz0) (fun q hq => Nat.lt_trans (HS4.out q hq) hz0) (fun q hq => Nat.lt_trans (HS5.out q hq) hz0) HD0_1.out HD0_2.out HD0_3.out HD0_4.out HD0_5.out HD1_2.out HD1_3.out HD1_4.out HD1_5.out HD2_3.out HD2_4.out HD2_5.out HD3_4.out HD3_5.out HD4_5.out K_L0.out K_L1.out K_L2.out K_L3.out K_L4.out K_L5.out).mono ?_
  intro e w1 h
  obtain ⟨z0, z1, z2, z3, z4, z5, y0, y1, y2, y3, y4, y5, rfl, hh0, hh1, hh2, hh3, hh4, hh5, hoff⟩ := h
  have HH0 := Lib.hid hh0
  have HH1 := Lib.hid hh1
  have HH2 := Lib.hid hh2
  have HH3 := Lib.hid hh3
  have HH4 := Lib.hid hh4
  have HH5 := Lib.hid hh5
  have HOFF1 := Lib.hid (HOFF0.out.trans hoff)
  clear hoff hh0 hh1 hh2 hh3 hh4 hh5
  go_wp2
  go_ret
  exact ⟨z0, z1, z2, z3, z4, z5, y0, y1, y2, y3, y4, y5, rfl, HH0.out, HH1.out, HH2.out, HH3.out, HH4.out, HH5.out, HOFF1.out⟩
set_option maxRecDepth 100000 in
set_option maxHeartbeats 1600000 in
theorem held_YardOut {L0 : List (List (D_Label))} {L1 : List (D_Pair)} {L2 : List (D_Quota)} {x3 : Int} {L3 : List (D_Node)} {L4 : List (D_Task)} {L5 : List (D_Use)} {x7 : Int} {x8 : Int} {x9 : Int} {a0 : Option Addr} {c0 : Nat} {a1 : Option Addr} {c1 : Nat} {a2 : Option Addr} {c2 : Nat} {a3 : Option Addr} {c3 : Nat} {a4 : Option Addr} {c4 : Nat} {a5 : Option Addr} {c5 : Nat} {W : World} {k : Int} {z0 : Int} {z1 : Int} {z2 : Int} {z3 : Int} {z4 : Int} {z5 : Int} (h0 : 0 ≤ k) (h1 : z5 ≤ 4611686018427387904) (hm0 : mmL (Sl R_Label) L0 k z0) (hm1 : mmL R_Pair L1 z0 z1) (hm2 : mmL R_Quota L2 z1 z2) (hm3 : mmL R_Node L3 z2 z3) (hm4 : mmL R_Task L4 z3 z4) (hm5 : mmL R_Use L5 z4 z5) (h_L0 : RdSl (Sl R_Label) W W.heap.size L0 a0 c0) (h_L1 : RdSl R_Pair W W.heap.size L1 a1 c1) (h_L2 : RdSl R_Quota W W.heap.size L2 a2 c2) (h_L3 : RdSl R_Node W W.heap.size L3 a3 c3) (h_L4 : RdSl R_Task W W.heap.size L4 a4 c4) (h_L5 : RdSl R_Use W W.heap.size L5 a5 c5) : Calls Tryz.prog 18 #[.agg #[.slice a0 L0.length c0, .slice a1 L1.length c1, .slice a2 L2.length c2, .int .i64 x3, .slice a3 L3.length c3, .slice a4 L4.length c4, .slice a5 L5.length c5, .int .i64 x7, .int .i64 x8, .int .i64 x9], .int .i64 k] W (HeldC z5 W) := by
  have HM0 := Lib.hid hm0
  have hl0 := mmL_le (Sl_mn R_Label_mn) hm0
  have H_L0 := Lib.hid h_L0
  have HM1 := Lib.hid hm1
  have hl1 := mmL_le R_Pair_mn hm1
  have H_L1 := Lib.hid h_L1
  have HM2 := Lib.hid hm2
  have hl2 := mmL_le R_Quota_mn hm2
  have H_L2 := Lib.hid h_L2
  have HM3 := Lib.hid hm3
  have hl3 := mmL_le R_Node_mn hm3
  have H_L3 := Lib.hid h_L3
  have HM4 := Lib.hid hm4
  have hl4 := mmL_le R_Task_mn hm4
  have H_L4 := Lib.hid h_L4
  have HM5 := Lib.hid hm5
  have hl5 := mmL_le R_Use_mn hm5
  have H_L5 := Lib.hid h_L5
  clear h_L0 h_L1 h_L2 h_L3 h_L4 h_L5 hm0 hm1 hm2 hm3 hm4 hm5
  have HB0 := Lib.hid (show Below W.heap.size W (W.alloc (.cells #[.slice a0 L0.length c0, .slice a1 L1.length c1, .slice a2 L2.length c2, .int .i64 x3, .slice a3 L3.length c3, .slice a4 L4.length c4, .slice a5 L5.length c5, .int .i64 x7, .int .i64 x8, .int .i64 x9] 49)) from (Below.refl _ _).alloc (Nat.le_refl _) _)
  have hP := Blk.new W 49 #[.slice a0 L0.length c0, .slice a1 L1.length c1, .slice a2 L2.length c2, .int .i64 x3, .slice a3 L3.length c3, .slice a4 L4.length c4, .slice a5 L5.length c5, .int .i64 x7, .int .i64 x8, .int .i64 x9]
  have HP0 := Lib.hid hP
  have hz0 : W.heap.size ≤ (W.alloc (.cells #[.slice a0 L0.length c0, .slice a1 L1.length c1, .slice a2 L2.length c2, .int .i64 x3, .slice a3 L3.length c3, .slice a4 L4.length c4, .slice a5 L5.length c5, .int .i64 x7, .int .i64 x8, .int .i64 x9] 49)).heap.size := HB0.out.size
  clear hP
  go_enter Tryz.func18, Tryz.ntmps18
  go_wp2_with fail
  refine (held_Yard (k := k) h0 h1 HM0.out HM1.out HM2.out HM3.out HM4.out HM5.out ((H_L0.out.below (Sl_ok R_Label_ok) HB0.out).more (Sl_ok R_Label_ok) hz0) ((H_L1.out.below R_Pair_ok HB0.out).more R_Pair_ok hz0) ((H_L2.out.below R_Quota_ok HB0.out).more R_Quota_ok hz0) ((H_L3.out.below R_Node_ok HB0.out).more R_Node_ok hz0) ((H_L4.out.below R_Task_ok HB0.out).more R_Task_ok hz0) ((H_L5.out.below R_Use_ok HB0.out).more R_Use_ok hz0)).mono ?_
  intro e w1 h
  obtain ⟨rfl, hb⟩ := heldC_elim h
  have HB1 := Lib.hid (HB0.out.trans (hb.mono hz0))
  have hpos : (0 : Int) ≤ z5 := by omega
  clear h hb
  go_wp2
  go_ret
  exact ⟨rfl, HB1.out⟩
end Go.Proofs.YtelhmacfljffhaaGreat.RepC
end
section
namespace Go.Proofs.YtelhmacfljffhaaGreat.RepC
open Go.RowKit RowC ValC
set_option linter.unusedVariables false
set_option linter.unusedSimpArgs false
theorem geq_YardOut {d : D_YardOut} {cs cs' : List Value} {W : World} (h : R_YardOut.rd W W.heap.size d cs) (h' : R_YardOut.rd W W.heap.size d cs') : Calls Tryz.prog 14 #[.agg cs.toArray, .agg cs'.toArray] W (IsB true W) := by
  obtain ⟨⟨⟨L0, L1, L2, x3⟩, L3, L4, L5, x7⟩, x8, x9⟩ := d
  obtain ⟨a0, c0, a1, c1, a2, c2, a3, c3, a4, c4, a5, c5, rfl, k_L0, k_L1, k_L2, k_L3, k_L4, k_L5⟩ := rd_YardOut h
  obtain ⟨a0', c0', a1', c1', a2', c2', a3', c3', a4', c4', a5', c5', rfl, k'_L0, k'_L1, k'_L2, k'_L3, k'_L4, k'_L5⟩ := rd_YardOut h'
  exact eq_YardOut k_L0 k_L1 k_L2 k_L3 k_L4 k_L5 k'_L0 k'_L1 k'_L2 k'_L3 k'_L4 k'_L5
theorem owc_YardOut {W : World} {S : Nat → Prop} {L0 : List (List (D_Label))} {L1 : List (D_Pair)} {L2 : List (D_Quota)} {x3 : Int} {L3 : List (D_Node)} {L4 : List (D_Task)} {L5 : List (D_Use)} {x7 : Int} {x8 : Int} {x9 : Int} {cs : List Value} (h : R_YardOut.ow W S (((L0, L1, L2, x3), L3, L4, L5, x7), x8, x9) cs) : ∃ a0 c0 a1 c1 a2 c2 a3 c3 a4 c4 a5 c5, cs = [.slice a0 L0.length c0, .slice a1 L1.length c1, .slice a2 L2.length c2, .int .i64 x3, .slice a3 L3.length c3, .slice a4 L4.length c4, .slice a5 L5.length c5, .int .i64 x7, .int .i64 x8, .int .i64 x9] ∧ R_YardOut.ow W S (((L0, L1, L2, x3), L3, L4, L5, x7), x8, x9) [.slice a0 L0.length c0, .slice a1 L1.length c1, .slice a2 L2.length c2, .int .i64 x3, .slice a3 L3.length c3, .slice a4 L4.length c4, .slice a5 L5.length c5, .int .i64 x7, .int .i64 x8, .int .i64 x9] := by
  have h0 := h
  obtain ⟨a0, c0, a1, c1, a2, c2, a3, c3, a4, c4, a5, c5, T0, T1, T2, T3, T4, T5, rfl, _⟩ := ow_YardOut h
  exact ⟨a0, c0, a1, c1, a2, c2, a3, c3, a4, c4, a5, c5, rfl, h0⟩
theorem cvd_YardOut {L0 : List (List (D_Label))} {L1 : List (D_Pair)} {L2 : List (D_Quota)} {x3 : Int} {L3 : List (D_Node)} {L4 : List (D_Task)} {L5 : List (D_Use)} {x7 : Int} {x8 : Int} {x9 : Int} : R_YardOut.cv (((L0, L1, L2, x3), L3, L4, L5, x7), x8, x9) = sumL ((Sl R_Label)).cm L0 + sumL (R_Pair).cm L1 + sumL (R_Quota).cm L2 + sumL (R_Node).cm L3 + sumL (R_Task).cm L4 + sumL (R_Use).cm L5 := by
  simp only [R_YardOut, R_Yard, R_Config, Pr, Sl, I, Bo, atom]; omega
set_option maxRecDepth 100000 in
theorem gmark_YardOut {d : D_YardOut} {cs : List Value} {W : World} {S : Nat → Prop} {k : Int} (h0 : 0 ≤ k) (h1 : k + (R_YardOut.cv d : Nat) ≤ 4611686018427387904) (hS : ∀ q, S q → q < W.heap.size) (h : R_YardOut.ow W S d cs) : Calls Tryz.prog 17 #[.agg cs.toArray, .int .i64 k] W (MarkG R_YardOut d cs S k W) := by
  obtain ⟨⟨⟨L0, L1, L2, x3⟩, L3, L4, L5, x7⟩, x8, x9⟩ := d
  obtain ⟨a0, c0, a1, c1, a2, c2, a3, c3, a4, c4, a5, c5, T0, T1, T2, T3, T4, T5, rfl, hs0, hs1, hs2, hs3, hs4, hs5, hd0_1, hd0_2, hd0_3, hd0_4, hd0_5, hd1_2, hd1_3, hd1_4, hd1_5, hd2_3, hd2_4, hd2_5, hd3_4, hd3_5, hd4_5, k_L0, k_L1, k_L2, k_L3, k_L4, k_L5⟩ := ow_YardOut h
  have hcv := cvd_YardOut (L0 := L0) (L1 := L1) (L2 := L2) (x3 := x3) (L3 := L3) (L4 := L4) (L5 := L5) (x7 := x7) (x8 := x8) (x9 := x9)
  refine (mark_YardOut h0 (by rw [hcv] at h1; omega) (fun q hq => hS q (hs0 q hq)) (fun q hq => hS q (hs1 q hq)) (fun q hq => hS q (hs2 q hq)) (fun q hq => hS q (hs3 q hq)) (fun q hq => hS q (hs4 q hq)) (fun q hq => hS q (hs5 q hq)) (fun q hi hj => hd0_1 q hi hj) (fun q hi hj => hd0_2 q hi hj) (fun q hi hj => hd0_3 q hi hj) (fun q hi hj => hd0_4 q hi hj) (fun q hi hj => hd0_5 q hi hj) (fun q hi hj => hd1_2 q hi hj) (fun q hi hj => hd1_3 q hi hj) (fun q hi hj => hd1_4 q hi hj) (fun q hi hj => hd1_5 q hi hj) (fun q hi hj => hd2_3 q hi hj) (fun q hi hj => hd2_4 q hi hj) (fun q hi hj => hd2_5 q hi hj) (fun q hi hj => hd3_4 q hi hj) (fun q hi hj => hd3_5 q hi hj) (fun q hi hj => hd4_5 q hi hj) k_L0 k_L1 k_L2 k_L3 k_L4 k_L5).mono fun e w' hh => ?_
  obtain ⟨z0, z1, z2, z3, z4, z5, y0, y1, y2, y3, y4, y5, rfl, ⟨hl0, hm0, hz0, ho0⟩, ⟨hl1, hm1, hz1, ho1⟩, ⟨hl2, hm2, hz2, ho2⟩, ⟨hl3, hm3, hz3, ho3⟩, ⟨hl4, hm4, hz4, ho4⟩, ⟨hl5, hm5, hz5, ho5⟩, hoff⟩ := hh
  have hmk := mkow_YardOut (x3 := x3) (x7 := x7) (x8 := x8) (x9 := x9) hs0 hs1 hs2 hs3 hs4 hs5 hd0_1 hd0_2 hd0_3 hd0_4 hd0_5 hd1_2 hd1_3 hd1_4 hd1_5 hd2_3 hd2_4 hd2_5 hd3_4 hd3_5 hd4_5 ho0 ho1 ho2 ho3 ho4 ho5
  simp only [hl0, hl1, hl2, hl3, hl4, hl5] at hmk
  exact ⟨(((y0, y1, y2, x3), y3, y4, y5, x7), x8, x9), _, rfl, ⟨z5, ⟨z2, ⟨z0, hm0, ⟨z1, hm1, ⟨z2, hm2, rfl⟩⟩⟩, ⟨z3, hm3, ⟨z4, hm4, ⟨z5, hm5, rfl⟩⟩⟩⟩, ⟨z5, rfl, rfl⟩⟩, by rw [hcv]; omega, hmk, hoff.more fun q hq => by rcases hq with hq | hq | hq | hq | hq | hq <;> first | exact hs0 q hq | exact hs1 q hq | exact hs2 q hq | exact hs3 q hq | exact hs4 q hq | exact hs5 q hq⟩
set_option maxRecDepth 100000 in
theorem gheld_YardOut {d : D_YardOut} {cs : List Value} {W : World} {k z : Int} (h0 : 0 ≤ k) (h1 : z ≤ 4611686018427387904) (hm : R_YardOut.mv d k z) (h : R_YardOut.rd W W.heap.size d cs) : Calls Tryz.prog 18 #[.agg cs.toArray, .int .i64 k] W (HeldC z W) := by
  obtain ⟨⟨⟨L0, L1, L2, x3⟩, L3, L4, L5, x7⟩, x8, x9⟩ := d
  obtain ⟨a0, c0, a1, c1, a2, c2, a3, c3, a4, c4, a5, c5, rfl, k_L0, k_L1, k_L2, k_L3, k_L4, k_L5⟩ := rd_YardOut h
  obtain ⟨_, ⟨_, ⟨_, hm0, ⟨_, hm1, ⟨_, hm2, rfl⟩⟩⟩, ⟨_, hm3, ⟨_, hm4, ⟨_, hm5, rfl⟩⟩⟩⟩, ⟨_, rfl, rfl⟩⟩ := hm
  exact held_YardOut h0 h1 hm0 hm1 hm2 hm3 hm4 hm5 k_L0 k_L1 k_L2 k_L3 k_L4 k_L5
end Go.Proofs.YtelhmacfljffhaaGreat.RepC
end
section
namespace Go.Proofs.YtelhmacfljffhaaGreat.RepC
open Go.RowKit RowC ValC SpanC KeptC
set_option linter.unusedVariables false
set_option linter.unusedSimpArgs false
theorem gynew_spec {d : D_Config} {cs : List Value} {W : World} (hsz : R_Config.sz d ≤ 1048576) (h : R_Config.rd W W.heap.size d cs) : Calls Tryz.prog 11 #[.agg cs.toArray] W (NewV R_YardOut (newY d.1 d.2.1 d.2.2.1 d.2.2.2) W) := by
  obtain ⟨C, P, Q, hf⟩ := d
  obtain ⟨a0, c0, a1, c1, a2, c2, rfl, k0, k1, k2⟩ := rd_Config h
  rw [szd_Config, flat_PairS, flat_QuotaS] at hsz
  exact yardnew_spec (by omega) k0 k1 k2
theorem gynew_impl {d : D_Config} {cs : List Value} {W : World} (hsz : R_Config.sz d ≤ 1048576) (h : R_Config.rd W W.heap.size d cs) : Calls Tryz.prog 13 #[.agg cs.toArray] W (NewV R_YardOut (newY d.1 d.2.1 d.2.2.1 d.2.2.2) W) := by
  obtain ⟨C, P, Q, hf⟩ := d
  obtain ⟨a0, c0, a1, c1, a2, c2, rfl, k0, k1, k2⟩ := rd_Config h
  rw [szd_Config, flat_PairS, flat_QuotaS] at hsz
  exact yardnew_impl (by omega) k0 k1 k2
theorem cm_rep : ∀ n : Nat, sumL R_Node.cm (List.replicate n (1, [])) = n
  | 0 => rfl
  | n + 1 => by
    rw [List.replicate_succ]
    simp only [sumL, cm_rep n]
    show 1 + 0 + n = n + 1
    omega
theorem newy_small {d : D_Config} {r : D_YardOut} (hsz : R_Config.sz d ≤ 1048576) (hd : newY d.1 d.2.1 d.2.2.1 d.2.2.2 = r) : R_YardOut.cv r ≤ 16777216 := by
  obtain ⟨C, P, Q, hf⟩ := d
  have h1 := cvs_Config hsz
  rw [cvd_Config] at h1
  subst hd
  cases hc : cfgB C P Q hf with
  | true =>
    show R_YardOut.cv (newY C P Q hf) ≤ _
    rw [newY_yes hc, cvd_YardOut]
    have h2 : sumL R_Node.cm (newV (C.length : Int)) ≤ 6 := by
      unfold newV
      split
      · rename_i h
        rw [cm_rep]
        have := (isB_iff _ _ _).1 h
        omega
      · exact Nat.zero_le _
    show _ + sumL R_Node.cm (newV (C.length : Int)) + 0 + 0 ≤ _
    omega
  | false =>
    show R_YardOut.cv (newY C P Q hf) ≤ _
    rw [newY_no hc]
    show 0 + _ ≤ _
    decide
end Go.Proofs.YtelhmacfljffhaaGreat.RepC
end
section
namespace Go.Proofs.YtelhmacfljffhaaGreat.RepC
open Go.RowKit RowC ValC SpanC KeptC
set_option linter.unusedVariables false
set_option linter.unusedSimpArgs false
set_option maxRecDepth 100000 in
set_option maxHeartbeats 4000000 in
theorem law_yardnew {CL0 : List (List (D_Label))} {CL1 : List (D_Pair)} {CL2 : List (D_Quota)} {Cx3 : Int} {Ca0 : Option Addr} {Cc0 : Nat} {Ca1 : Option Addr} {Cc1 : Nat} {Ca2 : Option Addr} {Cc2 : Nat} {W : World} (hC : R_Config.rd W W.heap.size (CL0, CL1, CL2, Cx3) [.slice Ca0 CL0.length Cc0, .slice Ca1 CL1.length Cc1, .slice Ca2 CL2.length Cc2, .int .i64 Cx3]) :
    Calls Tryz.prog 4 #[.agg #[.slice Ca0 CL0.length Cc0, .slice Ca1 CL1.length Cc1, .slice Ca2 CL2.length Cc2, .int .i64 Cx3]] W fun e w' => e = .returned (.bool true) ∧ Below W.heap.size W w' := by
  have HC := Lib.hid hC
  have HC0 := Lib.hid hC
  clear hC
  have hbA : Below (W).heap.size (W) (W.alloc (.cells #[.slice Ca0 CL0.length Cc0, .slice Ca1 CL1.length Cc1, .slice Ca2 CL2.length Cc2, .int .i64 Cx3] 26)) := (Below.refl _ _).alloc (Nat.le_refl _) _
  have HC_1 := Lib.hid (gmv R_Config_ok HC.out hbA)
  have HB1 := Lib.hid (show Below W.heap.size W (W.alloc (.cells #[.slice Ca0 CL0.length Cc0, .slice Ca1 CL1.length Cc1, .slice Ca2 CL2.length Cc2, .int .i64 Cx3] 26)) from hbA)
  have HZ1 := Lib.hid ((hbA).size)
  clear HC
  have PC_1 := Blk.new (W) 26 #[.slice Ca0 CL0.length Cc0, .slice Ca1 CL1.length Cc1, .slice Ca2 CL2.length Cc2, .int .i64 Cx3]
  have PCh_1 := Lib.hid PC_1
  clear PC_1 hbA
  by_cases hsz : R_Config.sz (CL0, CL1, CL2, Cx3) ≤ 1048576
  rotate_left
  · skip
    go_enter Tryz.func4, Tryz.ntmps4
    have qPC_0 := PCh_1.out.at_ 0 rfl
    have qPC_1 := PCh_1.out.at_ 1 rfl
    have qPC_2 := PCh_1.out.at_ 2 rfl
    have qPC_3 := PCh_1.out.at_ 3 rfl
    go_wp2_with fail
    refine (gsz_Config (by omega) (by omega) HC_1.out).mono ?_
    intro e w2 h
    obtain ⟨rfl, hb⟩ := szC_elim h
    rw [szR_no (by omega)]
    clear qPC_0 qPC_1 qPC_2 qPC_3
    have PC_2 := Lib.hid (PCh_1.out.call hb)
    have HC_2 := Lib.hid (gmv R_Config_ok HC_1.out hb)
    have HB2 := Lib.hid (HB1.out.trans ((hb).mono HB1.out.size))
    have HZ2 := Lib.hid ((hb).size)
    clear PCh_1 HC_1 HB1
    clear h hb
    go_wp2
    go_ret
    exact ⟨rfl, HB2.out⟩
  have HSZC := Lib.hid hsz
  have HSAC := Lib.hid (cvs_Config hsz)
  obtain ⟨m, hm⟩ : ∃ m : Nat, R_Config.sz (CL0, CL1, CL2, Cx3) = m := ⟨_, rfl⟩
  have HM := Lib.hid hm
  rw [hm] at hsz
  clear hm
  have hlt1 : decide ((1048576 : Int) - (m : Int) < 0) = false := decide_eq_false (by omega)
  obtain ⟨⟨⟨⟨dL0, dL1, dL2, dx3⟩, dL3, dL4, dL5, dx7⟩, dx8, dx9⟩, hD⟩ : ∃ d, newY CL0 CL1 CL2 Cx3 = d := ⟨_, rfl⟩
  have HDD := Lib.hid hD
  have HSM := Lib.hid (newy_small HSZC.out hD)
  clear hD
  go_enter Tryz.func4, Tryz.ntmps4
  have qPC_0 := PCh_1.out.at_ 0 rfl
  have qPC_1 := PCh_1.out.at_ 1 rfl
  have qPC_2 := PCh_1.out.at_ 2 rfl
  have qPC_3 := PCh_1.out.at_ 3 rfl
  go_wp2_with fail
  refine (gsz_Config (by omega) (by omega) HC_1.out).mono ?_
  intro e w2 h
  obtain ⟨rfl, hb⟩ := szC_elim h
  rw [HM.out, szR_yes (by omega)]
  clear qPC_0 qPC_1 qPC_2 qPC_3
  have PC_2 := Lib.hid (PCh_1.out.call hb)
  have HC_2 := Lib.hid (gmv R_Config_ok HC_1.out hb)
  have HB2 := Lib.hid (HB1.out.trans ((hb).mono HB1.out.size))
  have HZ2 := Lib.hid ((hb).size)
  clear PCh_1 HC_1 HB1
  clear hsz
  clear h hb
  have HPL := Lib.hid (PC_2.out.lt)
  have qPC_0 := PC_2.out.at_ 0 rfl
  have qPC_1 := PC_2.out.at_ 1 rfl
  have qPC_2 := PC_2.out.at_ 2 rfl
  have qPC_3 := PC_2.out.at_ 3 rfl
  go_wp2_with fail
  refine (gto_Config HSZC.out HC_2.out).mono ?_
  intro e w3 h
  obtain ⟨us, rfl, hu, hb⟩ := newV_elim h
  obtain ⟨aC03, cC03, aC13, cC13, aC23, cC23, rfl, hu⟩ := owc_Config hu
  clear qPC_0 qPC_1 qPC_2 qPC_3
  have PC_3 := Lib.hid (PC_2.out.call hb)
  have HC_3 := Lib.hid (gmv R_Config_ok HC_2.out hb)
  have HB3 := Lib.hid (HB2.out.trans ((hb).mono HB2.out.size))
  have HZ3 := Lib.hid ((hb).size)
  clear PC_2 HC_2 HB2
  have NC_3 := Lib.hid (owG_new hu)
  clear hu
  clear h hb
  go_wp2_with fail
  refine (gynew_spec HSZC.out (NC_3.out.rd R_Config_ok)).mono ?_
  intro e w4 h
  rw [HDD.out] at h
  obtain ⟨us, rfl, hu, hb⟩ := newV_elim h
  obtain ⟨ra0w, rc0w, ra1w, rc1w, ra2w, rc2w, ra3w, rc3w, ra4w, rc4w, ra5w, rc5w, rfl, hu⟩ := owc_YardOut hu
  have PC_4 := Lib.hid (PC_3.out.call hb)
  have HC_4 := Lib.hid (gmv R_Config_ok HC_3.out hb)
  have NC_4 := Lib.hid (NC_3.out.mv R_Config_ok hb)
  have HB4 := Lib.hid (HB3.out.trans ((hb).mono HB3.out.size))
  have HZ4 := Lib.hid ((hb).size)
  clear PC_3 HC_3 NC_3 HB3
  have Yw_4 := Lib.hid (owG_new hu)
  have HSw := Lib.hid (fun k (hk : Rg w3.heap.size w4.heap.size k) => hk)
  clear hu
  clear h hb
  clear NC_4
  have hbA : Below (w4).heap.size (w4) (w4.alloc (.cells #[.slice ra0w dL0.length rc0w, .slice ra1w dL1.length rc1w, .slice ra2w dL2.length rc2w, .int .i64 dx3, .slice ra3w dL3.length rc3w, .slice ra4w dL4.length rc4w, .slice ra5w dL5.length rc5w, .int .i64 dx7, .int .i64 dx8, .int .i64 dx9] 49)) := (Below.refl _ _).alloc (Nat.le_refl _) _
  have PC_5 := Lib.hid (PC_4.out.call hbA)
  have HC_5 := Lib.hid (gmv R_Config_ok HC_4.out hbA)
  have Yw_5 := Lib.hid (Yw_4.out.mv R_YardOut_ok hbA)
  have HB5 := Lib.hid (HB4.out.trans ((hbA).mono HB4.out.size))
  have HZ5 := Lib.hid ((hbA).size)
  clear PC_4 HC_4 Yw_4 HB4
  have Bw_5 := Blk.new (w4) 49 #[.slice ra0w dL0.length rc0w, .slice ra1w dL1.length rc1w, .slice ra2w dL2.length rc2w, .int .i64 dx3, .slice ra3w dL3.length rc3w, .slice ra4w dL4.length rc4w, .slice ra5w dL5.length rc5w, .int .i64 dx7, .int .i64 dx8, .int .i64 dx9]
  have Bwh_5 := Lib.hid Bw_5
  clear Bw_5 hbA
  have HZ6 := Lib.hid ((show (w4.alloc (.cells #[.slice ra0w dL0.length rc0w, .slice ra1w dL1.length rc1w, .slice ra2w dL2.length rc2w, .int .i64 dx3, .slice ra3w dL3.length rc3w, .slice ra4w dL4.length rc4w, .slice ra5w dL5.length rc5w, .int .i64 dx7, .int .i64 dx8, .int .i64 dx9] 49)).heap.size = w4.heap.size + 1 by simp))
  obtain ⟨wz5, hwz5⟩ : ∃ w, w = w4.alloc (.cells #[.slice ra0w dL0.length rc0w, .slice ra1w dL1.length rc1w, .slice ra2w dL2.length rc2w, .int .i64 dx3, .slice ra3w dL3.length rc3w, .slice ra4w dL4.length rc4w, .slice ra5w dL5.length rc5w, .int .i64 dx7, .int .i64 dx8, .int .i64 dx9] 49) := ⟨_, rfl⟩
  rw [← hwz5] at PC_5 Bwh_5 HC_5 Yw_5 HB5 HZ5 HZ6
  have qPC_0 := PC_5.out.at_ 0 rfl
  have qPC_1 := PC_5.out.at_ 1 rfl
  have qPC_2 := PC_5.out.at_ 2 rfl
  have qPC_3 := PC_5.out.at_ 3 rfl
  have qPC_0_u := qPC_0
  rw [hwz5] at qPC_0_u
  have qPC_1_u := qPC_1
  rw [hwz5] at qPC_1_u
  have qPC_2_u := qPC_2
  rw [hwz5] at qPC_2_u
  have qPC_3_u := qPC_3
  rw [hwz5] at qPC_3_u
  go_wp2_with fail
  rw [← hwz5]
  clear hwz5
  refine (gto_Config HSZC.out HC_5.out).mono ?_
  intro e w6 h
  obtain ⟨us, rfl, hu, hb⟩ := newV_elim h
  obtain ⟨aC06, cC06, aC16, cC16, aC26, cC26, rfl, hu⟩ := owc_Config hu
  clear qPC_0 qPC_1 qPC_2 qPC_3 qPC_0_u qPC_1_u qPC_2_u qPC_3_u
  have PC_6 := Lib.hid (PC_5.out.call hb)
  have Bw_6 := Lib.hid (Bwh_5.out.call hb)
  have HC_6 := Lib.hid (gmv R_Config_ok HC_5.out hb)
  have Yw_6 := Lib.hid (Yw_5.out.mv R_YardOut_ok hb)
  have HB6 := Lib.hid (HB5.out.trans ((hb).mono HB5.out.size))
  have HZ7 := Lib.hid ((hb).size)
  clear PC_5 Bwh_5 HC_5 Yw_5 HB5
  have X_6 := Lib.hid (owG_new hu)
  have HSX := Lib.hid (fun k (hk : Rg wz5.heap.size w6.heap.size k) => hk)
  clear hu
  clear h hb
  have hbA : Below (w6).heap.size (w6) (w6.alloc (.cells #[.slice aC06 CL0.length cC06, .slice aC16 CL1.length cC16, .slice aC26 CL2.length cC26, .int .i64 Cx3] 38)) := (Below.refl _ _).alloc (Nat.le_refl _) _
  have PC_7 := Lib.hid (PC_6.out.call hbA)
  have Bw_7 := Lib.hid (Bw_6.out.call hbA)
  have HC_7 := Lib.hid (gmv R_Config_ok HC_6.out hbA)
  have Yw_7 := Lib.hid (Yw_6.out.mv R_YardOut_ok hbA)
  have X_7 := Lib.hid (X_6.out.mv R_Config_ok hbA)
  have HB7 := Lib.hid (HB6.out.trans ((hbA).mono HB6.out.size))
  have HZ8 := Lib.hid ((hbA).size)
  clear PC_6 Bw_6 HC_6 Yw_6 X_6 HB6
  have BX_7 := Blk.new (w6) 38 #[.slice aC06 CL0.length cC06, .slice aC16 CL1.length cC16, .slice aC26 CL2.length cC26, .int .i64 Cx3]
  have BXh_7 := Lib.hid BX_7
  clear BX_7 hbA
  have HZ9 := Lib.hid ((show (w6.alloc (.cells #[.slice aC06 CL0.length cC06, .slice aC16 CL1.length cC16, .slice aC26 CL2.length cC26, .int .i64 Cx3] 38)).heap.size = w6.heap.size + 1 by simp))
  obtain ⟨wz7, hwz7⟩ : ∃ w, w = w6.alloc (.cells #[.slice aC06 CL0.length cC06, .slice aC16 CL1.length cC16, .slice aC26 CL2.length cC26, .int .i64 Cx3] 38) := ⟨_, rfl⟩
  rw [← hwz7] at PC_7 Bw_7 BXh_7 HC_7 Yw_7 X_7 HB7 HZ8 HZ9
  have qBX_0 := BXh_7.out.at_ 0 rfl
  have qBX_1 := BXh_7.out.at_ 1 rfl
  have qBX_2 := BXh_7.out.at_ 2 rfl
  have qBX_3 := BXh_7.out.at_ 3 rfl
  have qBX_0_u := qBX_0
  rw [hwz7] at qBX_0_u
  have qBX_1_u := qBX_1
  rw [hwz7] at qBX_1_u
  have qBX_2_u := qBX_2
  rw [hwz7] at qBX_2_u
  have qBX_3_u := qBX_3
  rw [hwz7] at qBX_3_u
  go_wp2_with fail
  rw [← hwz7]
  clear hwz7
  refine (gynew_impl HSZC.out (X_7.out.rd R_Config_ok)).mono ?_
  intro e w8 h
  rw [HDD.out] at h
  obtain ⟨us, rfl, hu, hb⟩ := newV_elim h
  obtain ⟨ra0g, rc0g, ra1g, rc1g, ra2g, rc2g, ra3g, rc3g, ra4g, rc4g, ra5g, rc5g, rfl, hu⟩ := owc_YardOut hu
  clear qBX_0 qBX_1 qBX_2 qBX_3 qBX_0_u qBX_1_u qBX_2_u qBX_3_u
  have PC_8 := Lib.hid (PC_7.out.call hb)
  have Bw_8 := Lib.hid (Bw_7.out.call hb)
  have BX_8 := Lib.hid (BXh_7.out.call hb)
  have HC_8 := Lib.hid (gmv R_Config_ok HC_7.out hb)
  have Yw_8 := Lib.hid (Yw_7.out.mv R_YardOut_ok hb)
  have X_8 := Lib.hid (X_7.out.mv R_Config_ok hb)
  have HB8 := Lib.hid (HB7.out.trans ((hb).mono HB7.out.size))
  have HZ10 := Lib.hid ((hb).size)
  clear PC_7 Bw_7 BXh_7 HC_7 Yw_7 X_7 HB7
  have Yg_8 := Lib.hid (owG_new hu)
  have HSg := Lib.hid (fun k (hk : Rg wz7.heap.size w8.heap.size k) => hk)
  clear hu
  clear h hb
  have hbA : Below (w8).heap.size (w8) (w8.alloc (.cells #[.slice ra0g dL0.length rc0g, .slice ra1g dL1.length rc1g, .slice ra2g dL2.length rc2g, .int .i64 dx3, .slice ra3g dL3.length rc3g, .slice ra4g dL4.length rc4g, .slice ra5g dL5.length rc5g, .int .i64 dx7, .int .i64 dx8, .int .i64 dx9] 49)) := (Below.refl _ _).alloc (Nat.le_refl _) _
  have PC_9 := Lib.hid (PC_8.out.call hbA)
  have Bw_9 := Lib.hid (Bw_8.out.call hbA)
  have BX_9 := Lib.hid (BX_8.out.call hbA)
  have HC_9 := Lib.hid (gmv R_Config_ok HC_8.out hbA)
  have Yw_9 := Lib.hid (Yw_8.out.mv R_YardOut_ok hbA)
  have X_9 := Lib.hid (X_8.out.mv R_Config_ok hbA)
  have Yg_9 := Lib.hid (Yg_8.out.mv R_YardOut_ok hbA)
  have HB9 := Lib.hid (HB8.out.trans ((hbA).mono HB8.out.size))
  have HZ11 := Lib.hid ((hbA).size)
  clear PC_8 Bw_8 BX_8 HC_8 Yw_8 X_8 Yg_8 HB8
  have Bg_9 := Blk.new (w8) 49 #[.slice ra0g dL0.length rc0g, .slice ra1g dL1.length rc1g, .slice ra2g dL2.length rc2g, .int .i64 dx3, .slice ra3g dL3.length rc3g, .slice ra4g dL4.length rc4g, .slice ra5g dL5.length rc5g, .int .i64 dx7, .int .i64 dx8, .int .i64 dx9]
  have Bgh_9 := Lib.hid Bg_9
  clear Bg_9 hbA
  have HZ12 := Lib.hid ((show (w8.alloc (.cells #[.slice ra0g dL0.length rc0g, .slice ra1g dL1.length rc1g, .slice ra2g dL2.length rc2g, .int .i64 dx3, .slice ra3g dL3.length rc3g, .slice ra4g dL4.length rc4g, .slice ra5g dL5.length rc5g, .int .i64 dx7, .int .i64 dx8, .int .i64 dx9] 49)).heap.size = w8.heap.size + 1 by simp))
  obtain ⟨wz9, hwz9⟩ : ∃ w, w = w8.alloc (.cells #[.slice ra0g dL0.length rc0g, .slice ra1g dL1.length rc1g, .slice ra2g dL2.length rc2g, .int .i64 dx3, .slice ra3g dL3.length rc3g, .slice ra4g dL4.length rc4g, .slice ra5g dL5.length rc5g, .int .i64 dx7, .int .i64 dx8, .int .i64 dx9] 49) := ⟨_, rfl⟩
  rw [← hwz9] at PC_9 Bw_9 BX_9 Bgh_9 HC_9 Yw_9 X_9 Yg_9 HB9 HZ11 HZ12
  have qBg_0 := Bgh_9.out.at_ 0 rfl
  have qBg_1 := Bgh_9.out.at_ 1 rfl
  have qBg_2 := Bgh_9.out.at_ 2 rfl
  have qBg_3 := Bgh_9.out.at_ 3 rfl
  have qBg_4 := Bgh_9.out.at_ 4 rfl
  have qBg_5 := Bgh_9.out.at_ 5 rfl
  have qBg_6 := Bgh_9.out.at_ 6 rfl
  have qBg_7 := Bgh_9.out.at_ 7 rfl
  have qBg_8 := Bgh_9.out.at_ 8 rfl
  have qBg_9 := Bgh_9.out.at_ 9 rfl
  have qBw_0 := Bw_9.out.at_ 0 rfl
  have qBw_1 := Bw_9.out.at_ 1 rfl
  have qBw_2 := Bw_9.out.at_ 2 rfl
  have qBw_3 := Bw_9.out.at_ 3 rfl
  have qBw_4 := Bw_9.out.at_ 4 rfl
  have qBw_5 := Bw_9.out.at_ 5 rfl
  have qBw_6 := Bw_9.out.at_ 6 rfl
  have qBw_7 := Bw_9.out.at_ 7 rfl
  have qBw_8 := Bw_9.out.at_ 8 rfl
  have qBw_9 := Bw_9.out.at_ 9 rfl
  have qBg_0_u := qBg_0
  rw [hwz9] at qBg_0_u
  have qBg_1_u := qBg_1
  rw [hwz9] at qBg_1_u
  have qBg_2_u := qBg_2
  rw [hwz9] at qBg_2_u
  have qBg_3_u := qBg_3
  rw [hwz9] at qBg_3_u
  have qBg_4_u := qBg_4
  rw [hwz9] at qBg_4_u
  have qBg_5_u := qBg_5
  rw [hwz9] at qBg_5_u
  have qBg_6_u := qBg_6
  rw [hwz9] at qBg_6_u
  have qBg_7_u := qBg_7
  rw [hwz9] at qBg_7_u
  have qBg_8_u := qBg_8
  rw [hwz9] at qBg_8_u
  have qBg_9_u := qBg_9
  rw [hwz9] at qBg_9_u
  have qBw_0_u := qBw_0
  rw [hwz9] at qBw_0_u
  have qBw_1_u := qBw_1
  rw [hwz9] at qBw_1_u
  have qBw_2_u := qBw_2
  rw [hwz9] at qBw_2_u
  have qBw_3_u := qBw_3
  rw [hwz9] at qBw_3_u
  have qBw_4_u := qBw_4
  rw [hwz9] at qBw_4_u
  have qBw_5_u := qBw_5
  rw [hwz9] at qBw_5_u
  have qBw_6_u := qBw_6
  rw [hwz9] at qBw_6_u
  have qBw_7_u := qBw_7
  rw [hwz9] at qBw_7_u
  have qBw_8_u := qBw_8
  rw [hwz9] at qBw_8_u
  have qBw_9_u := qBw_9
  rw [hwz9] at qBw_9_u
  go_wp2_with fail
  rw [← hwz9]
  clear hwz9
  refine (geq_YardOut (Yg_9.out.rd R_YardOut_ok) (Yw_9.out.rd R_YardOut_ok)).mono ?_
  intro e w10 h
  obtain ⟨rfl, hb⟩ := isB_elim h
  clear qBg_0 qBg_1 qBg_2 qBg_3 qBg_4 qBg_5 qBg_6 qBg_7 qBg_8 qBg_9 qBw_0 qBw_1 qBw_2 qBw_3 qBw_4 qBw_5 qBw_6 qBw_7 qBw_8 qBw_9 qBg_0_u qBg_1_u qBg_2_u qBg_3_u qBg_4_u qBg_5_u qBg_6_u qBg_7_u qBg_8_u qBg_9_u qBw_0_u qBw_1_u qBw_2_u qBw_3_u qBw_4_u qBw_5_u qBw_6_u qBw_7_u qBw_8_u qBw_9_u
  have PC_10 := Lib.hid (PC_9.out.call hb)
  have Bw_10 := Lib.hid (Bw_9.out.call hb)
  have BX_10 := Lib.hid (BX_9.out.call hb)
  have Bg_10 := Lib.hid (Bgh_9.out.call hb)
  have HC_10 := Lib.hid (gmv R_Config_ok HC_9.out hb)
  have Yw_10 := Lib.hid (Yw_9.out.mv R_YardOut_ok hb)
  have X_10 := Lib.hid (X_9.out.mv R_Config_ok hb)
  have Yg_10 := Lib.hid (Yg_9.out.mv R_YardOut_ok hb)
  have HB10 := Lib.hid (HB9.out.trans ((hb).mono HB9.out.size))
  have HZ13 := Lib.hid ((hb).size)
  clear PC_9 Bw_9 BX_9 Bgh_9 HC_9 Yw_9 X_9 Yg_9 HB9
  clear h hb
  go_wp2_with fail
  refine wp_region_held_drew (S := (fun V => Below (w10).heap.size (w10) V)) (by kernel_rfl) ((Below.refl _ _).drew) (fun hHeld => ?_)
  refine tk 0 hHeld ?_ (hy := fun w hSw => by (try dsimp only at hSw); have k0 := (hSw.cell (p := ⟨w6.heap.size, 0, none⟩) BX_10.out.lt).trans (BX_10.out.at_ 0 rfl); have k1 := (hSw.cell (p := ⟨w6.heap.size, 1, none⟩) BX_10.out.lt).trans (BX_10.out.at_ 1 rfl); have k2 := (hSw.cell (p := ⟨w6.heap.size, 2, none⟩) BX_10.out.lt).trans (BX_10.out.at_ 2 rfl); have k3 := (hSw.cell (p := ⟨w6.heap.size, 3, none⟩) BX_10.out.lt).trans (BX_10.out.at_ 3 rfl); clear hSw; go_simp; try with_reducible rfl)
  refine tk 1 hHeld ?_ (hy := fun w hSw => by (try dsimp only at hSw); have k0 := (hSw.cell (p := ⟨W.heap.size, 0, none⟩) PC_10.out.lt).trans (PC_10.out.at_ 0 rfl); have k1 := (hSw.cell (p := ⟨W.heap.size, 1, none⟩) PC_10.out.lt).trans (PC_10.out.at_ 1 rfl); have k2 := (hSw.cell (p := ⟨W.heap.size, 2, none⟩) PC_10.out.lt).trans (PC_10.out.at_ 2 rfl); have k3 := (hSw.cell (p := ⟨W.heap.size, 3, none⟩) PC_10.out.lt).trans (PC_10.out.at_ 3 rfl); clear hSw; go_simp; try with_reducible rfl)
  refine rd1 2 (fun K hK => ?_)
  go_simp
  go_at_call 12
  refine (gto_Config HSZC.out (gmv R_Config_ok HC_10.out hHeld)).mono ?_
  intro e w1001 h
  obtain ⟨us, rfl, hu, hb⟩ := newV_elim h
  obtain ⟨aC01001, cC01001, aC11001, cC11001, aC21001, cC21001, rfl, hu⟩ := owc_Config hu
  have NZ := Lib.hid (owG_new hu)
  clear h hu
  refine hK.out _ _ (hHeld.trans (hb.mono hHeld.size)) (fun hHeld => ?_)
  clear hK K hb
  refine rd1 3 (fun K hK => ?_)
  go_simp
  go_at_call 15
  refine (geq_Config (gmv R_Config_ok (X_10.out.rd R_Config_ok) hHeld) (NZ.out.rd R_Config_ok)).mono ?_
  intro e w1002 h
  obtain ⟨rfl, hb⟩ := isB_elim h
  clear h
  refine hK.out _ _ (hHeld.trans (hb.mono hHeld.size)) (fun hHeld => ?_)
  clear hK K hb
  refine tk 4 hHeld ?_
  refine rd0 ?_
  have HF := Lib.hid hHeld
  clear hHeld
  have hF := HF.out
  have PC_11 := Lib.hid (PC_10.out.call hF)
  have Bw_11 := Lib.hid (Bw_10.out.call hF)
  have BX_11 := Lib.hid (BX_10.out.call hF)
  have Bg_11 := Lib.hid (Bg_10.out.call hF)
  have HC_11 := Lib.hid (gmv R_Config_ok HC_10.out hF)
  have Yw_11 := Lib.hid (Yw_10.out.mv R_YardOut_ok hF)
  have X_11 := Lib.hid (X_10.out.mv R_Config_ok hF)
  have Yg_11 := Lib.hid (Yg_10.out.mv R_YardOut_ok hF)
  have HB11 := Lib.hid (HB10.out.trans ((hF).mono HB10.out.size))
  have HZ14 := Lib.hid ((hF).size)
  clear PC_10 Bw_10 BX_10 Bg_10 HB10
  clear HF hF NZ
  have qBX_0 := BX_11.out.at_ 0 rfl
  have qBX_1 := BX_11.out.at_ 1 rfl
  have qBX_2 := BX_11.out.at_ 2 rfl
  have qBX_3 := BX_11.out.at_ 3 rfl
  go_wp2_with fail
  refine (gmark_Config (by omega) (by have h1 := HSAC.out; omega) X_11.out.2 X_11.out.1).mono ?_
  intro e wm h
  obtain ⟨dM, y1, rfl, hmv, hzz, ho, hoff⟩ := markG_elim h
  clear qBX_0 qBX_1 qBX_2 qBX_3
  have HB12 := Lib.hid (HB11.out.trans (hoff.below HB11.out.size (fun k hk => by have zHZ2 := HZ2.out; have zHZ3 := HZ3.out; have zHZ4 := HZ4.out; have zHZ5 := HZ5.out; have zHZ6 := HZ6.out; have zHZ7 := HZ7.out; have zHZ8 := HZ8.out; have zHZ9 := HZ9.out; have zHZ10 := HZ10.out; have zHZ11 := HZ11.out; have zHZ12 := HZ12.out; have zHZ13 := HZ13.out; have zHZ14 := HZ14.out; have yHPL := HPL.out; have rX := HSX.out _ hk; try unfold Rg at rX; omega)))
  have PC_12 := Lib.hid (PC_11.out.off hoff PC_11.out.lt (fun hk => by have zHZ2 := HZ2.out; have zHZ3 := HZ3.out; have zHZ4 := HZ4.out; have zHZ5 := HZ5.out; have zHZ6 := HZ6.out; have zHZ7 := HZ7.out; have zHZ8 := HZ8.out; have zHZ9 := HZ9.out; have zHZ10 := HZ10.out; have zHZ11 := HZ11.out; have zHZ12 := HZ12.out; have zHZ13 := HZ13.out; have zHZ14 := HZ14.out; have yHPL := HPL.out; have rX := HSX.out _ hk; try unfold Rg at rX; omega))
  have Bw_12 := Lib.hid (Bw_11.out.off hoff Bw_11.out.lt (fun hk => by have zHZ2 := HZ2.out; have zHZ3 := HZ3.out; have zHZ4 := HZ4.out; have zHZ5 := HZ5.out; have zHZ6 := HZ6.out; have zHZ7 := HZ7.out; have zHZ8 := HZ8.out; have zHZ9 := HZ9.out; have zHZ10 := HZ10.out; have zHZ11 := HZ11.out; have zHZ12 := HZ12.out; have zHZ13 := HZ13.out; have zHZ14 := HZ14.out; have yHPL := HPL.out; have rX := HSX.out _ hk; try unfold Rg at rX; omega))
  have BX_12 := Lib.hid (BX_11.out.off hoff BX_11.out.lt (fun hk => by have zHZ2 := HZ2.out; have zHZ3 := HZ3.out; have zHZ4 := HZ4.out; have zHZ5 := HZ5.out; have zHZ6 := HZ6.out; have zHZ7 := HZ7.out; have zHZ8 := HZ8.out; have zHZ9 := HZ9.out; have zHZ10 := HZ10.out; have zHZ11 := HZ11.out; have zHZ12 := HZ12.out; have zHZ13 := HZ13.out; have zHZ14 := HZ14.out; have yHPL := HPL.out; have rX := HSX.out _ hk; try unfold Rg at rX; omega))
  have Bg_12 := Lib.hid (Bg_11.out.off hoff Bg_11.out.lt (fun hk => by have zHZ2 := HZ2.out; have zHZ3 := HZ3.out; have zHZ4 := HZ4.out; have zHZ5 := HZ5.out; have zHZ6 := HZ6.out; have zHZ7 := HZ7.out; have zHZ8 := HZ8.out; have zHZ9 := HZ9.out; have zHZ10 := HZ10.out; have zHZ11 := HZ11.out; have zHZ12 := HZ12.out; have zHZ13 := HZ13.out; have zHZ14 := HZ14.out; have yHPL := HPL.out; have rX := HSX.out _ hk; try unfold Rg at rX; omega))
  have HC_12 := Lib.hid (gmv R_Config_ok HC0.out HB12.out)
  have Yw_12 := Lib.hid (Yw_11.out.off R_YardOut_ok hoff (fun k hk hk2 => by have zHZ2 := HZ2.out; have zHZ3 := HZ3.out; have zHZ4 := HZ4.out; have zHZ5 := HZ5.out; have zHZ6 := HZ6.out; have zHZ7 := HZ7.out; have zHZ8 := HZ8.out; have zHZ9 := HZ9.out; have zHZ10 := HZ10.out; have zHZ11 := HZ11.out; have zHZ12 := HZ12.out; have zHZ13 := HZ13.out; have zHZ14 := HZ14.out; have yHPL := HPL.out; have rX := HSX.out k hk2; try unfold Rg at rX; have rw := HSw.out k hk; try unfold Rg at rw; omega))
  have Yg_12 := Lib.hid (Yg_11.out.off R_YardOut_ok hoff (fun k hk hk2 => by have zHZ2 := HZ2.out; have zHZ3 := HZ3.out; have zHZ4 := HZ4.out; have zHZ5 := HZ5.out; have zHZ6 := HZ6.out; have zHZ7 := HZ7.out; have zHZ8 := HZ8.out; have zHZ9 := HZ9.out; have zHZ10 := HZ10.out; have zHZ11 := HZ11.out; have zHZ12 := HZ12.out; have zHZ13 := HZ13.out; have zHZ14 := HZ14.out; have yHPL := HPL.out; have rX := HSX.out k hk2; try unfold Rg at rX; have rg := HSg.out k hk; try unfold Rg at rg; omega))
  have hkn : decide (y1 < 0) = false := decide_eq_false (by omega)
  have HZ15 := Lib.hid (hoff.size)
  clear h hmv hzz ho hoff
  have qBg_0 := Bg_12.out.at_ 0 rfl
  have qBg_1 := Bg_12.out.at_ 1 rfl
  have qBg_2 := Bg_12.out.at_ 2 rfl
  have qBg_3 := Bg_12.out.at_ 3 rfl
  have qBg_4 := Bg_12.out.at_ 4 rfl
  have qBg_5 := Bg_12.out.at_ 5 rfl
  have qBg_6 := Bg_12.out.at_ 6 rfl
  have qBg_7 := Bg_12.out.at_ 7 rfl
  have qBg_8 := Bg_12.out.at_ 8 rfl
  have qBg_9 := Bg_12.out.at_ 9 rfl
  have qBw_0 := Bw_12.out.at_ 0 rfl
  have qBw_1 := Bw_12.out.at_ 1 rfl
  have qBw_2 := Bw_12.out.at_ 2 rfl
  have qBw_3 := Bw_12.out.at_ 3 rfl
  have qBw_4 := Bw_12.out.at_ 4 rfl
  have qBw_5 := Bw_12.out.at_ 5 rfl
  have qBw_6 := Bw_12.out.at_ 6 rfl
  have qBw_7 := Bw_12.out.at_ 7 rfl
  have qBw_8 := Bw_12.out.at_ 8 rfl
  have qBw_9 := Bw_12.out.at_ 9 rfl
  go_wp2_with fail
  refine (geq_YardOut (Yg_12.out.rd R_YardOut_ok) (Yw_12.out.rd R_YardOut_ok)).mono ?_
  intro e w13 h
  obtain ⟨rfl, hb⟩ := isB_elim h
  clear qBg_0 qBg_1 qBg_2 qBg_3 qBg_4 qBg_5 qBg_6 qBg_7 qBg_8 qBg_9 qBw_0 qBw_1 qBw_2 qBw_3 qBw_4 qBw_5 qBw_6 qBw_7 qBw_8 qBw_9
  have PC_13 := Lib.hid (PC_12.out.call hb)
  have Bw_13 := Lib.hid (Bw_12.out.call hb)
  have BX_13 := Lib.hid (BX_12.out.call hb)
  have Bg_13 := Lib.hid (Bg_12.out.call hb)
  have HC_13 := Lib.hid (gmv R_Config_ok HC_12.out hb)
  have Yw_13 := Lib.hid (Yw_12.out.mv R_YardOut_ok hb)
  have Yg_13 := Lib.hid (Yg_12.out.mv R_YardOut_ok hb)
  have HB13 := Lib.hid (HB12.out.trans ((hb).mono HB12.out.size))
  have HZ16 := Lib.hid ((hb).size)
  clear PC_12 Bw_12 BX_12 Bg_12 HC_12 Yw_12 Yg_12 HB12
  clear h hb
  clear hkn
  have qBg_0 := Bg_13.out.at_ 0 rfl
  have qBg_1 := Bg_13.out.at_ 1 rfl
  have qBg_2 := Bg_13.out.at_ 2 rfl
  have qBg_3 := Bg_13.out.at_ 3 rfl
  have qBg_4 := Bg_13.out.at_ 4 rfl
  have qBg_5 := Bg_13.out.at_ 5 rfl
  have qBg_6 := Bg_13.out.at_ 6 rfl
  have qBg_7 := Bg_13.out.at_ 7 rfl
  have qBg_8 := Bg_13.out.at_ 8 rfl
  have qBg_9 := Bg_13.out.at_ 9 rfl
  go_wp2_with fail
  refine (gmark_YardOut (by omega) (by have h1 := HSM.out; omega) Yg_13.out.2 Yg_13.out.1).mono ?_
  intro e wn h
  obtain ⟨dN, zN, rfl, hmv, hzz, ho, hoff⟩ := markG_elim h
  clear qBg_0 qBg_1 qBg_2 qBg_3 qBg_4 qBg_5 qBg_6 qBg_7 qBg_8 qBg_9
  have HB14 := Lib.hid (HB13.out.trans (hoff.below HB13.out.size (fun k hk => by have zHZ2 := HZ2.out; have zHZ3 := HZ3.out; have zHZ4 := HZ4.out; have zHZ5 := HZ5.out; have zHZ6 := HZ6.out; have zHZ7 := HZ7.out; have zHZ8 := HZ8.out; have zHZ9 := HZ9.out; have zHZ10 := HZ10.out; have zHZ11 := HZ11.out; have zHZ12 := HZ12.out; have zHZ13 := HZ13.out; have zHZ14 := HZ14.out; have zHZ15 := HZ15.out; have zHZ16 := HZ16.out; have yHPL := HPL.out; have rg := HSg.out _ hk; try unfold Rg at rg; omega)))
  have PC_14 := Lib.hid (PC_13.out.off hoff PC_13.out.lt (fun hk => by have zHZ2 := HZ2.out; have zHZ3 := HZ3.out; have zHZ4 := HZ4.out; have zHZ5 := HZ5.out; have zHZ6 := HZ6.out; have zHZ7 := HZ7.out; have zHZ8 := HZ8.out; have zHZ9 := HZ9.out; have zHZ10 := HZ10.out; have zHZ11 := HZ11.out; have zHZ12 := HZ12.out; have zHZ13 := HZ13.out; have zHZ14 := HZ14.out; have zHZ15 := HZ15.out; have zHZ16 := HZ16.out; have yHPL := HPL.out; have rg := HSg.out _ hk; try unfold Rg at rg; omega))
  have Bw_14 := Lib.hid (Bw_13.out.off hoff Bw_13.out.lt (fun hk => by have zHZ2 := HZ2.out; have zHZ3 := HZ3.out; have zHZ4 := HZ4.out; have zHZ5 := HZ5.out; have zHZ6 := HZ6.out; have zHZ7 := HZ7.out; have zHZ8 := HZ8.out; have zHZ9 := HZ9.out; have zHZ10 := HZ10.out; have zHZ11 := HZ11.out; have zHZ12 := HZ12.out; have zHZ13 := HZ13.out; have zHZ14 := HZ14.out; have zHZ15 := HZ15.out; have zHZ16 := HZ16.out; have yHPL := HPL.out; have rg := HSg.out _ hk; try unfold Rg at rg; omega))
  have BX_14 := Lib.hid (BX_13.out.off hoff BX_13.out.lt (fun hk => by have zHZ2 := HZ2.out; have zHZ3 := HZ3.out; have zHZ4 := HZ4.out; have zHZ5 := HZ5.out; have zHZ6 := HZ6.out; have zHZ7 := HZ7.out; have zHZ8 := HZ8.out; have zHZ9 := HZ9.out; have zHZ10 := HZ10.out; have zHZ11 := HZ11.out; have zHZ12 := HZ12.out; have zHZ13 := HZ13.out; have zHZ14 := HZ14.out; have zHZ15 := HZ15.out; have zHZ16 := HZ16.out; have yHPL := HPL.out; have rg := HSg.out _ hk; try unfold Rg at rg; omega))
  have Bg_14 := Lib.hid (Bg_13.out.off hoff Bg_13.out.lt (fun hk => by have zHZ2 := HZ2.out; have zHZ3 := HZ3.out; have zHZ4 := HZ4.out; have zHZ5 := HZ5.out; have zHZ6 := HZ6.out; have zHZ7 := HZ7.out; have zHZ8 := HZ8.out; have zHZ9 := HZ9.out; have zHZ10 := HZ10.out; have zHZ11 := HZ11.out; have zHZ12 := HZ12.out; have zHZ13 := HZ13.out; have zHZ14 := HZ14.out; have zHZ15 := HZ15.out; have zHZ16 := HZ16.out; have yHPL := HPL.out; have rg := HSg.out _ hk; try unfold Rg at rg; omega))
  have HC_14 := Lib.hid (gmv R_Config_ok HC0.out HB14.out)
  have Yw_14 := Lib.hid (Yw_13.out.off R_YardOut_ok hoff (fun k hk hk2 => by have zHZ2 := HZ2.out; have zHZ3 := HZ3.out; have zHZ4 := HZ4.out; have zHZ5 := HZ5.out; have zHZ6 := HZ6.out; have zHZ7 := HZ7.out; have zHZ8 := HZ8.out; have zHZ9 := HZ9.out; have zHZ10 := HZ10.out; have zHZ11 := HZ11.out; have zHZ12 := HZ12.out; have zHZ13 := HZ13.out; have zHZ14 := HZ14.out; have zHZ15 := HZ15.out; have zHZ16 := HZ16.out; have yHPL := HPL.out; have rg := HSg.out k hk2; try unfold Rg at rg; have rw := HSw.out k hk; try unfold Rg at rw; omega))
  have Yg_14 := Lib.hid (show OwG R_YardOut wn _ dN _ from ⟨ho, fun k hk => Nat.lt_of_lt_of_le (Yg_13.out.2 k hk) hoff.size⟩)
  have HMV := Lib.hid hmv
  have hzn : decide (zN < 0) = false := decide_eq_false (by omega)
  have hze : (zN != zN) = false := by simp
  have hzb : zN ≤ 4611686018427387904 := by have := HSM.out; omega
  have HZ17 := Lib.hid (hoff.size)
  clear h hmv hzz ho hoff
  have qBg_0 := Bg_14.out.at_ 0 rfl
  have qBg_1 := Bg_14.out.at_ 1 rfl
  have qBg_2 := Bg_14.out.at_ 2 rfl
  have qBg_3 := Bg_14.out.at_ 3 rfl
  have qBg_4 := Bg_14.out.at_ 4 rfl
  have qBg_5 := Bg_14.out.at_ 5 rfl
  have qBg_6 := Bg_14.out.at_ 6 rfl
  have qBg_7 := Bg_14.out.at_ 7 rfl
  have qBg_8 := Bg_14.out.at_ 8 rfl
  have qBg_9 := Bg_14.out.at_ 9 rfl
  go_wp2_with fail
  refine (gheld_YardOut (by omega) hzb HMV.out (Yg_14.out.rd R_YardOut_ok)).mono ?_
  intro e w15 h
  obtain ⟨rfl, hb⟩ := heldC_elim h
  clear qBg_0 qBg_1 qBg_2 qBg_3 qBg_4 qBg_5 qBg_6 qBg_7 qBg_8 qBg_9
  have PC_15 := Lib.hid (PC_14.out.call hb)
  have Bw_15 := Lib.hid (Bw_14.out.call hb)
  have BX_15 := Lib.hid (BX_14.out.call hb)
  have Bg_15 := Lib.hid (Bg_14.out.call hb)
  have HC_15 := Lib.hid (gmv R_Config_ok HC_14.out hb)
  have Yw_15 := Lib.hid (Yw_14.out.mv R_YardOut_ok hb)
  have Yg_15 := Lib.hid (Yg_14.out.mv R_YardOut_ok hb)
  have HB15 := Lib.hid (HB14.out.trans ((hb).mono HB14.out.size))
  have HZ18 := Lib.hid ((hb).size)
  clear PC_14 Bw_14 BX_14 Bg_14 HC_14 Yw_14 Yg_14 HB14
  clear h hb
  have qPC_0 := PC_15.out.at_ 0 rfl
  have qPC_1 := PC_15.out.at_ 1 rfl
  have qPC_2 := PC_15.out.at_ 2 rfl
  have qPC_3 := PC_15.out.at_ 3 rfl
  go_wp2_with fail
  refine (gto_Config HSZC.out HC_15.out).mono ?_
  intro e w16 h
  obtain ⟨us, rfl, hu, hb⟩ := newV_elim h
  obtain ⟨aC016, cC016, aC116, cC116, aC216, cC216, rfl, hu⟩ := owc_Config hu
  clear qPC_0 qPC_1 qPC_2 qPC_3
  have PC_16 := Lib.hid (PC_15.out.call hb)
  have Bw_16 := Lib.hid (Bw_15.out.call hb)
  have BX_16 := Lib.hid (BX_15.out.call hb)
  have Bg_16 := Lib.hid (Bg_15.out.call hb)
  have HC_16 := Lib.hid (gmv R_Config_ok HC_15.out hb)
  have Yw_16 := Lib.hid (Yw_15.out.mv R_YardOut_ok hb)
  have Yg_16 := Lib.hid (Yg_15.out.mv R_YardOut_ok hb)
  have HB16 := Lib.hid (HB15.out.trans ((hb).mono HB15.out.size))
  have HZ19 := Lib.hid ((hb).size)
  clear PC_15 Bw_15 BX_15 Bg_15 HC_15 Yw_15 Yg_15 HB15
  have NC_16 := Lib.hid (owG_new hu)
  clear hu
  clear h hb
  go_wp2_with fail
  refine (gynew_impl HSZC.out (NC_16.out.rd R_Config_ok)).mono ?_
  intro e w17 h
  rw [HDD.out] at h
  obtain ⟨us, rfl, hu, hb⟩ := newV_elim h
  obtain ⟨ra0h, rc0h, ra1h, rc1h, ra2h, rc2h, ra3h, rc3h, ra4h, rc4h, ra5h, rc5h, rfl, hu⟩ := owc_YardOut hu
  have PC_17 := Lib.hid (PC_16.out.call hb)
  have Bw_17 := Lib.hid (Bw_16.out.call hb)
  have BX_17 := Lib.hid (BX_16.out.call hb)
  have Bg_17 := Lib.hid (Bg_16.out.call hb)
  have HC_17 := Lib.hid (gmv R_Config_ok HC_16.out hb)
  have Yw_17 := Lib.hid (Yw_16.out.mv R_YardOut_ok hb)
  have Yg_17 := Lib.hid (Yg_16.out.mv R_YardOut_ok hb)
  have NC_17 := Lib.hid (NC_16.out.mv R_Config_ok hb)
  have HB17 := Lib.hid (HB16.out.trans ((hb).mono HB16.out.size))
  have HZ20 := Lib.hid ((hb).size)
  clear PC_16 Bw_16 BX_16 Bg_16 HC_16 Yw_16 Yg_16 NC_16 HB16
  have Yh_17 := Lib.hid (owG_new hu)
  have HSh := Lib.hid (fun k (hk : Rg w16.heap.size w17.heap.size k) => hk)
  clear hu
  clear h hb
  clear NC_17
  have hbA : Below (w17).heap.size (w17) (w17.alloc (.cells #[.slice ra0h dL0.length rc0h, .slice ra1h dL1.length rc1h, .slice ra2h dL2.length rc2h, .int .i64 dx3, .slice ra3h dL3.length rc3h, .slice ra4h dL4.length rc4h, .slice ra5h dL5.length rc5h, .int .i64 dx7, .int .i64 dx8, .int .i64 dx9] 49)) := (Below.refl _ _).alloc (Nat.le_refl _) _
  have PC_18 := Lib.hid (PC_17.out.call hbA)
  have Bw_18 := Lib.hid (Bw_17.out.call hbA)
  have BX_18 := Lib.hid (BX_17.out.call hbA)
  have Bg_18 := Lib.hid (Bg_17.out.call hbA)
  have HC_18 := Lib.hid (gmv R_Config_ok HC_17.out hbA)
  have Yw_18 := Lib.hid (Yw_17.out.mv R_YardOut_ok hbA)
  have Yg_18 := Lib.hid (Yg_17.out.mv R_YardOut_ok hbA)
  have Yh_18 := Lib.hid (Yh_17.out.mv R_YardOut_ok hbA)
  have HB18 := Lib.hid (HB17.out.trans ((hbA).mono HB17.out.size))
  have HZ21 := Lib.hid ((hbA).size)
  clear PC_17 Bw_17 BX_17 Bg_17 HC_17 Yw_17 Yg_17 Yh_17 HB17
  have Bh_18 := Blk.new (w17) 49 #[.slice ra0h dL0.length rc0h, .slice ra1h dL1.length rc1h, .slice ra2h dL2.length rc2h, .int .i64 dx3, .slice ra3h dL3.length rc3h, .slice ra4h dL4.length rc4h, .slice ra5h dL5.length rc5h, .int .i64 dx7, .int .i64 dx8, .int .i64 dx9]
  have Bhh_18 := Lib.hid Bh_18
  clear Bh_18 hbA
  have HZ22 := Lib.hid ((show (w17.alloc (.cells #[.slice ra0h dL0.length rc0h, .slice ra1h dL1.length rc1h, .slice ra2h dL2.length rc2h, .int .i64 dx3, .slice ra3h dL3.length rc3h, .slice ra4h dL4.length rc4h, .slice ra5h dL5.length rc5h, .int .i64 dx7, .int .i64 dx8, .int .i64 dx9] 49)).heap.size = w17.heap.size + 1 by simp))
  obtain ⟨wz18, hwz18⟩ : ∃ w, w = w17.alloc (.cells #[.slice ra0h dL0.length rc0h, .slice ra1h dL1.length rc1h, .slice ra2h dL2.length rc2h, .int .i64 dx3, .slice ra3h dL3.length rc3h, .slice ra4h dL4.length rc4h, .slice ra5h dL5.length rc5h, .int .i64 dx7, .int .i64 dx8, .int .i64 dx9] 49) := ⟨_, rfl⟩
  rw [← hwz18] at PC_18 Bw_18 BX_18 Bg_18 Bhh_18 HC_18 Yw_18 Yg_18 Yh_18 HB18 HZ21 HZ22
  have qBh_0 := Bhh_18.out.at_ 0 rfl
  have qBh_1 := Bhh_18.out.at_ 1 rfl
  have qBh_2 := Bhh_18.out.at_ 2 rfl
  have qBh_3 := Bhh_18.out.at_ 3 rfl
  have qBh_4 := Bhh_18.out.at_ 4 rfl
  have qBh_5 := Bhh_18.out.at_ 5 rfl
  have qBh_6 := Bhh_18.out.at_ 6 rfl
  have qBh_7 := Bhh_18.out.at_ 7 rfl
  have qBh_8 := Bhh_18.out.at_ 8 rfl
  have qBh_9 := Bhh_18.out.at_ 9 rfl
  have qBw_0 := Bw_18.out.at_ 0 rfl
  have qBw_1 := Bw_18.out.at_ 1 rfl
  have qBw_2 := Bw_18.out.at_ 2 rfl
  have qBw_3 := Bw_18.out.at_ 3 rfl
  have qBw_4 := Bw_18.out.at_ 4 rfl
  have qBw_5 := Bw_18.out.at_ 5 rfl
  have qBw_6 := Bw_18.out.at_ 6 rfl
  have qBw_7 := Bw_18.out.at_ 7 rfl
  have qBw_8 := Bw_18.out.at_ 8 rfl
  have qBw_9 := Bw_18.out.at_ 9 rfl
  have qBh_0_u := qBh_0
  rw [hwz18] at qBh_0_u
  have qBh_1_u := qBh_1
  rw [hwz18] at qBh_1_u
  have qBh_2_u := qBh_2
  rw [hwz18] at qBh_2_u
  have qBh_3_u := qBh_3
  rw [hwz18] at qBh_3_u
  have qBh_4_u := qBh_4
  rw [hwz18] at qBh_4_u
  have qBh_5_u := qBh_5
  rw [hwz18] at qBh_5_u
  have qBh_6_u := qBh_6
  rw [hwz18] at qBh_6_u
  have qBh_7_u := qBh_7
  rw [hwz18] at qBh_7_u
  have qBh_8_u := qBh_8
  rw [hwz18] at qBh_8_u
  have qBh_9_u := qBh_9
  rw [hwz18] at qBh_9_u
  have qBw_0_u := qBw_0
  rw [hwz18] at qBw_0_u
  have qBw_1_u := qBw_1
  rw [hwz18] at qBw_1_u
  have qBw_2_u := qBw_2
  rw [hwz18] at qBw_2_u
  have qBw_3_u := qBw_3
  rw [hwz18] at qBw_3_u
  have qBw_4_u := qBw_4
  rw [hwz18] at qBw_4_u
  have qBw_5_u := qBw_5
  rw [hwz18] at qBw_5_u
  have qBw_6_u := qBw_6
  rw [hwz18] at qBw_6_u
  have qBw_7_u := qBw_7
  rw [hwz18] at qBw_7_u
  have qBw_8_u := qBw_8
  rw [hwz18] at qBw_8_u
  have qBw_9_u := qBw_9
  rw [hwz18] at qBw_9_u
  go_wp2_with fail
  rw [← hwz18]
  clear hwz18
  refine (geq_YardOut (Yh_18.out.rd R_YardOut_ok) (Yw_18.out.rd R_YardOut_ok)).mono ?_
  intro e w19 h
  obtain ⟨rfl, hb⟩ := isB_elim h
  clear qBh_0 qBh_1 qBh_2 qBh_3 qBh_4 qBh_5 qBh_6 qBh_7 qBh_8 qBh_9 qBw_0 qBw_1 qBw_2 qBw_3 qBw_4 qBw_5 qBw_6 qBw_7 qBw_8 qBw_9 qBh_0_u qBh_1_u qBh_2_u qBh_3_u qBh_4_u qBh_5_u qBh_6_u qBh_7_u qBh_8_u qBh_9_u qBw_0_u qBw_1_u qBw_2_u qBw_3_u qBw_4_u qBw_5_u qBw_6_u qBw_7_u qBw_8_u qBw_9_u
  have PC_19 := Lib.hid (PC_18.out.call hb)
  have Bw_19 := Lib.hid (Bw_18.out.call hb)
  have BX_19 := Lib.hid (BX_18.out.call hb)
  have Bg_19 := Lib.hid (Bg_18.out.call hb)
  have Bh_19 := Lib.hid (Bhh_18.out.call hb)
  have HC_19 := Lib.hid (gmv R_Config_ok HC_18.out hb)
  have Yw_19 := Lib.hid (Yw_18.out.mv R_YardOut_ok hb)
  have Yg_19 := Lib.hid (Yg_18.out.mv R_YardOut_ok hb)
  have Yh_19 := Lib.hid (Yh_18.out.mv R_YardOut_ok hb)
  have HB19 := Lib.hid (HB18.out.trans ((hb).mono HB18.out.size))
  have HZ23 := Lib.hid ((hb).size)
  clear PC_18 Bw_18 BX_18 Bg_18 Bhh_18 HC_18 Yw_18 Yg_18 Yh_18 HB18
  clear h hb
  have qBg_0 := Bg_19.out.at_ 0 rfl
  have qBg_1 := Bg_19.out.at_ 1 rfl
  have qBg_2 := Bg_19.out.at_ 2 rfl
  have qBg_3 := Bg_19.out.at_ 3 rfl
  have qBg_4 := Bg_19.out.at_ 4 rfl
  have qBg_5 := Bg_19.out.at_ 5 rfl
  have qBg_6 := Bg_19.out.at_ 6 rfl
  have qBg_7 := Bg_19.out.at_ 7 rfl
  have qBg_8 := Bg_19.out.at_ 8 rfl
  have qBg_9 := Bg_19.out.at_ 9 rfl
  go_wp2_with fail
  refine (gheld_YardOut (by omega) hzb HMV.out (Yg_19.out.rd R_YardOut_ok)).mono ?_
  intro e w20 h
  obtain ⟨rfl, hb⟩ := heldC_elim h
  clear qBg_0 qBg_1 qBg_2 qBg_3 qBg_4 qBg_5 qBg_6 qBg_7 qBg_8 qBg_9
  have PC_20 := Lib.hid (PC_19.out.call hb)
  have Bw_20 := Lib.hid (Bw_19.out.call hb)
  have BX_20 := Lib.hid (BX_19.out.call hb)
  have Bg_20 := Lib.hid (Bg_19.out.call hb)
  have Bh_20 := Lib.hid (Bh_19.out.call hb)
  have HC_20 := Lib.hid (gmv R_Config_ok HC_19.out hb)
  have Yw_20 := Lib.hid (Yw_19.out.mv R_YardOut_ok hb)
  have Yg_20 := Lib.hid (Yg_19.out.mv R_YardOut_ok hb)
  have Yh_20 := Lib.hid (Yh_19.out.mv R_YardOut_ok hb)
  have HB20 := Lib.hid (HB19.out.trans ((hb).mono HB19.out.size))
  have HZ24 := Lib.hid ((hb).size)
  clear PC_19 Bw_19 BX_19 Bg_19 Bh_19 HC_19 Yw_19 Yg_19 Yh_19 HB19
  clear h hb
  go_wp2
  go_ret
  exact ⟨rfl, HB20.out⟩
end Go.Proofs.YtelhmacfljffhaaGreat.RepC
end
