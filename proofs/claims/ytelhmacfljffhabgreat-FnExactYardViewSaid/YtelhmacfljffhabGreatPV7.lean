/- Of this claim's texts the part 7: TaS YaT. -/
import Derived.Test.YtelhmacfljffhabGreatPV0
import Derived.Test.YtelhmacfljffhabGreatPV1
import Derived.Test.YtelhmacfljffhabGreatPV2
import Derived.Test.YtelhmacfljffhabGreatPV3
import Derived.Test.YtelhmacfljffhabGreatPV4
import Derived.Test.YtelhmacfljffhabGreatPV5
import Derived.Test.YtelhmacfljffhabGreatPV6
section
namespace Go.Proofs.YtelhmacfljffhabGreat.RepC
open Go.RowKit RowC ValC
set_option linter.unusedVariables false
set_option linter.unusedSimpArgs false
theorem szd_Task {x0 : Int} {x1 : Int} {x2 : Int} {x3 : ByteArray} {x4 : Int} {x5 : Int} {x6 : Int} {x7 : Int} {x8 : Int} {x9 : Int} {x10 : Int} {x11 : Int} {x12 : Int} {L0 : List (Int)} : R_Task.sz ((x0, x1), x2, x3, x4, x5, x6, (x7, x8), x9, x10, x11, x12, L0) = x3.size + ((Sl I)).sz L0 := by
  simp only [R_Task, Pr, I, Bo, St, atom, R_Label]; omega
set_option maxRecDepth 100000 in
set_option maxHeartbeats 1600000 in
theorem sz_Task {x0 : Int} {x1 : Int} {x2 : Int} {x3 : ByteArray} {x4 : Int} {x5 : Int} {x6 : Int} {x7 : Int} {x8 : Int} {x9 : Int} {x10 : Int} {x11 : Int} {x12 : Int} {L0 : List (Int)} {a0 : Option Addr} {c0 : Nat} {W : World} {l : Int} (h0 : 0 ≤ l) (h1 : l ≤ 1048576) (h_L0 : RdSl I W W.heap.size L0 a0 c0) (b_x3 : x3.size ≤ maxLen) : Calls Tryz.prog 41 #[.agg #[.int .i64 x0, .int .i64 x1, .int .i64 x2, .string x3, .int .i64 x4, .int .i64 x5, .int .i64 x6, .int .i64 x7, .int .i64 x8, .int .i64 x9, .int .i64 x10, .int .i64 x11, .int .i64 x12, .slice a0 L0.length c0], .int .i64 l] W (SzC l (R_Task.sz ((x0, x1), x2, x3, x4, x5, x6, (x7, x8), x9, x10, x11, x12, L0)) W) := by
  unfold maxLen at b_x3
  have H_L0 := Lib.hid h_L0
  clear h_L0
  have HD := Lib.hid (szd_Task (x0 := x0) (x1 := x1) (x2 := x2) (x3 := x3) (x4 := x4) (x5 := x5) (x6 := x6) (x7 := x7) (x8 := x8) (x9 := x9) (x10 := x10) (x11 := x11) (x12 := x12) (L0 := L0))
  have HB0 := Lib.hid (show Below W.heap.size W (W.alloc (.cells #[.int .i64 x0, .int .i64 x1, .int .i64 x2, .string x3, .int .i64 x4, .int .i64 x5, .int .i64 x6, .int .i64 x7, .int .i64 x8, .int .i64 x9, .int .i64 x10, .int .i64 x11, .int .i64 x12, .slice a0 L0.length c0] 99)) from (Below.refl _ _).alloc (Nat.le_refl _) _)
  have hP := Blk.new W 99 #[.int .i64 x0, .int .i64 x1, .int .i64 x2, .string x3, .int .i64 x4, .int .i64 x5, .int .i64 x6, .int .i64 x7, .int .i64 x8, .int .i64 x9, .int .i64 x10, .int .i64 x11, .int .i64 x12, .slice a0 L0.length c0]
  have HP0 := Lib.hid hP
  have hz0 : W.heap.size ≤ (W.alloc (.cells #[.int .i64 x0, .int .i64 x1, .int .i64 x2, .string x3, .int .i64 x4, .int .i64 x5, .int .i64 x6, .int .i64 x7, .int .i64 x8, .int .i64 x9, .int .i64 x10, .int .i64 x11, .int .i64 x12, .slice a0 L0.length c0] 99)).heap.size := HB0.out.size
  clear hP
  by_cases hf : (x3.size : Int) ≤ l
  rotate_left
  · have HR := Lib.hid (szR_no (l := l) (s := R_Task.sz ((x0, x1), x2, x3, x4, x5, x6, (x7, x8), x9, x10, x11, x12, L0)) (by rw [HD.out]; omega))
    have hd : decide (l - (x3.size : Int) < 0) = true := decide_eq_true (by omega)
    go_enter Tryz.func41, Tryz.ntmps41
    go_wp2
    go_ret
    exact ⟨by rw [HR.out]; rfl, HB0.out⟩
  have hd : decide (l - (x3.size : Int) < 0) = false := decide_eq_false (by omega)
  obtain ⟨s0, hs0⟩ : ∃ s, s = (((Sl I)).sz L0) := ⟨_, rfl⟩
  have HS0 := Lib.hid hs0
  rw [← hs0] at HD
  clear hs0
  go_enter Tryz.func41, Tryz.ntmps41
  go_wp2_with fail
  refine (sz_Int64S (l := l - (x3.size : Int)) (by omega) (by omega) ((H_L0.out.below I_ok HB0.out).more I_ok hz0)).mono ?_
  intro e w1 h
  obtain ⟨rfl, hb⟩ := szC_elim h
  rw [← HS0.out]
  have HP1 := Lib.hid (HP0.out.call hb)
  have HB1 := Lib.hid (HB0.out.trans (hb.mono hz0))
  clear h hb
  by_cases hf0 : (s0 : Int) ≤ l - (x3.size : Int)
  rotate_left
  · rw [szR_no hf0]
    have HR := Lib.hid (szR_no (l := l) (s := R_Task.sz ((x0, x1), x2, x3, x4, x5, x6, (x7, x8), x9, x10, x11, x12, L0)) (by rw [HD.out]; omega))
    go_wp2
    go_ret
    exact ⟨by first | (rw [HR.out]; done) | (rw [HR.out]; rfl), HB1.out⟩
  rw [szR_yes hf0]
  have hpos0 : (0 : Int) ≤ l - (x3.size : Int) - (s0 : Nat) := by omega
  have HR := Lib.hid (szR_yes (l := l) (s := R_Task.sz ((x0, x1), x2, x3, x4, x5, x6, (x7, x8), x9, x10, x11, x12, L0)) (by rw [HD.out]; omega))
  go_wp2
  go_ret
  exact ⟨by rw [HR.out, HD.out]; first | rfl | (simp; done) | (simp; omega), HB1.out⟩
theorem sizz_TaskS : (R_Task).size = 14 := rfl
theorem szd_TaskS (L : List (D_Task)) : (Sl R_Task).sz L = L.length + sumL (R_Task).sz L := rfl
set_option maxRecDepth 100000 in
set_option maxHeartbeats 1600000 in
theorem sz_TaskS {L : List (D_Task)} {a : Option Addr} {cap : Nat} {W : World} {l : Int} (h0 : 0 ≤ l) (h1 : l ≤ 1048576) (h : RdSl R_Task W W.heap.size L a cap) : Calls Tryz.prog 12 #[.slice a L.length cap, .int .i64 l] W (SzC l ((Sl R_Task).sz L) W) := by
  have hn : L.length ≤ 9223372036854775807 := by have h1 := h.1; have h2 := h.2.1; unfold maxLen at h2; omega
  have H := Lib.hid h
  have HD := Lib.hid (szd_TaskS L)
  clear h
  by_cases hlen : (L.length : Int) ≤ l
  · go_enter Tryz.func12, Tryz.ntmps12
    go_wp2
    go_loopw [5, 1] (fun i q wr => ∃ k : Nat, k ≤ L.length ∧ i = .int .i64 k ∧ (L.length : Int) + (sumL (R_Task).sz (L.take k) : Nat) ≤ l ∧ q = .int .i64 (l - L.length - (sumL (R_Task).sz (L.take k) : Nat)) ∧ Below W.heap.size W wr) (fun i _ _ => L.length - (intOf i).toNat)
    case atStart => exact ⟨0, Nat.zero_le _, rfl, by simpa [sumL] using hlen, by simp [sumL], Below.refl _ _⟩
    case round =>
      obtain ⟨k, hk, rfl, hfit, rfl, hB⟩ := hrel
      have HB := Lib.hid hB
      have hsz := hB.size
      have hle := sumL_take_le (R_Task).sz L k
      by_cases hlt : k < L.length
      · obtain ⟨⟨⟨x0, x1⟩, x2, x3, x4, x5, x6, ⟨x7, x8⟩, x9, x10, x11, x12, L0⟩, hx⟩ := el_some hlt
        have HS := Lib.hid (sumL_take (R_Task).sz hx)
        have hle2 := sumL_take_le (R_Task).sz L (k + 1)
        obtain ⟨g, o, us, rfl, hg, hu, hr⟩ := (H.out.below R_Task_ok hB).at_ hx
        obtain ⟨a0, c0, rfl, k_L0, b_x3⟩ := rd_Task hr
        have e0 : wr.cell? ⟨g, o + k * 14, none⟩ = some (.int .i64 x0) := by simpa [sizz_TaskS, Nat.add_assoc] using hu 0 _ rfl
        have e1 : wr.cell? ⟨g, o + k * 14 + 1, none⟩ = some (.int .i64 x1) := by simpa [sizz_TaskS, Nat.add_assoc] using hu 1 _ rfl
        have e2 : wr.cell? ⟨g, o + k * 14 + 2, none⟩ = some (.int .i64 x2) := by simpa [sizz_TaskS, Nat.add_assoc] using hu 2 _ rfl
        have e3 : wr.cell? ⟨g, o + k * 14 + 3, none⟩ = some (.string x3) := by simpa [sizz_TaskS, Nat.add_assoc] using hu 3 _ rfl
        have e4 : wr.cell? ⟨g, o + k * 14 + 4, none⟩ = some (.int .i64 x4) := by simpa [sizz_TaskS, Nat.add_assoc] using hu 4 _ rfl
        have e5 : wr.cell? ⟨g, o + k * 14 + 5, none⟩ = some (.int .i64 x5) := by simpa [sizz_TaskS, Nat.add_assoc] using hu 5 _ rfl
        have e6 : wr.cell? ⟨g, o + k * 14 + 6, none⟩ = some (.int .i64 x6) := by simpa [sizz_TaskS, Nat.add_assoc] using hu 6 _ rfl
        have e7 : wr.cell? ⟨g, o + k * 14 + 7, none⟩ = some (.int .i64 x7) := by simpa [sizz_TaskS, Nat.add_assoc] using hu 7 _ rfl
        have e8 : wr.cell? ⟨g, o + k * 14 + 8, none⟩ = some (.int .i64 x8) := by simpa [sizz_TaskS, Nat.add_assoc] using hu 8 _ rfl
        have e9 : wr.cell? ⟨g, o + k * 14 + 9, none⟩ = some (.int .i64 x9) := by simpa [sizz_TaskS, Nat.add_assoc] using hu 9 _ rfl
        have e10 : wr.cell? ⟨g, o + k * 14 + 10, none⟩ = some (.int .i64 x10) := by simpa [sizz_TaskS, Nat.add_assoc] using hu 10 _ rfl
        have e11 : wr.cell? ⟨g, o + k * 14 + 11, none⟩ = some (.int .i64 x11) := by simpa [sizz_TaskS, Nat.add_assoc] using hu 11 _ rfl
        have e12 : wr.cell? ⟨g, o + k * 14 + 12, none⟩ = some (.int .i64 x12) := by simpa [sizz_TaskS, Nat.add_assoc] using hu 12 _ rfl
        have e13 : wr.cell? ⟨g, o + k * 14 + 13, none⟩ = some (.slice a0 L0.length c0) := by simpa [sizz_TaskS, Nat.add_assoc] using hu 13 _ rfl
        have K_L0 := Lib.hid (k_L0.more I_ok hsz)
        obtain ⟨q, hq⟩ : ∃ q, q = sumL (R_Task).sz (L.take k) := ⟨_, rfl⟩
        obtain ⟨p, hp⟩ : ∃ p, p = (R_Task).sz ((x0, x1), x2, x3, x4, x5, x6, (x7, x8), x9, x10, x11, x12, L0) := ⟨_, rfl⟩
        rw [← hq] at hfit hle HS
        rw [← hp] at HS
        have HQ := Lib.hid hq
        have HP := Lib.hid hp
        have hi0 : (0 : Int) ≤ (k : Int) := Int.natCast_nonneg _
        have hi1 : (k : Int) < (L.length : Int) := by omega
        have hgl : g < wr.heap.size := Nat.lt_of_lt_of_le hg hsz
        have hle3 : q + p ≤ sumL (R_Task).sz L := by rw [← HS.out]; exact hle2
        rw [← hq]
        clear hB hx hu k_L0 hq hp hle2
        go_wp2_with fail
        refine (sz_Task (by omega) (by omega) K_L0.out b_x3).mono ?_
        intro e w1 h
        obtain ⟨rfl, hb⟩ := szC_elim h
        rw [← HP.out]
        have HB2 := Lib.hid (HB.out.trans (hb.mono hsz))
        clear h hb
        by_cases hf : (p : Int) ≤ l - L.length - (q : Nat)
        · rw [szR_yes hf]
          have hpos : (0 : Int) ≤ l - L.length - (q : Nat) - (p : Nat) := by omega
          go_wp2
          go_roundw
          case rel => exact ⟨k + 1, by omega, by go_num, by rw [HS.out]; omega, by rw [HS.out]; congr 1; omega, HB2.out⟩
          case measure => simp [intOf]; omega
        · rw [szR_no hf]
          have HR := Lib.hid (szR_no (l := l) (s := (Sl R_Task).sz L) (by rw [HD.out]; omega))
          go_wp2
          go_ret
          exact ⟨by first | (rw [HR.out]; done) | (rw [HR.out]; rfl), HB2.out⟩
      · obtain rfl : k = L.length := by omega
        have HR := Lib.hid (szR_yes (l := l) (s := (Sl R_Task).sz L) (by rw [HD.out]; rw [List.take_length] at hfit; omega))
        have HT := Lib.hid (show L.take L.length = L from List.take_length)
        clear hB
        go_wp2
        go_ret
        exact ⟨by rw [HR.out, HD.out, ← HT.out]; first | rfl | (simp; done) | (simp; omega), HB.out⟩
  · have HR := Lib.hid (szR_no (l := l) (s := (Sl R_Task).sz L) (by rw [HD.out]; omega))
    go_enter Tryz.func12, Tryz.ntmps12
    go_wp2
    go_ret
    exact ⟨by first | (rw [HR.out]; done) | (rw [HR.out]; rfl), Below.refl _ _⟩
end Go.Proofs.YtelhmacfljffhabGreat.RepC
end
section
namespace Go.Proofs.YtelhmacfljffhabGreat.RepC
open Go.RowKit RowC ValC
set_option linter.unusedVariables false
set_option linter.unusedSimpArgs false
abbrev D_Yard : Type := (D_Config) × (List (D_Node)) × (List (D_Task)) × (List (D_Use)) × (Int)
def R_Yard : Rp D_Yard := (Pr R_Config (Pr (Sl R_Node) (Pr (Sl R_Task) (Pr (Sl R_Use) I))))
theorem R_Yard_ok : Ok R_Yard := (Pr_ok R_Config_ok (Pr_ok (Sl_ok R_Node_ok) (Pr_ok (Sl_ok R_Task_ok) (Pr_ok (Sl_ok R_Use_ok) I_ok))))
theorem rd_Yard {W : World} {B : Nat} {L0 : List (List (D_Label))} {L1 : List (D_Pair)} {L2 : List (D_Quota)} {x3 : Int} {L3 : List (D_Node)} {L4 : List (D_Task)} {L5 : List (D_Use)} {x7 : Int} {cs : List Value} (h : R_Yard.rd W B ((L0, L1, L2, x3), L3, L4, L5, x7) cs) : ∃ a0 c0 a1 c1 a2 c2 a3 c3 a4 c4 a5 c5, cs = [.slice a0 L0.length c0, .slice a1 L1.length c1, .slice a2 L2.length c2, .int .i64 x3, .slice a3 L3.length c3, .slice a4 L4.length c4, .slice a5 L5.length c5, .int .i64 x7] ∧ RdSl (Sl R_Label) W B L0 a0 c0 ∧ RdSl R_Pair W B L1 a1 c1 ∧ RdSl R_Quota W B L2 a2 c2 ∧ RdSl R_Node W B L3 a3 c3 ∧ RdSl R_Task W B L4 a4 c4 ∧ RdSl R_Use W B L5 a5 c5 := by
  obtain ⟨u1, v1, rfl, h1, g1⟩ := h
  obtain ⟨u2, v2, rfl, h2, g2⟩ := h1
  obtain ⟨a0, c0, rfl, k_L0⟩ := h2
  obtain ⟨u3, v3, rfl, h3, g3⟩ := g2
  obtain ⟨a1, c1, rfl, k_L1⟩ := h3
  obtain ⟨u4, v4, rfl, h4, g4⟩ := g3
  obtain ⟨a2, c2, rfl, k_L2⟩ := h4
  obtain rfl : v4 = [_] := g4
  obtain ⟨u5, v5, rfl, h5, g5⟩ := g1
  obtain ⟨a3, c3, rfl, k_L3⟩ := h5
  obtain ⟨u6, v6, rfl, h6, g6⟩ := g5
  obtain ⟨a4, c4, rfl, k_L4⟩ := h6
  obtain ⟨u7, v7, rfl, h7, g7⟩ := g6
  obtain ⟨a5, c5, rfl, k_L5⟩ := h7
  obtain rfl : v7 = [_] := g7
  exact ⟨a0, c0, a1, c1, a2, c2, a3, c3, a4, c4, a5, c5, rfl, k_L0, k_L1, k_L2, k_L3, k_L4, k_L5⟩
theorem mkow_Yard {W : World} {S : Nat → Prop} {L0 : List (List (D_Label))} {L1 : List (D_Pair)} {L2 : List (D_Quota)} {x3 : Int} {L3 : List (D_Node)} {L4 : List (D_Task)} {L5 : List (D_Use)} {x7 : Int} {a0 : Option Addr} {c0 : Nat} {a1 : Option Addr} {c1 : Nat} {a2 : Option Addr} {c2 : Nat} {a3 : Option Addr} {c3 : Nat} {a4 : Option Addr} {c4 : Nat} {a5 : Option Addr} {c5 : Nat} {T0 : Nat → Prop} {T1 : Nat → Prop} {T2 : Nat → Prop} {T3 : Nat → Prop} {T4 : Nat → Prop} {T5 : Nat → Prop} (hs0 : ∀ k, T0 k → S k) (hs1 : ∀ k, T1 k → S k) (hs2 : ∀ k, T2 k → S k) (hs3 : ∀ k, T3 k → S k) (hs4 : ∀ k, T4 k → S k) (hs5 : ∀ k, T5 k → S k) (hd0_1 : ∀ k, T0 k → ¬ T1 k) (hd0_2 : ∀ k, T0 k → ¬ T2 k) (hd0_3 : ∀ k, T0 k → ¬ T3 k) (hd0_4 : ∀ k, T0 k → ¬ T4 k) (hd0_5 : ∀ k, T0 k → ¬ T5 k) (hd1_2 : ∀ k, T1 k → ¬ T2 k) (hd1_3 : ∀ k, T1 k → ¬ T3 k) (hd1_4 : ∀ k, T1 k → ¬ T4 k) (hd1_5 : ∀ k, T1 k → ¬ T5 k) (hd2_3 : ∀ k, T2 k → ¬ T3 k) (hd2_4 : ∀ k, T2 k → ¬ T4 k) (hd2_5 : ∀ k, T2 k → ¬ T5 k) (hd3_4 : ∀ k, T3 k → ¬ T4 k) (hd3_5 : ∀ k, T3 k → ¬ T5 k) (hd4_5 : ∀ k, T4 k → ¬ T5 k) (h_L0 : OwSl (Sl R_Label) W T0 L0 a0 c0) (h_L1 : OwSl R_Pair W T1 L1 a1 c1) (h_L2 : OwSl R_Quota W T2 L2 a2 c2) (h_L3 : OwSl R_Node W T3 L3 a3 c3) (h_L4 : OwSl R_Task W T4 L4 a4 c4) (h_L5 : OwSl R_Use W T5 L5 a5 c5) : R_Yard.ow W S ((L0, L1, L2, x3), L3, L4, L5, x7) [.slice a0 L0.length c0, .slice a1 L1.length c1, .slice a2 L2.length c2, .int .i64 x3, .slice a3 L3.length c3, .slice a4 L4.length c4, .slice a5 L5.length c5, .int .i64 x7] := ⟨[.slice a0 L0.length c0, .slice a1 L1.length c1, .slice a2 L2.length c2, .int .i64 x3], [.slice a3 L3.length c3, .slice a4 L4.length c4, .slice a5 L5.length c5, .int .i64 x7], (fun k => T0 k ∨ T1 k ∨ T2 k), (fun k => T3 k ∨ T4 k ∨ T5 k), rfl, (fun k h => by rcases h with h | h | h <;> first | exact hs0 k h | exact hs1 k h | exact hs2 k h), (fun k h => by rcases h with h | h | h <;> first | exact hs3 k h | exact hs4 k h | exact hs5 k h), (fun k h h' => by rcases h with h | h | h <;> rcases h' with h' | h' | h' <;> first | exact hd0_3 k h h' | exact hd0_4 k h h' | exact hd0_5 k h h' | exact hd1_3 k h h' | exact hd1_4 k h h' | exact hd1_5 k h h' | exact hd2_3 k h h' | exact hd2_4 k h h' | exact hd2_5 k h h'), ⟨[.slice a0 L0.length c0], [.slice a1 L1.length c1, .slice a2 L2.length c2, .int .i64 x3], T0, (fun k => T1 k ∨ T2 k), rfl, (fun k h => .inl h), (fun k h => by rcases h with h | h <;> first | exact .inr (.inl h) | exact .inr (.inr (h))), (fun k h h' => by rcases h' with h' | h' <;> first | exact hd0_1 k h h' | exact hd0_2 k h h'), ⟨a0, c0, rfl, h_L0⟩, ⟨[.slice a1 L1.length c1], [.slice a2 L2.length c2, .int .i64 x3], T1, T2, rfl, (fun k h => .inl h), (fun k h => .inr (h)), hd1_2, ⟨a1, c1, rfl, h_L1⟩, ⟨[.slice a2 L2.length c2], [.int .i64 x3], T2, (fun _ => False), rfl, (fun k h => h), (fun k h => h.elim), (fun k h h' => h'.elim), ⟨a2, c2, rfl, h_L2⟩, rfl⟩⟩⟩, ⟨[.slice a3 L3.length c3], [.slice a4 L4.length c4, .slice a5 L5.length c5, .int .i64 x7], T3, (fun k => T4 k ∨ T5 k), rfl, (fun k h => .inl h), (fun k h => by rcases h with h | h <;> first | exact .inr (.inl h) | exact .inr (.inr (h))), (fun k h h' => by rcases h' with h' | h' <;> first | exact hd3_4 k h h' | exact hd3_5 k h h'), ⟨a3, c3, rfl, h_L3⟩, ⟨[.slice a4 L4.length c4], [.slice a5 L5.length c5, .int .i64 x7], T4, T5, rfl, (fun k h => .inl h), (fun k h => .inr (h)), hd4_5, ⟨a4, c4, rfl, h_L4⟩, ⟨[.slice a5 L5.length c5], [.int .i64 x7], T5, (fun _ => False), rfl, (fun k h => h), (fun k h => h.elim), (fun k h h' => h'.elim), ⟨a5, c5, rfl, h_L5⟩, rfl⟩⟩⟩⟩
theorem ow_Yard {W : World} {S : Nat → Prop} {L0 : List (List (D_Label))} {L1 : List (D_Pair)} {L2 : List (D_Quota)} {x3 : Int} {L3 : List (D_Node)} {L4 : List (D_Task)} {L5 : List (D_Use)} {x7 : Int} {cs : List Value} (h : R_Yard.ow W S ((L0, L1, L2, x3), L3, L4, L5, x7) cs) : ∃ a0 c0 a1 c1 a2 c2 a3 c3 a4 c4 a5 c5, ∃ T0 T1 T2 T3 T4 T5 : Nat → Prop, cs = [.slice a0 L0.length c0, .slice a1 L1.length c1, .slice a2 L2.length c2, .int .i64 x3, .slice a3 L3.length c3, .slice a4 L4.length c4, .slice a5 L5.length c5, .int .i64 x7] ∧ (∀ k, T0 k → S k) ∧ (∀ k, T1 k → S k) ∧ (∀ k, T2 k → S k) ∧ (∀ k, T3 k → S k) ∧ (∀ k, T4 k → S k) ∧ (∀ k, T5 k → S k) ∧ (∀ k, T0 k → ¬ T1 k) ∧ (∀ k, T0 k → ¬ T2 k) ∧ (∀ k, T0 k → ¬ T3 k) ∧ (∀ k, T0 k → ¬ T4 k) ∧ (∀ k, T0 k → ¬ T5 k) ∧ (∀ k, T1 k → ¬ T2 k) ∧ (∀ k, T1 k → ¬ T3 k) ∧ (∀ k, T1 k → ¬ T4 k) ∧ (∀ k, T1 k → ¬ T5 k) ∧ (∀ k, T2 k → ¬ T3 k) ∧ (∀ k, T2 k → ¬ T4 k) ∧ (∀ k, T2 k → ¬ T5 k) ∧ (∀ k, T3 k → ¬ T4 k) ∧ (∀ k, T3 k → ¬ T5 k) ∧ (∀ k, T4 k → ¬ T5 k) ∧ OwSl (Sl R_Label) W T0 L0 a0 c0 ∧ OwSl R_Pair W T1 L1 a1 c1 ∧ OwSl R_Quota W T2 L2 a2 c2 ∧ OwSl R_Node W T3 L3 a3 c3 ∧ OwSl R_Task W T4 L4 a4 c4 ∧ OwSl R_Use W T5 L5 a5 c5 := by
  obtain ⟨u1, v1, A1, B1, rfl, sa1, sb1, dd1, h1, g1⟩ := h
  obtain ⟨u2, v2, A2, B2, rfl, sa2, sb2, dd2, h2, g2⟩ := h1
  obtain ⟨a0, c0, rfl, k_L0⟩ := h2
  obtain ⟨u3, v3, A3, B3, rfl, sa3, sb3, dd3, h3, g3⟩ := g2
  obtain ⟨a1, c1, rfl, k_L1⟩ := h3
  obtain ⟨u4, v4, A4, B4, rfl, sa4, sb4, dd4, h4, g4⟩ := g3
  obtain ⟨a2, c2, rfl, k_L2⟩ := h4
  obtain rfl : v4 = [_] := g4
  obtain ⟨u5, v5, A5, B5, rfl, sa5, sb5, dd5, h5, g5⟩ := g1
  obtain ⟨a3, c3, rfl, k_L3⟩ := h5
  obtain ⟨u6, v6, A6, B6, rfl, sa6, sb6, dd6, h6, g6⟩ := g5
  obtain ⟨a4, c4, rfl, k_L4⟩ := h6
  obtain ⟨u7, v7, A7, B7, rfl, sa7, sb7, dd7, h7, g7⟩ := g6
  obtain ⟨a5, c5, rfl, k_L5⟩ := h7
  obtain rfl : v7 = [_] := g7
  exact ⟨a0, c0, a1, c1, a2, c2, a3, c3, a4, c4, a5, c5, A2, A3, A4, A5, A6, A7, rfl, fun k h => sa1 k (sa2 k (h)), fun k h => sa1 k (sb2 k (sa3 k (h))), fun k h => sa1 k (sb2 k (sb3 k (sa4 k (h)))), fun k h => sb1 k (sa5 k (h)), fun k h => sb1 k (sb5 k (sa6 k (h))), fun k h => sb1 k (sb5 k (sb6 k (sa7 k (h)))), fun k h h' => dd2 k (h) (sa3 k (h')), fun k h h' => dd2 k (h) (sb3 k (sa4 k (h'))), fun k h h' => dd1 k (sa2 k (h)) (sa5 k (h')), fun k h h' => dd1 k (sa2 k (h)) (sb5 k (sa6 k (h'))), fun k h h' => dd1 k (sa2 k (h)) (sb5 k (sb6 k (sa7 k (h')))), fun k h h' => dd3 k (h) (sa4 k (h')), fun k h h' => dd1 k (sb2 k (sa3 k (h))) (sa5 k (h')), fun k h h' => dd1 k (sb2 k (sa3 k (h))) (sb5 k (sa6 k (h'))), fun k h h' => dd1 k (sb2 k (sa3 k (h))) (sb5 k (sb6 k (sa7 k (h')))), fun k h h' => dd1 k (sb2 k (sb3 k (sa4 k (h)))) (sa5 k (h')), fun k h h' => dd1 k (sb2 k (sb3 k (sa4 k (h)))) (sb5 k (sa6 k (h'))), fun k h h' => dd1 k (sb2 k (sb3 k (sa4 k (h)))) (sb5 k (sb6 k (sa7 k (h')))), fun k h h' => dd5 k (h) (sa6 k (h')), fun k h h' => dd5 k (h) (sb6 k (sa7 k (h'))), fun k h h' => dd6 k (h) (sa7 k (h')), k_L0, k_L1, k_L2, k_L3, k_L4, k_L5⟩
set_option maxRecDepth 100000 in
set_option maxHeartbeats 3200000 in
theorem to_Yard {L0 : List (List (D_Label))} {L1 : List (D_Pair)} {L2 : List (D_Quota)} {x3 : Int} {L3 : List (D_Node)} {L4 : List (D_Task)} {L5 : List (D_Use)} {x7 : Int} {a0 : Option Addr} {c0 : Nat} {a1 : Option Addr} {c1 : Nat} {a2 : Option Addr} {c2 : Nat} {a3 : Option Addr} {c3 : Nat} {a4 : Option Addr} {c4 : Nat} {a5 : Option Addr} {c5 : Nat} {W : World} (hsz : R_Yard.sz ((L0, L1, L2, x3), L3, L4, L5, x7) ≤ 1048576) (h_L0 : RdSl (Sl R_Label) W W.heap.size L0 a0 c0) (h_L1 : RdSl R_Pair W W.heap.size L1 a1 c1) (h_L2 : RdSl R_Quota W W.heap.size L2 a2 c2) (h_L3 : RdSl R_Node W W.heap.size L3 a3 c3) (h_L4 : RdSl R_Task W W.heap.size L4 a4 c4) (h_L5 : RdSl R_Use W W.heap.size L5 a5 c5) : Calls Tryz.prog 6 #[.agg #[.slice a0 L0.length c0, .slice a1 L1.length c1, .slice a2 L2.length c2, .int .i64 x3, .slice a3 L3.length c3, .slice a4 L4.length c4, .slice a5 L5.length c5, .int .i64 x7]] W (NewV R_Yard ((L0, L1, L2, x3), L3, L4, L5, x7) W) := by
  have H_L0 := Lib.hid h_L0
  have H_L1 := Lib.hid h_L1
  have H_L2 := Lib.hid h_L2
  have H_L3 := Lib.hid h_L3
  have H_L4 := Lib.hid h_L4
  have H_L5 := Lib.hid h_L5
  have HSZ := Lib.hid hsz
  clear hsz h_L0 h_L1 h_L2 h_L3 h_L4 h_L5
  have hP := ((Blk.new W 31 #[.slice a0 L0.length c0, .slice a1 L1.length c1, .slice a2 L2.length c2, .int .i64 x3, .slice a3 L3.length c3, .slice a4 L4.length c4, .slice a5 L5.length c5, .int .i64 x7]).alloc (.cells #[.slice none 0 0, .slice none 0 0, .slice none 0 0, .int .i64 0, .slice none 0 0, .slice none 0 0, .slice none 0 0, .int .i64 0] 45)).alloc (.cells #[.slice none 0 0, .slice none 0 0, .slice none 0 0, .int .i64 0, .slice none 0 0, .slice none 0 0, .slice none 0 0, .int .i64 0] 45)
  have hR := (Blk.new (W.alloc (.cells #[.slice a0 L0.length c0, .slice a1 L1.length c1, .slice a2 L2.length c2, .int .i64 x3, .slice a3 L3.length c3, .slice a4 L4.length c4, .slice a5 L5.length c5, .int .i64 x7] 31)) 45 #[.slice none 0 0, .slice none 0 0, .slice none 0 0, .int .i64 0, .slice none 0 0, .slice none 0 0, .slice none 0 0, .int .i64 0]).alloc (.cells #[.slice none 0 0, .slice none 0 0, .slice none 0 0, .int .i64 0, .slice none 0 0, .slice none 0 0, .slice none 0 0, .int .i64 0] 45)
  have hO := Blk.new ((W.alloc (.cells #[.slice a0 L0.length c0, .slice a1 L1.length c1, .slice a2 L2.length c2, .int .i64 x3, .slice a3 L3.length c3, .slice a4 L4.length c4, .slice a5 L5.length c5, .int .i64 x7] 31)).alloc (.cells #[.slice none 0 0, .slice none 0 0, .slice none 0 0, .int .i64 0, .slice none 0 0, .slice none 0 0, .slice none 0 0, .int .i64 0] 45)) 45 #[.slice none 0 0, .slice none 0 0, .slice none 0 0, .int .i64 0, .slice none 0 0, .slice none 0 0, .slice none 0 0, .int .i64 0]
  simp only [World.size_alloc] at hP hR hO
  have HB0 := Lib.hid (show Below W.heap.size W (((W.alloc (.cells #[.slice a0 L0.length c0, .slice a1 L1.length c1, .slice a2 L2.length c2, .int .i64 x3, .slice a3 L3.length c3, .slice a4 L4.length c4, .slice a5 L5.length c5, .int .i64 x7] 31)).alloc (.cells #[.slice none 0 0, .slice none 0 0, .slice none 0 0, .int .i64 0, .slice none 0 0, .slice none 0 0, .slice none 0 0, .int .i64 0] 45)).alloc (.cells #[.slice none 0 0, .slice none 0 0, .slice none 0 0, .int .i64 0, .slice none 0 0, .slice none 0 0, .slice none 0 0, .int .i64 0] 45)) from (((Below.refl _ _).alloc (Nat.le_refl _) _).alloc (by simp) _).alloc (by simp; omega) _)
  have hz0 : W.heap.size + 3 ≤ (((W.alloc (.cells #[.slice a0 L0.length c0, .slice a1 L1.length c1, .slice a2 L2.length c2, .int .i64 x3, .slice a3 L3.length c3, .slice a4 L4.length c4, .slice a5 L5.length c5, .int .i64 x7] 31)).alloc (.cells #[.slice none 0 0, .slice none 0 0, .slice none 0 0, .int .i64 0, .slice none 0 0, .slice none 0 0, .slice none 0 0, .int .i64 0] 45)).alloc (.cells #[.slice none 0 0, .slice none 0 0, .slice none 0 0, .int .i64 0, .slice none 0 0, .slice none 0 0, .slice none 0 0, .int .i64 0] 45)).heap.size := by simp
  have HP0 := Lib.hid hP
  have HR0 := Lib.hid hR
  have HO0 := Lib.hid hO
  clear hP hR hO
  go_enter Tryz.func6, Tryz.ntmps6
  go_wp2_with fail
  refine (to_Config (by have h0 := HSZ.out; simp only [R_Yard, R_Config, Pr, Sl, I, Bo, atom] at h0 ⊢; omega) ((H_L0.out.below (Sl_ok R_Label_ok) HB0.out).more (Sl_ok R_Label_ok) (by have h0 := hz0; first | omega | (simp; omega))) ((H_L1.out.below R_Pair_ok HB0.out).more R_Pair_ok (by have h0 := hz0; first | omega | (simp; omega))) ((H_L2.out.below R_Quota_ok HB0.out).more R_Quota_ok (by have h0 := hz0; first | omega | (simp; omega)))).mono ?_
  intro e w1 h
  obtain ⟨vs, rfl, how, hb⟩ := newV_elim h
  obtain ⟨b_L0, d_L0, b_L1, d_L1, b_L2, d_L2, S_L0, S_L1, S_L2, rfl, hs_L0, hs_L1, hs_L2, hd_L0_L1, hd_L0_L2, hd_L1_L2, how_L0, how_L1, how_L2⟩ := ow_Config how
  have hP : Blk w1 (W.heap.size) 31 #[.slice a0 L0.length c0, .slice a1 L1.length c1, .slice a2 L2.length c2, .int .i64 x3, .slice a3 L3.length c3, .slice a4 L4.length c4, .slice a5 L5.length c5, .int .i64 x7] := Blk.call HP0.out hb
  have hR : Blk w1 (W.heap.size + 1) 45 #[.slice none 0 0, .slice none 0 0, .slice none 0 0, .int .i64 0, .slice none 0 0, .slice none 0 0, .slice none 0 0, .int .i64 0] := Blk.call HR0.out hb
  have hO : Blk w1 (W.heap.size + 1 + 1) 45 #[.slice none 0 0, .slice none 0 0, .slice none 0 0, .int .i64 0, .slice none 0 0, .slice none 0 0, .slice none 0 0, .int .i64 0] := Blk.call HO0.out hb
  have hz1 : W.heap.size + 3 ≤ w1.heap.size := Nat.le_trans hz0 (size_call hb (S := fun x => x < W.heap.size + 3) (Off.refl (fun x => x < W.heap.size + 3) _))
  have HB1 := Lib.hid (Below.trans (B := W.heap.size) (a := W) HB0.out (hb.mono (by have h0 := hz0; first | omega | (simp; omega))))
  have HO_L0 := Lib.hid how_L0
  have HL_L0 := Lib.hid (fun k hk => rg_call hb (m := W.heap.size + 3) (by have h0 := hz0; first | omega | (simp; omega)) k (hs_L0 k hk))
  have HU_L0 := Lib.hid (fun k (hk : S_L0 k) => rg_call hb (m := 0) (Nat.zero_le _) k (hs_L0 k hk))
  have HO_L1 := Lib.hid how_L1
  have HL_L1 := Lib.hid (fun k hk => rg_call hb (m := W.heap.size + 3) (by have h0 := hz0; first | omega | (simp; omega)) k (hs_L1 k hk))
  have HU_L1 := Lib.hid (fun k (hk : S_L1 k) => rg_call hb (m := 0) (Nat.zero_le _) k (hs_L1 k hk))
  have HO_L2 := Lib.hid how_L2
  have HL_L2 := Lib.hid (fun k hk => rg_call hb (m := W.heap.size + 3) (by have h0 := hz0; first | omega | (simp; omega)) k (hs_L2 k hk))
  have HU_L2 := Lib.hid (fun k (hk : S_L2 k) => rg_call hb (m := 0) (Nat.zero_le _) k (hs_L2 k hk))
  have HD_L0_L1 := Lib.hid hd_L0_L1
  have HD_L0_L2 := Lib.hid hd_L0_L2
  have HD_L1_L2 := Lib.hid hd_L1_L2
  have HP1 := Lib.hid hP
  have HR1 := Lib.hid hR
  have HO1 := Lib.hid hO
  clear h hb hP hR hO how how_L0 how_L1 how_L2
  have p1_0 := HP1.out.at_ 0 rfl
  have o1_0 := HO1.out.at_ 0 rfl
  have r1_0 := HR1.out.at_ 0 rfl
  have f1_0 := HO1.out.soft 0
  have g1_0 := HR1.out.soft 0
  have p1_1 := HP1.out.at_ 1 rfl
  have o1_1 := HO1.out.at_ 1 rfl
  have r1_1 := HR1.out.at_ 1 rfl
  have f1_1 := HO1.out.soft 1
  have g1_1 := HR1.out.soft 1
  have p1_2 := HP1.out.at_ 2 rfl
  have o1_2 := HO1.out.at_ 2 rfl
  have r1_2 := HR1.out.at_ 2 rfl
  have f1_2 := HO1.out.soft 2
  have g1_2 := HR1.out.soft 2
  have p1_3 := HP1.out.at_ 3 rfl
  have o1_3 := HO1.out.at_ 3 rfl
  have r1_3 := HR1.out.at_ 3 rfl
  have f1_3 := HO1.out.soft 3
  have g1_3 := HR1.out.soft 3
  have p1_4 := HP1.out.at_ 4 rfl
  have o1_4 := HO1.out.at_ 4 rfl
  have r1_4 := HR1.out.at_ 4 rfl
  have f1_4 := HO1.out.soft 4
  have g1_4 := HR1.out.soft 4
  have p1_5 := HP1.out.at_ 5 rfl
  have o1_5 := HO1.out.at_ 5 rfl
  have r1_5 := HR1.out.at_ 5 rfl
  have f1_5 := HO1.out.soft 5
  have g1_5 := HR1.out.soft 5
  have p1_6 := HP1.out.at_ 6 rfl
  have o1_6 := HO1.out.at_ 6 rfl
  have r1_6 := HR1.out.at_ 6 rfl
  have f1_6 := HO1.out.soft 6
  have g1_6 := HR1.out.soft 6
  have p1_7 := HP1.out.at_ 7 rfl
  have o1_7 := HO1.out.at_ 7 rfl
  have r1_7 := HR1.out.at_ 7 rfl
  have f1_7 := HO1.out.soft 7
  have g1_7 := HR1.out.soft 7
  go_wp2_with fail
  refine (to_NodeS (by have h0 := HSZ.out; simp only [R_Yard, Pr, Sl, I, Bo, atom] at h0 ⊢; omega) ((H_L3.out.below R_Node_ok ((((HB1.out.setCell (p := ⟨W.heap.size + 1 + 1, 0, none⟩) (by show W.heap.size ≤ W.heap.size + 1 + 1; omega) (.slice b_L0 L0.length d_L0)).setCell (p := ⟨W.heap.size + 1 + 1, 1, none⟩) (by show W.heap.size ≤ W.heap.size + 1 + 1; omega) (.slice b_L1 L1.length d_L1)).setCell (p := ⟨W.heap.size + 1 + 1, 2, none⟩) (by show W.heap.size ≤ W.heap.size + 1 + 1; omega) (.slice b_L2 L2.length d_L2)).setCell (p := ⟨W.heap.size + 1 + 1, 3, none⟩) (by show W.heap.size ≤ W.heap.size + 1 + 1; omega) (.int .i64 x3))).more R_Node_ok (by have h0 := hz1; first | omega | (simp; omega)))).mono ?_
  intro e w2 h
  obtain ⟨b_L3, d_L3, rfl, how_L3, hb⟩ := newS_elim h
  have hP : Blk w2 (W.heap.size) 31 #[.slice a0 L0.length c0, .slice a1 L1.length c1, .slice a2 L2.length c2, .int .i64 x3, .slice a3 L3.length c3, .slice a4 L4.length c4, .slice a5 L5.length c5, .int .i64 x7] := Blk.call (Blk.far (b := W.heap.size + 1 + 1) (o := 3) (Blk.far (b := W.heap.size + 1 + 1) (o := 2) (Blk.far (b := W.heap.size + 1 + 1) (o := 1) (Blk.far (b := W.heap.size + 1 + 1) (o := 0) HP1.out (by omega) (.slice b_L0 L0.length d_L0)) (by omega) (.slice b_L1 L1.length d_L1)) (by omega) (.slice b_L2 L2.length d_L2)) (by omega) (.int .i64 x3)) hb
  have hR : Blk w2 (W.heap.size + 1) 45 #[.slice none 0 0, .slice none 0 0, .slice none 0 0, .int .i64 0, .slice none 0 0, .slice none 0 0, .slice none 0 0, .int .i64 0] := Blk.call (Blk.far (b := W.heap.size + 1 + 1) (o := 3) (Blk.far (b := W.heap.size + 1 + 1) (o := 2) (Blk.far (b := W.heap.size + 1 + 1) (o := 1) (Blk.far (b := W.heap.size + 1 + 1) (o := 0) HR1.out (by omega) (.slice b_L0 L0.length d_L0)) (by omega) (.slice b_L1 L1.length d_L1)) (by omega) (.slice b_L2 L2.length d_L2)) (by omega) (.int .i64 x3)) hb
  have hO : Blk w2 (W.heap.size + 1 + 1) 45 #[.slice b_L0 L0.length d_L0, .slice b_L1 L1.length d_L1, .slice b_L2 L2.length d_L2, .int .i64 x3, .slice none 0 0, .slice none 0 0, .slice none 0 0, .int .i64 0] := Blk.call (Blk.set (Blk.set (Blk.set (Blk.set HO1.out 0 (.slice b_L0 L0.length d_L0)) 1 (.slice b_L1 L1.length d_L1)) 2 (.slice b_L2 L2.length d_L2)) 3 (.int .i64 x3)) hb
  have hz2 : W.heap.size + 3 ≤ w2.heap.size := Nat.le_trans hz1 (size_call hb (S := fun x => x < W.heap.size + 3) (((((Off.refl (fun x => x < W.heap.size + 3) w1).setCell (p := ⟨W.heap.size + 1 + 1, 0, none⟩) (by show W.heap.size + 1 + 1 < W.heap.size + 3; omega) (.slice b_L0 L0.length d_L0)).setCell (p := ⟨W.heap.size + 1 + 1, 1, none⟩) (by show W.heap.size + 1 + 1 < W.heap.size + 3; omega) (.slice b_L1 L1.length d_L1)).setCell (p := ⟨W.heap.size + 1 + 1, 2, none⟩) (by show W.heap.size + 1 + 1 < W.heap.size + 3; omega) (.slice b_L2 L2.length d_L2)).setCell (p := ⟨W.heap.size + 1 + 1, 3, none⟩) (by show W.heap.size + 1 + 1 < W.heap.size + 3; omega) (.int .i64 x3)))
  have HO_L0 := Lib.hid (HO_L0.out.keep (Sl_ok R_Label_ok) (fun k hk => keep_call hb (S := fun x => x < W.heap.size + 3) (((((Off.refl (fun x => x < W.heap.size + 3) w1).setCell (p := ⟨W.heap.size + 1 + 1, 0, none⟩) (by show W.heap.size + 1 + 1 < W.heap.size + 3; omega) (.slice b_L0 L0.length d_L0)).setCell (p := ⟨W.heap.size + 1 + 1, 1, none⟩) (by show W.heap.size + 1 + 1 < W.heap.size + 3; omega) (.slice b_L1 L1.length d_L1)).setCell (p := ⟨W.heap.size + 1 + 1, 2, none⟩) (by show W.heap.size + 1 + 1 < W.heap.size + 3; omega) (.slice b_L2 L2.length d_L2)).setCell (p := ⟨W.heap.size + 1 + 1, 3, none⟩) (by show W.heap.size + 1 + 1 < W.heap.size + 3; omega) (.int .i64 x3)) k (HL_L0.out k hk).2 (by have := (HL_L0.out k hk).1; omega)))
  have HO_L1 := Lib.hid (HO_L1.out.keep R_Pair_ok (fun k hk => keep_call hb (S := fun x => x < W.heap.size + 3) (((((Off.refl (fun x => x < W.heap.size + 3) w1).setCell (p := ⟨W.heap.size + 1 + 1, 0, none⟩) (by show W.heap.size + 1 + 1 < W.heap.size + 3; omega) (.slice b_L0 L0.length d_L0)).setCell (p := ⟨W.heap.size + 1 + 1, 1, none⟩) (by show W.heap.size + 1 + 1 < W.heap.size + 3; omega) (.slice b_L1 L1.length d_L1)).setCell (p := ⟨W.heap.size + 1 + 1, 2, none⟩) (by show W.heap.size + 1 + 1 < W.heap.size + 3; omega) (.slice b_L2 L2.length d_L2)).setCell (p := ⟨W.heap.size + 1 + 1, 3, none⟩) (by show W.heap.size + 1 + 1 < W.heap.size + 3; omega) (.int .i64 x3)) k (HL_L1.out k hk).2 (by have := (HL_L1.out k hk).1; omega)))
  have HO_L2 := Lib.hid (HO_L2.out.keep R_Quota_ok (fun k hk => keep_call hb (S := fun x => x < W.heap.size + 3) (((((Off.refl (fun x => x < W.heap.size + 3) w1).setCell (p := ⟨W.heap.size + 1 + 1, 0, none⟩) (by show W.heap.size + 1 + 1 < W.heap.size + 3; omega) (.slice b_L0 L0.length d_L0)).setCell (p := ⟨W.heap.size + 1 + 1, 1, none⟩) (by show W.heap.size + 1 + 1 < W.heap.size + 3; omega) (.slice b_L1 L1.length d_L1)).setCell (p := ⟨W.heap.size + 1 + 1, 2, none⟩) (by show W.heap.size + 1 + 1 < W.heap.size + 3; omega) (.slice b_L2 L2.length d_L2)).setCell (p := ⟨W.heap.size + 1 + 1, 3, none⟩) (by show W.heap.size + 1 + 1 < W.heap.size + 3; omega) (.int .i64 x3)) k (HL_L2.out k hk).2 (by have := (HL_L2.out k hk).1; omega)))
  have HL_L0 := Lib.hid (fun k hk => (⟨(HL_L0.out k hk).1, Nat.lt_of_lt_of_le (HL_L0.out k hk).2 (size_call hb (S := fun x => x < W.heap.size + 3) (((((Off.refl (fun x => x < W.heap.size + 3) w1).setCell (p := ⟨W.heap.size + 1 + 1, 0, none⟩) (by show W.heap.size + 1 + 1 < W.heap.size + 3; omega) (.slice b_L0 L0.length d_L0)).setCell (p := ⟨W.heap.size + 1 + 1, 1, none⟩) (by show W.heap.size + 1 + 1 < W.heap.size + 3; omega) (.slice b_L1 L1.length d_L1)).setCell (p := ⟨W.heap.size + 1 + 1, 2, none⟩) (by show W.heap.size + 1 + 1 < W.heap.size + 3; omega) (.slice b_L2 L2.length d_L2)).setCell (p := ⟨W.heap.size + 1 + 1, 3, none⟩) (by show W.heap.size + 1 + 1 < W.heap.size + 3; omega) (.int .i64 x3)))⟩ : W.heap.size + 3 ≤ k ∧ k < w2.heap.size))
  have HL_L1 := Lib.hid (fun k hk => (⟨(HL_L1.out k hk).1, Nat.lt_of_lt_of_le (HL_L1.out k hk).2 (size_call hb (S := fun x => x < W.heap.size + 3) (((((Off.refl (fun x => x < W.heap.size + 3) w1).setCell (p := ⟨W.heap.size + 1 + 1, 0, none⟩) (by show W.heap.size + 1 + 1 < W.heap.size + 3; omega) (.slice b_L0 L0.length d_L0)).setCell (p := ⟨W.heap.size + 1 + 1, 1, none⟩) (by show W.heap.size + 1 + 1 < W.heap.size + 3; omega) (.slice b_L1 L1.length d_L1)).setCell (p := ⟨W.heap.size + 1 + 1, 2, none⟩) (by show W.heap.size + 1 + 1 < W.heap.size + 3; omega) (.slice b_L2 L2.length d_L2)).setCell (p := ⟨W.heap.size + 1 + 1, 3, none⟩) (by show W.heap.size + 1 + 1 < W.heap.size + 3; omega) (.int .i64 x3)))⟩ : W.heap.size + 3 ≤ k ∧ k < w2.heap.size))
  have HL_L2 := Lib.hid (fun k hk => (⟨(HL_L2.out k hk).1, Nat.lt_of_lt_of_le (HL_L2.out k hk).2 (size_call hb (S := fun x => x < W.heap.size + 3) (((((Off.refl (fun x => x < W.heap.size + 3) w1).setCell (p := ⟨W.heap.size + 1 + 1, 0, none⟩) (by show W.heap.size + 1 + 1 < W.heap.size + 3; omega) (.slice b_L0 L0.length d_L0)).setCell (p := ⟨W.heap.size + 1 + 1, 1, none⟩) (by show W.heap.size + 1 + 1 < W.heap.size + 3; omega) (.slice b_L1 L1.length d_L1)).setCell (p := ⟨W.heap.size + 1 + 1, 2, none⟩) (by show W.heap.size + 1 + 1 < W.heap.size + 3; omega) (.slice b_L2 L2.length d_L2)).setCell (p := ⟨W.heap.size + 1 + 1, 3, none⟩) (by show W.heap.size + 1 + 1 < W.heap.size + 3; omega) (.int .i64 x3)))⟩ : W.heap.size + 3 ≤ k ∧ k < w2.heap.size))
  have HB2 := Lib.hid (Below.trans (B := W.heap.size) (a := W) ((((HB1.out.setCell (p := ⟨W.heap.size + 1 + 1, 0, none⟩) (by show W.heap.size ≤ W.heap.size + 1 + 1; omega) (.slice b_L0 L0.length d_L0)).setCell (p := ⟨W.heap.size + 1 + 1, 1, none⟩) (by show W.heap.size ≤ W.heap.size + 1 + 1; omega) (.slice b_L1 L1.length d_L1)).setCell (p := ⟨W.heap.size + 1 + 1, 2, none⟩) (by show W.heap.size ≤ W.heap.size + 1 + 1; omega) (.slice b_L2 L2.length d_L2)).setCell (p := ⟨W.heap.size + 1 + 1, 3, none⟩) (by show W.heap.size ≤ W.heap.size + 1 + 1; omega) (.int .i64 x3)) (hb.mono (by have h0 := hz1; first | omega | (simp; omega))))
  have HO_L3 := Lib.hid how_L3
  have HL_L3 := Lib.hid (fun k hk => rg_call hb (m := W.heap.size + 3) (by have h0 := hz1; first | omega | (simp; omega)) k hk)
  have HU_L3 := Lib.hid (rg_call hb (m := 0) (Nat.zero_le _))
  have HG_L3 := Lib.hid (lo_of hb (((((Off.refl (fun x => x < W.heap.size + 3) w1).setCell (p := ⟨W.heap.size + 1 + 1, 0, none⟩) (by show W.heap.size + 1 + 1 < W.heap.size + 3; omega) (.slice b_L0 L0.length d_L0)).setCell (p := ⟨W.heap.size + 1 + 1, 1, none⟩) (by show W.heap.size + 1 + 1 < W.heap.size + 3; omega) (.slice b_L1 L1.length d_L1)).setCell (p := ⟨W.heap.size + 1 + 1, 2, none⟩) (by show W.heap.size + 1 + 1 < W.heap.size + 3; omega) (.slice b_L2 L2.length d_L2)).setCell (p := ⟨W.heap.size + 1 + 1, 3, none⟩) (by show W.heap.size + 1 + 1 < W.heap.size + 3; omega) (.int .i64 x3)))
  have hle2 := size_call hb (((((Off.refl (fun x => x < W.heap.size + 3) w1).setCell (p := ⟨W.heap.size + 1 + 1, 0, none⟩) (by show W.heap.size + 1 + 1 < W.heap.size + 3; omega) (.slice b_L0 L0.length d_L0)).setCell (p := ⟨W.heap.size + 1 + 1, 1, none⟩) (by show W.heap.size + 1 + 1 < W.heap.size + 3; omega) (.slice b_L1 L1.length d_L1)).setCell (p := ⟨W.heap.size + 1 + 1, 2, none⟩) (by show W.heap.size + 1 + 1 < W.heap.size + 3; omega) (.slice b_L2 L2.length d_L2)).setCell (p := ⟨W.heap.size + 1 + 1, 3, none⟩) (by show W.heap.size + 1 + 1 < W.heap.size + 3; omega) (.int .i64 x3))
  have HP2 := Lib.hid hP
  have HR2 := Lib.hid hR
  have HO2 := Lib.hid hO
  clear h hb hP hR hO how_L3
  clear p1_0 o1_0 r1_0 f1_0 g1_0 p1_1 o1_1 r1_1 f1_1 g1_1 p1_2 o1_2 r1_2 f1_2 g1_2 p1_3 o1_3 r1_3 f1_3 g1_3 p1_4 o1_4 r1_4 f1_4 g1_4 p1_5 o1_5 r1_5 f1_5 g1_5 p1_6 o1_6 r1_6 f1_6 g1_6 p1_7 o1_7 r1_7 f1_7 g1_7
  have p2_0 := HP2.out.at_ 0 rfl
  have o2_0 := HO2.out.at_ 0 rfl
  have r2_0 := HR2.out.at_ 0 rfl
  have f2_0 := HO2.out.soft 0
  have g2_0 := HR2.out.soft 0
  have p2_1 := HP2.out.at_ 1 rfl
  have o2_1 := HO2.out.at_ 1 rfl
  have r2_1 := HR2.out.at_ 1 rfl
  have f2_1 := HO2.out.soft 1
  have g2_1 := HR2.out.soft 1
  have p2_2 := HP2.out.at_ 2 rfl
  have o2_2 := HO2.out.at_ 2 rfl
  have r2_2 := HR2.out.at_ 2 rfl
  have f2_2 := HO2.out.soft 2
  have g2_2 := HR2.out.soft 2
  have p2_3 := HP2.out.at_ 3 rfl
  have o2_3 := HO2.out.at_ 3 rfl
  have r2_3 := HR2.out.at_ 3 rfl
  have f2_3 := HO2.out.soft 3
  have g2_3 := HR2.out.soft 3
  have p2_4 := HP2.out.at_ 4 rfl
  have o2_4 := HO2.out.at_ 4 rfl
  have r2_4 := HR2.out.at_ 4 rfl
  have f2_4 := HO2.out.soft 4
  have g2_4 := HR2.out.soft 4
  have p2_5 := HP2.out.at_ 5 rfl
  have o2_5 := HO2.out.at_ 5 rfl
  have r2_5 := HR2.out.at_ 5 rfl
  have f2_5 := HO2.out.soft 5
  have g2_5 := HR2.out.soft 5
  have p2_6 := HP2.out.at_ 6 rfl
  have o2_6 := HO2.out.at_ 6 rfl
  have r2_6 := HR2.out.at_ 6 rfl
  have f2_6 := HO2.out.soft 6
  have g2_6 := HR2.out.soft 6
  have p2_7 := HP2.out.at_ 7 rfl
  have o2_7 := HO2.out.at_ 7 rfl
  have r2_7 := HR2.out.at_ 7 rfl
  have f2_7 := HO2.out.soft 7
  have g2_7 := HR2.out.soft 7
  go_wp2_with fail
  refine (to_TaskS (by have h0 := HSZ.out; simp only [R_Yard, Pr, Sl, I, Bo, atom] at h0 ⊢; omega) ((H_L4.out.below R_Task_ok (HB2.out.setCell (p := ⟨W.heap.size + 1 + 1, 4, none⟩) (by show W.heap.size ≤ W.heap.size + 1 + 1; omega) (.slice b_L3 L3.length d_L3))).more R_Task_ok (by have h0 := hz2; first | omega | (simp; omega)))).mono ?_
  intro e w3 h
  obtain ⟨b_L4, d_L4, rfl, how_L4, hb⟩ := newS_elim h
  have hP : Blk w3 (W.heap.size) 31 #[.slice a0 L0.length c0, .slice a1 L1.length c1, .slice a2 L2.length c2, .int .i64 x3, .slice a3 L3.length c3, .slice a4 L4.length c4, .slice a5 L5.length c5, .int .i64 x7] := Blk.call (Blk.far (b := W.heap.size + 1 + 1) (o := 4) HP2.out (by omega) (.slice b_L3 L3.length d_L3)) hb
  have hR : Blk w3 (W.heap.size + 1) 45 #[.slice none 0 0, .slice none 0 0, .slice none 0 0, .int .i64 0, .slice none 0 0, .slice none 0 0, .slice none 0 0, .int .i64 0] := Blk.call (Blk.far (b := W.heap.size + 1 + 1) (o := 4) HR2.out (by omega) (.slice b_L3 L3.length d_L3)) hb
  have hO : Blk w3 (W.heap.size + 1 + 1) 45 #[.slice b_L0 L0.length d_L0, .slice b_L1 L1.length d_L1, .slice b_L2 L2.length d_L2, .int .i64 x3, .slice b_L3 L3.length d_L3, .slice none 0 0, .slice none 0 0, .int .i64 0] := Blk.call (Blk.set HO2.out 4 (.slice b_L3 L3.length d_L3)) hb
  have hz3 : W.heap.size + 3 ≤ w3.heap.size := Nat.le_trans hz2 (size_call hb (S := fun x => x < W.heap.size + 3) ((Off.refl (fun x => x < W.heap.size + 3) w2).setCell (p := ⟨W.heap.size + 1 + 1, 4, none⟩) (by show W.heap.size + 1 + 1 < W.heap.size + 3; omega) (.slice b_L3 L3.length d_L3)))
  have HO_L0 := Lib.hid (HO_L0.out.keep (Sl_ok R_Label_ok) (fun k hk => keep_call hb (S := fun x => x < W.heap.size + 3) ((Off.refl (fun x => x < W.heap.size + 3) w2).setCell (p := ⟨W.heap.size + 1 + 1, 4, none⟩) (by show W.heap.size + 1 + 1 < W.heap.size + 3; omega) (.slice b_L3 L3.length d_L3)) k (HL_L0.out k hk).2 (by have := (HL_L0.out k hk).1; omega)))
  have HO_L1 := Lib.hid (HO_L1.out.keep R_Pair_ok (fun k hk => keep_call hb (S := fun x => x < W.heap.size + 3) ((Off.refl (fun x => x < W.heap.size + 3) w2).setCell (p := ⟨W.heap.size + 1 + 1, 4, none⟩) (by show W.heap.size + 1 + 1 < W.heap.size + 3; omega) (.slice b_L3 L3.length d_L3)) k (HL_L1.out k hk).2 (by have := (HL_L1.out k hk).1; omega)))
  have HO_L2 := Lib.hid (HO_L2.out.keep R_Quota_ok (fun k hk => keep_call hb (S := fun x => x < W.heap.size + 3) ((Off.refl (fun x => x < W.heap.size + 3) w2).setCell (p := ⟨W.heap.size + 1 + 1, 4, none⟩) (by show W.heap.size + 1 + 1 < W.heap.size + 3; omega) (.slice b_L3 L3.length d_L3)) k (HL_L2.out k hk).2 (by have := (HL_L2.out k hk).1; omega)))
  have HO_L3 := Lib.hid (HO_L3.out.keep R_Node_ok (fun k hk => keep_call hb (S := fun x => x < W.heap.size + 3) ((Off.refl (fun x => x < W.heap.size + 3) w2).setCell (p := ⟨W.heap.size + 1 + 1, 4, none⟩) (by show W.heap.size + 1 + 1 < W.heap.size + 3; omega) (.slice b_L3 L3.length d_L3)) k (HL_L3.out k hk).2 (by have := (HL_L3.out k hk).1; omega)))
  have HL_L0 := Lib.hid (fun k hk => (⟨(HL_L0.out k hk).1, Nat.lt_of_lt_of_le (HL_L0.out k hk).2 (size_call hb (S := fun x => x < W.heap.size + 3) ((Off.refl (fun x => x < W.heap.size + 3) w2).setCell (p := ⟨W.heap.size + 1 + 1, 4, none⟩) (by show W.heap.size + 1 + 1 < W.heap.size + 3; omega) (.slice b_L3 L3.length d_L3)))⟩ : W.heap.size + 3 ≤ k ∧ k < w3.heap.size))
  have HL_L1 := Lib.hid (fun k hk => (⟨(HL_L1.out k hk).1, Nat.lt_of_lt_of_le (HL_L1.out k hk).2 (size_call hb (S := fun x => x < W.heap.size + 3) ((Off.refl (fun x => x < W.heap.size + 3) w2).setCell (p := ⟨W.heap.size + 1 + 1, 4, none⟩) (by show W.heap.size + 1 + 1 < W.heap.size + 3; omega) (.slice b_L3 L3.length d_L3)))⟩ : W.heap.size + 3 ≤ k ∧ k < w3.heap.size))
  have HL_L2 := Lib.hid (fun k hk => (⟨(HL_L2.out k hk).1, Nat.lt_of_lt_of_le (HL_L2.out k hk).2 (size_call hb (S := fun x => x < W.heap.size + 3) ((Off.refl (fun x => x < W.heap.size + 3) w2).setCell (p := ⟨W.heap.size + 1 + 1, 4, none⟩) (by show W.heap.size + 1 + 1 < W.heap.size + 3; omega) (.slice b_L3 L3.length d_L3)))⟩ : W.heap.size + 3 ≤ k ∧ k < w3.heap.size))
  have HL_L3 := Lib.hid (fun k hk => (⟨(HL_L3.out k hk).1, Nat.lt_of_lt_of_le (HL_L3.out k hk).2 (size_call hb (S := fun x => x < W.heap.size + 3) ((Off.refl (fun x => x < W.heap.size + 3) w2).setCell (p := ⟨W.heap.size + 1 + 1, 4, none⟩) (by show W.heap.size + 1 + 1 < W.heap.size + 3; omega) (.slice b_L3 L3.length d_L3)))⟩ : W.heap.size + 3 ≤ k ∧ k < w3.heap.size))
  have HB3 := Lib.hid (Below.trans (B := W.heap.size) (a := W) (HB2.out.setCell (p := ⟨W.heap.size + 1 + 1, 4, none⟩) (by show W.heap.size ≤ W.heap.size + 1 + 1; omega) (.slice b_L3 L3.length d_L3)) (hb.mono (by have h0 := hz2; first | omega | (simp; omega))))
  have HO_L4 := Lib.hid how_L4
  have HL_L4 := Lib.hid (fun k hk => rg_call hb (m := W.heap.size + 3) (by have h0 := hz2; first | omega | (simp; omega)) k hk)
  have HU_L4 := Lib.hid (rg_call hb (m := 0) (Nat.zero_le _))
  have HG_L4 := Lib.hid (lo_of hb ((Off.refl (fun x => x < W.heap.size + 3) w2).setCell (p := ⟨W.heap.size + 1 + 1, 4, none⟩) (by show W.heap.size + 1 + 1 < W.heap.size + 3; omega) (.slice b_L3 L3.length d_L3)))
  have hle3 := size_call hb ((Off.refl (fun x => x < W.heap.size + 3) w2).setCell (p := ⟨W.heap.size + 1 + 1, 4, none⟩) (by show W.heap.size + 1 + 1 < W.heap.size + 3; omega) (.slice b_L3 L3.length d_L3))
  have HP3 := Lib.hid hP
  have HR3 := Lib.hid hR
  have HO3 := Lib.hid hO
  clear h hb hP hR hO how_L4
  clear p2_0 o2_0 r2_0 f2_0 g2_0 p2_1 o2_1 r2_1 f2_1 g2_1 p2_2 o2_2 r2_2 f2_2 g2_2 p2_3 o2_3 r2_3 f2_3 g2_3 p2_4 o2_4 r2_4 f2_4 g2_4 p2_5 o2_5 r2_5 f2_5 g2_5 p2_6 o2_6 r2_6 f2_6 g2_6 p2_7 o2_7 r2_7 f2_7 g2_7
  have p3_0 := HP3.out.at_ 0 rfl
  have o3_0 := HO3.out.at_ 0 rfl
  have r3_0 := HR3.out.at_ 0 rfl
  have f3_0 := HO3.out.soft 0
  have g3_0 := HR3.out.soft 0
  have p3_1 := HP3.out.at_ 1 rfl
  have o3_1 := HO3.out.at_ 1 rfl
  have r3_1 := HR3.out.at_ 1 rfl
  have f3_1 := HO3.out.soft 1
  have g3_1 := HR3.out.soft 1
  have p3_2 := HP3.out.at_ 2 rfl
  have o3_2 := HO3.out.at_ 2 rfl
  have r3_2 := HR3.out.at_ 2 rfl
  have f3_2 := HO3.out.soft 2
  have g3_2 := HR3.out.soft 2
  have p3_3 := HP3.out.at_ 3 rfl
  have o3_3 := HO3.out.at_ 3 rfl
  have r3_3 := HR3.out.at_ 3 rfl
  have f3_3 := HO3.out.soft 3
  have g3_3 := HR3.out.soft 3
  have p3_4 := HP3.out.at_ 4 rfl
  have o3_4 := HO3.out.at_ 4 rfl
  have r3_4 := HR3.out.at_ 4 rfl
  have f3_4 := HO3.out.soft 4
  have g3_4 := HR3.out.soft 4
  have p3_5 := HP3.out.at_ 5 rfl
  have o3_5 := HO3.out.at_ 5 rfl
  have r3_5 := HR3.out.at_ 5 rfl
  have f3_5 := HO3.out.soft 5
  have g3_5 := HR3.out.soft 5
  have p3_6 := HP3.out.at_ 6 rfl
  have o3_6 := HO3.out.at_ 6 rfl
  have r3_6 := HR3.out.at_ 6 rfl
  have f3_6 := HO3.out.soft 6
  have g3_6 := HR3.out.soft 6
  have p3_7 := HP3.out.at_ 7 rfl
  have o3_7 := HO3.out.at_ 7 rfl
  have r3_7 := HR3.out.at_ 7 rfl
  have f3_7 := HO3.out.soft 7
  have g3_7 := HR3.out.soft 7
  go_wp2_with fail
  refine (to_UseS (by have h0 := HSZ.out; simp only [R_Yard, Pr, Sl, I, Bo, atom] at h0 ⊢; omega) ((H_L5.out.below R_Use_ok (HB3.out.setCell (p := ⟨W.heap.size + 1 + 1, 5, none⟩) (by show W.heap.size ≤ W.heap.size + 1 + 1; omega) (.slice b_L4 L4.length d_L4))).more R_Use_ok (by have h0 := hz3; first | omega | (simp; omega)))).mono ?_
  intro e w4 h
  obtain ⟨b_L5, d_L5, rfl, how_L5, hb⟩ := newS_elim h
  have hP : Blk w4 (W.heap.size) 31 #[.slice a0 L0.length c0, .slice a1 L1.length c1, .slice a2 L2.length c2, .int .i64 x3, .slice a3 L3.length c3, .slice a4 L4.length c4, .slice a5 L5.length c5, .int .i64 x7] := Blk.call (Blk.far (b := W.heap.size + 1 + 1) (o := 5) HP3.out (by omega) (.slice b_L4 L4.length d_L4)) hb
  have hR : Blk w4 (W.heap.size + 1) 45 #[.slice none 0 0, .slice none 0 0, .slice none 0 0, .int .i64 0, .slice none 0 0, .slice none 0 0, .slice none 0 0, .int .i64 0] := Blk.call (Blk.far (b := W.heap.size + 1 + 1) (o := 5) HR3.out (by omega) (.slice b_L4 L4.length d_L4)) hb
  have hO : Blk w4 (W.heap.size + 1 + 1) 45 #[.slice b_L0 L0.length d_L0, .slice b_L1 L1.length d_L1, .slice b_L2 L2.length d_L2, .int .i64 x3, .slice b_L3 L3.length d_L3, .slice b_L4 L4.length d_L4, .slice none 0 0, .int .i64 0] := Blk.call (Blk.set HO3.out 5 (.slice b_L4 L4.length d_L4)) hb
  have hz4 : W.heap.size + 3 ≤ w4.heap.size := Nat.le_trans hz3 (size_call hb (S := fun x => x < W.heap.size + 3) ((Off.refl (fun x => x < W.heap.size + 3) w3).setCell (p := ⟨W.heap.size + 1 + 1, 5, none⟩) (by show W.heap.size + 1 + 1 < W.heap.size + 3; omega) (.slice b_L4 L4.length d_L4)))
  have HO_L0 := Lib.hid (HO_L0.out.keep (Sl_ok R_Label_ok) (fun k hk => keep_call hb (S := fun x => x < W.heap.size + 3) ((Off.refl (fun x => x < W.heap.size + 3) w3).setCell (p := ⟨W.heap.size + 1 + 1, 5, none⟩) (by show W.heap.size + 1 + 1 < W.heap.size + 3; omega) (.slice b_L4 L4.length d_L4)) k (HL_L0.out k hk).2 (by have := (HL_L0.out k hk).1; omega)))
  have HO_L1 := Lib.hid (HO_L1.out.keep R_Pair_ok (fun k hk => keep_call hb (S := fun x => x < W.heap.size + 3) ((Off.refl (fun x => x < W.heap.size + 3) w3).setCell (p := ⟨W.heap.size + 1 + 1, 5, none⟩) (by show W.heap.size + 1 + 1 < W.heap.size + 3; omega) (.slice b_L4 L4.length d_L4)) k (HL_L1.out k hk).2 (by have := (HL_L1.out k hk).1; omega)))
  have HO_L2 := Lib.hid (HO_L2.out.keep R_Quota_ok (fun k hk => keep_call hb (S := fun x => x < W.heap.size + 3) ((Off.refl (fun x => x < W.heap.size + 3) w3).setCell (p := ⟨W.heap.size + 1 + 1, 5, none⟩) (by show W.heap.size + 1 + 1 < W.heap.size + 3; omega) (.slice b_L4 L4.length d_L4)) k (HL_L2.out k hk).2 (by have := (HL_L2.out k hk).1; omega)))
  have HO_L3 := Lib.hid (HO_L3.out.keep R_Node_ok (fun k hk => keep_call hb (S := fun x => x < W.heap.size + 3) ((Off.refl (fun x => x < W.heap.size + 3) w3).setCell (p := ⟨W.heap.size + 1 + 1, 5, none⟩) (by show W.heap.size + 1 + 1 < W.heap.size + 3; omega) (.slice b_L4 L4.length d_L4)) k (HL_L3.out k hk).2 (by have := (HL_L3.out k hk).1; omega)))
  have HO_L4 := Lib.hid (HO_L4.out.keep R_Task_ok (fun k hk => keep_call hb (S := fun x => x < W.heap.size + 3) ((Off.refl (fun x => x < W.heap.size + 3) w3).setCell (p := ⟨W.heap.size + 1 + 1, 5, none⟩) (by show W.heap.size + 1 + 1 < W.heap.size + 3; omega) (.slice b_L4 L4.length d_L4)) k (HL_L4.out k hk).2 (by have := (HL_L4.out k hk).1; omega)))
  have HL_L0 := Lib.hid (fun k hk => (⟨(HL_L0.out k hk).1, Nat.lt_of_lt_of_le (HL_L0.out k hk).2 (size_call hb (S := fun x => x < W.heap.size + 3) ((Off.refl (fun x => x < W.heap.size + 3) w3).setCell (p := ⟨W.heap.size + 1 + 1, 5, none⟩) (by show W.heap.size + 1 + 1 < W.heap.size + 3; omega) (.slice b_L4 L4.length d_L4)))⟩ : W.heap.size + 3 ≤ k ∧ k < w4.heap.size))
  have HL_L1 := Lib.hid (fun k hk => (⟨(HL_L1.out k hk).1, Nat.lt_of_lt_of_le (HL_L1.out k hk).2 (size_call hb (S := fun x => x < W.heap.size + 3) ((Off.refl (fun x => x < W.heap.size + 3) w3).setCell (p := ⟨W.heap.size + 1 + 1, 5, none⟩) (by show W.heap.size + 1 + 1 < W.heap.size + 3; omega) (.slice b_L4 L4.length d_L4)))⟩ : W.heap.size + 3 ≤ k ∧ k < w4.heap.size))
  have HL_L2 := Lib.hid (fun k hk => (⟨(HL_L2.out k hk).1, Nat.lt_of_lt_of_le (HL_L2.out k hk).2 (size_call hb (S := fun x => x < W.heap.size + 3) ((Off.refl (fun x => x < W.heap.size + 3) w3).setCell (p := ⟨W.heap.size + 1 + 1, 5, none⟩) (by show W.heap.size + 1 + 1 < W.heap.size + 3; omega) (.slice b_L4 L4.length d_L4)))⟩ : W.heap.size + 3 ≤ k ∧ k < w4.heap.size))
  have HL_L3 := Lib.hid (fun k hk => (⟨(HL_L3.out k hk).1, Nat.lt_of_lt_of_le (HL_L3.out k hk).2 (size_call hb (S := fun x => x < W.heap.size + 3) ((Off.refl (fun x => x < W.heap.size + 3) w3).setCell (p := ⟨W.heap.size + 1 + 1, 5, none⟩) (by show W.heap.size + 1 + 1 < W.heap.size + 3; omega) (.slice b_L4 L4.length d_L4)))⟩ : W.heap.size + 3 ≤ k ∧ k < w4.heap.size))
  have HL_L4 := Lib.hid (fun k hk => (⟨(HL_L4.out k hk).1, Nat.lt_of_lt_of_le (HL_L4.out k hk).2 (size_call hb (S := fun x => x < W.heap.size + 3) ((Off.refl (fun x => x < W.heap.size + 3) w3).setCell (p := ⟨W.heap.size + 1 + 1, 5, none⟩) (by show W.heap.size + 1 + 1 < W.heap.size + 3; omega) (.slice b_L4 L4.length d_L4)))⟩ : W.heap.size + 3 ≤ k ∧ k < w4.heap.size))
  have HB4 := Lib.hid (Below.trans (B := W.heap.size) (a := W) (HB3.out.setCell (p := ⟨W.heap.size + 1 + 1, 5, none⟩) (by show W.heap.size ≤ W.heap.size + 1 + 1; omega) (.slice b_L4 L4.length d_L4)) (hb.mono (by have h0 := hz3; first | omega | (simp; omega))))
  have HO_L5 := Lib.hid how_L5
  have HL_L5 := Lib.hid (fun k hk => rg_call hb (m := W.heap.size + 3) (by have h0 := hz3; first | omega | (simp; omega)) k hk)
  have HU_L5 := Lib.hid (rg_call hb (m := 0) (Nat.zero_le _))
  have HG_L5 := Lib.hid (lo_of hb ((Off.refl (fun x => x < W.heap.size + 3) w3).setCell (p := ⟨W.heap.size + 1 + 1, 5, none⟩) (by show W.heap.size + 1 + 1 < W.heap.size + 3; omega) (.slice b_L4 L4.length d_L4)))
  have hle4 := size_call hb ((Off.refl (fun x => x < W.heap.size + 3) w3).setCell (p := ⟨W.heap.size + 1 + 1, 5, none⟩) (by show W.heap.size + 1 + 1 < W.heap.size + 3; omega) (.slice b_L4 L4.length d_L4))
  have HP4 := Lib.hid hP
  have HR4 := Lib.hid hR
  have HO4 := Lib.hid hO
  clear h hb hP hR hO how_L5
  clear p3_0 o3_0 r3_0 f3_0 g3_0 p3_1 o3_1 r3_1 f3_1 g3_1 p3_2 o3_2 r3_2 f3_2 g3_2 p3_3 o3_3 r3_3 f3_3 g3_3 p3_4 o3_4 r3_4 f3_4 g3_4 p3_5 o3_5 r3_5 f3_5 g3_5 p3_6 o3_6 r3_6 f3_6 g3_6 p3_7 o3_7 r3_7 f3_7 g3_7
  have p4_0 := HP4.out.at_ 0 rfl
  have o4_0 := HO4.out.at_ 0 rfl
  have r4_0 := HR4.out.at_ 0 rfl
  have f4_0 := HO4.out.soft 0
  have g4_0 := HR4.out.soft 0
  have p4_1 := HP4.out.at_ 1 rfl
  have o4_1 := HO4.out.at_ 1 rfl
  have r4_1 := HR4.out.at_ 1 rfl
  have f4_1 := HO4.out.soft 1
  have g4_1 := HR4.out.soft 1
  have p4_2 := HP4.out.at_ 2 rfl
  have o4_2 := HO4.out.at_ 2 rfl
  have r4_2 := HR4.out.at_ 2 rfl
  have f4_2 := HO4.out.soft 2
  have g4_2 := HR4.out.soft 2
  have p4_3 := HP4.out.at_ 3 rfl
  have o4_3 := HO4.out.at_ 3 rfl
  have r4_3 := HR4.out.at_ 3 rfl
  have f4_3 := HO4.out.soft 3
  have g4_3 := HR4.out.soft 3
  have p4_4 := HP4.out.at_ 4 rfl
  have o4_4 := HO4.out.at_ 4 rfl
  have r4_4 := HR4.out.at_ 4 rfl
  have f4_4 := HO4.out.soft 4
  have g4_4 := HR4.out.soft 4
  have p4_5 := HP4.out.at_ 5 rfl
  have o4_5 := HO4.out.at_ 5 rfl
  have r4_5 := HR4.out.at_ 5 rfl
  have f4_5 := HO4.out.soft 5
  have g4_5 := HR4.out.soft 5
  have p4_6 := HP4.out.at_ 6 rfl
  have o4_6 := HO4.out.at_ 6 rfl
  have r4_6 := HR4.out.at_ 6 rfl
  have f4_6 := HO4.out.soft 6
  have g4_6 := HR4.out.soft 6
  have p4_7 := HP4.out.at_ 7 rfl
  have o4_7 := HO4.out.at_ 7 rfl
  have r4_7 := HR4.out.at_ 7 rfl
  have f4_7 := HO4.out.soft 7
  have g4_7 := HR4.out.soft 7
  go_wp2
  refine bodyPost_ret (v := .agg #[.slice b_L0 L0.length d_L0, .slice b_L1 L1.length d_L1, .slice b_L2 L2.length d_L2, .int .i64 x3, .slice b_L3 L3.length d_L3, .slice b_L4 L4.length d_L4, .slice b_L5 L5.length d_L5, .int .i64 x7]) (by simp [results, Tryz.results6, go_sem, *]) rfl ⟨[.slice b_L0 L0.length d_L0, .slice b_L1 L1.length d_L1, .slice b_L2 L2.length d_L2, .int .i64 x3, .slice b_L3 L3.length d_L3, .slice b_L4 L4.length d_L4, .slice b_L5 L5.length d_L5, .int .i64 x7], rfl, ?_, ((((((((((HB4.out.setCell (p := ⟨W.heap.size + 1 + 1, 6, none⟩) (by show W.heap.size ≤ W.heap.size + 1 + 1; omega) (.slice b_L5 L5.length d_L5)).setCell (p := ⟨W.heap.size + 1 + 1, 7, none⟩) (by show W.heap.size ≤ W.heap.size + 1 + 1; omega) (.int .i64 x7)).setCell (p := ⟨W.heap.size + 1, 0, none⟩) (by show W.heap.size ≤ W.heap.size + 1; omega) (.slice b_L0 L0.length d_L0)).setCell (p := ⟨W.heap.size + 1, 1, none⟩) (by show W.heap.size ≤ W.heap.size + 1; omega) (.slice b_L1 L1.length d_L1)).setCell (p := ⟨W.heap.size + 1, 2, none⟩) (by show W.heap.size ≤ W.heap.size + 1; omega) (.slice b_L2 L2.length d_L2)).setCell (p := ⟨W.heap.size + 1, 3, none⟩) (by show W.heap.size ≤ W.heap.size + 1; omega) (.int .i64 x3)).setCell (p := ⟨W.heap.size + 1, 4, none⟩) (by show W.heap.size ≤ W.heap.size + 1; omega) (.slice b_L3 L3.length d_L3)).setCell (p := ⟨W.heap.size + 1, 5, none⟩) (by show W.heap.size ≤ W.heap.size + 1; omega) (.slice b_L4 L4.length d_L4)).setCell (p := ⟨W.heap.size + 1, 6, none⟩) (by show W.heap.size ≤ W.heap.size + 1; omega) (.slice b_L5 L5.length d_L5)).setCell (p := ⟨W.heap.size + 1, 7, none⟩) (by show W.heap.size ≤ W.heap.size + 1; omega) (.int .i64 x7))⟩
  have hoff := (((((((((((Off.refl (fun x => x < W.heap.size + 3) w4).setCell (p := ⟨W.heap.size + 1 + 1, 6, none⟩) (by show W.heap.size + 1 + 1 < W.heap.size + 3; omega) (.slice b_L5 L5.length d_L5)).setCell (p := ⟨W.heap.size + 1 + 1, 7, none⟩) (by show W.heap.size + 1 + 1 < W.heap.size + 3; omega) (.int .i64 x7)).setCell (p := ⟨W.heap.size + 1, 0, none⟩) (by show W.heap.size + 1 < W.heap.size + 3; omega) (.slice b_L0 L0.length d_L0)).setCell (p := ⟨W.heap.size + 1, 1, none⟩) (by show W.heap.size + 1 < W.heap.size + 3; omega) (.slice b_L1 L1.length d_L1)).setCell (p := ⟨W.heap.size + 1, 2, none⟩) (by show W.heap.size + 1 < W.heap.size + 3; omega) (.slice b_L2 L2.length d_L2)).setCell (p := ⟨W.heap.size + 1, 3, none⟩) (by show W.heap.size + 1 < W.heap.size + 3; omega) (.int .i64 x3)).setCell (p := ⟨W.heap.size + 1, 4, none⟩) (by show W.heap.size + 1 < W.heap.size + 3; omega) (.slice b_L3 L3.length d_L3)).setCell (p := ⟨W.heap.size + 1, 5, none⟩) (by show W.heap.size + 1 < W.heap.size + 3; omega) (.slice b_L4 L4.length d_L4)).setCell (p := ⟨W.heap.size + 1, 6, none⟩) (by show W.heap.size + 1 < W.heap.size + 3; omega) (.slice b_L5 L5.length d_L5)).setCell (p := ⟨W.heap.size + 1, 7, none⟩) (by show W.heap.size + 1 < W.heap.size + 3; omega) (.int .i64 x7))
  have hsz := hoff.size
  exact mkow_Yard (fun k hk => ⟨by have := (HL_L0.out k hk).1; omega, by have := (HL_L0.out k hk).2; omega⟩) (fun k hk => ⟨by have := (HL_L1.out k hk).1; omega, by have := (HL_L1.out k hk).2; omega⟩) (fun k hk => ⟨by have := (HL_L2.out k hk).1; omega, by have := (HL_L2.out k hk).2; omega⟩) (fun k hk => ⟨by have := (HL_L3.out k hk).1; omega, by have := (HL_L3.out k hk).2; omega⟩) (fun k hk => ⟨by have := (HL_L4.out k hk).1; omega, by have := (HL_L4.out k hk).2; omega⟩) (fun k hk => ⟨by have := (HL_L5.out k hk).1; omega, by have := (HL_L5.out k hk).2; omega⟩) HD_L0_L1.out HD_L0_L2.out (fun k h h' => by have h1 := (HU_L0.out k h).2; have h2 := HG_L3.out k h'; omega) (fun k h h' => by have h1 := (HU_L0.out k h).2; have h2 := HG_L4.out k h'; omega) (fun k h h' => by have h1 := (HU_L0.out k h).2; have h2 := HG_L5.out k h'; omega) HD_L1_L2.out (fun k h h' => by have h1 := (HU_L1.out k h).2; have h2 := HG_L3.out k h'; omega) (fun k h h' => by have h1 := (HU_L1.out k h).2; have h2 := HG_L4.out k h'; omega) (fun k h h' => by have h1 := (HU_L1.out k h).2; have h2 := HG_L5.out k h'; omega) (fun k h h' => by have h1 := (HU_L2.out k h).2; have h2 := HG_L3.out k h'; omega) (fun k h h' => by have h1 := (HU_L2.out k h).2; have h2 := HG_L4.out k h'; omega) (fun k h h' => by have h1 := (HU_L2.out k h).2; have h2 := HG_L5.out k h'; omega) (fun k h h' => by have h1 := (HU_L3.out k h).2; have h2 := HG_L4.out k h'; omega) (fun k h h' => by have h1 := (HU_L3.out k h).2; have h2 := HG_L5.out k h'; omega) (fun k h h' => by have h1 := (HU_L4.out k h).2; have h2 := HG_L5.out k h'; omega) (HO_L0.out.keep (Sl_ok R_Label_ok) (fun k hk => hoff.block k (HL_L0.out k hk).2 (by have := (HL_L0.out k hk).1; omega))) (HO_L1.out.keep R_Pair_ok (fun k hk => hoff.block k (HL_L1.out k hk).2 (by have := (HL_L1.out k hk).1; omega))) (HO_L2.out.keep R_Quota_ok (fun k hk => hoff.block k (HL_L2.out k hk).2 (by have := (HL_L2.out k hk).1; omega))) (HO_L3.out.keep R_Node_ok (fun k hk => hoff.block k (HL_L3.out k hk).2 (by have := (HL_L3.out k hk).1; omega))) (HO_L4.out.keep R_Task_ok (fun k hk => hoff.block k (HL_L4.out k hk).2 (by have := (HL_L4.out k hk).1; omega))) (HO_L5.out.keep R_Use_ok (fun k hk => hoff.block k (HL_L5.out k hk).2 (by have := (HL_L5.out k hk).1; omega)))
set_option maxRecDepth 100000 in
set_option maxHeartbeats 3200000 in
theorem eq_Yard {L0 : List (List (D_Label))} {L1 : List (D_Pair)} {L2 : List (D_Quota)} {x3 : Int} {L3 : List (D_Node)} {L4 : List (D_Task)} {L5 : List (D_Use)} {x7 : Int} {a0 : Option Addr} {c0 : Nat} {a1 : Option Addr} {c1 : Nat} {a2 : Option Addr} {c2 : Nat} {a3 : Option Addr} {c3 : Nat} {a4 : Option Addr} {c4 : Nat} {a5 : Option Addr} {c5 : Nat} {a0' : Option Addr} {c0' : Nat} {a1' : Option Addr} {c1' : Nat} {a2' : Option Addr} {c2' : Nat} {a3' : Option Addr} {c3' : Nat} {a4' : Option Addr} {c4' : Nat} {a5' : Option Addr} {c5' : Nat} {W : World} (h_L0 : RdSl (Sl R_Label) W W.heap.size L0 a0 c0) (h_L1 : RdSl R_Pair W W.heap.size L1 a1 c1) (h_L2 : RdSl R_Quota W W.heap.size L2 a2 c2) (h_L3 : RdSl R_Node W W.heap.size L3 a3 c3) (h_L4 : RdSl R_Task W W.heap.size L4 a4 c4) (h_L5 : RdSl R_Use W W.heap.size L5 a5 c5) (h'_L0 : RdSl (Sl R_Label) W W.heap.size L0 a0' c0') (h'_L1 : RdSl R_Pair W W.heap.size L1 a1' c1') (h'_L2 : RdSl R_Quota W W.heap.size L2 a2' c2') (h'_L3 : RdSl R_Node W W.heap.size L3 a3' c3') (h'_L4 : RdSl R_Task W W.heap.size L4 a4' c4') (h'_L5 : RdSl R_Use W W.heap.size L5 a5' c5') : Calls Tryz.prog 9 #[.agg #[.slice a0 L0.length c0, .slice a1 L1.length c1, .slice a2 L2.length c2, .int .i64 x3, .slice a3 L3.length c3, .slice a4 L4.length c4, .slice a5 L5.length c5, .int .i64 x7], .agg #[.slice a0' L0.length c0', .slice a1' L1.length c1', .slice a2' L2.length c2', .int .i64 x3, .slice a3' L3.length c3', .slice a4' L4.length c4', .slice a5' L5.length c5', .int .i64 x7]] W (IsB true W) := by
  have H_L0 := Lib.hid h_L0
  have H'_L0 := Lib.hid h'_L0
  have H_L1 := Lib.hid h_L1
  have H'_L1 := Lib.hid h'_L1
  have H_L2 := Lib.hid h_L2
  have H'_L2 := Lib.hid h'_L2
  have H_L3 := Lib.hid h_L3
  have H'_L3 := Lib.hid h'_L3
  have H_L4 := Lib.hid h_L4
  have H'_L4 := Lib.hid h'_L4
  have H_L5 := Lib.hid h_L5
  have H'_L5 := Lib.hid h'_L5
  clear h_L0 h'_L0 h_L1 h'_L1 h_L2 h'_L2 h_L3 h'_L3 h_L4 h'_L4 h_L5 h'_L5
  have HB0 := Lib.hid (show Below W.heap.size W ((W.alloc (.cells #[.slice a0 L0.length c0, .slice a1 L1.length c1, .slice a2 L2.length c2, .int .i64 x3, .slice a3 L3.length c3, .slice a4 L4.length c4, .slice a5 L5.length c5, .int .i64 x7] 45)).alloc (.cells #[.slice a0' L0.length c0', .slice a1' L1.length c1', .slice a2' L2.length c2', .int .i64 x3, .slice a3' L3.length c3', .slice a4' L4.length c4', .slice a5' L5.length c5', .int .i64 x7] 45)) from ((Below.refl _ _).alloc (Nat.le_refl _) _).alloc (by simp) _)
  have hP := (Blk.new W 45 #[.slice a0 L0.length c0, .slice a1 L1.length c1, .slice a2 L2.length c2, .int .i64 x3, .slice a3 L3.length c3, .slice a4 L4.length c4, .slice a5 L5.length c5, .int .i64 x7]).alloc (.cells #[.slice a0' L0.length c0', .slice a1' L1.length c1', .slice a2' L2.length c2', .int .i64 x3, .slice a3' L3.length c3', .slice a4' L4.length c4', .slice a5' L5.length c5', .int .i64 x7] 45)
  have hQ := Blk.new (W.alloc (.cells #[.slice a0 L0.length c0, .slice a1 L1.length c1, .slice a2 L2.length c2, .int .i64 x3, .slice a3 L3.length c3, .slice a4 L4.length c4, .slice a5 L5.length c5, .int .i64 x7] 45)) 45 #[.slice a0' L0.length c0', .slice a1' L1.length c1', .slice a2' L2.length c2', .int .i64 x3, .slice a3' L3.length c3', .slice a4' L4.length c4', .slice a5' L5.length c5', .int .i64 x7]
  simp only [World.size_alloc] at hP hQ
  have HP0 := Lib.hid hP
  have HQ0 := Lib.hid hQ
  have hz0 : W.heap.size ≤ ((W.alloc (.cells #[.slice a0 L0.length c0, .slice a1 L1.length c1, .slice a2 L2.length c2, .int .i64 x3, .slice a3 L3.length c3, .slice a4 L4.length c4, .slice a5 L5.length c5, .int .i64 x7] 45)).alloc (.cells #[.slice a0' L0.length c0', .slice a1' L1.length c1', .slice a2' L2.length c2', .int .i64 x3, .slice a3' L3.length c3', .slice a4' L4.length c4', .slice a5' L5.length c5', .int .i64 x7] 45)).heap.size := HB0.out.size
  clear hP hQ
  go_enter Tryz.func9, Tryz.ntmps9
  go_wp2_with fail
  refine (eq_Config ((H_L0.out.below (Sl_ok R_Label_ok) HB0.out).more (Sl_ok R_Label_ok) hz0) ((H_L1.out.below R_Pair_ok HB0.out).more R_Pair_ok hz0) ((H_L2.out.below R_Quota_ok HB0.out).more R_Quota_ok hz0) ((H'_L0.out.below (Sl_ok R_Label_ok) HB0.out).more (Sl_ok R_Label_ok) hz0) ((H'_L1.out.below R_Pair_ok HB0.out).more R_Pair_ok hz0) ((H'_L2.out.below R_Quota_ok HB0.out).more R_Quota_ok hz0)).mono ?_
  intro e w1 h
  obtain ⟨rfl, hb⟩ := isB_elim h
  have HP1 := Lib.hid (HP0.out.call hb)
  have HQ1 := Lib.hid (HQ0.out.call hb)
  have HB1 := Lib.hid (HB0.out.trans (hb.mono hz0))
  have hz1 : W.heap.size ≤ w1.heap.size := HB1.out.size
  clear h hb
  have p1_4 := HP1.out.at_ 4 rfl
  have q1_4 := HQ1.out.at_ 4 rfl
  have p1_5 := HP1.out.at_ 5 rfl
  have q1_5 := HQ1.out.at_ 5 rfl
  have p1_6 := HP1.out.at_ 6 rfl
  have q1_6 := HQ1.out.at_ 6 rfl
  have p1_7 := HP1.out.at_ 7 rfl
  have q1_7 := HQ1.out.at_ 7 rfl
  go_wp2_with fail
  refine (eq_NodeS ((H_L3.out.below R_Node_ok HB1.out).more R_Node_ok hz1) ((H'_L3.out.below R_Node_ok HB1.out).more R_Node_ok hz1)).mono ?_
  intro e w2 h
  obtain ⟨rfl, hb⟩ := isB_elim h
  have HP2 := Lib.hid (HP1.out.call hb)
  have HQ2 := Lib.hid (HQ1.out.call hb)
  have HB2 := Lib.hid (HB1.out.trans (hb.mono hz1))
  have hz2 : W.heap.size ≤ w2.heap.size := HB2.out.size
  clear h hb
  clear p1_4 q1_4 p1_5 q1_5 p1_6 q1_6 p1_7 q1_7
  have p2_5 := HP2.out.at_ 5 rfl
  have q2_5 := HQ2.out.at_ 5 rfl
  have p2_6 := HP2.out.at_ 6 rfl
  have q2_6 := HQ2.out.at_ 6 rfl
  have p2_7 := HP2.out.at_ 7 rfl
  have q2_7 := HQ2.out.at_ 7 rfl
  go_wp2_with fail
  refine (eq_TaskS ((H_L4.out.below R_Task_ok HB2.out).more R_Task_ok hz2) ((H'_L4.out.below R_Task_ok HB2.out).more R_Task_ok hz2)).mono ?_
  intro e w3 h
  obtain ⟨rfl, hb⟩ := isB_elim h
  have HP3 := Lib.hid (HP2.out.call hb)
  have HQ3 := Lib.hid (HQ2.out.call hb)
  have HB3 := Lib.hid (HB2.out.trans (hb.mono hz2))
  have hz3 : W.heap.size ≤ w3.heap.size := HB3.out.size
  clear h hb
  clear p2_5 q2_5 p2_6 q2_6 p2_7 q2_7
  have p3_6 := HP3.out.at_ 6 rfl
  have q3_6 := HQ3.out.at_ 6 rfl
  have p3_7 := HP3.out.at_ 7 rfl
  have q3_7 := HQ3.out.at_ 7 rfl
  go_wp2_with fail
  refine (eq_UseS ((H_L5.out.below R_Use_ok HB3.out).more R_Use_ok hz3) ((H'_L5.out.below R_Use_ok HB3.out).more R_Use_ok hz3)).mono ?_
  intro e w4 h
  obtain ⟨rfl, hb⟩ := isB_elim h
  have HP4 := Lib.hid (HP3.out.call hb)
  have HQ4 := Lib.hid (HQ3.out.call hb)
  have HB4 := Lib.hid (HB3.out.trans (hb.mono hz3))
  have hz4 : W.heap.size ≤ w4.heap.size := HB4.out.size
  clear h hb
  clear p3_6 q3_6 p3_7 q3_7
  have p4_7 := HP4.out.at_ 7 rfl
  have q4_7 := HQ4.out.at_ 7 rfl
  go_wp2
  all_goals
    go_ret
    exact ⟨rfl, HB4.out⟩
theorem szd_Yard {L0 : List (List (D_Label))} {L1 : List (D_Pair)} {L2 : List (D_Quota)} {x3 : Int} {L3 : List (D_Node)} {L4 : List (D_Task)} {L5 : List (D_Use)} {x7 : Int} : R_Yard.sz ((L0, L1, L2, x3), L3, L4, L5, x7) = ((R_Config).sz (L0, L1, L2, x3)) + (((Sl R_Node)).sz L3) + (((Sl R_Task)).sz L4) + (((Sl R_Use)).sz L5) := by
  simp only [R_Yard, Pr, I, Bo, atom]; omega
set_option maxRecDepth 100000 in
set_option maxHeartbeats 1600000 in
theorem sz_Yard {L0 : List (List (D_Label))} {L1 : List (D_Pair)} {L2 : List (D_Quota)} {x3 : Int} {L3 : List (D_Node)} {L4 : List (D_Task)} {L5 : List (D_Use)} {x7 : Int} {a0 : Option Addr} {c0 : Nat} {a1 : Option Addr} {c1 : Nat} {a2 : Option Addr} {c2 : Nat} {a3 : Option Addr} {c3 : Nat} {a4 : Option Addr} {c4 : Nat} {a5 : Option Addr} {c5 : Nat} {W : World} {l : Int} (h0 : 0 ≤ l) (h1 : l ≤ 1048576) (h_L0 : RdSl (Sl R_Label) W W.heap.size L0 a0 c0) (h_L1 : RdSl R_Pair W W.heap.size L1 a1 c1) (h_L2 : RdSl R_Quota W W.heap.size L2 a2 c2) (h_L3 : RdSl R_Node W W.heap.size L3 a3 c3) (h_L4 : RdSl R_Task W W.heap.size L4 a4 c4) (h_L5 : RdSl R_Use W W.heap.size L5 a5 c5) : Calls Tryz.prog 4 #[.agg #[.slice a0 L0.length c0, .slice a1 L1.length c1, .slice a2 L2.length c2, .int .i64 x3, .slice a3 L3.length c3, .slice a4 L4.length c4, .slice a5 L5.length c5, .int .i64 x7], .int .i64 l] W (SzC l (R_Yard.sz ((L0, L1, L2, x3), L3, L4, L5, x7)) W) := by
  have H_L0 := Lib.hid h_L0
  have H_L1 := Lib.hid h_L1
  have H_L2 := Lib.hid h_L2
  have H_L3 := Lib.hid h_L3
  have H_L4 := Lib.hid h_L4
  have H_L5 := Lib.hid h_L5
  clear h_L0 h_L1 h_L2 h_L3 h_L4 h_L5
  have HD := Lib.hid (szd_Yard (L0 := L0) (L1 := L1) (L2 := L2) (x3 := x3) (L3 := L3) (L4 := L4) (L5 := L5) (x7 := x7))
  have HB0 := Lib.hid (show Below W.heap.size W (W.alloc (.cells #[.slice a0 L0.length c0, .slice a1 L1.length c1, .slice a2 L2.length c2, .int .i64 x3, .slice a3 L3.length c3, .slice a4 L4.length c4, .slice a5 L5.length c5, .int .i64 x7] 31)) from (Below.refl _ _).alloc (Nat.le_refl _) _)
  have hP := Blk.new W 31 #[.slice a0 L0.length c0, .slice a1 L1.length c1, .slice a2 L2.length c2, .int .i64 x3, .slice a3 L3.length c3, .slice a4 L4.length c4, .slice a5 L5.length c5, .int .i64 x7]
  have HP0 := Lib.hid hP
  have hz0 : W.heap.size ≤ (W.alloc (.cells #[.slice a0 L0.length c0, .slice a1 L1.length c1, .slice a2 L2.length c2, .int .i64 x3, .slice a3 L3.length c3, .slice a4 L4.length c4, .slice a5 L5.length c5, .int .i64 x7] 31)).heap.size := HB0.out.size
  clear hP
  obtain ⟨s0, hs0⟩ : ∃ s, s = ((R_Config).sz (L0, L1, L2, x3)) := ⟨_, rfl⟩
  have HS0 := Lib.hid hs0
  rw [← hs0] at HD
  clear hs0
  obtain ⟨s1, hs1⟩ : ∃ s, s = (((Sl R_Node)).sz L3) := ⟨_, rfl⟩
  have HS1 := Lib.hid hs1
  rw [← hs1] at HD
  clear hs1
  obtain ⟨s2, hs2⟩ : ∃ s, s = (((Sl R_Task)).sz L4) := ⟨_, rfl⟩
  have HS2 := Lib.hid hs2
  rw [← hs2] at HD
  clear hs2
  obtain ⟨s3, hs3⟩ : ∃ s, s = (((Sl R_Use)).sz L5) := ⟨_, rfl⟩
  have HS3 := Lib.hid hs3
  rw [← hs3] at HD
  clear hs3
  go_enter Tryz.func4, Tryz.ntmps4
  go_wp2_with fail
  refine (sz_Config (l := l) (by omega) (by omega) ((H_L0.out.below (Sl_ok R_Label_ok) HB0.out).more (Sl_ok R_Label_ok) hz0) ((H_L1.out.below R_Pair_ok HB0.out).more R_Pair_ok hz0) ((H_L2.out.below R_Quota_ok HB0.out).more R_Quota_ok hz0)).mono ?_
  intro e w1 h
  obtain ⟨rfl, hb⟩ := szC_elim h
  rw [← HS0.out]
  have HP1 := Lib.hid (HP0.out.call hb)
  have HB1 := Lib.hid (HB0.out.trans (hb.mono hz0))
  have hz1 : W.heap.size ≤ w1.heap.size := HB1.out.size
  clear h hb
  have p1_0 := HP1.out.at_ 0 rfl
  have p1_1 := HP1.out.at_ 1 rfl
  have p1_2 := HP1.out.at_ 2 rfl
  have p1_4 := HP1.out.at_ 4 rfl
  have p1_5 := HP1.out.at_ 5 rfl
  have p1_6 := HP1.out.at_ 6 rfl
  by_cases hf0 : (s0 : Int) ≤ l
  rotate_left
  · rw [szR_no hf0]
    have HR := Lib.hid (szR_no (l := l) (s := R_Yard.sz ((L0, L1, L2, x3), L3, L4, L5, x7)) (by rw [HD.out]; omega))
    go_wp2
    go_ret
    exact ⟨by first | (rw [HR.out]; done) | (rw [HR.out]; rfl), HB1.out⟩
  rw [szR_yes hf0]
  have hpos0 : (0 : Int) ≤ l - (s0 : Nat) := by omega
  go_wp2_with fail
  refine (sz_NodeS (l := l - (s0 : Nat)) (by omega) (by omega) ((H_L3.out.below R_Node_ok HB1.out).more R_Node_ok hz1)).mono ?_
  intro e w2 h
  obtain ⟨rfl, hb⟩ := szC_elim h
  rw [← HS1.out]
  have HP2 := Lib.hid (HP1.out.call hb)
  have HB2 := Lib.hid (HB1.out.trans (hb.mono hz1))
  have hz2 : W.heap.size ≤ w2.heap.size := HB2.out.size
  clear h hb
  have p2_0 := HP2.out.at_ 0 rfl
  have p2_1 := HP2.out.at_ 1 rfl
  have p2_2 := HP2.out.at_ 2 rfl
  have p2_4 := HP2.out.at_ 4 rfl
  have p2_5 := HP2.out.at_ 5 rfl
  have p2_6 := HP2.out.at_ 6 rfl
  by_cases hf1 : (s1 : Int) ≤ l - (s0 : Nat)
  rotate_left
  · rw [szR_no hf1]
    have HR := Lib.hid (szR_no (l := l) (s := R_Yard.sz ((L0, L1, L2, x3), L3, L4, L5, x7)) (by rw [HD.out]; omega))
    go_wp2
    go_ret
    exact ⟨by first | (rw [HR.out]; done) | (rw [HR.out]; rfl), HB2.out⟩
  rw [szR_yes hf1]
  have hpos1 : (0 : Int) ≤ l - (s0 : Nat) - (s1 : Nat) := by omega
  go_wp2_with fail
  refine (sz_TaskS (l := l - (s0 : Nat) - (s1 : Nat)) (by omega) (by omega) ((H_L4.out.below R_Task_ok HB2.out).more R_Task_ok hz2)).mono ?_
  intro e w3 h
  obtain ⟨rfl, hb⟩ := szC_elim h
  rw [← HS2.out]
  have HP3 := Lib.hid (HP2.out.call hb)
  have HB3 := Lib.hid (HB2.out.trans (hb.mono hz2))
  have hz3 : W.heap.size ≤ w3.heap.size := HB3.out.size
  clear h hb
  have p3_0 := HP3.out.at_ 0 rfl
  have p3_1 := HP3.out.at_ 1 rfl
  have p3_2 := HP3.out.at_ 2 rfl
  have p3_4 := HP3.out.at_ 4 rfl
  have p3_5 := HP3.out.at_ 5 rfl
  have p3_6 := HP3.out.at_ 6 rfl
  by_cases hf2 : (s2 : Int) ≤ l - (s0 : Nat) - (s1 : Nat)
  rotate_left
  · rw [szR_no hf2]
    have HR := Lib.hid (szR_no (l := l) (s := R_Yard.sz ((L0, L1, L2, x3), L3, L4, L5, x7)) (by rw [HD.out]; omega))
    go_wp2
    go_ret
    exact ⟨by first | (rw [HR.out]; done) | (rw [HR.out]; rfl), HB3.out⟩
  rw [szR_yes hf2]
  have hpos2 : (0 : Int) ≤ l - (s0 : Nat) - (s1 : Nat) - (s2 : Nat) := by omega
  go_wp2_with fail
  refine (sz_UseS (l := l - (s0 : Nat) - (s1 : Nat) - (s2 : Nat)) (by omega) (by omega) ((H_L5.out.below R_Use_ok HB3.out).more R_Use_ok hz3)).mono ?_
  intro e w4 h
  obtain ⟨rfl, hb⟩ := szC_elim h
  rw [← HS3.out]
  have HP4 := Lib.hid (HP3.out.call hb)
  have HB4 := Lib.hid (HB3.out.trans (hb.mono hz3))
  have hz4 : W.heap.size ≤ w4.heap.size := HB4.out.size
  clear h hb
  have p4_0 := HP4.out.at_ 0 rfl
  have p4_1 := HP4.out.at_ 1 rfl
  have p4_2 := HP4.out.at_ 2 rfl
  have p4_4 := HP4.out.at_ 4 rfl
  have p4_5 := HP4.out.at_ 5 rfl
  have p4_6 := HP4.out.at_ 6 rfl
  by_cases hf3 : (s3 : Int) ≤ l - (s0 : Nat) - (s1 : Nat) - (s2 : Nat)
  rotate_left
  · rw [szR_no hf3]
    have HR := Lib.hid (szR_no (l := l) (s := R_Yard.sz ((L0, L1, L2, x3), L3, L4, L5, x7)) (by rw [HD.out]; omega))
    go_wp2
    go_ret
    exact ⟨by first | (rw [HR.out]; done) | (rw [HR.out]; rfl), HB4.out⟩
  rw [szR_yes hf3]
  have hpos3 : (0 : Int) ≤ l - (s0 : Nat) - (s1 : Nat) - (s2 : Nat) - (s3 : Nat) := by omega
  have HR := Lib.hid (szR_yes (l := l) (s := R_Yard.sz ((L0, L1, L2, x3), L3, L4, L5, x7)) (by rw [HD.out]; omega))
  go_wp2
  go_ret
  exact ⟨by rw [HR.out, HD.out]; first | rfl | (simp; done) | (simp; omega), HB4.out⟩
end Go.Proofs.YtelhmacfljffhabGreat.RepC
end
