/- The laws' data: contracts. -/
import Derived.Test.YtmmnkdilnlhbfaaTaT
namespace Go.Proofs.Ytmmnkdilnlhbfaa.RepC
open Go.RowKit RowC ValC
set_option linter.unusedVariables false
set_option linter.unusedSimpArgs false


theorem szd_Task {x0 : Int} {x1 : Int} {x2 : Int} {x3 : ByteArray} {x4 : Int} {x5 : Int} {x6 : Int} {x7 : Int} {x8 : Int} {x9 : Int} {x10 : Int} {x11 : Int} {x12 : Int} {L0 : List (Int)} : R_Task.sz ((x0, x1), x2, x3, x4, x5, x6, (x7, x8), x9, x10, x11, x12, L0) = x3.size + ((Sl I)).sz L0 := by
  simp only [R_Task, Pr, I, Bo, St, atom, R_Label]; omega
set_option maxRecDepth 100000 in
set_option maxHeartbeats 1600000 in
theorem sz_Task {x0 : Int} {x1 : Int} {x2 : Int} {x3 : ByteArray} {x4 : Int} {x5 : Int} {x6 : Int} {x7 : Int} {x8 : Int} {x9 : Int} {x10 : Int} {x11 : Int} {x12 : Int} {L0 : List (Int)} {a0 : Option Addr} {c0 : Nat} {W : World} {l : Int} (h0 : 0 ≤ l) (h1 : l ≤ 1048576) (h_L0 : RdSl I W W.heap.size L0 a0 c0) (b_x3 : x3.size ≤ maxLen) : Calls Try.prog 34 #[.agg #[.int .i64 x0, .int .i64 x1, .int .i64 x2, .string x3, .int .i64 x4, .int .i64 x5, .int .i64 x6, .int .i64 x7, .int .i64 x8, .int .i64 x9, .int .i64 x10, .int .i64 x11, .int .i64 x12, .slice a0 L0.length c0], .int .i64 l] W (SzC l (R_Task.sz ((x0, x1), x2, x3, x4, x5, x6, (x7, x8), x9, x10, x11, x12, L0)) W) := by
  unfold maxLen at b_x3
  have H_L0 := Lib.hid h_L0
  clear h_L0
  have HD := Lib.hid (szd_Task (x0 := x0) (x1 := x1) (x2 := x2) (x3 := x3) (x4 := x4) (x5 := x5) (x6 := x6) (x7 := x7) (x8 := x8) (x9 := x9) (x10 := x10) (x11 := x11) (x12 := x12) (L0 := L0))
  have HB0 := Lib.hid (show Below W.heap.size W (W.alloc (.cells #[.int .i64 x0, .int .i64 x1, .int .i64 x2, .string x3, .int .i64 x4, .int .i64 x5, .int .i64 x6, .int .i64 x7, .int .i64 x8, .int .i64 x9, .int .i64 x10, .int .i64 x11, .int .i64 x12, .slice a0 L0.length c0] 63)) from (Below.refl _ _).alloc (Nat.le_refl _) _)
  have hP := Blk.new W 63 #[.int .i64 x0, .int .i64 x1, .int .i64 x2, .string x3, .int .i64 x4, .int .i64 x5, .int .i64 x6, .int .i64 x7, .int .i64 x8, .int .i64 x9, .int .i64 x10, .int .i64 x11, .int .i64 x12, .slice a0 L0.length c0]
  have HP0 := Lib.hid hP
  have hz0 : W.heap.size ≤ (W.alloc (.cells #[.int .i64 x0, .int .i64 x1, .int .i64 x2, .string x3, .int .i64 x4, .int .i64 x5, .int .i64 x6, .int .i64 x7, .int .i64 x8, .int .i64 x9, .int .i64 x10, .int .i64 x11, .int .i64 x12, .slice a0 L0.length c0] 63)).heap.size := HB0.out.size
  clear hP
  by_cases hf : (x3.size : Int) ≤ l
  rotate_left
  · have HR := Lib.hid (szR_no (l := l) (s := R_Task.sz ((x0, x1), x2, x3, x4, x5, x6, (x7, x8), x9, x10, x11, x12, L0)) (by rw [HD.out]; omega))
    have hd : decide (l - (x3.size : Int) < 0) = true := decide_eq_true (by omega)
    go_enter Try.func34, Try.ntmps34
    go_wp2
    go_ret
    exact ⟨by rw [HR.out]; rfl, HB0.out⟩
  have hd : decide (l - (x3.size : Int) < 0) = false := decide_eq_false (by omega)
  obtain ⟨s0, hs0⟩ : ∃ s, s = (((Sl I)).sz L0) := ⟨_, rfl⟩
  have HS0 := Lib.hid hs0
  rw [← hs0] at HD
  clear hs0
  go_enter Try.func34, Try.ntmps34
  go_wp2_with fail
  refine (sz_Int64S (l := l - (x3.size : Int)) (by omega) (by omega) ((H_L0.out.below I_ok HB0.out).more I_ok hz0)).mono ?_
  intro e w1 h
  obtain ⟨rfl, hb⟩ := szC_elim h
  rw [← HS0.out]
  have HP1 := Lib.hid (HP0.out.call hb)
  have HB1 := Lib.hid (HB0.out.trans (hb.mono hz0))
  clear h hb
  by_cases hf0 : (s0 : Int) ≤ l - (x3.size : Int)
  rotate_left
  · rw [szR_no hf0]
    have HR := Lib.hid (szR_no (l := l) (s := R_Task.sz ((x0, x1), x2, x3, x4, x5, x6, (x7, x8), x9, x10, x11, x12, L0)) (by rw [HD.out]; omega))
    go_wp2
    go_ret
    exact ⟨by first | (rw [HR.out]; done) | (rw [HR.out]; rfl), HB1.out⟩
  rw [szR_yes hf0]
  have hpos0 : (0 : Int) ≤ l - (x3.size : Int) - (s0 : Nat) := by omega
  have HR := Lib.hid (szR_yes (l := l) (s := R_Task.sz ((x0, x1), x2, x3, x4, x5, x6, (x7, x8), x9, x10, x11, x12, L0)) (by rw [HD.out]; omega))
  go_wp2
  go_ret
  exact ⟨by rw [HR.out, HD.out]; first | rfl | (simp; done) | (simp; omega), HB1.out⟩


theorem sizz_TaskS : (R_Task).size = 14 := rfl
theorem szd_TaskS (L : List (D_Task)) : (Sl R_Task).sz L = L.length + sumL (R_Task).sz L := rfl
set_option maxRecDepth 100000 in
set_option maxHeartbeats 1600000 in
theorem sz_TaskS {L : List (D_Task)} {a : Option Addr} {cap : Nat} {W : World} {l : Int} (h0 : 0 ≤ l) (h1 : l ≤ 1048576) (h : RdSl R_Task W W.heap.size L a cap) : Calls Try.prog 21 #[.slice a L.length cap, .int .i64 l] W (SzC l ((Sl R_Task).sz L) W) := by
  have hn : L.length ≤ 9223372036854775807 := by have h1 := h.1; have h2 := h.2.1; unfold maxLen at h2; omega
  have H := Lib.hid h
  have HD := Lib.hid (szd_TaskS L)
  clear h
  by_cases hlen : (L.length : Int) ≤ l
  · go_enter Try.func21, Try.ntmps21
    go_wp2
    go_loopw [5, 1] (fun i q wr => ∃ k : Nat, k ≤ L.length ∧ i = .int .i64 k ∧ (L.length : Int) + (sumL (R_Task).sz (L.take k) : Nat) ≤ l ∧ q = .int .i64 (l - L.length - (sumL (R_Task).sz (L.take k) : Nat)) ∧ Below W.heap.size W wr) (fun i _ _ => L.length - (intOf i).toNat)
    case atStart => exact ⟨0, Nat.zero_le _, rfl, by simpa [sumL] using hlen, by simp [sumL], Below.refl _ _⟩
    case round =>
      obtain ⟨k, hk, rfl, hfit, rfl, hB⟩ := hrel
      have HB := Lib.hid hB
      have hsz := hB.size
      have hle := sumL_take_le (R_Task).sz L k
      by_cases hlt : k < L.length
      · obtain ⟨⟨⟨x0, x1⟩, x2, x3, x4, x5, x6, ⟨x7, x8⟩, x9, x10, x11, x12, L0⟩, hx⟩ := el_some hlt
        have HS := Lib.hid (sumL_take (R_Task).sz hx)
        have hle2 := sumL_take_le (R_Task).sz L (k + 1)
        obtain ⟨g, o, us, rfl, hg, hu, hr⟩ := (H.out.below R_Task_ok hB).at_ hx
        obtain ⟨a0, c0, rfl, k_L0, b_x3⟩ := rd_Task hr
        have e0 : wr.cell? ⟨g, o + k * 14, none⟩ = some (.int .i64 x0) := by simpa [sizz_TaskS, Nat.add_assoc] using hu 0 _ rfl
        have e1 : wr.cell? ⟨g, o + k * 14 + 1, none⟩ = some (.int .i64 x1) := by simpa [sizz_TaskS, Nat.add_assoc] using hu 1 _ rfl
        have e2 : wr.cell? ⟨g, o + k * 14 + 2, none⟩ = some (.int .i64 x2) := by simpa [sizz_TaskS, Nat.add_assoc] using hu 2 _ rfl
        have e3 : wr.cell? ⟨g, o + k * 14 + 3, none⟩ = some (.string x3) := by simpa [sizz_TaskS, Nat.add_assoc] using hu 3 _ rfl
        have e4 : wr.cell? ⟨g, o + k * 14 + 4, none⟩ = some (.int .i64 x4) := by simpa [sizz_TaskS, Nat.add_assoc] using hu 4 _ rfl
        have e5 : wr.cell? ⟨g, o + k * 14 + 5, none⟩ = some (.int .i64 x5) := by simpa [sizz_TaskS, Nat.add_assoc] using hu 5 _ rfl
        have e6 : wr.cell? ⟨g, o + k * 14 + 6, none⟩ = some (.int .i64 x6) := by simpa [sizz_TaskS, Nat.add_assoc] using hu 6 _ rfl
        have e7 : wr.cell? ⟨g, o + k * 14 + 7, none⟩ = some (.int .i64 x7) := by simpa [sizz_TaskS, Nat.add_assoc] using hu 7 _ rfl
        have e8 : wr.cell? ⟨g, o + k * 14 + 8, none⟩ = some (.int .i64 x8) := by simpa [sizz_TaskS, Nat.add_assoc] using hu 8 _ rfl
        have e9 : wr.cell? ⟨g, o + k * 14 + 9, none⟩ = some (.int .i64 x9) := by simpa [sizz_TaskS, Nat.add_assoc] using hu 9 _ rfl
        have e10 : wr.cell? ⟨g, o + k * 14 + 10, none⟩ = some (.int .i64 x10) := by simpa [sizz_TaskS, Nat.add_assoc] using hu 10 _ rfl
        have e11 : wr.cell? ⟨g, o + k * 14 + 11, none⟩ = some (.int .i64 x11) := by simpa [sizz_TaskS, Nat.add_assoc] using hu 11 _ rfl
        have e12 : wr.cell? ⟨g, o + k * 14 + 12, none⟩ = some (.int .i64 x12) := by simpa [sizz_TaskS, Nat.add_assoc] using hu 12 _ rfl
        have e13 : wr.cell? ⟨g, o + k * 14 + 13, none⟩ = some (.slice a0 L0.length c0) := by simpa [sizz_TaskS, Nat.add_assoc] using hu 13 _ rfl
        have K_L0 := Lib.hid (k_L0.more I_ok hsz)
        obtain ⟨q, hq⟩ : ∃ q, q = sumL (R_Task).sz (L.take k) := ⟨_, rfl⟩
        obtain ⟨p, hp⟩ : ∃ p, p = (R_Task).sz ((x0, x1), x2, x3, x4, x5, x6, (x7, x8), x9, x10, x11, x12, L0) := ⟨_, rfl⟩
        rw [← hq] at hfit hle HS
        rw [← hp] at HS
        have HQ := Lib.hid hq
        have HP := Lib.hid hp
        have hi0 : (0 : Int) ≤ (k : Int) := Int.natCast_nonneg _
        have hi1 : (k : Int) < (L.length : Int) := by omega
        have hgl : g < wr.heap.size := Nat.lt_of_lt_of_le hg hsz
        have hle3 : q + p ≤ sumL (R_Task).sz L := by rw [← HS.out]; exact hle2
        rw [← hq]
        clear hB hx hu k_L0 hq hp hle2
        go_wp2_with fail
        refine (sz_Task (by omega) (by omega) K_L0.out b_x3).mono ?_
        intro e w1 h
        obtain ⟨rfl, hb⟩ := szC_elim h
        rw [← HP.out]
        have HB2 := Lib.hid (HB.out.trans (hb.mono hsz))
        clear h hb
        by_cases hf : (p : Int) ≤ l - L.length - (q : Nat)
        · rw [szR_yes hf]
          have hpos : (0 : Int) ≤ l - L.length - (q : Nat) - (p : Nat) := by omega
          go_wp2
          go_roundw
          case rel => exact ⟨k + 1, by omega, by go_num, by rw [HS.out]; omega, by rw [HS.out]; congr 1; omega, HB2.out⟩
          case measure => simp [intOf]; omega
        · rw [szR_no hf]
          have HR := Lib.hid (szR_no (l := l) (s := (Sl R_Task).sz L) (by rw [HD.out]; omega))
          go_wp2
          go_ret
          exact ⟨by first | (rw [HR.out]; done) | (rw [HR.out]; rfl), HB2.out⟩
      · obtain rfl : k = L.length := by omega
        have HR := Lib.hid (szR_yes (l := l) (s := (Sl R_Task).sz L) (by rw [HD.out]; rw [List.take_length] at hfit; omega))
        have HT := Lib.hid (show L.take L.length = L from List.take_length)
        clear hB
        go_wp2
        go_ret
        exact ⟨by rw [HR.out, HD.out, ← HT.out]; first | rfl | (simp; done) | (simp; omega), HB.out⟩
  · have HR := Lib.hid (szR_no (l := l) (s := (Sl R_Task).sz L) (by rw [HD.out]; omega))
    go_enter Try.func21, Try.ntmps21
    go_wp2
    go_ret
    exact ⟨by first | (rw [HR.out]; done) | (rw [HR.out]; rfl), Below.refl _ _⟩

end Go.Proofs.Ytmmnkdilnlhbfaa.RepC
