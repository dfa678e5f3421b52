/- DiskRight, in the program and in its model: contracts. -/
import Derived.Test.YtdedomfocljhaaaDoorDsP
namespace Go.Proofs.YtdedomfocljhaaaDoor.RepC
open Go.RowKit RowC ValC SpanC KeptC
set_option linter.unusedVariables false
set_option linter.unusedSimpArgs false
set_option maxRecDepth 100000

set_option maxHeartbeats 1600000 in
theorem disk_s {L : List D_Region} {p : Int} {a : Option Addr} {c : Nat} {W : World} (h : RdSl R_Region W W.heap.size L a c) :
    Calls Tryd.prog 49 #[.agg #[.slice a L.length c, .int .i64 p]] W (ResB (diskP L p) W) := by
  have HL := Lib.hid h
  have hln : L.length ≤ 9223372036854775807 := by have h1 := h.1; have h2 := h.2.1; unfold maxLen at h2; omega
  clear h
  obtain ⟨wo, hwo⟩ : ∃ w, w = W.alloc (.cells #[.slice a L.length c, .int .i64 p] 42) := ⟨_, rfl⟩
  have HB0 := Lib.hid (show Below W.heap.size W wo from by rw [hwo]; exact (Below.refl _ _).alloc (Nat.le_refl _) _)
  have HP0 := Lib.hid (show Blk wo W.heap.size 42 #[.slice a L.length c, .int .i64 p] from by rw [hwo]; exact Blk.new _ _ _)
  have IP := Lib.hid (fun w => is_spec p (-1) 1000000 w)
  obtain ⟨q2, hq2⟩ : ∃ q, isB p (-1) 1000000 = q := ⟨_, rfl⟩
  have HQ2 := Lib.hid hq2
  rw [hq2] at IP
  clear hq2
  have p0 := HP0.out.at_ 0 rfl
  have p1 := HP0.out.at_ 1 rfl
  by_cases hl1 : 1 ≤ L.length
  rotate_left
  · have dl : decide ((L.length : Int) < 1) = true := decide_eq_true (by omega)
    have HN := Lib.hid (show ¬ diskP L p from fun h => hl1 h.1.1)
    clear hl1
    go_enter Tryd.func49, Tryd.ntmps49
    go_upto_region 1 with fail
    rw [← hwo]
    clear hwo
    go_wp2
    go_ret
    exact resB_no HN.out HB0.out
  have dl : decide ((L.length : Int) < 1) = false := decide_eq_false (by omega)
  by_cases hl2 : L.length ≤ 13
  rotate_left
  · have dl2 : decide (13 < (L.length : Int)) = true := decide_eq_true (by omega)
    have HN := Lib.hid (show ¬ diskP L p from fun h => hl2 h.1.2)
    clear hl2
    go_enter Tryd.func49, Tryd.ntmps49
    go_upto_region 1 with fail
    rw [← hwo]
    clear hwo
    go_wp2
    go_ret
    exact resB_no HN.out HB0.out
  have dl2 : decide (13 < (L.length : Int)) = false := decide_eq_false (by omega)
  have HQ1 := Lib.hid (And.intro hl1 hl2)
  go_enter Tryd.func49, Tryd.ntmps49
  go_upto_region 1 with fail
  rw [← hwo]
  clear hwo
  go_wp2_with fail
  refine (IP.out _).mono ?_
  rintro e w1 ⟨rfl, rfl⟩
  cases q2 with
  | false =>
    have HN := Lib.hid (show ¬ diskP L p from fun h => by have h1 := h.2.1; have h2 := HQ2.out; rw [show isB p (-1) 1000000 = true from (isB_iff _ _ _).2 h1] at h2; cases h2)
    go_wp2
    go_ret
    exact resB_no HN.out HB0.out
  | true =>
  have HC := Lib.hid (show (1 ≤ L.length ∧ L.length ≤ 13) ∧ (-1 ≤ p ∧ p ≤ 1000000) from ⟨HQ1.out, (isB_iff _ _ _).1 HQ2.out⟩)
  go_wp2
  go_loopw [3] (fun i wr => ∃ k : Nat, k ≤ L.length ∧ i = .int .i64 k ∧ Hid (∀ (j : Nat) (y : D_Region), j < k → L[j]? = some y → regP y) ∧ Below W.heap.size W wr ∧ Hid (Blk wr W.heap.size 42 #[.slice a L.length c, .int .i64 p])) (fun i _ => L.length - (intOf i).toNat)
  case atStart => exact ⟨0, Nat.zero_le _, rfl, Lib.hid fun j d h => absurd h (Nat.not_lt_zero _), HB0.out, HP0⟩
  case round =>
    obtain ⟨k, hk, rfl, HOK, hB, HP⟩ := hrel
    have HB := Lib.hid hB
    have hsz := hB.size
    have p0 := HP.out.at_ 0 rfl
    have p1 := HP.out.at_ 1 rfl
    by_cases hlt : k < L.length
    · have hdl : decide ((k : Int) < (L.length : Int)) = true := decide_eq_true (by omega)
      obtain ⟨⟨x0, x1, x2⟩, hx⟩ := el_some hlt
      have HX := Lib.hid hx
      obtain ⟨g, o, us, rfl, hg, hu, hr⟩ := HL.out.at_ hx
      obtain ⟨rfl, b0, b1, b2⟩ := rd_Region hr
      have e0 : wr.cell? ⟨g, o + k * 3, none⟩ = some (.string x0) := (hB.cell (p := ⟨g, o + k * 3, none⟩) hg).trans (by simpa [sizeq_RegionS, Nat.add_assoc] using hu 0 _ rfl)
      have e1 : wr.cell? ⟨g, o + k * 3 + 1, none⟩ = some (.string x1) := (hB.cell (p := ⟨g, o + k * 3 + 1, none⟩) hg).trans (by simpa [sizeq_RegionS, Nat.add_assoc] using hu 1 _ rfl)
      have e2 : wr.cell? ⟨g, o + k * 3 + 2, none⟩ = some (.string x2) := (hB.cell (p := ⟨g, o + k * 3 + 2, none⟩) hg).trans (by simpa [sizeq_RegionS, Nat.add_assoc] using hu 2 _ rfl)
      have hi0 : (0 : Int) ≤ (k : Int) := Int.natCast_nonneg _
      have hi1 : (k : Int) < (L.length : Int) := by omega
      have hA : Below wr.heap.size wr (wr.alloc (.cells #[.string x0, .string x1, .string x2] 70)) := (Below.refl _ _).alloc (Nat.le_refl _) _
      have HB1 := Lib.hid (hB.trans (hA.mono hsz))
      have HP1 := Lib.hid (HP.out.call hA)
      unfold maxLen at b0 b1 b2
      clear hB hx hu hr hA
      by_cases h0 : x0.size ≤ 3000
      rotate_left
      · have d0 : decide ((3000 : Int) < (x0.size : Int)) = true := decide_eq_true (by omega)
        have HN := Lib.hid (show ¬ diskP L p from fun h => h0 (h.2.2 _ (List.mem_of_getElem? HX.out)).1)
        clear h0
        go_wp2
        go_ret
        exact resB_no HN.out HB1.out
      have d0 : decide ((3000 : Int) < (x0.size : Int)) = false := decide_eq_false (by omega)
      by_cases h1 : x1.size ≤ 3000
      rotate_left
      · have d1 : decide ((3000 : Int) < (x1.size : Int)) = true := decide_eq_true (by omega)
        have HN := Lib.hid (show ¬ diskP L p from fun h => h1 (h.2.2 _ (List.mem_of_getElem? HX.out)).2.1)
        clear h1
        go_wp2
        go_ret
        exact resB_no HN.out HB1.out
      have d1 : decide ((3000 : Int) < (x1.size : Int)) = false := decide_eq_false (by omega)
      by_cases h2 : x2.size ≤ 3000
      rotate_left
      · have d2 : decide ((3000 : Int) < (x2.size : Int)) = true := decide_eq_true (by omega)
        have HN := Lib.hid (show ¬ diskP L p from fun h => h2 (h.2.2 _ (List.mem_of_getElem? HX.out)).2.2)
        clear h2
        go_wp2
        go_ret
        exact resB_no HN.out HB1.out
      have d2 : decide ((3000 : Int) < (x2.size : Int)) = false := decide_eq_false (by omega)
      have HOK2 := Lib.hid (disk_step HOK.out HX.out (show regP (x0, x1, x2) from ⟨h0, h1, h2⟩))
      go_wp2
      go_roundw
      case rel => exact ⟨k + 1, by omega, by go_num, HOK2, HB1.out, HP1⟩
      case measure => simp [intOf]; omega
    · have hdl : decide ((k : Int) < (L.length : Int)) = false := decide_eq_false (by omega)
      obtain rfl : k = L.length := by omega
      have HY := Lib.hid (show diskP L p from ⟨HC.out.1, HC.out.2, disk_end HOK.out⟩)
      clear hB
      go_wp2
      go_ret
      exact resB_yes HY.out HB.out
set_option maxHeartbeats 1600000 in
theorem disk_i {L : List D_Region} {p : Int} {a : Option Addr} {c : Nat} {W : World} (h : RdSl R_Region W W.heap.size L a c) :
    Calls Tryd.prog 53 #[.agg #[.slice a L.length c, .int .i64 p]] W (ResB (diskP L p) W) := by
  have HL := Lib.hid h
  have hln : L.length ≤ 9223372036854775807 := by have h1 := h.1; have h2 := h.2.1; unfold maxLen at h2; omega
  clear h
  obtain ⟨wo, hwo⟩ : ∃ w, w = W.alloc (.cells #[.slice a L.length c, .int .i64 p] 42) := ⟨_, rfl⟩
  have HB0 := Lib.hid (show Below W.heap.size W wo from by rw [hwo]; exact (Below.refl _ _).alloc (Nat.le_refl _) _)
  have HP0 := Lib.hid (show Blk wo W.heap.size 42 #[.slice a L.length c, .int .i64 p] from by rw [hwo]; exact Blk.new _ _ _)
  have IL := Lib.hid (fun w => is_impl (L.length : Int) 1 13 w)
  have IP := Lib.hid (fun w => is_impl p (-1) 1000000 w)
  obtain ⟨q1, hq1⟩ : ∃ q, isB (L.length : Int) 1 13 = q := ⟨_, rfl⟩
  obtain ⟨q2, hq2⟩ : ∃ q, isB p (-1) 1000000 = q := ⟨_, rfl⟩
  have HQ1 := Lib.hid hq1
  have HQ2 := Lib.hid hq2
  rw [hq1] at IL
  rw [hq2] at IP
  clear hq1 hq2
  have p0 := HP0.out.at_ 0 rfl
  have p1 := HP0.out.at_ 1 rfl
  go_enter Tryd.func53, Tryd.ntmps53
  go_upto_region 1 with fail
  rw [← hwo]
  clear hwo
  go_wp2_with fail
  refine (IL.out _).mono ?_
  rintro e w1 ⟨rfl, rfl⟩
  cases q1 with
  | false =>
    have HN := Lib.hid (show ¬ diskP L p from fun h => by have h1 := h.1; have h2 := HQ1.out; rw [show isB (L.length : Int) 1 13 = true from (isB_iff _ _ _).2 (by omega)] at h2; cases h2)
    go_wp2
    go_ret
    exact resB_no HN.out HB0.out
  | true =>
  go_wp2_with fail
  refine (IP.out _).mono ?_
  rintro e w1 ⟨rfl, rfl⟩
  cases q2 with
  | false =>
    have HN := Lib.hid (show ¬ diskP L p from fun h => by have h1 := h.2.1; have h2 := HQ2.out; rw [show isB p (-1) 1000000 = true from (isB_iff _ _ _).2 h1] at h2; cases h2)
    go_wp2
    go_ret
    exact resB_no HN.out HB0.out
  | true =>
  have HC := Lib.hid (show (1 ≤ L.length ∧ L.length ≤ 13) ∧ (-1 ≤ p ∧ p ≤ 1000000) from ⟨by have := (isB_iff _ _ _).1 HQ1.out; omega, (isB_iff _ _ _).1 HQ2.out⟩)
  go_wp2
  go_loopw [19] (fun i wr => ∃ k : Nat, k ≤ L.length ∧ i = .int .i64 k ∧ Hid (∀ (j : Nat) (y : D_Region), j < k → L[j]? = some y → regP y) ∧ Below W.heap.size W wr ∧ Hid (Blk wr W.heap.size 42 #[.slice a L.length c, .int .i64 p])) (fun i _ => L.length - (intOf i).toNat)
  case atStart => exact ⟨0, Nat.zero_le _, rfl, Lib.hid fun j d h => absurd h (Nat.not_lt_zero _), HB0.out, HP0⟩
  case round =>
    obtain ⟨k, hk, rfl, HOK, hB, HP⟩ := hrel
    have HB := Lib.hid hB
    have hsz := hB.size
    have p0 := HP.out.at_ 0 rfl
    have p1 := HP.out.at_ 1 rfl
    by_cases hlt : k < L.length
    · have hdl : decide ((k : Int) < (L.length : Int)) = true := decide_eq_true (by omega)
      obtain ⟨⟨x0, x1, x2⟩, hx⟩ := el_some hlt
      have HX := Lib.hid hx
      obtain ⟨g, o, us, rfl, hg, hu, hr⟩ := HL.out.at_ hx
      obtain ⟨rfl, b0, b1, b2⟩ := rd_Region hr
      have e0 : wr.cell? ⟨g, o + k * 3, none⟩ = some (.string x0) := (hB.cell (p := ⟨g, o + k * 3, none⟩) hg).trans (by simpa [sizeq_RegionS, Nat.add_assoc] using hu 0 _ rfl)
      have e1 : wr.cell? ⟨g, o + k * 3 + 1, none⟩ = some (.string x1) := (hB.cell (p := ⟨g, o + k * 3 + 1, none⟩) hg).trans (by simpa [sizeq_RegionS, Nat.add_assoc] using hu 1 _ rfl)
      have e2 : wr.cell? ⟨g, o + k * 3 + 2, none⟩ = some (.string x2) := (hB.cell (p := ⟨g, o + k * 3 + 2, none⟩) hg).trans (by simpa [sizeq_RegionS, Nat.add_assoc] using hu 2 _ rfl)
      have hi0 : (0 : Int) ≤ (k : Int) := Int.natCast_nonneg _
      have hi1 : (k : Int) < (L.length : Int) := by omega
      have hA : Below wr.heap.size wr (wr.alloc (.cells #[.string x0, .string x1, .string x2] 70)) := (Below.refl _ _).alloc (Nat.le_refl _) _
      have HB1 := Lib.hid (hB.trans (hA.mono hsz))
      have HP1 := Lib.hid (HP.out.call hA)
      unfold maxLen at b0 b1 b2
      clear hB hx hu hr hA
      by_cases h0 : x0.size ≤ 3000
      rotate_left
      · have d0 : decide ((3000 : Int) < (x0.size : Int)) = true := decide_eq_true (by omega)
        have HN := Lib.hid (show ¬ diskP L p from fun h => h0 (h.2.2 _ (List.mem_of_getElem? HX.out)).1)
        clear h0
        go_wp2
        go_ret
        exact resB_no HN.out HB1.out
      have d0 : decide ((3000 : Int) < (x0.size : Int)) = false := decide_eq_false (by omega)
      by_cases h1 : x1.size ≤ 3000
      rotate_left
      · have d1 : decide ((3000 : Int) < (x1.size : Int)) = true := decide_eq_true (by omega)
        have HN := Lib.hid (show ¬ diskP L p from fun h => h1 (h.2.2 _ (List.mem_of_getElem? HX.out)).2.1)
        clear h1
        go_wp2
        go_ret
        exact resB_no HN.out HB1.out
      have d1 : decide ((3000 : Int) < (x1.size : Int)) = false := decide_eq_false (by omega)
      by_cases h2 : x2.size ≤ 3000
      rotate_left
      · have d2 : decide ((3000 : Int) < (x2.size : Int)) = true := decide_eq_true (by omega)
        have HN := Lib.hid (show ¬ diskP L p from fun h => h2 (h.2.2 _ (List.mem_of_getElem? HX.out)).2.2)
        clear h2
        go_wp2
        go_ret
        exact resB_no HN.out HB1.out
      have d2 : decide ((3000 : Int) < (x2.size : Int)) = false := decide_eq_false (by omega)
      have HOK2 := Lib.hid (disk_step HOK.out HX.out (show regP (x0, x1, x2) from ⟨h0, h1, h2⟩))
      go_wp2
      go_roundw
      case rel => exact ⟨k + 1, by omega, by go_num, HOK2, HB1.out, HP1⟩
      case measure => simp [intOf]; omega
    · have hdl : decide ((k : Int) < (L.length : Int)) = false := decide_eq_false (by omega)
      obtain rfl : k = L.length := by omega
      have HY := Lib.hid (show diskP L p from ⟨HC.out.1, HC.out.2, disk_end HOK.out⟩)
      clear hB
      go_wp2
      go_ret
      exact resB_yes HY.out HB.out
end Go.Proofs.YtdedomfocljhaaaDoor.RepC
