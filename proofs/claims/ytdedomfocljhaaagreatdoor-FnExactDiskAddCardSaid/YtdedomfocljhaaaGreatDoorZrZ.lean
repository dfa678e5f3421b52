/- DsP, DsR, DsGv, ZrR, ZrV, ZrI, ZrC, ZrS, ZrQ, LgA, LgI, LgS, ZrA, ZrGv, ZrG4, ZrW4 in one text. -/
import Derived.Test.YtdedomfocljhaaaGreatDoorTk
import Derived.Test.YtdedomfocljhaaaGreatDoorDsT
import Derived.Test.YtdedomfocljhaaaGreatDoorResB
import Derived.Test.YtdedomfocljhaaaGreatDoorSp
import Derived.Test.YtdedomfocljhaaaGreatDoorDsG
import Derived.Test.YtdedomfocljhaaaGreatDoorAppB
import Derived.Test.YtdedomfocljhaaaGreatDoorClone
import Derived.Lib.AppendZeros
import Derived.Test.YtdedomfocljhaaaGreatDoorTk
import Derived.Test.YtdedomfocljhaaaGreatDoorJoin
import Derived.Test.YtdedomfocljhaaaGreatDoorKp
import Derived.Laws.Slices
import Derived.Test.YtdedomfocljhaaaGreatDoorFrR
import Derived.Test.YtdedomfocljhaaaGreatDoorFrT
import Derived.Test.YtdedomfocljhaaaGreatDoorARw
import Derived.Test.YtdedomfocljhaaaGreatDoorKq
import Derived.Test.YtdedomfocljhaaaGreatDoorFrB
import Derived.Test.YtdedomfocljhaaaGreatDoorFrG
namespace Go.Proofs.YtdedomfocljhaaaGreatDoor.RepC
open Go.RowKit RowC ValC SpanC KeptC
set_option linter.unusedVariables false
set_option linter.unusedSimpArgs false
set_option maxRecDepth 100000

/-- a region is right -/
def regP (x : D_Region) : Prop := x.1.size ≤ 3000 ∧ x.2.1.size ≤ 3000 ∧ x.2.2.size ≤ 3000
def regB (x : D_Region) : Bool := decide (x.1.size ≤ 3000) && decide (x.2.1.size ≤ 3000) && decide (x.2.2.size ≤ 3000)
theorem regB_iff {x : D_Region} : regB x = true ↔ regP x := by unfold regB regP; simp [and_assoc]
/-- a disk is right -/
def diskP (L : List D_Region) (p : Int) : Prop := (1 ≤ L.length ∧ L.length ≤ 13) ∧ (-1 ≤ p ∧ p ≤ 1000000) ∧ ∀ x ∈ L, regP x
def diskB (L : List D_Region) (p : Int) : Bool := isB L.length 1 13 && isB p (-1) 1000000 && L.all regB
theorem diskB_iff {L : List D_Region} {p : Int} : diskB L p = true ↔ diskP L p := by
  unfold diskB diskP
  rw [Bool.and_eq_true, Bool.and_eq_true, isB_iff, isB_iff, List.all_eq_true]
  constructor
  · rintro ⟨⟨h1, h2⟩, h3⟩
    exact ⟨by omega, by omega, fun x hx => regB_iff.1 (h3 x hx)⟩
  · rintro ⟨h1, h2, h3⟩
    exact ⟨⟨by omega, by omega⟩, fun x hx => regB_iff.2 (h3 x hx)⟩
theorem resB_is {P : Prop} {q : Bool} {w : World} {e : Ending} {w' : World} (hq : q = true ↔ P) (h : ResB P w e w') : IsB q w e w' := by
  obtain ⟨b, rfl, hb, h2⟩ := h
  have e : b = q := by
    cases b <;> cases q <;> simp_all
  rw [e]
  exact ⟨rfl, h2⟩
theorem disk_step {L : List D_Region} {k : Nat} {x : D_Region} (h : ∀ (j : Nat) (y : D_Region), j < k → L[j]? = some y → regP y) (hx : L[k]? = some x) (hr : regP x) : ∀ (j : Nat) (y : D_Region), j < k + 1 → L[j]? = some y → regP y := fun j y hj hy => by
  by_cases e : j = k
  · subst e
    rw [hx] at hy
    injection hy with hy
    exact hy ▸ hr
  · exact h j y (by omega) hy
theorem disk_end {L : List D_Region} (h : ∀ (j : Nat) (y : D_Region), j < L.length → L[j]? = some y → regP y) : ∀ x ∈ L, regP x := fun x hx => by
  obtain ⟨j, hj⟩ := List.getElem?_of_mem hx
  exact h j x (List.getElem?_eq_some_iff.1 hj).1 hj
end Go.Proofs.YtdedomfocljhaaaGreatDoor.RepC
namespace Go.Proofs.YtdedomfocljhaaaGreatDoor.RepC
open Go.RowKit RowC ValC SpanC KeptC
set_option linter.unusedVariables false
set_option linter.unusedSimpArgs false
set_option maxRecDepth 100000

set_option maxHeartbeats 1600000 in
theorem disk_s {L : List D_Region} {p : Int} {a : Option Addr} {c : Nat} {W : World} (h : RdSl R_Region W W.heap.size L a c) :
    Calls Tryz.prog 34 #[.agg #[.slice a L.length c, .int .i64 p]] W (ResB (diskP L p) W) := by
  have HL := Lib.hid h
  have hln : L.length ≤ 9223372036854775807 := by have h1 := h.1; have h2 := h.2.1; unfold maxLen at h2; omega
  clear h
  obtain ⟨wo, hwo⟩ : ∃ w, w = W.alloc (.cells #[.slice a L.length c, .int .i64 p] 31) := ⟨_, rfl⟩
  have HB0 := Lib.hid (show Below W.heap.size W wo from by rw [hwo]; exact (Below.refl _ _).alloc (Nat.le_refl _) _)
  have HP0 := Lib.hid (show Blk wo W.heap.size 31 #[.slice a L.length c, .int .i64 p] from by rw [hwo]; exact Blk.new _ _ _)
  have IP := Lib.hid (fun w => is_spec p (-1) 1000000 w)
  obtain ⟨q2, hq2⟩ : ∃ q, isB p (-1) 1000000 = q := ⟨_, rfl⟩
  have HQ2 := Lib.hid hq2
  rw [hq2] at IP
  clear hq2
  have p0 := HP0.out.at_ 0 rfl
  have p1 := HP0.out.at_ 1 rfl
  by_cases hl1 : 1 ≤ L.length
  rotate_left
  · have dl : decide ((L.length : Int) < 1) = true := decide_eq_true (by omega)
    have HN := Lib.hid (show ¬ diskP L p from fun h => hl1 h.1.1)
    clear hl1
    go_enter Tryz.func34, Tryz.ntmps34
    go_upto_region 1 with fail
    rw [← hwo]
    clear hwo
    go_wp2
    go_ret
    exact resB_no HN.out HB0.out
  have dl : decide ((L.length : Int) < 1) = false := decide_eq_false (by omega)
  by_cases hl2 : L.length ≤ 13
  rotate_left
  · have dl2 : decide (13 < (L.length : Int)) = true := decide_eq_true (by omega)
    have HN := Lib.hid (show ¬ diskP L p from fun h => hl2 h.1.2)
    clear hl2
    go_enter Tryz.func34, Tryz.ntmps34
    go_upto_region 1 with fail
    rw [← hwo]
    clear hwo
    go_wp2
    go_ret
    exact resB_no HN.out HB0.out
  have dl2 : decide (13 < (L.length : Int)) = false := decide_eq_false (by omega)
  have HQ1 := Lib.hid (And.intro hl1 hl2)
  go_enter Tryz.func34, Tryz.ntmps34
  go_upto_region 1 with fail
  rw [← hwo]
  clear hwo
  go_wp2_with fail
  refine (IP.out _).mono ?_
  rintro e w1 ⟨rfl, rfl⟩
  cases q2 with
  | false =>
    have HN := Lib.hid (show ¬ diskP L p from fun h => by have h1 := h.2.1; have h2 := HQ2.out; rw [show isB p (-1) 1000000 = true from (isB_iff _ _ _).2 h1] at h2; cases h2)
    go_wp2
    go_ret
    exact resB_no HN.out HB0.out
  | true =>
  have HC := Lib.hid (show (1 ≤ L.length ∧ L.length ≤ 13) ∧ (-1 ≤ p ∧ p ≤ 1000000) from ⟨HQ1.out, (isB_iff _ _ _).1 HQ2.out⟩)
  go_wp2
  go_loopw [3] (fun i wr => ∃ k : Nat, k ≤ L.length ∧ i = .int .i64 k ∧ Hid (∀ (j : Nat) (y : D_Region), j < k → L[j]? = some y → regP y) ∧ Below W.heap.size W wr ∧ Hid (Blk wr W.heap.size 31 #[.slice a L.length c, .int .i64 p])) (fun i _ => L.length - (intOf i).toNat)
  case atStart => exact ⟨0, Nat.zero_le _, rfl, Lib.hid fun j d h => absurd h (Nat.not_lt_zero _), HB0.out, HP0⟩
  case round =>
    obtain ⟨k, hk, rfl, HOK, hB, HP⟩ := hrel
    have HB := Lib.hid hB
    have hsz := hB.size
    have p0 := HP.out.at_ 0 rfl
    have p1 := HP.out.at_ 1 rfl
    by_cases hlt : k < L.length
    · have hdl : decide ((k : Int) < (L.length : Int)) = true := decide_eq_true (by omega)
      obtain ⟨⟨x0, x1, x2⟩, hx⟩ := el_some hlt
      have HX := Lib.hid hx
      obtain ⟨g, o, us, rfl, hg, hu, hr⟩ := HL.out.at_ hx
      obtain ⟨rfl, b0, b1, b2⟩ := rd_Region hr
      have e0 : wr.cell? ⟨g, o + k * 3, none⟩ = some (.string x0) := (hB.cell (p := ⟨g, o + k * 3, none⟩) hg).trans (by simpa [sizeq_RegionS, Nat.add_assoc] using hu 0 _ rfl)
      have e1 : wr.cell? ⟨g, o + k * 3 + 1, none⟩ = some (.string x1) := (hB.cell (p := ⟨g, o + k * 3 + 1, none⟩) hg).trans (by simpa [sizeq_RegionS, Nat.add_assoc] using hu 1 _ rfl)
      have e2 : wr.cell? ⟨g, o + k * 3 + 2, none⟩ = some (.string x2) := (hB.cell (p := ⟨g, o + k * 3 + 2, none⟩) hg).trans (by simpa [sizeq_RegionS, Nat.add_assoc] using hu 2 _ rfl)
      have hi0 : (0 : Int) ≤ (k : Int) := Int.natCast_nonneg _
      have hi1 : (k : Int) < (L.length : Int) := by omega
      have hA : Below wr.heap.size wr (wr.alloc (.cells #[.string x0, .string x1, .string x2] 52)) := (Below.refl _ _).alloc (Nat.le_refl _) _
      have HB1 := Lib.hid (hB.trans (hA.mono hsz))
      have HP1 := Lib.hid (HP.out.call hA)
      unfold maxLen at b0 b1 b2
      clear hB hx hu hr hA
      by_cases h0 : x0.size ≤ 3000
      rotate_left
      · have d0 : decide ((3000 : Int) < (x0.size : Int)) = true := decide_eq_true (by omega)
        have HN := Lib.hid (show ¬ diskP L p from fun h => h0 (h.2.2 _ (List.mem_of_getElem? HX.out)).1)
        clear h0
        go_wp2
        go_ret
        exact resB_no HN.out HB1.out
      have d0 : decide ((3000 : Int) < (x0.size : Int)) = false := decide_eq_false (by omega)
      by_cases h1 : x1.size ≤ 3000
      rotate_left
      · have d1 : decide ((3000 : Int) < (x1.size : Int)) = true := decide_eq_true (by omega)
        have HN := Lib.hid (show ¬ diskP L p from fun h => h1 (h.2.2 _ (List.mem_of_getElem? HX.out)).2.1)
        clear h1
        go_wp2
        go_ret
        exact resB_no HN.out HB1.out
      have d1 : decide ((3000 : Int) < (x1.size : Int)) = false := decide_eq_false (by omega)
      by_cases h2 : x2.size ≤ 3000
      rotate_left
      · have d2 : decide ((3000 : Int) < (x2.size : Int)) = true := decide_eq_true (by omega)
        have HN := Lib.hid (show ¬ diskP L p from fun h => h2 (h.2.2 _ (List.mem_of_getElem? HX.out)).2.2)
        clear h2
        go_wp2
        go_ret
        exact resB_no HN.out HB1.out
      have d2 : decide ((3000 : Int) < (x2.size : Int)) = false := decide_eq_false (by omega)
      have HOK2 := Lib.hid (disk_step HOK.out HX.out (show regP (x0, x1, x2) from ⟨h0, h1, h2⟩))
      go_wp2
      go_roundw
      case rel => exact ⟨k + 1, by omega, by go_num, HOK2, HB1.out, HP1⟩
      case measure => simp [intOf]; omega
    · have hdl : decide ((k : Int) < (L.length : Int)) = false := decide_eq_false (by omega)
      obtain rfl : k = L.length := by omega
      have HY := Lib.hid (show diskP L p from ⟨HC.out.1, HC.out.2, disk_end HOK.out⟩)
      clear hB
      go_wp2
      go_ret
      exact resB_yes HY.out HB.out
set_option maxHeartbeats 1600000 in
theorem disk_i {L : List D_Region} {p : Int} {a : Option Addr} {c : Nat} {W : World} (h : RdSl R_Region W W.heap.size L a c) :
    Calls Tryz.prog 44 #[.agg #[.slice a L.length c, .int .i64 p]] W (ResB (diskP L p) W) := by
  have HL := Lib.hid h
  have hln : L.length ≤ 9223372036854775807 := by have h1 := h.1; have h2 := h.2.1; unfold maxLen at h2; omega
  clear h
  obtain ⟨wo, hwo⟩ : ∃ w, w = W.alloc (.cells #[.slice a L.length c, .int .i64 p] 31) := ⟨_, rfl⟩
  have HB0 := Lib.hid (show Below W.heap.size W wo from by rw [hwo]; exact (Below.refl _ _).alloc (Nat.le_refl _) _)
  have HP0 := Lib.hid (show Blk wo W.heap.size 31 #[.slice a L.length c, .int .i64 p] from by rw [hwo]; exact Blk.new _ _ _)
  have IL := Lib.hid (fun w => is_impl (L.length : Int) 1 13 w)
  have IP := Lib.hid (fun w => is_impl p (-1) 1000000 w)
  obtain ⟨q1, hq1⟩ : ∃ q, isB (L.length : Int) 1 13 = q := ⟨_, rfl⟩
  obtain ⟨q2, hq2⟩ : ∃ q, isB p (-1) 1000000 = q := ⟨_, rfl⟩
  have HQ1 := Lib.hid hq1
  have HQ2 := Lib.hid hq2
  rw [hq1] at IL
  rw [hq2] at IP
  clear hq1 hq2
  have p0 := HP0.out.at_ 0 rfl
  have p1 := HP0.out.at_ 1 rfl
  go_enter Tryz.func44, Tryz.ntmps44
  go_upto_region 1 with fail
  rw [← hwo]
  clear hwo
  go_wp2_with fail
  refine (IL.out _).mono ?_
  rintro e w1 ⟨rfl, rfl⟩
  cases q1 with
  | false =>
    have HN := Lib.hid (show ¬ diskP L p from fun h => by have h1 := h.1; have h2 := HQ1.out; rw [show isB (L.length : Int) 1 13 = true from (isB_iff _ _ _).2 (by omega)] at h2; cases h2)
    go_wp2
    go_ret
    exact resB_no HN.out HB0.out
  | true =>
  go_wp2_with fail
  refine (IP.out _).mono ?_
  rintro e w1 ⟨rfl, rfl⟩
  cases q2 with
  | false =>
    have HN := Lib.hid (show ¬ diskP L p from fun h => by have h1 := h.2.1; have h2 := HQ2.out; rw [show isB p (-1) 1000000 = true from (isB_iff _ _ _).2 h1] at h2; cases h2)
    go_wp2
    go_ret
    exact resB_no HN.out HB0.out
  | true =>
  have HC := Lib.hid (show (1 ≤ L.length ∧ L.length ≤ 13) ∧ (-1 ≤ p ∧ p ≤ 1000000) from ⟨by have := (isB_iff _ _ _).1 HQ1.out; omega, (isB_iff _ _ _).1 HQ2.out⟩)
  go_wp2
  go_loopw [19] (fun i wr => ∃ k : Nat, k ≤ L.length ∧ i = .int .i64 k ∧ Hid (∀ (j : Nat) (y : D_Region), j < k → L[j]? = some y → regP y) ∧ Below W.heap.size W wr ∧ Hid (Blk wr W.heap.size 31 #[.slice a L.length c, .int .i64 p])) (fun i _ => L.length - (intOf i).toNat)
  case atStart => exact ⟨0, Nat.zero_le _, rfl, Lib.hid fun j d h => absurd h (Nat.not_lt_zero _), HB0.out, HP0⟩
  case round =>
    obtain ⟨k, hk, rfl, HOK, hB, HP⟩ := hrel
    have HB := Lib.hid hB
    have hsz := hB.size
    have p0 := HP.out.at_ 0 rfl
    have p1 := HP.out.at_ 1 rfl
    by_cases hlt : k < L.length
    · have hdl : decide ((k : Int) < (L.length : Int)) = true := decide_eq_true (by omega)
      obtain ⟨⟨x0, x1, x2⟩, hx⟩ := el_some hlt
      have HX := Lib.hid hx
      obtain ⟨g, o, us, rfl, hg, hu, hr⟩ := HL.out.at_ hx
      obtain ⟨rfl, b0, b1, b2⟩ := rd_Region hr
      have e0 : wr.cell? ⟨g, o + k * 3, none⟩ = some (.string x0) := (hB.cell (p := ⟨g, o + k * 3, none⟩) hg).trans (by simpa [sizeq_RegionS, Nat.add_assoc] using hu 0 _ rfl)
      have e1 : wr.cell? ⟨g, o + k * 3 + 1, none⟩ = some (.string x1) := (hB.cell (p := ⟨g, o + k * 3 + 1, none⟩) hg).trans (by simpa [sizeq_RegionS, Nat.add_assoc] using hu 1 _ rfl)
      have e2 : wr.cell? ⟨g, o + k * 3 + 2, none⟩ = some (.string x2) := (hB.cell (p := ⟨g, o + k * 3 + 2, none⟩) hg).trans (by simpa [sizeq_RegionS, Nat.add_assoc] using hu 2 _ rfl)
      have hi0 : (0 : Int) ≤ (k : Int) := Int.natCast_nonneg _
      have hi1 : (k : Int) < (L.length : Int) := by omega
      have hA : Below wr.heap.size wr (wr.alloc (.cells #[.string x0, .string x1, .string x2] 52)) := (Below.refl _ _).alloc (Nat.le_refl _) _
      have HB1 := Lib.hid (hB.trans (hA.mono hsz))
      have HP1 := Lib.hid (HP.out.call hA)
      unfold maxLen at b0 b1 b2
      clear hB hx hu hr hA
      by_cases h0 : x0.size ≤ 3000
      rotate_left
      · have d0 : decide ((3000 : Int) < (x0.size : Int)) = true := decide_eq_true (by omega)
        have HN := Lib.hid (show ¬ diskP L p from fun h => h0 (h.2.2 _ (List.mem_of_getElem? HX.out)).1)
        clear h0
        go_wp2
        go_ret
        exact resB_no HN.out HB1.out
      have d0 : decide ((3000 : Int) < (x0.size : Int)) = false := decide_eq_false (by omega)
      by_cases h1 : x1.size ≤ 3000
      rotate_left
      · have d1 : decide ((3000 : Int) < (x1.size : Int)) = true := decide_eq_true (by omega)
        have HN := Lib.hid (show ¬ diskP L p from fun h => h1 (h.2.2 _ (List.mem_of_getElem? HX.out)).2.1)
        clear h1
        go_wp2
        go_ret
        exact resB_no HN.out HB1.out
      have d1 : decide ((3000 : Int) < (x1.size : Int)) = false := decide_eq_false (by omega)
      by_cases h2 : x2.size ≤ 3000
      rotate_left
      · have d2 : decide ((3000 : Int) < (x2.size : Int)) = true := decide_eq_true (by omega)
        have HN := Lib.hid (show ¬ diskP L p from fun h => h2 (h.2.2 _ (List.mem_of_getElem? HX.out)).2.2)
        clear h2
        go_wp2
        go_ret
        exact resB_no HN.out HB1.out
      have d2 : decide ((3000 : Int) < (x2.size : Int)) = false := decide_eq_false (by omega)
      have HOK2 := Lib.hid (disk_step HOK.out HX.out (show regP (x0, x1, x2) from ⟨h0, h1, h2⟩))
      go_wp2
      go_roundw
      case rel => exact ⟨k + 1, by omega, by go_num, HOK2, HB1.out, HP1⟩
      case measure => simp [intOf]; omega
    · have hdl : decide ((k : Int) < (L.length : Int)) = false := decide_eq_false (by omega)
      obtain rfl : k = L.length := by omega
      have HY := Lib.hid (show diskP L p from ⟨HC.out.1, HC.out.2, disk_end HOK.out⟩)
      clear hB
      go_wp2
      go_ret
      exact resB_yes HY.out HB.out
end Go.Proofs.YtdedomfocljhaaaGreatDoor.RepC
namespace Go.Proofs.YtdedomfocljhaaaGreatDoor.RepC
open Go.RowKit RowC ValC SpanC KeptC
set_option linter.unusedVariables false
set_option linter.unusedSimpArgs false

theorem cm_regions : ∀ L : List D_Region, sumL R_Region.cm L = 3 * L.length
  | [] => rfl
  | x :: xs => by
    simp only [sumL, cm_regions xs, List.length_cons]
    have : R_Region.cm x = 3 := rfl
    omega
theorem cv_Disk (d : D_Disk) : R_Disk.cv d = 3 * d.1.length := by
  obtain ⟨L, p⟩ := d
  rw [cvd_Disk, cm_regions]
theorem sz_len (d : D_Disk) : d.1.length ≤ R_Disk.sz d := by
  obtain ⟨L, p⟩ := d
  show L.length ≤ L.length + sumL R_Region.sz L + 0
  omega
theorem cvs_Disk {d : D_Disk} (h : R_Disk.sz d ≤ 1048576) : R_Disk.cv d ≤ 8388608 := by
  have h1 := sz_len d
  rw [cv_Disk]
  omega
end Go.Proofs.YtdedomfocljhaaaGreatDoor.RepC
namespace Go.Proofs.YtdedomfocljhaaaGreatDoor.RepC
open Go.RowKit RowC ValC SpanC KeptC
set_option linter.unusedVariables false
set_option linter.unusedSimpArgs false
set_option maxRecDepth 100000

theorem grow_low {w w' : World} {B : Nat} {o : Option Nat} (h : w.grownBy w' o) (hv : ∀ k, o = some k → B ≤ k) (hB : B ≤ w.heap.size) : Below B w w' :=
  ⟨h.os, h.tape, h.output, h.size, fun k hk => h.block k (Nat.lt_of_lt_of_le hk hB) (fun e => by have := hv k e.symm; omega)⟩
theorem infoReg : (Tryz.prog.info? 52).map (fun i => (i.zero, i.size, i.bytes)) = some (some (.agg #[.string ⟨#[]⟩, .string ⟨#[]⟩, .string ⟨#[]⟩]), 3, 48) := by kernel_rfl
theorem infoReg2 : ∃ i, Tryz.prog.info? 52 = some i ∧ i.zero = some (.agg #[.string ⟨#[]⟩, .string ⟨#[]⟩, .string ⟨#[]⟩]) ∧ i.size = 3 ∧ i.bytes = 48 := by
  have h := infoReg
  cases hx : Tryz.prog.info? 52 with
  | none => rw [hx] at h; simp at h
  | some i => rw [hx] at h; simp at h; exact ⟨i, rfl, h.1, h.2.1, h.2.2⟩
/-- a row of uses of the call's own, from block lo on -/
def GRow (w : World) (lo : Nat) (v : Value) (L : List D_Region) : Prop := ∃ xs hi, lo ≤ hi ∧ App R_Region w lo hi 52 v L xs (fun _ _ => False)
section
variable {w w' : World} {lo : Nat} {v : Value} {L : List D_Region}
theorem GRow.none_ (w : World) : GRow w w.heap.size (.slice none 0 0) [] := ⟨[], w.heap.size, Nat.le_refl _, App.none_ _ _ _ (Nat.le_refl _)⟩
theorem GRow.made (w : World) : GRow (w.alloc (.cells #[] 52)) w.heap.size (.slice (some ⟨w.heap.size, 0, none⟩) 0 0) [] := ⟨[], _, Nat.le_succ _, App.made _ _ _⟩
theorem GRow.call (h : GRow w lo v L) (hb : Below w.heap.size w w') : GRow w' lo v L := by
  obtain ⟨xs, hi, h0, h1⟩ := h
  exact ⟨xs, hi, h0, h1.call R_Region_ok hb⟩
theorem GRow.blk (h : GRow w lo v L) {k : Nat} (hk : v.ownBlock = some k) : lo ≤ k ∧ k < w.heap.size := by
  obtain ⟨xs, hi, h0, h1⟩ := h
  exact ⟨(h1.blk k hk).1, Nat.lt_of_lt_of_le (h1.blk k hk).2 h1.le⟩
theorem GRow.isSlice (h : GRow w lo v L) : ∃ a cap, v = .slice a L.length cap := by
  obtain ⟨xs, hi, h0, h1⟩ := h
  exact h1.isSlice
theorem GRow.news (h : GRow w' lo v L) {w : World} (hlo : w.heap.size ≤ lo) (hb : Below w.heap.size w w') : NewS R_Region L w (.returned v) w' := by
  obtain ⟨xs, hi, h0, h1⟩ := h
  obtain ⟨a, c, rfl, ho⟩ := h1.done
  exact ⟨a, c, rfl, ho.more fun k hk => ⟨Nat.le_trans hlo hk.1, Nat.lt_of_lt_of_le hk.2 h1.le⟩, hb⟩
end
def encG (x : D_Region) : List Value := [.string x.1, .string x.2.1, .string x.2.2]
theorem encG_len (M : List D_Region) : (M.flatMap encG).length = M.length * 3 := by
  induction M with
  | nil => rfl
  | cons x xs ih =>
    rw [List.flatMap_cons, List.length_append, ih, List.length_cons]
    show 3 + _ = _
    omega
theorem encG_at : ∀ (xs : List D_Region) (i j : Nat) (x : D_Region) (c : Value), xs[i]? = some x → (encG x)[j]? = some c → (xs.flatMap encG)[i * 3 + j]? = some c
  | [], i, j, x, c, h, _ => by simp at h
  | y :: ys, 0, j, x, c, h, hc => by
    simp at h
    subst h
    rw [List.flatMap_cons, Nat.zero_mul, Nat.zero_add, List.getElem?_append_left (List.getElem?_eq_some_iff.1 hc).1]
    exact hc
  | y :: ys, i + 1, j, x, c, h, hc => by
    have h1 := encG_at ys i j x c (by simpa using h) hc
    have hl : (encG y).length = 3 := rfl
    rw [List.flatMap_cons, List.getElem?_append_right (by omega), hl, show (i + 1) * 3 + j - 3 = i * 3 + j by omega]
    exact h1
theorem encG_cells {w : World} {g : Nat} : ∀ (M : List D_Region) (b : Nat), (∀ i x, M[i]? = some x → CellsAt w g (b + i * 3) (encG x)) → CellsAt w g b (M.flatMap encG)
  | [], b, _ => CellsAt.nil
  | y :: ys, b, hc => by
    have hy : (encG y).length = 3 := rfl
    rw [List.flatMap_cons]
    refine CellsAt.app.2 ⟨by simpa using hc 0 y rfl, ?_⟩
    rw [hy]
    refine encG_cells ys _ fun i x hx => ?_
    have := hc (i + 1) x (by simpa using hx)
    rw [show b + 3 + i * 3 = b + (i + 1) * 3 by omega]
    exact this
theorem encG_one (M : List D_Region) : ∀ u ∈ M.flatMap encG, u.oneCell' = true := fun u hu => by
  obtain ⟨x, _, h⟩ := List.mem_flatMap.1 hu
  simp [encG] at h
  rcases h with rfl | rfl | rfl <;> rfl
theorem rd_enc {W : World} {B : Nat} {x : D_Region} {us : List Value} (h : R_Region.rd W B x us) : us = encG x ∧ x.1.size ≤ maxLen ∧ x.2.1.size ≤ maxLen ∧ x.2.2.size ≤ maxLen := by
  obtain ⟨x0, x1, x2⟩ := x
  exact rd_Region h
theorem append_noneG {P : Program} {w : World} {base : Nat} {t ty e : TypeId} {i : TypeInfo} {size : Nat} (ht : P.underlying t = some (.slice e)) (hi : P.info? e = some i) {v : Value} {n : Nat} {xs : List Value} (hown : w.ownsRow base e size v n xs) (c : Nat) :
    (Builtin.append_ #[t, t] ty #[v, .slice none 0 c]).run P w = .ok v w := by
  rcases hown.2 with ⟨rfl, rfl⟩ | ⟨g, cap, cur, rfl, _, _, hnc, _⟩
  · simp [Builtin.append_, run_underlying ht, sizeOf, typeInfo, hi, Builtin.lenOf, Builtin.firstCells]
  · simp [Builtin.append_, run_underlying ht, sizeOf, typeInfo, hi, Builtin.lenOf, Builtin.firstCells, hnc, storeCells]
theorem GRow.more {w : World} {lo : Nat} {v : Value} {L : List D_Region} (h : GRow w lo v L) {M : List D_Region} {a : Option Addr} {cap : Nat} (hM : RdSl R_Region w w.heap.size M a cap) (hL : L.length + M.length ≤ 2000000) :
    ∃ v' w', (Builtin.append_ #[29, 29] 29 #[v, .slice a M.length cap]).run Tryz.prog w = .ok v' w' ∧ GRow w' lo v' (L ++ M) ∧ Below lo w w' := by
  obtain ⟨xs, hi, h0, h1⟩ := h
  obtain ⟨i, hi', hz, hsz, hby⟩ := infoReg2
  have hlo : lo ≤ w.heap.size := Nat.le_trans h0 h1.le
  cases a with
  | none =>
    have hm0 : M = [] := by
      cases M with
      | nil => rfl
      | cons y ys => obtain ⟨g, o, ha, _⟩ := hM.2.2 (by simp); cases ha
    subst hm0
    exact ⟨v, w, append_noneG Tryz.underlying29 hi' h1.own cap, ⟨xs, hi, h0, by simpa using h1⟩, Below.refl _ _⟩
  | some x =>
    have hcells : ∀ j u, (M.flatMap encG)[j]? = some u → w.cell? (x.add j) = some u := fun j u hj => by
      cases M with
      | nil => simp at hj
      | cons y ys =>
        obtain ⟨g, o, ha, hg, hel⟩ := hM.2.2 (by simp)
        cases ha
        have hall := encG_cells (g := g) (w := w) (y :: ys) o fun i x hx => by
          obtain ⟨us, hu, hr⟩ := hel i x hx
          rw [← (rd_enc hr).1]
          exact hu
        have hadd : (⟨g, o, none⟩ : Addr).add j = ⟨g, o + j, none⟩ := by unfold Addr.add; split <;> simp_all
        rw [hadd]
        exact hall j u hj
    obtain ⟨v', w', hrun, hown, hgr, _, hat⟩ := run_append_own_at (P := Tryz.prog) w lo 29 29 52 i _ 3 48 Tryz.underlying29 hi' hz hsz hby rfl (by decide) v L.length _ h1.own x M.length cap (M.flatMap encG) (encG_len M) hcells (encG_one M) (by unfold maxLen; omega) (by omega) hlo
    have hbl : ∀ k, v'.ownBlock = some k → lo ≤ k ∧ k < w'.heap.size := fun k hk => by
      rcases hown.2 with ⟨hn, _⟩ | ⟨g, cap', cur, hv, hlog, hgg, _⟩
      · rw [hn] at hk; cases hk
      · rw [hv] at hk
        cases hk
        exact ⟨hlog, (Array.getElem?_eq_some_iff.1 hgg).1⟩
    have hxl : xs.length = L.length * 3 := h1.own.1
    refine ⟨v', w', hrun, ⟨xs ++ M.flatMap encG, w'.heap.size, Nat.le_trans hlo hgr.size, ⟨by rw [List.length_append]; exact hown, fun q y hy => ?_, fun _ _ h => h.elim, fun _ _ _ _ h => h.elim, hbl, Nat.le_refl _⟩⟩, grow_low hgr (fun k hk => (h1.blk k hk).1) hlo⟩
    by_cases hq : q < L.length
    · rw [List.getElem?_append_left hq] at hy
      obtain ⟨vs, h2, h3⟩ := h1.el q y hy
      refine ⟨vs, fun j d hj => ?_, R_Region_ok.ow_keep h3 fun k hk => hk.elim⟩
      have h4 := h2 j d hj
      rw [List.getElem?_append_left (List.getElem?_eq_some_iff.1 h4).1]
      exact h4
    · rw [List.getElem?_append_right (by omega)] at hy
      have hlt : q - L.length < M.length := (List.getElem?_eq_some_iff.1 hy).1
      obtain ⟨g, o, ha, hg, hel⟩ := hM.2.2 (by omega)
      obtain ⟨us, hu, hr⟩ := hel _ _ hy
      have hb := (rd_enc hr).2
      refine ⟨encG y, fun j d hj => ?_, ?_⟩
      · rw [show R_Region.size = 3 from rfl, List.getElem?_append_right (by rw [hxl]; omega), hxl, show q * 3 + j - L.length * 3 = (q - L.length) * 3 + j by omega]
        exact encG_at M _ j y d hy hj
      · obtain ⟨y0, y1, y2⟩ := y
        exact mkow_Region hb.1 hb.2.1 hb.2.2
set_option maxHeartbeats 1600000 in
theorem clone_reg {L : List D_Region} {a : Option Addr} {cap : Nat} {W : World} (hn : L.length ≤ 2000000) (h : RdSl R_Region W W.heap.size L a cap) :
    Calls Tryz.prog 63 #[.slice a L.length cap] W (fun e w' => ∃ v, e = .returned v ∧ GRow w' W.heap.size v L ∧ Below W.heap.size W w') := by
  have qT : ∀ (w : World) (a : Option Addr) (n c n' c' : Nat), (binOp .eql 29 (.slice a n c) (.slice none n' c')).run Tryz.prog w = .ok (.bool a.isNone) w := fun w a n c n' c' => Lib.run_eql_slice_nil w _ _ a n c n' c' Tryz.underlying29
  cases a with
  | none =>
    have h0 : L.length = 0 := by
      by_cases hp : 0 < L.length
      · obtain ⟨g, o, he, _⟩ := h.2.2 hp
        cases he
      · omega
    have hL : L = [] := List.eq_nil_of_length_eq_zero h0
    subst hL
    go_enter Tryz.func63, Tryz.ntmps63
    go_wp2
    go_ret
    exact ⟨_, rfl, GRow.none_ W, Below.refl _ _⟩
  | some x =>
    have hbA : Below W.heap.size W (W.alloc (.cells #[] 52)) := (Below.refl _ _).alloc (Nat.le_refl _) _
    obtain ⟨v', w', hr, hrow, hb⟩ := (GRow.made W).more ((h.below R_Region_ok hbA).more R_Region_ok hbA.size) (by simpa using hn)
    have HR := Lib.hid hr
    have HO := Lib.hid (show GRow w' W.heap.size v' L from by simpa using hrow)
    have HB := Lib.hid (hbA.trans hb)
    clear hr hrow hb h hbA
    go_enter Tryz.func63, Tryz.ntmps63
    go_wp2_with (at_builtin; refine wpList_app rfl (.tmp 5) (.tmp 6) 29 rfl rfl rfl HR.out ?_)
    go_ret
    exact ⟨_, rfl, HO.out, HB.out⟩

/-- a copy: a row of its own -/
def OwnG (w : World) (g : Nat) (L : List D_Region) (cap : Nat) : Prop := OwSl R_Region w (fun k => k = g) L (some ⟨g, 0, none⟩) cap
theorem ow_enc {W : World} {S : Nat → Prop} {x : D_Region} {us : List Value} (h : R_Region.ow W S x us) : us = encG x ∧ x.1.size ≤ maxLen ∧ x.2.1.size ≤ maxLen ∧ x.2.2.size ≤ maxLen := by
  obtain ⟨x0, x1, x2⟩ := x
  exact ow0_Region h
theorem mkow_enc {W : World} {S : Nat → Prop} {x : D_Region} (h : x.1.size ≤ maxLen ∧ x.2.1.size ≤ maxLen ∧ x.2.2.size ≤ maxLen) : R_Region.ow W S x (encG x) := by
  obtain ⟨x0, x1, x2⟩ := x
  exact mkow_Region h.1 h.2.1 h.2.2
theorem own_one {w : World} {S : Nat → Prop} {L : List D_Region} {a : Option Addr} {cap : Nat} (h : OwSl R_Region w S L a cap) (hp : 0 < L.length) : ∃ g, a = some ⟨g, 0, none⟩ ∧ S g ∧ OwnG w g L cap := by
  obtain ⟨h1, h2, h3⟩ := h
  obtain ⟨g, Sf, rfl, hg, hf, _, _, hel⟩ := h3 hp
  refine ⟨g, rfl, hg, h1, h2, fun _ => ⟨g, fun _ _ => False, rfl, rfl, hf, fun i k h => h.elim, fun i j k _ h => h.elim, fun i x hx => ?_⟩⟩
  obtain ⟨us, hu, ho⟩ := hel i x hx
  obtain ⟨rfl, hb⟩ := ow_enc ho
  exact ⟨_, hu, mkow_enc hb⟩
theorem OwnG.cells {w : World} {g cap i : Nat} {L : List D_Region} {x : D_Region} (h : OwnG w g L cap) (hx : L[i]? = some x) :
    (w.cell? ⟨g, i * 3, none⟩ = some (.string x.1) ∧ w.cell? ⟨g, i * 3 + 1, none⟩ = some (.string x.2.1) ∧ w.cell? ⟨g, i * 3 + 2, none⟩ = some (.string x.2.2)) ∧ (∀ j, w.frozen? ⟨g, j, none⟩ = false) ∧ x.1.size ≤ maxLen ∧ x.2.1.size ≤ maxLen ∧ x.2.2.size ≤ maxLen := by
  obtain ⟨h1, h2, h3⟩ := h
  obtain ⟨g', Sf, e, hg, hf, _, _, hel⟩ := h3 (Nat.lt_of_le_of_lt (Nat.zero_le i) (List.getElem?_eq_some_iff.1 hx).1)
  cases e
  obtain ⟨us, hu, ho⟩ := hel i x hx
  obtain ⟨rfl, hb⟩ := ow_enc ho
  refine ⟨⟨?_, ?_, ?_⟩, hf, hb⟩
  · simpa [size_RegionS, Nat.add_assoc] using hu 0 _ rfl
  · simpa [size_RegionS, Nat.add_assoc] using hu 1 _ rfl
  · simpa [size_RegionS, Nat.add_assoc] using hu 2 _ rfl
theorem OwnG.lt {w : World} {g cap : Nat} {L : List D_Region} (h : OwnG w g L cap) (hp : 0 < L.length) : g < w.heap.size := by
  obtain ⟨x, hx⟩ := el_some hp
  have h1 := (h.cells hx).1.1
  apply Classical.byContradiction
  intro hn
  unfold World.cell? at h1
  rw [Array.getElem?_eq_none (show w.heap.size ≤ g by omega)] at h1
  cases h1
theorem OwnG.keep {w w' : World} {g cap : Nat} {L : List D_Region} (h : OwnG w g L cap) (hb : w'.heap[g]? = w.heap[g]?) : OwnG w' g L cap := OwSl.keep R_Region_ok h fun k hk => by rw [hk]; exact hb
theorem OwnG.rd {w : World} {g cap B : Nat} {L : List D_Region} (h : OwnG w g L cap) (hB : g < B) : RdSl R_Region w B L (some ⟨g, 0, none⟩) cap := OwSl.rd R_Region_ok h fun k hk => by rw [hk]; exact hB
/-- a cell of it set -/
theorem OwnG.put {w : World} {g cap i j : Nat} {L : List D_Region} {x y : D_Region} {s : ByteArray} (h : OwnG w g L cap) (hx : L[i]? = some x) (hj : j < 3) (hy : encG y = (encG x).set j (.string s)) (hz : y.1.size ≤ maxLen ∧ y.2.1.size ≤ maxLen ∧ y.2.2.size ≤ maxLen) :
    OwnG (w.setCell ⟨g, i * 3 + j, none⟩ (.string s)) g (L.set i y) cap := by
  have hcl := (h.cells hx).1
  obtain ⟨h1, h2, h3⟩ := h
  refine ⟨by rw [List.length_set]; exact h1, h2, fun hp => ?_⟩
  rw [List.length_set] at hp
  obtain ⟨g', Sf, e, hg, hf, hs1, hs2, hel⟩ := h3 hp
  cases e
  have hw : w.setCell ⟨g, i * 3 + j, none⟩ (.string s) = putCells w g (i * 3 + j) [.string s] := rfl
  rw [hw]
  have hc := putCells_cells g [.string s] w (i * 3 + j) (fun p hp => by
    match p, hp with
    | 0, _ =>
      match j, hj with
      | 0, _ => exact ⟨_, hcl.1⟩
      | 1, _ => exact ⟨_, hcl.2.1⟩
      | 2, _ => exact ⟨_, hcl.2.2⟩
    | _ + 1, hp => (simp at hp) <;> omega)
  have hil := (List.getElem?_eq_some_iff.1 hx).1
  refine ⟨g, fun _ _ => False, rfl, rfl, fun q => (putCells_frozen g _ _ w _).trans (hf q), fun _ _ h => h.elim, fun _ _ _ _ h => h.elim, fun q z hz' => ?_⟩
  by_cases e : q = i
  · subst e
    rw [List.getElem?_set_self hil] at hz'
    cases hz'
    obtain ⟨us, hu, ho⟩ := hel q x hx
    obtain ⟨rfl, hb⟩ := ow_enc ho
    refine ⟨encG y, fun jj c hcj => ?_, mkow_enc hz⟩
    rw [hy] at hcj
    by_cases ej : jj = j
    · subst ej
      rw [List.getElem?_set_self (by show jj < 3; exact hj)] at hcj
      cases hcj
      have := hc 0 _ rfl
      simpa [size_RegionS] using this
    · rw [List.getElem?_set_ne (fun e => ej e.symm)] at hcj
      rw [size_RegionS]
      have h9 := hu jj c hcj
      rw [size_RegionS] at h9
      refine (putCells_other g _ w _ ?_).trans h9
      simp
      omega
  · rw [List.getElem?_set_ne (fun e' => e e'.symm)] at hz'
    obtain ⟨us, hu, ho⟩ := hel q z hz'
    obtain ⟨rfl, hb⟩ := ow_enc ho
    refine ⟨encG z, fun jj c hcj => ?_, mkow_enc hb⟩
    have hlj : jj < 3 := (List.getElem?_eq_some_iff.1 hcj).1
    have h9 := hu jj c hcj
    rw [size_RegionS] at h9 ⊢
    refine (putCells_other g _ w _ ?_).trans h9
    simp
    omega
theorem GRow.own {w : World} {lo : Nat} {v : Value} {L : List D_Region} (h : GRow w lo v L) (hp : 0 < L.length) : ∃ g cap, v = .slice (some ⟨g, 0, none⟩) L.length cap ∧ lo ≤ g ∧ g < w.heap.size ∧ OwnG w g L cap := by
  obtain ⟨xs, hi, h0, h1⟩ := h
  obtain ⟨a, c, rfl, ho⟩ := h1.done
  obtain ⟨g, rfl, hg, hO⟩ := own_one ho hp
  exact ⟨g, c, rfl, hg.1, Nat.lt_of_lt_of_le hg.2 h1.le, hO⟩
end Go.Proofs.YtdedomfocljhaaaGreatDoor.RepC
namespace Go.Proofs.YtdedomfocljhaaaGreatDoor.ChC
open Go.RowKit SpanC KeptC RepC ValC RowC
set_option linter.unusedVariables false
set_option linter.unusedSimpArgs false
set_option maxRecDepth 100000

theorem rdG {α : Type} {E : Rp α} (hE : Ok E) {W w' : World} {L : List α} {a : Option Addr} {c : Nat} (h : RdSl E W W.heap.size L a c) (hb : Below W.heap.size W w') : RdSl E w' w'.heap.size L a c := (h.below hE hb).more hE hb.size
theorem eq_set {L : List D_Region} {r : Nat} {x : D_Region} (h : L[r]? = some x) : L.set r x = L := by
  apply List.ext_getElem?
  intro i
  by_cases e : r = i
  · subst e
    rw [List.getElem?_set_self (List.getElem?_eq_some_iff.1 h).1, h]
  · rw [List.getElem?_set_ne e]
theorem dr_sb {L : List D_Region} {p : Int} {b : Bool} (hb : diskB L p = b) {a : Option Addr} {c : Nat} {W : World} (h : RdSl R_Region W W.heap.size L a c) :
    Calls Tryz.prog 34 #[.agg #[.slice a L.length c, .int .i64 p]] W (fun e w' => e = .returned (.bool b) ∧ Below W.heap.size W w') := by
  subst hb
  exact (disk_s h).mono fun e w' h => resB_is diskB_iff h
theorem dr_ib {L : List D_Region} {p : Int} {b : Bool} (hb : diskB L p = b) {a : Option Addr} {c : Nat} {W : World} (h : RdSl R_Region W W.heap.size L a c) :
    Calls Tryz.prog 44 #[.agg #[.slice a L.length c, .int .i64 p]] W (fun e w' => e = .returned (.bool b) ∧ Below W.heap.size W w') := by
  subst hb
  exact (disk_i h).mono fun e w' h => resB_is diskB_iff h
/-- what a disk refuses ahead of all else -/
def codeV (L : List D_Region) (p r : Int) : Int := if diskB L p = true then if 0 ≤ r ∧ r < L.length then if p = 0 then 12 else 0 else 6 else 1
theorem codeV_form {L : List D_Region} {p r : Int} (h : diskB L p = false) : codeV L p r = 1 := by unfold codeV; rw [if_neg (by rw [h]; decide)]
theorem codeV_none {L : List D_Region} {p r : Int} (h : diskB L p = true) (hr : ¬ (0 ≤ r ∧ r < L.length)) : codeV L p r = 6 := by unfold codeV; rw [if_pos h, if_neg hr]
theorem codeV_down {L : List D_Region} {p r : Int} (h : diskB L p = true) (hr : 0 ≤ r ∧ r < L.length) (hp : p = 0) : codeV L p r = 12 := by unfold codeV; rw [if_pos h, if_pos hr, if_pos hp]
theorem codeV_ok {L : List D_Region} {p r : Int} (h : diskB L p = true) (hr : 0 ≤ r ∧ r < L.length) (hp : ¬ p = 0) : codeV L p r = 0 := by unfold codeV; rw [if_pos h, if_pos hr, if_neg hp]
theorem codeV_of {L : List D_Region} {p r : Int} (h : codeV L p r = 0 ∨ codeV L p r = 12) : diskP L p ∧ 0 ≤ r ∧ r < L.length := by
  unfold codeV at h
  split at h
  · rename_i hd
    split at h
    · rename_i hr
      exact ⟨diskB_iff.1 hd, hr⟩
    · rcases h with h | h <;> cases h
  · rcases h with h | h <;> cases h
theorem codeV_pow {L : List D_Region} {p r : Int} (h : codeV L p r = 0) : ¬ p = 0 := fun e => by
  have h1 := codeV_of (.inl h)
  rw [codeV_down (diskB_iff.2 h1.1) h1.2 e] at h
  cases h
/-- the answer to a refusal -/
def illV (c : Int) (L : List D_Region) (p : Int) : D_DiskOut := if c = 12 then ((L, p), 12) else (([], 0), c)
/-- the answer to a change of region r by F -/
def putV (L : List D_Region) (p : Int) (r : Nat) (y : D_Region × Int × Int) : D_DiskOut := if y.2.2 = 0 ∨ y.2.2 = 12 then ((L.set r y.1, y.2.1), y.2.2) else (([], 0), y.2.2)
def chgV (F : D_Region → Int → D_Region × Int × Int) (L : List D_Region) (p r : Int) : D_DiskOut :=
  if codeV L p r = 0 then putV L p r.toNat (F (L[r.toNat]?.getD (⟨#[]⟩, ⟨#[]⟩, ⟨#[]⟩)) p) else illV (codeV L p r) L p
theorem chgV_ill {F : D_Region → Int → D_Region × Int × Int} {L : List D_Region} {p r c : Int} (h : codeV L p r = c) (hc : ¬ c = 0) : chgV F L p r = illV c L p := by unfold chgV; rw [h, if_neg hc]
theorem chgV_at {F : D_Region → Int → D_Region × Int × Int} {L : List D_Region} {p : Int} {k : Nat} {x : D_Region} (h : codeV L p (k : Int) = 0) (hx : L[k]? = some x) : chgV F L p (k : Int) = putV L p k (F x p) := by
  unfold chgV
  rw [if_pos h, Int.toNat_natCast, hx]
  rfl
/-- a call's answer: a disk with a code, in memory of the call's own -/
def OutD (d : D_DiskOut) (W : World) (e : Ending) (w' : World) : Prop :=
  ∃ a c, ∃ S : Nat → Prop, e = .returned (.agg #[.slice a d.1.1.length c, .int .i64 d.1.2, .int .i64 d.2]) ∧ (∀ k, S k → W.heap.size ≤ k ∧ k < w'.heap.size) ∧ OwSl R_Region w' S d.1.1 a c ∧ Below W.heap.size W w'
theorem outD_elim {d : D_DiskOut} {W : World} {e : Ending} {w' : World} (h : OutD d W e w') :
  ∃ a c, ∃ S : Nat → Prop, e = .returned (.agg #[.slice a d.1.1.length c, .int .i64 d.1.2, .int .i64 d.2]) ∧ (∀ k, S k → W.heap.size ≤ k ∧ k < w'.heap.size) ∧ OwSl R_Region w' S d.1.1 a c ∧ Below W.heap.size W w' := h
theorem outD_new {d : D_DiskOut} {W : World} {e : Ending} {w' : World} (h : OutD d W e w') : NewV R_DiskOut d W e w' := by
  obtain ⟨⟨L, p⟩, c⟩ := d
  obtain ⟨a, ca, S, rfl, hS, ho, hb⟩ := h
  exact ⟨_, rfl, mkow_DiskOut (fun k hk => hS k hk) ho, hb⟩
theorem own_nil {w : World} {S : Nat → Prop} : OwSl R_Region w S [] none 0 := ⟨Nat.le_refl _, by unfold maxLen; omega, fun h => absurd h (Nat.lt_irrefl _)⟩
/-- behind the stores into the block b of the answer -/
theorem outD_put {d : D_DiskOut} {n : Nat} {p c : Int} {W w1 w2 : World} {b : Nat} {a : Option Addr} {ca : Nat} {S : Nat → Prop} (hn : d.1.1.length = n) (hp : d.1.2 = p) (hc : d.2 = c) (hb : W.heap.size ≤ b) (hB : Below W.heap.size W w1) (hS : ∀ k, S k → b < k ∧ k < w1.heap.size) (ho : OwSl R_Region w1 S d.1.1 a ca) (hoff : Off (fun k => k = b) w1 w2) :
    OutD d W (.returned (.agg #[.slice a n ca, .int .i64 p, .int .i64 c])) w2 := by
  subst hn hp hc
  exact ⟨a, ca, S, rfl, fun k hk => ⟨by have := (hS k hk).1; omega, Nat.lt_of_lt_of_le (hS k hk).2 hoff.size⟩, ho.keep R_Region_ok fun k hk => hoff.block k (hS k hk).2 (by have := (hS k hk).1; omega), hB.trans (hoff.below hB.size fun k hk => by omega)⟩
/-- a copy of a disk -/
def CopyD (L : List D_Region) (p : Int) (W : World) (e : Ending) (w' : World) : Prop := ∃ g ca, e = .returned (.agg #[.slice (some ⟨g, 0, none⟩) L.length ca, .int .i64 p]) ∧ W.heap.size ≤ g ∧ g < w'.heap.size ∧ OwnG w' g L ca ∧ Below W.heap.size W w'
theorem copyD_elim {L : List D_Region} {p : Int} {W : World} {e : Ending} {w' : World} (h : CopyD L p W e w') : ∃ g ca, e = .returned (.agg #[.slice (some ⟨g, 0, none⟩) L.length ca, .int .i64 p]) ∧ W.heap.size ≤ g ∧ g < w'.heap.size ∧ OwnG w' g L ca ∧ Below W.heap.size W w' := h
theorem copyD_put {L : List D_Region} {p : Int} {W w1 w2 : World} {g b ca : Nat} (hb : W.heap.size ≤ b) (hB : Below W.heap.size W w1) (hg : b < g) (hgl : g < w1.heap.size) (ho : OwnG w1 g L ca) (hoff : Off (fun k => k = b) w1 w2) :
    CopyD L p W (.returned (.agg #[.slice (some ⟨g, 0, none⟩) L.length ca, .int .i64 p])) w2 :=
  ⟨g, ca, rfl, by omega, Nat.lt_of_lt_of_le hgl hoff.size, ho.keep (hoff.block g hgl (by omega)), hB.trans (hoff.below hB.size fun k hk => by omega)⟩
/-- a region wiped -/
def wipeF (x : D_Region) (p : Int) : D_Region × Int × Int := ((x.1, x.2.1, ⟨#[]⟩), p, 0)
end Go.Proofs.YtdedomfocljhaaaGreatDoor.ChC
namespace Go.Proofs.YtdedomfocljhaaaGreatDoor.ChC
open Go.RowKit SpanC KeptC RepC ValC RowC
set_option linter.unusedVariables false
set_option linter.unusedSimpArgs false
set_option maxRecDepth 100000

theorem setCell_same {w : World} {g i : Nat} {v : Value} (h : w.cell? ⟨g, i, none⟩ = some v) : w.setCell ⟨g, i, none⟩ v = w := by
  have e : (w.setCell ⟨g, i, none⟩ v).heap = w.heap := by
    unfold World.setCell
    apply Array.ext_getElem?
    intro j
    show (Array.modify _ _ _)[j]? = _
    rw [Array.getElem?_modify]
    by_cases hj : g = j
    · subst hj
      rw [if_pos rfl]
      unfold World.cell? at h
      cases ho : w.heap[g]? with
      | none => rfl
      | some o =>
        rw [ho] at h
        cases o with
        | cells c t f =>
          simp at h
          simp only [Option.map_some, Option.isSome_none, Bool.false_eq_true, if_false]
          congr 2
          apply Array.ext_getElem?
          intro q
          rw [Array.getElem?_setIfInBounds]
          by_cases hq : i = q
          · subst hq
            rw [if_pos rfl]
            have := (Array.getElem?_eq_some_iff.1 h).1
            rw [if_pos this, h]
          · rw [if_neg hq]
        | _ => simp at h
    · rw [if_neg hj]
  have e2 : w.setCell ⟨g, i, none⟩ v = { w with heap := (w.setCell ⟨g, i, none⟩ v).heap } := rfl
  rw [e2, e]
set_option maxHeartbeats 3200000 in
theorem copied_i {L : List D_Region} {p : Int} {a : Option Addr} {ca : Nat} {W : World} (hL : RdSl R_Region W W.heap.size L a ca) (hp : 0 < L.length) (hn : L.length ≤ 2000000) (hs : ∀ x ∈ L, x.1.size ≤ 3000 ∧ x.2.1.size ≤ 3000 ∧ x.2.2.size ≤ 3000) : Calls Tryz.prog 46 #[.agg #[.slice a L.length ca, .int .i64 p]] W (CopyD L p W) := by
  have HR := Lib.hid hL
  have hln : L.length ≤ 9223372036854775807 := by have h1 := hL.1; have h2 := hL.2.1; unfold maxLen at h2; omega
  clear hL
  obtain ⟨w0, hw0⟩ : ∃ w, w = (W.alloc (.cells #[.slice a L.length ca, .int .i64 p] 31)).alloc (.cells #[.slice none 0 0, .int .i64 0] 31) := ⟨_, rfl⟩
  have HB0 := Lib.hid (show Below W.heap.size W w0 from by rw [hw0]; exact ((Below.refl _ _).alloc (Nat.le_refl _) _).alloc (by simp) _)
  have hq9 : Blk w0 W.heap.size 31 #[.slice a L.length ca, .int .i64 p] := by
    have h9 := Blk.new W 31 #[.slice a L.length ca, .int .i64 p]
    try simp only [World.size_alloc] at h9
    rw [hw0]
    exact (h9.alloc _)
  have XD := Lib.hid hq9
  clear hq9
  have hq9 : Blk w0 (W.heap.size + 1) 31 #[.slice none 0 0, .int .i64 0] := by
    have h9 := Blk.new (W.alloc (.cells #[.slice a L.length ca, .int .i64 p] 31)) 31 #[.slice none 0 0, .int .i64 0]
    try simp only [World.size_alloc] at h9
    rw [hw0]
    exact h9
  have XO := Lib.hid hq9
  clear hq9
  have HR := Lib.hid (rdG R_Region_ok HR.out HB0.out)
  go_enter Tryz.func46, Tryz.ntmps46
  go_upto_region 1 with fail
  rw [← hw0]
  clear hw0
  have XD_q0 := XD.out.at_ 0 rfl
  have XD_q1 := XD.out.at_ 1 rfl
  go_wp2_with fail
  refine (clone_reg hn HR.out).mono ?_
  rintro e w1 ⟨v, rfl, hv, hb⟩
  obtain ⟨g, c2, rfl, hg1, hg2, hO⟩ := hv.own hp
  have HO := Lib.hid hO
  have HG := Lib.hid (And.intro hg1 hg2)
  have HLX := Lib.hid XO.out.lt
  clear hv hO hg1 hg2
  clear XD_q0 XD_q1
  have XD := Lib.hid (XD.out.call hb)
  have XO := Lib.hid (XO.out.call hb)
  have HR := Lib.hid (rdG R_Region_ok HR.out hb)
  have HB0 := Lib.hid (HB0.out.trans (hb.mono HB0.out.size))
  clear hb
  go_wp2_with fail
  go_loopw [11] (fun i wr => ∃ k : Nat, k ≤ L.length ∧ i = .int .i64 k ∧ Below w1.heap.size w1 wr) (fun i _ => L.length - (intOf i).toNat)
  case atStart => exact ⟨0, Nat.zero_le _, rfl, Below.refl _ _⟩
  case round =>
    obtain ⟨k, hk, rfl, hB⟩ := hrel
    obtain ⟨wo, rfl⟩ : ∃ x, x = wr := ⟨_, rfl⟩
    have HBB := Lib.hid hB
    have hsz := hB.size
    by_cases hlt : k < L.length
    · skip
      obtain ⟨⟨x0, x1, x2⟩, hx⟩ := el_some hlt
      obtain ⟨⟨f0, f1, f2⟩, hf, _⟩ := HO.out.cells hx
      obtain ⟨b0, b1, b2⟩ := hs _ (List.mem_of_getElem? hx)
      have e0 := (hB.cell (p := ⟨g, k * 3, none⟩) HG.out.2).trans f0
      have e1 := (hB.cell (p := ⟨g, k * 3 + 1, none⟩) HG.out.2).trans f1
      have e2 := (hB.cell (p := ⟨g, k * 3 + 2, none⟩) HG.out.2).trans f2
      have hi0 : (0 : Int) ≤ (k : Int) := Int.natCast_nonneg _
      have hi1 : (k : Int) < (L.length : Int) := by omega
      obtain ⟨w2, hw2⟩ : ∃ w, w = wo.alloc (.cells #[.string x0, .string x1, .string x2] 52) := ⟨_, rfl⟩
      have hbA : Below wo.heap.size wo w2 := by rw [hw2]; exact (Below.refl _ _).alloc (Nat.le_refl _) _
      have HP := Lib.hid (show Blk w2 wo.heap.size 52 #[.string x0, .string x1, .string x2] from by rw [hw2]; exact Blk.new _ _ _)
      have hB2 := hB.trans (hbA.mono hsz)
      have HB2 := Lib.hid hB2
      have F0 := Lib.hid ((hB2.cell (p := ⟨g, k * 3, none⟩) HG.out.2).trans f0)
      have F1 := Lib.hid ((hB2.cell (p := ⟨g, k * 3 + 1, none⟩) HG.out.2).trans f1)
      have F2 := Lib.hid ((hB2.cell (p := ⟨g, k * 3 + 2, none⟩) HG.out.2).trans f2)
      have FZ := Lib.hid (fun j => (hB2.frozen (p := ⟨g, j, none⟩) HG.out.2).trans (hf j))
      have HGL := Lib.hid (Nat.lt_of_lt_of_le HG.out.2 hB2.size)
      have HSM := Lib.hid (fun (V : World) (h : Below w2.heap.size w2 V) => (show (((V.setCell ⟨g, k * 3, none⟩ (.string x0)).setCell ⟨g, k * 3 + 1, none⟩ (.string x1)).setCell ⟨g, k * 3 + 2, none⟩ (.string x2)) = V from by
        have E0 := (h.cell (p := ⟨g, k * 3, none⟩) HGL.out).trans F0.out
        have E1 := (h.cell (p := ⟨g, k * 3 + 1, none⟩) HGL.out).trans F1.out
        have E2 := (h.cell (p := ⟨g, k * 3 + 2, none⟩) HGL.out).trans F2.out
        rw [setCell_same E0, setCell_same E1, setCell_same E2]))
      clear hx f0 f1 f2 hf hB hB2 hbA
      go_upto_region 5 with fail
      rw [← hw2]
      clear hw2 e0 e1 e2
      refine wp_region_held_drew (S := (fun V => Below w2.heap.size w2 V)) (by kernel_rfl) ((Below.refl _ _).drew) (fun hHeld => ?_)
      refine tk 0 hHeld ?_
      refine tk 1 hHeld ?_
      refine tk 2 hHeld ?_
      refine tk 3 hHeld ?_ (hy := fun w hSw => by (try dsimp only at hSw); have k0 := (hSw.cell (p := ⟨wo.heap.size, 0, none⟩) HP.out.lt).trans (HP.out.at_ 0 rfl); clear hSw; go_simp; try with_reducible rfl)
      refine tk 5 hHeld ?_
      refine tk 6 hHeld ?_ (hy := fun w hSw => by (try dsimp only at hSw); have k0 := (hSw.cell (p := ⟨wo.heap.size, 1, none⟩) HP.out.lt).trans (HP.out.at_ 1 rfl); clear hSw; go_simp; try with_reducible rfl)
      refine tk 8 hHeld ?_
      refine tk 9 hHeld ?_ (hy := fun w hSw => by (try dsimp only at hSw); have k0 := (hSw.cell (p := ⟨wo.heap.size, 2, none⟩) HP.out.lt).trans (HP.out.at_ 2 rfl); clear hSw; go_simp; try with_reducible rfl)
      refine rd1 4 (fun K hK => ?_)
      go_simp
      go_at_call 64
      refine (CloneC.clone_any x0 _ (Nat.le_trans b0 (by omega))).mono ?_
      rintro e v20 ⟨rfl, hb⟩
      refine hK.out _ _ (hHeld.trans (hb.mono hHeld.size)) (fun hHeld => ?_)
      clear hK K hb
      refine rd1 7 (fun K hK => ?_)
      go_simp
      go_at_call 64
      refine (CloneC.clone_any x1 _ (Nat.le_trans b1 (by omega))).mono ?_
      rintro e v23 ⟨rfl, hb⟩
      refine hK.out _ _ (hHeld.trans (hb.mono hHeld.size)) (fun hHeld => ?_)
      clear hK K hb
      refine rd1 10 (fun K hK => ?_)
      go_simp
      go_at_call 64
      refine (CloneC.clone_any x2 _ (Nat.le_trans b2 (by omega))).mono ?_
      rintro e v26 ⟨rfl, hb⟩
      refine hK.out _ _ (hHeld.trans (hb.mono hHeld.size)) (fun hHeld => ?_)
      clear hK K hb
      refine tk 11 hHeld ?_
      refine tk 12 hHeld ?_
      refine rd1 13 (fun K hK => ?_)
      have q0 := (hHeld.cell (p := ⟨g, k * 3, none⟩) HGL.out).trans F0.out
      have q1 := (hHeld.cell (p := ⟨g, k * 3 + 1, none⟩) HGL.out).trans F1.out
      have q2 := (hHeld.cell (p := ⟨g, k * 3 + 2, none⟩) HGL.out).trans F2.out
      have z0 := (hHeld.frozen (p := ⟨g, k * 3, none⟩) HGL.out).trans (FZ.out _)
      have z1 := (hHeld.frozen (p := ⟨g, k * 3 + 1, none⟩) HGL.out).trans (FZ.out _)
      have z2 := (hHeld.frozen (p := ⟨g, k * 3 + 2, none⟩) HGL.out).trans (FZ.out _)
      have hsm := HSM.out _ hHeld
      go_simp
      refine hK.out _ _ (by first | exact hHeld | (rw [hsm]; exact hHeld)) (fun hHeld => ?_)
      try rw [hsm]
      clear hK K q0 q1 q2 z0 z1 z2 hsm
      refine rd0 ?_
      have HB3 := Lib.hid (HB2.out.trans (hHeld.mono HB2.out.size))
      clear hHeld
      go_wp2
      go_roundw
      case rel => exact ⟨k + 1, by omega, by go_num, HB3.out⟩
      case measure => simp [intOf]; omega
    · have hdl : decide ((k : Int) < (L.length : Int)) = false := decide_eq_false (by omega)
      have HXO3 := Lib.hid (XO.out.call hB)
      have XD := Lib.hid (XD.out.call hB)
      have HOFF := Lib.hid (putCells_off (W.heap.size + 1) [.slice (some ⟨g, 0, none⟩) L.length c2, .int .i64 p] wo 0)
      have HST := Lib.hid (copyD_put (L := L) (p := p) (W := W) (show W.heap.size ≤ W.heap.size + 1 by omega) (HB0.out.trans (hB.mono HB0.out.size)) (by have := HG.out; have := HLX.out; omega) (Nat.lt_of_lt_of_le HG.out.2 hB.size) (HO.out.keep (hB.block g HG.out.2)) HOFF.out)
      clear hB
      have d0 := XD.out.at_ 0 rfl
      have d1 := XD.out.at_ 1 rfl
      have q0 := HXO3.out.at_ 0 rfl
      have q1 := HXO3.out.at_ 1 rfl
      have f0 := HXO3.out.soft 0
      have f1 := HXO3.out.soft 1
      go_wp2
      exact bodyPost_ret (v := .agg #[.slice (some ⟨g, 0, none⟩) L.length c2, .int .i64 p]) (by simp [results, Tryz.results46, go_sem, *]) rfl HST.out
/-- the panic of a violation -/
def pErr (c : Int) : List PanicEntry := [{ v := .iface 61 (.int .i64 c), recovered := false }]
theorem must_yes (c : Int) (w : World) : Calls Tryz.prog 25 #[.bool true, .int .i64 c] w fun e w' => e = .returned (.tuple #[]) ∧ w = w' := by
  go_enter Tryz.func25, Tryz.ntmps25
  go_wp2
  go_end0
  exact ⟨rfl, rfl⟩
theorem must_no (c : Int) (w : World) : Calls Tryz.prog 25 #[.bool false, .int .i64 c] w fun e w' => e = .panicked (pErr c) ∧ w = w' := by
  unfold pErr
  go_enter Tryz.func25, Tryz.ntmps25
  go_wp2
  exact ⟨rfl, rfl, rfl⟩
theorem code_of (c : Int) (w : World) : Calls Tryz.prog 43 #[.iface 61 (.int .i64 c)] w fun e w' => e = .returned (.int .i64 c) ∧ w = w' := by
  have ha : ∀ W : World, (Instr.typeAssert (.iface 61 (.int .i64 c)) 20 61 true).run Tryz.prog W = .ok (.tuple #[.int .i64 c, .bool true]) W := fun W => by kernel_rfl
  go_enter Tryz.func43, Tryz.ntmps43
  go_wp2
  go_ret
  exact ⟨rfl, rfl⟩
theorem hasreg_i {L : List D_Region} {p r : Int} {a : Option Addr} {c : Nat} {W : World} (hln : L.length ≤ 9223372036854775807) : Calls Tryz.prog 45 #[.agg #[.slice a L.length c, .int .i64 p], .int .i64 r] W fun e w' => e = .returned (.bool (isB r 0 ((L.length : Int) - 1))) ∧ Below W.heap.size W w' := by
  have HI := Lib.hid (fun w => is_impl r 0 ((L.length : Int) - 1) w)
  obtain ⟨w0, hw0⟩ : ∃ w, w = W.alloc (.cells #[.slice a L.length c, .int .i64 p] 31) := ⟨_, rfl⟩
  have HB0 := Lib.hid (show Below W.heap.size W w0 from by rw [hw0]; exact (Below.refl _ _).alloc (Nat.le_refl _) _)
  have X := Lib.hid (show Blk w0 W.heap.size 31 #[.slice a L.length c, .int .i64 p] from by rw [hw0]; exact Blk.new _ _ _)
  have q0 := X.out.at_ 0 rfl
  have hw : IntKind.i64.wrap ((L.length : Int) - 1) = (L.length : Int) - 1 := IntWalk.i64_in _ (by omega)
  go_enter Tryz.func45, Tryz.ntmps45
  go_upto_region 1 with fail
  rw [← hw0]
  clear hw0
  go_wp2_with fail
  refine (HI.out _).mono ?_
  rintro e w1 ⟨rfl, rfl⟩
  go_wp2
  go_ret
  exact ⟨rfl, HB0.out⟩
theorem hasreg_b {L : List D_Region} {p r : Int} {a : Option Addr} {c : Nat} {W : World} {b : Bool} (hb : isB r 0 ((L.length : Int) - 1) = b) (hln : L.length ≤ 9223372036854775807) : Calls Tryz.prog 45 #[.agg #[.slice a L.length c, .int .i64 p], .int .i64 r] W fun e w' => e = .returned (.bool b) ∧ Below W.heap.size W w' := by
  subst hb
  exact hasreg_i hln
/-- what a change that was ended comes to -/
def endV (v0 v1 : Value) (c : Int) : Array Value := if c = 12 then #[v0, v1, .int .i64 12] else #[.slice none 0 0, .int .i64 0, .int .i64 c]
theorem endV_down (v0 v1 : Value) : endV v0 v1 12 = #[v0, v1, .int .i64 12] := if_pos rfl
theorem endV_else (v0 v1 : Value) {c : Int} (h : ¬ c = 12) : endV v0 v1 c = #[.slice none 0 0, .int .i64 0, .int .i64 c] := if_neg h
set_option maxHeartbeats 1600000 in
theorem ended_i {G : Nat} {v0 v1 v2 : Value} {c : Int} {W : World} (h : c = 12 → Blk W G 64 #[v0, v1, v2] ∧ ∃ a n ca q, v0 = .slice a n ca ∧ v1 = .int .i64 q) :
    Calls Tryz.prog 42 #[.pointer (some ⟨G, 0, none⟩), .int .i64 c] W fun e w' => e = .returned (.agg (endV v0 v1 c)) ∧ Below W.heap.size W w' := by
  have H := Lib.hid h
  clear h
  obtain ⟨w0, hw0⟩ : ∃ w, w = W.alloc (.cells #[.slice none 0 0, .int .i64 0, .int .i64 0] 33) := ⟨_, rfl⟩
  have HB0 := Lib.hid (show Below W.heap.size W w0 from by rw [hw0]; exact (Below.refl _ _).alloc (Nat.le_refl _) _)
  have hq9 : Blk w0 W.heap.size 33 #[.slice none 0 0, .int .i64 0, .int .i64 0] := by
    have h9 := Blk.new W 33 #[.slice none 0 0, .int .i64 0, .int .i64 0]
    try simp only [World.size_alloc] at h9
    rw [hw0]
    exact h9
  have XO := Lib.hid hq9
  clear hq9
  have HBW := Lib.hid (fun (h : c = 12) => show Blk w0 G 64 #[v0, v1, v2] from (HB0.out.block G (H.out h).1.lt).trans (H.out h).1)
  go_enter Tryz.func42, Tryz.ntmps42
  go_upto_region 1 with fail
  rw [← hw0]
  clear hw0
  have XO_q0 := XO.out.at_ 0 rfl
  have XO_q1 := XO.out.at_ 1 rfl
  have XO_q2 := XO.out.at_ 2 rfl
  have XO_s0 := XO.out.soft 0
  have XO_s1 := XO.out.soft 1
  have XO_s2 := XO.out.soft 2
  by_cases hc : c = 12
  rotate_left
  · have hcb : (c == 12) = false := by simpa using hc
    have HC := Lib.hid hc
    clear hc
    go_wp2
    exact bodyPost_ret (v := .agg #[.slice none 0 0, .int .i64 0, .int .i64 c]) (by simp [results, Tryz.results42, go_sem, *]) rfl ⟨by rw [endV_else _ _ HC.out], (((HB0.out.setCell (p := ⟨W.heap.size, 0, none⟩) (by show W.heap.size ≤ W.heap.size; omega) _).setCell (p := ⟨W.heap.size, 1, none⟩) (by show W.heap.size ≤ W.heap.size; omega) _).setCell (p := ⟨W.heap.size, 2, none⟩) (by show W.heap.size ≤ W.heap.size; omega) _)⟩
  subst hc
  obtain ⟨hbk, aa, nn, cc, qq, rfl, rfl⟩ := H.out rfl
  have HBK := Lib.hid (HBW.out rfl)
  have b0 := HBK.out.at_ 0 rfl
  have b1 := HBK.out.at_ 1 rfl
  have hcb : ((12 : Int) == 12) = true := rfl
  go_wp2
  exact bodyPost_ret (v := .agg #[.slice aa nn cc, .int .i64 qq, .int .i64 12]) (by simp [results, Tryz.results42, go_sem, *]) rfl ⟨by rw [endV_down], (((HB0.out.setCell (p := ⟨W.heap.size, 0, none⟩) (by show W.heap.size ≤ W.heap.size; omega) _).setCell (p := ⟨W.heap.size, 1, none⟩) (by show W.heap.size ≤ W.heap.size; omega) _).setCell (p := ⟨W.heap.size, 2, none⟩) (by show W.heap.size ≤ W.heap.size; omega) _)⟩
set_option maxHeartbeats 1600000 in
theorem end_panicking {G b : Nat} {v0 v1 v2 u0 u1 u2 : Value} {c : Int} {older : List PanicEntry} {w : World} (hb : Blk w b 33 #[u0, u1, u2]) (h : c = 12 → Blk w G 64 #[v0, v1, v2] ∧ ∃ a n ca q, v0 = .slice a n ca ∧ v1 = .int .i64 q) :
    CallsD Tryz.prog 41 #[.pointer (some ⟨G, 0, none⟩), .pointer (some ⟨b, 0, none⟩)] (.panicking ({ v := .iface 61 (.int .i64 c), recovered := false } :: older)) w fun e u' w' =>
      e = .returned (.tuple #[]) ∧ u' = .panicking ({ v := .iface 61 (.int .i64 c), recovered := true } :: older) ∧ Blk w' b 33 (endV v0 v1 c) ∧ Off (fun q => q = b) w w' := by
  have H := Lib.hid h
  have HBB := Lib.hid hb
  clear h hb
  refine callsD_of_wpS Tryz.func41 rfl fun c₀ cs hu => ?_
  apply wpS_seq
  apply wpS_region
  simp [wpOpsS, go_sem, recoverD, hu, Tryz.ntmps41, Exit.thenS]
  refine wpS_of_wp ?_
  go_wp2_with fail
  refine (code_of _ _).mono ?_
  rintro e w' ⟨rfl, rfl⟩
  go_wp2_with fail
  refine (ended_i (v2 := v2) H.out).mono ?_
  rintro e w1 ⟨rfl, hb1⟩
  have HB1 := Lib.hid (HBB.out.call hb1)
  have HOF1 := Lib.hid ((Off.refl (fun q => q = b) w).of_below hb1)
  have e0 := HB1.out.at_ 0 rfl
  have e1 := HB1.out.at_ 1 rfl
  have e2 := HB1.out.at_ 2 rfl
  have f0 := HB1.out.soft 0
  have f1 := HB1.out.soft 1
  have f2 := HB1.out.soft 2
  clear hb1
  by_cases hc : c = 12
  · subst hc
    rw [endV_down]
    obtain ⟨_, aa, nn, cc, qq, rfl, rfl⟩ := H.out rfl
    have HV := Lib.hid ((((HB1.out.set 0 (.slice aa nn cc)).set 1 (.int .i64 qq)).set 2 (.int .i64 12)).as rfl)
    have HOF := Lib.hid (HOF1.out.trans (putCells_off b [.slice aa nn cc, .int .i64 qq, .int .i64 12] w1 0))
    go_wp2
    simp [bodyPostS, results, Tryz.results41]
    exact ⟨HV.out, HOF.out⟩
  · rw [endV_else _ _ hc]
    have HV := Lib.hid ((((HB1.out.set 0 (.slice none 0 0)).set 1 (.int .i64 0)).set 2 (.int .i64 c)).as rfl)
    have HOF := Lib.hid (HOF1.out.trans (putCells_off b [.slice none 0 0, .int .i64 0, .int .i64 c] w1 0))
    go_wp2
    simp [bodyPostS, results, Tryz.results41]
    exact ⟨by first | exact HV.out | (rw [endV_else _ _ hc]; exact HV.out), HOF.out⟩
theorem end_idle (G b : Nat) (w : World) :
    CallsD Tryz.prog 41 #[.pointer (some ⟨G, 0, none⟩), .pointer (some ⟨b, 0, none⟩)] .returning w fun e u' w' => e = .returned (.tuple #[]) ∧ u' = .returning ∧ w' = w := by
  refine callsD_of_wpS Tryz.func41 rfl fun c₀ cs hu => ?_
  apply wpS_seq
  apply wpS_region
  simp [wpOpsS, go_sem, recoverD, hu, Tryz.ntmps41, Exit.thenS]
  refine wpS_of_wp ?_
  go_wp2
  cases c₀
  simp_all [bodyPostS, results, Tryz.results41]
end Go.Proofs.YtdedomfocljhaaaGreatDoor.ChC
namespace Go.Proofs.YtdedomfocljhaaaGreatDoor.ChC
open Go.RowKit SpanC KeptC RepC ValC RowC
set_option linter.unusedVariables false
set_option linter.unusedSimpArgs false
set_option maxRecDepth 100000

/-- the writer at block G, its disk's row at block g -/
def WrP (n : Nat) (L : List D_Region) (p : Int) (G g ca k : Nat) (w : World) : Prop := Blk w G 64 #[.slice (some ⟨g, 0, none⟩) n ca, .int .i64 p, .pointer (some ⟨g, k * 3, none⟩)] ∧ OwnG w g L ca
/-- what a change comes to -/
def ChgO (y : D_Region × Int × Int) (L : List D_Region) (G g ca k : Nat) (w : World) (e : Ending) (w' : World) : Prop :=
  (y.2.2 = 0 ∧ e = .returned (.tuple #[]) ∧ WrP L.length (L.set k y.1) y.2.1 G g ca k w' ∨ y.2.2 = 12 ∧ e = .panicked (pErr 12) ∧ WrP L.length (L.set k y.1) y.2.1 G g ca k w' ∨ y.2.2 ≠ 0 ∧ y.2.2 ≠ 12 ∧ e = .panicked (pErr y.2.2)) ∧ Off (fun q => q = G ∨ q = g) w w'
theorem chgO_elim {y : D_Region × Int × Int} {L : List D_Region} {G g ca k : Nat} {w : World} {e : Ending} {w' : World} (h : ChgO y L G g ca k w e w') :
  (y.2.2 = 0 ∧ e = .returned (.tuple #[]) ∧ WrP L.length (L.set k y.1) y.2.1 G g ca k w' ∨ y.2.2 = 12 ∧ e = .panicked (pErr 12) ∧ WrP L.length (L.set k y.1) y.2.1 G g ca k w' ∨ y.2.2 ≠ 0 ∧ y.2.2 ≠ 12 ∧ e = .panicked (pErr y.2.2)) ∧ Off (fun q => q = G ∨ q = g) w w' := h
set_option maxHeartbeats 3200000 in
theorem change_i {F : D_Region → Int → D_Region × Int × Int} {f : Nat} {caps : Array Value} {L : List D_Region} {p : Int} {a : Option Addr} {ca : Nat} {W : World} (hL : RdSl R_Region W W.heap.size L a ca) {r : Int} (hf : ∀ (args : Array Value) (w : World), (callFunc f args).run Tryz.prog w = .ok (.enter f args) w)
    (hw : ∀ (k : Nat) (x : D_Region) (w : World) (G g c : Nat), codeV L p (k : Int) = 0 → r = (k : Int) → L[k]? = some x → W.heap.size ≤ G → W.heap.size ≤ g → G ≠ g → Below W.heap.size W w → WrP L.length L p G g c k w → Calls Tryz.prog f (#[.pointer (some ⟨G, 0, none⟩)] ++ caps) w (ChgO (F x p) L G g c k w)) :
    Calls Tryz.prog 23 #[.agg #[.slice a L.length ca, .int .i64 p], .int .i64 r, .func (Fn.func f) #[] caps] W (OutD (chgV F L p r) W) := by
  have hmf : ∀ (fn : Fn) (first cap : Array Value) (w : World), (Instr.makeFunc fn first cap).run Tryz.prog w = .ok (.func fn first cap) w := fun _ _ _ _ => rfl
  have HW := Lib.hid hw
  have HR := Lib.hid hL
  have hln : L.length ≤ 9223372036854775807 := by have h1 := hL.1; have h2 := hL.2.1; unfold maxLen at h2; omega
  clear hL hw
  obtain ⟨b, hb⟩ : ∃ b, diskB L p = b := ⟨_, rfl⟩
  have HBQ := Lib.hid hb
  obtain ⟨b2, hb2⟩ : ∃ b, isB r 0 ((L.length : Int) - 1) = b := ⟨_, rfl⟩
  have HB2 := Lib.hid hb2
  clear hb hb2
  obtain ⟨w0, hw0⟩ : ∃ w, w = ((W.alloc (.cells #[.slice a L.length ca, .int .i64 p] 31)).alloc (.cells #[.slice none 0 0, .int .i64 0, .int .i64 0] 33)).alloc (.cells #[.slice none 0 0, .int .i64 0, .pointer none] 64) := ⟨_, rfl⟩
  have HB0 := Lib.hid (show Below W.heap.size W w0 from by rw [hw0]; exact (((Below.refl _ _).alloc (Nat.le_refl _) _).alloc (by simp) _).alloc (by simp <;> omega) _)
  have hq9 : Blk w0 W.heap.size 31 #[.slice a L.length ca, .int .i64 p] := by
    have h9 := Blk.new W 31 #[.slice a L.length ca, .int .i64 p]
    try simp only [World.size_alloc] at h9
    rw [hw0]
    exact ((h9.alloc _).alloc _)
  have XD := Lib.hid hq9
  clear hq9
  have hq9 : Blk w0 (W.heap.size + 1) 33 #[.slice none 0 0, .int .i64 0, .int .i64 0] := by
    have h9 := Blk.new (W.alloc (.cells #[.slice a L.length ca, .int .i64 p] 31)) 33 #[.slice none 0 0, .int .i64 0, .int .i64 0]
    try simp only [World.size_alloc] at h9
    rw [hw0]
    exact (h9.alloc _)
  have XO := Lib.hid hq9
  clear hq9
  have hq9 : Blk w0 (W.heap.size + 1 + 1) 64 #[.slice none 0 0, .int .i64 0, .pointer none] := by
    have h9 := Blk.new ((W.alloc (.cells #[.slice a L.length ca, .int .i64 p] 31)).alloc (.cells #[.slice none 0 0, .int .i64 0, .int .i64 0] 33)) 64 #[.slice none 0 0, .int .i64 0, .pointer none]
    try simp only [World.size_alloc] at h9
    rw [hw0]
    exact h9
  have XW := Lib.hid hq9
  clear hq9
  have HR := Lib.hid (rdG R_Region_ok HR.out HB0.out)
  have HLG := Lib.hid XW.out.lt
  go_enter_defers Tryz.func23, Tryz.ntmps23
  go_upto_region 3 with fail
  rw [← hw0]
  clear hw0
  have XD_q0 := XD.out.at_ 0 rfl
  have XD_q1 := XD.out.at_ 1 rfl
  go_wp2_with fail
  refine (dr_ib HBQ.out HR.out).mono ?_
  rintro e v1 ⟨rfl, hb⟩
  clear XD_q0 XD_q1
  have XD := Lib.hid (XD.out.call hb)
  have XO := Lib.hid (XO.out.call hb)
  have XW := Lib.hid (XW.out.call hb)
  have HR := Lib.hid (rdG R_Region_ok HR.out hb)
  have HB0 := Lib.hid (HB0.out.trans (hb.mono HB0.out.size))
  clear hb
  cases b with
  | false =>
    have HV : Hid (chgV F L p r = (([], 0), 1)) := Lib.hid (chgV_ill (codeV_form HBQ.out) (by decide))
    go_wp2_with fail
    refine (must_no 1 _).mono ?_
    rintro e w8 ⟨rfl, rfl⟩
    unfold pErr
    go_wp2
    refine leaves_cons (f := 41) (args := #[.pointer (some ⟨W.heap.size + 1 + 1, 0, none⟩), .pointer (some ⟨W.heap.size + 1, 0, none⟩)]) (by simp) (by simp [go_sem]) ?_
    refine (end_panicking (G := W.heap.size + 1 + 1) (v0 := .bool true) (v1 := .bool true) (v2 := .bool true) XO.out (fun h => absurd h (by decide))).mono ?_
    rintro e u' w9 ⟨rfl, rfl, hbk, hoff⟩
    rw [endV_else _ _ (by decide)] at hbk
    have HBK := Lib.hid hbk
    have HOF := Lib.hid hoff
    clear hbk hoff
    have r0 : w9.cell? ⟨W.heap.size + 1, 0, none⟩ = some (.slice none 0 0) := HBK.out.at_ 0 rfl
    have r1 : w9.cell? ⟨W.heap.size + 1, 1, none⟩ = some (.int .i64 0) := HBK.out.at_ 1 rfl
    have r2 : w9.cell? ⟨W.heap.size + 1, 2, none⟩ = some (.int .i64 1) := HBK.out.at_ 2 rfl
    refine ⟨.agg #[.slice none 0 0, .int .i64 0, .int .i64 1], by simp [results, Tryz.results23, go_sem, r0, r1, r2], ?_⟩
    rw [HV.out]
    exact outD_put (d := (([], 0), 1)) rfl rfl rfl (show W.heap.size ≤ W.heap.size + 1 by omega) HB0.out (S := fun _ => False) (fun q h => h.elim) own_nil HOF.out
  | true =>
    go_wp2_with fail
    refine (must_yes 1 _).mono ?_
    rintro e w8 ⟨rfl, rfl⟩
    have XD_q0 := XD.out.at_ 0 rfl
    have XD_q1 := XD.out.at_ 1 rfl
    go_wp2_with fail
    refine (hasreg_b HB2.out hln).mono ?_
    rintro e v2 ⟨rfl, hb⟩
    clear XD_q0 XD_q1
    have XD := Lib.hid (XD.out.call hb)
    have XO := Lib.hid (XO.out.call hb)
    have XW := Lib.hid (XW.out.call hb)
    have HR := Lib.hid (rdG R_Region_ok HR.out hb)
    have HB0 := Lib.hid (HB0.out.trans (hb.mono HB0.out.size))
    clear hb
    cases b2 with
    | false =>
      have HV : Hid (chgV F L p r = (([], 0), 6)) := Lib.hid (chgV_ill (codeV_none HBQ.out (fun h => by have h2 := HB2.out; rw [show isB r 0 ((L.length : Int) - 1) = true from (isB_iff _ _ _).2 (by omega)] at h2; cases h2)) (by decide))
      go_wp2_with fail
      refine (must_no 6 _).mono ?_
      rintro e w8 ⟨rfl, rfl⟩
      unfold pErr
      go_wp2
      refine leaves_cons (f := 41) (args := #[.pointer (some ⟨W.heap.size + 1 + 1, 0, none⟩), .pointer (some ⟨W.heap.size + 1, 0, none⟩)]) (by simp) (by simp [go_sem]) ?_
      refine (end_panicking (G := W.heap.size + 1 + 1) (v0 := .bool true) (v1 := .bool true) (v2 := .bool true) XO.out (fun h => absurd h (by decide))).mono ?_
      rintro e u' w9 ⟨rfl, rfl, hbk, hoff⟩
      rw [endV_else _ _ (by decide)] at hbk
      have HBK := Lib.hid hbk
      have HOF := Lib.hid hoff
      clear hbk hoff
      have r0 : w9.cell? ⟨W.heap.size + 1, 0, none⟩ = some (.slice none 0 0) := HBK.out.at_ 0 rfl
      have r1 : w9.cell? ⟨W.heap.size + 1, 1, none⟩ = some (.int .i64 0) := HBK.out.at_ 1 rfl
      have r2 : w9.cell? ⟨W.heap.size + 1, 2, none⟩ = some (.int .i64 6) := HBK.out.at_ 2 rfl
      refine ⟨.agg #[.slice none 0 0, .int .i64 0, .int .i64 6], by simp [results, Tryz.results23, go_sem, r0, r1, r2], ?_⟩
      rw [HV.out]
      exact outD_put (d := (([], 0), 6)) rfl rfl rfl (show W.heap.size ≤ W.heap.size + 1 by omega) HB0.out (S := fun _ => False) (fun q h => h.elim) own_nil HOF.out
    | true =>
      have hrr := (isB_iff _ _ _).1 HB2.out
      obtain ⟨k, rfl⟩ := Int.eq_ofNat_of_zero_le hrr.1
      have hkl : k < L.length := by omega
      obtain ⟨⟨x0, x1, x2⟩, hx⟩ := el_some hkl
      have HX := Lib.hid hx
      have HKL := Lib.hid hkl
      have HDP := Lib.hid (diskB_iff.1 HBQ.out)
      clear hrr hkl hx
      go_wp2_with fail
      refine (must_yes 6 _).mono ?_
      rintro e w8 ⟨rfl, rfl⟩
      have XD_q0 := XD.out.at_ 0 rfl
      have XD_q1 := XD.out.at_ 1 rfl
      go_wp2_with fail
      refine (copied_i (p := p) HR.out (by have := HKL.out; omega) (by have := HDP.out.1; omega) HDP.out.2.2).mono ?_
      rintro e v3 h
      clear XD_q0 XD_q1
      obtain ⟨g, c2, rfl, hg1, hg2, hO, hb⟩ := copyD_elim h
      have HO := Lib.hid hO
      have HG := Lib.hid (And.intro hg1 hg2)
      have HLX := Lib.hid XW.out.lt
      have HBV := Lib.hid HB0.out.size
      clear h hg1 hg2 hO
      have XD := Lib.hid (XD.out.call hb)
      have XO := Lib.hid (XO.out.call hb)
      have XW := Lib.hid (XW.out.call hb)
      have HR := Lib.hid (rdG R_Region_ok HR.out hb)
      have HB0 := Lib.hid (HB0.out.trans (hb.mono HB0.out.size))
      clear hb
      have XW_q0 := XW.out.at_ 0 rfl
      have XW_q1 := XW.out.at_ 1 rfl
      have XW_q2 := XW.out.at_ 2 rfl
      have XW_s0 := XW.out.soft 0
      have XW_s1 := XW.out.soft 1
      have XW_s2 := XW.out.soft 2
      have hi0 : (0 : Int) ≤ (k : Int) := Int.natCast_nonneg _
      have hi1 : (k : Int) < (L.length : Int) := by have := HKL.out; omega
      obtain ⟨w6, hw6⟩ : ∃ u, u = (((v3.setCell ⟨W.heap.size + 1 + 1, 0, none⟩ (.slice (some ⟨g, 0, none⟩) L.length c2)).setCell ⟨W.heap.size + 1 + 1, 1, none⟩ (.int .i64 p)).setCell ⟨W.heap.size + 1 + 1, 2, none⟩ (.pointer (some ⟨g, k * 3, none⟩))) := ⟨_, rfl⟩
      have hof : Off (fun q => q = W.heap.size + 1 + 1) v3 w6 := by rw [hw6]; exact putCells_off (W.heap.size + 1 + 1) [.slice (some ⟨g, 0, none⟩) L.length c2, .int .i64 p, .pointer (some ⟨g, k * 3, none⟩)] v3 0
      have XW6 := Lib.hid (show Blk w6 (W.heap.size + 1 + 1) 64 #[.slice (some ⟨g, 0, none⟩) L.length c2, .int .i64 p, .pointer (some ⟨g, k * 3, none⟩)] from by rw [hw6]; exact (((XW.out.set 0 _).set 1 _).set 2 _).as rfl)
      have XO := Lib.hid (XO.out.off hof XO.out.lt (by omega))
      have XD := Lib.hid (XD.out.off hof XD.out.lt (by omega))
      have HO := Lib.hid (HO.out.keep (hof.block g HG.out.2 (by have := HG.out; have := HLX.out; omega)))
      have HB0 := Lib.hid (HB0.out.trans (hof.below HB0.out.size (fun q hq => by omega)))
      have HG := Lib.hid (And.intro HG.out.1 (Nat.lt_of_lt_of_le HG.out.2 hof.size))
      clear hof
      go_upto_region 7 with fail
      rw [← hw6]
      clear hw6
      clear XW_q0 XW_q1 XW_q2 XW_s0 XW_s1 XW_s2
      have XW := XW6
      clear XW6
      by_cases hp0 : p = 0
      · have hpb : (p != 0) = false := by simpa using hp0
        have XD_q0 := XD.out.at_ 0 rfl
        have XD_q1 := XD.out.at_ 1 rfl
        have HV : Hid (chgV F L p (k : Int) = ((L, p), 12)) := Lib.hid ((chgV_ill (codeV_down HBQ.out ⟨hi0, hi1⟩ hp0) (by decide)).trans (if_pos rfl))
        clear hp0
        go_wp2_with fail
        refine (must_no 12 _).mono ?_
        rintro e w8 ⟨rfl, rfl⟩
        have HGZ := HG
        clear XD_q0 XD_q1
        unfold pErr
        go_wp2
        refine leaves_cons (f := 41) (args := #[.pointer (some ⟨W.heap.size + 1 + 1, 0, none⟩), .pointer (some ⟨W.heap.size + 1, 0, none⟩)]) (by simp) (by simp [go_sem]) ?_
        refine (end_panicking (G := W.heap.size + 1 + 1) XO.out (fun _ => ⟨XW.out, _, _, _, _, rfl, rfl⟩)).mono ?_
        rintro e u' w9 ⟨rfl, rfl, hbk, hoff⟩
        rw [endV_down] at hbk
        have HBK := Lib.hid hbk
        have HOF := Lib.hid hoff
        clear hbk hoff
        have r0 : w9.cell? ⟨W.heap.size + 1, 0, none⟩ = some (.slice (some ⟨g, 0, none⟩) L.length c2) := HBK.out.at_ 0 rfl
        have r1 : w9.cell? ⟨W.heap.size + 1, 1, none⟩ = some (.int .i64 p) := HBK.out.at_ 1 rfl
        have r2 : w9.cell? ⟨W.heap.size + 1, 2, none⟩ = some (.int .i64 12) := HBK.out.at_ 2 rfl
        refine ⟨.agg #[.slice (some ⟨g, 0, none⟩) L.length c2, .int .i64 p, .int .i64 12], by simp [results, Tryz.results23, go_sem, r0, r1, r2], ?_⟩
        rw [HV.out]
        exact outD_put (d := ((L, p), 12)) rfl rfl rfl (show W.heap.size ≤ W.heap.size + 1 by omega) HB0.out (S := fun q => q = g) (fun q h => by have := HG.out; have := HLX.out; have := HGZ.out; omega) HO.out HOF.out
      have hpb : (p != 0) = true := by simpa using hp0
      have XD_q0 := XD.out.at_ 0 rfl
      have XD_q1 := XD.out.at_ 1 rfl
      have HV : Hid (chgV F L p (k : Int) = putV L p k (F (x0, x1, x2) p)) := Lib.hid (chgV_at (codeV_ok HBQ.out ⟨hi0, hi1⟩ hp0) HX.out)
      have HCK := Lib.hid (codeV_ok HBQ.out ⟨hi0, hi1⟩ hp0)
      clear hp0
      go_wp2_with fail
      refine (must_yes 12 _).mono ?_
      rintro e w8 ⟨rfl, rfl⟩
      clear XD_q0 XD_q1
      have hcall := HW.out k _ w6 (W.heap.size + 1 + 1) g c2 HCK.out rfl HX.out (by omega) (by have := HG.out.1; have := HBV.out; omega) (by have := HG.out; have := HLX.out; omega) HB0.out ⟨XW.out, HO.out⟩
      obtain ⟨⟨y, p', c'⟩, hy⟩ : ∃ z, F (x0, x1, x2) p = z := ⟨_, rfl⟩
      rw [hy] at hcall
      have HV := Lib.hid (HV.out.trans (congrArg (putV L p k) hy))
      have HCL := Lib.hid hcall
      clear hcall hy
      go_wp2_with fail
      refine HCL.out.mono ?_
      intro e w7 h
      obtain ⟨h, hoff⟩ := chgO_elim h
      have XO := Lib.hid (XO.out.off hoff XO.out.lt (by have := HG.out; have := HLX.out; omega))
      have HB7 := Lib.hid (HB0.out.trans (hoff.below HB0.out.size (fun q hq => by have := HG.out; have := HLX.out; have := HBV.out; omega)))
      have HGZ := Lib.hid (And.intro HG.out.1 (Nat.lt_of_lt_of_le HG.out.2 hoff.size))
      clear hoff HCL
      rcases h with ⟨hc, rfl, hwp⟩ | ⟨hc, rfl, hwp⟩ | ⟨hc, hc2, rfl⟩
      · simp only at hc hwp
        subst hc
        have XW := Lib.hid hwp.1
        have HO := Lib.hid hwp.2
        have HV := Lib.hid (HV.out.trans (if_pos (.inl rfl)))
        clear hwp
        have XW_q0 := XW.out.at_ 0 rfl
        have XW_q1 := XW.out.at_ 1 rfl
        have XW_q2 := XW.out.at_ 2 rfl
        have XO_q0 := XO.out.at_ 0 rfl
        have XO_q1 := XO.out.at_ 1 rfl
        have XO_q2 := XO.out.at_ 2 rfl
        have XO_s0 := XO.out.soft 0
        have XO_s1 := XO.out.soft 1
        have XO_s2 := XO.out.soft 2
        have HOF := Lib.hid (putCells_off (W.heap.size + 1) [.slice (some ⟨g, 0, none⟩) L.length c2, .int .i64 p', .int .i64 0] w7 0)
        have HST := Lib.hid (outD_put (d := ((L.set k y, p'), 0)) (W := W) List.length_set rfl rfl (show W.heap.size ≤ W.heap.size + 1 by omega) HB7.out (S := fun q => q = g) (fun q h => by have := HGZ.out; have := HG.out; have := HLX.out; omega) HO.out HOF.out)
        have HBK := Lib.hid ((((XO.out.set 0 (.slice (some ⟨g, 0, none⟩) L.length c2)).set 1 (.int .i64 p')).set 2 (.int .i64 0)).as rfl)
        go_wp2
        refine leaves_cons (f := 41) (args := #[.pointer (some ⟨W.heap.size + 1 + 1, 0, none⟩), .pointer (some ⟨W.heap.size + 1, 0, none⟩)]) (by simp) (by simp [go_sem]) ?_
        refine (end_idle _ _ _).mono ?_
        rintro e u' w9 ⟨rfl, rfl, rfl⟩
        have r0 := HBK.out.at_ 0 rfl
        have r1 := HBK.out.at_ 1 rfl
        have r2 := HBK.out.at_ 2 rfl
        refine ⟨.agg #[.slice (some ⟨g, 0, none⟩) L.length c2, .int .i64 p', .int .i64 0], by simp [results, Tryz.results23, go_sem, r0, r1, r2], ?_⟩
        rw [HV.out]
        exact HST.out
      · simp only at hc hwp
        subst hc
        have XW := Lib.hid hwp.1
        have HO := Lib.hid hwp.2
        have HV := Lib.hid (HV.out.trans (if_pos (.inr rfl)))
        clear hwp
        unfold pErr
        go_wp2
        refine leaves_cons (f := 41) (args := #[.pointer (some ⟨W.heap.size + 1 + 1, 0, none⟩), .pointer (some ⟨W.heap.size + 1, 0, none⟩)]) (by simp) (by simp [go_sem]) ?_
        refine (end_panicking (G := W.heap.size + 1 + 1) XO.out (fun _ => ⟨XW.out, _, _, _, _, rfl, rfl⟩)).mono ?_
        rintro e u' w9 ⟨rfl, rfl, hbk, hoff⟩
        rw [endV_down] at hbk
        have HBK := Lib.hid hbk
        have HOF := Lib.hid hoff
        clear hbk hoff
        have r0 : w9.cell? ⟨W.heap.size + 1, 0, none⟩ = some (.slice (some ⟨g, 0, none⟩) L.length c2) := HBK.out.at_ 0 rfl
        have r1 : w9.cell? ⟨W.heap.size + 1, 1, none⟩ = some (.int .i64 p') := HBK.out.at_ 1 rfl
        have r2 : w9.cell? ⟨W.heap.size + 1, 2, none⟩ = some (.int .i64 12) := HBK.out.at_ 2 rfl
        refine ⟨.agg #[.slice (some ⟨g, 0, none⟩) L.length c2, .int .i64 p', .int .i64 12], by simp [results, Tryz.results23, go_sem, r0, r1, r2], ?_⟩
        rw [HV.out]
        exact outD_put (d := ((L.set k y, p'), 12)) List.length_set rfl rfl (show W.heap.size ≤ W.heap.size + 1 by omega) HB7.out (S := fun q => q = g) (fun q h => by have := HG.out; have := HLX.out; have := HGZ.out; omega) HO.out HOF.out
      · simp only at hc hc2
        have HNC := Lib.hid hc2
        have HV := Lib.hid (HV.out.trans (if_neg (fun h => h.elim hc hc2)))
        clear hc hc2
        unfold pErr
        go_wp2
        refine leaves_cons (f := 41) (args := #[.pointer (some ⟨W.heap.size + 1 + 1, 0, none⟩), .pointer (some ⟨W.heap.size + 1, 0, none⟩)]) (by simp) (by simp [go_sem]) ?_
        refine (end_panicking (G := W.heap.size + 1 + 1) (v0 := .bool true) (v1 := .bool true) (v2 := .bool true) XO.out (fun h => absurd h HNC.out)).mono ?_
        rintro e u' w9 ⟨rfl, rfl, hbk, hoff⟩
        rw [endV_else _ _ HNC.out] at hbk
        have HBK := Lib.hid hbk
        have HOF := Lib.hid hoff
        clear hbk hoff
        have r0 : w9.cell? ⟨W.heap.size + 1, 0, none⟩ = some (.slice none 0 0) := HBK.out.at_ 0 rfl
        have r1 : w9.cell? ⟨W.heap.size + 1, 1, none⟩ = some (.int .i64 0) := HBK.out.at_ 1 rfl
        have r2 : w9.cell? ⟨W.heap.size + 1, 2, none⟩ = some (.int .i64 c') := HBK.out.at_ 2 rfl
        refine ⟨.agg #[.slice none 0 0, .int .i64 0, .int .i64 c'], by simp [results, Tryz.results23, go_sem, r0, r1, r2], ?_⟩
        rw [HV.out]
        exact outD_put (d := (([], 0), c')) rfl rfl rfl (show W.heap.size ≤ W.heap.size + 1 by omega) HB7.out (S := fun _ => False) (fun q h => h.elim) own_nil HOF.out
theorem WrP.cells {n : Nat} {L : List D_Region} {p : Int} {G g ca k : Nat} {w : World} (h : WrP n L p G g ca k w) : w.cell? ⟨G, 0, none⟩ = some (.slice (some ⟨g, 0, none⟩) n ca) ∧ w.cell? ⟨G, 1, none⟩ = some (.int .i64 p) ∧ w.cell? ⟨G, 2, none⟩ = some (.pointer (some ⟨g, k * 3, none⟩)) := ⟨h.1.at_ 0 rfl, h.1.at_ 1 rfl, h.1.at_ 2 rfl⟩
theorem WrP.put {n : Nat} {L : List D_Region} {p : Int} {G g ca k j : Nat} {w : World} {x y : D_Region} {s : ByteArray} (h : WrP n L p G g ca k w) (hx : L[k]? = some x) (hne : G ≠ g) (hj : j < 3) (hy : encG y = (encG x).set j (.string s)) (hz : y.1.size ≤ maxLen ∧ y.2.1.size ≤ maxLen ∧ y.2.2.size ≤ maxLen) :
    WrP n (L.set k y) p G g ca k (w.setCell ⟨g, k * 3 + j, none⟩ (.string s)) ∧ Off (fun q => q = g) w (w.setCell ⟨g, k * 3 + j, none⟩ (.string s)) := by
  have hof : Off (fun q => q = g) w (w.setCell ⟨g, k * 3 + j, none⟩ (.string s)) := (Off.refl (fun q => q = g) _).setCell (p := ⟨g, k * 3 + j, none⟩) rfl _
  exact ⟨⟨h.1.off hof h.1.lt hne, h.2.put hx hj hy hz⟩, hof⟩
end Go.Proofs.YtdedomfocljhaaaGreatDoor.ChC
namespace Go.Proofs.YtdedomfocljhaaaGreatDoor.ChC
open Go.RowKit SpanC KeptC RepC ValC RowC
set_option linter.unusedVariables false
set_option linter.unusedSimpArgs false
set_option maxRecDepth 100000

set_option maxHeartbeats 1600000 in
theorem copy_s {L : List D_Region} {p : Int} {a : Option Addr} {ca : Nat} {W : World} (hL : RdSl R_Region W W.heap.size L a ca) (hp : 0 < L.length) (hn : L.length ≤ 2000000) : Calls Tryz.prog 20 #[.agg #[.slice a L.length ca, .int .i64 p]] W (CopyD L p W) := by
  have HR := Lib.hid hL
  have hln : L.length ≤ 9223372036854775807 := by have h1 := hL.1; have h2 := hL.2.1; unfold maxLen at h2; omega
  clear hL
  obtain ⟨w0, hw0⟩ : ∃ w, w = (W.alloc (.cells #[.slice a L.length ca, .int .i64 p] 31)).alloc (.cells #[.slice none 0 0, .int .i64 0] 31) := ⟨_, rfl⟩
  have HB0 := Lib.hid (show Below W.heap.size W w0 from by rw [hw0]; exact ((Below.refl _ _).alloc (Nat.le_refl _) _).alloc (by simp) _)
  have hq9 : Blk w0 W.heap.size 31 #[.slice a L.length ca, .int .i64 p] := by
    have h9 := Blk.new W 31 #[.slice a L.length ca, .int .i64 p]
    try simp only [World.size_alloc] at h9
    rw [hw0]
    exact (h9.alloc _)
  have XD := Lib.hid hq9
  clear hq9
  have hq9 : Blk w0 (W.heap.size + 1) 31 #[.slice none 0 0, .int .i64 0] := by
    have h9 := Blk.new (W.alloc (.cells #[.slice a L.length ca, .int .i64 p] 31)) 31 #[.slice none 0 0, .int .i64 0]
    try simp only [World.size_alloc] at h9
    rw [hw0]
    exact h9
  have XO := Lib.hid hq9
  clear hq9
  have HR := Lib.hid (rdG R_Region_ok HR.out HB0.out)
  have hs0 : w0.heap.size = W.heap.size + 1 + 1 := by rw [hw0]; simp
  obtain ⟨w1, hw1⟩ : ∃ u, u = (w0.alloc (.cells #[] 52)).drew := ⟨_, rfl⟩
  have hb01 : Below w0.heap.size w0 w1 := by rw [hw1]; exact ((Below.refl _ _).alloc (Nat.le_refl _) _).drew
  obtain ⟨v', w2, hr, hrow, hb2⟩ := GRow.more (L := []) (show GRow w1 w0.heap.size (.slice (some ⟨w0.heap.size, 0, none⟩) 0 0) [] from by rw [hw1]; exact (GRow.made w0).call (Below.refl _ _).drew) (rdG R_Region_ok HR.out hb01) (by simp only [List.length_nil]; omega)
  obtain ⟨g, c2, rfl, hg1, hg2, hO⟩ := hrow.own (by simpa using hp)
  simp only [List.nil_append] at hr hO
  have HRUN := Lib.hid hr
  have HO := Lib.hid hO
  have HG := Lib.hid (show W.heap.size + 1 < g ∧ g < w2.heap.size from ⟨by omega, hg2⟩)
  have HBW1 := Lib.hid (HB0.out.trans (hb01.mono HB0.out.size))
  have HBW2 := Lib.hid (HBW1.out.trans (hb2.mono (by have := HBW1.out.size; have := HB0.out.size; omega)))
  have HXD1 := Lib.hid (XD.out.call hb01)
  have HXD2 := Lib.hid (show Blk w2 W.heap.size 31 #[.slice a L.length ca, .int .i64 p] from (hb2.block _ (by omega)).trans HXD1.out)
  have HXO1 := Lib.hid (XO.out.call hb01)
  have HXO2 := Lib.hid (show Blk w2 (W.heap.size + 1) 31 #[.slice none 0 0, .int .i64 0] from (hb2.block _ (by omega)).trans HXO1.out)
  have HOFF := Lib.hid (putCells_off (W.heap.size + 1) [.slice (some ⟨g, 0, none⟩) L.length c2, .int .i64 p] w2 0)
  have HXD3 := Lib.hid (HXD2.out.off HOFF.out HXD2.out.lt (by omega))
  have HST := Lib.hid (copyD_put (L := L) (p := p) (W := W) (by omega) HBW2.out HG.out.1 HG.out.2 HO.out HOFF.out)
  clear hr hrow hb2 hO hg1 hg2 hb01 hs0
  go_enter Tryz.func20, Tryz.ntmps20
  go_upto_region 1 with fail
  rw [← hw0]
  clear hw0
  refine wp_region_held_drew (S := (fun V => Blk V W.heap.size 31 #[.slice a L.length ca, .int .i64 p])) (by kernel_rfl) (XD.out.call (Below.refl _ w0).drew) (fun hHeld => ?_)
  refine tk 1 hHeld ?_
  refine tk 2 hHeld ?_ (hy := fun w hSw => by (try dsimp only at hSw); have k0 := hSw.at_ 0 rfl; clear hSw; go_simp; try with_reducible rfl)
  refine tk 4 hHeld ?_
  refine tk 5 hHeld ?_ (hy := fun w hSw => by (try dsimp only at hSw); have k0 := hSw.at_ 1 rfl; clear hSw; go_simp; try with_reducible rfl)
  refine rd1 0 (fun K hK => ?_)
  go_simp
  rw [← hw1]
  clear hw1
  refine hK.out _ _ HXD1.out (fun hHeld => ?_)
  clear hK K
  refine rd1 3 (fun K hK => ?_)
  refine step_app rfl (.tmp 3) (.tmp 5) 29 rfl rfl rfl HRUN.out ?_
  refine hK.out _ _ HXD2.out (fun hHeld => ?_)
  clear hK K
  refine tk 6 hHeld ?_
  refine rd1 7 (fun K hK => ?_)
  have q0 := HXO2.out.at_ 0 rfl
  have q1 := HXO2.out.at_ 1 rfl
  have f0 := HXO2.out.soft 0
  have f1 := HXO2.out.soft 1
  go_simp
  refine hK.out _ _ HXD3.out (fun hHeld => ?_)
  clear hK K q0 q1 f0 f1
  refine rd0 ?_
  clear hHeld
  have HXO3 := Lib.hid ((HXO2.out.set 0 (.slice (some ⟨g, 0, none⟩) L.length c2)).set 1 (.int .i64 p))
  have r0 := HXO3.out.at_ 0 rfl
  have r1 := HXO3.out.at_ 1 rfl
  go_wp2
  exact bodyPost_ret (v := .agg #[.slice (some ⟨g, 0, none⟩) L.length c2, .int .i64 p]) (by simp [results, Tryz.results20, go_sem, *]) rfl HST.out
set_option maxHeartbeats 1600000 in
theorem code_s {L : List D_Region} {p : Int} {a : Option Addr} {ca : Nat} {W : World} (hL : RdSl R_Region W W.heap.size L a ca) {r c : Int} (hc : codeV L p r = c) : Calls Tryz.prog 16 #[.agg #[.slice a L.length ca, .int .i64 p], .int .i64 r] W fun e w' => e = .returned (.int .i64 c) ∧ Below W.heap.size W w' := by
  subst hc
  have HR := Lib.hid hL
  have hln : L.length ≤ 9223372036854775807 := by have h1 := hL.1; have h2 := hL.2.1; unfold maxLen at h2; omega
  clear hL
  obtain ⟨b, hb⟩ : ∃ b, diskB L p = b := ⟨_, rfl⟩
  have HBQ := Lib.hid hb
  clear hb
  obtain ⟨w0, hw0⟩ : ∃ w, w = W.alloc (.cells #[.slice a L.length ca, .int .i64 p] 31) := ⟨_, rfl⟩
  have HB0 := Lib.hid (show Below W.heap.size W w0 from by rw [hw0]; exact (Below.refl _ _).alloc (Nat.le_refl _) _)
  have hq9 : Blk w0 W.heap.size 31 #[.slice a L.length ca, .int .i64 p] := by
    have h9 := Blk.new W 31 #[.slice a L.length ca, .int .i64 p]
    try simp only [World.size_alloc] at h9
    rw [hw0]
    exact h9
  have XD := Lib.hid hq9
  clear hq9
  have HR := Lib.hid (rdG R_Region_ok HR.out HB0.out)
  go_enter Tryz.func16, Tryz.ntmps16
  go_upto_region 1 with fail
  rw [← hw0]
  clear hw0
  have XD_q0 := XD.out.at_ 0 rfl
  have XD_q1 := XD.out.at_ 1 rfl
  go_wp2_with fail
  refine (dr_sb HBQ.out HR.out).mono ?_
  rintro e v1 ⟨rfl, hb⟩
  clear XD_q0 XD_q1
  have XD := Lib.hid (XD.out.call hb)
  have HR := Lib.hid (rdG R_Region_ok HR.out hb)
  have HB0 := Lib.hid (HB0.out.trans (hb.mono HB0.out.size))
  clear hb
  have XD_q0 := XD.out.at_ 0 rfl
  have XD_q1 := XD.out.at_ 1 rfl
  cases b with
  | false =>
    have HE := Lib.hid (codeV_form (r := r) HBQ.out)
    go_wp2
    exact bodyPost_ret (v := .int .i64 1) (by simp [results, Tryz.results16, go_sem, *]) rfl ⟨by rw [HE.out], HB0.out⟩
  | true =>
    by_cases h0 : 0 ≤ r
    rotate_left
    · have hd0 : decide (r < 0) = true := decide_eq_true (by omega)
      have HE := Lib.hid (codeV_none HBQ.out (fun h => h0 h.1))
      go_wp2
      exact bodyPost_ret (v := .int .i64 6) (by simp [results, Tryz.results16, go_sem, *]) rfl ⟨by rw [HE.out], HB0.out⟩
    have hd0 : decide (r < 0) = false := decide_eq_false (by omega)
    by_cases h1 : r < (L.length : Int)
    rotate_left
    · have hd1 : decide ((L.length : Int) ≤ r) = true := decide_eq_true (by omega)
      have HE := Lib.hid (codeV_none HBQ.out (fun h => h1 h.2))
      go_wp2
      exact bodyPost_ret (v := .int .i64 6) (by simp [results, Tryz.results16, go_sem, *]) rfl ⟨by rw [HE.out], HB0.out⟩
    have hd1 : decide ((L.length : Int) ≤ r) = false := decide_eq_false (by omega)
    have HRR := Lib.hid (And.intro h0 h1)
    clear h0 h1
    by_cases h2 : p = 0
    · have hd2 : (p == 0) = true := by simpa using h2
      have H2 := Lib.hid h2
      clear h2
      have HE := Lib.hid (codeV_down HBQ.out HRR.out H2.out)
      go_wp2
      exact bodyPost_ret (v := .int .i64 12) (by simp [results, Tryz.results16, go_sem, *]) rfl ⟨by rw [HE.out], HB0.out⟩
    · have hd2 : (p == 0) = false := by simpa using h2
      have H2 := Lib.hid h2
      clear h2
      have HE := Lib.hid (codeV_ok HBQ.out HRR.out H2.out)
      go_wp2
      exact bodyPost_ret (v := .int .i64 0) (by simp [results, Tryz.results16, go_sem, *]) rfl ⟨by rw [HE.out], HB0.out⟩
set_option maxHeartbeats 1600000 in
theorem ill_s {L : List D_Region} {p : Int} {a : Option Addr} {ca : Nat} {W : World} (hL : RdSl R_Region W W.heap.size L a ca) {c : Int} (hcn : c = 12 → 0 < L.length ∧ L.length ≤ 2000000) : Calls Tryz.prog 17 #[.agg #[.slice a L.length ca, .int .i64 p], .int .i64 c] W (OutD (illV c L p) W) := by
  have HR := Lib.hid hL
  have hln : L.length ≤ 9223372036854775807 := by have h1 := hL.1; have h2 := hL.2.1; unfold maxLen at h2; omega
  clear hL
  obtain ⟨w0, hw0⟩ : ∃ w, w = (W.alloc (.cells #[.slice a L.length ca, .int .i64 p] 31)).alloc (.cells #[.slice none 0 0, .int .i64 0, .int .i64 0] 33) := ⟨_, rfl⟩
  have HB0 := Lib.hid (show Below W.heap.size W w0 from by rw [hw0]; exact ((Below.refl _ _).alloc (Nat.le_refl _) _).alloc (by simp) _)
  have hq9 : Blk w0 W.heap.size 31 #[.slice a L.length ca, .int .i64 p] := by
    have h9 := Blk.new W 31 #[.slice a L.length ca, .int .i64 p]
    try simp only [World.size_alloc] at h9
    rw [hw0]
    exact (h9.alloc _)
  have XD := Lib.hid hq9
  clear hq9
  have hq9 : Blk w0 (W.heap.size + 1) 33 #[.slice none 0 0, .int .i64 0, .int .i64 0] := by
    have h9 := Blk.new (W.alloc (.cells #[.slice a L.length ca, .int .i64 p] 31)) 33 #[.slice none 0 0, .int .i64 0, .int .i64 0]
    try simp only [World.size_alloc] at h9
    rw [hw0]
    exact h9
  have XO := Lib.hid hq9
  clear hq9
  have HR := Lib.hid (rdG R_Region_ok HR.out HB0.out)
  go_enter Tryz.func17, Tryz.ntmps17
  go_upto_region 1 with fail
  rw [← hw0]
  clear hw0
  have XD_q0 := XD.out.at_ 0 rfl
  have XD_q1 := XD.out.at_ 1 rfl
  have XO_q0 := XO.out.at_ 0 rfl
  have XO_q1 := XO.out.at_ 1 rfl
  have XO_q2 := XO.out.at_ 2 rfl
  have XO_s0 := XO.out.soft 0
  have XO_s1 := XO.out.soft 1
  have XO_s2 := XO.out.soft 2
  by_cases hc : c = 12
  rotate_left
  · have hcb : (c == 12) = false := by simpa using hc
    have HV := Lib.hid (show illV c L p = (([], 0), c) from if_neg hc)
    have HST := Lib.hid (outD_put (d := (([], 0), c)) (p := 0) (c := c) (W := W) rfl rfl rfl (show W.heap.size ≤ W.heap.size + 1 by omega) HB0.out (S := fun _ => False) (fun k h => h.elim) own_nil (putCells_off (W.heap.size + 1) [.slice none 0 0, .int .i64 0, .int .i64 c] w0 0))
    go_wp2
    exact bodyPost_ret (v := .agg #[.slice none 0 0, .int .i64 0, .int .i64 c]) (by simp [results, Tryz.results17, go_sem, *]) rfl (by rw [HV.out]; exact HST.out)
  subst hc
  have HPN := Lib.hid (hcn rfl)
  clear hcn
  go_wp2_with fail
  refine (copy_s HR.out HPN.out.1 HPN.out.2).mono ?_
  rintro e v1 h
  clear XD_q0 XD_q1 XO_q0 XO_q1 XO_q2 XO_s0 XO_s1 XO_s2
  obtain ⟨g, c2, rfl, hg1, hg2, hO, hb⟩ := copyD_elim h
  have HO := Lib.hid hO
  have HG := Lib.hid (And.intro hg1 hg2)
  have HLX := Lib.hid XO.out.lt
  clear h hg1 hg2 hO
  have XD := Lib.hid (XD.out.call hb)
  have XO := Lib.hid (XO.out.call hb)
  have HR := Lib.hid (rdG R_Region_ok HR.out hb)
  have HB0 := Lib.hid (HB0.out.trans (hb.mono HB0.out.size))
  clear hb
  have XO_q0 := XO.out.at_ 0 rfl
  have XO_q1 := XO.out.at_ 1 rfl
  have XO_q2 := XO.out.at_ 2 rfl
  have XO_s0 := XO.out.soft 0
  have XO_s1 := XO.out.soft 1
  have XO_s2 := XO.out.soft 2
  have HV := Lib.hid (show illV 12 L p = ((L, p), 12) from if_pos rfl)
  have HST := Lib.hid (outD_put (d := ((L, p), 12)) (p := p) (c := 12) (W := W) rfl rfl rfl (show W.heap.size ≤ W.heap.size + 1 by omega) HB0.out (S := fun k => k = g) (fun k h => by have := HG.out; have := HLX.out; omega) HO.out (putCells_off (W.heap.size + 1) [.slice (some ⟨g, 0, none⟩) L.length c2, .int .i64 p, .int .i64 12] v1 0))
  go_wp2
  exact bodyPost_ret (v := .agg #[.slice (some ⟨g, 0, none⟩) L.length c2, .int .i64 p, .int .i64 12]) (by simp [results, Tryz.results17, go_sem, *]) rfl (by rw [HV.out]; exact HST.out)
end Go.Proofs.YtdedomfocljhaaaGreatDoor.ChC
namespace Go.Proofs.YtdedomfocljhaaaGreatDoor.ChC
open Go.RowKit SpanC KeptC RepC ValC RowC
set_option linter.unusedVariables false
set_option linter.unusedSimpArgs false
set_option maxRecDepth 100000

/-- what is written of a text, and what power is left -/
def cutV (p : Int) (t : ByteArray) : ByteArray × Int × Int := if p < 0 then (t, p, 0) else if p < t.size then (t.extract 0 p.toNat, 0, 12) else (t, p - t.size, 0)
theorem cutV_free {p : Int} {t : ByteArray} (h : p < 0) : cutV p t = (t, p, 0) := if_pos h
theorem cutV_cut {p : Int} {t : ByteArray} (h0 : 0 ≤ p) (h : p < t.size) : cutV p t = (t.extract 0 p.toNat, 0, 12) := by unfold cutV; rw [if_neg (by omega), if_pos h]
theorem cutV_whole {p : Int} {t : ByteArray} (h0 : 0 ≤ p) (h : ¬ p < t.size) : cutV p t = (t, p - t.size, 0) := by unfold cutV; rw [if_neg (by omega), if_neg h]
theorem cutV_size (p : Int) (t : ByteArray) : (cutV p t).1.size ≤ t.size := by
  unfold cutV
  split
  · exact Nat.le_refl _
  · split
    · show (t.extract 0 p.toNat).size ≤ _
      rw [ByteArray.size_extract]
      omega
    · exact Nat.le_refl _
theorem all_of (t : ByteArray) : t.extract 0 t.size = t := by
  apply ByteArray.ext
  simp
theorem nil_app (t : ByteArray) : (⟨#[]⟩ : ByteArray) ++ t = t := by
  apply ByteArray.ext
  simp
theorem cut_s (p : Int) (t : ByteArray) (w : World) (hp : p ≤ 1000000) (ht : t.size ≤ 3000) : Calls Tryz.prog 21 #[.int .i64 p, .string t] w fun e w' => e = .returned (.tuple #[.string (cutV p t).1, .int .i64 (cutV p t).2.1, .int .i64 (cutV p t).2.2]) ∧ w = w' := by
  by_cases h0 : p < 0
  · have hd : decide (p < 0) = true := decide_eq_true h0
    rw [cutV_free h0]
    clear h0
    go_enter Tryz.func21, Tryz.ntmps21
    go_wp2
    exact bodyPost_ret (v := .tuple #[.string t, .int .i64 p, .int .i64 0]) (by simp [results, Tryz.results21, go_sem, *]) rfl ⟨rfl, rfl⟩
  have hd : decide (p < 0) = false := decide_eq_false h0
  by_cases h1 : p < t.size
  · have hd1 : decide (p < (t.size : Int)) = true := decide_eq_true h1
    have hcut := fun w => run_slice_string_h (P := Tryz.prog) w 9 t Tryz.underlying9 .i64 p (by omega) (by omega)
    rw [cutV_cut (by omega) h1]
    clear h0 h1
    go_enter Tryz.func21, Tryz.ntmps21
    go_wp2
    exact bodyPost_ret (v := .tuple #[.string (t.extract 0 p.toNat), .int .i64 0, .int .i64 12]) (by simp [results, Tryz.results21, go_sem, *]) rfl ⟨rfl, rfl⟩
  · have hd1 : decide (p < (t.size : Int)) = false := decide_eq_false h1
    have hwr : IntKind.i64.wrap (p - (t.size : Int)) = p - (t.size : Int) := IntWalk.i64_in _ (by omega)
    rw [cutV_whole (by omega) h1]
    clear h0 h1
    go_enter Tryz.func21, Tryz.ntmps21
    go_wp2
    exact bodyPost_ret (v := .tuple #[.string t, .int .i64 (p - t.size), .int .i64 0]) (by simp [results, Tryz.results21, go_sem, *]) rfl ⟨rfl, rfl⟩
theorem enc_at {w : World} {g ca k j : Nat} {L : List D_Region} {x : D_Region} {s : ByteArray} (h : OwnG w g L ca) (hx : L[k]? = some x) (hj : j < 3) (hs : (encG x)[j]? = some (.string s)) : w.cell? ⟨g, k * 3 + j, none⟩ = some (.string s) := by
  obtain ⟨e0, e1, e2⟩ := (h.cells hx).1
  match j, hj, hs with
  | 0, _, hs => simp [encG] at hs; subst hs; exact e0
  | 1, _, hs => simp [encG] at hs; subst hs; exact e1
  | 2, _, hs => simp [encG] at hs; subst hs; exact e2
/-- write's answer -/
def WriteO (c : Int) (n : Nat) (L : List D_Region) (p : Int) (G g ca k : Nat) (w : World) (e : Ending) (w' : World) : Prop := (c = 0 ∧ e = .returned (.tuple #[]) ∨ c = 12 ∧ e = .panicked (pErr 12)) ∧ WrP n L p G g ca k w' ∧ Off (fun q => q = G ∨ q = g) w w'
theorem writeO_elim {c : Int} {n : Nat} {L : List D_Region} {p : Int} {G g ca k : Nat} {w : World} {e : Ending} {w' : World} (h : WriteO c n L p G g ca k w e w') : (c = 0 ∧ e = .returned (.tuple #[]) ∨ c = 12 ∧ e = .panicked (pErr 12)) ∧ WrP n L p G g ca k w' ∧ Off (fun q => q = G ∨ q = g) w w' := h
set_option maxHeartbeats 1600000 in
theorem write_i {n : Nat} {L : List D_Region} {p : Int} {G g ca k j : Nat} {x y : D_Region} {w : World} {s t : ByteArray} (h : WrP n L p G g ca k w) (hx : L[k]? = some x) (hne : G ≠ g) (hj : j < 3) (hs : (encG x)[j]? = some (.string s)) (ht : t.size ≤ 3000) (hss : s.size ≤ 3000) (hp : -1 ≤ p ∧ p ≤ 1000000)
    (hy : encG y = (encG x).set j (.string (s ++ (cutV p t).1))) (hz : y.1.size ≤ maxLen ∧ y.2.1.size ≤ maxLen ∧ y.2.2.size ≤ maxLen) :
    Calls Tryz.prog 29 #[.pointer (some ⟨G, 0, none⟩), .pointer (some ⟨g, k * 3 + j, none⟩), .string t] w (WriteO (cutV p t).2.2 n (L.set k y) (cutV p t).2.1 G g ca k w) := by
  obtain ⟨c0, c1, c2⟩ := h.cells
  have fG := h.1.soft 1
  have H := Lib.hid h
  clear h
  by_cases hp1 : p = -1
  · subst hp1
    rw [cutV_free (show (-1 : Int) < 0 by omega)] at hy ⊢
    have hcut : ∀ w, (Instr.slice 9 (.string t) none (some (.int .i64 (t.size : Int))) none).run Tryz.prog w = .ok (.string t) w := fun w => by rw [run_slice_string_h w 9 t Tryz.underlying9 .i64 (t.size : Int) (by omega) (by omega), Int.toNat_natCast, all_of]
    obtain ⟨w1, hw1⟩ : ∃ u, u = w := ⟨_, rfl⟩
    have hO1 : Off (fun q => q = G) w w1 := by rw [hw1]; exact Off.refl _ _
    have hW1 : WrP n L (-1) G g ca k w1 := by rw [hw1]; exact H.out
    have HO1 := Lib.hid hO1
    have HW1 := Lib.hid hW1
    have HX1 := Lib.hid hx
    have E1 := Lib.hid (enc_at hW1.2 hx hj hs)
    have F1 := Lib.hid ((hW1.2.cells hx).2.1 (k * 3 + j))
    have HGL := Lib.hid (hW1.2.lt (Nat.lt_of_le_of_lt (Nat.zero_le k) (List.getElem?_eq_some_iff.1 hx).1))
    have HY := Lib.hid hy
    have HZ := Lib.hid hz
    have HNE := Lib.hid hne
    clear hO1 hW1 hx hs hy hz hne
    go_enter Tryz.func29, Tryz.ntmps29
    go_upto_region 4 with fail
    rw [← hw1]
    clear hw1 c0 c1 c2 fG
    refine kregion [9] (S := (fun V => Below w1.heap.size w1 V)) (by kernel_rfl) ((Below.refl _ _).drew) (fun hHeld => ?_)
    refine kp 0 ?_
    refine kp 1 ?_
    refine kp 2 ?_
    refine kk 3 hHeld ?_ (hy := fun w hSw => by (try dsimp only at hSw); have k0 := (hSw.cell (p := ⟨g, k * 3 + j, none⟩) HGL.out).trans E1.out; clear hSw; go_simp; try with_reducible rfl)
    refine kp 4 ?_
    refine kp 5 ?_
    refine kp 6 ?_
    refine kr (rs := [7]) (by kernel_rfl) (by simp) (AllK.cons rfl (fun K hK => ?_) AllK.nil)
    go_simp
    go_at_call 50
    refine (JoinC.joined_any s t _ (by omega)).mono ?_
    rintro e v8 ⟨rfl, hb⟩
    have hbv := hHeld.trans (hb.mono hHeld.size)
    have HBV := Lib.hid hbv
    refine hK.out _ _ hbv (fun hHeld => ?_)
    clear hK K hb hbv
    refine kp 8 ?_
    refine kr (rs := [9]) (by kernel_rfl) (by simp) (AllK.last (by simp) rfl (fun K hK => ?_))
    have ev := (HBV.out.cell (p := ⟨g, k * 3 + j, none⟩) HGL.out).trans E1.out
    have fv := (HBV.out.frozen (p := ⟨g, k * 3 + j, none⟩) HGL.out).trans F1.out
    go_simp
    refine hK.out _ _ ?_
    clear hK K ev fv
    refine k0 ?_
    have HP := Lib.hid (WrP.put (j := j) (y := y) (s := s ++ t) (show WrP n L (-1) G g ca k v8 from ⟨HW1.out.1.call HBV.out, HW1.out.2.keep (HBV.out.block g HGL.out)⟩) HX1.out HNE.out hj HY.out HZ.out)
    have HF := Lib.hid (((HO1.out.of_below HBV.out).more (T := fun q => q = G ∨ q = g) (fun q h => .inl h)).trans (HP.out.2.more (fun q h => .inr h)))
    clear hHeld
    go_wp2_with fail
    refine (must_yes 12 _).mono ?_
    rintro e w9 ⟨rfl, rfl⟩
    go_wp2
    go_end0
    exact ⟨.inl ⟨rfl, rfl⟩, HP.out.1, HF.out⟩
  have hpb : (p != -1) = true := by simpa using hp1
  by_cases hc : p < t.size
  · rw [cutV_cut (by omega) hc] at hy ⊢
    obtain ⟨u, hu⟩ : ∃ u, u = t.extract 0 p.toNat := ⟨_, rfl⟩
    have hul : u.size ≤ 3000 := by rw [hu, ByteArray.size_extract]; omega
    have hcut : ∀ w, (Instr.slice 9 (.string t) none (some (.int .i64 p)) none).run Tryz.prog w = .ok (.string u) w := fun w => by rw [hu]; exact run_slice_string_h w 9 t Tryz.underlying9 .i64 p (by omega) (by omega)
    rw [← hu] at hy
    clear hu
    have hmin : min (t.size : Int) p = p := by omega
    have heq : (p == (t.size : Int)) = false := by simp; omega
    have hsub : p - p = 0 := by omega
    obtain ⟨w1, hw1⟩ : ∃ u, u = w.setCell ⟨G, 1, none⟩ (.int .i64 (0)) := ⟨_, rfl⟩
    have hO1 : Off (fun q => q = G) w w1 := by rw [hw1]; exact (Off.refl (fun q => q = G) _).setCell (p := ⟨G, 1, none⟩) rfl _
    have hW1 : WrP n L (0) G g ca k w1 := by rw [hw1]; exact ⟨(H.out.1.set 1 _).as rfl, H.out.2.keep (Below.heap_setCell _ _ _ _ (Ne.symm hne))⟩
    have HO1 := Lib.hid hO1
    have HW1 := Lib.hid hW1
    have HX1 := Lib.hid hx
    have E1 := Lib.hid (enc_at hW1.2 hx hj hs)
    have F1 := Lib.hid ((hW1.2.cells hx).2.1 (k * 3 + j))
    have HGL := Lib.hid (hW1.2.lt (Nat.lt_of_le_of_lt (Nat.zero_le k) (List.getElem?_eq_some_iff.1 hx).1))
    have HY := Lib.hid hy
    have HZ := Lib.hid hz
    have HNE := Lib.hid hne
    clear hO1 hW1 hx hs hy hz hne
    go_enter Tryz.func29, Tryz.ntmps29
    go_upto_region 4 with fail
    rw [← hw1]
    clear hw1 c0 c1 c2 fG
    refine kregion [9] (S := (fun V => Below w1.heap.size w1 V)) (by kernel_rfl) ((Below.refl _ _).drew) (fun hHeld => ?_)
    refine kp 0 ?_
    refine kp 1 ?_
    refine kp 2 ?_
    refine kk 3 hHeld ?_ (hy := fun w hSw => by (try dsimp only at hSw); have k0 := (hSw.cell (p := ⟨g, k * 3 + j, none⟩) HGL.out).trans E1.out; clear hSw; go_simp; try with_reducible rfl)
    refine kp 4 ?_
    refine kp 5 ?_
    refine kp 6 ?_
    refine kr (rs := [7]) (by kernel_rfl) (by simp) (AllK.cons rfl (fun K hK => ?_) AllK.nil)
    go_simp
    go_at_call 50
    refine (JoinC.joined_any s u _ (by omega)).mono ?_
    rintro e v8 ⟨rfl, hb⟩
    have hbv := hHeld.trans (hb.mono hHeld.size)
    have HBV := Lib.hid hbv
    refine hK.out _ _ hbv (fun hHeld => ?_)
    clear hK K hb hbv
    refine kp 8 ?_
    refine kr (rs := [9]) (by kernel_rfl) (by simp) (AllK.last (by simp) rfl (fun K hK => ?_))
    have ev := (HBV.out.cell (p := ⟨g, k * 3 + j, none⟩) HGL.out).trans E1.out
    have fv := (HBV.out.frozen (p := ⟨g, k * 3 + j, none⟩) HGL.out).trans F1.out
    go_simp
    refine hK.out _ _ ?_
    clear hK K ev fv
    refine k0 ?_
    have HP := Lib.hid (WrP.put (j := j) (y := y) (s := s ++ u) (show WrP n L (0) G g ca k v8 from ⟨HW1.out.1.call HBV.out, HW1.out.2.keep (HBV.out.block g HGL.out)⟩) HX1.out HNE.out hj HY.out HZ.out)
    have HF := Lib.hid (((HO1.out.of_below HBV.out).more (T := fun q => q = G ∨ q = g) (fun q h => .inl h)).trans (HP.out.2.more (fun q h => .inr h)))
    clear hHeld
    go_wp2_with fail
    refine (must_no 12 _).mono ?_
    rintro e w9 ⟨rfl, rfl⟩
    go_wp2
    exact ⟨rfl, .inr ⟨rfl, rfl⟩, HP.out.1, HF.out⟩
  · rw [cutV_whole (by omega) hc] at hy ⊢
    have hcut : ∀ w, (Instr.slice 9 (.string t) none (some (.int .i64 (t.size : Int))) none).run Tryz.prog w = .ok (.string t) w := fun w => by rw [run_slice_string_h w 9 t Tryz.underlying9 .i64 (t.size : Int) (by omega) (by omega), Int.toNat_natCast, all_of]
    have hmin : min (t.size : Int) p = (t.size : Int) := by omega
    have hwr : IntKind.i64.wrap (p - (t.size : Int)) = p - (t.size : Int) := IntWalk.i64_in _ (by omega)
    obtain ⟨w1, hw1⟩ : ∃ u, u = w.setCell ⟨G, 1, none⟩ (.int .i64 (p - (t.size : Int))) := ⟨_, rfl⟩
    have hO1 : Off (fun q => q = G) w w1 := by rw [hw1]; exact (Off.refl (fun q => q = G) _).setCell (p := ⟨G, 1, none⟩) rfl _
    have hW1 : WrP n L (p - (t.size : Int)) G g ca k w1 := by rw [hw1]; exact ⟨(H.out.1.set 1 _).as rfl, H.out.2.keep (Below.heap_setCell _ _ _ _ (Ne.symm hne))⟩
    have HO1 := Lib.hid hO1
    have HW1 := Lib.hid hW1
    have HX1 := Lib.hid hx
    have E1 := Lib.hid (enc_at hW1.2 hx hj hs)
    have F1 := Lib.hid ((hW1.2.cells hx).2.1 (k * 3 + j))
    have HGL := Lib.hid (hW1.2.lt (Nat.lt_of_le_of_lt (Nat.zero_le k) (List.getElem?_eq_some_iff.1 hx).1))
    have HY := Lib.hid hy
    have HZ := Lib.hid hz
    have HNE := Lib.hid hne
    clear hO1 hW1 hx hs hy hz hne
    go_enter Tryz.func29, Tryz.ntmps29
    go_upto_region 4 with fail
    rw [← hw1]
    clear hw1 c0 c1 c2 fG
    refine kregion [9] (S := (fun V => Below w1.heap.size w1 V)) (by kernel_rfl) ((Below.refl _ _).drew) (fun hHeld => ?_)
    refine kp 0 ?_
    refine kp 1 ?_
    refine kp 2 ?_
    refine kk 3 hHeld ?_ (hy := fun w hSw => by (try dsimp only at hSw); have k0 := (hSw.cell (p := ⟨g, k * 3 + j, none⟩) HGL.out).trans E1.out; clear hSw; go_simp; try with_reducible rfl)
    refine kp 4 ?_
    refine kp 5 ?_
    refine kp 6 ?_
    refine kr (rs := [7]) (by kernel_rfl) (by simp) (AllK.cons rfl (fun K hK => ?_) AllK.nil)
    go_simp
    go_at_call 50
    refine (JoinC.joined_any s t _ (by omega)).mono ?_
    rintro e v8 ⟨rfl, hb⟩
    have hbv := hHeld.trans (hb.mono hHeld.size)
    have HBV := Lib.hid hbv
    refine hK.out _ _ hbv (fun hHeld => ?_)
    clear hK K hb hbv
    refine kp 8 ?_
    refine kr (rs := [9]) (by kernel_rfl) (by simp) (AllK.last (by simp) rfl (fun K hK => ?_))
    have ev := (HBV.out.cell (p := ⟨g, k * 3 + j, none⟩) HGL.out).trans E1.out
    have fv := (HBV.out.frozen (p := ⟨g, k * 3 + j, none⟩) HGL.out).trans F1.out
    go_simp
    refine hK.out _ _ ?_
    clear hK K ev fv
    refine k0 ?_
    have HP := Lib.hid (WrP.put (j := j) (y := y) (s := s ++ t) (show WrP n L (p - (t.size : Int)) G g ca k v8 from ⟨HW1.out.1.call HBV.out, HW1.out.2.keep (HBV.out.block g HGL.out)⟩) HX1.out HNE.out hj HY.out HZ.out)
    have HF := Lib.hid (((HO1.out.of_below HBV.out).more (T := fun q => q = G ∨ q = g) (fun q h => .inl h)).trans (HP.out.2.more (fun q h => .inr h)))
    clear hHeld
    go_wp2_with fail
    refine (must_yes 12 _).mono ?_
    rintro e w9 ⟨rfl, rfl⟩
    go_wp2
    go_end0
    exact ⟨.inl ⟨rfl, rfl⟩, HP.out.1, HF.out⟩
end Go.Proofs.YtdedomfocljhaaaGreatDoor.ChC
namespace Go.Proofs.YtdedomfocljhaaaGreatDoor.FrC
open Go.RowKit PutM PutC JoinC SealC SpanC GetM GetC CrcC KeptC RepC ValC RowC
set_option linter.unusedVariables false
set_option linter.unusedSimpArgs false
set_option maxRecDepth 100000

theorem infoFr : (Tryz.prog.info? 36).map (fun i => (i.zero, i.size, i.bytes)) = some (some (.agg #[.int .i64 0, .string ⟨#[]⟩]), 2, 24) := by kernel_rfl
/-- one frame more -/
theorem frow_app {w w' : World} {lo : Nat} {va : Option Addr} {vc : Nat} {L M : List D_Frame} (h : ARow R_Frame w lo 36 (.slice va L.length vc) L) (hb : Below w.heap.size w w') {blk c : Nat} {n : Int} {t : ByteArray} (hM : M = L ++ [(n, t)])
    (hrow : Blk w' blk 36 #[.int .i64 n, .string t]) (ht : t.size ≤ maxLen) (hL : L.length ≤ 1000000) :
    ∃ a' c' w2, (Builtin.append_ #[47, 47] 47 #[.slice va L.length vc, .slice (some ⟨blk, 0, none⟩) 1 c]).run Tryz.prog w' = .ok (.slice a' M.length c') w2 ∧ ARow R_Frame w2 lo 36 (.slice a' M.length c') M ∧ Below lo w' w2 ∧ (∀ k, w.heap.size ≤ k → k < w'.heap.size → w2.heap[k]? = w'.heap[k]?) := by
  subst hM
  obtain ⟨i, hi', hz, hs, hby⟩ := infoOf infoFr
  obtain ⟨S, h⟩ := h
  have h' := h.call R_Frame_ok (Nat.le_refl _) hb
  obtain ⟨v', w2, S', hrun, hA, hg, ho, _⟩ := h'.app (P := Tryz.prog) (ty := 47) (c := c) R_Frame_ok Tryz.underlying47 hi' hz hs hby rfl (by decide) (x := (n, t)) (us := [.int .i64 n, .string t]) (Sx := fun _ => False) (blk := blk) (fun j u hj => hrow.at_ j (by simpa using hj)) (mkow_Frame ht) (fun k hk => hk.elim) hb.size (by unfold maxLen; omega) (by omega)
  have hA2 : ARow R_Frame w2 lo 36 v' (L ++ [(n, t)]) := ⟨S', hA⟩
  obtain ⟨a', c', rfl⟩ := hA2.isSlice
  have hlo := ARow.base (show ARow R_Frame w lo 36 _ L from ⟨S, h⟩)
  exact ⟨a', c', w2, hrun, hA2, below_own hg (fun k hk => (h.bnd (ho k hk)).1) (Nat.le_trans hlo hb.size), fun k h1 h2 => hg.block k h2 fun e => by have := (h.bnd (ho k e.symm)).2; omega⟩
/-- a frame of the row, read -/
theorem frow_at {w : World} {lo : Nat} {va : Option Addr} {vc : Nat} {L : List D_Frame} (h : ARow R_Frame w lo 36 (.slice va L.length vc) L) {i : Nat} {n : Int} {t : ByteArray} (hx : L[i]? = some (n, t)) :
    ∃ g, va = some ⟨g, 0, none⟩ ∧ g < w.heap.size ∧ w.cell? ⟨g, i * 2, none⟩ = some (.int .i64 n) ∧ w.cell? ⟨g, i * 2 + 1, none⟩ = some (.string t) := by
  obtain ⟨S, h⟩ := h
  obtain ⟨a, c, he, ho⟩ := h.done2
  injection he with e1 e2 e3
  subst e1 e3
  obtain ⟨g, Sf, rfl, hg, _, _, _, hel⟩ := ho.2.2 (by have := (List.getElem?_eq_some_iff.1 hx).1; omega)
  obtain ⟨us, hu, hw⟩ := hel i _ hx
  obtain ⟨rfl, _⟩ := ow0_Frame hw
  refine ⟨g, rfl, (h.bnd hg).2, ?_, ?_⟩
  · simpa [show R_Frame.size = 2 from rfl] using hu 0 _ rfl
  · simpa [show R_Frame.size = 2 from rfl] using hu 1 _ rfl
theorem log_fin {W w : World} {lo : Nat} {va : Option Addr} {vc : Nat} {s : ByteArray} {L : List D_Frame} {a : Int} (hA : ARow R_Frame w lo 36 (.slice va L.length vc) L) (hlo : W.heap.size < lo) (hB : Below W.heap.size W w) (hR : logR s = (L, a, 0)) :
    NewV R_LogOut (logR s) W (.returned (.agg #[.slice va L.length vc, .int .i64 a, .int .i64 0])) (((w.setCell ⟨W.heap.size, 0, none⟩ (.slice va L.length vc)).setCell ⟨W.heap.size, 1, none⟩ (.int .i64 a)).setCell ⟨W.heap.size, 2, none⟩ (.int .i64 0)) := by
  obtain ⟨S, h⟩ := hA
  obtain ⟨a', c', he, ho⟩ := h.done R_Frame_ok
  injection he with e1 e2 e3
  subst e1 e3
  rw [hR]
  refine ⟨[.slice va L.length vc, .int .i64 a, .int .i64 0], rfl, mkow_LogOut (T0 := Rg lo w.heap.size) (fun k hk => ⟨by have := hk.1; omega, by simpa [World.setCell] using hk.2⟩) (ho.keep R_Frame_ok fun k hk => ?_), ((hB.setCell (p := ⟨W.heap.size, 0, none⟩) (Nat.le_refl _) _).setCell (p := ⟨W.heap.size, 1, none⟩) (Nat.le_refl _) _).setCell (p := ⟨W.heap.size, 2, none⟩) (Nat.le_refl _) _⟩
  have hne : k ≠ W.heap.size := by have := hk.1; omega
  exact (Below.heap_setCell _ _ _ _ hne).trans ((Below.heap_setCell _ _ _ _ hne).trans (Below.heap_setCell _ _ _ _ hne))
theorem log_big {W w : World} {s : ByteArray} (hB : Below W.heap.size W w) (hs : ¬ s.size ≤ 8000) : NewV R_LogOut (logR s) W (.returned (.agg #[.slice none 0 0, .int .i64 0, .int .i64 2])) (((w.setCell ⟨W.heap.size, 0, none⟩ (.slice none 0 0)).setCell ⟨W.heap.size, 1, none⟩ (.int .i64 0)).setCell ⟨W.heap.size, 2, none⟩ (.int .i64 2)) := by
  rw [logR_big hs]
  exact ⟨[.slice none 0 0, .int .i64 0, .int .i64 2], rfl, mkow_LogOut (L0 := []) (T0 := fun _ => False) (fun k h => h.elim) ⟨Nat.le_refl _, by unfold maxLen; omega, fun h => absurd h (Nat.lt_irrefl _)⟩, ((hB.setCell (p := ⟨W.heap.size, 0, none⟩) (Nat.le_refl _) _).setCell (p := ⟨W.heap.size, 1, none⟩) (Nat.le_refl _) _).setCell (p := ⟨W.heap.size, 2, none⟩) (Nat.le_refl _) _⟩
/-- the number of the last frame -/
def lastN : List D_Frame → Int
  | [] => -1
  | x :: xs => (xs.getLast?.map (·.1)).getD x.1
theorem lastN_snoc (L : List D_Frame) (x : D_Frame) : lastN (L ++ [x]) = x.1 := by
  cases L with
  | nil => rfl
  | cons y ys => simp [lastN]
theorem log_start {s : ByteArray} (h : s.size ≤ 8000) : LogAt s [] 0 (lastN []) := LogAt.start h
theorem log_step {s : ByteArray} {L M : List D_Frame} {a q n : Int} {t : ByteArray} (h : LogAt s L a (lastN L)) (hf : frR s a = ((n, t), q, 0)) (hn : lastN L < n) (hM : M = L ++ [(n, t)]) : LogAt s M q (lastN M) := by
  subst hM
  rw [lastN_snoc]
  have := h.step (by rw [hf]) (by rw [hf]; exact hn)
  rw [hf] at this
  exact this
theorem log_stop {s : ByteArray} {L : List D_Frame} {a q n c : Int} {t : ByteArray} (h : LogAt s L a (lastN L)) (hs : s.size ≤ 8000) (hf : frR s a = ((n, t), q, c)) (hn : ¬ (c = 0 ∧ lastN L < n)) : logR s = (L, a, 0) := h.stop hs (by rw [hf]; exact hn)
theorem blk3 {w : World} {g : Nat} {t : TypeId} {x0 x1 x2 y0 y1 : Value} (h : Blk w g t #[x0, x1, x2]) : Blk ((w.setCell ⟨g, 0, none⟩ y0).setCell ⟨g, 1, none⟩ y1) g t #[y0, y1, x2] := ((h.set 0 y0).set 1 y1).as rfl
end Go.Proofs.YtdedomfocljhaaaGreatDoor.FrC
namespace Go.Proofs.YtdedomfocljhaaaGreatDoor.FrC
open Go.RowKit PutM PutC JoinC SealC SpanC GetM GetC CrcC KeptC RepC ValC RowC
set_option linter.unusedVariables false
set_option linter.unusedSimpArgs false
set_option maxRecDepth 100000

theorem frow_off {w w' : World} {lo g : Nat} {v : Value} {L : List D_Frame} (h : ARow R_Frame w lo 36 v L) (ho : Off (fun k => k = g) w w') (hg : g < lo) : ARow R_Frame w' lo 36 v L := by
  obtain ⟨S, h⟩ := h
  exact ⟨S, (h.mv R_Frame_ok ho.size fun k hk => ho.block k (h.bnd hk).2 (by have := (h.bnd hk).1; omega)).rise ho.size⟩
set_option maxHeartbeats 3200000 in
theorem log_i (s : ByteArray) (W : World) (hs : s.size ≤ maxLen) (hD : Door W) :
    Calls Tryz.prog 52 #[.string s] W (NewV R_LogOut (logR s) W) := by
  have HF := Lib.hid (fun a (ha : a ≤ 9223372036854775807) w (h : Door w) => fread_i s a w hs ha h)
  obtain ⟨w0, hw0⟩ : ∃ w, w = W.alloc (.cells #[.slice none 0 0, .int .i64 0, .int .i64 0] 49) := ⟨_, rfl⟩
  have HB0 := Lib.hid (show Below W.heap.size W w0 from by rw [hw0]; exact (Below.refl _ _).alloc (Nat.le_refl _) _)
  have X1 := Lib.hid (show Blk w0 W.heap.size 49 #[.slice none 0 0, .int .i64 0, .int .i64 0] from by rw [hw0]; exact Blk.new _ _ _)
  have hz0 : w0.heap.size = W.heap.size + 1 := by rw [hw0]; simp
  obtain ⟨w1, hw1⟩ : ∃ w, w = w0.alloc (.cells #[.slice none 0 0, .int .i64 0, .int .i64 0] 49) := ⟨_, rfl⟩
  have hb1 : Below w0.heap.size w0 w1 := by rw [hw1]; exact (Below.refl _ _).alloc (Nat.le_refl _) _
  have hz1 : w1.heap.size = W.heap.size + 2 := by rw [hw1]; simp [hz0]
  have X2 := Lib.hid (show Blk w1 (W.heap.size + 1) 49 #[.slice none 0 0, .int .i64 0, .int .i64 0] from by rw [hw1, ← hz0]; exact Blk.new _ _ _)
  have HB1 := Lib.hid (HB0.out.trans (hb1.mono HB0.out.size))
  have X1b := Lib.hid (X1.out.call hb1)
  have HD0 := Lib.hid hD
  by_cases h8 : s.size ≤ 8000
  rotate_left
  · have hdd : decide ((8000 : Int) < (s.size : Int)) = true := decide_eq_true (by omega)
    have H8 := Lib.hid h8
    have z0 := X1.out.at_ 0 rfl
    have z1 := X1.out.at_ 1 rfl
    have z2 := X1.out.at_ 2 rfl
    have s0 := X1.out.soft 0
    have s1 := X1.out.soft 1
    have s2 := X1.out.soft 2
    clear h8 hw1 hb1 X2 HB1 X1b hz1 hz0
    go_enter Tryz.func52, Tryz.ntmps52
    go_upto_region 1 with fail
    rw [← hw0]
    clear hw0
    go_wp2
    refine bodyPost_ret (v := .agg #[.slice none 0 0, .int .i64 0, .int .i64 2]) (by simp [results, Tryz.results52, go_sem, *]) rfl ?_
    exact log_big HB0.out H8.out
  have hdd : decide ((8000 : Int) < (s.size : Int)) = false := decide_eq_false (by omega)
  have H8 := Lib.hid h8
  have HZ1 := Lib.hid (show W.heap.size + 2 = w1.heap.size from hz1.symm)
  go_enter Tryz.func52, Tryz.ntmps52
  go_upto_region 4 with fail
  rw [← hw0, ← hw1]
  clear hw0 hw1
  have hlt0 : w1.cell? ⟨W.heap.size + 1, 1, none⟩ = some (.int .i64 0) := X2.out.at_ 1 rfl
  clear hb1 hz1 hz0 h8 hs hD hdd
  go_wp2
  go_loopw [4] (fun l wr => ∃ (L : List D_Frame) (va : Option Addr) (vc : Nat) (a : Int) (lo : Nat), l = .int .i64 (lastN L) ∧ Hid (LogAt s L a (lastN L)) ∧ Hid (0 ≤ a ∧ a ≤ s.size) ∧ Hid (W.heap.size + 1 < lo) ∧ Hid (ARow R_Frame wr lo 36 (.slice va L.length vc) L) ∧ Hid (Blk wr (W.heap.size + 1) 49 #[.slice va L.length vc, .int .i64 a, .int .i64 0]) ∧ Hid (Blk wr W.heap.size 49 #[.slice none 0 0, .int .i64 0, .int .i64 0]) ∧ Hid (Below W.heap.size W wr)) (fun l wr => s.size + 1 - (intOf ((wr.cell? ⟨W.heap.size + 1, 1, none⟩).getD undef)).toNat)
  case atStart => exact ⟨[], none, 0, 0, w1.heap.size, rfl, Lib.hid (log_start H8.out), Lib.hid ⟨by omega, by omega⟩, Lib.hid (by have := HZ1.out; omega), Lib.hid (ARow.none_ _ _ _), X2, X1b, HB1⟩
  case round =>
    obtain ⟨L, va, vc, a, lo, rfl, HL, hab, HLO, HA, HO, HRS, HB⟩ := hrel
    have HDW := Lib.hid (HD0.out.below HB.out HD0.out.lt)
    have HOW := HO
    have HLT := Lib.hid (show W.heap.size + 1 < wr.heap.size from HO.out.lt)
    have HAB := Lib.hid hab
    have hax : a ≤ 9223372036854775807 := by have := hab.out.2; have h9 := H8.out; omega
    obtain ⟨⟨⟨n, t⟩, q, c⟩, hf⟩ : ∃ x, frR s a = x := ⟨_, rfl⟩
    have HFR := Lib.hid hf
    have hts := frR_size s a
    rw [hf] at hts
    have HTS := Lib.hid (show t.size ≤ maxLen from Nat.le_trans hts (by unfold maxLen; omega))
    have hFF := HF.out a hax
    rw [hf] at hFF
    unfold foV at hFF
    simp only at hFF
    have HFF := Lib.hid hFF
    clear hf hts hFF
    have o0 := HO.out.at_ 0 rfl
    have o1 := HO.out.at_ 1 rfl
    have o2 := HO.out.at_ 2 rfl
    go_wp2_with fail
    refine (HFF.out _ HDW.out).mono ?_
    rintro e w3 ⟨rfl, hb⟩
    obtain ⟨V3, hV3⟩ : ∃ V, V = w3.alloc (.cells #[.int .i64 n, .string t, .int .i64 q, .int .i64 c] 77) := ⟨_, rfl⟩
    have hbV : Below w3.heap.size w3 V3 := by rw [hV3]; exact (Below.refl _ _).alloc (Nat.le_refl _) _
    have HXF := Lib.hid (show Blk V3 w3.heap.size 77 #[.int .i64 n, .string t, .int .i64 q, .int .i64 c] from by rw [hV3]; exact Blk.new _ _ _)
    have hb3 := hb.trans (hbV.mono hb.size)
    have HO := Lib.hid (HO.out.call hb3)
    have HRS := Lib.hid (HRS.out.call hb3)
    have HA0 := HA
    have HA := Lib.hid (HA.out.call R_Frame_ok hb3)
    have HB := Lib.hid (HB.out.trans (hb3.mono HB.out.size))
    have HWR := Lib.hid hb3
    have HW3 := Lib.hid (show wr.heap.size ≤ w3.heap.size from hb.size)
    clear hb hbV hb3 o0 o1 o2
    go_upto_region 6 with fail
    rw [← hV3]
    clear hV3
    have x0 := HXF.out.at_ 0 rfl
    have x1 := HXF.out.at_ 1 rfl
    have x2 := HXF.out.at_ 2 rfl
    have x3 := HXF.out.at_ 3 rfl
    have o0 := HO.out.at_ 0 rfl
    have o1 := HO.out.at_ 1 rfl
    have o2 := HO.out.at_ 2 rfl
    by_cases hc : c = 0
    rotate_left
    · have hcc : (c != 0) = true := by simpa using hc
      have HST := Lib.hid (log_stop HL.out H8.out HFR.out (fun h => hc h.1))
      clear hc
      have o0 := HO.out.at_ 0 rfl
      have o1 := HO.out.at_ 1 rfl
      have o2 := HO.out.at_ 2 rfl
      have z0 := HRS.out.at_ 0 rfl
      have z1 := HRS.out.at_ 1 rfl
      have z2 := HRS.out.at_ 2 rfl
      have s0 := HRS.out.soft 0
      have s1 := HRS.out.soft 1
      have s2 := HRS.out.soft 2
      go_wp2
      refine bodyPost_ret (v := .agg #[.slice va L.length vc, .int .i64 a, .int .i64 0]) (by simp [results, Tryz.results52, go_sem, *]) rfl ?_
      exact log_fin HA.out (Nat.lt_of_succ_lt HLO.out) HB.out (HST.out)
    subst hc
    by_cases hn : lastN L < n
    rotate_left
    · have hcc : decide (n ≤ lastN L) = true := decide_eq_true (by omega)
      have HST := Lib.hid (log_stop HL.out H8.out HFR.out (fun h => hn h.2))
      clear hn
      have o0 := HO.out.at_ 0 rfl
      have o1 := HO.out.at_ 1 rfl
      have o2 := HO.out.at_ 2 rfl
      have z0 := HRS.out.at_ 0 rfl
      have z1 := HRS.out.at_ 1 rfl
      have z2 := HRS.out.at_ 2 rfl
      have s0 := HRS.out.soft 0
      have s1 := HRS.out.soft 1
      have s2 := HRS.out.soft 2
      go_wp2
      refine bodyPost_ret (v := .agg #[.slice va L.length vc, .int .i64 a, .int .i64 0]) (by simp [results, Tryz.results52, go_sem, *]) rfl ?_
      exact log_fin HA.out (Nat.lt_of_succ_lt HLO.out) HB.out (HST.out)
    have hcc : decide (n ≤ lastN L) = false := decide_eq_false (by omega)
    have HN := Lib.hid hn
    clear hn
    obtain ⟨wd, hwd⟩ : ∃ u, u = V3.drew := ⟨_, rfl⟩
    obtain ⟨w4, hw4⟩ : ∃ u, u = wd.alloc (.cells #[.int .i64 n, .string t] 36) := ⟨_, rfl⟩
    have hbd : Below V3.heap.size V3 wd := by rw [hwd]; exact (Below.refl _ _).drew
    have hb4 : Below wd.heap.size wd w4 := by rw [hw4]; exact (Below.refl _ _).alloc (Nat.le_refl _) _
    have hb34 := hbd.trans (hb4.mono hbd.size)
    have hrow4 : Blk w4 wd.heap.size 36 #[.int .i64 n, .string t] := by rw [hw4]; exact Blk.new _ _ _
    have hla := (logAt_small HL.out).1
    obtain ⟨M, hM⟩ : ∃ M, M = L ++ [(n, t)] := ⟨_, rfl⟩
    obtain ⟨a', c', w5, hrun, hA5, hb5, hk5⟩ := frow_app (c := 1) HA0.out (HWR.out.trans (hb34.mono HWR.out.size)) hM hrow4 HTS.out (by omega)
    have hz4 := hb34.size
    have HRUN := Lib.hid hrun
    have HAP := Lib.hid hA5
    have hO4 := HO.out.call hb34
    have hR4 := HRS.out.call hb34
    have hX4 := HXF.out.call hb34
    have HO4 := Lib.hid hO4
    have HO5 := Lib.hid (show Blk w5 (W.heap.size + 1) 49 #[.slice va L.length vc, .int .i64 a, .int .i64 0] from (hb5.block _ (Nat.lt_of_lt_of_le HLO.out (Nat.le_refl _))).trans hO4)
    have HR5 := Lib.hid (show Blk w5 W.heap.size 49 #[.slice none 0 0, .int .i64 0, .int .i64 0] from (hb5.block _ (by have := HLO.out; omega)).trans hR4)
    have HX5 := Lib.hid (show Blk w5 w3.heap.size 77 #[.int .i64 n, .string t, .int .i64 q, .int .i64 0] from (hk5 _ HW3.out (Nat.lt_of_lt_of_le HXF.out.lt hz4)).trans hX4)
    have HB5 := Lib.hid (HB.out.trans ((hb34.mono HB.out.size).trans (hb5.mono (by have := HLO.out; omega))))
    have HX4 := Lib.hid hX4
    have HX7 := Lib.hid (HX5.out.far (b := W.heap.size + 1) (o := 0) (by have := HW3.out; have h2 := HLT.out; omega) (.slice a' M.length c'))
    have HM := Lib.hid hM
    have HOd := Lib.hid (HO.out.call hbd)
    have HXd := Lib.hid (HXF.out.call hbd)
    clear hrun hA5 hb5 hk5 hO4 hR4 hX4 hbd hb4 hb34 hrow4 hla hM hz4
    clear o0 o1 o2 x0 x1 x2 x3 HO HRS HA HB HXF
    have x0 := HXd.out.at_ 0 rfl
    have x3 := HXd.out.at_ 3 rfl
    rw [hwd] at x0 x3
    have x0 : V3.cell? ⟨w3.heap.size, 0, none⟩ = some (.int .i64 n) := x0
    have x3 : V3.cell? ⟨w3.heap.size, 3, none⟩ = some (.int .i64 0) := x3
    go_upto_region 8 with fail
    clear x0 x3
    refine kregion2 [9, 11] [11] (S := (fun V => V.cell? ⟨W.heap.size + 1, 0, none⟩ = some (.slice va L.length vc))) (T := (fun V => V.cell? ⟨w3.heap.size, 0, none⟩ = some (.int .i64 n) ∧ V.cell? ⟨w3.heap.size, 1, none⟩ = some (.string t) ∧ V.cell? ⟨w3.heap.size, 2, none⟩ = some (.int .i64 q))) (by kernel_rfl) (by rw [← hwd]; exact HOd.out.at_ 0 rfl) (by rw [← hwd]; exact ⟨HXd.out.at_ 0 rfl, HXd.out.at_ 1 rfl, HXd.out.at_ 2 rfl⟩) (fun hHeld hT => ?_)
    rw [← hwd] at hHeld hT
    rw [← hwd]
    clear hwd
    refine kp2 0 ?_
    refine kk2 1 hHeld ?_ (hy := fun w hSw => by (try dsimp only at hSw); have k0 := hSw; clear hSw; go_simp; try with_reducible rfl)
    refine kp2 2 ?_
    refine kl2 3 hT ?_ (hy := fun w hSw => by (try dsimp only at hSw); have k0 := hSw.1; have k1 := hSw.2.1; clear hSw; go_simp; try with_reducible rfl)
    refine kp2 6 ?_
    refine kl2 7 hT ?_ (hy := fun w hSw => by (try dsimp only at hSw); have k0 := hSw.2.2; clear hSw; go_simp; try with_reducible rfl)
    refine kr2 (rs := [4]) (by kernel_rfl) (by simp) (AllK2.cons rfl (fun K hK => ?_) AllK2.nil)
    go_simp
    rw [← hw4]
    clear hw4
    refine hK.out _ _ (HO4.out.at_ 0 rfl) ⟨HX4.out.at_ 0 rfl, HX4.out.at_ 1 rfl, HX4.out.at_ 2 rfl⟩ (fun hHeld hT => ?_)
    clear hK K
    refine kr2 (rs := [5]) (by kernel_rfl) (by simp) (AllK2.cons rfl (fun K hK => ?_) AllK2.nil)
    refine step_app rfl (.tmp 26) (.tmp 29) 47 rfl rfl rfl HRUN.out ?_
    refine hK.out _ _ (HO5.out.at_ 0 rfl) ⟨HX5.out.at_ 0 rfl, HX5.out.at_ 1 rfl, HX5.out.at_ 2 rfl⟩ (fun hHeld hT => ?_)
    clear hK K
    refine kp2 8 ?_
    refine kr2 (rs := [9]) (by kernel_rfl) (by simp) (AllK2.half (by simp) rfl (fun K hK => ?_) AllK2.nil)
    have f0 := HO5.out.soft 0
    have e0 := HO5.out.at_ 0 rfl
    go_simp
    refine hK.out _ _ ⟨HX7.out.at_ 0 rfl, HX7.out.at_ 1 rfl, HX7.out.at_ 2 rfl⟩ (fun hT => ?_)
    clear hK K f0 e0
    refine kp2 10 ?_
    refine kr2 (rs := [11]) (by kernel_rfl) (by simp) (AllK2.last (by simp) (by simp) rfl (fun K hK => ?_))
    have f1 : (w5.setCell ⟨W.heap.size + 1, 0, none⟩ (.slice a' M.length c')).frozen? ⟨W.heap.size + 1, 1, none⟩ = false := (HO5.out.set 0 _).soft 1
    have e1 : (w5.setCell ⟨W.heap.size + 1, 0, none⟩ (.slice a' M.length c')).cell? ⟨W.heap.size + 1, 1, none⟩ = some (.int .i64 a) := (HO5.out.set 0 (.slice a' M.length c')).at_ 1 rfl
    go_simp
    refine hK.out _ _ ?_
    clear hK K f1 e1
    refine k02 ?_
    clear hT
    obtain ⟨w6, hw6⟩ : ∃ u, u = (w5.setCell ⟨W.heap.size + 1, 0, none⟩ (.slice a' M.length c')).setCell ⟨W.heap.size + 1, 1, none⟩ (.int .i64 q) := ⟨_, rfl⟩
    have hof : Off (fun k => k = W.heap.size + 1) w5 w6 := by rw [hw6]; exact ((Off.refl (fun k => k = W.heap.size + 1) w5).setCell (p := ⟨W.heap.size + 1, 0, none⟩) rfl _).setCell (p := ⟨W.heap.size + 1, 1, none⟩) rfl _
    have HO6 := Lib.hid (show Blk w6 (W.heap.size + 1) 49 #[.slice a' M.length c', .int .i64 q, .int .i64 0] from by rw [hw6]; exact blk3 HO5.out)
    have HR6 := Lib.hid (show Blk w6 W.heap.size 49 #[.slice none 0 0, .int .i64 0, .int .i64 0] from (hof.block _ HR5.out.lt (by omega)).trans HR5.out)
    have HX6 := Lib.hid (show Blk w6 w3.heap.size 77 #[.int .i64 n, .string t, .int .i64 q, .int .i64 0] from (hof.block _ HX5.out.lt (by have := HW3.out; have h2 := HLT.out; omega)).trans HX5.out)
    have HB6 := Lib.hid (HB5.out.trans (hof.below HB5.out.size (fun k hk => by omega)))
    have HA6 := Lib.hid (frow_off HAP.out hof (by have := HLO.out; omega))
    rw [← hw6]
    clear hw6 hof
    have y0 := HX6.out.at_ 0 rfl
    have hok := frR_ok (s := s) (a := a) (by rw [HFR.out])
    rw [HFR.out] at hok
    simp only at hok
    have HQ := Lib.hid (show 0 ≤ q ∧ q ≤ s.size from by omega)
    have hqa : a + 8 ≤ q := hok.2.1
    have hqs : q ≤ s.size := hok.2.2.1
    have ha0 : 0 ≤ a := hok.1
    clear hok
    have HLS := Lib.hid (log_step HL.out HFR.out HN.out HM.out)
    have HLN := Lib.hid (show lastN M = n from by rw [HM.out, lastN_snoc])
    have u1 := HO6.out.at_ 1 rfl
    go_wp2
    go_roundw
    case rel => exact ⟨M, a', c', q, lo, by rw [HLN.out], HLS, HQ, HLO, HA6, HO6, HR6, HB6⟩
    case measure =>
      simp only [u1]
      have v1 := HOW.out.at_ 1 rfl
      simp only [v1]
      simp [intOf]
      omega
end Go.Proofs.YtdedomfocljhaaaGreatDoor.FrC
namespace Go.Proofs.YtdedomfocljhaaaGreatDoor.FrC
open Go.RowKit PutM PutC JoinC SealC SpanC GetM GetC CrcC KeptC RepC ValC RowC
set_option linter.unusedVariables false
set_option linter.unusedSimpArgs false
set_option maxRecDepth 100000

set_option maxHeartbeats 3200000 in
theorem log_s (s : ByteArray) (W : World) (hs : s.size ≤ maxLen) :
    Calls Tryz.prog 19 #[.string s] W (NewV R_LogOut (logR s) W) := by
  have HF := Lib.hid (fun a (ha : a ≤ 9223372036854775807) w => fread_s s a w hs ha)
  obtain ⟨w0, hw0⟩ : ∃ w, w = W.alloc (.cells #[.slice none 0 0, .int .i64 0, .int .i64 0] 49) := ⟨_, rfl⟩
  have HB0 := Lib.hid (show Below W.heap.size W w0 from by rw [hw0]; exact (Below.refl _ _).alloc (Nat.le_refl _) _)
  have X1 := Lib.hid (show Blk w0 W.heap.size 49 #[.slice none 0 0, .int .i64 0, .int .i64 0] from by rw [hw0]; exact Blk.new _ _ _)
  have hz0 : w0.heap.size = W.heap.size + 1 := by rw [hw0]; simp
  obtain ⟨w1, hw1⟩ : ∃ w, w = w0.alloc (.cells #[.slice none 0 0, .int .i64 0, .int .i64 0] 49) := ⟨_, rfl⟩
  have hb1 : Below w0.heap.size w0 w1 := by rw [hw1]; exact (Below.refl _ _).alloc (Nat.le_refl _) _
  have hz1 : w1.heap.size = W.heap.size + 2 := by rw [hw1]; simp [hz0]
  have X2 := Lib.hid (show Blk w1 (W.heap.size + 1) 49 #[.slice none 0 0, .int .i64 0, .int .i64 0] from by rw [hw1, ← hz0]; exact Blk.new _ _ _)
  have HB1 := Lib.hid (HB0.out.trans (hb1.mono HB0.out.size))
  have X1b := Lib.hid (X1.out.call hb1)
  by_cases h8 : s.size ≤ 8000
  rotate_left
  · have hdd : decide ((8000 : Int) < (s.size : Int)) = true := decide_eq_true (by omega)
    have H8 := Lib.hid h8
    have z0 := X1b.out.at_ 0 rfl
    have z1 := X1b.out.at_ 1 rfl
    have z2 := X1b.out.at_ 2 rfl
    have s0 := X1b.out.soft 0
    have s1 := X1b.out.soft 1
    have s2 := X1b.out.soft 2
    clear h8 hb1 hz1 hz0
    go_enter Tryz.func19, Tryz.ntmps19
    go_upto_region 2 with fail
    rw [← hw0, ← hw1]
    clear hw0 hw1
    go_wp2
    refine bodyPost_ret (v := .agg #[.slice none 0 0, .int .i64 0, .int .i64 2]) (by simp [results, Tryz.results19, go_sem, *]) rfl ?_
    exact log_big HB1.out H8.out
  have hdd : decide ((8000 : Int) < (s.size : Int)) = false := decide_eq_false (by omega)
  have H8 := Lib.hid h8
  have HZ1 := Lib.hid (show W.heap.size + 2 = w1.heap.size from hz1.symm)
  go_enter Tryz.func19, Tryz.ntmps19
  go_upto_region 2 with fail
  rw [← hw0, ← hw1]
  clear hw0 hw1
  have hlt0 : w1.cell? ⟨W.heap.size + 1, 1, none⟩ = some (.int .i64 0) := X2.out.at_ 1 rfl
  clear hb1 hz1 hz0 h8 hs
  go_wp2
  go_loopw [4] (fun x wr => ∃ (L : List D_Frame) (va : Option Addr) (vc : Nat) (a : Int) (lo : Nat), Hid (LogAt s L a (lastN L)) ∧ Hid (0 ≤ a ∧ a ≤ s.size) ∧ Hid (W.heap.size + 1 < lo) ∧ Hid (ARow R_Frame wr lo 36 (.slice va L.length vc) L) ∧ Hid (Blk wr (W.heap.size + 1) 49 #[.slice va L.length vc, .int .i64 a, .int .i64 0]) ∧ Hid (Blk wr W.heap.size 49 #[.slice none 0 0, .int .i64 0, .int .i64 0]) ∧ Hid (Below W.heap.size W wr)) (fun x wr => s.size + 1 - (intOf ((wr.cell? ⟨W.heap.size + 1, 1, none⟩).getD undef)).toNat)
  case atStart => exact ⟨[], none, 0, 0, w1.heap.size, Lib.hid (log_start H8.out), Lib.hid ⟨by omega, by omega⟩, Lib.hid (by have := HZ1.out; omega), Lib.hid (ARow.none_ _ _ _), X2, X1b, HB1⟩
  case round =>
    obtain ⟨L, va, vc, a, lo, HL, hab, HLO, HA, HO, HRS, HB⟩ := hrel
    have HOW := HO
    have HLT := Lib.hid (show W.heap.size + 1 < wr.heap.size from HO.out.lt)
    have o0 := HO.out.at_ 0 rfl
    have o1 := HO.out.at_ 1 rfl
    have o2 := HO.out.at_ 2 rfl
    by_cases hend : a < (s.size : Int)
    rotate_left
    · have hde : decide (a < (s.size : Int)) = false := decide_eq_false hend
      have HST := Lib.hid (log_stop HL.out H8.out (rfl : frR s a = ((_, _), _, _)) (fun h => frR_end (by omega) h.1))
      clear hend
      have o0 := HO.out.at_ 0 rfl
      have o1 := HO.out.at_ 1 rfl
      have o2 := HO.out.at_ 2 rfl
      have z0 := HRS.out.at_ 0 rfl
      have z1 := HRS.out.at_ 1 rfl
      have z2 := HRS.out.at_ 2 rfl
      have s0 := HRS.out.soft 0
      have s1 := HRS.out.soft 1
      have s2 := HRS.out.soft 2
      go_wp2
      refine bodyPost_ret (v := .agg #[.slice va L.length vc, .int .i64 a, .int .i64 0]) (by simp [results, Tryz.results19, go_sem, *]) rfl ?_
      exact log_fin HA.out (Nat.lt_of_succ_lt HLO.out) HB.out (HST.out)
    have hde : decide (a < (s.size : Int)) = true := decide_eq_true hend
    clear hend
    have HAB := Lib.hid hab
    have hax : a ≤ 9223372036854775807 := by have := hab.out.2; have h9 := H8.out; omega
    obtain ⟨⟨⟨n, t⟩, q, c⟩, hf⟩ : ∃ x, frR s a = x := ⟨_, rfl⟩
    have HFR := Lib.hid hf
    have hts := frR_size s a
    rw [hf] at hts
    have HTS := Lib.hid (show t.size ≤ maxLen from Nat.le_trans hts (by unfold maxLen; omega))
    have hFF := HF.out a hax
    rw [hf] at hFF
    unfold foV at hFF
    simp only at hFF
    have HFF := Lib.hid hFF
    clear hf hts hFF
    go_wp2_with fail
    refine (HFF.out _).mono ?_
    rintro e w3 ⟨rfl, hb⟩
    obtain ⟨V3, hV3⟩ : ∃ V, V = w3.alloc (.cells #[.int .i64 n, .string t, .int .i64 q, .int .i64 c] 77) := ⟨_, rfl⟩
    have hbV : Below w3.heap.size w3 V3 := by rw [hV3]; exact (Below.refl _ _).alloc (Nat.le_refl _) _
    have HXF := Lib.hid (show Blk V3 w3.heap.size 77 #[.int .i64 n, .string t, .int .i64 q, .int .i64 c] from by rw [hV3]; exact Blk.new _ _ _)
    have hb3 := hb.trans (hbV.mono hb.size)
    have HO := Lib.hid (HO.out.call hb3)
    have HRS := Lib.hid (HRS.out.call hb3)
    have HA0 := HA
    have HA := Lib.hid (HA.out.call R_Frame_ok hb3)
    have HB := Lib.hid (HB.out.trans (hb3.mono HB.out.size))
    have HWR := Lib.hid hb3
    have HW3 := Lib.hid (show wr.heap.size ≤ w3.heap.size from hb.size)
    clear hb hbV hb3 o0 o1 o2
    go_upto_region 6 with fail
    rw [← hV3]
    clear hV3
    have x0 := HXF.out.at_ 0 rfl
    have x1 := HXF.out.at_ 1 rfl
    have x2 := HXF.out.at_ 2 rfl
    have x3 := HXF.out.at_ 3 rfl
    have o0 := HO.out.at_ 0 rfl
    have o1 := HO.out.at_ 1 rfl
    have o2 := HO.out.at_ 2 rfl
    clear o0 o1 o2 x0 x1 x2 x3
    by_cases hc : c = 0
    rotate_left
    · have hcc : (c != 0) = true := by simpa using hc
      have HST := Lib.hid (log_stop HL.out H8.out HFR.out (fun h => hc h.1))
      clear hc
      refine wp_region_held_drew (S := (fun V => Below (V3).heap.size (V3) V)) (by kernel_rfl) ((Below.refl _ _).drew) (fun hHeld => ?_)
      refine tk 0 hHeld ?_
      refine tk 1 hHeld ?_ (hy := fun w hSw => by (try dsimp only at hSw); have k0 := (hSw.cell (p := ⟨w3.heap.size, 3, none⟩) HXF.out.lt).trans (HXF.out.at_ 3 rfl); clear hSw; go_simp; try with_reducible rfl)
      refine tk 2 hHeld ?_
      refine tk 3 hHeld ?_
      refine tn 4 hHeld ?_
      refine tn 5 hHeld ?_
      refine tn 6 hHeld ?_
      refine tn 7 hHeld ?_
      refine tn 8 hHeld ?_
      refine tn 9 hHeld ?_
      refine tn 10 hHeld ?_
      refine tn 11 hHeld ?_
      refine tn 12 hHeld ?_
      refine tn 13 hHeld ?_
      refine tn 14 hHeld ?_
      refine tn 15 hHeld ?_
      refine tn 16 hHeld ?_
      refine tn 17 hHeld ?_
      refine tn 18 hHeld ?_
      refine tn 19 hHeld ?_
      refine tn 20 hHeld ?_
      refine tn 21 hHeld ?_
      refine tn 22 hHeld ?_
      refine tk 23 hHeld ?_
      refine rd0 ?_
      have HF := Lib.hid hHeld
      clear hHeld
      obtain ⟨V4, hV4⟩ : ∃ u, u = V3.drew := ⟨_, rfl⟩
      rw [← hV4] at HF ⊢
      clear hV4
      have hbq := HF.out
      have HO := Lib.hid (HO.out.call hbq)
      have HRS := Lib.hid (HRS.out.call hbq)
      have HA := Lib.hid (HA.out.call R_Frame_ok hbq)
      have HXF := Lib.hid (HXF.out.call hbq)
      have HWR := Lib.hid (HWR.out.trans (hbq.mono HWR.out.size))
      have HB := Lib.hid (HB.out.trans (hbq.mono HB.out.size))
      clear HF hbq
      have o0 := HO.out.at_ 0 rfl
      have o1 := HO.out.at_ 1 rfl
      have o2 := HO.out.at_ 2 rfl
      have z0 := HRS.out.at_ 0 rfl
      have z1 := HRS.out.at_ 1 rfl
      have z2 := HRS.out.at_ 2 rfl
      have s0 := HRS.out.soft 0
      have s1 := HRS.out.soft 1
      have s2 := HRS.out.soft 2
      go_wp2
      refine bodyPost_ret (v := .agg #[.slice va L.length vc, .int .i64 a, .int .i64 0]) (by simp [results, Tryz.results19, go_sem, *]) rfl ?_
      exact log_fin HA.out (Nat.lt_of_succ_lt HLO.out) HB.out (HST.out)
    subst hc
    rcases List.eq_nil_or_concat L with hL | ⟨K, ⟨yn, yt⟩, hL⟩
    · have HN := Lib.hid (show lastN L < n from by
        have h8 := (frR_ok (s := s) (a := a) (by rw [HFR.out])).2.2.2.2
        rw [HFR.out] at h8
        have h9 : 0 ≤ n := (frB_iff.1 h8).1.1
        rw [hL]
        show (-1 : Int) < n
        omega)
      have hlz : decide (0 < (L.length : Int)) = false := by rw [hL]; rfl
      have hlzN : ¬ 0 < L.length := by rw [hL]; decide
      clear hL
      refine wp_region_held_drew (S := (fun V => Below (V3).heap.size (V3) V)) (by kernel_rfl) ((Below.refl _ _).drew) (fun hHeld => ?_)
      refine tk 0 hHeld ?_
      refine tk 1 hHeld ?_ (hy := fun w hSw => by (try dsimp only at hSw); have k0 := (hSw.cell (p := ⟨w3.heap.size, 3, none⟩) HXF.out.lt).trans (HXF.out.at_ 3 rfl); clear hSw; go_simp; try with_reducible rfl)
      refine tk 2 hHeld ?_
      refine tk 3 hHeld ?_
      refine tk 4 hHeld ?_
      refine tk 5 hHeld ?_ (hy := fun w hSw => by (try dsimp only at hSw); have k0 := (hSw.cell (p := ⟨W.heap.size + 1, 0, none⟩) HO.out.lt).trans (HO.out.at_ 0 rfl); clear hSw; go_simp; try with_reducible rfl)
      refine tk 6 hHeld ?_
      refine tk 7 hHeld ?_
      refine tk 8 hHeld ?_
      refine tn 9 hHeld ?_
      refine tn 10 hHeld ?_
      refine tn 11 hHeld ?_
      refine tn 12 hHeld ?_
      refine tn 13 hHeld ?_
      refine tn 14 hHeld ?_
      refine tn 15 hHeld ?_
      refine tn 16 hHeld ?_
      refine tn 17 hHeld ?_
      refine tn 18 hHeld ?_
      refine tn 19 hHeld ?_
      refine tn 20 hHeld ?_
      refine tn 21 hHeld ?_
      refine tk 22 hHeld ?_
      refine tk 23 hHeld ?_
      refine rd0 ?_
      have HF := Lib.hid hHeld
      clear hHeld
      obtain ⟨V4, hV4⟩ : ∃ u, u = V3.drew := ⟨_, rfl⟩
      rw [← hV4] at HF ⊢
      clear hV4
      have hbq := HF.out
      have HO := Lib.hid (HO.out.call hbq)
      have HRS := Lib.hid (HRS.out.call hbq)
      have HA := Lib.hid (HA.out.call R_Frame_ok hbq)
      have HXF := Lib.hid (HXF.out.call hbq)
      have HWR := Lib.hid (HWR.out.trans (hbq.mono HWR.out.size))
      have HB := Lib.hid (HB.out.trans (hbq.mono HB.out.size))
      clear HF hbq
      clear hlz hlzN
      have x0 := HXF.out.at_ 0 rfl
      have x1 := HXF.out.at_ 1 rfl
      have o0 := HO.out.at_ 0 rfl
      obtain ⟨w4, hw4⟩ : ∃ u, u = V4.alloc (.cells #[.int .i64 n, .string t] 36) := ⟨_, rfl⟩
      have hb34 : Below V4.heap.size V4 w4 := by rw [hw4]; exact (Below.refl _ _).alloc (Nat.le_refl _) _
      have hrow4 : Blk w4 V4.heap.size 36 #[.int .i64 n, .string t] := by rw [hw4]; exact Blk.new _ _ _
      have hla := (logAt_small HL.out).1
      obtain ⟨M, hM⟩ : ∃ M, M = L ++ [(n, t)] := ⟨_, rfl⟩
      obtain ⟨a', c', w5, hrun, hA5, hb5, hk5⟩ := frow_app (c := 1) HA0.out (HWR.out.trans (hb34.mono HWR.out.size)) hM hrow4 HTS.out (by omega)
      have hz4 := hb34.size
      have hO4 := HO.out.call hb34
      have hR4 := HRS.out.call hb34
      have hX4 := HXF.out.call hb34
      have HO5 := Lib.hid (show Blk w5 (W.heap.size + 1) 49 #[.slice va L.length vc, .int .i64 a, .int .i64 0] from (hb5.block _ (Nat.lt_of_lt_of_le HLO.out (Nat.le_refl _))).trans hO4)
      have HR5 := Lib.hid (show Blk w5 W.heap.size 49 #[.slice none 0 0, .int .i64 0, .int .i64 0] from (hb5.block _ (by have := HLO.out; omega)).trans hR4)
      have HX5 := Lib.hid (show Blk w5 w3.heap.size 77 #[.int .i64 n, .string t, .int .i64 q, .int .i64 0] from (hk5 _ HW3.out (Nat.lt_of_lt_of_le HXF.out.lt hz4)).trans hX4)
      have HB5 := Lib.hid (HB.out.trans ((hb34.mono HB.out.size).trans (hb5.mono (by have := HLO.out; omega))))
      have HAP := Lib.hid hA5
      have HM := Lib.hid hM
      rw [hw4] at hrun
      have HRUN := Lib.hid hrun
      clear hrun hA5 hb5 hk5 hO4 hR4 hX4 hb34 hrow4 hla hM hz4 hw4 HXF HO HRS HA HB
      have p0 := HO5.out.at_ 0 rfl
      have p1 := HO5.out.at_ 1 rfl
      have r0 := HO5.out.soft 0
      have r1 := HO5.out.soft 1
      have y2 := HX5.out.at_ 2 rfl
      have hne : w3.heap.size ≠ W.heap.size + 1 := by have := HW3.out; have h2 := HLT.out; omega
      have hne2 : W.heap.size + 1 ≠ w3.heap.size := Ne.symm hne
      go_upto_region 7 with fail
      go_wp2_with (at_builtin; refine wpList_app rfl (.tmp 44) (.tmp 47) 47 rfl rfl rfl HRUN.out ?_)
      obtain ⟨w6, hw6⟩ : ∃ u, u = (w5.setCell ⟨W.heap.size + 1, 0, none⟩ (.slice a' M.length c')).setCell ⟨W.heap.size + 1, 1, none⟩ (.int .i64 q) := ⟨_, rfl⟩
      have hof : Off (fun k => k = W.heap.size + 1) w5 w6 := by rw [hw6]; exact ((Off.refl (fun k => k = W.heap.size + 1) w5).setCell (p := ⟨W.heap.size + 1, 0, none⟩) rfl _).setCell (p := ⟨W.heap.size + 1, 1, none⟩) rfl _
      have HO6 := Lib.hid (show Blk w6 (W.heap.size + 1) 49 #[.slice a' M.length c', .int .i64 q, .int .i64 0] from by rw [hw6]; exact blk3 HO5.out)
      have HR6 := Lib.hid (show Blk w6 W.heap.size 49 #[.slice none 0 0, .int .i64 0, .int .i64 0] from (hof.block _ HR5.out.lt (by omega)).trans HR5.out)
      have HX6 := Lib.hid (show Blk w6 w3.heap.size 77 #[.int .i64 n, .string t, .int .i64 q, .int .i64 0] from (hof.block _ HX5.out.lt (by have := HW3.out; have h2 := HLT.out; omega)).trans HX5.out)
      have HB6 := Lib.hid (HB5.out.trans (hof.below HB5.out.size (fun k hk => by omega)))
      have HA6 := Lib.hid (frow_off HAP.out hof (by have := HLO.out; omega))
      rw [← hw6]
      clear hw6 hof p0 p1 r0 r1 y2 hne hne2
      have hok := frR_ok (s := s) (a := a) (by rw [HFR.out])
      rw [HFR.out] at hok
      simp only at hok
      have HQ := Lib.hid (show 0 ≤ q ∧ q ≤ s.size from by omega)
      have hqa : a + 8 ≤ q := hok.2.1
      have hqs : q ≤ s.size := hok.2.2.1
      have ha0 : 0 ≤ a := hok.1
      clear hok
      have HLS := Lib.hid (log_step HL.out HFR.out HN.out HM.out)
      have u1 := HO6.out.at_ 1 rfl
      go_roundw
      case rel => exact ⟨M, a', c', q, lo, HLS, HQ, HLO, HA6, HO6, HR6, HB6⟩
      case measure =>
        simp only [u1]
        have v1 := HOW.out.at_ 1 rfl
        simp only [v1]
        simp [intOf]
        omega
    have hk1 : L.length = K.length + 1 := by rw [hL]; simp
    have hLg : L[K.length]? = some (yn, yt) := by rw [hL]; simp
    have hlast : lastN L = yn := by rw [hL, List.concat_eq_append]; exact lastN_snoc _ _
    obtain ⟨k, hk⟩ : ∃ k, k = K.length := ⟨_, rfl⟩
    rw [← hk] at hk1 hLg
    obtain ⟨ge, rfl, hge, he0, _⟩ := frow_at HA.out hLg
    have HE0 := Lib.hid he0
    have hpos : (0 : Int) < (L.length : Int) := by omega
    have hposN : 0 < L.length := by omega
    have hlen : (L.length : Int) - 1 = (k : Int) := by omega
    have hwr : IntKind.i64.wrap (k : Int) = (k : Int) := IntWalk.i64_in _ (by have := (logAt_small HL.out).1; omega)
    have hk0 : (0 : Int) ≤ (k : Int) := Int.natCast_nonneg _
    have hk2 : (k : Int) < (L.length : Int) := by omega
    clear hk hL he0 hLg hk1
    by_cases hn : lastN L < n
    rotate_left
    · have HST := Lib.hid (log_stop HL.out H8.out HFR.out (fun h => hn h.2))
      have hcc : decide (n ≤ yn) = true := decide_eq_true (by omega)
      clear hn hlast
      refine wp_region_held_drew (S := (fun V => Below (V3).heap.size (V3) V)) (by kernel_rfl) ((Below.refl _ _).drew) (fun hHeld => ?_)
      refine tk 0 hHeld ?_
      refine tk 1 hHeld ?_ (hy := fun w hSw => by (try dsimp only at hSw); have k0 := (hSw.cell (p := ⟨w3.heap.size, 3, none⟩) HXF.out.lt).trans (HXF.out.at_ 3 rfl); clear hSw; go_simp; try with_reducible rfl)
      refine tk 2 hHeld ?_
      refine tk 3 hHeld ?_
      refine tk 4 hHeld ?_
      refine tk 5 hHeld ?_ (hy := fun w hSw => by (try dsimp only at hSw); have k0 := (hSw.cell (p := ⟨W.heap.size + 1, 0, none⟩) HO.out.lt).trans (HO.out.at_ 0 rfl); clear hSw; go_simp; try with_reducible rfl)
      refine tk 6 hHeld ?_
      refine tk 7 hHeld ?_
      refine tk 8 hHeld ?_
      refine tk 9 hHeld ?_
      refine tk 10 hHeld ?_ (hy := fun w hSw => by (try dsimp only at hSw); have k0 := (hSw.cell (p := ⟨W.heap.size + 1, 0, none⟩) HO.out.lt).trans (HO.out.at_ 0 rfl); clear hSw; go_simp; try with_reducible rfl)
      refine tk 11 hHeld ?_
      refine tk 12 hHeld ?_ (hy := fun w hSw => by (try dsimp only at hSw); have k0 := (hSw.cell (p := ⟨W.heap.size + 1, 0, none⟩) HO.out.lt).trans (HO.out.at_ 0 rfl); clear hSw; go_simp; try with_reducible rfl)
      refine tk 13 hHeld ?_
      refine tk 14 hHeld ?_
      refine tk 15 hHeld ?_
      refine tk 16 hHeld ?_
      refine tk 17 hHeld ?_ (hy := fun w hSw => by (try dsimp only at hSw); have k0 := (hSw.cell (p := ⟨ge, k * 2, none⟩) hge).trans HE0.out; clear hSw; go_simp; try with_reducible rfl)
      refine tk 18 hHeld ?_
      refine tk 19 hHeld ?_
      refine tk 20 hHeld ?_ (hy := fun w hSw => by (try dsimp only at hSw); have k0 := (hSw.cell (p := ⟨w3.heap.size, 0, none⟩) HXF.out.lt).trans (HXF.out.at_ 0 rfl); clear hSw; go_simp; try with_reducible rfl)
      refine tk 21 hHeld ?_
      refine tk 22 hHeld ?_
      refine tk 23 hHeld ?_
      refine rd0 ?_
      have HF := Lib.hid hHeld
      clear hHeld
      obtain ⟨V4, hV4⟩ : ∃ u, u = V3.drew := ⟨_, rfl⟩
      rw [← hV4] at HF ⊢
      clear hV4
      have hbq := HF.out
      have HO := Lib.hid (HO.out.call hbq)
      have HRS := Lib.hid (HRS.out.call hbq)
      have HA := Lib.hid (HA.out.call R_Frame_ok hbq)
      have HXF := Lib.hid (HXF.out.call hbq)
      have HWR := Lib.hid (HWR.out.trans (hbq.mono HWR.out.size))
      have HB := Lib.hid (HB.out.trans (hbq.mono HB.out.size))
      clear HF hbq
      clear hpos hposN hlen hwr hk0 hk2
      have o0 := HO.out.at_ 0 rfl
      have o1 := HO.out.at_ 1 rfl
      have o2 := HO.out.at_ 2 rfl
      have z0 := HRS.out.at_ 0 rfl
      have z1 := HRS.out.at_ 1 rfl
      have z2 := HRS.out.at_ 2 rfl
      have s0 := HRS.out.soft 0
      have s1 := HRS.out.soft 1
      have s2 := HRS.out.soft 2
      go_wp2
      refine bodyPost_ret (v := .agg #[.slice (some ⟨ge, 0, none⟩) L.length vc, .int .i64 a, .int .i64 0]) (by simp [results, Tryz.results19, go_sem, *]) rfl ?_
      exact log_fin HA.out (Nat.lt_of_succ_lt HLO.out) HB.out (HST.out)
    have HN := Lib.hid hn
    have hcc : decide (n ≤ yn) = false := decide_eq_false (by omega)
    clear hn hlast
    refine wp_region_held_drew (S := (fun V => Below (V3).heap.size (V3) V)) (by kernel_rfl) ((Below.refl _ _).drew) (fun hHeld => ?_)
    refine tk 0 hHeld ?_
    refine tk 1 hHeld ?_ (hy := fun w hSw => by (try dsimp only at hSw); have k0 := (hSw.cell (p := ⟨w3.heap.size, 3, none⟩) HXF.out.lt).trans (HXF.out.at_ 3 rfl); clear hSw; go_simp; try with_reducible rfl)
    refine tk 2 hHeld ?_
    refine tk 3 hHeld ?_
    refine tk 4 hHeld ?_
    refine tk 5 hHeld ?_ (hy := fun w hSw => by (try dsimp only at hSw); have k0 := (hSw.cell (p := ⟨W.heap.size + 1, 0, none⟩) HO.out.lt).trans (HO.out.at_ 0 rfl); clear hSw; go_simp; try with_reducible rfl)
    refine tk 6 hHeld ?_
    refine tk 7 hHeld ?_
    refine tk 8 hHeld ?_
    refine tk 9 hHeld ?_
    refine tk 10 hHeld ?_ (hy := fun w hSw => by (try dsimp only at hSw); have k0 := (hSw.cell (p := ⟨W.heap.size + 1, 0, none⟩) HO.out.lt).trans (HO.out.at_ 0 rfl); clear hSw; go_simp; try with_reducible rfl)
    refine tk 11 hHeld ?_
    refine tk 12 hHeld ?_ (hy := fun w hSw => by (try dsimp only at hSw); have k0 := (hSw.cell (p := ⟨W.heap.size + 1, 0, none⟩) HO.out.lt).trans (HO.out.at_ 0 rfl); clear hSw; go_simp; try with_reducible rfl)
    refine tk 13 hHeld ?_
    refine tk 14 hHeld ?_
    refine tk 15 hHeld ?_
    refine tk 16 hHeld ?_
    refine tk 17 hHeld ?_ (hy := fun w hSw => by (try dsimp only at hSw); have k0 := (hSw.cell (p := ⟨ge, k * 2, none⟩) hge).trans HE0.out; clear hSw; go_simp; try with_reducible rfl)
    refine tk 18 hHeld ?_
    refine tk 19 hHeld ?_
    refine tk 20 hHeld ?_ (hy := fun w hSw => by (try dsimp only at hSw); have k0 := (hSw.cell (p := ⟨w3.heap.size, 0, none⟩) HXF.out.lt).trans (HXF.out.at_ 0 rfl); clear hSw; go_simp; try with_reducible rfl)
    refine tk 21 hHeld ?_
    refine tk 22 hHeld ?_
    refine tk 23 hHeld ?_
    refine rd0 ?_
    have HF := Lib.hid hHeld
    clear hHeld
    obtain ⟨V4, hV4⟩ : ∃ u, u = V3.drew := ⟨_, rfl⟩
    rw [← hV4] at HF ⊢
    clear hV4
    have hbq := HF.out
    have HO := Lib.hid (HO.out.call hbq)
    have HRS := Lib.hid (HRS.out.call hbq)
    have HA := Lib.hid (HA.out.call R_Frame_ok hbq)
    have HXF := Lib.hid (HXF.out.call hbq)
    have HWR := Lib.hid (HWR.out.trans (hbq.mono HWR.out.size))
    have HB := Lib.hid (HB.out.trans (hbq.mono HB.out.size))
    clear HF hbq
    have HLEN := Lib.hid (show L.length ≤ 1000000 from by have := (logAt_small HL.out).1; omega)
    clear hpos hposN hlen hwr hk0 hk2 hge
    have x0 := HXF.out.at_ 0 rfl
    have x1 := HXF.out.at_ 1 rfl
    have o0 := HO.out.at_ 0 rfl
    obtain ⟨w4, hw4⟩ : ∃ u, u = V4.alloc (.cells #[.int .i64 n, .string t] 36) := ⟨_, rfl⟩
    have hb34 : Below V4.heap.size V4 w4 := by rw [hw4]; exact (Below.refl _ _).alloc (Nat.le_refl _) _
    have hrow4 : Blk w4 V4.heap.size 36 #[.int .i64 n, .string t] := by rw [hw4]; exact Blk.new _ _ _
    have hla := (logAt_small HL.out).1
    obtain ⟨M, hM⟩ : ∃ M, M = L ++ [(n, t)] := ⟨_, rfl⟩
    obtain ⟨a', c', w5, hrun, hA5, hb5, hk5⟩ := frow_app (c := 1) HA0.out (HWR.out.trans (hb34.mono HWR.out.size)) hM hrow4 HTS.out (by omega)
    have hz4 := hb34.size
    have hO4 := HO.out.call hb34
    have hR4 := HRS.out.call hb34
    have hX4 := HXF.out.call hb34
    have HO5 := Lib.hid (show Blk w5 (W.heap.size + 1) 49 #[.slice (some ⟨ge, 0, none⟩) L.length vc, .int .i64 a, .int .i64 0] from (hb5.block _ (Nat.lt_of_lt_of_le HLO.out (Nat.le_refl _))).trans hO4)
    have HR5 := Lib.hid (show Blk w5 W.heap.size 49 #[.slice none 0 0, .int .i64 0, .int .i64 0] from (hb5.block _ (by have := HLO.out; omega)).trans hR4)
    have HX5 := Lib.hid (show Blk w5 w3.heap.size 77 #[.int .i64 n, .string t, .int .i64 q, .int .i64 0] from (hk5 _ HW3.out (Nat.lt_of_lt_of_le HXF.out.lt hz4)).trans hX4)
    have HB5 := Lib.hid (HB.out.trans ((hb34.mono HB.out.size).trans (hb5.mono (by have := HLO.out; omega))))
    have HAP := Lib.hid hA5
    have HM := Lib.hid hM
    rw [hw4] at hrun
    have HRUN := Lib.hid hrun
    clear hrun hA5 hb5 hk5 hO4 hR4 hX4 hb34 hrow4 hla hM hz4 hw4 HXF HO HRS HA HB
    have p0 := HO5.out.at_ 0 rfl
    have p1 := HO5.out.at_ 1 rfl
    have r0 := HO5.out.soft 0
    have r1 := HO5.out.soft 1
    have y2 := HX5.out.at_ 2 rfl
    have hne : w3.heap.size ≠ W.heap.size + 1 := by have := HW3.out; have h2 := HLT.out; omega
    have hne2 : W.heap.size + 1 ≠ w3.heap.size := Ne.symm hne
    go_upto_region 7 with fail
    go_wp2_with (at_builtin; refine wpList_app rfl (.tmp 44) (.tmp 47) 47 rfl rfl rfl HRUN.out ?_)
    obtain ⟨w6, hw6⟩ : ∃ u, u = (w5.setCell ⟨W.heap.size + 1, 0, none⟩ (.slice a' M.length c')).setCell ⟨W.heap.size + 1, 1, none⟩ (.int .i64 q) := ⟨_, rfl⟩
    have hof : Off (fun k => k = W.heap.size + 1) w5 w6 := by rw [hw6]; exact ((Off.refl (fun k => k = W.heap.size + 1) w5).setCell (p := ⟨W.heap.size + 1, 0, none⟩) rfl _).setCell (p := ⟨W.heap.size + 1, 1, none⟩) rfl _
    have HO6 := Lib.hid (show Blk w6 (W.heap.size + 1) 49 #[.slice a' M.length c', .int .i64 q, .int .i64 0] from by rw [hw6]; exact blk3 HO5.out)
    have HR6 := Lib.hid (show Blk w6 W.heap.size 49 #[.slice none 0 0, .int .i64 0, .int .i64 0] from (hof.block _ HR5.out.lt (by omega)).trans HR5.out)
    have HX6 := Lib.hid (show Blk w6 w3.heap.size 77 #[.int .i64 n, .string t, .int .i64 q, .int .i64 0] from (hof.block _ HX5.out.lt (by have := HW3.out; have h2 := HLT.out; omega)).trans HX5.out)
    have HB6 := Lib.hid (HB5.out.trans (hof.below HB5.out.size (fun k hk => by omega)))
    have HA6 := Lib.hid (frow_off HAP.out hof (by have := HLO.out; omega))
    rw [← hw6]
    clear hw6 hof p0 p1 r0 r1 y2 hne hne2
    have hok := frR_ok (s := s) (a := a) (by rw [HFR.out])
    rw [HFR.out] at hok
    simp only at hok
    have HQ := Lib.hid (show 0 ≤ q ∧ q ≤ s.size from by omega)
    have hqa : a + 8 ≤ q := hok.2.1
    have hqs : q ≤ s.size := hok.2.2.1
    have ha0 : 0 ≤ a := hok.1
    clear hok
    have HLS := Lib.hid (log_step HL.out HFR.out HN.out HM.out)
    have u1 := HO6.out.at_ 1 rfl
    go_roundw
    case rel => exact ⟨M, a', c', q, lo, HLS, HQ, HLO, HA6, HO6, HR6, HB6⟩
    case measure =>
      simp only [u1]
      have v1 := HOW.out.at_ 1 rfl
      simp only [v1]
      simp [intOf]
      omega
end Go.Proofs.YtdedomfocljhaaaGreatDoor.FrC
namespace Go.Proofs.YtdedomfocljhaaaGreatDoor.ChC
open Go.RowKit GetC SpanC KeptC RepC ValC RowC
set_option linter.unusedVariables false
set_option linter.unusedSimpArgs false
set_option maxRecDepth 100000

/-- LogRead's answer, its numbers alone -/
def LogN (s : ByteArray) (W : World) (e : Ending) (w' : World) : Prop := ∃ a c, e = .returned (.agg #[.slice a (FrC.logR s).1.length c, .int .i64 (FrC.logR s).2.1, .int .i64 (FrC.logR s).2.2]) ∧ Below W.heap.size W w'
theorem logN_of {s : ByteArray} {W : World} {e : Ending} {w' : World} (h : NewV R_LogOut (FrC.logR s) W e w') : LogN s W e w' := by
  obtain ⟨us, rfl, ho, hb⟩ := h
  obtain ⟨L, x, c⟩ := FrC.logR s
  obtain ⟨a0, c0, T0, rfl, _⟩ := ow_LogOut ho
  exact ⟨a0, c0, rfl, hb⟩
theorem logn_s {s : ByteArray} {n : Nat} {z c : Int} (hn : (FrC.logR s).1.length = n) (hz : (FrC.logR s).2.1 = z) (hc : (FrC.logR s).2.2 = c) (W : World) (hs : s.size ≤ maxLen) : Calls Tryz.prog 19 #[.string s] W fun e w' => ∃ a cc, e = .returned (.agg #[.slice a n cc, .int .i64 z, .int .i64 c]) ∧ Below W.heap.size W w' := by
  subst hn hz hc
  exact (FrC.log_s s W hs).mono fun e w' h => logN_of h
theorem logn_i {s : ByteArray} {n : Nat} {z c : Int} (hn : (FrC.logR s).1.length = n) (hz : (FrC.logR s).2.1 = z) (hc : (FrC.logR s).2.2 = c) (W : World) (hs : s.size ≤ maxLen) (hD : Door W) : Calls Tryz.prog 52 #[.string s] W fun e w' => ∃ a cc, e = .returned (.agg #[.slice a n cc, .int .i64 z, .int .i64 c]) ∧ Below W.heap.size W w' := by
  subst hn hz hc
  exact (FrC.log_i s W hs hD).mono fun e w' h => logN_of h
/-- there is no room for t in the log s -/
def fullB (s t : ByteArray) : Bool := decide (12 ≤ (FrC.logR s).1.length) || decide (3000 < s.size + t.size)
theorem fullB_long {s t : ByteArray} (h : 12 ≤ (FrC.logR s).1.length) : fullB s t = true := by unfold fullB; simp [h]
theorem fullB_big {s t : ByteArray} (h : 3000 < s.size + t.size) : fullB s t = true := by unfold fullB; simp [h]
theorem fullB_no {s t : ByteArray} (h : ¬ 12 ≤ (FrC.logR s).1.length) (h2 : ¬ 3000 < s.size + t.size) : fullB s t = false := by unfold fullB; simp [h, h2] <;> omega
theorem fullB_of {s t : ByteArray} (h : fullB s t = false) : s.size + t.size ≤ 3000 := by
  unfold fullB at h
  simp at h
  omega
def addY (n : Int) (u : ByteArray) (x : D_Region) (p : Int) : D_Region × Int × Int := ((x.1, x.2.1, x.2.2 ++ (cutV p (FrC.bytesF n u)).1), (cutV p (FrC.bytesF n u)).2.1, (cutV p (FrC.bytesF n u)).2.2)
def addF (n : Int) (u : ByteArray) (x : D_Region) (p : Int) : D_Region × Int × Int := if FrC.frB n u = true then if fullB x.2.2 (FrC.bytesF n u) = true then (x, p, 9) else addY n u x p else (x, p, 2)
theorem addF_no {n : Int} {u : ByteArray} {x : D_Region} {p : Int} (h : FrC.frB n u = false) : addF n u x p = (x, p, 2) := if_neg (by rw [h]; decide)
theorem addF_full {n : Int} {u : ByteArray} {x : D_Region} {p : Int} (h : FrC.frB n u = true) (h2 : fullB x.2.2 (FrC.bytesF n u) = true) : addF n u x p = (x, p, 9) := by unfold addF; rw [if_pos h, if_pos h2]
theorem addF_yes {n : Int} {u : ByteArray} {x : D_Region} {p : Int} (h : FrC.frB n u = true) (h2 : fullB x.2.2 (FrC.bytesF n u) = false) : addF n u x p = addY n u x p := by unfold addF; rw [if_pos h, if_neg (by rw [h2]; decide)]
theorem cutV_code (p : Int) (t : ByteArray) : (cutV p t).2.2 = 0 ∨ (cutV p t).2.2 = 12 := by
  unfold cutV
  split
  · exact .inl rfl
  · split
    · exact .inr rfl
    · exact .inl rfl
set_option maxHeartbeats 3200000 in
theorem add_s {L : List D_Region} {p : Int} {a : Option Addr} {ca : Nat} {W : World} (hL : RdSl R_Region W W.heap.size L a ca) {r : Int} {n : Int} {u : ByteArray} (hu : u.size ≤ maxLen) : Calls Tryz.prog 6 #[.agg #[.slice a L.length ca, .int .i64 p], .int .i64 r, .agg #[.int .i64 n, .string u]] W (OutD (chgV (addF n u) L p r) W) := by
  have HR := Lib.hid hL
  have hln : L.length ≤ 9223372036854775807 := by have h1 := hL.1; have h2 := hL.2.1; unfold maxLen at h2; omega
  clear hL
  have HU := Lib.hid hu
  clear hu
  obtain ⟨cd, hcd⟩ : ∃ c, codeV L p r = c := ⟨_, rfl⟩
  have HCD := Lib.hid hcd
  clear hcd
  obtain ⟨w0, hw0⟩ : ∃ w, w = ((W.alloc (.cells #[.slice a L.length ca, .int .i64 p] 31)).alloc (.cells #[.int .i64 n, .string u] 36)).alloc (.cells #[.slice none 0 0, .int .i64 0, .int .i64 0] 33) := ⟨_, rfl⟩
  have HB0 := Lib.hid (show Below W.heap.size W w0 from by rw [hw0]; exact (((Below.refl _ _).alloc (Nat.le_refl _) _).alloc (by simp) _).alloc (by simp <;> omega) _)
  have hq9 : Blk w0 W.heap.size 31 #[.slice a L.length ca, .int .i64 p] := by
    have h9 := Blk.new W 31 #[.slice a L.length ca, .int .i64 p]
    try simp only [World.size_alloc] at h9
    rw [hw0]
    exact ((h9.alloc _).alloc _)
  have XD := Lib.hid hq9
  clear hq9
  have hq9 : Blk w0 (W.heap.size + 1) 36 #[.int .i64 n, .string u] := by
    have h9 := Blk.new (W.alloc (.cells #[.slice a L.length ca, .int .i64 p] 31)) 36 #[.int .i64 n, .string u]
    try simp only [World.size_alloc] at h9
    rw [hw0]
    exact (h9.alloc _)
  have XF := Lib.hid hq9
  clear hq9
  have hq9 : Blk w0 (W.heap.size + 1 + 1) 33 #[.slice none 0 0, .int .i64 0, .int .i64 0] := by
    have h9 := Blk.new ((W.alloc (.cells #[.slice a L.length ca, .int .i64 p] 31)).alloc (.cells #[.int .i64 n, .string u] 36)) 33 #[.slice none 0 0, .int .i64 0, .int .i64 0]
    try simp only [World.size_alloc] at h9
    rw [hw0]
    exact h9
  have XO := Lib.hid hq9
  clear hq9
  have HR := Lib.hid (rdG R_Region_ok HR.out HB0.out)
  go_enter Tryz.func6, Tryz.ntmps6
  go_upto_region 1 with fail
  rw [← hw0]
  clear hw0
  have XD_q0 := XD.out.at_ 0 rfl
  have XD_q1 := XD.out.at_ 1 rfl
  go_wp2_with fail
  refine (code_s HR.out HCD.out).mono ?_
  rintro e v1 ⟨rfl, hb⟩
  clear XD_q0 XD_q1
  have XD := Lib.hid (XD.out.call hb)
  have XF := Lib.hid (XF.out.call hb)
  have XO := Lib.hid (XO.out.call hb)
  have HR := Lib.hid (rdG R_Region_ok HR.out hb)
  have HB0 := Lib.hid (HB0.out.trans (hb.mono HB0.out.size))
  clear hb
  cases hcc : (cd != 0) with
  | true =>
    have XD_q0 := XD.out.at_ 0 rfl
    have XD_q1 := XD.out.at_ 1 rfl
    have HV := Lib.hid (chgV_ill (F := addF n u) HCD.out (by simpa using hcc))
    go_wp2_with fail
    refine (ill_s (p := p) HR.out (c := cd) (fun e => by have h := codeV_of (.inr (HCD.out.trans e)); have := h.1.1; omega)).mono ?_
    rintro e v2 h
    clear XD_q0 XD_q1
    obtain ⟨a2, c2, S2, rfl, hS2, hO, hb⟩ := outD_elim h
    have HO := Lib.hid hO
    have HS2 := Lib.hid hS2
    have HLX := Lib.hid XO.out.lt
    clear h hS2 hO
    have XD := Lib.hid (XD.out.call hb)
    have XF := Lib.hid (XF.out.call hb)
    have XO := Lib.hid (XO.out.call hb)
    have HR := Lib.hid (rdG R_Region_ok HR.out hb)
    have HB0 := Lib.hid (HB0.out.trans (hb.mono HB0.out.size))
    clear hb
    have XO_q0 := XO.out.at_ 0 rfl
    have XO_q1 := XO.out.at_ 1 rfl
    have XO_q2 := XO.out.at_ 2 rfl
    have XO_s0 := XO.out.soft 0
    have XO_s1 := XO.out.soft 1
    have XO_s2 := XO.out.soft 2
    have HST := Lib.hid (outD_put (d := illV cd L p) (W := W) rfl rfl rfl (show W.heap.size ≤ W.heap.size + 1 + 1 by omega) HB0.out (S := S2) (fun k hk => by have := HS2.out k hk; have := HLX.out; omega) HO.out (putCells_off (W.heap.size + 1 + 1) [.slice a2 (illV cd L p).1.1.length c2, .int .i64 (illV cd L p).1.2, .int .i64 (illV cd L p).2] v2 0))
    go_wp2
    exact bodyPost_ret (v := .agg #[.slice a2 (illV cd L p).1.1.length c2, .int .i64 (illV cd L p).1.2, .int .i64 (illV cd L p).2]) (by simp [results, Tryz.results6, go_sem, *]) rfl (by rw [HV.out]; exact HST.out)
  | false =>
    have hc0 : cd = 0 := by simpa using hcc
    subst hc0
    have hcs := codeV_of (.inl HCD.out)
    obtain ⟨k, rfl⟩ := Int.eq_ofNat_of_zero_le hcs.2.1
    have hkl : k < L.length := by have := hcs.2.2; omega
    obtain ⟨⟨x0, x1, x2⟩, hx⟩ := el_some hkl
    have HX := Lib.hid hx
    have HDP := Lib.hid hcs.1
    have HPW := Lib.hid (codeV_pow HCD.out)
    have HV := Lib.hid (chgV_at (F := addF n u) HCD.out hx)
    have HKL := Lib.hid hkl
    clear hcs hx hkl hcc
    have XF_q0 := XF.out.at_ 0 rfl
    have XF_q1 := XF.out.at_ 1 rfl
    go_wp2_with fail
    refine (FrC.bytes_s n u _ HU.out).mono ?_
    rintro e v2 ⟨rfl, hb⟩
    clear XF_q0 XF_q1
    have XD := Lib.hid (XD.out.call hb)
    have XF := Lib.hid (XF.out.call hb)
    have XO := Lib.hid (XO.out.call hb)
    have HR := Lib.hid (rdG R_Region_ok HR.out hb)
    have HB0 := Lib.hid (HB0.out.trans (hb.mono HB0.out.size))
    clear hb
    cases hfb : FrC.frB n u with
    | false =>
      have hbe := FrC.bytesF_no hfb
      rw [hbe]
      have HV := Lib.hid (HV.out.trans ((congrArg (putV L p k) (addF_no hfb)).trans (if_neg (show ¬ ((2 : Int) = 0 ∨ (2 : Int) = 12) by decide))))
      clear hbe hfb
      have XO_q0 := XO.out.at_ 0 rfl
      have XO_q1 := XO.out.at_ 1 rfl
      have XO_q2 := XO.out.at_ 2 rfl
      have XO_s0 := XO.out.soft 0
      have XO_s1 := XO.out.soft 1
      have XO_s2 := XO.out.soft 2
      have HST := Lib.hid (outD_put (d := (([], 0), 2)) (p := 0) (c := 2) (W := W) rfl rfl rfl (show W.heap.size ≤ W.heap.size + 1 + 1 by omega) HB0.out (S := fun _ => False) (fun k h => h.elim) own_nil (putCells_off (W.heap.size + 1 + 1) [.slice none 0 0, .int .i64 0, .int .i64 2] v2 0))
      go_wp2
      exact bodyPost_ret (v := .agg #[.slice none 0 0, .int .i64 0, .int .i64 2]) (by simp [results, Tryz.results6, go_sem, *]) rfl (by rw [HV.out]; exact HST.out)
    | true =>
      obtain ⟨t, ht⟩ : ∃ t, FrC.bytesF n u = t := ⟨_, rfl⟩
      have hne : ¬ t = ⟨#[]⟩ := fun e => by rw [← ht, FrC.bytesF_none, hfb] at e; cases e
      have hts : t.size ≤ 3000 := by rw [← ht]; exact Nat.le_trans (FrC.bytesF_le n u) (by omega)
      have HVF := Lib.hid (fun (h : fullB x2 t = true) => HV.out.trans ((congrArg (putV L p k) (addF_full (x := (x0, x1, x2)) (p := p) hfb (by rw [ht]; exact h))).trans (if_neg (show ¬ ((9 : Int) = 0 ∨ (9 : Int) = 12) by decide))))
      have HVY := Lib.hid (fun (h : fullB x2 t = false) => HV.out.trans (congrArg (putV L p k) (show addF n u (x0, x1, x2) p = ((x0, x1, x2 ++ (cutV p t).1), (cutV p t).2.1, (cutV p t).2.2) from by rw [addF_yes hfb (by rw [ht]; exact h)]; unfold addY; rw [ht])))
      rw [ht]
      have HTS := Lib.hid hts
      clear ht hfb HV
      have hnd : ¬ t.data = #[] := fun e => hne (ByteArray.ext e)
      have heq2 : t.toList.isEmpty = false := by rw [ByteArray.toList_eq]; cases h9 : t.data.toList with | nil => exact absurd (Array.toList_inj.1 (h9.trans rfl)) hnd | cons _ _ => rfl
      obtain ⟨ga, oa, us, rfl, hga, hua, hra⟩ := HR.out.at_ HX.out
      obtain ⟨rfl, hm0, hm1, hm2⟩ := rd_Region hra
      have e2 : v2.cell? ⟨ga, oa + k * 3 + 2, none⟩ = some (.string x2) := by simpa [size_RegionS, Nat.add_assoc] using hua 2 _ rfl
      have E2 := Lib.hid e2
      have HGA := Lib.hid hga
      have HM2 := Lib.hid hm2
      have HM := Lib.hid (And.intro hm0 hm1)
      have hi0 : (0 : Int) ≤ (k : Int) := Int.natCast_nonneg _
      have hi1 : (k : Int) < (L.length : Int) := by have := HKL.out; omega
      obtain ⟨ln, hln2⟩ : ∃ z, (FrC.logR x2).1.length = z := ⟨_, rfl⟩
      obtain ⟨lz, hlz⟩ : ∃ z, (FrC.logR x2).2.1 = z := ⟨_, rfl⟩
      obtain ⟨lc, hlc⟩ : ∃ z, (FrC.logR x2).2.2 = z := ⟨_, rfl⟩
      have HLOG := Lib.hid (fun W => logn_s hln2 hlz hlc W HM2.out)
      have HLN := Lib.hid hln2
      have hlb := (FrC.logR_small x2).2.1
      have hfld : ∀ (q : Option Addr) (r : Nat) (w : World), (Instr.field 49 (.agg #[.slice q ln r, .int .i64 lz, .int .i64 lc]) 0).run Tryz.prog w = .ok (.slice q ln r) w := fun _ _ _ => by kernel_rfl
      have hlnb : ln ≤ 1000 := by omega
      have hx2b : x2.size ≤ 3000 := (HDP.out.2.2 _ (List.mem_of_getElem? HX.out)).2.2
      have HX2 := Lib.hid hx2b
      have hwr : IntKind.i64.wrap ((x2.size : Int) + (t.size : Int)) = (x2.size : Int) + (t.size : Int) := IntWalk.i64_in _ (by omega)
      clear hga hua hra hm0 hm1 hm2 hln2 hlz hlc hlb hne hnd
      have XD_q0 := XD.out.at_ 0 rfl
      have XD_q1 := XD.out.at_ 1 rfl
      go_wp2_with fail
      refine (HLOG.out _).mono ?_
      rintro e v8 ⟨la, lcc, rfl, hb⟩
      have e2b := (hb.cell (p := ⟨ga, oa + k * 3 + 2, none⟩) HGA.out).trans e2
      have HGA := Lib.hid (Nat.lt_of_lt_of_le HGA.out hb.size)
      clear e2 E2
      clear XD_q0 XD_q1
      have XD := Lib.hid (XD.out.call hb)
      have XF := Lib.hid (XF.out.call hb)
      have XO := Lib.hid (XO.out.call hb)
      have HR := Lib.hid (rdG R_Region_ok HR.out hb)
      have HB0 := Lib.hid (HB0.out.trans (hb.mono HB0.out.size))
      have E2 := Lib.hid e2b
      clear hb
      have XD_q0 := XD.out.at_ 0 rfl
      have XD_q1 := XD.out.at_ 1 rfl
      by_cases hl : 12 ≤ ln
      · have hd : decide ((12 : Int) ≤ (ln : Int)) = true := decide_eq_true (by omega)
        have HV := Lib.hid (HVF.out (fullB_long (by rw [HLN.out]; exact hl)))
        clear hl
        have XO_q0 := XO.out.at_ 0 rfl
        have XO_q1 := XO.out.at_ 1 rfl
        have XO_q2 := XO.out.at_ 2 rfl
        have XO_s0 := XO.out.soft 0
        have XO_s1 := XO.out.soft 1
        have XO_s2 := XO.out.soft 2
        have HST := Lib.hid (outD_put (d := (([], 0), 9)) (p := 0) (c := 9) (W := W) rfl rfl rfl (show W.heap.size ≤ W.heap.size + 1 + 1 by omega) HB0.out (S := fun _ => False) (fun k h => h.elim) own_nil (putCells_off (W.heap.size + 1 + 1) [.slice none 0 0, .int .i64 0, .int .i64 9] v8 0))
        go_wp2
        exact bodyPost_ret (v := .agg #[.slice none 0 0, .int .i64 0, .int .i64 9]) (by simp [results, Tryz.results6, go_sem, *]) rfl (by rw [HV.out]; exact HST.out)
      have hd : decide ((12 : Int) ≤ (ln : Int)) = false := decide_eq_false (by omega)
      by_cases hl2 : 3000 < x2.size + t.size
      · have hd2 : decide ((3000 : Int) < (x2.size : Int) + (t.size : Int)) = true := decide_eq_true (by omega)
        have HV := Lib.hid (HVF.out (fullB_big hl2))
        clear hl hl2
        have XO_q0 := XO.out.at_ 0 rfl
        have XO_q1 := XO.out.at_ 1 rfl
        have XO_q2 := XO.out.at_ 2 rfl
        have XO_s0 := XO.out.soft 0
        have XO_s1 := XO.out.soft 1
        have XO_s2 := XO.out.soft 2
        have HST := Lib.hid (outD_put (d := (([], 0), 9)) (p := 0) (c := 9) (W := W) rfl rfl rfl (show W.heap.size ≤ W.heap.size + 1 + 1 by omega) HB0.out (S := fun _ => False) (fun k h => h.elim) own_nil (putCells_off (W.heap.size + 1 + 1) [.slice none 0 0, .int .i64 0, .int .i64 9] v8 0))
        go_wp2
        exact bodyPost_ret (v := .agg #[.slice none 0 0, .int .i64 0, .int .i64 9]) (by simp [results, Tryz.results6, go_sem, *]) rfl (by rw [HV.out]; exact HST.out)
      have hd2 : decide ((3000 : Int) < (x2.size : Int) + (t.size : Int)) = false := decide_eq_false (by omega)
      have HV := Lib.hid (HVY.out (fullB_no (by rw [HLN.out]; exact hl) hl2))
      have HFIT := Lib.hid (show x2.size + t.size ≤ 3000 by omega)
      clear hl hl2 HVF HVY
      go_wp2_with fail
      refine (copy_s (p := p) HR.out (by have := HKL.out; omega) (by have := HDP.out.1; omega)).mono ?_
      rintro e v3 h
      clear XD_q0 XD_q1
      obtain ⟨g, c2, rfl, hg1, hg2, hO, hb⟩ := copyD_elim h
      have HO := Lib.hid hO
      have HG := Lib.hid (And.intro hg1 hg2)
      have HLX := Lib.hid XO.out.lt
      have E2 := Lib.hid ((hb.cell (p := ⟨ga, oa + k * 3 + 2, none⟩) HGA.out).trans E2.out)
      have HGA := Lib.hid (Nat.lt_of_lt_of_le HGA.out hb.size)
      clear h hg1 hg2 hO heq2 hwr hd hd2 e2b hfld hx2b hlnb
      have XD := Lib.hid (XD.out.call hb)
      have XF := Lib.hid (XF.out.call hb)
      have XO := Lib.hid (XO.out.call hb)
      have HR := Lib.hid (rdG R_Region_ok HR.out hb)
      have HB0 := Lib.hid (HB0.out.trans (hb.mono HB0.out.size))
      clear hb
      obtain ⟨v4, hv4⟩ : ∃ V, V = v3.alloc (.cells #[.slice (some ⟨g, 0, none⟩) L.length c2, .int .i64 p] 31) := ⟨_, rfl⟩
      have hb : Below v3.heap.size v3 v4 := by rw [hv4]; exact (Below.refl _ _).alloc (Nat.le_refl _) _
      have hq9 : Blk v4 v3.heap.size 31 #[.slice (some ⟨g, 0, none⟩) L.length c2, .int .i64 p] := by rw [hv4]; exact Blk.new _ _ _
      have XD := Lib.hid (XD.out.call hb)
      have XF := Lib.hid (XF.out.call hb)
      have XO := Lib.hid (XO.out.call hb)
      have HR := Lib.hid (rdG R_Region_ok HR.out hb)
      have HB0 := Lib.hid (HB0.out.trans (hb.mono HB0.out.size))
      have XC := Lib.hid hq9
      have hbz4 := Lib.hid hb.size
      have hbk4 := Lib.hid (fun q (h : q < v3.heap.size) => hb.block q h)
      clear hb hq9
      go_upto_region 10 with fail
      rw [← hv4]
      clear hv4
      have HO := Lib.hid (HO.out.keep (hbk4.out g HG.out.2))
      have E2 := Lib.hid ((World.cell?_of_block (a := ⟨ga, oa + k * 3 + 2, none⟩) (hbk4.out ga HGA.out)).trans E2.out)
      have HGA := Lib.hid (Nat.lt_of_lt_of_le HGA.out hbz4.out)
      have XD_q0 := XD.out.at_ 0 rfl
      have XD_q1 := XD.out.at_ 1 rfl
      obtain ⟨⟨put, p', c'⟩, hcv⟩ : ∃ z, cutV p t = z := ⟨_, rfl⟩
      have HCS := Lib.hid (fun w => cut_s p t w HDP.out.2.1.2 HTS.out)
      have hps : put.size ≤ t.size := by have h := cutV_size p t; rw [hcv] at h; exact h
      rw [hcv] at HCS HV
      have HPS := Lib.hid hps
      have HC12 := Lib.hid (show c' = 0 ∨ c' = 12 from by have h := cutV_code p t; rw [hcv] at h; exact h)
      clear hcv hps
      go_wp2_with fail
      refine (HCS.out _).mono ?_
      rintro e w6 ⟨rfl, rfl⟩
      go_upto_region 11 with fail
      clear XD_q0 XD_q1
      have D2 := Lib.hid ((HO.out.cells HX.out).1.2.2)
      have F2 := Lib.hid ((HO.out.cells HX.out).2.1 (k * 3 + 2))
      have HGL := Lib.hid (Nat.lt_of_lt_of_le HG.out.2 hbz4.out)
      have hcatn : ¬ 9223372036854775807 < x2.size + put.size := by have := HPS.out; have := HFIT.out; omega
      refine kregion [13] (S := (fun V => Below v4.heap.size v4 V)) (by kernel_rfl) ((Below.refl _ _).drew) (fun hHeld => ?_)
      refine kp 0 ?_
      refine kk 1 hHeld ?_ (hy := fun w hSw => by (try dsimp only at hSw); have k0 := (hSw.cell (p := ⟨v3.heap.size, 0, none⟩) XC.out.lt).trans (XC.out.at_ 0 rfl); clear hSw; go_simp; try with_reducible rfl)
      refine kp 2 ?_
      refine kp 3 ?_
      refine kk 4 hHeld ?_ (hy := fun w hSw => by (try dsimp only at hSw); have k0 := (hSw.cell (p := ⟨W.heap.size, 0, none⟩) XD.out.lt).trans (XD.out.at_ 0 rfl); clear hSw; go_simp; try with_reducible rfl)
      refine kp 5 ?_
      refine kp 6 ?_
      refine kp 7 ?_
      refine kk 8 hHeld ?_ (hy := fun w hSw => by (try dsimp only at hSw); have k0 := (hSw.cell (p := ⟨ga, oa + k * 3 + 2, none⟩) HGA.out).trans E2.out; clear hSw; go_simp; try with_reducible rfl)
      refine kp 9 ?_
      refine kp 10 ?_
      refine kp 11 ?_
      refine kp 12 ?_
      refine kr (rs := [13]) (by kernel_rfl) (by simp) (AllK.last (by simp) rfl (fun K hK => ?_))
      have ev := (hHeld.cell (p := ⟨g, k * 3 + 2, none⟩) HGL.out).trans D2.out
      have fv := (hHeld.frozen (p := ⟨g, k * 3 + 2, none⟩) HGL.out).trans F2.out
      go_simp
      refine hK.out _ _ ?_
      clear hK K ev fv
      refine k0 ?_
      obtain ⟨w8, hw8a⟩ : ∃ u, u = (v4.setCell ⟨g, k * 3 + 2, none⟩ (.string (x2 ++ put))).drew := ⟨_, rfl⟩
      rw [← hw8a]
      obtain ⟨w7, hw7⟩ : ∃ u, u = v4.drew := ⟨_, rfl⟩
      have hw8 : w8 = w7.setCell ⟨g, k * 3 + 2, none⟩ (.string (x2 ++ put)) := by rw [hw8a, hw7]; rfl
      rw [← hw7] at hHeld
      have HBV := Lib.hid hHeld
      clear hHeld hw7 hw8a
      have XD := Lib.hid (XD.out.call HBV.out)
      have XO := Lib.hid (XO.out.call HBV.out)
      have XC := Lib.hid (XC.out.call HBV.out)
      have HB0 := Lib.hid (HB0.out.trans (HBV.out.mono HB0.out.size))
      have HO := Lib.hid (HO.out.keep (HBV.out.block g HGL.out))
      have HGL := Lib.hid (Nat.lt_of_lt_of_le HGL.out HBV.out.size)
      have HXS := Lib.hid (show (x2 ++ put).size ≤ maxLen from by rw [ByteArray.size_append]; have := HPS.out; have := HFIT.out; unfold maxLen; omega)
      have HO8 := Lib.hid (show OwnG w8 g (L.set k (x0, x1, x2 ++ put)) c2 from by rw [hw8]; exact HO.out.put (j := 2) HX.out (by omega) rfl ⟨HM.out.1, HM.out.2, HXS.out⟩)
      have hof : Off (fun q => q = g) w7 w8 := by rw [hw8]; exact (Off.refl (fun q => q = g) _).setCell (p := ⟨g, k * 3 + 2, none⟩) rfl _
      clear hw8
      have XO := Lib.hid (XO.out.off hof XO.out.lt (by have := HG.out; have := HLX.out; omega))
      have XC := Lib.hid (XC.out.off hof XC.out.lt (by have := HG.out; omega))
      have HB8 := Lib.hid (HB0.out.trans (hof.below HB0.out.size (fun q hq => by have := HG.out; have := HLX.out; omega)))
      have HZ8 := Lib.hid (Nat.lt_of_lt_of_le HGL.out hof.size)
      clear hof
      have XC_q0 := XC.out.at_ 0 rfl
      have XC_q1 := XC.out.at_ 1 rfl
      have XC_s0 := XC.out.soft 0
      have XC_s1 := XC.out.soft 1
      obtain ⟨w9, hw9⟩ : ∃ u, u = w8.setCell ⟨v3.heap.size, 1, none⟩ (.int .i64 p') := ⟨_, rfl⟩
      have hof9 : Off (fun q => q = v3.heap.size) w8 w9 := by rw [hw9]; exact (Off.refl (fun q => q = v3.heap.size) _).setCell (p := ⟨v3.heap.size, 1, none⟩) rfl _
      have HO9 := Lib.hid (HO8.out.keep (hof9.block g HZ8.out (by have := HG.out; omega)))
      have XC9 := Lib.hid (show Blk w9 v3.heap.size 31 #[.slice (some ⟨g, 0, none⟩) L.length c2, .int .i64 p'] from by rw [hw9]; exact (XC.out.set 1 _).as rfl)
      go_upto_region 13 with fail
      rw [← hw9]
      clear hw9
      clear XC_q0 XC_q1 XC_s0 XC_s1
      have XO := Lib.hid (XO.out.off hof9 XO.out.lt (by have := HG.out; have := HLX.out; omega))
      have HB9 := Lib.hid (HB8.out.trans (hof9.below HB8.out.size (fun q hq => by have := HG.out; have := HLX.out; omega)))
      have HZ9 := Lib.hid (Nat.lt_of_lt_of_le HZ8.out hof9.size)
      clear hof9
      have XC := XC9
      clear XC9
      have XC_q0 := XC.out.at_ 0 rfl
      have XC_q1 := XC.out.at_ 1 rfl
      have XO_q0 := XO.out.at_ 0 rfl
      have XO_q1 := XO.out.at_ 1 rfl
      have XO_q2 := XO.out.at_ 2 rfl
      have XO_s0 := XO.out.soft 0
      have XO_s1 := XO.out.soft 1
      have XO_s2 := XO.out.soft 2
      have HST := Lib.hid (outD_put (d := ((L.set k (x0, x1, x2 ++ put), p'), c')) (p := p') (c := c') (W := W) List.length_set rfl rfl (show W.heap.size ≤ W.heap.size + 1 + 1 by omega) HB9.out (S := fun q => q = g) (fun q h => by have := HG.out; have := HLX.out; have := HZ9.out; omega) HO9.out (putCells_off (W.heap.size + 1 + 1) [.slice (some ⟨g, 0, none⟩) L.length c2, .int .i64 p', .int .i64 c'] w9 0))
      go_wp2
      exact bodyPost_ret (v := .agg #[.slice (some ⟨g, 0, none⟩) L.length c2, .int .i64 p', .int .i64 c']) (by simp [results, Tryz.results6, go_sem, *]) rfl (by rw [HV.out]; unfold putV; rw [if_pos HC12.out]; exact HST.out)
set_option maxHeartbeats 1600000 in
theorem takes_i {x0 x1 x2 t : ByteArray} {W : World} (hx2b : x2.size ≤ 3000) (hts : t.size ≤ 3000) (hD : Door W) : Calls Tryz.prog 28 #[.agg #[.string x0, .string x1, .string x2], .string t] W fun e w' => e = .returned (.bool (!fullB x2 t)) ∧ Below W.heap.size W w' := by
  have HD := Lib.hid hD
  obtain ⟨ln, hln2⟩ : ∃ z, (FrC.logR x2).1.length = z := ⟨_, rfl⟩
  obtain ⟨lz, hlz⟩ : ∃ z, (FrC.logR x2).2.1 = z := ⟨_, rfl⟩
  obtain ⟨lc, hlc⟩ : ∃ z, (FrC.logR x2).2.2 = z := ⟨_, rfl⟩
  have HLOG := Lib.hid (fun W h => logn_i hln2 hlz hlc W (Nat.le_trans hx2b (by unfold maxLen; omega)) h)
  have HLN := Lib.hid hln2
  have hlb := (FrC.logR_small x2).2.1
  have hlnb : ln ≤ 1000 := by omega
  have hfld : ∀ (q : Option Addr) (r : Nat) (w : World), (Instr.field 49 (.agg #[.slice q ln r, .int .i64 lz, .int .i64 lc]) 0).run Tryz.prog w = .ok (.slice q ln r) w := fun _ _ _ => by kernel_rfl
  have hwr : IntKind.i64.wrap ((x2.size : Int) + (t.size : Int)) = (x2.size : Int) + (t.size : Int) := IntWalk.i64_in _ (by omega)
  clear hD hln2 hlz hlc hlb
  obtain ⟨w0, hw0⟩ : ∃ w, w = W.alloc (.cells #[.string x0, .string x1, .string x2] 52) := ⟨_, rfl⟩
  have HB0 := Lib.hid (show Below W.heap.size W w0 from by rw [hw0]; exact (Below.refl _ _).alloc (Nat.le_refl _) _)
  have hq9 : Blk w0 W.heap.size 52 #[.string x0, .string x1, .string x2] := by
    have h9 := Blk.new W 52 #[.string x0, .string x1, .string x2]
    try simp only [World.size_alloc] at h9
    rw [hw0]
    exact h9
  have XR := Lib.hid hq9
  clear hq9
  have HDO := Lib.hid (HD.out.below HB0.out HD.out.lt)
  go_enter Tryz.func28, Tryz.ntmps28
  go_upto_region 1 with fail
  rw [← hw0]
  clear hw0
  have XR_q0 := XR.out.at_ 0 rfl
  have XR_q1 := XR.out.at_ 1 rfl
  have XR_q2 := XR.out.at_ 2 rfl
  go_wp2_with fail
  refine (HLOG.out _ HDO.out).mono ?_
  rintro e v1 ⟨la, lcc, rfl, hb⟩
  clear XR_q0 XR_q1 XR_q2
  have XR := Lib.hid (XR.out.call hb)
  have HDO := Lib.hid (HDO.out.below hb HDO.out.lt)
  have HB0 := Lib.hid (HB0.out.trans (hb.mono HB0.out.size))
  clear hb
  have XR_q0 := XR.out.at_ 0 rfl
  have XR_q1 := XR.out.at_ 1 rfl
  have XR_q2 := XR.out.at_ 2 rfl
  by_cases hl : 12 ≤ ln
  · have hd : decide ((ln : Int) < (12 : Int)) = false := decide_eq_false (by omega)
    have HV := Lib.hid (fullB_long (t := t) (by rw [HLN.out]; exact hl))
    clear hl
    go_wp2
    exact bodyPost_ret (v := .bool false) (by simp [results, Tryz.results28, go_sem, *]) rfl ⟨by rw [HV.out] <;> rfl, HB0.out⟩
  have hd : decide ((ln : Int) < (12 : Int)) = true := decide_eq_true (by omega)
  by_cases hl2 : 3000 < x2.size + t.size
  · have hd2 : decide ((x2.size : Int) + (t.size : Int) ≤ 3000) = false := decide_eq_false (by omega)
    have HV := Lib.hid (fullB_big hl2)
    clear hl hl2
    go_wp2
    exact bodyPost_ret (v := .bool false) (by simp [results, Tryz.results28, go_sem, *]) rfl ⟨by rw [HV.out] <;> rfl, HB0.out⟩
  have hd2 : decide ((x2.size : Int) + (t.size : Int) ≤ 3000) = true := decide_eq_true (by omega)
  have HV := Lib.hid (fullB_no (by rw [HLN.out]; exact hl) hl2)
  clear hl hl2
  go_wp2
  exact bodyPost_ret (v := .bool true) (by simp [results, Tryz.results28, go_sem, *]) rfl ⟨by rw [HV.out] <;> rfl, HB0.out⟩
theorem takes_b {x0 x1 x2 t : ByteArray} {W : World} {b : Bool} (hb : fullB x2 t = b) (hx2b : x2.size ≤ 3000) (hts : t.size ≤ 3000) (hD : Door W) : Calls Tryz.prog 28 #[.agg #[.string x0, .string x1, .string x2], .string t] W fun e w' => e = .returned (.bool (!b)) ∧ Below W.heap.size W w' := by
  subst hb
  exact takes_i hx2b hts hD
set_option maxHeartbeats 3200000 in
theorem add_do {n : Int} {u : ByteArray} {L : List D_Region} {p : Int} {G g ca k bf : Nat} {x : D_Region} {w : World} (h : WrP L.length L p G g ca k w) (hx : L[k]? = some x) (hne : G ≠ g) (hf : Blk w bf 36 #[.int .i64 n, .string u]) (hu : u.size ≤ maxLen) (hp : -1 ≤ p ∧ p ≤ 1000000) (hxb : x.2.2.size ≤ 3000) (hD : Door w) :
    Calls Tryz.prog 24 (#[.pointer (some ⟨G, 0, none⟩)] ++ #[.pointer (some ⟨bf, 0, none⟩)]) w (ChgO (addF n u x p) L G g ca k w) := by
  obtain ⟨x0, x1, x2⟩ := x
  have HXS := Lib.hid (h.2.cells hx).2.2
  have H := Lib.hid h
  have HX := Lib.hid hx
  have HF := Lib.hid hf
  have HU := Lib.hid hu
  have HN := Lib.hid hne
  have HPW := Lib.hid hp
  have HXB := Lib.hid (show x2.size ≤ 3000 from hxb)
  have HD := Lib.hid hD
  have q0 := hf.at_ 0 rfl
  have q1 := hf.at_ 1 rfl
  clear h hx hf hu hne hp hxb hD
  go_enter Tryz.func24, Tryz.ntmps24
  go_wp2_with fail
  refine (FrC.frame_i n u _ HU.out).mono ?_
  rintro e w1 ⟨rfl, hb⟩
  have H1 := Lib.hid (show WrP L.length L p G g ca k w1 from ⟨H.out.1.call hb, H.out.2.keep (hb.block g (H.out.2.lt (Nat.lt_of_le_of_lt (Nat.zero_le k) (List.getElem?_eq_some_iff.1 HX.out).1)))⟩)
  have HF1 := Lib.hid (HF.out.call hb)
  have HOFF1 := Lib.hid ((Off.refl (fun q => q = G ∨ q = g) w).of_below hb)
  have HD1 := Lib.hid (HD.out.below hb HD.out.lt)
  clear hb q0 q1
  cases hfb : FrC.frB n u with
  | false =>
    have HFB := Lib.hid hfb
    clear hfb
    go_wp2_with fail
    refine (must_no 2 _).mono ?_
    rintro e w8 ⟨rfl, rfl⟩
    go_wp2
    exact ⟨rfl, by rw [addF_no HFB.out]; exact .inr (.inr ⟨show ¬ (2 : Int) = 0 by decide, show ¬ (2 : Int) = 12 by decide, rfl⟩), HOFF1.out⟩
  | true =>
    have HFB := Lib.hid hfb
    clear hfb
    go_wp2_with fail
    refine (must_yes 2 _).mono ?_
    rintro e w8 ⟨rfl, rfl⟩
    have q0 := HF1.out.at_ 0 rfl
    have q1 := HF1.out.at_ 1 rfl
    go_wp2_with fail
    refine (FrC.bytes_i n u _ HU.out).mono ?_
    rintro e w2 ⟨rfl, hb⟩
    have H2 := Lib.hid (show WrP L.length L p G g ca k w2 from ⟨H1.out.1.call hb, H1.out.2.keep (hb.block g (H1.out.2.lt (Nat.lt_of_le_of_lt (Nat.zero_le k) (List.getElem?_eq_some_iff.1 HX.out).1)))⟩)
    have HOFF2 := Lib.hid (HOFF1.out.of_below hb)
    have HD2 := Lib.hid (HD1.out.below hb HD1.out.lt)
    clear hb q0 q1
    obtain ⟨t, ht⟩ : ∃ t, FrC.bytesF n u = t := ⟨_, rfl⟩
    have hts : t.size ≤ 3000 := by rw [← ht]; exact Nat.le_trans (FrC.bytesF_le n u) (by omega)
    obtain ⟨b, hfl⟩ : ∃ b, fullB x2 t = b := ⟨_, rfl⟩
    rw [ht]
    have HTE := Lib.hid ht
    have HTS := Lib.hid hts
    have HFL := Lib.hid hfl
    clear ht hts hfl
    obtain ⟨c0, c1, c2⟩ := H2.out.cells
    obtain ⟨e0, e1, e2⟩ := (H2.out.2.cells HX.out).1
    go_wp2_with fail
    refine (takes_b HFL.out HXB.out HTS.out HD2.out).mono ?_
    rintro e w3 ⟨rfl, hb⟩
    have H3 := Lib.hid (show WrP L.length L p G g ca k w3 from ⟨H2.out.1.call hb, H2.out.2.keep (hb.block g (H2.out.2.lt (Nat.lt_of_le_of_lt (Nat.zero_le k) (List.getElem?_eq_some_iff.1 HX.out).1)))⟩)
    have HOFF3 := Lib.hid (HOFF2.out.of_below hb)
    clear hb c0 c1 c2 e0 e1 e2
    cases b with
    | true =>
      go_wp2_with fail
      refine (must_no 9 _).mono ?_
      rintro e w8 ⟨rfl, rfl⟩
      go_wp2
      exact ⟨rfl, by rw [addF_full HFB.out (by rw [HTE.out]; exact HFL.out)]; exact .inr (.inr ⟨show ¬ (9 : Int) = 0 by decide, show ¬ (9 : Int) = 12 by decide, rfl⟩), HOFF3.out⟩
    | false =>
      go_wp2_with fail
      refine (must_yes 9 _).mono ?_
      rintro e w8 ⟨rfl, rfl⟩
      have HSZ := Lib.hid (show (x2 ++ (cutV p t).1).size ≤ maxLen from by rw [ByteArray.size_append]; have h1 := cutV_size p t; have h2 := fullB_of HFL.out; unfold maxLen; omega)
      have HWR := Lib.hid (write_i (n := L.length) (j := 2) (x := (x0, x1, x2)) (y := (x0, x1, x2 ++ (cutV p t).1)) (s := x2) (t := t) H3.out HX.out HN.out (by omega) rfl HTS.out HXB.out HPW.out rfl ⟨HXS.out.1, HXS.out.2.1, HSZ.out⟩)
      obtain ⟨c0, c1, c2⟩ := H3.out.cells
      go_wp2_with fail
      refine HWR.out.mono ?_
      intro e w5 h
      obtain ⟨h, hw, hoff⟩ := writeO_elim h
      have HW5 := Lib.hid hw
      have HOFF5 := Lib.hid (HOFF3.out.trans hoff)
      have HAY := Lib.hid ((addF_yes HFB.out (by rw [HTE.out]; exact HFL.out)).trans (show addY n u (x0, x1, x2) p = ((x0, x1, x2 ++ (cutV p t).1), (cutV p t).2.1, (cutV p t).2.2) from by unfold addY; rw [HTE.out]))
      clear hw hoff HWR c0 c1 c2
      rcases h with ⟨hc, rfl⟩ | ⟨hc, rfl⟩
      · have HC := Lib.hid hc
        clear hc
        go_wp2
        go_end0
        exact ⟨by rw [HAY.out]; exact .inl ⟨HC.out, rfl, HW5.out⟩, HOFF5.out⟩
      · have HC := Lib.hid hc
        clear hc
        go_wp2
        exact ⟨rfl, by rw [HAY.out]; exact .inr (.inl ⟨HC.out, rfl, HW5.out⟩), HOFF5.out⟩
set_option maxHeartbeats 1600000 in
theorem add_i {L : List D_Region} {p : Int} {a : Option Addr} {ca : Nat} {W : World} (hL : RdSl R_Region W W.heap.size L a ca) {r : Int} {n : Int} {u : ByteArray} (hu : u.size ≤ maxLen) (hD : Door W) : Calls Tryz.prog 9 #[.agg #[.slice a L.length ca, .int .i64 p], .int .i64 r, .agg #[.int .i64 n, .string u]] W (OutD (chgV (addF n u) L p r) W) := by
  have hmf : ∀ (fn : Fn) (first cap : Array Value) (w : World), (Instr.makeFunc fn first cap).run Tryz.prog w = .ok (.func fn first cap) w := fun _ _ _ _ => rfl
  have HU := Lib.hid hu
  have HDW := Lib.hid hD
  clear hu hD
  have HR := Lib.hid hL
  have hln : L.length ≤ 9223372036854775807 := by have h1 := hL.1; have h2 := hL.2.1; unfold maxLen at h2; omega
  clear hL
  obtain ⟨d, hd⟩ : ∃ d, chgV (addF n u) L p r = d := ⟨_, rfl⟩
  rw [hd]
  have HDD := Lib.hid hd
  clear hd
  obtain ⟨w0, hw0⟩ : ∃ w, w = ((W.alloc (.cells #[.slice a L.length ca, .int .i64 p] 31)).alloc (.cells #[.int .i64 n, .string u] 36)).alloc (.cells #[.slice none 0 0, .int .i64 0, .int .i64 0] 33) := ⟨_, rfl⟩
  have HB0 := Lib.hid (show Below W.heap.size W w0 from by rw [hw0]; exact (((Below.refl _ _).alloc (Nat.le_refl _) _).alloc (by simp) _).alloc (by simp <;> omega) _)
  have hq9 : Blk w0 W.heap.size 31 #[.slice a L.length ca, .int .i64 p] := by
    have h9 := Blk.new W 31 #[.slice a L.length ca, .int .i64 p]
    try simp only [World.size_alloc] at h9
    rw [hw0]
    exact ((h9.alloc _).alloc _)
  have XD := Lib.hid hq9
  clear hq9
  have hq9 : Blk w0 (W.heap.size + 1) 36 #[.int .i64 n, .string u] := by
    have h9 := Blk.new (W.alloc (.cells #[.slice a L.length ca, .int .i64 p] 31)) 36 #[.int .i64 n, .string u]
    try simp only [World.size_alloc] at h9
    rw [hw0]
    exact (h9.alloc _)
  have XF := Lib.hid hq9
  clear hq9
  have hq9 : Blk w0 (W.heap.size + 1 + 1) 33 #[.slice none 0 0, .int .i64 0, .int .i64 0] := by
    have h9 := Blk.new ((W.alloc (.cells #[.slice a L.length ca, .int .i64 p] 31)).alloc (.cells #[.int .i64 n, .string u] 36)) 33 #[.slice none 0 0, .int .i64 0, .int .i64 0]
    try simp only [World.size_alloc] at h9
    rw [hw0]
    exact h9
  have XO := Lib.hid hq9
  clear hq9
  have HR := Lib.hid (rdG R_Region_ok HR.out HB0.out)
  have hcf : ∀ (args : Array Value) (w : World), (callFunc 24 args).run Tryz.prog w = .ok (.enter 24 args) w := fun _ _ => rfl
  go_enter Tryz.func9, Tryz.ntmps9
  go_upto_region 1 with fail
  rw [← hw0]
  clear hw0
  have XD_q0 := XD.out.at_ 0 rfl
  have XD_q1 := XD.out.at_ 1 rfl
  go_wp2_with fail
  refine (change_i (p := p) (F := addF n u) (f := 24) (caps := #[.pointer (some ⟨W.heap.size + 1, 0, none⟩)]) HR.out hcf (fun k x w G g c hc _ hx _ hg hne hB h => add_do h hx hne (XF.out.call hB) HU.out (codeV_of (.inl hc)).1.2.1 ((codeV_of (.inl hc)).1.2.2 _ (List.mem_of_getElem? hx)).2.2 ((HDW.out.below HB0.out HDW.out.lt).below hB (HDW.out.below HB0.out HDW.out.lt).lt))).mono ?_
  rintro e v1 h
  clear XD_q0 XD_q1
  rw [HDD.out] at h
  obtain ⟨a2, c2, S2, rfl, hS2, hO, hb⟩ := outD_elim h
  have HO := Lib.hid hO
  have HS2 := Lib.hid hS2
  have HLX := Lib.hid XO.out.lt
  clear h hS2 hO
  have XD := Lib.hid (XD.out.call hb)
  have XF := Lib.hid (XF.out.call hb)
  have XO := Lib.hid (XO.out.call hb)
  have HR := Lib.hid (rdG R_Region_ok HR.out hb)
  have HB0 := Lib.hid (HB0.out.trans (hb.mono HB0.out.size))
  clear hb
  have XO_q0 := XO.out.at_ 0 rfl
  have XO_q1 := XO.out.at_ 1 rfl
  have XO_q2 := XO.out.at_ 2 rfl
  have XO_s0 := XO.out.soft 0
  have XO_s1 := XO.out.soft 1
  have XO_s2 := XO.out.soft 2
  have HST := Lib.hid (outD_put (d := d) (W := W) rfl rfl rfl (show W.heap.size ≤ W.heap.size + 1 + 1 by omega) HB0.out (S := S2) (fun k hk => by have := HS2.out k hk; have := HLX.out; omega) HO.out (putCells_off (W.heap.size + 1 + 1) [.slice a2 d.1.1.length c2, .int .i64 d.1.2, .int .i64 d.2] v1 0))
  go_wp2
  exact bodyPost_ret (v := .agg #[.slice a2 d.1.1.length c2, .int .i64 d.1.2, .int .i64 d.2]) (by simp [results, Tryz.results9, go_sem, *]) rfl HST.out
end Go.Proofs.YtdedomfocljhaaaGreatDoor.ChC
namespace Go.Proofs.YtdedomfocljhaaaGreatDoor.RepC
open Go.RowKit RowC ValC SpanC KeptC
set_option linter.unusedVariables false
set_option linter.unusedSimpArgs false

theorem chg_small {F : D_Region → Int → D_Region × Int × Int} {L : List D_Region} {p r : Int} {d : D_DiskOut} {q : D_Disk} (_ : R_Disk.sz q ≤ 1048576) (h : ChC.chgV F L p r = d) : R_DiskOut.cv d ≤ 1048576 := by
  have cvx : ∀ (M : List D_Region) (q c : Int), R_DiskOut.cv ((M, q), c) = 3 * M.length := fun M q c => by rw [cvd_DiskOut, cm_regions]
  subst h
  unfold ChC.chgV
  split
  · rename_i hc
    have hl := (ChC.codeV_of (.inl hc)).1.1.2
    unfold ChC.putV
    split
    · rw [cvx, List.length_set]
      omega
    · rw [cvx]
      simp
  · unfold ChC.illV
    split
    · rename_i hc
      have hl := (ChC.codeV_of (.inr hc)).1.1.2
      rw [cvx]
      omega
    · rw [cvx]
      simp
theorem sets_DiskOut {w : World} {g : Nat} {v0 v1 v2 : Value} {t : TypeId} (h : Blk w g t #[.slice none 0 0, .int .i64 0, .int .i64 0]) : Blk (((w.setCell ⟨g, 0, none⟩ v0).setCell ⟨g, 1, none⟩ v1).setCell ⟨g, 2, none⟩ v2) g t #[v0, v1, v2] := Blk.as (((h.set 0 v0).set 1 v1).set 2 v2) (by kernel_rfl)
theorem soff_DiskOut (w : World) (g : Nat) (v0 v1 v2 : Value) : Off (fun x => x = g) w (((w.setCell ⟨g, 0, none⟩ v0).setCell ⟨g, 1, none⟩ v1).setCell ⟨g, 2, none⟩ v2) := ((((Off.refl (fun x => x = g) w).setCell (p := ⟨g, 0, none⟩) rfl v0).setCell (p := ⟨g, 1, none⟩) rfl v1).setCell (p := ⟨g, 2, none⟩) rfl v2)
end Go.Proofs.YtdedomfocljhaaaGreatDoor.RepC
namespace Go.Proofs.YtdedomfocljhaaaGreatDoor.RepC
open Go.RowKit RowC ValC SpanC KeptC
set_option linter.unusedVariables false
set_option linter.unusedSimpArgs false

theorem cvs_Frame {x : D_Frame} (h : R_Frame.sz x ≤ 1048576) : R_Frame.cv x ≤ 8388608 := by
  show 0 + 0 ≤ _
  omega
theorem gadd_spec {d : D_Disk} {cs : List Value} {x : D_Frame} {xs : List Value} {r : Int} {W : World} (h : R_Disk.rd W W.heap.size d cs) (hx : R_Frame.rd W W.heap.size x xs) : Calls Tryz.prog 6 #[.agg cs.toArray, .int .i64 r, .agg xs.toArray] W (NewV R_DiskOut (ChC.chgV (ChC.addF x.1 x.2) d.1 d.2 r) W) := by
  obtain ⟨L, p⟩ := d
  obtain ⟨a, c, rfl, k⟩ := rd_Disk h
  obtain ⟨n, u⟩ := x
  obtain ⟨rfl, hu⟩ := rd_Frame hx
  exact (ChC.add_s k hu).mono fun e w' h => ChC.outD_new h
theorem gadd_impl {d : D_Disk} {cs : List Value} {x : D_Frame} {xs : List Value} {r : Int} {W : World} (hD : GetC.Door W) (h : R_Disk.rd W W.heap.size d cs) (hx : R_Frame.rd W W.heap.size x xs) : Calls Tryz.prog 9 #[.agg cs.toArray, .int .i64 r, .agg xs.toArray] W (NewV R_DiskOut (ChC.chgV (ChC.addF x.1 x.2) d.1 d.2 r) W) := by
  obtain ⟨L, p⟩ := d
  obtain ⟨a, c, rfl, k⟩ := rd_Disk h
  obtain ⟨n, u⟩ := x
  obtain ⟨rfl, hu⟩ := rd_Frame hx
  exact (ChC.add_i k hu hD).mono fun e w' h => ChC.outD_new h
end Go.Proofs.YtdedomfocljhaaaGreatDoor.RepC
namespace Go.Proofs.YtdedomfocljhaaaGreatDoor.RepC
open Go.RowKit RowC ValC SpanC KeptC
set_option linter.unusedVariables false
set_option linter.unusedSimpArgs false

set_option maxRecDepth 100000 in
set_option maxHeartbeats 4000000 in
theorem law_dadd {DL0 : List (D_Region)} {Dx1 : Int} {Da0 : Option Addr} {Dc0 : Nat} {R : Int} {Fx0 : Int} {Fx1 : ByteArray}  {W : World} (hD : R_Disk.rd W W.heap.size (DL0, Dx1) [.slice Da0 DL0.length Dc0, .int .i64 Dx1]) (hF : R_Frame.rd W W.heap.size (Fx0, Fx1) [.int .i64 Fx0, .string Fx1]) (hDo : GetC.Door W) :
    Calls Tryz.prog 3 #[.agg #[.slice Da0 DL0.length Dc0, .int .i64 Dx1], .int .i64 R, .agg #[.int .i64 Fx0, .string Fx1]] W fun e w' => e = .returned (.bool true) ∧ Below W.heap.size W w' := by
  have HDOOR := Lib.hid hDo
  have HDZ := Lib.hid hDo.lt
  clear hDo
  have HD := Lib.hid hD
  have HD0 := Lib.hid hD
  clear hD
  have HF := Lib.hid hF
  have HF0 := Lib.hid hF
  clear hF
  have hbA : Below (W).heap.size (W) (W.alloc (.cells #[.slice Da0 DL0.length Dc0, .int .i64 Dx1] 24)) := (Below.refl _ _).alloc (Nat.le_refl _) _
  have HD_1 := Lib.hid (gmv R_Disk_ok HD.out hbA)
  have HF_1 := Lib.hid (gmv R_Frame_ok HF.out hbA)
  have HB1 := Lib.hid (show Below W.heap.size W (W.alloc (.cells #[.slice Da0 DL0.length Dc0, .int .i64 Dx1] 24)) from hbA)
  have HZ1 := Lib.hid ((hbA).size)
  clear HD HF
  have PD_1 := Blk.new (W) 24 #[.slice Da0 DL0.length Dc0, .int .i64 Dx1]
  have PDh_1 := Lib.hid PD_1
  clear PD_1 hbA
  have hbA : Below (W.alloc (.cells #[.slice Da0 DL0.length Dc0, .int .i64 Dx1] 24)).heap.size (W.alloc (.cells #[.slice Da0 DL0.length Dc0, .int .i64 Dx1] 24)) ((W.alloc (.cells #[.slice Da0 DL0.length Dc0, .int .i64 Dx1] 24)).alloc (.cells #[.int .i64 Fx0, .string Fx1] 26)) := (Below.refl _ _).alloc (Nat.le_refl _) _
  have PD_2 := Lib.hid (PDh_1.out.call hbA)
  have HD_2 := Lib.hid (gmv R_Disk_ok HD_1.out hbA)
  have HF_2 := Lib.hid (gmv R_Frame_ok HF_1.out hbA)
  have HB2 := Lib.hid (HB1.out.trans ((hbA).mono HB1.out.size))
  have HZ2 := Lib.hid ((hbA).size)
  clear PDh_1 HD_1 HF_1 HB1
  have PF_2 := Blk.new (W.alloc (.cells #[.slice Da0 DL0.length Dc0, .int .i64 Dx1] 24)) 26 #[.int .i64 Fx0, .string Fx1]
  have PFh_2 := Lib.hid PF_2
  clear PF_2 hbA
  have hq := PFh_2.out
  simp only [World.size_alloc] at hq
  clear PFh_2
  have PFh_2 := Lib.hid hq
  clear hq
  by_cases hszD : ((R_Disk.sz (DL0, Dx1) : Nat) : Int) ≤ (1048576 : Int)
  rotate_left
  · skip
    go_enter Tryz.func3, Tryz.ntmps3
    have qPD_0 := PD_2.out.at_ 0 rfl
    have qPD_1 := PD_2.out.at_ 1 rfl
    have qPF_0 := PFh_2.out.at_ 0 rfl
    have qPF_1 := PFh_2.out.at_ 1 rfl
    go_wp2_with fail
    refine (gsz_Disk (l := (1048576 : Int)) (by omega) (by omega) HD_2.out).mono ?_
    intro e w3 h
    obtain ⟨rfl, hb⟩ := szC_elim h
    rw [szR_no (by omega)]
    clear qPD_0 qPD_1 qPF_0 qPF_1
    have PD_3 := Lib.hid (PD_2.out.call hb)
    have PF_3 := Lib.hid (PFh_2.out.call hb)
    have HD_3 := Lib.hid (gmv R_Disk_ok HD_2.out hb)
    have HF_3 := Lib.hid (gmv R_Frame_ok HF_2.out hb)
    have HB3 := Lib.hid (HB2.out.trans ((hb).mono HB2.out.size))
    have HZ3 := Lib.hid ((hb).size)
    clear PD_2 PFh_2 HD_2 HF_2 HB2
    clear h hb
    go_wp2
    go_ret
    exact ⟨rfl, HB3.out⟩
  have hswD : R_Disk.sz (DL0, Dx1) ≤ 1048576 := by omega
  have HSZD := Lib.hid hswD
  have HSAD := Lib.hid (cvs_Disk hswD)
  clear hswD
  obtain ⟨mD, hmD⟩ : ∃ m : Nat, R_Disk.sz (DL0, Dx1) = m := ⟨_, rfl⟩
  have HMD := Lib.hid hmD
  rw [hmD] at hszD
  clear hmD
  have hltD : decide ((1048576 : Int) - (mD : Int) < 0) = false := decide_eq_false (by omega)
  by_cases hszF : ((R_Frame.sz (Fx0, Fx1) : Nat) : Int) ≤ (1048576 : Int) - (mD : Int)
  rotate_left
  · skip
    go_enter Tryz.func3, Tryz.ntmps3
    have qPD_0 := PD_2.out.at_ 0 rfl
    have qPD_1 := PD_2.out.at_ 1 rfl
    have qPF_0 := PFh_2.out.at_ 0 rfl
    have qPF_1 := PFh_2.out.at_ 1 rfl
    go_wp2_with fail
    refine (gsz_Disk (l := (1048576 : Int)) (by omega) (by omega) HD_2.out).mono ?_
    intro e w3 h
    obtain ⟨rfl, hb⟩ := szC_elim h
    rw [HMD.out, szR_yes (by omega)]
    clear qPD_0 qPD_1 qPF_0 qPF_1
    have PD_3 := Lib.hid (PD_2.out.call hb)
    have PF_3 := Lib.hid (PFh_2.out.call hb)
    have HD_3 := Lib.hid (gmv R_Disk_ok HD_2.out hb)
    have HF_3 := Lib.hid (gmv R_Frame_ok HF_2.out hb)
    have HB3 := Lib.hid (HB2.out.trans ((hb).mono HB2.out.size))
    have HZ3 := Lib.hid ((hb).size)
    clear PD_2 PFh_2 HD_2 HF_2 HB2
    clear h hb
    have qPD_0 := PD_3.out.at_ 0 rfl
    have qPD_1 := PD_3.out.at_ 1 rfl
    have qPF_0 := PF_3.out.at_ 0 rfl
    have qPF_1 := PF_3.out.at_ 1 rfl
    go_wp2_with fail
    refine (gsz_Frame (l := (1048576 : Int) - (mD : Int)) (by omega) (by omega) HF_3.out).mono ?_
    intro e w4 h
    obtain ⟨rfl, hb⟩ := szC_elim h
    rw [szR_no (by omega)]
    clear qPD_0 qPD_1 qPF_0 qPF_1
    have PD_4 := Lib.hid (PD_3.out.call hb)
    have PF_4 := Lib.hid (PF_3.out.call hb)
    have HD_4 := Lib.hid (gmv R_Disk_ok HD_3.out hb)
    have HF_4 := Lib.hid (gmv R_Frame_ok HF_3.out hb)
    have HB4 := Lib.hid (HB3.out.trans ((hb).mono HB3.out.size))
    have HZ4 := Lib.hid ((hb).size)
    clear PD_3 PF_3 HD_3 HF_3 HB3
    clear h hb
    go_wp2
    go_ret
    exact ⟨rfl, HB4.out⟩
  have hswF : R_Frame.sz (Fx0, Fx1) ≤ 1048576 := by omega
  have HSZF := Lib.hid hswF
  have HSAF := Lib.hid (cvs_Frame hswF)
  clear hswF
  obtain ⟨mF, hmF⟩ : ∃ m : Nat, R_Frame.sz (Fx0, Fx1) = m := ⟨_, rfl⟩
  have HMF := Lib.hid hmF
  rw [hmF] at hszF
  clear hmF
  have hltF : decide ((1048576 : Int) - (mD : Int) - (mF : Int) < 0) = false := decide_eq_false (by omega)
  obtain ⟨⟨⟨dL0, dx1⟩, dx2⟩, hD⟩ : ∃ d, ChC.chgV (ChC.addF Fx0 Fx1) DL0 Dx1 R = d := ⟨_, rfl⟩
  have HDD := Lib.hid hD
  have HSM := Lib.hid (chg_small HSZD.out hD)
  clear hD
  go_enter Tryz.func3, Tryz.ntmps3
  have qPD_0 := PD_2.out.at_ 0 rfl
  have qPD_1 := PD_2.out.at_ 1 rfl
  have qPF_0 := PFh_2.out.at_ 0 rfl
  have qPF_1 := PFh_2.out.at_ 1 rfl
  go_wp2_with fail
  refine (gsz_Disk (l := (1048576 : Int)) (by omega) (by omega) HD_2.out).mono ?_
  intro e w3 h
  obtain ⟨rfl, hb⟩ := szC_elim h
  rw [HMD.out, szR_yes (by omega)]
  clear qPD_0 qPD_1 qPF_0 qPF_1
  have PD_3 := Lib.hid (PD_2.out.call hb)
  have PF_3 := Lib.hid (PFh_2.out.call hb)
  have HD_3 := Lib.hid (gmv R_Disk_ok HD_2.out hb)
  have HF_3 := Lib.hid (gmv R_Frame_ok HF_2.out hb)
  have HB3 := Lib.hid (HB2.out.trans ((hb).mono HB2.out.size))
  have HZ3 := Lib.hid ((hb).size)
  clear PD_2 PFh_2 HD_2 HF_2 HB2
  clear h hb
  have qPD_0 := PD_3.out.at_ 0 rfl
  have qPD_1 := PD_3.out.at_ 1 rfl
  have qPF_0 := PF_3.out.at_ 0 rfl
  have qPF_1 := PF_3.out.at_ 1 rfl
  go_wp2_with fail
  refine (gsz_Frame (l := (1048576 : Int) - (mD : Int)) (by omega) (by omega) HF_3.out).mono ?_
  intro e w4 h
  obtain ⟨rfl, hb⟩ := szC_elim h
  rw [HMF.out, szR_yes (by omega)]
  clear qPD_0 qPD_1 qPF_0 qPF_1
  have PD_4 := Lib.hid (PD_3.out.call hb)
  have PF_4 := Lib.hid (PF_3.out.call hb)
  have HD_4 := Lib.hid (gmv R_Disk_ok HD_3.out hb)
  have HF_4 := Lib.hid (gmv R_Frame_ok HF_3.out hb)
  have HB4 := Lib.hid (HB3.out.trans ((hb).mono HB3.out.size))
  have HZ4 := Lib.hid ((hb).size)
  clear PD_3 PF_3 HD_3 HF_3 HB3
  clear h hb
  have qPD_0 := PD_4.out.at_ 0 rfl
  have qPD_1 := PD_4.out.at_ 1 rfl
  have qPF_0 := PF_4.out.at_ 0 rfl
  have qPF_1 := PF_4.out.at_ 1 rfl
  clear hszD hszF
  clear qPD_0 qPD_1 qPF_0 qPF_1
  have HPL := Lib.hid (PF_4.out.lt)
  go_upto_region 8 with fail
  go_cut [8] (fun s8 wx => ∃ (gw : Nat) (ra0w : Option Addr) (rc0w : Nat) (Sw : Nat → Prop), s8 = .pointer (some ⟨gw, 0, none⟩) ∧ Hid (Blk wx gw 33 #[.slice ra0w dL0.length rc0w, .int .i64 dx1, .int .i64 dx2]) ∧ Hid (OwG R_DiskOut wx Sw ((dL0, dx1), dx2) [.slice ra0w dL0.length rc0w, .int .i64 dx1, .int .i64 dx2]) ∧ Hid (∀ k, Sw k → w4.heap.size ≤ k ∧ k ≠ gw) ∧ Hid (w4.heap.size ≤ gw) ∧ Hid (Below w4.heap.size w4 wx))
  case first =>
    refine wp_region_held_drew (S := (fun V => Below w4.heap.size w4 V)) (by kernel_rfl) ((Below.refl _ _).drew) (fun hHeld => ?_)
    refine tk 0 hHeld ?_ (hy := fun w hSw => by (try dsimp only at hSw); have k0 := (hSw.cell (p := ⟨W.heap.size, 0, none⟩) PD_4.out.lt).trans (PD_4.out.at_ 0 rfl); have k1 := (hSw.cell (p := ⟨W.heap.size, 1, none⟩) PD_4.out.lt).trans (PD_4.out.at_ 1 rfl); clear hSw; go_simp; try with_reducible rfl)
    refine tk 2 hHeld ?_
    refine tk 3 hHeld ?_ (hy := fun w hSw => by (try dsimp only at hSw); have k0 := (hSw.cell (p := ⟨(W.heap.size + 1), 0, none⟩) PF_4.out.lt).trans (PF_4.out.at_ 0 rfl); have k1 := (hSw.cell (p := ⟨(W.heap.size + 1), 1, none⟩) PF_4.out.lt).trans (PF_4.out.at_ 1 rfl); clear hSw; go_simp; try with_reducible rfl)
    refine rd2 1 6 (fun K hK => ?_) (fun K hK => ?_)
    · skip
      go_simp
      go_at_call 7
      refine (gto_Disk HSZD.out (gmv R_Disk_ok HD_4.out hHeld)).mono ?_
      intro e v8_1 h
      obtain ⟨us, rfl, hu, hb⟩ := newV_elim h
      obtain ⟨aD0_8_1, cD0_8_1, rfl, hu⟩ := owc_Disk hu
      have ND := Lib.hid (owG_new hu)
      clear h hu
      refine hK.out _ _ (hHeld.trans (hb.mono hHeld.size)) (fun hHeld => ?_)
      clear hK K hb
      refine rd2 4 6 (fun K hK => ?_) (fun K hK => ?_)
      · skip
        go_simp
        go_at_call 8
        refine (gto_Frame HSZF.out (gmv R_Frame_ok HF_4.out hHeld)).mono ?_
        intro e v8_2 h
        obtain ⟨us, rfl, hu, hb⟩ := newV_elim h
        obtain ⟨rfl, hu⟩ := owc_Frame hu
        have ND := Lib.hid (ND.out.mv R_Disk_ok hb)
        have NF := Lib.hid (owG_new hu)
        clear h hu
        refine hK.out _ _ (hHeld.trans (hb.mono hHeld.size)) (fun hHeld => ?_)
        clear hK K hb
        refine rd2 5 6 (fun K hK => ?_) (fun K hK => ?_)
        · skip
          go_simp
          go_at_call 6
          refine (gadd_spec (ND.out.rd R_Disk_ok) (NF.out.rd R_Frame_ok)).mono ?_
          intro e v8_3 h
          rw [HDD.out] at h
          obtain ⟨us, rfl, hu, hb⟩ := newV_elim h
          obtain ⟨ra08_3, rc08_3, rfl, hu⟩ := owc_DiskOut hu
          have hHeld0 := Lib.hid hHeld
          have OW := Lib.hid (owG_new hu)
          clear h hu ND NF
          refine hK.out _ _ (hHeld.trans (hb.mono hHeld.size)) (fun hHeld => ?_)
          clear hK K hb
          refine rd1 6 (fun K hK => ?_)
          go_simp
          have hb : Below (v8_3).heap.size (v8_3) (v8_3.alloc (.cells #[.slice none 0 0, .int .i64 0, .int .i64 0] 33)) := (Below.refl _ _).alloc (Nat.le_refl _) _
          have OW0 := OW
          have OW := Lib.hid (OW.out.mv R_DiskOut_ok hb)
          have GB := Lib.hid (show Blk (v8_3.alloc (.cells #[.slice none 0 0, .int .i64 0, .int .i64 0] 33)) v8_3.heap.size 33 #[.slice none 0 0, .int .i64 0, .int .i64 0] from Blk.new (v8_3) 33 #[.slice none 0 0, .int .i64 0, .int .i64 0])
          have HGE := Lib.hid (show w4.heap.size ≤ v8_3.heap.size from hHeld.size)
          have HTB := Lib.hid (show ∀ k, Rg v8_2.heap.size v8_3.heap.size k → w4.heap.size ≤ k ∧ k ≠ v8_3.heap.size from fun k hk => ⟨Nat.le_trans hHeld0.out.size hk.1, by have := hk.2; omega⟩)
          have hPre := Lib.hid hHeld
          refine hK.out _ _ (hHeld.trans (hb.mono hHeld.size)) (fun hHeld => ?_)
          clear hK K hb
          refine rd1 7 (fun K hK => ?_)
          go_simp
          refine hK.out _ _ (hPre.out.alloc HGE.out (.cells #[.slice ra08_3 dL0.length rc08_3, .int .i64 dx1, .int .i64 dx2] 33)) (fun hHeld => ?_)
          clear hK K
          refine rd0 ?_
          go_wp2_with fail
          go_meet
          exact ⟨_, _, _, _, rfl, Lib.hid (Blk.new v8_3 33 #[.slice ra08_3 dL0.length rc08_3, .int .i64 dx1, .int .i64 dx2]), Lib.hid (OW0.out.mv R_DiskOut_ok ((Below.refl _ _).alloc (Nat.le_refl _) (.cells #[.slice ra08_3 dL0.length rc08_3, .int .i64 dx1, .int .i64 dx2] 33))), HTB, HGE, Lib.hid hHeld⟩
        · skip
          go_simp
          have hb : Below (v8_2).heap.size (v8_2) (v8_2.alloc (.cells #[.slice none 0 0, .int .i64 0, .int .i64 0] 33)) := (Below.refl _ _).alloc (Nat.le_refl _) _
          have ND := Lib.hid (ND.out.mv R_Disk_ok hb)
          have NF := Lib.hid (NF.out.mv R_Frame_ok hb)
          have GB := Lib.hid (show Blk (v8_2.alloc (.cells #[.slice none 0 0, .int .i64 0, .int .i64 0] 33)) v8_2.heap.size 33 #[.slice none 0 0, .int .i64 0, .int .i64 0] from Blk.new (v8_2) 33 #[.slice none 0 0, .int .i64 0, .int .i64 0])
          have HGE := Lib.hid (show w4.heap.size ≤ v8_2.heap.size from hHeld.size)
          refine hK.out _ _ (hHeld.trans (hb.mono hHeld.size)) (fun hHeld => ?_)
          clear hK K hb
          have GBl := Lib.hid (show v8_2.heap.size < (v8_2.alloc (.cells #[.slice none 0 0, .int .i64 0, .int .i64 0] 33)).heap.size from GB.out.lt)
          refine rd1 5 (fun K hK => ?_)
          go_simp
          go_at_call 6
          refine (gadd_spec (ND.out.rd R_Disk_ok) (NF.out.rd R_Frame_ok)).mono ?_
          intro e v8_4 h
          rw [HDD.out] at h
          obtain ⟨us, rfl, hu, hb⟩ := newV_elim h
          obtain ⟨ra08_4, rc08_4, rfl, hu⟩ := owc_DiskOut hu
          have hHeld0 := Lib.hid hHeld
          have GB := Lib.hid (GB.out.call hb)
          have OW := Lib.hid (owG_new hu)
          have HTB := Lib.hid (show ∀ k, Rg (v8_2.alloc (.cells #[.slice none 0 0, .int .i64 0, .int .i64 0] 33)).heap.size v8_4.heap.size k → w4.heap.size ≤ k ∧ k ≠ v8_2.heap.size from fun k hk => ⟨Nat.le_trans hHeld.size hk.1, by have h1 := hk.1; have h2 := GBl.out; omega⟩)
          clear h hu ND NF
          refine hK.out _ _ (hHeld.trans (hb.mono hHeld.size)) (fun hHeld => ?_)
          clear hK K hb
          have GBl := Lib.hid (show v8_2.heap.size < v8_4.heap.size from GB.out.lt)
          refine rd1 7 (fun K hK => ?_)
          have q0 := GB.out.at_ 0 rfl
          have f0 := GB.out.soft 0
          have q1 := GB.out.at_ 1 rfl
          have f1 := GB.out.soft 1
          have q2 := GB.out.at_ 2 rfl
          have f2 := GB.out.soft 2
          go_simp
          refine hK.out _ _ (((hHeld.setCell (p := ⟨v8_2.heap.size, 0, none⟩) (by exact HGE.out) (.slice ra08_4 dL0.length rc08_4)).setCell (p := ⟨v8_2.heap.size, 1, none⟩) (by exact HGE.out) (.int .i64 dx1)).setCell (p := ⟨v8_2.heap.size, 2, none⟩) (by exact HGE.out) (.int .i64 dx2)) (fun hHeld => ?_)
          clear hK K q0 f0 q1 f1 q2 f2
          refine rd0 ?_
          go_wp2_with fail
          go_meet
          exact ⟨_, _, _, _, rfl, Lib.hid (sets_DiskOut GB.out), Lib.hid (OW.out.off R_DiskOut_ok (soff_DiskOut _ _ _ _ _) (fun k hk h2 => (HTB.out k hk).2 h2)), HTB, HGE, Lib.hid hHeld⟩
      · skip
        go_simp
        have hb : Below (v8_1).heap.size (v8_1) (v8_1.alloc (.cells #[.slice none 0 0, .int .i64 0, .int .i64 0] 33)) := (Below.refl _ _).alloc (Nat.le_refl _) _
        have ND := Lib.hid (ND.out.mv R_Disk_ok hb)
        have GB := Lib.hid (show Blk (v8_1.alloc (.cells #[.slice none 0 0, .int .i64 0, .int .i64 0] 33)) v8_1.heap.size 33 #[.slice none 0 0, .int .i64 0, .int .i64 0] from Blk.new (v8_1) 33 #[.slice none 0 0, .int .i64 0, .int .i64 0])
        have HGE := Lib.hid (show w4.heap.size ≤ v8_1.heap.size from hHeld.size)
        refine hK.out _ _ (hHeld.trans (hb.mono hHeld.size)) (fun hHeld => ?_)
        clear hK K hb
        have GBl := Lib.hid (show v8_1.heap.size < (v8_1.alloc (.cells #[.slice none 0 0, .int .i64 0, .int .i64 0] 33)).heap.size from GB.out.lt)
        refine rd1 4 (fun K hK => ?_)
        go_simp
        go_at_call 8
        refine (gto_Frame HSZF.out (gmv R_Frame_ok HF_4.out hHeld)).mono ?_
        intro e v8_5 h
        obtain ⟨us, rfl, hu, hb⟩ := newV_elim h
        obtain ⟨rfl, hu⟩ := owc_Frame hu
        have ND := Lib.hid (ND.out.mv R_Disk_ok hb)
        have GB := Lib.hid (GB.out.call hb)
        have NF := Lib.hid (owG_new hu)
        clear h hu
        refine hK.out _ _ (hHeld.trans (hb.mono hHeld.size)) (fun hHeld => ?_)
        clear hK K hb
        have GBl := Lib.hid (show v8_1.heap.size < v8_5.heap.size from GB.out.lt)
        refine rd1 5 (fun K hK => ?_)
        go_simp
        go_at_call 6
        refine (gadd_spec (ND.out.rd R_Disk_ok) (NF.out.rd R_Frame_ok)).mono ?_
        intro e v8_6 h
        rw [HDD.out] at h
        obtain ⟨us, rfl, hu, hb⟩ := newV_elim h
        obtain ⟨ra08_6, rc08_6, rfl, hu⟩ := owc_DiskOut hu
        have hHeld0 := Lib.hid hHeld
        have GB := Lib.hid (GB.out.call hb)
        have OW := Lib.hid (owG_new hu)
        have HTB := Lib.hid (show ∀ k, Rg v8_5.heap.size v8_6.heap.size k → w4.heap.size ≤ k ∧ k ≠ v8_1.heap.size from fun k hk => ⟨Nat.le_trans hHeld.size hk.1, by have h1 := hk.1; have h2 := GBl.out; omega⟩)
        clear h hu ND NF
        refine hK.out _ _ (hHeld.trans (hb.mono hHeld.size)) (fun hHeld => ?_)
        clear hK K hb
        have GBl := Lib.hid (show v8_1.heap.size < v8_6.heap.size from GB.out.lt)
        refine rd1 7 (fun K hK => ?_)
        have q0 := GB.out.at_ 0 rfl
        have f0 := GB.out.soft 0
        have q1 := GB.out.at_ 1 rfl
        have f1 := GB.out.soft 1
        have q2 := GB.out.at_ 2 rfl
        have f2 := GB.out.soft 2
        go_simp
        refine hK.out _ _ (((hHeld.setCell (p := ⟨v8_1.heap.size, 0, none⟩) (by exact HGE.out) (.slice ra08_6 dL0.length rc08_6)).setCell (p := ⟨v8_1.heap.size, 1, none⟩) (by exact HGE.out) (.int .i64 dx1)).setCell (p := ⟨v8_1.heap.size, 2, none⟩) (by exact HGE.out) (.int .i64 dx2)) (fun hHeld => ?_)
        clear hK K q0 f0 q1 f1 q2 f2
        refine rd0 ?_
        go_wp2_with fail
        go_meet
        exact ⟨_, _, _, _, rfl, Lib.hid (sets_DiskOut GB.out), Lib.hid (OW.out.off R_DiskOut_ok (soff_DiskOut _ _ _ _ _) (fun k hk h2 => (HTB.out k hk).2 h2)), HTB, HGE, Lib.hid hHeld⟩
    · skip
      go_simp
      have hb : Below (w4.drew).heap.size (w4.drew) ((w4.drew).alloc (.cells #[.slice none 0 0, .int .i64 0, .int .i64 0] 33)) := (Below.refl _ _).alloc (Nat.le_refl _) _
      have GB := Lib.hid (show Blk ((w4.drew).alloc (.cells #[.slice none 0 0, .int .i64 0, .int .i64 0] 33)) w4.heap.size 33 #[.slice none 0 0, .int .i64 0, .int .i64 0] from Blk.new (w4.drew) 33 #[.slice none 0 0, .int .i64 0, .int .i64 0])
      have HGE := Lib.hid (show w4.heap.size ≤ w4.heap.size from hHeld.size)
      refine hK.out _ _ (hHeld.trans (hb.mono hHeld.size)) (fun hHeld => ?_)
      clear hK K hb
      have GBl := Lib.hid (show w4.heap.size < ((w4.drew).alloc (.cells #[.slice none 0 0, .int .i64 0, .int .i64 0] 33)).heap.size from GB.out.lt)
      refine rd1 1 (fun K hK => ?_)
      go_simp
      go_at_call 7
      refine (gto_Disk HSZD.out (gmv R_Disk_ok HD_4.out hHeld)).mono ?_
      intro e v8_7 h
      obtain ⟨us, rfl, hu, hb⟩ := newV_elim h
      obtain ⟨aD0_8_7, cD0_8_7, rfl, hu⟩ := owc_Disk hu
      have GB := Lib.hid (GB.out.call hb)
      have ND := Lib.hid (owG_new hu)
      clear h hu
      refine hK.out _ _ (hHeld.trans (hb.mono hHeld.size)) (fun hHeld => ?_)
      clear hK K hb
      have GBl := Lib.hid (show w4.heap.size < v8_7.heap.size from GB.out.lt)
      refine rd1 4 (fun K hK => ?_)
      go_simp
      go_at_call 8
      refine (gto_Frame HSZF.out (gmv R_Frame_ok HF_4.out hHeld)).mono ?_
      intro e v8_8 h
      obtain ⟨us, rfl, hu, hb⟩ := newV_elim h
      obtain ⟨rfl, hu⟩ := owc_Frame hu
      have ND := Lib.hid (ND.out.mv R_Disk_ok hb)
      have GB := Lib.hid (GB.out.call hb)
      have NF := Lib.hid (owG_new hu)
      clear h hu
      refine hK.out _ _ (hHeld.trans (hb.mono hHeld.size)) (fun hHeld => ?_)
      clear hK K hb
      have GBl := Lib.hid (show w4.heap.size < v8_8.heap.size from GB.out.lt)
      refine rd1 5 (fun K hK => ?_)
      go_simp
      go_at_call 6
      refine (gadd_spec (ND.out.rd R_Disk_ok) (NF.out.rd R_Frame_ok)).mono ?_
      intro e v8_9 h
      rw [HDD.out] at h
      obtain ⟨us, rfl, hu, hb⟩ := newV_elim h
      obtain ⟨ra08_9, rc08_9, rfl, hu⟩ := owc_DiskOut hu
      have hHeld0 := Lib.hid hHeld
      have GB := Lib.hid (GB.out.call hb)
      have OW := Lib.hid (owG_new hu)
      have HTB := Lib.hid (show ∀ k, Rg v8_8.heap.size v8_9.heap.size k → w4.heap.size ≤ k ∧ k ≠ w4.heap.size from fun k hk => ⟨Nat.le_trans hHeld.size hk.1, by have h1 := hk.1; have h2 := GBl.out; omega⟩)
      clear h hu ND NF
      refine hK.out _ _ (hHeld.trans (hb.mono hHeld.size)) (fun hHeld => ?_)
      clear hK K hb
      have GBl := Lib.hid (show w4.heap.size < v8_9.heap.size from GB.out.lt)
      refine rd1 7 (fun K hK => ?_)
      have q0 := GB.out.at_ 0 rfl
      have f0 := GB.out.soft 0
      have q1 := GB.out.at_ 1 rfl
      have f1 := GB.out.soft 1
      have q2 := GB.out.at_ 2 rfl
      have f2 := GB.out.soft 2
      go_simp
      refine hK.out _ _ (((hHeld.setCell (p := ⟨w4.heap.size, 0, none⟩) (by exact HGE.out) (.slice ra08_9 dL0.length rc08_9)).setCell (p := ⟨w4.heap.size, 1, none⟩) (by exact HGE.out) (.int .i64 dx1)).setCell (p := ⟨w4.heap.size, 2, none⟩) (by exact HGE.out) (.int .i64 dx2)) (fun hHeld => ?_)
      clear hK K q0 f0 q1 f1 q2 f2
      refine rd0 ?_
      go_wp2_with fail
      go_meet
      exact ⟨_, _, _, _, rfl, Lib.hid (sets_DiskOut GB.out), Lib.hid (OW.out.off R_DiskOut_ok (soff_DiskOut _ _ _ _ _) (fun k hk h2 => (HTB.out k hk).2 h2)), HTB, HGE, Lib.hid hHeld⟩
  case rest =>
    obtain ⟨gw, ra0w, rc0w, Sw, rfl, HX8, HO8, HT8, HG8, hcb⟩ := hcut
    rename World => w5
    have hb := hcb.out
    have PD_5 := Lib.hid (PD_4.out.call hb)
    have PF_5 := Lib.hid (PF_4.out.call hb)
    have HD_5 := Lib.hid (gmv R_Disk_ok HD_4.out hb)
    have HF_5 := Lib.hid (gmv R_Frame_ok HF_4.out hb)
    have HB5 := Lib.hid (HB4.out.trans ((hb).mono HB4.out.size))
    have HZ5 := Lib.hid ((hb).size)
    clear PD_4 PF_4 HD_4 HF_4 HB4
    clear hb hcb
    have Bw_5 := HX8
    have Yw_5 := HO8
    have HTw := HT8
    have HGw := HG8
    clear HX8 HO8 HT8 HG8
    have HSw := Lib.hid (fun k (hk : Sw k) => (⟨(HTw.out k hk).1, Yw_5.out.2 k hk⟩ : w4.heap.size ≤ k ∧ k < w5.heap.size))
    have HGLw := Lib.hid (show gw < w5.heap.size from Bw_5.out.lt)
    have qPD_0 := PD_5.out.at_ 0 rfl
    have qPD_1 := PD_5.out.at_ 1 rfl
    go_wp2_with fail
    refine (gto_Disk HSZD.out HD_5.out).mono ?_
    intro e w6 h
    obtain ⟨us, rfl, hu, hb⟩ := newV_elim h
    obtain ⟨aD06, cD06, rfl, hu⟩ := owc_Disk hu
    clear qPD_0 qPD_1
    have PD_6 := Lib.hid (PD_5.out.call hb)
    have PF_6 := Lib.hid (PF_5.out.call hb)
    have Bw_6 := Lib.hid (Bw_5.out.call hb)
    have HD_6 := Lib.hid (gmv R_Disk_ok HD_5.out hb)
    have HF_6 := Lib.hid (gmv R_Frame_ok HF_5.out hb)
    have Yw_6 := Lib.hid (Yw_5.out.mv R_DiskOut_ok hb)
    have HB6 := Lib.hid (HB5.out.trans ((hb).mono HB5.out.size))
    have HZ6 := Lib.hid ((hb).size)
    clear PD_5 PF_5 Bw_5 HD_5 HF_5 Yw_5 HB5
    have XD_6 := Lib.hid (owG_new hu)
    have HSD := Lib.hid (fun k (hk : Rg w5.heap.size w6.heap.size k) => hk)
    clear hu
    clear h hb
    have hbA : Below (w6).heap.size (w6) (w6.alloc (.cells #[.slice aD06 DL0.length cD06, .int .i64 Dx1] 31)) := (Below.refl _ _).alloc (Nat.le_refl _) _
    have PD_7 := Lib.hid (PD_6.out.call hbA)
    have PF_7 := Lib.hid (PF_6.out.call hbA)
    have Bw_7 := Lib.hid (Bw_6.out.call hbA)
    have HD_7 := Lib.hid (gmv R_Disk_ok HD_6.out hbA)
    have HF_7 := Lib.hid (gmv R_Frame_ok HF_6.out hbA)
    have Yw_7 := Lib.hid (Yw_6.out.mv R_DiskOut_ok hbA)
    have XD_7 := Lib.hid (XD_6.out.mv R_Disk_ok hbA)
    have HB7 := Lib.hid (HB6.out.trans ((hbA).mono HB6.out.size))
    have HZ7 := Lib.hid ((hbA).size)
    clear PD_6 PF_6 Bw_6 HD_6 HF_6 Yw_6 XD_6 HB6
    have BXD_7 := Blk.new (w6) 31 #[.slice aD06 DL0.length cD06, .int .i64 Dx1]
    have BXDh_7 := Lib.hid BXD_7
    clear BXD_7 hbA
    have HZ8 := Lib.hid ((show (w6.alloc (.cells #[.slice aD06 DL0.length cD06, .int .i64 Dx1] 31)).heap.size = w6.heap.size + 1 by simp))
    obtain ⟨wz7, hwz7⟩ : ∃ w, w = w6.alloc (.cells #[.slice aD06 DL0.length cD06, .int .i64 Dx1] 31) := ⟨_, rfl⟩
    rw [← hwz7] at PD_7 PF_7 Bw_7 BXDh_7 HD_7 HF_7 Yw_7 XD_7 HB7 HZ7 HZ8
    go_wp2_with fail
    rw [← hwz7]
    clear hwz7
    go_upto_region 10 with fail
    go_cut [10] (fun s8 wx => ∃ (gg : Nat) (ra0g : Option Addr) (rc0g : Nat) (Sg : Nat → Prop), s8 = .pointer (some ⟨gg, 0, none⟩) ∧ Hid (Blk wx gg 33 #[.slice ra0g dL0.length rc0g, .int .i64 dx1, .int .i64 dx2]) ∧ Hid (OwG R_DiskOut wx Sg ((dL0, dx1), dx2) [.slice ra0g dL0.length rc0g, .int .i64 dx1, .int .i64 dx2]) ∧ Hid (∀ k, Sg k → wz7.heap.size ≤ k ∧ k ≠ gg) ∧ Hid (wz7.heap.size ≤ gg) ∧ Hid (Below wz7.heap.size wz7 wx))
    case first =>
      refine wp_region_held_drew (S := (fun V => Below wz7.heap.size wz7 V)) (by kernel_rfl) ((Below.refl _ _).drew) (fun hHeld => ?_)
      refine tk 0 hHeld ?_ (hy := fun w hSw => by (try dsimp only at hSw); have k0 := (hSw.cell (p := ⟨w6.heap.size, 0, none⟩) BXDh_7.out.lt).trans (BXDh_7.out.at_ 0 rfl); have k1 := (hSw.cell (p := ⟨w6.heap.size, 1, none⟩) BXDh_7.out.lt).trans (BXDh_7.out.at_ 1 rfl); clear hSw; go_simp; try with_reducible rfl)
      refine tk 1 hHeld ?_
      refine tk 2 hHeld ?_ (hy := fun w hSw => by (try dsimp only at hSw); have k0 := (hSw.cell (p := ⟨(W.heap.size + 1), 0, none⟩) PF_7.out.lt).trans (PF_7.out.at_ 0 rfl); have k1 := (hSw.cell (p := ⟨(W.heap.size + 1), 1, none⟩) PF_7.out.lt).trans (PF_7.out.at_ 1 rfl); clear hSw; go_simp; try with_reducible rfl)
      refine rd2 3 5 (fun K hK => ?_) (fun K hK => ?_)
      · skip
        go_simp
        go_at_call 8
        refine (gto_Frame HSZF.out (gmv R_Frame_ok HF_7.out hHeld)).mono ?_
        intro e v10_1 h
        obtain ⟨us, rfl, hu, hb⟩ := newV_elim h
        obtain ⟨rfl, hu⟩ := owc_Frame hu
        have NF := Lib.hid (owG_new hu)
        clear h hu
        refine hK.out _ _ (hHeld.trans (hb.mono hHeld.size)) (fun hHeld => ?_)
        clear hK K hb
        refine rd2 4 5 (fun K hK => ?_) (fun K hK => ?_)
        · skip
          go_simp
          go_at_call 9
          refine (gadd_impl (HDOOR.out.below (HB7.out.trans (hHeld.mono HB7.out.size)) HDZ.out) (gmv R_Disk_ok (XD_7.out.rd R_Disk_ok) hHeld) (NF.out.rd R_Frame_ok)).mono ?_
          intro e v10_2 h
          rw [HDD.out] at h
          obtain ⟨us, rfl, hu, hb⟩ := newV_elim h
          obtain ⟨ra010_2, rc010_2, rfl, hu⟩ := owc_DiskOut hu
          have hHeld0 := Lib.hid hHeld
          have OW := Lib.hid (owG_new hu)
          clear h hu NF
          refine hK.out _ _ (hHeld.trans (hb.mono hHeld.size)) (fun hHeld => ?_)
          clear hK K hb
          refine rd1 5 (fun K hK => ?_)
          go_simp
          have hb : Below (v10_2).heap.size (v10_2) (v10_2.alloc (.cells #[.slice none 0 0, .int .i64 0, .int .i64 0] 33)) := (Below.refl _ _).alloc (Nat.le_refl _) _
          have OW0 := OW
          have OW := Lib.hid (OW.out.mv R_DiskOut_ok hb)
          have GB := Lib.hid (show Blk (v10_2.alloc (.cells #[.slice none 0 0, .int .i64 0, .int .i64 0] 33)) v10_2.heap.size 33 #[.slice none 0 0, .int .i64 0, .int .i64 0] from Blk.new (v10_2) 33 #[.slice none 0 0, .int .i64 0, .int .i64 0])
          have HGE := Lib.hid (show wz7.heap.size ≤ v10_2.heap.size from hHeld.size)
          have HTB := Lib.hid (show ∀ k, Rg v10_1.heap.size v10_2.heap.size k → wz7.heap.size ≤ k ∧ k ≠ v10_2.heap.size from fun k hk => ⟨Nat.le_trans hHeld0.out.size hk.1, by have := hk.2; omega⟩)
          have hPre := Lib.hid hHeld
          refine hK.out _ _ (hHeld.trans (hb.mono hHeld.size)) (fun hHeld => ?_)
          clear hK K hb
          refine rd1 6 (fun K hK => ?_)
          go_simp
          refine hK.out _ _ (hPre.out.alloc HGE.out (.cells #[.slice ra010_2 dL0.length rc010_2, .int .i64 dx1, .int .i64 dx2] 33)) (fun hHeld => ?_)
          clear hK K
          refine rd0 ?_
          go_wp2_with fail
          go_meet
          exact ⟨_, _, _, _, rfl, Lib.hid (Blk.new v10_2 33 #[.slice ra010_2 dL0.length rc010_2, .int .i64 dx1, .int .i64 dx2]), Lib.hid (OW0.out.mv R_DiskOut_ok ((Below.refl _ _).alloc (Nat.le_refl _) (.cells #[.slice ra010_2 dL0.length rc010_2, .int .i64 dx1, .int .i64 dx2] 33))), HTB, HGE, Lib.hid hHeld⟩
        · skip
          go_simp
          have hb : Below (v10_1).heap.size (v10_1) (v10_1.alloc (.cells #[.slice none 0 0, .int .i64 0, .int .i64 0] 33)) := (Below.refl _ _).alloc (Nat.le_refl _) _
          have NF := Lib.hid (NF.out.mv R_Frame_ok hb)
          have GB := Lib.hid (show Blk (v10_1.alloc (.cells #[.slice none 0 0, .int .i64 0, .int .i64 0] 33)) v10_1.heap.size 33 #[.slice none 0 0, .int .i64 0, .int .i64 0] from Blk.new (v10_1) 33 #[.slice none 0 0, .int .i64 0, .int .i64 0])
          have HGE := Lib.hid (show wz7.heap.size ≤ v10_1.heap.size from hHeld.size)
          refine hK.out _ _ (hHeld.trans (hb.mono hHeld.size)) (fun hHeld => ?_)
          clear hK K hb
          have GBl := Lib.hid (show v10_1.heap.size < (v10_1.alloc (.cells #[.slice none 0 0, .int .i64 0, .int .i64 0] 33)).heap.size from GB.out.lt)
          refine rd1 4 (fun K hK => ?_)
          go_simp
          go_at_call 9
          refine (gadd_impl (HDOOR.out.below (HB7.out.trans (hHeld.mono HB7.out.size)) HDZ.out) (gmv R_Disk_ok (XD_7.out.rd R_Disk_ok) hHeld) (NF.out.rd R_Frame_ok)).mono ?_
          intro e v10_3 h
          rw [HDD.out] at h
          obtain ⟨us, rfl, hu, hb⟩ := newV_elim h
          obtain ⟨ra010_3, rc010_3, rfl, hu⟩ := owc_DiskOut hu
          have hHeld0 := Lib.hid hHeld
          have GB := Lib.hid (GB.out.call hb)
          have OW := Lib.hid (owG_new hu)
          have HTB := Lib.hid (show ∀ k, Rg (v10_1.alloc (.cells #[.slice none 0 0, .int .i64 0, .int .i64 0] 33)).heap.size v10_3.heap.size k → wz7.heap.size ≤ k ∧ k ≠ v10_1.heap.size from fun k hk => ⟨Nat.le_trans hHeld.size hk.1, by have h1 := hk.1; have h2 := GBl.out; omega⟩)
          clear h hu NF
          refine hK.out _ _ (hHeld.trans (hb.mono hHeld.size)) (fun hHeld => ?_)
          clear hK K hb
          have GBl := Lib.hid (show v10_1.heap.size < v10_3.heap.size from GB.out.lt)
          refine rd1 6 (fun K hK => ?_)
          have q0 := GB.out.at_ 0 rfl
          have f0 := GB.out.soft 0
          have q1 := GB.out.at_ 1 rfl
          have f1 := GB.out.soft 1
          have q2 := GB.out.at_ 2 rfl
          have f2 := GB.out.soft 2
          go_simp
          refine hK.out _ _ (((hHeld.setCell (p := ⟨v10_1.heap.size, 0, none⟩) (by exact HGE.out) (.slice ra010_3 dL0.length rc010_3)).setCell (p := ⟨v10_1.heap.size, 1, none⟩) (by exact HGE.out) (.int .i64 dx1)).setCell (p := ⟨v10_1.heap.size, 2, none⟩) (by exact HGE.out) (.int .i64 dx2)) (fun hHeld => ?_)
          clear hK K q0 f0 q1 f1 q2 f2
          refine rd0 ?_
          go_wp2_with fail
          go_meet
          exact ⟨_, _, _, _, rfl, Lib.hid (sets_DiskOut GB.out), Lib.hid (OW.out.off R_DiskOut_ok (soff_DiskOut _ _ _ _ _) (fun k hk h2 => (HTB.out k hk).2 h2)), HTB, HGE, Lib.hid hHeld⟩
      · skip
        go_simp
        have hb : Below (wz7.drew).heap.size (wz7.drew) ((wz7.drew).alloc (.cells #[.slice none 0 0, .int .i64 0, .int .i64 0] 33)) := (Below.refl _ _).alloc (Nat.le_refl _) _
        have GB := Lib.hid (show Blk ((wz7.drew).alloc (.cells #[.slice none 0 0, .int .i64 0, .int .i64 0] 33)) wz7.heap.size 33 #[.slice none 0 0, .int .i64 0, .int .i64 0] from Blk.new (wz7.drew) 33 #[.slice none 0 0, .int .i64 0, .int .i64 0])
        have HGE := Lib.hid (show wz7.heap.size ≤ wz7.heap.size from hHeld.size)
        refine hK.out _ _ (hHeld.trans (hb.mono hHeld.size)) (fun hHeld => ?_)
        clear hK K hb
        have GBl := Lib.hid (show wz7.heap.size < ((wz7.drew).alloc (.cells #[.slice none 0 0, .int .i64 0, .int .i64 0] 33)).heap.size from GB.out.lt)
        refine rd1 3 (fun K hK => ?_)
        go_simp
        go_at_call 8
        refine (gto_Frame HSZF.out (gmv R_Frame_ok HF_7.out hHeld)).mono ?_
        intro e v10_4 h
        obtain ⟨us, rfl, hu, hb⟩ := newV_elim h
        obtain ⟨rfl, hu⟩ := owc_Frame hu
        have GB := Lib.hid (GB.out.call hb)
        have NF := Lib.hid (owG_new hu)
        clear h hu
        refine hK.out _ _ (hHeld.trans (hb.mono hHeld.size)) (fun hHeld => ?_)
        clear hK K hb
        have GBl := Lib.hid (show wz7.heap.size < v10_4.heap.size from GB.out.lt)
        refine rd1 4 (fun K hK => ?_)
        go_simp
        go_at_call 9
        refine (gadd_impl (HDOOR.out.below (HB7.out.trans (hHeld.mono HB7.out.size)) HDZ.out) (gmv R_Disk_ok (XD_7.out.rd R_Disk_ok) hHeld) (NF.out.rd R_Frame_ok)).mono ?_
        intro e v10_5 h
        rw [HDD.out] at h
        obtain ⟨us, rfl, hu, hb⟩ := newV_elim h
        obtain ⟨ra010_5, rc010_5, rfl, hu⟩ := owc_DiskOut hu
        have hHeld0 := Lib.hid hHeld
        have GB := Lib.hid (GB.out.call hb)
        have OW := Lib.hid (owG_new hu)
        have HTB := Lib.hid (show ∀ k, Rg v10_4.heap.size v10_5.heap.size k → wz7.heap.size ≤ k ∧ k ≠ wz7.heap.size from fun k hk => ⟨Nat.le_trans hHeld.size hk.1, by have h1 := hk.1; have h2 := GBl.out; omega⟩)
        clear h hu NF
        refine hK.out _ _ (hHeld.trans (hb.mono hHeld.size)) (fun hHeld => ?_)
        clear hK K hb
        have GBl := Lib.hid (show wz7.heap.size < v10_5.heap.size from GB.out.lt)
        refine rd1 6 (fun K hK => ?_)
        have q0 := GB.out.at_ 0 rfl
        have f0 := GB.out.soft 0
        have q1 := GB.out.at_ 1 rfl
        have f1 := GB.out.soft 1
        have q2 := GB.out.at_ 2 rfl
        have f2 := GB.out.soft 2
        go_simp
        refine hK.out _ _ (((hHeld.setCell (p := ⟨wz7.heap.size, 0, none⟩) (by exact HGE.out) (.slice ra010_5 dL0.length rc010_5)).setCell (p := ⟨wz7.heap.size, 1, none⟩) (by exact HGE.out) (.int .i64 dx1)).setCell (p := ⟨wz7.heap.size, 2, none⟩) (by exact HGE.out) (.int .i64 dx2)) (fun hHeld => ?_)
        clear hK K q0 f0 q1 f1 q2 f2
        refine rd0 ?_
        go_wp2_with fail
        go_meet
        exact ⟨_, _, _, _, rfl, Lib.hid (sets_DiskOut GB.out), Lib.hid (OW.out.off R_DiskOut_ok (soff_DiskOut _ _ _ _ _) (fun k hk h2 => (HTB.out k hk).2 h2)), HTB, HGE, Lib.hid hHeld⟩
    case rest =>
      obtain ⟨gg, ra0g, rc0g, Sg, rfl, HX8, HO8, HT8, HG8, hcb⟩ := hcut
      rename World => w8
      have hb := hcb.out
      have PD_8 := Lib.hid (PD_7.out.call hb)
      have PF_8 := Lib.hid (PF_7.out.call hb)
      have Bw_8 := Lib.hid (Bw_7.out.call hb)
      have BXD_8 := Lib.hid (BXDh_7.out.call hb)
      have HD_8 := Lib.hid (gmv R_Disk_ok HD_7.out hb)
      have HF_8 := Lib.hid (gmv R_Frame_ok HF_7.out hb)
      have Yw_8 := Lib.hid (Yw_7.out.mv R_DiskOut_ok hb)
      have XD_8 := Lib.hid (XD_7.out.mv R_Disk_ok hb)
      have HB8 := Lib.hid (HB7.out.trans ((hb).mono HB7.out.size))
      have HZ9 := Lib.hid ((hb).size)
      clear PD_7 PF_7 Bw_7 BXDh_7 HD_7 HF_7 Yw_7 XD_7 HB7
      clear hb hcb
      have Bg_8 := HX8
      have Yg_8 := HO8
      have HTg := HT8
      have HGg := HG8
      clear HX8 HO8 HT8 HG8
      have HSg := Lib.hid (fun k (hk : Sg k) => (⟨(HTg.out k hk).1, Yg_8.out.2 k hk⟩ : wz7.heap.size ≤ k ∧ k < w8.heap.size))
      have HGLg := Lib.hid (show gg < w8.heap.size from Bg_8.out.lt)
      have qBg_0 := Bg_8.out.at_ 0 rfl
      have qBg_1 := Bg_8.out.at_ 1 rfl
      have qBg_2 := Bg_8.out.at_ 2 rfl
      have qBw_0 := Bw_8.out.at_ 0 rfl
      have qBw_1 := Bw_8.out.at_ 1 rfl
      have qBw_2 := Bw_8.out.at_ 2 rfl
      go_wp2_with fail
      refine (geq_DiskOut (Yg_8.out.rd R_DiskOut_ok) (Yw_8.out.rd R_DiskOut_ok)).mono ?_
      intro e w9 h
      obtain ⟨rfl, hb⟩ := isB_elim h
      clear qBg_0 qBg_1 qBg_2 qBw_0 qBw_1 qBw_2
      have PD_9 := Lib.hid (PD_8.out.call hb)
      have PF_9 := Lib.hid (PF_8.out.call hb)
      have Bw_9 := Lib.hid (Bw_8.out.call hb)
      have BXD_9 := Lib.hid (BXD_8.out.call hb)
      have Bg_9 := Lib.hid (Bg_8.out.call hb)
      have HD_9 := Lib.hid (gmv R_Disk_ok HD_8.out hb)
      have HF_9 := Lib.hid (gmv R_Frame_ok HF_8.out hb)
      have Yw_9 := Lib.hid (Yw_8.out.mv R_DiskOut_ok hb)
      have XD_9 := Lib.hid (XD_8.out.mv R_Disk_ok hb)
      have Yg_9 := Lib.hid (Yg_8.out.mv R_DiskOut_ok hb)
      have HB9 := Lib.hid (HB8.out.trans ((hb).mono HB8.out.size))
      have HZ10 := Lib.hid ((hb).size)
      clear PD_8 PF_8 Bw_8 BXD_8 Bg_8 HD_8 HF_8 Yw_8 XD_8 Yg_8 HB8
      clear h hb
      go_wp2_with fail
      refine wp_region_held_drew (S := (fun V => Below (w9).heap.size (w9) V)) (by kernel_rfl) ((Below.refl _ _).drew) (fun hHeld => ?_)
      refine tk 0 hHeld ?_ (hy := fun w hSw => by (try dsimp only at hSw); have k0 := (hSw.cell (p := ⟨w6.heap.size, 0, none⟩) BXD_9.out.lt).trans (BXD_9.out.at_ 0 rfl); have k1 := (hSw.cell (p := ⟨w6.heap.size, 1, none⟩) BXD_9.out.lt).trans (BXD_9.out.at_ 1 rfl); clear hSw; go_simp; try with_reducible rfl)
      refine tk 1 hHeld ?_ (hy := fun w hSw => by (try dsimp only at hSw); have k0 := (hSw.cell (p := ⟨W.heap.size, 0, none⟩) PD_9.out.lt).trans (PD_9.out.at_ 0 rfl); have k1 := (hSw.cell (p := ⟨W.heap.size, 1, none⟩) PD_9.out.lt).trans (PD_9.out.at_ 1 rfl); clear hSw; go_simp; try with_reducible rfl)
      refine rd1 2 (fun K hK => ?_)
      go_simp
      go_at_call 7
      refine (gto_Disk HSZD.out (gmv R_Disk_ok HD_9.out hHeld)).mono ?_
      intro e w901 h
      obtain ⟨us, rfl, hu, hb⟩ := newV_elim h
      obtain ⟨aD0901, cD0901, rfl, hu⟩ := owc_Disk hu
      have NZ := Lib.hid (owG_new hu)
      clear h hu
      refine hK.out _ _ (hHeld.trans (hb.mono hHeld.size)) (fun hHeld => ?_)
      clear hK K hb
      refine rd1 3 (fun K hK => ?_)
      go_simp
      go_at_call 11
      refine (geq_Disk (gmv R_Disk_ok (XD_9.out.rd R_Disk_ok) hHeld) (NZ.out.rd R_Disk_ok)).mono ?_
      intro e w902 h
      obtain ⟨rfl, hb⟩ := isB_elim h
      clear h
      refine hK.out _ _ (hHeld.trans (hb.mono hHeld.size)) (fun hHeld => ?_)
      clear hK K hb
      refine tk 4 hHeld ?_
      refine rd0 ?_
      have HF := Lib.hid hHeld
      clear hHeld
      have hF := HF.out
      have PD_10 := Lib.hid (PD_9.out.call hF)
      have PF_10 := Lib.hid (PF_9.out.call hF)
      have Bw_10 := Lib.hid (Bw_9.out.call hF)
      have BXD_10 := Lib.hid (BXD_9.out.call hF)
      have Bg_10 := Lib.hid (Bg_9.out.call hF)
      have HD_10 := Lib.hid (gmv R_Disk_ok HD_9.out hF)
      have HF_10 := Lib.hid (gmv R_Frame_ok HF_9.out hF)
      have Yw_10 := Lib.hid (Yw_9.out.mv R_DiskOut_ok hF)
      have XD_10 := Lib.hid (XD_9.out.mv R_Disk_ok hF)
      have Yg_10 := Lib.hid (Yg_9.out.mv R_DiskOut_ok hF)
      have HB10 := Lib.hid (HB9.out.trans ((hF).mono HB9.out.size))
      have HZ11 := Lib.hid ((hF).size)
      clear PD_9 PF_9 Bw_9 BXD_9 Bg_9 HD_9 HF_9 Yw_9 XD_9 Yg_9 HB9
      clear HF hF NZ
      have qBXD_0 := BXD_10.out.at_ 0 rfl
      have qBXD_1 := BXD_10.out.at_ 1 rfl
      go_wp2_with fail
      refine (gmark_Disk (by omega) (by have h1 := HSAD.out; omega) XD_10.out.2 XD_10.out.1).mono ?_
      intro e wm0 h
      obtain ⟨dM0, y0, rfl, hmv, hzz, ho, hoff⟩ := markG_elim h
      clear qBXD_0 qBXD_1
      have HB11 := Lib.hid (HB10.out.trans (hoff.below HB10.out.size (fun k hk => by have zHZ3 := HZ3.out; have zHZ4 := HZ4.out; have zHZ5 := HZ5.out; have zHZ6 := HZ6.out; have zHZ7 := HZ7.out; have zHZ8 := HZ8.out; have zHZ9 := HZ9.out; have zHZ10 := HZ10.out; have zHZ11 := HZ11.out; have yHPL := HPL.out; have yHGLw := HGLw.out; have yHGw := HGw.out; have yHGLg := HGLg.out; have yHGg := HGg.out; have rD := HSD.out _ hk; try unfold Rg at rD; omega)))
      have PD_11 := Lib.hid (PD_10.out.off hoff PD_10.out.lt (fun hk => by have zHZ3 := HZ3.out; have zHZ4 := HZ4.out; have zHZ5 := HZ5.out; have zHZ6 := HZ6.out; have zHZ7 := HZ7.out; have zHZ8 := HZ8.out; have zHZ9 := HZ9.out; have zHZ10 := HZ10.out; have zHZ11 := HZ11.out; have yHPL := HPL.out; have yHGLw := HGLw.out; have yHGw := HGw.out; have yHGLg := HGLg.out; have yHGg := HGg.out; have rD := HSD.out _ hk; try unfold Rg at rD; omega))
      have PF_11 := Lib.hid (PF_10.out.off hoff PF_10.out.lt (fun hk => by have zHZ3 := HZ3.out; have zHZ4 := HZ4.out; have zHZ5 := HZ5.out; have zHZ6 := HZ6.out; have zHZ7 := HZ7.out; have zHZ8 := HZ8.out; have zHZ9 := HZ9.out; have zHZ10 := HZ10.out; have zHZ11 := HZ11.out; have yHPL := HPL.out; have yHGLw := HGLw.out; have yHGw := HGw.out; have yHGLg := HGLg.out; have yHGg := HGg.out; have rD := HSD.out _ hk; try unfold Rg at rD; omega))
      have Bw_11 := Lib.hid (Bw_10.out.off hoff Bw_10.out.lt (fun hk => by have zHZ3 := HZ3.out; have zHZ4 := HZ4.out; have zHZ5 := HZ5.out; have zHZ6 := HZ6.out; have zHZ7 := HZ7.out; have zHZ8 := HZ8.out; have zHZ9 := HZ9.out; have zHZ10 := HZ10.out; have zHZ11 := HZ11.out; have yHPL := HPL.out; have yHGLw := HGLw.out; have yHGw := HGw.out; have yHGLg := HGLg.out; have yHGg := HGg.out; have rD := HSD.out _ hk; try unfold Rg at rD; omega))
      have BXD_11 := Lib.hid (BXD_10.out.off hoff BXD_10.out.lt (fun hk => by have zHZ3 := HZ3.out; have zHZ4 := HZ4.out; have zHZ5 := HZ5.out; have zHZ6 := HZ6.out; have zHZ7 := HZ7.out; have zHZ8 := HZ8.out; have zHZ9 := HZ9.out; have zHZ10 := HZ10.out; have zHZ11 := HZ11.out; have yHPL := HPL.out; have yHGLw := HGLw.out; have yHGw := HGw.out; have yHGLg := HGLg.out; have yHGg := HGg.out; have rD := HSD.out _ hk; try unfold Rg at rD; omega))
      have Bg_11 := Lib.hid (Bg_10.out.off hoff Bg_10.out.lt (fun hk => by have zHZ3 := HZ3.out; have zHZ4 := HZ4.out; have zHZ5 := HZ5.out; have zHZ6 := HZ6.out; have zHZ7 := HZ7.out; have zHZ8 := HZ8.out; have zHZ9 := HZ9.out; have zHZ10 := HZ10.out; have zHZ11 := HZ11.out; have yHPL := HPL.out; have yHGLw := HGLw.out; have yHGw := HGw.out; have yHGLg := HGLg.out; have yHGg := HGg.out; have rD := HSD.out _ hk; try unfold Rg at rD; omega))
      have HD_11 := Lib.hid (gmv R_Disk_ok HD0.out HB11.out)
      have HF_11 := Lib.hid (gmv R_Frame_ok HF0.out HB11.out)
      have Yw_11 := Lib.hid (Yw_10.out.off R_DiskOut_ok hoff (fun k hk hk2 => by have zHZ3 := HZ3.out; have zHZ4 := HZ4.out; have zHZ5 := HZ5.out; have zHZ6 := HZ6.out; have zHZ7 := HZ7.out; have zHZ8 := HZ8.out; have zHZ9 := HZ9.out; have zHZ10 := HZ10.out; have zHZ11 := HZ11.out; have yHPL := HPL.out; have yHGLw := HGLw.out; have yHGw := HGw.out; have yHGLg := HGLg.out; have yHGg := HGg.out; have rD := HSD.out k hk2; try unfold Rg at rD; have rw := HSw.out k hk; try unfold Rg at rw; omega))
      have Yg_11 := Lib.hid (Yg_10.out.off R_DiskOut_ok hoff (fun k hk hk2 => by have zHZ3 := HZ3.out; have zHZ4 := HZ4.out; have zHZ5 := HZ5.out; have zHZ6 := HZ6.out; have zHZ7 := HZ7.out; have zHZ8 := HZ8.out; have zHZ9 := HZ9.out; have zHZ10 := HZ10.out; have zHZ11 := HZ11.out; have yHPL := HPL.out; have yHGLw := HGLw.out; have yHGw := HGw.out; have yHGLg := HGLg.out; have yHGg := HGg.out; have rD := HSD.out k hk2; try unfold Rg at rD; have rg := HSg.out k hk; try unfold Rg at rg; omega))
      have hyl0 : 0 ≤ y0 := by omega
      have hyu0 : y0 ≤ 20000000 := by have h1 := HSAD.out; omega
      have hkn : decide (y0 < 0) = false := decide_eq_false (by omega)
      have HZ12 := Lib.hid (hoff.size)
      clear h hmv hzz ho hoff
      have qBg_0 := Bg_11.out.at_ 0 rfl
      have qBg_1 := Bg_11.out.at_ 1 rfl
      have qBg_2 := Bg_11.out.at_ 2 rfl
      have qBw_0 := Bw_11.out.at_ 0 rfl
      have qBw_1 := Bw_11.out.at_ 1 rfl
      have qBw_2 := Bw_11.out.at_ 2 rfl
      go_wp2_with fail
      refine (geq_DiskOut (Yg_11.out.rd R_DiskOut_ok) (Yw_11.out.rd R_DiskOut_ok)).mono ?_
      intro e w12 h
      obtain ⟨rfl, hb⟩ := isB_elim h
      clear qBg_0 qBg_1 qBg_2 qBw_0 qBw_1 qBw_2
      have PD_12 := Lib.hid (PD_11.out.call hb)
      have PF_12 := Lib.hid (PF_11.out.call hb)
      have Bw_12 := Lib.hid (Bw_11.out.call hb)
      have BXD_12 := Lib.hid (BXD_11.out.call hb)
      have Bg_12 := Lib.hid (Bg_11.out.call hb)
      have HD_12 := Lib.hid (gmv R_Disk_ok HD_11.out hb)
      have HF_12 := Lib.hid (gmv R_Frame_ok HF_11.out hb)
      have Yw_12 := Lib.hid (Yw_11.out.mv R_DiskOut_ok hb)
      have Yg_12 := Lib.hid (Yg_11.out.mv R_DiskOut_ok hb)
      have HB12 := Lib.hid (HB11.out.trans ((hb).mono HB11.out.size))
      have HZ13 := Lib.hid ((hb).size)
      clear PD_11 PF_11 Bw_11 BXD_11 Bg_11 HD_11 HF_11 Yw_11 Yg_11 HB11
      clear h hb
      clear hkn
      have qBg_0 := Bg_12.out.at_ 0 rfl
      have qBg_1 := Bg_12.out.at_ 1 rfl
      have qBg_2 := Bg_12.out.at_ 2 rfl
      go_wp2_with fail
      refine (gmark_DiskOut (by omega) (by have h1 := HSM.out; omega) Yg_12.out.2 Yg_12.out.1).mono ?_
      intro e wn h
      obtain ⟨dN, zN, rfl, hmv, hzz, ho, hoff⟩ := markG_elim h
      clear qBg_0 qBg_1 qBg_2
      have HB13 := Lib.hid (HB12.out.trans (hoff.below HB12.out.size (fun k hk => by have zHZ3 := HZ3.out; have zHZ4 := HZ4.out; have zHZ5 := HZ5.out; have zHZ6 := HZ6.out; have zHZ7 := HZ7.out; have zHZ8 := HZ8.out; have zHZ9 := HZ9.out; have zHZ10 := HZ10.out; have zHZ11 := HZ11.out; have zHZ12 := HZ12.out; have zHZ13 := HZ13.out; have yHPL := HPL.out; have yHGLw := HGLw.out; have yHGw := HGw.out; have yHGLg := HGLg.out; have yHGg := HGg.out; have rg := HSg.out _ hk; try unfold Rg at rg; omega)))
      have PD_13 := Lib.hid (PD_12.out.off hoff PD_12.out.lt (fun hk => by have zHZ3 := HZ3.out; have zHZ4 := HZ4.out; have zHZ5 := HZ5.out; have zHZ6 := HZ6.out; have zHZ7 := HZ7.out; have zHZ8 := HZ8.out; have zHZ9 := HZ9.out; have zHZ10 := HZ10.out; have zHZ11 := HZ11.out; have zHZ12 := HZ12.out; have zHZ13 := HZ13.out; have yHPL := HPL.out; have yHGLw := HGLw.out; have yHGw := HGw.out; have yHGLg := HGLg.out; have yHGg := HGg.out; have rg := HSg.out _ hk; try unfold Rg at rg; omega))
      have PF_13 := Lib.hid (PF_12.out.off hoff PF_12.out.lt (fun hk => by have zHZ3 := HZ3.out; have zHZ4 := HZ4.out; have zHZ5 := HZ5.out; have zHZ6 := HZ6.out; have zHZ7 := HZ7.out; have zHZ8 := HZ8.out; have zHZ9 := HZ9.out; have zHZ10 := HZ10.out; have zHZ11 := HZ11.out; have zHZ12 := HZ12.out; have zHZ13 := HZ13.out; have yHPL := HPL.out; have yHGLw := HGLw.out; have yHGw := HGw.out; have yHGLg := HGLg.out; have yHGg := HGg.out; have rg := HSg.out _ hk; try unfold Rg at rg; omega))
      have Bw_13 := Lib.hid (Bw_12.out.off hoff Bw_12.out.lt (fun hk => by have zHZ3 := HZ3.out; have zHZ4 := HZ4.out; have zHZ5 := HZ5.out; have zHZ6 := HZ6.out; have zHZ7 := HZ7.out; have zHZ8 := HZ8.out; have zHZ9 := HZ9.out; have zHZ10 := HZ10.out; have zHZ11 := HZ11.out; have zHZ12 := HZ12.out; have zHZ13 := HZ13.out; have yHPL := HPL.out; have yHGLw := HGLw.out; have yHGw := HGw.out; have yHGLg := HGLg.out; have yHGg := HGg.out; have rg := HSg.out _ hk; try unfold Rg at rg; omega))
      have BXD_13 := Lib.hid (BXD_12.out.off hoff BXD_12.out.lt (fun hk => by have zHZ3 := HZ3.out; have zHZ4 := HZ4.out; have zHZ5 := HZ5.out; have zHZ6 := HZ6.out; have zHZ7 := HZ7.out; have zHZ8 := HZ8.out; have zHZ9 := HZ9.out; have zHZ10 := HZ10.out; have zHZ11 := HZ11.out; have zHZ12 := HZ12.out; have zHZ13 := HZ13.out; have yHPL := HPL.out; have yHGLw := HGLw.out; have yHGw := HGw.out; have yHGLg := HGLg.out; have yHGg := HGg.out; have rg := HSg.out _ hk; try unfold Rg at rg; omega))
      have Bg_13 := Lib.hid (Bg_12.out.off hoff Bg_12.out.lt (fun hk => by exact (HTg.out _ hk).2 rfl))
      have HD_13 := Lib.hid (gmv R_Disk_ok HD0.out HB13.out)
      have HF_13 := Lib.hid (gmv R_Frame_ok HF0.out HB13.out)
      have Yw_13 := Lib.hid (Yw_12.out.off R_DiskOut_ok hoff (fun k hk hk2 => by have zHZ3 := HZ3.out; have zHZ4 := HZ4.out; have zHZ5 := HZ5.out; have zHZ6 := HZ6.out; have zHZ7 := HZ7.out; have zHZ8 := HZ8.out; have zHZ9 := HZ9.out; have zHZ10 := HZ10.out; have zHZ11 := HZ11.out; have zHZ12 := HZ12.out; have zHZ13 := HZ13.out; have yHPL := HPL.out; have yHGLw := HGLw.out; have yHGw := HGw.out; have yHGLg := HGLg.out; have yHGg := HGg.out; have rg := HSg.out k hk2; try unfold Rg at rg; have rw := HSw.out k hk; try unfold Rg at rw; omega))
      have Yg_13 := Lib.hid (show OwG R_DiskOut wn _ dN _ from ⟨ho, fun k hk => Nat.lt_of_lt_of_le (Yg_12.out.2 k hk) hoff.size⟩)
      have HMV := Lib.hid hmv
      have hzn : decide (zN < 0) = false := decide_eq_false (by omega)
      have hze : (zN != zN) = false := by simp
      have hzb : zN ≤ 4611686018427387904 := by have := HSM.out; omega
      have HZ14 := Lib.hid (hoff.size)
      clear h hmv hzz ho hoff
      have qBg_0 := Bg_13.out.at_ 0 rfl
      have qBg_1 := Bg_13.out.at_ 1 rfl
      have qBg_2 := Bg_13.out.at_ 2 rfl
      go_wp2_with fail
      refine (gheld_DiskOut (by omega) hzb HMV.out (Yg_13.out.rd R_DiskOut_ok)).mono ?_
      intro e w14 h
      obtain ⟨rfl, hb⟩ := heldC_elim h
      clear qBg_0 qBg_1 qBg_2
      have PD_14 := Lib.hid (PD_13.out.call hb)
      have PF_14 := Lib.hid (PF_13.out.call hb)
      have Bw_14 := Lib.hid (Bw_13.out.call hb)
      have BXD_14 := Lib.hid (BXD_13.out.call hb)
      have Bg_14 := Lib.hid (Bg_13.out.call hb)
      have HD_14 := Lib.hid (gmv R_Disk_ok HD_13.out hb)
      have HF_14 := Lib.hid (gmv R_Frame_ok HF_13.out hb)
      have Yw_14 := Lib.hid (Yw_13.out.mv R_DiskOut_ok hb)
      have Yg_14 := Lib.hid (Yg_13.out.mv R_DiskOut_ok hb)
      have HB14 := Lib.hid (HB13.out.trans ((hb).mono HB13.out.size))
      have HZ15 := Lib.hid ((hb).size)
      clear PD_13 PF_13 Bw_13 BXD_13 Bg_13 HD_13 HF_13 Yw_13 Yg_13 HB13
      clear h hb
      go_upto_region 27 with fail
      go_cut [14] (fun s8 wx => ∃ (gh : Nat) (ra0h : Option Addr) (rc0h : Nat) (Sh : Nat → Prop), s8 = .pointer (some ⟨gh, 0, none⟩) ∧ Hid (Blk wx gh 33 #[.slice ra0h dL0.length rc0h, .int .i64 dx1, .int .i64 dx2]) ∧ Hid (OwG R_DiskOut wx Sh ((dL0, dx1), dx2) [.slice ra0h dL0.length rc0h, .int .i64 dx1, .int .i64 dx2]) ∧ Hid (∀ k, Sh k → w14.heap.size ≤ k ∧ k ≠ gh) ∧ Hid (w14.heap.size ≤ gh) ∧ Hid (Below w14.heap.size w14 wx))
      case first =>
        refine wp_region_held_drew (S := (fun V => Below w14.heap.size w14 V)) (by kernel_rfl) ((Below.refl _ _).drew) (fun hHeld => ?_)
        refine tk 0 hHeld ?_ (hy := fun w hSw => by (try dsimp only at hSw); have k0 := (hSw.cell (p := ⟨W.heap.size, 0, none⟩) PD_14.out.lt).trans (PD_14.out.at_ 0 rfl); have k1 := (hSw.cell (p := ⟨W.heap.size, 1, none⟩) PD_14.out.lt).trans (PD_14.out.at_ 1 rfl); clear hSw; go_simp; try with_reducible rfl)
        refine tk 2 hHeld ?_
        refine tk 3 hHeld ?_ (hy := fun w hSw => by (try dsimp only at hSw); have k0 := (hSw.cell (p := ⟨(W.heap.size + 1), 0, none⟩) PF_14.out.lt).trans (PF_14.out.at_ 0 rfl); have k1 := (hSw.cell (p := ⟨(W.heap.size + 1), 1, none⟩) PF_14.out.lt).trans (PF_14.out.at_ 1 rfl); clear hSw; go_simp; try with_reducible rfl)
        refine rd2 1 6 (fun K hK => ?_) (fun K hK => ?_)
        · skip
          go_simp
          go_at_call 7
          refine (gto_Disk HSZD.out (gmv R_Disk_ok HD_14.out hHeld)).mono ?_
          intro e v27_1 h
          obtain ⟨us, rfl, hu, hb⟩ := newV_elim h
          obtain ⟨aD0_27_1, cD0_27_1, rfl, hu⟩ := owc_Disk hu
          have ND := Lib.hid (owG_new hu)
          clear h hu
          refine hK.out _ _ (hHeld.trans (hb.mono hHeld.size)) (fun hHeld => ?_)
          clear hK K hb
          refine rd2 4 6 (fun K hK => ?_) (fun K hK => ?_)
          · skip
            go_simp
            go_at_call 8
            refine (gto_Frame HSZF.out (gmv R_Frame_ok HF_14.out hHeld)).mono ?_
            intro e v27_2 h
            obtain ⟨us, rfl, hu, hb⟩ := newV_elim h
            obtain ⟨rfl, hu⟩ := owc_Frame hu
            have ND := Lib.hid (ND.out.mv R_Disk_ok hb)
            have NF := Lib.hid (owG_new hu)
            clear h hu
            refine hK.out _ _ (hHeld.trans (hb.mono hHeld.size)) (fun hHeld => ?_)
            clear hK K hb
            refine rd2 5 6 (fun K hK => ?_) (fun K hK => ?_)
            · skip
              go_simp
              go_at_call 9
              refine (gadd_impl (HDOOR.out.below (HB14.out.trans (hHeld.mono HB14.out.size)) HDZ.out) (ND.out.rd R_Disk_ok) (NF.out.rd R_Frame_ok)).mono ?_
              intro e v27_3 h
              rw [HDD.out] at h
              obtain ⟨us, rfl, hu, hb⟩ := newV_elim h
              obtain ⟨ra027_3, rc027_3, rfl, hu⟩ := owc_DiskOut hu
              have hHeld0 := Lib.hid hHeld
              have OW := Lib.hid (owG_new hu)
              clear h hu ND NF
              refine hK.out _ _ (hHeld.trans (hb.mono hHeld.size)) (fun hHeld => ?_)
              clear hK K hb
              refine rd1 6 (fun K hK => ?_)
              go_simp
              have hb : Below (v27_3).heap.size (v27_3) (v27_3.alloc (.cells #[.slice none 0 0, .int .i64 0, .int .i64 0] 33)) := (Below.refl _ _).alloc (Nat.le_refl _) _
              have OW0 := OW
              have OW := Lib.hid (OW.out.mv R_DiskOut_ok hb)
              have GB := Lib.hid (show Blk (v27_3.alloc (.cells #[.slice none 0 0, .int .i64 0, .int .i64 0] 33)) v27_3.heap.size 33 #[.slice none 0 0, .int .i64 0, .int .i64 0] from Blk.new (v27_3) 33 #[.slice none 0 0, .int .i64 0, .int .i64 0])
              have HGE := Lib.hid (show w14.heap.size ≤ v27_3.heap.size from hHeld.size)
              have HTB := Lib.hid (show ∀ k, Rg v27_2.heap.size v27_3.heap.size k → w14.heap.size ≤ k ∧ k ≠ v27_3.heap.size from fun k hk => ⟨Nat.le_trans hHeld0.out.size hk.1, by have := hk.2; omega⟩)
              have hPre := Lib.hid hHeld
              refine hK.out _ _ (hHeld.trans (hb.mono hHeld.size)) (fun hHeld => ?_)
              clear hK K hb
              refine rd1 7 (fun K hK => ?_)
              go_simp
              refine hK.out _ _ (hPre.out.alloc HGE.out (.cells #[.slice ra027_3 dL0.length rc027_3, .int .i64 dx1, .int .i64 dx2] 33)) (fun hHeld => ?_)
              clear hK K
              refine rd0 ?_
              go_wp2_with fail
              go_meet
              exact ⟨_, _, _, _, rfl, Lib.hid (Blk.new v27_3 33 #[.slice ra027_3 dL0.length rc027_3, .int .i64 dx1, .int .i64 dx2]), Lib.hid (OW0.out.mv R_DiskOut_ok ((Below.refl _ _).alloc (Nat.le_refl _) (.cells #[.slice ra027_3 dL0.length rc027_3, .int .i64 dx1, .int .i64 dx2] 33))), HTB, HGE, Lib.hid hHeld⟩
            · skip
              go_simp
              have hb : Below (v27_2).heap.size (v27_2) (v27_2.alloc (.cells #[.slice none 0 0, .int .i64 0, .int .i64 0] 33)) := (Below.refl _ _).alloc (Nat.le_refl _) _
              have ND := Lib.hid (ND.out.mv R_Disk_ok hb)
              have NF := Lib.hid (NF.out.mv R_Frame_ok hb)
              have GB := Lib.hid (show Blk (v27_2.alloc (.cells #[.slice none 0 0, .int .i64 0, .int .i64 0] 33)) v27_2.heap.size 33 #[.slice none 0 0, .int .i64 0, .int .i64 0] from Blk.new (v27_2) 33 #[.slice none 0 0, .int .i64 0, .int .i64 0])
              have HGE := Lib.hid (show w14.heap.size ≤ v27_2.heap.size from hHeld.size)
              refine hK.out _ _ (hHeld.trans (hb.mono hHeld.size)) (fun hHeld => ?_)
              clear hK K hb
              have GBl := Lib.hid (show v27_2.heap.size < (v27_2.alloc (.cells #[.slice none 0 0, .int .i64 0, .int .i64 0] 33)).heap.size from GB.out.lt)
              refine rd1 5 (fun K hK => ?_)
              go_simp
              go_at_call 9
              refine (gadd_impl (HDOOR.out.below (HB14.out.trans (hHeld.mono HB14.out.size)) HDZ.out) (ND.out.rd R_Disk_ok) (NF.out.rd R_Frame_ok)).mono ?_
              intro e v27_4 h
              rw [HDD.out] at h
              obtain ⟨us, rfl, hu, hb⟩ := newV_elim h
              obtain ⟨ra027_4, rc027_4, rfl, hu⟩ := owc_DiskOut hu
              have hHeld0 := Lib.hid hHeld
              have GB := Lib.hid (GB.out.call hb)
              have OW := Lib.hid (owG_new hu)
              have HTB := Lib.hid (show ∀ k, Rg (v27_2.alloc (.cells #[.slice none 0 0, .int .i64 0, .int .i64 0] 33)).heap.size v27_4.heap.size k → w14.heap.size ≤ k ∧ k ≠ v27_2.heap.size from fun k hk => ⟨Nat.le_trans hHeld.size hk.1, by have h1 := hk.1; have h2 := GBl.out; omega⟩)
              clear h hu ND NF
              refine hK.out _ _ (hHeld.trans (hb.mono hHeld.size)) (fun hHeld => ?_)
              clear hK K hb
              have GBl := Lib.hid (show v27_2.heap.size < v27_4.heap.size from GB.out.lt)
              refine rd1 7 (fun K hK => ?_)
              have q0 := GB.out.at_ 0 rfl
              have f0 := GB.out.soft 0
              have q1 := GB.out.at_ 1 rfl
              have f1 := GB.out.soft 1
              have q2 := GB.out.at_ 2 rfl
              have f2 := GB.out.soft 2
              go_simp
              refine hK.out _ _ (((hHeld.setCell (p := ⟨v27_2.heap.size, 0, none⟩) (by exact HGE.out) (.slice ra027_4 dL0.length rc027_4)).setCell (p := ⟨v27_2.heap.size, 1, none⟩) (by exact HGE.out) (.int .i64 dx1)).setCell (p := ⟨v27_2.heap.size, 2, none⟩) (by exact HGE.out) (.int .i64 dx2)) (fun hHeld => ?_)
              clear hK K q0 f0 q1 f1 q2 f2
              refine rd0 ?_
              go_wp2_with fail
              go_meet
              exact ⟨_, _, _, _, rfl, Lib.hid (sets_DiskOut GB.out), Lib.hid (OW.out.off R_DiskOut_ok (soff_DiskOut _ _ _ _ _) (fun k hk h2 => (HTB.out k hk).2 h2)), HTB, HGE, Lib.hid hHeld⟩
          · skip
            go_simp
            have hb : Below (v27_1).heap.size (v27_1) (v27_1.alloc (.cells #[.slice none 0 0, .int .i64 0, .int .i64 0] 33)) := (Below.refl _ _).alloc (Nat.le_refl _) _
            have ND := Lib.hid (ND.out.mv R_Disk_ok hb)
            have GB := Lib.hid (show Blk (v27_1.alloc (.cells #[.slice none 0 0, .int .i64 0, .int .i64 0] 33)) v27_1.heap.size 33 #[.slice none 0 0, .int .i64 0, .int .i64 0] from Blk.new (v27_1) 33 #[.slice none 0 0, .int .i64 0, .int .i64 0])
            have HGE := Lib.hid (show w14.heap.size ≤ v27_1.heap.size from hHeld.size)
            refine hK.out _ _ (hHeld.trans (hb.mono hHeld.size)) (fun hHeld => ?_)
            clear hK K hb
            have GBl := Lib.hid (show v27_1.heap.size < (v27_1.alloc (.cells #[.slice none 0 0, .int .i64 0, .int .i64 0] 33)).heap.size from GB.out.lt)
            refine rd1 4 (fun K hK => ?_)
            go_simp
            go_at_call 8
            refine (gto_Frame HSZF.out (gmv R_Frame_ok HF_14.out hHeld)).mono ?_
            intro e v27_5 h
            obtain ⟨us, rfl, hu, hb⟩ := newV_elim h
            obtain ⟨rfl, hu⟩ := owc_Frame hu
            have ND := Lib.hid (ND.out.mv R_Disk_ok hb)
            have GB := Lib.hid (GB.out.call hb)
            have NF := Lib.hid (owG_new hu)
            clear h hu
            refine hK.out _ _ (hHeld.trans (hb.mono hHeld.size)) (fun hHeld => ?_)
            clear hK K hb
            have GBl := Lib.hid (show v27_1.heap.size < v27_5.heap.size from GB.out.lt)
            refine rd1 5 (fun K hK => ?_)
            go_simp
            go_at_call 9
            refine (gadd_impl (HDOOR.out.below (HB14.out.trans (hHeld.mono HB14.out.size)) HDZ.out) (ND.out.rd R_Disk_ok) (NF.out.rd R_Frame_ok)).mono ?_
            intro e v27_6 h
            rw [HDD.out] at h
            obtain ⟨us, rfl, hu, hb⟩ := newV_elim h
            obtain ⟨ra027_6, rc027_6, rfl, hu⟩ := owc_DiskOut hu
            have hHeld0 := Lib.hid hHeld
            have GB := Lib.hid (GB.out.call hb)
            have OW := Lib.hid (owG_new hu)
            have HTB := Lib.hid (show ∀ k, Rg v27_5.heap.size v27_6.heap.size k → w14.heap.size ≤ k ∧ k ≠ v27_1.heap.size from fun k hk => ⟨Nat.le_trans hHeld.size hk.1, by have h1 := hk.1; have h2 := GBl.out; omega⟩)
            clear h hu ND NF
            refine hK.out _ _ (hHeld.trans (hb.mono hHeld.size)) (fun hHeld => ?_)
            clear hK K hb
            have GBl := Lib.hid (show v27_1.heap.size < v27_6.heap.size from GB.out.lt)
            refine rd1 7 (fun K hK => ?_)
            have q0 := GB.out.at_ 0 rfl
            have f0 := GB.out.soft 0
            have q1 := GB.out.at_ 1 rfl
            have f1 := GB.out.soft 1
            have q2 := GB.out.at_ 2 rfl
            have f2 := GB.out.soft 2
            go_simp
            refine hK.out _ _ (((hHeld.setCell (p := ⟨v27_1.heap.size, 0, none⟩) (by exact HGE.out) (.slice ra027_6 dL0.length rc027_6)).setCell (p := ⟨v27_1.heap.size, 1, none⟩) (by exact HGE.out) (.int .i64 dx1)).setCell (p := ⟨v27_1.heap.size, 2, none⟩) (by exact HGE.out) (.int .i64 dx2)) (fun hHeld => ?_)
            clear hK K q0 f0 q1 f1 q2 f2
            refine rd0 ?_
            go_wp2_with fail
            go_meet
            exact ⟨_, _, _, _, rfl, Lib.hid (sets_DiskOut GB.out), Lib.hid (OW.out.off R_DiskOut_ok (soff_DiskOut _ _ _ _ _) (fun k hk h2 => (HTB.out k hk).2 h2)), HTB, HGE, Lib.hid hHeld⟩
        · skip
          go_simp
          have hb : Below (w14.drew).heap.size (w14.drew) ((w14.drew).alloc (.cells #[.slice none 0 0, .int .i64 0, .int .i64 0] 33)) := (Below.refl _ _).alloc (Nat.le_refl _) _
          have GB := Lib.hid (show Blk ((w14.drew).alloc (.cells #[.slice none 0 0, .int .i64 0, .int .i64 0] 33)) w14.heap.size 33 #[.slice none 0 0, .int .i64 0, .int .i64 0] from Blk.new (w14.drew) 33 #[.slice none 0 0, .int .i64 0, .int .i64 0])
          have HGE := Lib.hid (show w14.heap.size ≤ w14.heap.size from hHeld.size)
          refine hK.out _ _ (hHeld.trans (hb.mono hHeld.size)) (fun hHeld => ?_)
          clear hK K hb
          have GBl := Lib.hid (show w14.heap.size < ((w14.drew).alloc (.cells #[.slice none 0 0, .int .i64 0, .int .i64 0] 33)).heap.size from GB.out.lt)
          refine rd1 1 (fun K hK => ?_)
          go_simp
          go_at_call 7
          refine (gto_Disk HSZD.out (gmv R_Disk_ok HD_14.out hHeld)).mono ?_
          intro e v27_7 h
          obtain ⟨us, rfl, hu, hb⟩ := newV_elim h
          obtain ⟨aD0_27_7, cD0_27_7, rfl, hu⟩ := owc_Disk hu
          have GB := Lib.hid (GB.out.call hb)
          have ND := Lib.hid (owG_new hu)
          clear h hu
          refine hK.out _ _ (hHeld.trans (hb.mono hHeld.size)) (fun hHeld => ?_)
          clear hK K hb
          have GBl := Lib.hid (show w14.heap.size < v27_7.heap.size from GB.out.lt)
          refine rd1 4 (fun K hK => ?_)
          go_simp
          go_at_call 8
          refine (gto_Frame HSZF.out (gmv R_Frame_ok HF_14.out hHeld)).mono ?_
          intro e v27_8 h
          obtain ⟨us, rfl, hu, hb⟩ := newV_elim h
          obtain ⟨rfl, hu⟩ := owc_Frame hu
          have ND := Lib.hid (ND.out.mv R_Disk_ok hb)
          have GB := Lib.hid (GB.out.call hb)
          have NF := Lib.hid (owG_new hu)
          clear h hu
          refine hK.out _ _ (hHeld.trans (hb.mono hHeld.size)) (fun hHeld => ?_)
          clear hK K hb
          have GBl := Lib.hid (show w14.heap.size < v27_8.heap.size from GB.out.lt)
          refine rd1 5 (fun K hK => ?_)
          go_simp
          go_at_call 9
          refine (gadd_impl (HDOOR.out.below (HB14.out.trans (hHeld.mono HB14.out.size)) HDZ.out) (ND.out.rd R_Disk_ok) (NF.out.rd R_Frame_ok)).mono ?_
          intro e v27_9 h
          rw [HDD.out] at h
          obtain ⟨us, rfl, hu, hb⟩ := newV_elim h
          obtain ⟨ra027_9, rc027_9, rfl, hu⟩ := owc_DiskOut hu
          have hHeld0 := Lib.hid hHeld
          have GB := Lib.hid (GB.out.call hb)
          have OW := Lib.hid (owG_new hu)
          have HTB := Lib.hid (show ∀ k, Rg v27_8.heap.size v27_9.heap.size k → w14.heap.size ≤ k ∧ k ≠ w14.heap.size from fun k hk => ⟨Nat.le_trans hHeld.size hk.1, by have h1 := hk.1; have h2 := GBl.out; omega⟩)
          clear h hu ND NF
          refine hK.out _ _ (hHeld.trans (hb.mono hHeld.size)) (fun hHeld => ?_)
          clear hK K hb
          have GBl := Lib.hid (show w14.heap.size < v27_9.heap.size from GB.out.lt)
          refine rd1 7 (fun K hK => ?_)
          have q0 := GB.out.at_ 0 rfl
          have f0 := GB.out.soft 0
          have q1 := GB.out.at_ 1 rfl
          have f1 := GB.out.soft 1
          have q2 := GB.out.at_ 2 rfl
          have f2 := GB.out.soft 2
          go_simp
          refine hK.out _ _ (((hHeld.setCell (p := ⟨w14.heap.size, 0, none⟩) (by exact HGE.out) (.slice ra027_9 dL0.length rc027_9)).setCell (p := ⟨w14.heap.size, 1, none⟩) (by exact HGE.out) (.int .i64 dx1)).setCell (p := ⟨w14.heap.size, 2, none⟩) (by exact HGE.out) (.int .i64 dx2)) (fun hHeld => ?_)
          clear hK K q0 f0 q1 f1 q2 f2
          refine rd0 ?_
          go_wp2_with fail
          go_meet
          exact ⟨_, _, _, _, rfl, Lib.hid (sets_DiskOut GB.out), Lib.hid (OW.out.off R_DiskOut_ok (soff_DiskOut _ _ _ _ _) (fun k hk h2 => (HTB.out k hk).2 h2)), HTB, HGE, Lib.hid hHeld⟩
      case rest =>
        obtain ⟨gh, ra0h, rc0h, Sh, rfl, HX8, HO8, HT8, HG8, hcb⟩ := hcut
        rename World => w15
        have hb := hcb.out
        have PD_15 := Lib.hid (PD_14.out.call hb)
        have PF_15 := Lib.hid (PF_14.out.call hb)
        have Bw_15 := Lib.hid (Bw_14.out.call hb)
        have BXD_15 := Lib.hid (BXD_14.out.call hb)
        have Bg_15 := Lib.hid (Bg_14.out.call hb)
        have HD_15 := Lib.hid (gmv R_Disk_ok HD_14.out hb)
        have HF_15 := Lib.hid (gmv R_Frame_ok HF_14.out hb)
        have Yw_15 := Lib.hid (Yw_14.out.mv R_DiskOut_ok hb)
        have Yg_15 := Lib.hid (Yg_14.out.mv R_DiskOut_ok hb)
        have HB15 := Lib.hid (HB14.out.trans ((hb).mono HB14.out.size))
        have HZ16 := Lib.hid ((hb).size)
        clear PD_14 PF_14 Bw_14 BXD_14 Bg_14 HD_14 HF_14 Yw_14 Yg_14 HB14
        clear hb hcb
        have Bh_15 := HX8
        have Yh_15 := HO8
        have HTh := HT8
        have HGh := HG8
        clear HX8 HO8 HT8 HG8
        have HSh := Lib.hid (fun k (hk : Sh k) => (⟨(HTh.out k hk).1, Yh_15.out.2 k hk⟩ : w14.heap.size ≤ k ∧ k < w15.heap.size))
        have HGLh := Lib.hid (show gh < w15.heap.size from Bh_15.out.lt)
        have qBh_0 := Bh_15.out.at_ 0 rfl
        have qBh_1 := Bh_15.out.at_ 1 rfl
        have qBh_2 := Bh_15.out.at_ 2 rfl
        have qBw_0 := Bw_15.out.at_ 0 rfl
        have qBw_1 := Bw_15.out.at_ 1 rfl
        have qBw_2 := Bw_15.out.at_ 2 rfl
        go_wp2_with fail
        refine (geq_DiskOut (Yh_15.out.rd R_DiskOut_ok) (Yw_15.out.rd R_DiskOut_ok)).mono ?_
        intro e w16 h
        obtain ⟨rfl, hb⟩ := isB_elim h
        clear qBh_0 qBh_1 qBh_2 qBw_0 qBw_1 qBw_2
        have PD_16 := Lib.hid (PD_15.out.call hb)
        have PF_16 := Lib.hid (PF_15.out.call hb)
        have Bw_16 := Lib.hid (Bw_15.out.call hb)
        have BXD_16 := Lib.hid (BXD_15.out.call hb)
        have Bg_16 := Lib.hid (Bg_15.out.call hb)
        have Bh_16 := Lib.hid (Bh_15.out.call hb)
        have HD_16 := Lib.hid (gmv R_Disk_ok HD_15.out hb)
        have HF_16 := Lib.hid (gmv R_Frame_ok HF_15.out hb)
        have Yw_16 := Lib.hid (Yw_15.out.mv R_DiskOut_ok hb)
        have Yg_16 := Lib.hid (Yg_15.out.mv R_DiskOut_ok hb)
        have Yh_16 := Lib.hid (Yh_15.out.mv R_DiskOut_ok hb)
        have HB16 := Lib.hid (HB15.out.trans ((hb).mono HB15.out.size))
        have HZ17 := Lib.hid ((hb).size)
        clear PD_15 PF_15 Bw_15 BXD_15 Bg_15 Bh_15 HD_15 HF_15 Yw_15 Yg_15 Yh_15 HB15
        clear h hb
        have qBg_0 := Bg_16.out.at_ 0 rfl
        have qBg_1 := Bg_16.out.at_ 1 rfl
        have qBg_2 := Bg_16.out.at_ 2 rfl
        go_wp2_with fail
        refine (gheld_DiskOut (by omega) hzb HMV.out (Yg_16.out.rd R_DiskOut_ok)).mono ?_
        intro e w17 h
        obtain ⟨rfl, hb⟩ := heldC_elim h
        clear qBg_0 qBg_1 qBg_2
        have PD_17 := Lib.hid (PD_16.out.call hb)
        have PF_17 := Lib.hid (PF_16.out.call hb)
        have Bw_17 := Lib.hid (Bw_16.out.call hb)
        have BXD_17 := Lib.hid (BXD_16.out.call hb)
        have Bg_17 := Lib.hid (Bg_16.out.call hb)
        have Bh_17 := Lib.hid (Bh_16.out.call hb)
        have HD_17 := Lib.hid (gmv R_Disk_ok HD_16.out hb)
        have HF_17 := Lib.hid (gmv R_Frame_ok HF_16.out hb)
        have Yw_17 := Lib.hid (Yw_16.out.mv R_DiskOut_ok hb)
        have Yg_17 := Lib.hid (Yg_16.out.mv R_DiskOut_ok hb)
        have Yh_17 := Lib.hid (Yh_16.out.mv R_DiskOut_ok hb)
        have HB17 := Lib.hid (HB16.out.trans ((hb).mono HB16.out.size))
        have HZ18 := Lib.hid ((hb).size)
        clear PD_16 PF_16 Bw_16 BXD_16 Bg_16 Bh_16 HD_16 HF_16 Yw_16 Yg_16 Yh_16 HB16
        clear h hb
        go_wp2
        go_ret
        exact ⟨rfl, HB17.out⟩
end Go.Proofs.YtdedomfocljhaaaGreatDoor.RepC
