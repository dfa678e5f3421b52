/- GetNum in the program: its contract; the law on GetNum. -/
import Derived.Test.YtdedomfocljhaaaGreatDoorGroups
namespace Go.Proofs.YtdedomfocljhaaaGreatDoor.GetC
open Go.RowKit GetM AsC

theorem bv_nat {x : Nat} (h : x < 18446744073709551616) : (BitVec.ofInt 64 (x : Int)).toNat = x := by
  rw [BitVec.ofInt_natCast, BitVec.toNat_ofNat]; exact Nat.mod_eq_of_lt (by omega)
theorem xor_i64_0 {x : Nat} (h : x < 9223372036854775808) : bits .xor .i64 (x : Int) 0 = (x : Int) := by
  show IntKind.i64.wrap ((BitVec.ofInt 64 (x : Int) ^^^ BitVec.ofInt 64 0).toNat : Int) = _
  rw [BitVec.toNat_xor, bv_nat (by omega), show (BitVec.ofInt 64 0).toNat = 0 by decide, Nat.xor_zero]
  simp only [IntKind.wrap, IntKind.bits, IntKind.signed]
  simp
  omega
theorem xor_i64_m1 {x : Nat} (h : x < 9223372036854775808) : bits .xor .i64 (x : Int) (-1) = -(x : Int) - 1 := by
  show IntKind.i64.wrap ((BitVec.ofInt 64 (x : Int) ^^^ BitVec.ofInt 64 (-1)).toNat : Int) = _
  rw [show BitVec.ofInt 64 (-1) = BitVec.allOnes 64 by decide, BitVec.xor_allOnes, BitVec.toNat_not, bv_nat (by omega)]
  simp only [IntKind.wrap, IntKind.bits, IntKind.signed]
  simp
  omega
theorem unf_form {y : Nat} (hy : y < 18446744073709551616) :
    bits .xor .i64 ((y : Int) / 2) (wrap64 (-wrap64 (bits .and .u64 (y : Int) 1))) = unf y := by
  have e1 : bits .and .u64 (y : Int) 1 = ((y % 2 : Nat) : Int) := by
    rw [show (1 : Int) = ((1 : Nat) : Int) by rfl, bits_and_u64_nat _ _ hy (by omega), Nat.and_one_is_mod]
  have e2 : (y : Int) / 2 = ((y / 2 : Nat) : Int) := by omega
  rw [e1, e2]
  by_cases h : y % 2 = 0
  · rw [h, unf_even h, show wrap64 (-wrap64 ((0 : Nat) : Int)) = 0 by simp [wrap64]]
    exact xor_i64_0 (by omega)
  · rw [show y % 2 = 1 by omega, unf_odd h, show wrap64 (-wrap64 ((1 : Nat) : Int)) = -1 by simp [wrap64]]
    exact xor_i64_m1 (by omega)
theorem ret_int {k : IntKind} {a b : Int} (h : a = b) : Ending.returned (.int k a) = .returned (.int k b) := by rw [h]

theorem unfold_any (y : Nat) (w : World) (hy : y < 18446744073709551616) :
    Calls Tryz.prog 82 #[.int .u64 y] w fun e w' => e = .returned (.int .i64 (unf y)) ∧ w = w' := by
  go_enter Tryz.func82, Tryz.ntmps82
  go_wp2
  go_ret
  exact ⟨ret_int (unf_form hy), rfl⟩

theorem groups_ok {s : ByteArray} {a y n : Nat} (h : gotOf s a = ⟨0, y, n⟩) (w : World) (hs : s.size ≤ 8000) (ha : a ≤ 9223372036854775807) :
    Calls Tryz.prog 80 #[.string s, .int .i64 a] w fun e w' => e = .returned (.tuple #[.int .u64 y, .int .i64 ((a : Int) + n), .nilIface]) ∧ w = w' := by
  have := groups_any s a w hs ha
  rw [grpV_ok h] at this
  exact this
theorem groups_bad {s : ByteArray} {a : Nat} {c : Int} (hc : c ≠ 0) (h : gotOf s a = ⟨c, 0, 0⟩) (w : World) (hs : s.size ≤ 8000) (ha : a ≤ 9223372036854775807) :
    Calls Tryz.prog 80 #[.string s, .int .i64 a] w fun e w' => e = .returned (.tuple #[.int .u64 0, .int .i64 0, .iface 114 (.agg #[.int .i64 c])]) ∧ w = w' := by
  have := groups_any s a w hs ha
  rw [grpV_bad hc h] at this
  exact this

/-- what the tie of errors.errorType gives -/
def Door (w : World) : Prop := w.cell? ⟨0, 0, none⟩ = some (.iface 132 (.agg #[.pointer (some ⟨1, 110, none⟩)]))
theorem Door.lt {w : World} (h : Door w) : 0 < w.heap.size := World.block_lt_of_cell? w ⟨0, 0, none⟩ h
theorem Door.alloc {w : World} (h : Door w) (o : Obj) : Door (w.alloc o) := by
  unfold Door at *
  rw [World.cell?_alloc_lt _ _ ⟨0, 0, none⟩ (Door.lt h)]; exact h
theorem Door.below {W w w' : World} (h : Door w) (hb : Below W.heap.size w w') (hW : 0 < W.heap.size) : Door w' := (hb.cell (p := ⟨0, 0, none⟩) hW).trans h
theorem got_bd (s : ByteArray) (a : Nat) : (gotOf s a).u < 18446744073709551616 ∧ (gotOf s a).used ≤ s.size ∧ ((gotOf s a).code = 0 ∨ (gotOf s a).code = 3 ∨ (gotOf s a).code = 4) ∧ (¬ (gotOf s a).code = 0 → (gotOf s a).u = 0 ∧ (gotOf s a).used = 0) := by
  have := dec_bd (s.data.toList.drop a) 0 0 (by omega) (by simp)
  simp only [List.length_drop] at this
  have hl : s.data.toList.length = s.size := by simp
  unfold gotOf
  refine ⟨this.1, by omega, this.2.2.1, this.2.2.2⟩
theorem got_end {s : ByteArray} {a y n : Nat} (h : gotOf s a = ⟨0, y, n⟩) : a + n ≤ s.size ∧ y < 18446744073709551616 := by
  have := dec_bd (s.data.toList.drop a) 0 0 (by omega) (by simp)
  unfold gotOf at h
  rw [h] at this
  simp only [List.length_drop] at this
  have hl : s.data.toList.length = s.size := by simp
  by_cases ha : a ≤ s.size
  · refine ⟨by omega, this.1⟩
  · rw [List.drop_of_length_le (by omega), dec_nil] at h
    have := congrArg Got.code h
    simp at this

set_option maxRecDepth 100000 in
set_option maxHeartbeats 1000000 in
theorem impl_in (s : ByteArray) (a : Nat) (w : World) (hs : s.size ≤ 8000) (ha : a ≤ 9223372036854775807) (hD : Door w) :
    Calls Tryz.prog 77 #[.string s, .int .i64 a] w fun e w' => e = .returned (getV s a) ∧ Below w.heap.size w w' := by
  have hg := got_bd s a
  obtain ⟨c, y, n, hgot⟩ : ∃ c y n, gotOf s a = ⟨c, y, n⟩ := ⟨_, _, _, rfl⟩
  rw [hgot] at hg
  simp only at hg
  have HG := Lib.hid hgot
  by_cases hc : c = 0
  · subst hc
    have he := got_end hgot
    have HF := Lib.hid (getV_ok hs hgot)
    clear hgot hg
    go_enter Tryz.func77, Tryz.ntmps77
    go_wp2_with (first | (go_at_call 80; refine (groups_ok HG.out _ hs ha).mono ?_; rintro e w' ⟨rfl, rfl⟩) | (go_at_call 81; refine (as_nil _ _).mono ?_; rintro e w' ⟨rfl, rfl⟩) | (go_at_call 82; refine (unfold_any _ _ he.2).mono ?_; rintro e w' ⟨rfl, rfl⟩))
    exact bodyPost_ret (v := numV (unf y) ((a : Int) + n) 0) (by simp [results, Tryz.results77, go_sem, numV]) rfl ⟨ret_v HF.out.symm, ((Below.refl _ _).alloc (Nat.le_refl _) _).alloc (by simp) _⟩
  · obtain ⟨rfl, rfl⟩ := hg.2.2.2 hc
    have HF := Lib.hid (getV_bad hs hc hgot)
    clear hgot hg
    go_enter Tryz.func77, Tryz.ntmps77
    go_wp2_with fail
    refine (groups_bad hc HG.out _ hs ha).mono ?_
    rintro e w' ⟨rfl, rfl⟩
    go_wp2_with fail
    refine (as_hit_below c _ (.int .i64 0) _ ((hD.alloc _).alloc _) (by simp) (by simp)).mono ?_
    rintro e w2 ⟨rfl, hb, hcell, hsz⟩
    have d0 := hb.cell (p := ⟨w.heap.size, 0, none⟩) (by simp)
    have d1 := hb.cell (p := ⟨w.heap.size, 1, none⟩) (by simp)
    have d2 := hb.cell (p := ⟨w.heap.size, 2, none⟩) (by simp)
    have f0 := hb.frozen (p := ⟨w.heap.size, 0, none⟩) (by simp)
    have f1 := hb.frozen (p := ⟨w.heap.size, 1, none⟩) (by simp)
    have f2 := hb.frozen (p := ⟨w.heap.size, 2, none⟩) (by simp)
    simp at d0 d1 d2 f0 f1 f2
    have HB : Hid (Below w.heap.size w w2) := Lib.hid ((((Below.refl _ _).alloc (Nat.le_refl _) _).alloc (by simp) _).trans (hb.mono (by simp)))
    clear hb hsz
    go_wp2
    exact bodyPost_ret (v := numV 0 0 c) (by simp [results, Tryz.results77, go_sem, numV, d0, d1, d2]) rfl ⟨ret_v HF.out.symm, ((HB.out.setCell (Nat.le_refl _) _).setCell (Nat.le_refl _) _).setCell (Nat.le_refl _) _⟩

set_option maxRecDepth 100000 in
theorem impl_any (s : ByteArray) (a : Int) (w : World) (hs : s.size ≤ maxLen) (ha : a ≤ 9223372036854775807) (hD : Door w) :
    Calls Tryz.prog 77 #[.string s, .int .i64 a] w fun e w' => e = .returned (getV s a) ∧ Below w.heap.size w w' := by
  unfold maxLen at hs
  by_cases h : s.size ≤ 8000
  · by_cases h0 : 0 ≤ a
    · obtain ⟨n, rfl⟩ := Int.eq_ofNat_of_zero_le h0
      exact impl_in s n w h (by omega) hD
    · have HF : Hid (getV s a = numV 0 0 1) := Lib.hid (by unfold getV; rw [if_pos h, if_neg h0])
      go_enter Tryz.func77, Tryz.ntmps77
      go_wp2
      exact bodyPost_ret (v := numV 0 0 1) (by simp [results, Tryz.results77, go_sem, numV]) rfl ⟨ret_v HF.out.symm, (Below.refl _ _).alloc (Nat.le_refl _) _⟩
  · have HF : Hid (getV s a = numV 0 0 2) := Lib.hid (by unfold getV; rw [if_neg h])
    go_enter Tryz.func77, Tryz.ntmps77
    go_wp2
    exact bodyPost_ret (v := numV 0 0 2) (by simp [results, Tryz.results77, go_sem, numV]) rfl ⟨ret_v HF.out.symm, (Below.refl _ _).alloc (Nat.le_refl _) _⟩

set_option maxRecDepth 100000 in
theorem spec_any (s : ByteArray) (a : Int) (w : World) (hs : s.size ≤ maxLen) (ha : a ≤ 9223372036854775807) :
    Calls Tryz.prog 69 #[.string s, .int .i64 a] w fun e w' => e = .returned (getV s a) ∧ Below w.heap.size w w' := by
  unfold maxLen at hs
  by_cases h : s.size ≤ 8000
  · by_cases h0 : 0 ≤ a
    · obtain ⟨n, rfl⟩ := Int.eq_ofNat_of_zero_le h0
      exact spec_in s n w h (by omega)
    · have HF : Hid (getV s a = numV 0 0 1) := Lib.hid (by unfold getV; rw [if_pos h, if_neg h0])
      go_enter Tryz.func69, Tryz.ntmps69
      go_wp2
      exact bodyPost_ret (v := numV 0 0 1) (by simp [results, Tryz.results69, go_sem, numV]) rfl ⟨ret_v HF.out.symm, (Below.refl _ _).alloc (Nat.le_refl _) _⟩
  · have HF : Hid (getV s a = numV 0 0 2) := Lib.hid (by unfold getV; rw [if_neg h])
    go_enter Tryz.func69, Tryz.ntmps69
    go_wp2
    exact bodyPost_ret (v := numV 0 0 2) (by simp [results, Tryz.results69, go_sem, numV]) rfl ⟨ret_v HF.out.symm, (Below.refl _ _).alloc (Nat.le_refl _) _⟩

/-- the three numbers of an answer -/
theorem getV_num (s : ByteArray) (a : Int) : ∃ n p c, getV s a = numV n p c := by
  unfold getV
  split
  · split
    · split
      · exact ⟨_, _, _, rfl⟩
      · exact ⟨_, _, _, rfl⟩
    · exact ⟨_, _, _, rfl⟩
  · exact ⟨_, _, _, rfl⟩

theorem cellsN {W w1 : World} {B : Nat} {a b c : Value} (hb : Below W.heap.size W w1) (h0 : W.cell? ⟨B, 0, none⟩ = some a) (h1 : W.cell? ⟨B, 1, none⟩ = some b) (h2 : W.cell? ⟨B, 2, none⟩ = some c) :
    w1.cell? ⟨B, 0, none⟩ = some a ∧ w1.cell? ⟨B, 1, none⟩ = some b ∧ w1.cell? ⟨B, 2, none⟩ = some c := by
  have hlt := World.block_lt_of_cell? W ⟨B, 0, none⟩ h0
  exact ⟨(hb.cell hlt).trans h0, (hb.cell (p := ⟨B, 1, none⟩) hlt).trans h1, (hb.cell (p := ⟨B, 2, none⟩) hlt).trans h2⟩

end Go.Proofs.YtdedomfocljhaaaGreatDoor.GetC
