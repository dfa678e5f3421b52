/- Seal and Unseal, in the program and in its model: contracts. -/
import Derived.Test.YtnmdfkempkaonaaJoin
import Derived.Test.YtnmdfkempkaonaaCrc
import Derived.Deep.RegionWith
import Derived.IntWalk
namespace Go.Proofs.Ytnmdfkempkaonaa.SealC
open Go.RowKit PutM PutC JoinC CrcC

/-- the four bytes of a number -/
def fourL (r : Int) : List UInt8 := [UInt8.ofNat (r % 256).toNat, UInt8.ofNat (r / 256 % 256).toNat, UInt8.ofNat (r / 65536 % 256).toNat, UInt8.ofNat (r / 16777216).toNat]
def fourS (r : Int) : ByteArray := bytesOf (fourL r)
theorem fourS_size (r : Int) : (fourS r).size = 4 := rfl
theorem of_int {x : Int} (h : 0 ≤ x) (h2 : x < 256) : ((UInt8.ofNat x.toNat).toNat : Int) = x := by rw [ofNat_toNat (by omega)]; omega
theorem conv_four {r : Int} (hr : 0 ≤ r) (hr2 : r ≤ 4294967295) (w : World) :
    (convert 22 9 (.slice (some ⟨w.heap.size, 0, none⟩) 4 4)).run Try.prog
      (w.alloc (.cells #[.int .u8 (r % 256), .int .u8 (r / 256 % 256), .int .u8 (r / 65536 % 256), .int .u8 (r / 16777216)] 5)) =
    .ok (.string (fourS r)) (w.alloc (.cells #[.int .u8 (r % 256), .int .u8 (r / 256 % 256), .int .u8 (r / 65536 % 256), .int .u8 (r / 16777216)] 5)) := by
  refine conv_cells (l := fourL r) ?_ 4
  rw [heap_alloc_new]
  simp only [Lib.byteCells, fourL, List.map_cons, List.map_nil]
  rw [of_int (by omega) (by omega), of_int (by omega) (by omega), of_int (by omega) (by omega), of_int (by omega) (by omega)]

set_option maxRecDepth 100000 in
theorem four_spec (r : Int) (w : World) (hr : 0 ≤ r) (hr2 : r ≤ 4294967295) :
    Calls Try.prog 23 #[.int .i64 r] w fun e w' => e = .returned (.string (fourS r)) ∧ Below w.heap.size w w' := by
  have hconv := conv_four hr hr2 w
  go_enter Try.func23, Try.ntmps23
  go_wp2
  go_ret
  exact ⟨rfl, (Below.refl _ _).alloc (Nat.le_refl _) _⟩

theorem crcOf_bd (s : ByteArray) (r : Int) : 0 ≤ crcOf s r ∧ crcOf s r ≤ 4294967295 := by
  have := flip_bd (crcTo s (flip r) s.size)
  unfold crcOf
  omega

set_option maxRecDepth 100000 in
theorem put_four (r : Int) (w : World) (hr : 0 ≤ r) (hr2 : r ≤ 4294967295) :
    Calls Try.prog 29 #[.int .i64 r] w fun e w' => e = .returned (.string (fourS r)) ∧ Below w.heap.size w w' := by
  have hconv := conv_four hr hr2 w
  go_enter Try.func29, Try.ntmps29
  go_wp2
  go_ret
  exact ⟨rfl, (Below.refl _ _).alloc (Nat.le_refl _) _⟩
theorem put_four30 (t : ByteArray) (w : World) : Calls Try.prog 29 #[.int .i64 (crcOf t 0)] w fun e w' => e = .returned (.string (fourS (crcOf t 0))) ∧ Below w.heap.size w w' :=
  put_four _ w (crcOf_bd t 0).1 (crcOf_bd t 0).2

set_option maxRecDepth 100000 in
theorem text_crc (s : ByteArray) (w : World) (hs : s.size ≤ 8000) :
    Calls Try.prog 22 #[.string s] w fun e w' => e = .returned (.string (fourS (crcOf s 0))) ∧ Below w.heap.size w w' := by
  have hm := Lib.hid (more_in hs (r := 0) (by omega) (by omega))
  have H4 := Lib.hid (put_four30 s)
  go_enter Try.func22, Try.ntmps22
  go_wp2_with fail
  refine (crc_impl s _ (by unfold maxLen; omega)).mono ?_
  rw [hm.out]
  rintro e w1 ⟨rfl, rfl⟩
  obtain ⟨r, hR⟩ : ∃ r, crcOf s 0 = r := ⟨_, rfl⟩
  have HR : Hid (fourS (crcOf s 0) = fourS r) := Lib.hid (by rw [hR])
  rw [hR] at H4 ⊢
  clear hR
  go_wp2_with fail
  refine (H4.out _).mono ?_
  rintro e w1 ⟨rfl, hb1⟩
  have HB := Lib.hid hb1
  clear hb1
  go_wp2
  go_ret
  exact ⟨ret_str HR.out.symm, HB.out⟩

/-- what Seal answers -/
def sealOf (s : ByteArray) : ByteArray := if s.size ≤ 7996 then s ++ fourS (crcOf s 0) else ByteArray.empty
theorem seal_in {s : ByteArray} (h : s.size ≤ 7996) : sealOf s = s ++ fourS (crcOf s 0) := by unfold sealOf; rw [if_pos h]
theorem seal_out {s : ByteArray} (h : ¬ s.size ≤ 7996) : sealOf s = ByteArray.empty := by unfold sealOf; rw [if_neg h]

theorem seal_impl (s : ByteArray) (w : World) (hs : s.size ≤ maxLen) :
    Calls Try.prog 7 #[.string s] w fun e w' => e = .returned (.string (sealOf s)) ∧ Below w.heap.size w w' := by
  unfold maxLen at hs
  by_cases h : s.size ≤ 7996
  · have H := Lib.hid (seal_in h)
    have hz := fourS_size (crcOf s 0)
    go_enter Try.func7, Try.ntmps7
    go_wp2_with fail
    refine (text_crc _ _ (by omega)).mono ?_
    rintro e w1 ⟨rfl, hb1⟩
    have HB1 := Lib.hid hb1
    clear hb1
    generalize fourS (crcOf s 0) = x at *
    go_wp2_with fail
    refine (joined_any _ _ _ (by omega)).mono ?_
    rintro e w2 ⟨rfl, hb2⟩
    have HB2 := Lib.hid (HB1.out.trans (hb2.mono HB1.out.size))
    clear hb2
    go_wp2
    go_ret
    exact ⟨ret_str H.out.symm, HB2.out⟩
  · have H := Lib.hid (seal_out h)
    go_enter Try.func7, Try.ntmps7
    go_wp2
    go_ret
    exact ⟨ret_str H.out.symm, Below.refl _ _⟩

theorem seal_spec (s : ByteArray) (w : World) (hs : s.size ≤ maxLen) :
    Calls Try.prog 8 #[.string s] w fun e w' => e = .returned (.string (sealOf s)) ∧ Below w.heap.size w w' := by
  unfold maxLen at hs
  by_cases h : s.size ≤ 7996
  · have H := Lib.hid (seal_in h)
    have hz := fourS_size (crcOf s 0)
    have ⟨hr, hr2⟩ := crcOf_bd s 0
    go_enter Try.func8, Try.ntmps8
    go_wp2_with fail
    refine (CrcC.spec_any _ _ _ (by omega) (by omega) (by omega)).mono ?_
    rintro e w1 ⟨rfl, rfl⟩
    generalize crcOf s 0 = r at *
    go_wp2_with fail
    refine (four_spec _ _ hr hr2).mono ?_
    rintro e w1 ⟨rfl, hb1⟩
    have HB1 := Lib.hid hb1
    clear hb1
    generalize fourS r = x at *
    have hadd := fun w : World => run_string_add_sum (P := Try.prog) w s x (by omega)
    clear hz
    go_wp2
    go_ret
    exact ⟨ret_str H.out.symm, HB1.out⟩
  · have H := Lib.hid (seal_out h)
    go_enter Try.func8, Try.ntmps8
    go_wp2
    go_ret
    exact ⟨ret_str H.out.symm, Below.refl _ _⟩

theorem unsafe_row {w : World} {g : Nat} {l : List UInt8} (h : w.heap[g]? = some (.cells (Lib.byteCells l).toArray 5 (0, 0))) (h0 : l.length ≠ 0) (hl : l.length ≤ 9223372036854775807) :
    (Builtin.unsafeString_ #[50, 3] 9 #[.pointer (some ⟨g, 0, none⟩), .int .i64 l.length]).run Try.prog w = .ok (.string (bytesOf l)) (w.freeze ⟨g, 0, none⟩ l.length) :=
  Lib.run_unsafeString_row w 50 3 9 5 Try.underlying50 (by kernel_rfl) g l.length (by simp [World.shape?, h, Lib.byteCells]) l (fun e => h0 (by rw [e]; rfl)) (Nat.le_refl _) hl (fun j x hj => by
    have hlt := (List.getElem?_eq_some_iff.1 hj).1
    have e : (⟨g, 0, none⟩ : Addr).add j = ⟨g, j, none⟩ := by cases j <;> simp [Addr.add]
    rw [e]
    rw [List.getElem?_eq_getElem hlt] at hj
    simp at hj
    subst hj
    simp [World.cell?, h, Lib.byteCells, hlt])

set_option maxRecDepth 100000 in
set_option maxHeartbeats 800000 in
/-- the copy of a string -/
theorem clone_lite (s : ByteArray) (w : World) (hs : s.size ≤ 8000) :
    Calls Try.prog 30 #[.string s] w fun e w' => e = .returned (.string s) ∧ Below w.heap.size w w' := by
  by_cases h0 : s.size = 0
  · have he : Hid (s = ByteArray.empty) := Lib.hid (ByteArray.ext (Array.eq_empty_of_size_eq_zero h0))
    have hb : ((s.size : Int) == 0) = true := by simp [h0]
    go_enter Try.func30, Try.ntmps30
    go_wp2
    go_ret
    exact ⟨ret_str he.out.symm, Below.refl _ _⟩
  · have hb : ((s.size : Int) == 0) = false := by simp [h0]
    obtain ⟨w1, hmk, ⟨cur, hcs, hg1⟩, hb1, hz1⟩ := make_bytes w (s.size : Int) (by omega) (by omega)
    have hn : ((s.size : Int)).toNat = s.size := by omega
    rw [hn] at hmk hcs
    obtain ⟨w2, hc1, hg2, hb2⟩ := copy_str w1 w.heap.size 0 s.size s.size s cur 3 hg1 (by omega) (by omega)
    have hg3 : w2.heap[w.heap.size]? = some (.cells (Lib.byteCells s.data.toList).toArray 5 (0, 0)) := by
      rw [hg2]
      have e : cur.toList.drop (0 + s.size) = [] := List.drop_of_length_le (by simp [hcs])
      rw [e]
      simp
    have hun := unsafe_row hg3 (by rw [← Lib.size_eq]; exact h0) (by rw [← Lib.size_eq]; omega)
    rw [← Lib.size_eq, show bytesOf s.data.toList = s from ByteArray.ext (by simp [bytesOf])] at hun
    have HB : Hid (Below w.heap.size w (w2.freeze ⟨w.heap.size, 0, none⟩ s.size)) := Lib.hid (Lib.below_freeze (hb1.trans hb2) (Nat.le_refl _) _)
    have hp : 0 < s.size := by omega
    clear hg1 hg2 hg3 hb1 hb2 hcs hz1 hn h0
    go_enter Try.func30, Try.ntmps30
    go_wp2
    go_ret
    exact ⟨rfl, HB.out⟩

theorem clone_any (s : ByteArray) (w : World) (hs : s.size ≤ 8000) :
    Calls Try.prog 25 #[.string s] w fun e w' => e = .returned (.string s) ∧ Below w.heap.size w w' := by
  go_enter Try.func25, Try.ntmps25
  go_wp2_with fail
  refine (clone_lite _ _ hs).mono ?_
  rintro e w1 ⟨rfl, hb1⟩
  have HB1 := Lib.hid hb1
  clear hb1
  go_wp2
  go_ret
  exact ⟨rfl, HB1.out⟩

theorem crc30 (t : ByteArray) (w : World) (h : t.size ≤ 8000) : Calls Try.prog 24 #[.int .i64 0, .string t] w fun e w' => e = .returned (.int .i64 (crcOf t 0)) ∧ w = w' :=
  CrcC.spec_any 0 t w (by omega) (by omega) h
theorem four30 (t : ByteArray) (w : World) : Calls Try.prog 23 #[.int .i64 (crcOf t 0)] w fun e w' => e = .returned (.string (fourS (crcOf t 0))) ∧ Below w.heap.size w w' :=
  four_spec _ w (crcOf_bd t 0).1 (crcOf_bd t 0).2
end Go.Proofs.Ytnmdfkempkaonaa.SealC
