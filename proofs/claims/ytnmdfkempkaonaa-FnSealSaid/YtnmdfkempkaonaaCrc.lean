/- The CRC's functions, by contracts. -/
import Derived.Test.YtnmdfkempkaonaaProg
import Derived.WalkKit
import Derived.ProofKit
import Derived.Below
import Derived.LoopTactic
import Derived.BigQuiet
import Derived.Deep.QuietTactic
import Derived.WalkSpells
import Derived.WalkLawsBesides
import Derived.Lib.Hide
import Derived.Laws.Closers25b
namespace Go.Proofs.Ytnmdfkempkaonaa.CrcC
open Go.RowKit

/-- one bit -/
def one (z : Int) : Int := if (bits .and .u32 z 1 == 1) = true then bits .xor .u32 (z / 2) 3988292384 else z / 2
def ones : Nat → Int → Int
  | 0, z => z
  | n + 1, z => one (ones n z)
/-- one byte -/
def byteStep (r c : Int) : Int := ones 8 (bits .xor .u32 r c)
def crcTo (s : ByteArray) (r : Int) (k : Nat) : Int := (s.data.toList.take k).foldl (fun a b => byteStep a (b.toNat : Int)) r
/-- the register's beginning and its end -/
def flip (r : Int) : Int := bits .xor .u32 r 4294967295
def crcOf (s : ByteArray) (r : Int) : Int := flip (crcTo s (flip r) s.size)

theorem bx (a b : Int) : 0 ≤ bits .xor .u32 a b ∧ bits .xor .u32 a b < 4294967296 :=
  ⟨bits_lo_u32 _ _ _, by have := bits_hi_u32 .xor a b; omega⟩
theorem one_bd {z : Int} (h : 0 ≤ z ∧ z < 4294967296) : 0 ≤ one z ∧ one z < 4294967296 := by
  unfold one
  split
  · exact bx _ _
  · omega
theorem ones_bd {z : Int} (h : 0 ≤ z ∧ z < 4294967296) : ∀ n, 0 ≤ ones n z ∧ ones n z < 4294967296
  | 0 => h
  | n + 1 => one_bd (ones_bd h n)
theorem byte_bd (r c : Int) : 0 ≤ byteStep r c ∧ byteStep r c < 4294967296 := ones_bd (bx _ _) 8
theorem flip_bd (r : Int) : 0 ≤ flip r ∧ flip r < 4294967296 := bx _ _
theorem fold_bd (l : List UInt8) : ∀ r : Int, 0 ≤ r ∧ r < 4294967296 → 0 ≤ l.foldl (fun a b => byteStep a (b.toNat : Int)) r ∧ l.foldl (fun a b => byteStep a (b.toNat : Int)) r < 4294967296 := by
  induction l with
  | nil => exact fun r h => h
  | cons b l ih => exact fun r h => ih _ (byte_bd _ _)
theorem crcTo_bd (s : ByteArray) {r : Int} (k : Nat) (h : 0 ≤ r ∧ r < 4294967296) : 0 ≤ crcTo s r k ∧ crcTo s r k < 4294967296 := fold_bd _ r h
theorem take_snoc (s : ByteArray) (k : Nat) (h : k < s.size) : s.data.toList.take (k + 1) = s.data.toList.take k ++ [s[k]] := by
  rw [List.take_succ_eq_append_getElem (by simpa using h)]; rfl
theorem crcTo_succ (s : ByteArray) (r : Int) (k : Nat) (h : k < s.size) : crcTo s r (k + 1) = byteStep (crcTo s r k) (s[k].toNat : Int) := by
  unfold crcTo
  rw [take_snoc s k h, List.foldl_append]
  rfl
theorem ret_u32 {a b : Int} (h : a = b) : Ending.returned (.int .u32 a) = .returned (.int .u32 b) := by rw [h]
theorem ret_i64 {a b : Int} (h : a = b) : Ending.returned (.int .i64 a) = .returned (.int .i64 b) := by rw [h]
theorem u32_eq {a b : Int} (h : a = b) : Value.int .u32 a = .int .u32 b := by rw [h]

theorem bits_swap (k : IntKind) (a b : Int) : bits .xor k a b = bits .xor k b a := by
  unfold bits
  simp only [BitVec.xor_comm]
theorem max_u32 : IntKind.u32.max = 4294967295 := by decide
theorem flip_swap (r : Int) : bits .xor .u32 IntKind.u32.max r = flip r := by
  rw [bits_swap, max_u32]
  rfl
theorem one_t {z : Int} (h : (bits .and .u32 z 1 == 1) = true) : bits .xor .u32 (z / 2) 3988292384 = one z := by unfold one; rw [if_pos h]
theorem one_f {z : Int} (h : (bits .and .u32 z 1 == 1) = false) : z / 2 = one z := by unfold one; rw [h]; rfl

set_option maxHeartbeats 400000 in
theorem byte_any (r c : Int) (w : World) (hc : 0 ≤ c) (hc2 : c < 256) :
    Calls Try.prog 28 #[.int .u32 r, .int .u8 c] w fun e w' => e = .returned (.int .u32 (byteStep r c)) ∧ w = w' := by
  go_enter Try.func28, Try.ntmps28
  go_wp2
  go_loop [0, 10, 5] (fun t i _ => ∃ k : Nat, k ≤ 8 ∧ i = .int .i64 k ∧ t = .int .u32 (ones k (bits .xor .u32 r c))) (fun _ i _ => 8 - (intOf i).toNat)
  case atStart => exact ⟨0, by omega, rfl, rfl⟩
  case round =>
    obtain ⟨k, hk, rfl, rfl⟩ := hrel
    have ⟨b1, b2⟩ := ones_bd (bx r c) k
    by_cases hlt : k < 8
    · obtain ⟨z, hz⟩ : ∃ z, ones k (bits .xor .u32 r c) = z := ⟨_, rfl⟩
      have Hs : Hid (ones (k + 1) (bits .xor .u32 r c) = one z) := Lib.hid (by rw [← hz]; rfl)
      rw [hz] at b1 b2 ⊢
      clear hz
      by_cases hb : (bits .and .u32 z 1 == 1) = true
      · have Ho := Lib.hid (one_t hb)
        go_wp2
        go_round
        case rel => exact ⟨k + 1, by omega, by go_num, by rw [Hs.out, Ho.out]⟩
        case measure => simp [intOf]; omega
      · have hb' : (bits .and .u32 z 1 == 1) = false := by simpa using hb
        have Ho := Lib.hid (one_f hb')
        clear hb
        go_wp2
        go_round
        case rel => exact ⟨k + 1, by omega, by go_num, by rw [Hs.out, Ho.out]⟩
        case measure => simp [intOf]; omega
    · obtain rfl : k = 8 := by omega
      go_wp2
      go_ret
      exact ⟨rfl, rfl⟩

theorem w64 {x : Int} (h : 0 ≤ x ∧ x < 4294967296) : wrap64 x = x := by unfold wrap64; omega
theorem byte_bounds (b : UInt8) : (0 : Int) ≤ (b.toNat : Int) ∧ (b.toNat : Int) < 256 := ⟨by omega, by have := UInt8.toNat_lt b; omega⟩

set_option maxHeartbeats 800000 in
theorem impl_any (r : Int) (s : ByteArray) (w : World) (hr : 0 ≤ r) (hr2 : r ≤ 4294967295) (hs : s.size ≤ 8000) :
    Calls Try.prog 12 #[.int .i64 r, .string s] w fun e w' => e = .returned (.int .i64 (crcOf s r)) ∧ w = w' := by
  go_enter Try.func12, Try.ntmps12
  go_wp2
  rw [flip_swap]
  go_loop [6, 23, 5] (fun _ i t => ∃ k : Nat, k ≤ s.size ∧ i = .int .i64 k ∧ t = .int .u32 (crcTo s (flip r) k)) (fun _ i _ => s.size - (intOf i).toNat)
  case atStart => exact ⟨0, by omega, rfl, rfl⟩
  case round =>
    obtain ⟨k, hk, rfl, rfl⟩ := hrel
    have ⟨b1, b2⟩ := crcTo_bd s k (flip_bd r)
    by_cases hlt : k < s.size
    · have Hs := Lib.hid (crcTo_succ s (flip r) k hlt)
      generalize crcTo s (flip r) k = z at *
      have ⟨c1, c2⟩ := byte_bounds s[k]
      go_wp2_with (go_at_call 28; refine (byte_any _ _ _ c1 c2).mono ?_; rintro e w' ⟨rfl, rfl⟩)
      go_round
      case rel => exact ⟨k + 1, by omega, by go_num, by rw [Hs.out]⟩
      case measure => simp [intOf]; omega
    · obtain rfl : k = s.size := by omega
      have Hf : Hid (crcOf s r = flip (crcTo s (flip r) s.size)) := Lib.hid rfl
      generalize crcTo s (flip r) s.size = z at *
      go_wp2
      go_ret
      exact ⟨ret_i64 (by rw [Hf.out, flip_swap, w64 (flip_bd z)]), rfl⟩

theorem ones_zero (z : Int) : ones 0 z = z := rfl
set_option maxRecDepth 100000 in
set_option maxHeartbeats 800000 in
theorem spec_any (r : Int) (s : ByteArray) (w : World) (hr : 0 ≤ r) (hr2 : r ≤ 4294967295) (hs : s.size ≤ 8000) :
    Calls Try.prog 24 #[.int .i64 r, .string s] w fun e w' => e = .returned (.int .i64 (crcOf s r)) ∧ w = w' := by
  have Hf0 : Hid (bits .xor .u32 r 4294967295 = flip r) := Lib.hid rfl
  go_enter Try.func24, Try.ntmps24
  go_wp2
  rw [Hf0.out]
  go_loop [5, 6] (fun t i => ∃ k : Nat, k ≤ s.size ∧ i = .int .i64 k ∧ t = .int .u32 (crcTo s (flip r) k)) (fun _ i => s.size - (intOf i).toNat)
  case atStart => exact ⟨0, by omega, rfl, rfl⟩
  case round =>
    obtain ⟨k, hk, rfl, rfl⟩ := hrel
    have ⟨b1, b2⟩ := crcTo_bd s k (flip_bd r)
    by_cases hlt : k < s.size
    · have Hs := Lib.hid (crcTo_succ s (flip r) k hlt)
      generalize crcTo s (flip r) k = z at *
      have ⟨c1, c2⟩ := byte_bounds s[k]
      go_wp2
      go_loop [5, 7] (fun t i => ∃ j : Nat, j ≤ 8 ∧ i = .int .i64 j ∧ t = .int .u32 (ones j (bits .xor .u32 z (s[k].toNat : Int)))) (fun _ i => 8 - (intOf i).toNat)
      case atStart => exact ⟨0, by omega, rfl, rfl⟩
      case round =>
        obtain ⟨j, hj, rfl, rfl⟩ := hrel
        have ⟨d1, d2⟩ := ones_bd (bx z (s[k].toNat : Int)) j
        by_cases hlt2 : j < 8
        · obtain ⟨y, hy⟩ : ∃ y, ones j (bits .xor .u32 z (s[k].toNat : Int)) = y := ⟨_, rfl⟩
          have Ht : Hid (ones (j + 1) (bits .xor .u32 z (s[k].toNat : Int)) = one y) := Lib.hid (by rw [← hy]; rfl)
          rw [hy] at d1 d2 ⊢
          clear hy
          by_cases hb : (bits .and .u32 y 1 == 1) = true
          · have Ho := Lib.hid (one_t hb)
            go_wp2
            go_round
            case rel => exact ⟨j + 1, by omega, by go_num, by rw [Ht.out, Ho.out]⟩
            case measure => simp [intOf]; omega
          · have hb' : (bits .and .u32 y 1 == 1) = false := by simpa using hb
            have Ho := Lib.hid (one_f hb')
            clear hb
            go_wp2
            go_round
            case rel => exact ⟨j + 1, by omega, by go_num, by rw [Ht.out, Ho.out]⟩
            case measure => simp [intOf]; omega
        · obtain rfl : j = 8 := by omega
          have Hb : Hid (ones 8 (bits .xor .u32 z (s[k].toNat : Int)) = byteStep z (s[k].toNat : Int)) := Lib.hid rfl
          go_wp2
          go_round
          case rel => exact ⟨k + 1, by omega, by go_num, by rw [Hs.out, Hb.out]⟩
          case measure => simp [intOf]; omega
    · obtain rfl : k = s.size := by omega
      have Hf : Hid (crcOf s r = flip (crcTo s (flip r) s.size)) := Lib.hid rfl
      generalize crcTo s (flip r) s.size = z at *
      have Hz : Hid (bits .xor .u32 z 4294967295 = flip z) := Lib.hid rfl
      go_wp2
      go_ret
      exact ⟨ret_i64 (by rw [Hf.out, Hz.out]; first | exact w64 (flip_bd z) | rfl), rfl⟩
/-- what CrcMore answers -/
def moreOf (s : ByteArray) (r : Int) : Int := if s.size ≤ 8000 ∧ 0 ≤ r ∧ r ≤ 4294967295 then crcOf s r else 0
theorem more_in {s : ByteArray} {r : Int} (h : s.size ≤ 8000) (h1 : 0 ≤ r) (h2 : r ≤ 4294967295) : moreOf s r = crcOf s r := by unfold moreOf; rw [if_pos ⟨h, h1, h2⟩]
theorem more_out {s : ByteArray} {r : Int} (h : ¬ (s.size ≤ 8000 ∧ 0 ≤ r ∧ r ≤ 4294967295)) : moreOf s r = 0 := by unfold moreOf; rw [if_neg h]

theorem more_impl (r : Int) (s : ByteArray) (w : World) (hs : s.size ≤ maxLen) :
    Calls Try.prog 12 #[.int .i64 r, .string s] w fun e w' => e = .returned (.int .i64 (moreOf s r)) ∧ w = w' := by
  by_cases h0 : s.size ≤ 8000 ∧ 0 ≤ r ∧ r ≤ 4294967295
  · rw [more_in h0.1 h0.2.1 h0.2.2]
    exact impl_any r s w h0.2.1 h0.2.2 h0.1
  · rw [more_out h0]
    unfold maxLen at hs
    by_cases h1 : s.size ≤ 8000
    · by_cases h2 : 0 ≤ r
      · have h3 : ¬ r ≤ 4294967295 := fun h => h0 ⟨h1, h2, h⟩
        clear h0
        go_enter Try.func12, Try.ntmps12
        go_wp2
        go_ret
        exact ⟨rfl, rfl⟩
      · clear h0
        go_enter Try.func12, Try.ntmps12
        go_wp2
        go_ret
        exact ⟨rfl, rfl⟩
    · clear h0
      go_enter Try.func12, Try.ntmps12
      go_wp2
      go_ret
      exact ⟨rfl, rfl⟩

theorem more_spec (r : Int) (s : ByteArray) (w : World) (hs : s.size ≤ maxLen) :
    Calls Try.prog 13 #[.int .i64 r, .string s] w fun e w' => e = .returned (.int .i64 (moreOf s r)) ∧ w = w' := by
  by_cases h0 : s.size ≤ 8000 ∧ 0 ≤ r ∧ r ≤ 4294967295
  · rw [more_in h0.1 h0.2.1 h0.2.2]
    obtain ⟨a, b, c⟩ := h0
    go_enter Try.func13, Try.ntmps13
    go_wp2_with (go_at_call 24; refine (spec_any _ _ _ b c a).mono ?_; rintro e w' ⟨rfl, rfl⟩)
    go_ret
    exact ⟨rfl, rfl⟩
  · rw [more_out h0]
    unfold maxLen at hs
    by_cases h1 : s.size ≤ 8000
    · by_cases h2 : 0 ≤ r
      · have h3 : ¬ r ≤ 4294967295 := fun h => h0 ⟨h1, h2, h⟩
        clear h0
        go_enter Try.func13, Try.ntmps13
        go_wp2
        go_ret
        exact ⟨rfl, rfl⟩
      · clear h0
        go_enter Try.func13, Try.ntmps13
        go_wp2
        go_ret
        exact ⟨rfl, rfl⟩
    · clear h0
      go_enter Try.func13, Try.ntmps13
      go_wp2
      go_ret
      exact ⟨rfl, rfl⟩

theorem crc_impl (s : ByteArray) (w : World) (hs : s.size ≤ maxLen) :
    Calls Try.prog 14 #[.string s] w fun e w' => e = .returned (.int .i64 (moreOf s 0)) ∧ w = w' := by
  go_enter Try.func14, Try.ntmps14
  go_wp2_with (go_at_call 12; refine (more_impl _ _ _ hs).mono ?_; rintro e w' ⟨rfl, rfl⟩)
  go_ret
  exact ⟨rfl, rfl⟩

theorem crc_spec (s : ByteArray) (w : World) (hs : s.size ≤ maxLen) :
    Calls Try.prog 27 #[.string s] w fun e w' => e = .returned (.int .i64 (moreOf s 0)) ∧ w = w' := by
  by_cases h0 : s.size ≤ 8000
  · rw [more_in h0 (by omega) (by omega)]
    go_enter Try.func27, Try.ntmps27
    go_wp2_with (go_at_call 24; refine (spec_any _ _ _ (by omega) (by omega) h0).mono ?_; rintro e w' ⟨rfl, rfl⟩)
    go_ret
    exact ⟨rfl, rfl⟩
  · rw [more_out (by omega)]
    unfold maxLen at hs
    go_enter Try.func27, Try.ntmps27
    go_wp2
    go_ret
    exact ⟨rfl, rfl⟩

end Go.Proofs.Ytnmdfkempkaonaa.CrcC
