/- Plain facts on the zigzag encoding of integers: nothing of the program. -/
import Derived.WalkKit
import Derived.Laws.Closers25b
import Derived.Laws.Bits64
namespace Go.Proofs.Ytnmdfkempkaonaa.PutM
open Go.RowKit

/-- the zigzag number -/
def foldN (n : Int) : Nat := if 0 ≤ n then (2 * n).toNat else (2 * -(n + 1) + 1).toNat
theorem foldN_pos {n : Int} (h : 0 ≤ n) : (2 * n) = (foldN n : Int) := by unfold foldN; rw [if_pos h]; omega
theorem foldN_neg {n : Int} (h : ¬ 0 ≤ n) : (2 * -(n + 1) + 1) = (foldN n : Int) := by unfold foldN; rw [if_neg h]; omega
theorem foldN_lt {n : Int} (h1 : -9223372036854775808 ≤ n) (h2 : n ≤ 9223372036854775807) : foldN n < 18446744073709551616 := by
  unfold foldN; split <;> omega

theorem xor_ones (x : Nat) (h : x < 18446744073709551616) : x ^^^ 18446744073709551615 = 18446744073709551615 - x := by
  have h1 : (BitVec.ofNat 64 x ^^^ BitVec.allOnes 64).toNat = (~~~ (BitVec.ofNat 64 x)).toNat := by rw [BitVec.xor_allOnes]
  rw [BitVec.toNat_xor, BitVec.toNat_not, BitVec.toNat_allOnes, BitVec.toNat_ofNat, Nat.mod_eq_of_lt (by omega)] at h1
  omega

theorem fold_bits {n : Int} (h1 : -9223372036854775808 ≤ n) (h2 : n ≤ 9223372036854775807) :
    bits .xor .u64 (IntKind.u64.wrap (IntKind.u64.wrap n * 2)) (IntKind.u64.wrap (n / 9223372036854775808)) = (foldN n : Int) := by
  simp only [IntKind.wrap_u64]
  by_cases h : 0 ≤ n
  · rw [← foldN_pos h]
    have e1 : n % 18446744073709551616 * 2 % 18446744073709551616 = ((2 * n).toNat : Int) := by omega
    have e2 : n / 9223372036854775808 % 18446744073709551616 = ((0 : Nat) : Int) := by omega
    rw [e1, e2, bits_xor_u64_nat _ _ (by omega) (by omega), Nat.xor_zero]
    omega
  · rw [← foldN_neg h]
    have e1 : n % 18446744073709551616 * 2 % 18446744073709551616 = ((2 * n + 18446744073709551616).toNat : Int) := by omega
    have e2 : n / 9223372036854775808 % 18446744073709551616 = ((18446744073709551615 : Nat) : Int) := by omega
    rw [e1, e2, bits_xor_u64_nat _ _ (by omega) (by omega), xor_ones _ (by omega)]
    omega

/-- the groups of seven bits -/
def enc (u : Nat) : List UInt8 := if u < 128 then [UInt8.ofNat u] else UInt8.ofNat (u % 128 + 128) :: enc (u / 128)
termination_by u
decreasing_by omega
theorem enc_lt {u : Nat} (h : u < 128) : enc u = [UInt8.ofNat u] := by rw [enc, if_pos h]
theorem enc_ge {u : Nat} (h : ¬ u < 128) : enc u = UInt8.ofNat (u % 128 + 128) :: enc (u / 128) := by rw [enc, if_neg h]
theorem enc_len : ∀ (k u : Nat), u < 128 ^ (k + 1) → 1 ≤ (enc u).length ∧ (enc u).length ≤ k + 1 := by
  intro k
  induction k with
  | zero => intro u h; rw [enc_lt (by simpa using h)]; simp
  | succ k ih =>
    intro u h
    by_cases h1 : u < 128
    · rw [enc_lt h1]; simp
    · rw [enc_ge h1]
      have := ih (u / 128) (by rw [Nat.div_lt_iff_lt_mul (by omega)]; rw [Nat.pow_succ] at h; exact h)
      simp only [List.length_cons]
      omega
theorem enc_len64 {u : Nat} (h : u < 18446744073709551616) : 1 ≤ (enc u).length ∧ (enc u).length ≤ 10 :=
  enc_len 9 u (Nat.lt_of_lt_of_le h (by decide))
theorem ofNat_toNat {u : Nat} (h : u < 256) : ((UInt8.ofNat u).toNat : Int) = (u : Int) := by
  rw [UInt8.toNat_ofNat']; omega
/-- one round -/
theorem step_ge {l : List UInt8} {z u : Nat} (he : l ++ enc z = enc u) (h : ¬ z < 128) : (l ++ [UInt8.ofNat (z % 128 + 128)]) ++ enc (z / 128) = enc u := by
  rw [← he, enc_ge h]; simp
theorem step_lt {l : List UInt8} {z u : Nat} (he : l ++ enc z = enc u) (h : z < 128) : l ++ [UInt8.ofNat z] = enc u := by
  rw [← he, enc_lt h]
theorem len_le {l : List UInt8} {z u : Nat} (he : l ++ enc z = enc u) (hz : z < 18446744073709551616) (hu : u < 18446744073709551616) : l.length ≤ 9 := by
  have h1 := congrArg List.length he
  have h2 := enc_len64 hz
  have h3 := enc_len64 hu
  rw [List.length_append] at h1
  omega
theorem byte_or (z : Nat) : bits .or .u8 (IntKind.u8.wrap (z : Int)) 128 = ((UInt8.ofNat (z % 128 + 128)).toNat : Int) := by
  have e : IntKind.u8.wrap (z : Int) = ((z % 256 : Nat) : Int) := by simp [IntKind.wrap, IntKind.bits, IntKind.signed]
  rw [e, ofNat_toNat (by omega)]
  have h : ∀ a : Fin 256, bits .or .u8 ((a.val : Nat) : Int) 128 = ((a.val % 128 + 128 : Nat) : Int) := by decide +kernel
  have := h ⟨z % 256, by omega⟩
  simp only at this
  rw [this]
  omega
/-- the bytes as a string -/
def bytesOf (l : List UInt8) : ByteArray := ⟨l.toArray⟩
def encB (n : Int) : ByteArray := bytesOf (enc (foldN n))
theorem encB_size {n : Int} (h1 : -9223372036854775808 ≤ n) (h2 : n ≤ 9223372036854775807) : 1 ≤ (encB n).size ∧ (encB n).size ≤ 10 := by
  have := enc_len64 (foldN_lt h1 h2)
  simpa [encB, bytesOf, ByteArray.size] using this
end Go.Proofs.Ytnmdfkempkaonaa.PutM
