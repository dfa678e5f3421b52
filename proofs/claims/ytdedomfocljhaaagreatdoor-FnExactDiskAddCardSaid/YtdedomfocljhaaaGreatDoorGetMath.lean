/- Plain facts on decoding an integer out of its groups of seven bits: nothing of the program. -/
import Derived.WalkKit
import Derived.Laws.Closers25b
import Derived.Laws.Bits64
import Derived.Laws.Bits64b
namespace Go.Proofs.YtdedomfocljhaaaGreatDoor.GetM
open Go.RowKit

/-- what is read: the code, the unsigned number, how many bytes -/
structure Got where
  code : Int
  u : Nat
  used : Nat

def dec : List UInt8 → Nat → Nat → Got
  | [], _, _ => ⟨4, 0, 0⟩
  | b :: r, i, u =>
    if i = 9 ∧ 1 < b.toNat then ⟨3, 0, 0⟩
    else if b.toNat < 128 then (if b.toNat = 0 ∧ 0 < i then ⟨3, 0, 0⟩ else ⟨0, u + b.toNat % 128 * 2 ^ (7 * i), i + 1⟩)
    else dec r (i + 1) (u + b.toNat % 128 * 2 ^ (7 * i))

theorem dec_nil (i u : Nat) : dec [] i u = ⟨4, 0, 0⟩ := rfl
theorem dec_big {b : UInt8} {r : List UInt8} {u : Nat} (h : 1 < b.toNat) : dec (b :: r) 9 u = ⟨3, 0, 0⟩ := by rw [dec, if_pos ⟨rfl, h⟩]
theorem dec_zero {b : UInt8} {r : List UInt8} {i u : Nat} (h : b.toNat = 0) (hi : 0 < i) : dec (b :: r) i u = ⟨3, 0, 0⟩ := by
  rw [dec, if_neg (by omega), if_pos (by omega), if_pos ⟨h, hi⟩]
theorem dec_last {b : UInt8} {r : List UInt8} {i u : Nat} (h9 : ¬ (i = 9 ∧ 1 < b.toNat)) (h : b.toNat < 128) (h0 : ¬ (b.toNat = 0 ∧ 0 < i)) :
    dec (b :: r) i u = ⟨0, u + b.toNat % 128 * 2 ^ (7 * i), i + 1⟩ := by rw [dec, if_neg h9, if_pos h, if_neg h0]
theorem dec_more {b : UInt8} {r : List UInt8} {i u : Nat} (h9 : ¬ (i = 9 ∧ 1 < b.toNat)) (h : ¬ b.toNat < 128) :
    dec (b :: r) i u = dec r (i + 1) (u + b.toNat % 128 * 2 ^ (7 * i)) := by rw [dec, if_neg h9, if_neg h]

/-- the powers that occur -/
theorem pow_le {i : Nat} (h : i ≤ 9) : 2 ^ (7 * i) ≤ 9223372036854775808 := by
  have : 2 ^ (7 * i) ≤ 2 ^ 63 := Nat.pow_le_pow_right (by omega) (by omega)
  omega
theorem pow_pos (i : Nat) : 0 < 2 ^ (7 * i) := Nat.two_pow_pos _
theorem pow_succ7 (i : Nat) : 2 ^ (7 * (i + 1)) = 128 * 2 ^ (7 * i) := by
  rw [show 7 * (i + 1) = 7 * i + 7 by omega, Nat.pow_add]; omega
/-- one group: it stays below the next power, and within 64 bits -/
theorem group_lt {i u x : Nat} (hu : u < 2 ^ (7 * i)) (hx : x < 128) : u + x * 2 ^ (7 * i) < 2 ^ (7 * (i + 1)) := by
  rw [pow_succ7]
  have : x * 2 ^ (7 * i) ≤ 127 * 2 ^ (7 * i) := Nat.mul_le_mul_right _ (by omega)
  omega
theorem group_64 {i u x : Nat} (hu : u < 2 ^ (7 * i)) (hx : x < 128) (hi : i ≤ 9) (h9 : i = 9 → x ≤ 1) : u + x * 2 ^ (7 * i) < 18446744073709551616 := by
  by_cases h : i = 9
  · subst h
    have := h9 rfl
    have : x * 2 ^ (7 * 9) ≤ 1 * 2 ^ (7 * 9) := Nat.mul_le_mul_right _ (by omega)
    omega
  · have h1 := group_lt hu hx
    have h2 : 2 ^ (7 * (i + 1)) ≤ 9223372036854775808 := pow_le (by omega)
    omega
theorem shl_64 {i x : Nat} (hx : x < 128) (hi : i ≤ 9) (h9 : i = 9 → x ≤ 1) : x * 2 ^ (7 * i) < 18446744073709551616 := by
  have := group_64 (u := 0) (x := x) (Nat.two_pow_pos (7 * i)) hx hi h9
  omega
theorem or_add {i u x : Nat} (hu : u < 2 ^ (7 * i)) : u ||| x * 2 ^ (7 * i) = u + x * 2 ^ (7 * i) := by
  rw [Nat.or_comm, Nat.mul_comm, ← Nat.two_pow_add_eq_or_of_lt hu, Nat.add_comm]
/-- the result of a decoding that began within its bounds is a 64-bit number -/
theorem dec_bd : ∀ (l : List UInt8) (i u : Nat), i ≤ 9 → u < 2 ^ (7 * i) →
    (dec l i u).u < 18446744073709551616 ∧ (dec l i u).used ≤ i + l.length ∧ ((dec l i u).code = 0 ∨ (dec l i u).code = 3 ∨ (dec l i u).code = 4) ∧ (¬ (dec l i u).code = 0 → (dec l i u).u = 0 ∧ (dec l i u).used = 0) := by
  intro l
  induction l with
  | nil => intro i u _ _; simp [dec_nil]
  | cons b r ih =>
    intro i u hi hu
    have hb := b.toNat_lt
    have hx : b.toNat % 128 < 128 := Nat.mod_lt _ (by omega)
    by_cases h9 : i = 9 ∧ 1 < b.toNat
    · obtain ⟨rfl, h⟩ := h9
      rw [dec_big h]; simp
    · have h9' : i = 9 → b.toNat % 128 ≤ 1 := fun e => by omega
      by_cases h : b.toNat < 128
      · by_cases h0 : b.toNat = 0 ∧ 0 < i
        · rw [dec_zero h0.1 h0.2]; simp
        · rw [dec_last h9 h h0]
          have := group_64 hu hx hi h9'
          simp only [List.length_cons]
          refine ⟨this, by omega, by simp, by simp⟩
      · rw [dec_more h9 h]
        have := ih (i + 1) (u + b.toNat % 128 * 2 ^ (7 * i)) (by omega) (group_lt hu hx)
        simp only [List.length_cons]
        refine ⟨this.1, by omega, this.2.2.1, this.2.2.2⟩

/-- the zigzag number back -/
def unf (u : Nat) : Int := if u % 2 = 0 then (u / 2 : Nat) else -((u / 2 : Nat) : Int) - 1
theorem unf_bd {u : Nat} (h : u < 18446744073709551616) : -9223372036854775808 ≤ unf u ∧ unf u ≤ 9223372036854775807 := by
  unfold unf; split <;> omega
end Go.Proofs.YtdedomfocljhaaaGreatDoor.GetM
