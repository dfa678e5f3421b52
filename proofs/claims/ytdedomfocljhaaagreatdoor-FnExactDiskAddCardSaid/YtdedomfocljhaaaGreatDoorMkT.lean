/- The mark k as a text: the laws' markText. -/
import Derived.Test.YtdedomfocljhaaaGreatDoorSt
import Derived.Test.YtdedomfocljhaaaGreatDoorDraws
namespace Go.Proofs.YtdedomfocljhaaaGreatDoor.RepC
open Go.RowKit RowC ValC
set_option linter.unusedSimpArgs false
set_option linter.unusedVariables false

theorem sz1 (c : UInt8) (out : ByteArray) : ((⟨#[c]⟩ : ByteArray) ++ out).size = 1 + out.size := by rw [ByteArray.size_append]; rfl
theorem conv_one (W : World) (c : UInt8) : (convert 90 9 (.slice (some ⟨W.heap.size, 0, none⟩) 1 1)).run Tryz.prog (W.alloc (.cells #[.int .u8 (c.toNat : Int)] 5)) = .ok (.string ⟨#[c]⟩) (W.alloc (.cells #[.int .u8 (c.toNat : Int)] 5)) := by
  have h := DrawC.conv_of_own (B := 0) (w := W.alloc (.cells #[.int .u8 (c.toNat : Int)] 5)) (v := .slice (some ⟨W.heap.size, 0, none⟩) 1 1) (l := [c]) ?_
  · simpa [DrawC.bytesOf] using h
  · exact ⟨by simp, .inr ⟨W.heap.size, 1, #[.int .u8 (c.toNat : Int)], rfl, Nat.zero_le _, heap_alloc_new W _, Nat.le_refl _, by decide, rfl, rfl⟩⟩
theorem mt_step {q n k : Nat} (hq : 0 < q) (h : 2 ^ n * (q + 1) ≤ k) : 2 ^ (1 + n) * (q / 10 + 1) ≤ k := by
  have h1 : 2 * (q / 10 + 1) ≤ q + 1 := by omega
  calc 2 ^ (1 + n) * (q / 10 + 1) = 2 ^ n * (2 * (q / 10 + 1)) := by rw [Nat.add_comm, Nat.pow_succ, Nat.mul_assoc]
    _ ≤ 2 ^ n * (q + 1) := Nat.mul_le_mul_left _ h1
    _ ≤ k := h
theorem mt_small {q n k : Nat} (h : 2 ^ n * (q + 1) ≤ k + 1) (hk : k ≤ 4611686018427387904) : n ≤ 63 := by
  have h1 : 2 ^ n ≤ 2 ^ 63 := by
    have := Nat.le_mul_of_pos_right (2 ^ n) (show 0 < q + 1 by omega)
    have h2 : (2 : Nat) ^ 63 = 9223372036854775808 := by decide
    omega
  exact (Nat.pow_le_pow_iff_right (by decide)).1 h1
def MkT (k : Int) (w : World) (e : Ending) (w' : World) : Prop := e = .returned (.string (mtI k)) ∧ (mtI k).size ≤ maxLen ∧ Below w.heap.size w w'
theorem mkT_elim {k : Int} {w : World} {e : Ending} {w' : World} (h : MkT k w e w') : e = .returned (.string (mtI k)) ∧ (mtI k).size ≤ maxLen ∧ Below w.heap.size w w' := h
set_option maxRecDepth 100000 in
set_option maxHeartbeats 1600000 in
theorem marktext_v (z : Int) (w : World) (h0 : 0 ≤ z) (h2 : z ≤ 4611686018427387904) : Calls Tryz.prog 54 #[.int .i64 z] w (MkT z w) := by
  by_cases hz : z ≤ 0
  · have hd : decide (z ≤ 0) = true := decide_eq_true hz
    have HE := Lib.hid (show mtI z = ⟨#[109, 48]⟩ from if_pos hz)
    go_enter Tryz.func54, Tryz.ntmps54
    go_wp2
    go_ret
    exact ⟨by rw [HE.out]; rfl, by rw [HE.out]; decide, Below.refl _ _⟩
  have hd : decide (z ≤ 0) = false := decide_eq_false hz
  obtain ⟨k, rfl⟩ : ∃ k : Nat, z = k := ⟨z.toNat, by omega⟩
  have HK := Lib.hid (show mtI k = ⟨#[109]⟩ ++ mtl k ⟨#[]⟩ from by unfold mtI; rw [if_neg hz]; rfl)
  go_enter Tryz.func54, Tryz.ntmps54
  go_wp2
  go_loopw [0, 3] (fun i v wr => ∃ (q : Nat) (out : ByteArray), 2 ^ out.size * (q + 1) ≤ k + 1 ∧ i = .int .i64 q ∧ v = .string out ∧ q ≤ k ∧ mtl q out = mtl k ⟨#[]⟩ ∧ Below w.heap.size w wr) (fun i _ _ => (intOf i).toNat)
  case atStart => exact ⟨k, ⟨#[]⟩, by simp [ByteArray.size], rfl, rfl, Nat.le_refl _, rfl, Below.refl _ _⟩
  case round =>
    obtain ⟨q, out, hpw, rfl, rfl, hqk, hm, hb⟩ := hrel
    have HM := Lib.hid hm
    have HB := Lib.hid hb
    have HPW := Lib.hid hpw
    have hs1 : out.size ≤ 63 := mt_small hpw (by omega)
    clear hm hb hpw
    by_cases hq : 0 < q
    · have hpos : (0 : Int) < (q : Int) := by omega
      have hd2 : decide ((0 : Int) < (q : Int)) = true := decide_eq_true hpos
      have hc : ((48 + UInt8.ofNat (q % 10)).toNat : Int) = 48 + (q : Int) % 10 := by rw [show 48 + UInt8.ofNat (q % 10) = UInt8.ofNat (48 + q % 10) by simp, UInt8.toNat_ofNat']; omega
      have hconv := conv_one wr (48 + UInt8.ofNat (q % 10))
      rw [hc] at hconv
      have HC := Lib.hid (mtl_pos hq out)
      have HQ := Lib.hid hq
      clear hc
      go_wp2
      go_roundw
      case rel => exact ⟨q / 10, _, by rw [sz1]; exact mt_step HQ.out HPW.out, by go_num, rfl, by omega, by rw [← HC.out]; exact HM.out, HB.out.alloc HB.out.size _⟩
      case measure => simp [intOf]; omega
    · obtain rfl : q = 0 := by omega
      have HE := Lib.hid (show mtI k = ⟨#[109]⟩ ++ out from by rw [HK.out, ← HM.out, mtl_zero])
      have HL := Lib.hid (show (mtI k).size ≤ maxLen from by rw [HE.out, sz1]; unfold maxLen; omega)
      go_wp2
      go_ret
      exact ⟨by rw [HE.out]; rfl, HL.out, HB.out⟩
end Go.Proofs.YtdedomfocljhaaaGreatDoor.RepC
