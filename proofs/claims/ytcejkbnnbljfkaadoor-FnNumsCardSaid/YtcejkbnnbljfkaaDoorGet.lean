/- GetNum, in the program and in its model: contracts. -/
import Derived.Test.YtcejkbnnbljfkaaDoorAs
import Derived.Test.YtcejkbnnbljfkaaDoorGetMath
import Derived.LoopTactic
import Derived.ScopeJumps
import Derived.WalkMore
import Derived.IntWalk
namespace Go.Proofs.YtcejkbnnbljfkaaDoor.GetC
open Go.RowKit GetM AsC

/-- a NumOut -/
def numV (n a c : Int) : Value := .agg #[.int .i64 n, .int .i64 a, .int .i64 c]
def gotOf (s : ByteArray) (a : Nat) : Got := dec (s.data.toList.drop a) 0 0
def getV (s : ByteArray) (a : Int) : Value :=
  if s.size ≤ 8000 then
    if 0 ≤ a then
      if (gotOf s a.toNat).code = 0 then numV (unf (gotOf s a.toNat).u) (a + (gotOf s a.toNat).used) 0 else numV 0 0 (gotOf s a.toNat).code
    else numV 0 0 1
  else numV 0 0 2

theorem drop_cons (s : ByteArray) (k : Nat) (h : k < s.size) : s.data.toList.drop k = s[k] :: s.data.toList.drop (k + 1) := by
  rw [List.drop_eq_getElem_cons (by simpa using h)]; rfl
theorem drop_end (s : ByteArray) (k : Nat) (h : ¬ k < s.size) : s.data.toList.drop k = [] := List.drop_of_length_le (by simp; omega)

theorem ret_v {a b : Value} (h : a = b) : Ending.returned a = .returned b := by rw [h]
theorem getV_ok {s : ByteArray} {a : Nat} (hs : s.size ≤ 8000) {y n : Nat} (h : gotOf s a = ⟨0, y, n⟩) : getV s (a : Int) = numV (unf y) ((a : Int) + n) 0 := by
  unfold getV
  rw [if_pos hs, if_pos (by omega), Int.toNat_natCast, h]
  simp
theorem getV_bad {s : ByteArray} {a : Nat} (hs : s.size ≤ 8000) {c : Int} (hc : c ≠ 0) (h : gotOf s a = ⟨c, 0, 0⟩) : getV s (a : Int) = numV 0 0 c := by
  unfold getV
  rw [if_pos hs, if_pos (by omega), Int.toNat_natCast, h]
  simp [hc]
theorem unf_even {y : Nat} (h : y % 2 = 0) : unf y = ((y / 2 : Nat) : Int) := by unfold unf; rw [if_pos h]
theorem unf_odd {y : Nat} (h : ¬ y % 2 = 0) : unf y = -((y / 2 : Nat) : Int) - 1 := by unfold unf; rw [if_neg h]
theorem wrap_u64_in {x : Int} (h : 0 ≤ x) (h2 : x < 18446744073709551616) : IntKind.u64.wrap x = x := by simp only [IntKind.wrap_u64]; omega
theorem num_eq {n n' a a' c : Int} (h : n = n') (h2 : a = a') : numV n a c = numV n' a' c := by rw [h, h2]
/-- the group, as the model computes it -/
theorem sum_form {k x b : Nat} (hk : k ≤ 9) (hx : x < 2 ^ (7 * k)) (h9 : k = 9 → b % 128 ≤ 1) :
    IntKind.u64.wrap ((x : Int) + IntKind.u64.wrap ((b : Int) % 128 * 2 ^ (7 * k))) = ((x + b % 128 * 2 ^ (7 * k) : Nat) : Int) := by
  have h1 := shl_64 (i := k) (x := b % 128) (Nat.mod_lt _ (by omega)) hk h9
  have h2 := group_64 hx (Nat.mod_lt b (by omega : 0 < 128)) hk h9
  have e : (b : Int) % 128 * 2 ^ (7 * k) = ((b % 128 * 2 ^ (7 * k) : Nat) : Int) := by simp
  rw [e, wrap_u64_in (x := ((b % 128 * 2 ^ (7 * k) : Nat) : Int)) (by omega) (by omega), wrap_u64_in (by omega) (by omega)]
  omega
theorem sum_form9 {x : Nat} (hx : x < 9223372036854775808) :
    IntKind.u64.wrap ((x : Int) + 9223372036854775808) = ((x + 9223372036854775808 : Nat) : Int) := by
  rw [wrap_u64_in (by omega) (by omega)]; omega

end Go.Proofs.YtcejkbnnbljfkaaDoor.GetC
