/- Frames: what their bytes are: plain facts. -/
import Derived.Test.YtdedomfocljhaaaGreatDoorUnseal
import Derived.Test.YtdedomfocljhaaaGreatDoorSp
namespace Go.Proofs.YtdedomfocljhaaaGreatDoor.FrC
open Go.RowKit PutM PutC JoinC SealC SpanC
set_option linter.unusedVariables false
set_option linter.unusedSimpArgs false

/-- a frame is right -/
def frB (n : Int) (t : ByteArray) : Bool := isB n 0 1000000 && decide (t.size ≤ 2980)
theorem frB_iff {n : Int} {t : ByteArray} : frB n t = true ↔ (0 ≤ n ∧ n ≤ 1000000) ∧ t.size ≤ 2980 := by unfold frB; simp [isB]
/-- a frame's bytes -/
def bytesF (n : Int) (t : ByteArray) : ByteArray := if frB n t = true then putT (sealOf (fourS n ++ t)) else { data := #[] }
theorem bytesF_yes {n : Int} {t : ByteArray} (h : frB n t = true) : bytesF n t = putT (sealOf (fourS n ++ t)) := if_pos h
theorem bytesF_no {n : Int} {t : ByteArray} (h : frB n t = false) : bytesF n t = { data := #[] } := if_neg (by simp [h])
theorem four_cat (n : Int) (t : ByteArray) : (fourS n ++ t).size = 4 + t.size := by rw [ByteArray.size_append, fourS_size]
theorem seal_size {s : ByteArray} (h : s.size ≤ 7996) : (sealOf s).size = s.size + 4 := by rw [seal_in h, ByteArray.size_append, fourS_size]
theorem frame_seal {n : Int} {t : ByteArray} (h : t.size ≤ 2980) : (sealOf (fourS n ++ t)).size = t.size + 8 := by
  rw [seal_size (by rw [four_cat]; omega), four_cat]; omega
theorem putT_size {s : ByteArray} (h : s.size ≤ 8000) : (putT s).size ≤ s.size + 10 ∧ s.size + 1 ≤ (putT s).size := by
  have h1 := encB_size (n := (s.size : Int)) (by omega) (by omega)
  rw [putT_in h, ByteArray.size_append]
  omega
theorem bytesF_size {n : Int} {t : ByteArray} (h : frB n t = true) : 9 ≤ (bytesF n t).size ∧ t.size + 9 ≤ (bytesF n t).size ∧ (bytesF n t).size ≤ t.size + 18 := by
  have ht := (frB_iff.1 h).2
  have hs := frame_seal (n := n) ht
  have := putT_size (s := sealOf (fourS n ++ t)) (by omega)
  rw [bytesF_yes h]
  omega
theorem bytesF_le (n : Int) (t : ByteArray) : (bytesF n t).size ≤ 2998 := by
  cases h : frB n t with
  | true => have h1 := bytesF_size h; have h2 := (frB_iff.1 h).2; omega
  | false => rw [bytesF_no h]; decide
/-- a frame has bytes if it is right, and none else -/
theorem bytesF_none {n : Int} {t : ByteArray} : bytesF n t = { data := #[] } ↔ frB n t = false := by
  constructor
  · intro h
    cases hf : frB n t with
    | false => rfl
    | true =>
      have := (bytesF_size hf).1
      rw [h] at this
      exact absurd this (by decide)
  · exact bytesF_no
end Go.Proofs.YtdedomfocljhaaaGreatDoor.FrC
