/- FrameBytes, in the program and in its model: contracts. -/
import Derived.Test.YtdedomfocljhaaaDoorTk
import Derived.Test.YtdedomfocljhaaaDoorTk
import Derived.Test.YtdedomfocljhaaaDoorFrP
import Derived.Test.YtdedomfocljhaaaDoorTk
import Derived.Test.YtdedomfocljhaaaDoorRep3
namespace Go.Proofs.YtdedomfocljhaaaDoor.FrC
open Go.RowKit PutM PutC JoinC SealC SpanC KeptC RepC
set_option linter.unusedVariables false
set_option linter.unusedSimpArgs false
set_option maxRecDepth 100000

theorem frame_s (n : Int) (t : ByteArray) (w : World) (ht : t.size ≤ maxLen) :
    Calls Tryd.prog 31 #[.agg #[.int .i64 n, .string t]] w fun e w' => e = .returned (.bool (frB n t)) ∧ Below w.heap.size w w' := by
  unfold maxLen at ht
  have HB := Lib.hid (show Below w.heap.size w (w.alloc (.cells #[.int .i64 n, .string t] 23)) from (Below.refl _ _).alloc (Nat.le_refl _) _)
  cases hT : isB n 0 1000000 with
  | false =>
    have HE := Lib.hid (show frB n t = false from by unfold frB; rw [hT]; rfl)
    have HC := Lib.hid (fun w => hT ▸ time_spec n w)
    clear hT
    go_enter Tryd.func31, Tryd.ntmps31
    go_wp2_with fail
    refine (HC.out _).mono ?_
    rintro e w1 ⟨rfl, rfl⟩
    go_wp2
    go_ret
    exact ⟨by rw [HE.out] <;> rfl, HB.out⟩
  | true =>
    have HE := Lib.hid (show frB n t = decide (t.size ≤ 2980) from by unfold frB; rw [hT]; rfl)
    have HC := Lib.hid (fun w => hT ▸ time_spec n w)
    clear hT
    by_cases hz : t.size ≤ 2980
    · have hd : decide ((t.size : Int) ≤ 2980) = true := decide_eq_true (by omega)
      have HE2 := Lib.hid (HE.out.trans (decide_eq_true hz))
      go_enter Tryd.func31, Tryd.ntmps31
      go_wp2_with fail
      refine (HC.out _).mono ?_
      rintro e w1 ⟨rfl, rfl⟩
      go_wp2
      go_ret
      exact ⟨by rw [HE2.out] <;> rfl, HB.out⟩
    · have hd : decide ((t.size : Int) ≤ 2980) = false := decide_eq_false (by omega)
      have HE2 := Lib.hid (HE.out.trans (decide_eq_false hz))
      go_enter Tryd.func31, Tryd.ntmps31
      go_wp2_with fail
      refine (HC.out _).mono ?_
      rintro e w1 ⟨rfl, rfl⟩
      go_wp2
      go_ret
      exact ⟨by rw [HE2.out] <;> rfl, HB.out⟩
theorem frame_i (n : Int) (t : ByteArray) (w : World) (ht : t.size ≤ maxLen) :
    Calls Tryd.prog 67 #[.agg #[.int .i64 n, .string t]] w fun e w' => e = .returned (.bool (frB n t)) ∧ Below w.heap.size w w' := by
  unfold maxLen at ht
  have HB := Lib.hid (show Below w.heap.size w (w.alloc (.cells #[.int .i64 n, .string t] 23)) from (Below.refl _ _).alloc (Nat.le_refl _) _)
  cases hT : isB n 0 1000000 with
  | false =>
    have HE := Lib.hid (show frB n t = false from by unfold frB; rw [hT]; rfl)
    have HC := Lib.hid (fun w => hT ▸ time_impl n w)
    clear hT
    go_enter Tryd.func67, Tryd.ntmps67
    go_wp2_with fail
    refine (HC.out _).mono ?_
    rintro e w1 ⟨rfl, rfl⟩
    go_wp2
    go_ret
    exact ⟨by rw [HE.out] <;> rfl, HB.out⟩
  | true =>
    have HE := Lib.hid (show frB n t = decide (t.size ≤ 2980) from by unfold frB; rw [hT]; rfl)
    have HC := Lib.hid (fun w => hT ▸ time_impl n w)
    clear hT
    by_cases hz : t.size ≤ 2980
    · have hd : decide ((t.size : Int) ≤ 2980) = true := decide_eq_true (by omega)
      have HE2 := Lib.hid (HE.out.trans (decide_eq_true hz))
      go_enter Tryd.func67, Tryd.ntmps67
      go_wp2_with fail
      refine (HC.out _).mono ?_
      rintro e w1 ⟨rfl, rfl⟩
      go_wp2
      go_ret
      exact ⟨by rw [HE2.out] <;> rfl, HB.out⟩
    · have hd : decide ((t.size : Int) ≤ 2980) = false := decide_eq_false (by omega)
      have HE2 := Lib.hid (HE.out.trans (decide_eq_false hz))
      go_enter Tryd.func67, Tryd.ntmps67
      go_wp2_with fail
      refine (HC.out _).mono ?_
      rintro e w1 ⟨rfl, rfl⟩
      go_wp2
      go_ret
      exact ⟨by rw [HE2.out] <;> rfl, HB.out⟩
end Go.Proofs.YtdedomfocljhaaaDoor.FrC
