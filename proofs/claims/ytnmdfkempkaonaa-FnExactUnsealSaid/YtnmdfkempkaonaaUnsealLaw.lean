/- The law of Unseal, out of the contracts. -/
import Derived.Test.YtnmdfkempkaonaaUnseal
namespace Go.Proofs.Ytnmdfkempkaonaa.SealC
open Go.RowKit PutM PutC JoinC CrcC

theorem eq_out (t : ByteArray) (p c : Int) (w : World) : Calls Try.prog 16 #[outV t p c, outV t p c] w fun e w' => e = .returned (.bool true) ∧ Below w.heap.size w w' := by
  unfold outV
  go_enter Try.func16, Try.ntmps16
  go_wp2
  all_goals
    go_ret
    exact ⟨rfl, ((Below.refl _ _).alloc (Nat.le_refl _) _).alloc (by simp) _⟩
theorem law_unseal (s : ByteArray) (hs : s.size ≤ maxLen) (w : World) :
    Calls Try.prog 5 #[.string s] w fun e w' => e = .returned (.bool true) ∧ Below w.heap.size w w' := by
  have hs' := hs
  unfold maxLen at hs'
  by_cases h1 : s.size ≤ 1048576
  · go_enter Try.func5, Try.ntmps5
    go_wp2_with fail
    refine (unseal_spec _ _ hs).mono ?_
    unfold unsealV outV
    rintro e w1 ⟨rfl, hb1⟩
    have HB1 := Lib.hid hb1
    clear hb1
    go_wp2_with fail
    refine (unseal_impl _ _ hs).mono ?_
    unfold unsealV outV
    rintro e w2 ⟨rfl, hb2⟩
    have HB2 := Lib.hid ((HB1.out.alloc HB1.out.size _).trans (hb2.mono (HB1.out.alloc HB1.out.size _).size))
    have ⟨d0, d1, d2, e0, e1, e2⟩ := cells3 hb2 (a := .string (unsealT s)) (b := .int .i64 0) (c := .int .i64 (unsealE s)) (B := w1.heap.size) (by simp) (by simp) (by simp) (fun j => by simp)
    have hz : w1.heap.size < w2.heap.size := by have := hb2.size; simp at this; omega
    clear hb2
    go_wp2_with fail
    refine (eq_out _ _ _ _).mono ?_
    rintro e w3 ⟨rfl, hb3⟩
    have HB3 := Lib.hid ((HB2.out.alloc HB2.out.size _).trans (hb3.mono (HB2.out.alloc HB2.out.size _).size))
    clear hb3
    go_wp2
    all_goals
      go_ret
      exact ⟨rfl, HB3.out⟩
  · go_enter Try.func5, Try.ntmps5
    go_wp2
    go_ret
    exact ⟨rfl, Below.refl _ _⟩
end Go.Proofs.Ytnmdfkempkaonaa.SealC
