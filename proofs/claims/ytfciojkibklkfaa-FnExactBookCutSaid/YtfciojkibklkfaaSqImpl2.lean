/- SpansRight in the program: a contract. -/
import Derived.Test.YtfciojkibklkfaaSqImpl
namespace Go.Proofs.Ytfciojkibklkfaa.SpanC
open Go.RowKit KeptC
set_option linter.unusedSimpArgs false

theorem spR_of {n : Nat} {f : Nat → Int × Int} (h : n ≤ 20) (h1 : ∀ i, i < n → spB (f i).1 (f i).2 = true) (h2 : Ord n f) : SpR n f :=
  ⟨h, fun i hi => ⟨h1 i hi, fun h0 => by
    have := h2 (i - 1) (by omega)
    rwa [show i - 1 + 1 = i by omega] at this⟩⟩
theorem ord_of {n : Nat} {f : Nat → Int × Int} (h : SpR n f) : Ord n f := fun j hj => (h.2 (j + 1) hj).2 (Nat.succ_pos _)

set_option maxRecDepth 100000 in
set_option maxHeartbeats 3200000 in
theorem spans_impl (qa : Option Addr) (n qc : Nat) (f : Nat → Int × Int) (w : World) (hn : n ≤ 1048576) (h1 : PA w qa n f) :
    Calls Try.prog 68 #[.slice qa n qc] w (ResB (SpR n f) w) := by
  have H1 := Lib.hid h1
  clear h1
  by_cases h20 : n ≤ 20
  · have hd : decide ((20 : Int) < (n : Int)) = false := decide_eq_false (by omega)
    go_enter Try.func68, Try.ntmps68
    go_wp2
    go_loopw [10] (fun i wr => ∃ k : Nat, k ≤ n ∧ i = .int .i64 k ∧ (∀ j, j < k → spB (f j).1 (f j).2 = true) ∧ Below w.heap.size w wr) (fun i _ => n - (intOf i).toNat)
    case atStart => exact ⟨0, Nat.zero_le _, rfl, fun j h => absurd h (Nat.not_lt_zero _), Below.refl _ _⟩
    case round =>
      obtain ⟨k, hk, rfl, hall, hb⟩ := hrel
      have HA := Lib.hid hall
      have HB := Lib.hid hb
      have hsz := hb.size
      clear hall
      by_cases hlt : k < n
      · obtain ⟨g, o, rfl, hgl, hc0, hc1⟩ := (H1.out.bel hb) _ hlt
        have hi0 : (0 : Int) ≤ (k : Int) := Int.natCast_nonneg _
        have hi1 : (k : Int) < (n : Int) := by omega
        have hrs := fun W => right_impl (f k).1 (f k).2 W
        clear hb
        cases hr : spB (f k).1 (f k).2 with
        | false =>
          have Hno := Lib.hid (show ¬ SpR n f from fun h => by have := (h.2 k hlt).1; rw [hr] at this; cases this)
          rw [hr] at hrs
          clear hr
          go_wp2_with (go_at_call 50; refine (hrs _).mono ?_; rintro e w1 ⟨rfl, hb⟩; have HB2 := Lib.hid (Below.trans (B := w.heap.size) (a := w) (by repeat (first | exact HB.out | refine Below.drew ?_ | refine Below.setCell ?_ (by first | omega | (simp <;> omega)) _ | refine Below.alloc ?_ (by first | omega | (simp <;> omega)) _)) (hb.mono (by first | omega | (simp <;> omega)))); clear hb)
          go_ret
          exact resB_no Hno.out HB2.out
        | true =>
          have HOK := Lib.hid (all_step HA.out hr)
          rw [hr] at hrs
          clear hr
          go_wp2_with (go_at_call 50; refine (hrs _).mono ?_; rintro e w1 ⟨rfl, hb⟩; have HB2 := Lib.hid (Below.trans (B := w.heap.size) (a := w) (by repeat (first | exact HB.out | refine Below.drew ?_ | refine Below.setCell ?_ (by first | omega | (simp <;> omega)) _ | refine Below.alloc ?_ (by first | omega | (simp <;> omega)) _)) (hb.mono (by first | omega | (simp <;> omega)))); clear hb)
          go_roundw
          case rel => exact ⟨k + 1, by omega, by go_num, HOK.out, HB2.out⟩
          case measure => simp [intOf]; omega
      · clear hb
        obtain rfl : k = n := by omega
        go_wp2_with fail
        refine (order_impl qa k qc f _ hn (H1.out.bel HB.out)).mono ?_
        intro e w1 h
        obtain ⟨b, rfl, hb, hB⟩ := resB_elim h
        have HB2 := Lib.hid (HB.out.trans (hB.mono hsz))
        have Hb := Lib.hid (show b = true ↔ SpR k f from ⟨fun h => spR_of h20 HA.out (hb.1 h), fun h => hb.2 (ord_of h)⟩)
        clear h hB hb
        go_wp2
        go_ret
        exact ⟨b, rfl, Hb.out, HB2.out⟩
  · have Hno := Lib.hid (show ¬ SpR n f from fun h => h20 h.1)
    have hd : decide ((20 : Int) < (n : Int)) = true := decide_eq_true (by omega)
    go_enter Try.func68, Try.ntmps68
    go_wp2
    go_ret
    exact resB_no Hno.out (Below.refl _ _)
end Go.Proofs.Ytfciojkibklkfaa.SpanC
