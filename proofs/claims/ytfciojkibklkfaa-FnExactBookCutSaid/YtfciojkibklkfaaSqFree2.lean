/- IsFree, in the program and in its model: contracts. -/
import Derived.Test.YtfciojkibklkfaaTk
import Derived.Test.YtfciojkibklkfaaTk
import Derived.Test.YtfciojkibklkfaaSqFree
namespace Go.Proofs.Ytfciojkibklkfaa.SpanC
open Go.RowKit KeptC
set_option linter.unusedSimpArgs false
set_option linter.unusedVariables false

set_option maxRecDepth 100000 in
set_option maxHeartbeats 3200000 in
theorem free_spec (qa : Option Addr) (n qc : Nat) (f : Nat → Int × Int) (a b : Int) (w : World) (hn : n ≤ 1048576) (h1 : PA w qa n f) :
    Calls Try.prog 59 #[.slice qa n qc, .agg #[.int .i64 a, .int .i64 b]] w (ResB (FreeP n f a b) w) := by
  have H1 := Lib.hid h1
  clear h1
  go_enter Try.func59, Try.ntmps59
  go_wp2
  go_loopw [5] (fun i wr => ∃ k : Nat, k ≤ n ∧ i = .int .i64 k ∧ (∀ j, j < k → ¬ ((f j).1 < b ∧ a < (f j).2)) ∧ Below (w.heap.size + 1) (w.alloc (.cells #[.int .i64 a, .int .i64 b] 25)) wr) (fun i _ => n - (intOf i).toNat)
  case atStart => exact ⟨0, Nat.zero_le _, rfl, fun j h => absurd h (Nat.not_lt_zero _), by simpa using Below.refl _ _⟩
  case round =>
    obtain ⟨k, hk, rfl, hall, hb⟩ := hrel
    have HA := Lib.hid hall
    have HB := Lib.hid hb
    have ⟨hx0, hx1, hxl⟩ := box0 hb
    have hsz : w.heap.size + 1 ≤ wr.heap.size := hxl
    clear hall
    by_cases hlt : k < n
    · obtain ⟨g, o, rfl, hgl, hc0, hc1⟩ := (H1.out.bel (bel1 hb)) _ hlt
      have hi0 : (0 : Int) ≤ (k : Int) := Int.natCast_nonneg _
      have hi1 : (k : Int) < (n : Int) := by omega
      clear hb
      by_cases g1 : (f k).1 < b
      · have g1' : decide ((f k).1 < b) = true := decide_eq_true g1
        by_cases g2 : a < (f k).2
        · have g2' : decide (a < (f k).2) = true := decide_eq_true g2
          have HN := Lib.hid (show ¬ FreeP n f a b from fun h => h k hlt ⟨g1, g2⟩)
          go_wp2_with fail
          refine wp_region_held_drew (S := (fun W => W.cell? ⟨g, o + k * 2, none⟩ = some (.int .i64 (f k).1) ∧ W.cell? ⟨g, o + k * 2 + 1, none⟩ = some (.int .i64 (f k).2) ∧ W.cell? ⟨w.heap.size, 0, none⟩ = some (.int .i64 a) ∧ W.cell? ⟨w.heap.size, 1, none⟩ = some (.int .i64 b) ∧ wr.heap.size ≤ W.heap.size ∧ Below (w.heap.size + 1) (w.alloc (.cells #[.int .i64 a, .int .i64 b] 25)) W)) (by kernel_rfl) (⟨hc0, hc1, hx0, hx1, Nat.le_refl _, HB.out.drew⟩) (fun hHeld => ?_)
          refine tk 0 hHeld ?_
          refine tk 1 hHeld ?_
          refine tk 2 hHeld ?_
          refine tk 3 hHeld ?_
          refine tk 4 hHeld ?_
          refine tk 5 hHeld ?_
          refine tk 6 hHeld ?_
          refine tk 7 hHeld ?_
          refine tk 8 hHeld ?_
          refine tk 9 hHeld ?_
          refine tk 10 hHeld ?_
          refine tk 11 hHeld ?_
          refine tk 12 hHeld ?_
          refine tk 13 hHeld ?_
          refine tk 14 hHeld ?_
          refine tk 15 hHeld ?_
          refine tk 16 hHeld ?_
          refine tk 17 hHeld ?_
          refine rd0 ?_
          have HF := Lib.hid hHeld.2.2.2.2.2
          clear hHeld
          go_wp2
          go_ret
          exact resB_no HN.out (bel1 HF.out)
        · have g2' : decide (a < (f k).2) = false := decide_eq_false g2
          have HOK := Lib.hid (all_step (P := fun j => ¬ ((f j).1 < b ∧ a < (f j).2)) HA.out (fun h => g2 h.2))
          go_wp2_with fail
          refine wp_region_held_drew (S := (fun W => W.cell? ⟨g, o + k * 2, none⟩ = some (.int .i64 (f k).1) ∧ W.cell? ⟨g, o + k * 2 + 1, none⟩ = some (.int .i64 (f k).2) ∧ W.cell? ⟨w.heap.size, 0, none⟩ = some (.int .i64 a) ∧ W.cell? ⟨w.heap.size, 1, none⟩ = some (.int .i64 b) ∧ wr.heap.size ≤ W.heap.size ∧ Below (w.heap.size + 1) (w.alloc (.cells #[.int .i64 a, .int .i64 b] 25)) W)) (by kernel_rfl) (⟨hc0, hc1, hx0, hx1, Nat.le_refl _, HB.out.drew⟩) (fun hHeld => ?_)
          refine tk 0 hHeld ?_
          refine tk 1 hHeld ?_
          refine tk 2 hHeld ?_
          refine tk 3 hHeld ?_
          refine tk 4 hHeld ?_
          refine tk 5 hHeld ?_
          refine tk 6 hHeld ?_
          refine tk 7 hHeld ?_
          refine tk 8 hHeld ?_
          refine tk 9 hHeld ?_
          refine tk 10 hHeld ?_
          refine tk 11 hHeld ?_
          refine tk 12 hHeld ?_
          refine tk 13 hHeld ?_
          refine tk 14 hHeld ?_
          refine tk 15 hHeld ?_
          refine tk 16 hHeld ?_
          refine tk 17 hHeld ?_
          refine rd0 ?_
          have HF := Lib.hid hHeld.2.2.2.2.2
          clear hHeld
          go_wp2
          go_roundw
          case rel => exact ⟨k + 1, by omega, by go_num, HOK.out, HF.out⟩
          case measure => simp [intOf]; omega
      · have g1' : decide ((f k).1 < b) = false := decide_eq_false g1
        have HOK := Lib.hid (all_step (P := fun j => ¬ ((f j).1 < b ∧ a < (f j).2)) HA.out (fun h => g1 h.1))
        go_wp2_with fail
        refine wp_region_held_drew (S := (fun W => W.cell? ⟨g, o + k * 2, none⟩ = some (.int .i64 (f k).1) ∧ W.cell? ⟨g, o + k * 2 + 1, none⟩ = some (.int .i64 (f k).2) ∧ W.cell? ⟨w.heap.size, 0, none⟩ = some (.int .i64 a) ∧ W.cell? ⟨w.heap.size, 1, none⟩ = some (.int .i64 b) ∧ wr.heap.size ≤ W.heap.size ∧ Below (w.heap.size + 1) (w.alloc (.cells #[.int .i64 a, .int .i64 b] 25)) W)) (by kernel_rfl) (⟨hc0, hc1, hx0, hx1, Nat.le_refl _, HB.out.drew⟩) (fun hHeld => ?_)
        refine tk 0 hHeld ?_
        refine tk 1 hHeld ?_
        refine tk 2 hHeld ?_
        refine tk 3 hHeld ?_
        refine tk 4 hHeld ?_
        refine tk 5 hHeld ?_
        refine tk 6 hHeld ?_
        refine tk 7 hHeld ?_
        refine tk 8 hHeld ?_
        refine tn 9 hHeld ?_
        refine tn 10 hHeld ?_
        refine tn 11 hHeld ?_
        refine tn 12 hHeld ?_
        refine tn 13 hHeld ?_
        refine tn 14 hHeld ?_
        refine tn 15 hHeld ?_
        refine tn 16 hHeld ?_
        refine tk 17 hHeld ?_
        refine rd0 ?_
        have HF := Lib.hid hHeld.2.2.2.2.2
        clear hHeld
        go_wp2
        go_roundw
        case rel => exact ⟨k + 1, by omega, by go_num, HOK.out, HF.out⟩
        case measure => simp [intOf]; omega
    · have HY := Lib.hid (show FreeP n f a b from fun i hi => HA.out i (by omega))
      clear hb
      go_wp2
      go_ret
      exact resB_yes HY.out (bel1 HB.out)

def FreeB (n : Nat) (f : Nat → Int × Int) (a b : Int) : Prop := SpR n f ∧ spP a b ∧ FreeP n f a b

set_option maxRecDepth 100000 in
set_option maxHeartbeats 3200000 in
theorem isfree_spec (qa : Option Addr) (n qc : Nat) (f : Nat → Int × Int) (a b : Int) (w : World) (hn : n ≤ 1048576) (h1 : PA w qa n f) :
    Calls Try.prog 97 #[.slice qa n qc, .agg #[.int .i64 a, .int .i64 b]] w (ResB (FreeB n f a b) w) := by
  have H1 := Lib.hid h1
  clear h1
  go_enter Try.func97, Try.ntmps97
  go_wp2_with fail
  refine (spansA_spec qa n qc f _ hn (H1.out.bel ((Below.refl _ _).alloc (Nat.le_refl _) _))).mono ?_
  intro e wr h
  obtain ⟨c, rfl, hc, hb⟩ := resB_elim h
  have hb : Below (w.heap.size + 1) (w.alloc (.cells #[.int .i64 a, .int .i64 b] 25)) wr := by simpa using hb
  have HB := Lib.hid hb
  have ⟨hx0, hx1, hxl⟩ := box0 hb
  have hsz : w.heap.size + 1 ≤ wr.heap.size := hxl
  clear h
  cases c with
  | false =>
    have HN := Lib.hid (show ¬ FreeB n f a b from fun h => by have := hc.2 h.1; cases this)
    clear hb hc
    go_wp2
    go_ret
    exact resB_no HN.out (bel1 HB.out)
  | true =>
    have HS := Lib.hid (hc.1 rfl)
    clear hb hc
    go_wp2_with fail
    cases hr : spB a b with
    | false =>
      have hrs := fun W => right_spec a b W
      rw [hr] at hrs
      have HN := Lib.hid (show ¬ FreeB n f a b from fun h => by have := (spB_iff _ _).2 h.2.1; rw [hr] at this; cases this)
      clear hr
      refine (hrs _).mono ?_
      rintro e w1 ⟨rfl, hb⟩
      have HF := Lib.hid (HB.out.trans (hb.mono hsz))
      clear hb
      go_wp2
      go_ret
      exact resB_no HN.out (bel1 HF.out)
    | true =>
      have hrs := fun W => right_spec a b W
      rw [hr] at hrs
      have hP := (spB_iff _ _).1 hr
      clear hr
      refine (hrs _).mono ?_
      rintro e w1 ⟨rfl, hb⟩
      have HF := Lib.hid (HB.out.trans (hb.mono hsz))
      have ⟨hy0, hy1, hyl⟩ := box0 HF.out
      clear hb hx0 hx1
      go_wp2_with fail
      refine (free_spec qa n qc f a b _ hn (H1.out.bel (bel1 HF.out))).mono ?_
      intro e w2 h
      obtain ⟨c, rfl, hc, hb⟩ := resB_elim h
      have HF2 := Lib.hid (HF.out.trans (hb.mono hyl))
      have HC := Lib.hid (show c = true ↔ FreeB n f a b from ⟨fun h => ⟨HS.out, hP, hc.1 h⟩, fun h => hc.2 h.2.2⟩)
      clear h hb hc
      go_wp2
      go_ret
      exact ⟨c, rfl, HC.out, bel1 HF2.out⟩

set_option maxRecDepth 100000 in
set_option maxHeartbeats 3200000 in
theorem isfree_impl (qa : Option Addr) (n qc : Nat) (f : Nat → Int × Int) (a b : Int) (w : World) (hn : n ≤ 1048576) (h1 : PA w qa n f) :
    Calls Try.prog 23 #[.slice qa n qc, .agg #[.int .i64 a, .int .i64 b]] w (ResB (FreeB n f a b) w) := by
  have H1 := Lib.hid h1
  clear h1
  go_enter Try.func23, Try.ntmps23
  go_wp2_with fail
  refine (spans_impl qa n qc f _ hn (H1.out.bel ((Below.refl _ _).alloc (Nat.le_refl _) _))).mono ?_
  intro e wr h
  obtain ⟨c, rfl, hc, hb⟩ := resB_elim h
  have hb : Below (w.heap.size + 1) (w.alloc (.cells #[.int .i64 a, .int .i64 b] 25)) wr := by simpa using hb
  have HB := Lib.hid hb
  have ⟨hx0, hx1, hxl⟩ := box0 hb
  have hsz : w.heap.size + 1 ≤ wr.heap.size := hxl
  clear h
  cases c with
  | false =>
    have HN := Lib.hid (show ¬ FreeB n f a b from fun h => by have := hc.2 h.1; cases this)
    clear hb hc
    go_wp2
    go_ret
    exact resB_no HN.out (bel1 HB.out)
  | true =>
    have HS := Lib.hid (hc.1 rfl)
    clear hb hc
    go_wp2_with fail
    cases hr : spB a b with
    | false =>
      have hrs := fun W => right_impl a b W
      rw [hr] at hrs
      have HN := Lib.hid (show ¬ FreeB n f a b from fun h => by have := (spB_iff _ _).2 h.2.1; rw [hr] at this; cases this)
      clear hr
      refine (hrs _).mono ?_
      rintro e w1 ⟨rfl, hb⟩
      have HF := Lib.hid (HB.out.trans (hb.mono hsz))
      clear hb
      go_wp2
      go_ret
      exact resB_no HN.out (bel1 HF.out)
    | true =>
      have hrs := fun W => right_impl a b W
      rw [hr] at hrs
      have hP := (spB_iff _ _).1 hr
      clear hr
      refine (hrs _).mono ?_
      rintro e w1 ⟨rfl, hb⟩
      have HF := Lib.hid (HB.out.trans (hb.mono hsz))
      have ⟨hy0, hy1, hyl⟩ := box0 HF.out
      clear hb hx0 hx1
      go_wp2_with fail
      refine (fits_impl qa n qc f a b _ hn (H1.out.bel (bel1 HF.out)) HS.out hP.2.1).mono ?_
      intro e w2 h
      obtain ⟨c, rfl, hc, hb⟩ := resB_elim h
      have HF2 := Lib.hid (HF.out.trans (hb.mono hyl))
      have HC := Lib.hid (show c = true ↔ FreeB n f a b from ⟨fun h => ⟨HS.out, hP, hc.1 h⟩, fun h => hc.2 h.2.2⟩)
      clear h hb hc
      go_wp2
      go_ret
      exact ⟨c, rfl, HC.out, bel1 HF2.out⟩
end Go.Proofs.Ytfciojkibklkfaa.SpanC
