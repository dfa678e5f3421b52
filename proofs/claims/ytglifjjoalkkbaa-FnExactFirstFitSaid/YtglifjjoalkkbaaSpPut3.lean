/- SpanPut, in the program and in its model: contracts. -/
import Derived.Test.YtglifjjoalkkbaaSpPut2
namespace Go.Proofs.Ytglifjjoalkkbaa.SpanC
open Go.RowKit KeptC RowC
set_option linter.unusedSimpArgs false
set_option linter.unusedVariables false

set_option maxRecDepth 100000 in
set_option maxHeartbeats 1600000 in
theorem put_impl (g n : Nat) (f : Nat → Int × Int) (a b : Int) (w : World) (hn : n ≤ 1048576) (h1 : PRow w g 0 n f) (l1 : g < w.heap.size) :
    Calls Try.prog 10 #[.slice (some ⟨g, 0, none⟩) n n, .agg #[.int .i64 a, .int .i64 b]] w (ResRow (PutP n f a b) w) := by
  have H1 := Lib.hid h1
  clear h1
  by_cases h400 : n ≤ 400
  · have hd : decide ((400 : Int) < (n : Int)) = false := decide_eq_false (by omega)
    have hR1 : PRow (w.alloc (.cells #[.int .i64 a, .int .i64 b] 25)) g 0 n f := H1.out.below ((Below.refl _ _).alloc (Nat.le_refl _) _) l1
    by_cases h20 : n = 20
    · have HN := Lib.hid (show ¬ (FreeB n f a b ∧ n < 20) from fun h => by omega)
      have HB := Lib.hid (show Below (w.heap.size + 1) (w.alloc (.cells #[.int .i64 a, .int .i64 b] 25)) (w.alloc (.cells #[.int .i64 a, .int .i64 b] 25)) from Below.refl _ _)
      subst h20
      go_enter Try.func10, Try.ntmps10
      go_wp2_with fail
      refine (clone_impl g 20 f _ hn hR1 (by simp; omega)).mono ?_
      intro e w2 h
      obtain ⟨v, m, h', rfl, hq, hrow, hb⟩ := resRow_elim h
      have HR := Lib.hid (show ResRow (PutP 20 f a b) w (.returned v) w2 from ⟨v, m, h', rfl, .inr (.inl ⟨h400, HN.out, hq.1, hq.2⟩), hrow.lower (by simp), ((Below.refl _ _).alloc (Nat.le_refl _) _).trans (hb.mono (by simp))⟩)
      clear h hq hrow hb hR1
      go_wp2
      go_ret
      exact HR.out
    · have hne : ((n : Int) == 20) = false := by rw [beq_eq_false_iff_ne]; omega
      go_enter Try.func10, Try.ntmps10
      go_wp2_with fail
      refine (isfree_impl g n f a b _ hn hR1 (by simp; omega)).mono ?_
      intro e wr h
      obtain ⟨c, rfl, hc, hb⟩ := resB_elim h
      have hb : Below (w.heap.size + 1) (w.alloc (.cells #[.int .i64 a, .int .i64 b] 25)) wr := by simpa using hb
      have HB := Lib.hid hb
      have ⟨hx0, hx1, hxl⟩ := box0 hb
      clear h hR1
      cases c with
      | false =>
        have HN := Lib.hid (show ¬ (FreeB n f a b ∧ n < 20) from fun h => by have := hc.2 h.1; cases this)
        clear hb hc
        go_wp2_with fail
        refine (clone_impl g n f _ hn (H1.out.below (bel1 HB.out) l1) (by omega)).mono ?_
        intro e w2 h
        obtain ⟨v, m, h', rfl, hq, hrow, hb⟩ := resRow_elim h
        have HR := Lib.hid (show ResRow (PutP n f a b) w (.returned v) w2 from ⟨v, m, h', rfl, .inr (.inl ⟨h400, HN.out, hq.1, hq.2⟩), hrow.lower (by omega), (bel1 HB.out).trans (hb.mono (by omega))⟩)
        clear h hq hrow hb
        go_wp2
        go_ret
        exact HR.out
      | true =>
        have HF := Lib.hid (hc.1 rfl)
        have HL := Lib.hid (show n < 20 by have := HF.out.1.1; omega)
        clear hb hc
        go_wp2_with fail
        refine (with_impl g n f a b _ hn (H1.out.below (bel1 HB.out) l1) (by omega)).mono ?_
        intro e w2 h
        obtain ⟨v, m, h', rfl, hq, hrow, hb⟩ := resRow_elim h
        have HR := Lib.hid (show ResRow (PutP n f a b) w (.returned v) w2 from ⟨v, m, h', rfl, .inr (.inr ⟨h400, HF.out, HL.out, hq.1, hq.2⟩), hrow.lower (by omega), (bel1 HB.out).trans (hb.mono (by omega))⟩)
        clear h hq hrow hb
        go_wp2
        go_ret
        exact HR.out
  · have hd : decide ((400 : Int) < (n : Int)) = true := decide_eq_true (by omega)
    have HR := Lib.hid (show ResRow (PutP n f a b) w (.returned (.slice none 0 0)) (w.alloc (.cells #[.int .i64 a, .int .i64 b] 25)) from ⟨_, 0, f, rfl, .inl ⟨by omega, rfl⟩, RowO.nil _ _ _ _ _, (Below.refl _ _).alloc (Nat.le_refl _) _⟩)
    go_enter Try.func10, Try.ntmps10
    go_wp2
    go_ret
    exact HR.out

set_option maxRecDepth 100000 in
set_option maxHeartbeats 3200000 in
theorem put2_spec (g n : Nat) (f : Nat → Int × Int) (a b : Int) (w : World) (hn : n ≤ 1048576) (h1 : PRow w g 0 n f) (l1 : g < w.heap.size) (hF : FreeB n f a b) :
    Calls Try.prog 52 #[.slice (some ⟨g, 0, none⟩) n n, .agg #[.int .i64 a, .int .i64 b]] w (ResRow (fun m h => m = n + 1 ∧ ∃ p, PlaceP n f a p ∧ ∀ i, i < n + 1 → h i = insF f p (a, b) i) w) := by
  have H1 := Lib.hid h1
  have HFr := Lib.hid hF
  clear h1 hF
  go_enter Try.func52, Try.ntmps52
  go_wp2
  go_loopw [5] (fun i wr => ∃ k : Nat, k ≤ n ∧ i = .int .i64 k ∧ (∀ j, j < k → (f j).1 < a) ∧ Below (w.heap.size + 1) (w.alloc (.cells #[.int .i64 a, .int .i64 b] 25)) wr) (fun i _ => n - (intOf i).toNat)
  case atStart => exact ⟨0, Nat.zero_le _, rfl, fun j h => absurd h (Nat.not_lt_zero _), by simpa using Below.refl _ _⟩
  case round =>
    obtain ⟨k, hk, rfl, hall, hb⟩ := hrel
    have HA := Lib.hid hall
    have HB := Lib.hid hb
    have ⟨hx0, hx1, hxl⟩ := box0 hb
    have hsz : w.heap.size + 1 ≤ wr.heap.size := hxl
    have hgl : g < wr.heap.size := by omega
    have hi0 : (0 : Int) ≤ (k : Int) := Int.natCast_nonneg _
    have hik : (k : Int) ≤ (n : Int) := by omega
    clear hall
    by_cases hlt : k < n
    · have ⟨hc0, hc1⟩ := (H1.out.below (bel1 hb) l1).at0 hlt
      have hi1 : (k : Int) < (n : Int) := by omega
      have hkn : decide ((k : Int) < (n : Int)) = true := decide_eq_true hi1
      have hkn' : decide (k < n) = true := decide_eq_true hlt
      clear hb
      by_cases hlo : (f k).1 < a
      · have HOK := Lib.hid (all_step (P := fun j => (f j).1 < a) HA.out hlo)
        have hlo' : decide ((f k).1 < a) = true := decide_eq_true hlo
        go_wp2_with fail
        refine wp_region_held_drew (S := (fun W => W.cell? ⟨g, k * 2, none⟩ = some (.int .i64 (f k).1) ∧ W.cell? ⟨g, k * 2 + 1, none⟩ = some (.int .i64 (f k).2) ∧ W.cell? ⟨w.heap.size, 0, none⟩ = some (.int .i64 a) ∧ W.cell? ⟨w.heap.size, 1, none⟩ = some (.int .i64 b) ∧ wr.heap.size ≤ W.heap.size ∧ Below (w.heap.size + 1) (w.alloc (.cells #[.int .i64 a, .int .i64 b] 25)) W)) (by kernel_rfl) (⟨hc0, hc1, hx0, hx1, Nat.le_refl _, HB.out.drew⟩) (fun hHeld => ?_)
        (refine wpAnyH_take (i := 0) (v := ?hv1) rfl (by kernel_rfl) (by kernel_rfl) (by kernel_rfl) (fun _ _ _ h => h) (Or.inl ⟨by kernel_rfl, ?hy1⟩) hHeld ?hr1; case hy1 => (intro w hSw; (try dsimp only at hSw); go_simp; try with_reducible rfl))
        simp only [Act.put, List.getElem_toArray, List.getElem_cons_succ, List.getElem_cons_zero, List.setIfInBounds_toArray, List.set_cons_zero, List.set_cons_succ]
        (refine wpAnyH_take (i := 1) (v := ?hv2) rfl (by kernel_rfl) (by kernel_rfl) (by kernel_rfl) (fun _ _ _ h => h) (Or.inl ⟨by kernel_rfl, ?hy2⟩) hHeld ?hr2; case hy2 => (intro w hSw; (try dsimp only at hSw); go_simp; try with_reducible rfl))
        simp only [Act.put, List.getElem_toArray, List.getElem_cons_succ, List.getElem_cons_zero, List.setIfInBounds_toArray, List.set_cons_zero, List.set_cons_succ]
        (refine wpAnyH_take (i := 2) (v := ?hv3) rfl (by kernel_rfl) (by kernel_rfl) (by kernel_rfl) (fun _ _ _ h => h) (Or.inl ⟨by kernel_rfl, ?hy3⟩) hHeld ?hr3; case hy3 => (intro w hSw; (try dsimp only at hSw); go_simp; try with_reducible rfl))
        simp only [Act.put, List.getElem_toArray, List.getElem_cons_succ, List.getElem_cons_zero, List.setIfInBounds_toArray, List.set_cons_zero, List.set_cons_succ]
        (refine wpAnyH_take (i := 3) (v := ?hv4) rfl (by kernel_rfl) (by kernel_rfl) (by kernel_rfl) (fun _ _ _ h => h) (Or.inl ⟨by kernel_rfl, ?hy4⟩) hHeld ?hr4; case hy4 => (intro w hSw; (try dsimp only at hSw); go_simp; try with_reducible rfl))
        simp only [Act.put, List.getElem_toArray, List.getElem_cons_succ, List.getElem_cons_zero, List.setIfInBounds_toArray, List.set_cons_zero, List.set_cons_succ]
        (refine wpAnyH_take (i := 4) (v := ?hv5) rfl (by kernel_rfl) (by kernel_rfl) (by kernel_rfl) (fun _ _ _ h => h) (Or.inl ⟨by kernel_rfl, ?hy5⟩) hHeld ?hr5; case hy5 => (intro w hSw; (try dsimp only at hSw); go_simp; try with_reducible rfl))
        simp only [Act.put, List.getElem_toArray, List.getElem_cons_succ, List.getElem_cons_zero, List.setIfInBounds_toArray, List.set_cons_zero, List.set_cons_succ]
        (refine wpAnyH_take (i := 5) (v := ?hv6) rfl (by kernel_rfl) (by kernel_rfl) (by kernel_rfl) (fun _ _ _ h => h) (Or.inl ⟨by kernel_rfl, ?hy6⟩) hHeld ?hr6; case hy6 => (intro w hSw; (try dsimp only at hSw); go_simp; try with_reducible rfl))
        simp only [Act.put, List.getElem_toArray, List.getElem_cons_succ, List.getElem_cons_zero, List.setIfInBounds_toArray, List.set_cons_zero, List.set_cons_succ]
        (refine wpAnyH_take (i := 6) (v := ?hv7) rfl (by kernel_rfl) (by kernel_rfl) (by kernel_rfl) (fun _ _ _ h => h) (Or.inl ⟨by kernel_rfl, ?hy7⟩) hHeld ?hr7; case hy7 => (intro w hSw; (try dsimp only at hSw); go_simp; try with_reducible rfl))
        simp only [Act.put, List.getElem_toArray, List.getElem_cons_succ, List.getElem_cons_zero, List.setIfInBounds_toArray, List.set_cons_zero, List.set_cons_succ]
        (refine wpAnyH_take (i := 7) (v := ?hv8) rfl (by kernel_rfl) (by kernel_rfl) (by kernel_rfl) (fun _ _ _ h => h) (Or.inl ⟨by kernel_rfl, ?hy8⟩) hHeld ?hr8; case hy8 => (intro w hSw; (try dsimp only at hSw); go_simp; try with_reducible rfl))
        simp only [Act.put, List.getElem_toArray, List.getElem_cons_succ, List.getElem_cons_zero, List.setIfInBounds_toArray, List.set_cons_zero, List.set_cons_succ]
        (refine wpAnyH_take (i := 8) (v := ?hv9) rfl (by kernel_rfl) (by kernel_rfl) (by kernel_rfl) (fun _ _ _ h => h) (Or.inl ⟨by kernel_rfl, ?hy9⟩) hHeld ?hr9; case hy9 => (intro w hSw; (try dsimp only at hSw); go_simp; try with_reducible rfl))
        simp only [Act.put, List.getElem_toArray, List.getElem_cons_succ, List.getElem_cons_zero, List.setIfInBounds_toArray, List.set_cons_zero, List.set_cons_succ]
        (refine wpAnyH_take (i := 9) (v := ?hv10) rfl (by kernel_rfl) (by kernel_rfl) (by kernel_rfl) (fun _ _ _ h => h) (Or.inl ⟨by kernel_rfl, ?hy10⟩) hHeld ?hr10; case hy10 => (intro w hSw; (try dsimp only at hSw); go_simp; try with_reducible rfl))
        simp only [Act.put, List.getElem_toArray, List.getElem_cons_succ, List.getElem_cons_zero, List.setIfInBounds_toArray, List.set_cons_zero, List.set_cons_succ]
        (refine wpAnyH_take (i := 10) (v := ?hv11) rfl (by kernel_rfl) (by kernel_rfl) (by kernel_rfl) (fun _ _ _ h => h) (Or.inl ⟨by kernel_rfl, ?hy11⟩) hHeld ?hr11; case hy11 => (intro w hSw; (try dsimp only at hSw); go_simp; try with_reducible rfl))
        simp only [Act.put, List.getElem_toArray, List.getElem_cons_succ, List.getElem_cons_zero, List.setIfInBounds_toArray, List.set_cons_zero, List.set_cons_succ]
        (refine wpAnyH_take (i := 11) (v := ?hv12) rfl (by kernel_rfl) (by kernel_rfl) (by kernel_rfl) (fun _ _ _ h => h) (Or.inl ⟨by kernel_rfl, ?hy12⟩) hHeld ?hr12; case hy12 => (intro w hSw; (try dsimp only at hSw); go_simp; try with_reducible rfl))
        simp only [Act.put, List.getElem_toArray, List.getElem_cons_succ, List.getElem_cons_zero, List.setIfInBounds_toArray, List.set_cons_zero, List.set_cons_succ]
        (refine wpAnyH_take (i := 12) (v := ?hv13) rfl (by kernel_rfl) (by kernel_rfl) (by kernel_rfl) (fun _ _ _ h => h) (Or.inl ⟨by kernel_rfl, ?hy13⟩) hHeld ?hr13; case hy13 => (intro w hSw; (try dsimp only at hSw); go_simp; try with_reducible rfl))
        simp only [Act.put, List.getElem_toArray, List.getElem_cons_succ, List.getElem_cons_zero, List.setIfInBounds_toArray, List.set_cons_zero, List.set_cons_succ]
        (refine wpAnyH_take (i := 13) (v := ?hv14) rfl (by kernel_rfl) (by kernel_rfl) (by kernel_rfl) (fun _ _ _ h => h) (Or.inl ⟨by kernel_rfl, ?hy14⟩) hHeld ?hr14; case hy14 => (intro w hSw; (try dsimp only at hSw); go_simp; try with_reducible rfl))
        simp only [Act.put, List.getElem_toArray, List.getElem_cons_succ, List.getElem_cons_zero, List.setIfInBounds_toArray, List.set_cons_zero, List.set_cons_succ]
        refine wpAnyH_done (by kernel_rfl) ?_ _
        have HF := Lib.hid hHeld.2.2.2.2.2
        clear hHeld
        go_wp2
        go_roundw
        case rel => exact ⟨k + 1, by omega, by go_num, HOK.out, HF.out⟩
        case measure => simp [intOf]; omega
      · have hlo' : decide ((f k).1 < a) = false := decide_eq_false hlo
        have HP := Lib.hid (place_from HFr.out hk HA.out (fun _ => hlo))
        have hpp : ¬ n = k := by omega
        go_wp2_with fail
        refine wp_region_held_drew (S := (fun W => W.cell? ⟨g, k * 2, none⟩ = some (.int .i64 (f k).1) ∧ W.cell? ⟨g, k * 2 + 1, none⟩ = some (.int .i64 (f k).2) ∧ W.cell? ⟨w.heap.size, 0, none⟩ = some (.int .i64 a) ∧ W.cell? ⟨w.heap.size, 1, none⟩ = some (.int .i64 b) ∧ wr.heap.size ≤ W.heap.size ∧ Below (w.heap.size + 1) (w.alloc (.cells #[.int .i64 a, .int .i64 b] 25)) W)) (by kernel_rfl) (⟨hc0, hc1, hx0, hx1, Nat.le_refl _, HB.out.drew⟩) (fun hHeld => ?_)
        (refine wpAnyH_take (i := 0) (v := ?hv15) rfl (by kernel_rfl) (by kernel_rfl) (by kernel_rfl) (fun _ _ _ h => h) (Or.inl ⟨by kernel_rfl, ?hy15⟩) hHeld ?hr15; case hy15 => (intro w hSw; (try dsimp only at hSw); go_simp; try with_reducible rfl))
        simp only [Act.put, List.getElem_toArray, List.getElem_cons_succ, List.getElem_cons_zero, List.setIfInBounds_toArray, List.set_cons_zero, List.set_cons_succ]
        (refine wpAnyH_take (i := 1) (v := ?hv16) rfl (by kernel_rfl) (by kernel_rfl) (by kernel_rfl) (fun _ _ _ h => h) (Or.inl ⟨by kernel_rfl, ?hy16⟩) hHeld ?hr16; case hy16 => (intro w hSw; (try dsimp only at hSw); go_simp; try with_reducible rfl))
        simp only [Act.put, List.getElem_toArray, List.getElem_cons_succ, List.getElem_cons_zero, List.setIfInBounds_toArray, List.set_cons_zero, List.set_cons_succ]
        (refine wpAnyH_take (i := 2) (v := ?hv17) rfl (by kernel_rfl) (by kernel_rfl) (by kernel_rfl) (fun _ _ _ h => h) (Or.inl ⟨by kernel_rfl, ?hy17⟩) hHeld ?hr17; case hy17 => (intro w hSw; (try dsimp only at hSw); go_simp; try with_reducible rfl))
        simp only [Act.put, List.getElem_toArray, List.getElem_cons_succ, List.getElem_cons_zero, List.setIfInBounds_toArray, List.set_cons_zero, List.set_cons_succ]
        (refine wpAnyH_take (i := 3) (v := ?hv18) rfl (by kernel_rfl) (by kernel_rfl) (by kernel_rfl) (fun _ _ _ h => h) (Or.inl ⟨by kernel_rfl, ?hy18⟩) hHeld ?hr18; case hy18 => (intro w hSw; (try dsimp only at hSw); go_simp; try with_reducible rfl))
        simp only [Act.put, List.getElem_toArray, List.getElem_cons_succ, List.getElem_cons_zero, List.setIfInBounds_toArray, List.set_cons_zero, List.set_cons_succ]
        (refine wpAnyH_take (i := 4) (v := ?hv19) rfl (by kernel_rfl) (by kernel_rfl) (by kernel_rfl) (fun _ _ _ h => h) (Or.inl ⟨by kernel_rfl, ?hy19⟩) hHeld ?hr19; case hy19 => (intro w hSw; (try dsimp only at hSw); go_simp; try with_reducible rfl))
        simp only [Act.put, List.getElem_toArray, List.getElem_cons_succ, List.getElem_cons_zero, List.setIfInBounds_toArray, List.set_cons_zero, List.set_cons_succ]
        (refine wpAnyH_take (i := 5) (v := ?hv20) rfl (by kernel_rfl) (by kernel_rfl) (by kernel_rfl) (fun _ _ _ h => h) (Or.inl ⟨by kernel_rfl, ?hy20⟩) hHeld ?hr20; case hy20 => (intro w hSw; (try dsimp only at hSw); go_simp; try with_reducible rfl))
        simp only [Act.put, List.getElem_toArray, List.getElem_cons_succ, List.getElem_cons_zero, List.setIfInBounds_toArray, List.set_cons_zero, List.set_cons_succ]
        (refine wpAnyH_take (i := 6) (v := ?hv21) rfl (by kernel_rfl) (by kernel_rfl) (by kernel_rfl) (fun _ _ _ h => h) (Or.inl ⟨by kernel_rfl, ?hy21⟩) hHeld ?hr21; case hy21 => (intro w hSw; (try dsimp only at hSw); go_simp; try with_reducible rfl))
        simp only [Act.put, List.getElem_toArray, List.getElem_cons_succ, List.getElem_cons_zero, List.setIfInBounds_toArray, List.set_cons_zero, List.set_cons_succ]
        (refine wpAnyH_take (i := 7) (v := ?hv22) rfl (by kernel_rfl) (by kernel_rfl) (by kernel_rfl) (fun _ _ _ h => h) (Or.inl ⟨by kernel_rfl, ?hy22⟩) hHeld ?hr22; case hy22 => (intro w hSw; (try dsimp only at hSw); go_simp; try with_reducible rfl))
        simp only [Act.put, List.getElem_toArray, List.getElem_cons_succ, List.getElem_cons_zero, List.setIfInBounds_toArray, List.set_cons_zero, List.set_cons_succ]
        (refine wpAnyH_take (i := 8) (v := ?hv23) rfl (by kernel_rfl) (by kernel_rfl) (by kernel_rfl) (fun _ _ _ h => h) (Or.inl ⟨by kernel_rfl, ?hy23⟩) hHeld ?hr23; case hy23 => (intro w hSw; (try dsimp only at hSw); go_simp; try with_reducible rfl))
        simp only [Act.put, List.getElem_toArray, List.getElem_cons_succ, List.getElem_cons_zero, List.setIfInBounds_toArray, List.set_cons_zero, List.set_cons_succ]
        (refine wpAnyH_take (i := 9) (v := ?hv24) rfl (by kernel_rfl) (by kernel_rfl) (by kernel_rfl) (fun _ _ _ h => h) (Or.inl ⟨by kernel_rfl, ?hy24⟩) hHeld ?hr24; case hy24 => (intro w hSw; (try dsimp only at hSw); go_simp; try with_reducible rfl))
        simp only [Act.put, List.getElem_toArray, List.getElem_cons_succ, List.getElem_cons_zero, List.setIfInBounds_toArray, List.set_cons_zero, List.set_cons_succ]
        (refine wpAnyH_take (i := 10) (v := ?hv25) rfl (by kernel_rfl) (by kernel_rfl) (by kernel_rfl) (fun _ _ _ h => h) (Or.inl ⟨by kernel_rfl, ?hy25⟩) hHeld ?hr25; case hy25 => (intro w hSw; (try dsimp only at hSw); go_simp; try with_reducible rfl))
        simp only [Act.put, List.getElem_toArray, List.getElem_cons_succ, List.getElem_cons_zero, List.setIfInBounds_toArray, List.set_cons_zero, List.set_cons_succ]
        (refine wpAnyH_take (i := 11) (v := ?hv26) rfl (by kernel_rfl) (by kernel_rfl) (by kernel_rfl) (fun _ _ _ h => h) (Or.inl ⟨by kernel_rfl, ?hy26⟩) hHeld ?hr26; case hy26 => (intro w hSw; (try dsimp only at hSw); go_simp; try with_reducible rfl))
        simp only [Act.put, List.getElem_toArray, List.getElem_cons_succ, List.getElem_cons_zero, List.setIfInBounds_toArray, List.set_cons_zero, List.set_cons_succ]
        (refine wpAnyH_take (i := 12) (v := ?hv27) rfl (by kernel_rfl) (by kernel_rfl) (by kernel_rfl) (fun _ _ _ h => h) (Or.inl ⟨by kernel_rfl, ?hy27⟩) hHeld ?hr27; case hy27 => (intro w hSw; (try dsimp only at hSw); go_simp; try with_reducible rfl))
        simp only [Act.put, List.getElem_toArray, List.getElem_cons_succ, List.getElem_cons_zero, List.setIfInBounds_toArray, List.set_cons_zero, List.set_cons_succ]
        (refine wpAnyH_take (i := 13) (v := ?hv28) rfl (by kernel_rfl) (by kernel_rfl) (by kernel_rfl) (fun _ _ _ h => h) (Or.inl ⟨by kernel_rfl, ?hy28⟩) hHeld ?hr28; case hy28 => (intro w hSw; (try dsimp only at hSw); go_simp; try with_reducible rfl))
        simp only [Act.put, List.getElem_toArray, List.getElem_cons_succ, List.getElem_cons_zero, List.setIfInBounds_toArray, List.set_cons_zero, List.set_cons_succ]
        refine wpAnyH_done (by kernel_rfl) ?_ _
        have HF := Lib.hid hHeld.2.2.2.2.2
        clear hHeld
        have hbD : Below w.heap.size w wr := bel1 HB.out
        have hR1 : PRow ((wr.drew).alloc (.cells #[] 25)) g 0 n f := (H1.out.below hbD l1).below ((Below.refl _ _).drew.alloc (Nat.le_refl _) _) hgl
        obtain ⟨v1, W2, hr2, hown2, hbel2, hg2, hat2⟩ := app_sp ((wr.drew).alloc (.cells #[] 25)) wr.heap.size 23 23 Try.underlying23 (RowO.made0 wr.drew wr.heap.size _ 2 (pc f) (Nat.le_refl _)) n (pre_row hR1 hk) (by omega) (by simp)
        have HR2 := Lib.hid hr2
        have hW2 : Below wr.heap.size wr W2 := ((Below.refl wr.heap.size wr).drew.alloc (Nat.le_refl _) _).trans hbel2
        have hl2 : wr.heap.size ≤ W2.heap.size := hW2.size
        have ⟨hy0, hy1, hyl⟩ := box0 (HB.out.trans (hW2.mono hsz))
        have hrow2 := hown2.alloc (.cells #[.int .i64 a, .int .i64 b] 25)
        obtain ⟨v3, W4, hr4, hown4, hbel4, hg4, hat4⟩ := app_sp (W2.alloc (.cells #[.int .i64 a, .int .i64 b] 25)) wr.heap.size 23 23 Try.underlying23 hrow2 (m := 1) 1 one_row (by omega) (by simp; omega)
        have HR4 := Lib.hid hr4
        have hW4 : Below wr.heap.size wr W4 := (hW2.alloc hl2 _).trans hbel4
        have hR4 : PRow W4 g 0 n f := (H1.out.below hbD l1).below hW4 hgl
        obtain ⟨v5, W6, hr6, hown6, hbel6, hg6, hat6⟩ := app_sp W4 wr.heap.size 23 23 Try.underlying23 hown4 (n - k) (sub_row hR4 hk) (by omega) hW4.size
        have HR6 := Lib.hid hr6
        have HY := Lib.hid (show ResRow (fun m h => m = n + 1 ∧ ∃ p, PlaceP n f a p ∧ ∀ i, i < n + 1 → h i = insF f p (a, b) i) w (.returned v5) W6 from ⟨v5, 0 + k + 1 + (n - k), _, rfl, ⟨by omega, k, HP.out, fun i hi => by rw [← ins_app hk i (by omega)]; unfold app; simp⟩, hown6.lower (by omega), hbD.trans ((hW4.trans hbel6).mono (by omega))⟩)
        clear hown2 hbel2 hg2 hat2 hr2 hrow2 hown4 hbel4 hg4 hat4 hr4 hown6 hbel6 hg6 hat6 hr6 hR1 hR4 hW2 hW4 hbD HF
        go_wp2_with (first | (at_builtin; refine wpList_app rfl (.tmp 23) (.tmp 26) 23 rfl rfl rfl HR2.out ?_) | (at_builtin; refine wpList_app rfl (.tmp 28) (.tmp 30) 23 rfl rfl rfl HR4.out ?_) | (at_builtin; refine wpList_app rfl (.tmp 32) (.tmp 35) 23 rfl rfl rfl HR6.out ?_))
        go_ret
        exact HY.out
    · obtain rfl : k = n := by omega
      have HP := Lib.hid (place_from HFr.out hk HA.out (fun h => absurd h hlt))
      have hkn : decide ((k : Int) < (k : Int)) = false := decide_eq_false (by omega)
      have hkn' : decide (k < k) = false := decide_eq_false (by omega)
      clear hb
      go_wp2_with fail
      refine wp_region_held_drew (S := (fun W => W.cell? ⟨w.heap.size, 0, none⟩ = some (.int .i64 a) ∧ W.cell? ⟨w.heap.size, 1, none⟩ = some (.int .i64 b) ∧ wr.heap.size ≤ W.heap.size ∧ Below (w.heap.size + 1) (w.alloc (.cells #[.int .i64 a, .int .i64 b] 25)) W)) (by kernel_rfl) (⟨hx0, hx1, Nat.le_refl _, HB.out.drew⟩) (fun hHeld => ?_)
      (refine wpAnyH_take (i := 0) (v := ?hv29) rfl (by kernel_rfl) (by kernel_rfl) (by kernel_rfl) (fun _ _ _ h => h) (Or.inl ⟨by kernel_rfl, ?hy29⟩) hHeld ?hr29; case hy29 => (intro w hSw; (try dsimp only at hSw); go_simp; try with_reducible rfl))
      simp only [Act.put, List.getElem_toArray, List.getElem_cons_succ, List.getElem_cons_zero, List.setIfInBounds_toArray, List.set_cons_zero, List.set_cons_succ]
      (refine wpAnyH_take (i := 1) (v := ?hv30) rfl (by kernel_rfl) (by kernel_rfl) (by kernel_rfl) (fun _ _ _ h => h) (Or.inl ⟨by kernel_rfl, ?hy30⟩) hHeld ?hr30; case hy30 => (intro w hSw; (try dsimp only at hSw); go_simp; try with_reducible rfl))
      simp only [Act.put, List.getElem_toArray, List.getElem_cons_succ, List.getElem_cons_zero, List.setIfInBounds_toArray, List.set_cons_zero, List.set_cons_succ]
      (refine wpAnyH_take (i := 2) (v := ?hv31) rfl (by kernel_rfl) (by kernel_rfl) (by kernel_rfl) (fun _ _ _ h => h) (Or.inl ⟨by kernel_rfl, ?hy31⟩) hHeld ?hr31; case hy31 => (intro w hSw; (try dsimp only at hSw); go_simp; try with_reducible rfl))
      simp only [Act.put, List.getElem_toArray, List.getElem_cons_succ, List.getElem_cons_zero, List.setIfInBounds_toArray, List.set_cons_zero, List.set_cons_succ]
      (refine wpAnyH_take (i := 3) (v := ?hv32) rfl (by kernel_rfl) (by kernel_rfl) (by kernel_rfl) (fun _ _ _ h => h) (Or.inl ⟨by kernel_rfl, ?hy32⟩) hHeld ?hr32; case hy32 => (intro w hSw; (try dsimp only at hSw); go_simp; try with_reducible rfl))
      simp only [Act.put, List.getElem_toArray, List.getElem_cons_succ, List.getElem_cons_zero, List.setIfInBounds_toArray, List.set_cons_zero, List.set_cons_succ]
      (refine wpAnyH_take (i := 4) (v := ?hv33) rfl (by kernel_rfl) (by kernel_rfl) (by kernel_rfl) (fun _ _ _ h => h) (Or.inl ⟨by kernel_rfl, ?hy33⟩) hHeld ?hr33; case hy33 => (intro w hSw; (try dsimp only at hSw); go_simp; try with_reducible rfl))
      simp only [Act.put, List.getElem_toArray, List.getElem_cons_succ, List.getElem_cons_zero, List.setIfInBounds_toArray, List.set_cons_zero, List.set_cons_succ]
      (refine wpAnyH_take (i := 5) (v := undef) rfl (by kernel_rfl) (by kernel_rfl) (by kernel_rfl) (fun _ _ _ h => h) (Or.inr ⟨by kernel_rfl, rfl⟩) hHeld ?_)
      simp only [Act.put, List.getElem_toArray, List.getElem_cons_succ, List.getElem_cons_zero, List.setIfInBounds_toArray, List.set_cons_zero, List.set_cons_succ]
      (refine wpAnyH_take (i := 6) (v := undef) rfl (by kernel_rfl) (by kernel_rfl) (by kernel_rfl) (fun _ _ _ h => h) (Or.inr ⟨by kernel_rfl, rfl⟩) hHeld ?_)
      simp only [Act.put, List.getElem_toArray, List.getElem_cons_succ, List.getElem_cons_zero, List.setIfInBounds_toArray, List.set_cons_zero, List.set_cons_succ]
      (refine wpAnyH_take (i := 7) (v := undef) rfl (by kernel_rfl) (by kernel_rfl) (by kernel_rfl) (fun _ _ _ h => h) (Or.inr ⟨by kernel_rfl, rfl⟩) hHeld ?_)
      simp only [Act.put, List.getElem_toArray, List.getElem_cons_succ, List.getElem_cons_zero, List.setIfInBounds_toArray, List.set_cons_zero, List.set_cons_succ]
      (refine wpAnyH_take (i := 8) (v := undef) rfl (by kernel_rfl) (by kernel_rfl) (by kernel_rfl) (fun _ _ _ h => h) (Or.inr ⟨by kernel_rfl, rfl⟩) hHeld ?_)
      simp only [Act.put, List.getElem_toArray, List.getElem_cons_succ, List.getElem_cons_zero, List.setIfInBounds_toArray, List.set_cons_zero, List.set_cons_succ]
      (refine wpAnyH_take (i := 9) (v := undef) rfl (by kernel_rfl) (by kernel_rfl) (by kernel_rfl) (fun _ _ _ h => h) (Or.inr ⟨by kernel_rfl, rfl⟩) hHeld ?_)
      simp only [Act.put, List.getElem_toArray, List.getElem_cons_succ, List.getElem_cons_zero, List.setIfInBounds_toArray, List.set_cons_zero, List.set_cons_succ]
      (refine wpAnyH_take (i := 10) (v := undef) rfl (by kernel_rfl) (by kernel_rfl) (by kernel_rfl) (fun _ _ _ h => h) (Or.inr ⟨by kernel_rfl, rfl⟩) hHeld ?_)
      simp only [Act.put, List.getElem_toArray, List.getElem_cons_succ, List.getElem_cons_zero, List.setIfInBounds_toArray, List.set_cons_zero, List.set_cons_succ]
      (refine wpAnyH_take (i := 11) (v := undef) rfl (by kernel_rfl) (by kernel_rfl) (by kernel_rfl) (fun _ _ _ h => h) (Or.inr ⟨by kernel_rfl, rfl⟩) hHeld ?_)
      simp only [Act.put, List.getElem_toArray, List.getElem_cons_succ, List.getElem_cons_zero, List.setIfInBounds_toArray, List.set_cons_zero, List.set_cons_succ]
      (refine wpAnyH_take (i := 12) (v := undef) rfl (by kernel_rfl) (by kernel_rfl) (by kernel_rfl) (fun _ _ _ h => h) (Or.inr ⟨by kernel_rfl, rfl⟩) hHeld ?_)
      simp only [Act.put, List.getElem_toArray, List.getElem_cons_succ, List.getElem_cons_zero, List.setIfInBounds_toArray, List.set_cons_zero, List.set_cons_succ]
      (refine wpAnyH_take (i := 13) (v := ?hv42) rfl (by kernel_rfl) (by kernel_rfl) (by kernel_rfl) (fun _ _ _ h => h) (Or.inl ⟨by kernel_rfl, ?hy42⟩) hHeld ?hr42; case hy42 => (intro w hSw; (try dsimp only at hSw); go_simp; try with_reducible rfl))
      simp only [Act.put, List.getElem_toArray, List.getElem_cons_succ, List.getElem_cons_zero, List.setIfInBounds_toArray, List.set_cons_zero, List.set_cons_succ]
      refine wpAnyH_done (by kernel_rfl) ?_ _
      have HF := Lib.hid hHeld.2.2.2
      clear hHeld
      have hbD : Below w.heap.size w wr := bel1 HB.out
      have hR1 : PRow ((wr.drew).alloc (.cells #[] 25)) g 0 k f := (H1.out.below hbD l1).below ((Below.refl _ _).drew.alloc (Nat.le_refl _) _) hgl
      obtain ⟨v1, W2, hr2, hown2, hbel2, hg2, hat2⟩ := app_sp ((wr.drew).alloc (.cells #[] 25)) wr.heap.size 23 23 Try.underlying23 (RowO.made0 wr.drew wr.heap.size _ 2 (pc f) (Nat.le_refl _)) k (pre_row hR1 hk) (by omega) (by simp)
      have HR2 := Lib.hid hr2
      have hW2 : Below wr.heap.size wr W2 := ((Below.refl wr.heap.size wr).drew.alloc (Nat.le_refl _) _).trans hbel2
      have hl2 : wr.heap.size ≤ W2.heap.size := hW2.size
      have ⟨hy0, hy1, hyl⟩ := box0 (HB.out.trans (hW2.mono hsz))
      have hrow2 := hown2.alloc (.cells #[.int .i64 a, .int .i64 b] 25)
      obtain ⟨v3, W4, hr4, hown4, hbel4, hg4, hat4⟩ := app_sp (W2.alloc (.cells #[.int .i64 a, .int .i64 b] 25)) wr.heap.size 23 23 Try.underlying23 hrow2 (m := 1) 1 one_row (by omega) (by simp; omega)
      have HR4 := Lib.hid hr4
      have hW4 : Below wr.heap.size wr W4 := (hW2.alloc hl2 _).trans hbel4
      have hR4 : PRow W4 g 0 k f := (H1.out.below hbD l1).below hW4 hgl
      obtain ⟨v5, W6, hr6, hown6, hbel6, hg6, hat6⟩ := app_sp W4 wr.heap.size 23 23 Try.underlying23 hown4 (g := g) (o := 0) (m := 0) (h := fun i => f (i + k)) 0 slice0 (by omega) hW4.size
      have HR6 := Lib.hid hr6
      have HY := Lib.hid (show ResRow (fun m h => m = k + 1 ∧ ∃ p, PlaceP k f a p ∧ ∀ i, i < k + 1 → h i = insF f p (a, b) i) w (.returned v5) W6 from ⟨v5, 0 + k + 1 + 0, _, rfl, ⟨by omega, k, HP.out, fun i hi => by rw [← ins_app hk i (by omega)]; unfold app; simp⟩, hown6.lower (by omega), hbD.trans ((hW4.trans hbel6).mono (by omega))⟩)
      clear hown2 hbel2 hg2 hat2 hr2 hrow2 hown4 hbel4 hg4 hat4 hr4 hown6 hbel6 hg6 hat6 hr6 hR1 hR4 hW2 hW4 hbD HF
      go_wp2_with (first | (at_builtin; refine wpList_app rfl (.tmp 23) (.tmp 26) 23 rfl rfl rfl HR2.out ?_) | (at_builtin; refine wpList_app rfl (.tmp 28) (.tmp 30) 23 rfl rfl rfl HR4.out ?_) | (at_builtin; refine wpList_app rfl (.tmp 32) (.tmp 35) 23 rfl rfl rfl HR6.out ?_))
      go_ret
      exact HY.out

set_option maxRecDepth 100000 in
set_option maxHeartbeats 1600000 in
theorem put_spec (g n : Nat) (f : Nat → Int × Int) (a b : Int) (w : World) (hn : n ≤ 1048576) (h1 : PRow w g 0 n f) (l1 : g < w.heap.size) :
    Calls Try.prog 16 #[.slice (some ⟨g, 0, none⟩) n n, .agg #[.int .i64 a, .int .i64 b]] w (ResRow (PutP n f a b) w) := by
  have H1 := Lib.hid h1
  clear h1
  by_cases h400 : n ≤ 400
  · have hd : decide ((400 : Int) < (n : Int)) = false := decide_eq_false (by omega)
    have hR1 : PRow (w.alloc (.cells #[.int .i64 a, .int .i64 b] 25)) g 0 n f := H1.out.below ((Below.refl _ _).alloc (Nat.le_refl _) _) l1
    go_enter Try.func16, Try.ntmps16
    go_wp2_with fail
    refine (isfree_spec g n f a b _ hn hR1 (by simp; omega)).mono ?_
    intro e wr h
    obtain ⟨c, rfl, hc, hb⟩ := resB_elim h
    have hb : Below (w.heap.size + 1) (w.alloc (.cells #[.int .i64 a, .int .i64 b] 25)) wr := by simpa using hb
    have HB := Lib.hid hb
    have ⟨hx0, hx1, hxl⟩ := box0 hb
    have hgl : g < wr.heap.size := by omega
    obtain ⟨v1, W2, hr2, hown2, hbel2, hg2, hat2⟩ := app_sp (wr.alloc (.cells #[] 25)) wr.heap.size 23 23 Try.underlying23 (RowO.made0 wr wr.heap.size _ 2 (pc f) (Nat.le_refl _)) n ((H1.out.below (bel1 hb) l1).below ((Below.refl _ _).alloc (Nat.le_refl _) _) hgl) (by omega) (by simp)
    have HR2 := Lib.hid hr2
    have HOLD := Lib.hid (show ¬ (FreeB n f a b ∧ n < 20) → ResRow (PutP n f a b) w (.returned v1) W2 from fun hn => ⟨v1, 0 + n, _, rfl, .inr (.inl ⟨h400, hn, by omega, fun i hi => by simp [app]⟩), hown2.lower (by omega), (bel1 HB.out).trans ((((Below.refl wr.heap.size wr).alloc (Nat.le_refl _) _).trans hbel2).mono (by omega))⟩)
    clear h hR1 hr2 hown2 hbel2 hg2 hat2
    cases c with
    | false =>
      have HY := Lib.hid (HOLD.out (fun h => by have := hc.2 h.1; cases this))
      clear hb hc
      go_wp2_with (at_builtin; refine wpList_app rfl (.tmp 18) (.tmp 19) 23 rfl rfl rfl HR2.out ?_)
      go_ret
      exact HY.out
    | true =>
      have HF := Lib.hid (hc.1 rfl)
      clear hb hc
      by_cases h20 : 20 ≤ n
      · have hd20 : decide ((20 : Int) ≤ (n : Int)) = true := decide_eq_true (by omega)
        have HY := Lib.hid (HOLD.out (fun h => by omega))
        go_wp2_with (at_builtin; refine wpList_app rfl (.tmp 18) (.tmp 19) 23 rfl rfl rfl HR2.out ?_)
        go_ret
        exact HY.out
      · have hd20 : decide ((20 : Int) ≤ (n : Int)) = false := decide_eq_false (by omega)
        go_wp2_with fail
        refine (put2_spec g n f a b _ hn (H1.out.below (bel1 HB.out) l1) hgl HF.out).mono ?_
        intro e w2 h
        obtain ⟨v, m, h', rfl, hq, hrow, hb⟩ := resRow_elim h
        have HR := Lib.hid (show ResRow (PutP n f a b) w (.returned v) w2 from ⟨v, m, h', rfl, .inr (.inr ⟨h400, HF.out, by omega, hq.1, hq.2⟩), hrow.lower (by omega), (bel1 HB.out).trans (hb.mono (by omega))⟩)
        clear h hq hrow hb
        go_wp2
        go_ret
        exact HR.out
  · have hd : decide ((400 : Int) < (n : Int)) = true := decide_eq_true (by omega)
    have HR := Lib.hid (show ResRow (PutP n f a b) w (.returned (.slice (some ⟨w.heap.size + 1, 0, none⟩) 0 0)) ((w.alloc (.cells #[.int .i64 a, .int .i64 b] 25)).alloc (.cells #[] 25)) from ⟨_, 0, f, rfl, .inl ⟨by omega, rfl⟩, by simpa using RowO.made0 (w.alloc (.cells #[.int .i64 a, .int .i64 b] 25)) w.heap.size 25 2 (pc f) (by simp), ((Below.refl _ _).alloc (Nat.le_refl _) _).alloc (by simp) _⟩)
    go_enter Try.func16, Try.ntmps16
    go_wp2
    go_ret
    exact HR.out
end Go.Proofs.Ytglifjjoalkkbaa.SpanC
