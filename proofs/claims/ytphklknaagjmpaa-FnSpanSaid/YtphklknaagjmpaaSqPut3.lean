/- SpanPut, in the program and in its model: contracts. -/
import Derived.Test.YtphklknaagjmpaaTk
import Derived.Test.YtphklknaagjmpaaSqPut2
namespace Go.Proofs.Ytphklknaagjmpaa.SpanC
open Go.RowKit KeptC RowC
set_option maxRecDepth 100000 in
set_option maxHeartbeats 3200000 in
theorem put_impl (qa : Option Addr) (n qc : Nat) (f : Nat → Int × Int) (a b : Int) (w : World) (hn : n ≤ 1048576) (h1 : PS w qa n qc f) :
    Calls Try.prog 5 #[.slice qa n qc, .agg #[.int .i64 a, .int .i64 b]] w (ResRow (PutP n f a b) w) := by
  have H1 := Lib.hid h1
  clear h1
  by_cases h400 : n ≤ 400
  · have hd : decide ((400 : Int) < (n : Int)) = false := decide_eq_false (by omega)
    have hR1 : PS (w.alloc (.cells #[.int .i64 a, .int .i64 b] 25)) qa n qc f := H1.out.bel ((Below.refl _ _).alloc (Nat.le_refl _) _)
    by_cases h20 : n = 20
    · have HN := Lib.hid (show ¬ (FreeB n f a b ∧ n < 20) from fun h => by omega)
      have HB := Lib.hid (show Below (w.heap.size + 1) (w.alloc (.cells #[.int .i64 a, .int .i64 b] 25)) (w.alloc (.cells #[.int .i64 a, .int .i64 b] 25)) from Below.refl _ _)
      subst h20
      go_enter Try.func5, Try.ntmps5
      go_wp2_with fail
      refine (clone_impl qa 20 qc f _ hn hR1).mono ?_
      intro e w2 h
      obtain ⟨v, m, h', rfl, hq, hrow, hb⟩ := resRow_elim h
      have HR := Lib.hid (show ResRow (PutP 20 f a b) w (.returned v) w2 from ⟨v, m, h', rfl, .inr (.inl ⟨h400, HN.out, hq.1, hq.2⟩), hrow.lower (by simp), ((Below.refl _ _).alloc (Nat.le_refl _) _).trans (hb.mono (by simp))⟩)
      clear h hq hrow hb hR1
      go_wp2
      go_ret
      exact HR.out
    · have hne : ((n : Int) == 20) = false := by rw [beq_eq_false_iff_ne]; omega
      go_enter Try.func5, Try.ntmps5
      go_wp2_with fail
      refine (isfree_impl qa n qc f a b _ hn hR1.pa).mono ?_
      intro e wr h
      obtain ⟨c, rfl, hc, hb⟩ := resB_elim h
      have hb : Below (w.heap.size + 1) (w.alloc (.cells #[.int .i64 a, .int .i64 b] 25)) wr := by simpa using hb
      have HB := Lib.hid hb
      have ⟨hx0, hx1, hxl⟩ := box0 hb
      clear h hR1
      cases c with
      | false =>
        have HN := Lib.hid (show ¬ (FreeB n f a b ∧ n < 20) from fun h => by have := hc.2 h.1; cases this)
        clear hb hc
        go_wp2_with fail
        refine (clone_impl qa n qc f _ hn (H1.out.bel (bel1 HB.out))).mono ?_
        intro e w2 h
        obtain ⟨v, m, h', rfl, hq, hrow, hb⟩ := resRow_elim h
        have HR := Lib.hid (show ResRow (PutP n f a b) w (.returned v) w2 from ⟨v, m, h', rfl, .inr (.inl ⟨h400, HN.out, hq.1, hq.2⟩), hrow.lower (by omega), (bel1 HB.out).trans (hb.mono (by omega))⟩)
        clear h hq hrow hb
        go_wp2
        go_ret
        exact HR.out
      | true =>
        have HF := Lib.hid (hc.1 rfl)
        have HL := Lib.hid (show n < 20 by have := HF.out.1.1; omega)
        clear hb hc
        go_wp2_with fail
        refine (with_impl qa n qc f a b _ hn (H1.out.bel (bel1 HB.out))).mono ?_
        intro e w2 h
        obtain ⟨v, m, h', rfl, hq, hrow, hb⟩ := resRow_elim h
        have HR := Lib.hid (show ResRow (PutP n f a b) w (.returned v) w2 from ⟨v, m, h', rfl, .inr (.inr ⟨h400, HF.out, HL.out, hq.1, hq.2⟩), hrow.lower (by omega), (bel1 HB.out).trans (hb.mono (by omega))⟩)
        clear h hq hrow hb
        go_wp2
        go_ret
        exact HR.out
  · have hd : decide ((400 : Int) < (n : Int)) = true := decide_eq_true (by omega)
    have HR := Lib.hid (show ResRow (PutP n f a b) w (.returned (.slice none 0 0)) (w.alloc (.cells #[.int .i64 a, .int .i64 b] 25)) from ⟨_, 0, f, rfl, .inl ⟨by omega, rfl⟩, RowO.nil _ _ _ _ _, (Below.refl _ _).alloc (Nat.le_refl _) _⟩)
    go_enter Try.func5, Try.ntmps5
    go_wp2
    go_ret
    exact HR.out

set_option maxRecDepth 100000 in
set_option maxHeartbeats 3200000 in
theorem put2_some (g o n qc : Nat) (hnc : n ≤ qc) (f : Nat → Int × Int) (a b : Int) (w : World) (hn : n ≤ 1048576) (h1 : PRow w g o n f) (l1 : g < w.heap.size) (hF : FreeB n f a b) :
    Calls Try.prog 34 #[.slice (some ⟨g, o, none⟩) n qc, .agg #[.int .i64 a, .int .i64 b]] w (ResRow (fun m h => m = n + 1 ∧ ∃ p, PlaceP n f a p ∧ ∀ i, i < n + 1 → h i = insF f p (a, b) i) w) := by
  have H1 := Lib.hid h1
  have HFr := Lib.hid hF
  clear h1 hF
  go_enter Try.func34, Try.ntmps34
  go_wp2
  go_loopw [5] (fun i wr => ∃ k : Nat, k ≤ n ∧ i = .int .i64 k ∧ (∀ j, j < k → (f j).1 < a) ∧ Below (w.heap.size + 1) (w.alloc (.cells #[.int .i64 a, .int .i64 b] 25)) wr) (fun i _ => n - (intOf i).toNat)
  case atStart => exact ⟨0, Nat.zero_le _, rfl, fun j h => absurd h (Nat.not_lt_zero _), by simpa using Below.refl _ _⟩
  case round =>
    obtain ⟨k, hk, rfl, hall, hb⟩ := hrel
    have HA := Lib.hid hall
    have HB := Lib.hid hb
    have ⟨hx0, hx1, hxl⟩ := box0 hb
    have hsz : w.heap.size + 1 ≤ wr.heap.size := hxl
    have hgl : g < wr.heap.size := by omega
    have hi0 : (0 : Int) ≤ (k : Int) := Int.natCast_nonneg _
    have hik : (k : Int) ≤ (n : Int) := by omega
    have hkc : k ≤ qc := by omega
    have hkc1 : (k : Int) ≤ (qc : Int) := by omega
    have hnc1 : (n : Int) ≤ (qc : Int) := by omega
    clear hall
    by_cases hlt : k < n
    · have ⟨hc0, hc1⟩ := (H1.out.below (bel1 hb) l1) k hlt
      have hi1 : (k : Int) < (n : Int) := by omega
      have hkn : decide ((k : Int) < (n : Int)) = true := decide_eq_true hi1
      have hkn' : decide (k < n) = true := decide_eq_true hlt
      clear hb
      by_cases hlo : (f k).1 < a
      · have HOK := Lib.hid (all_step (P := fun j => (f j).1 < a) HA.out hlo)
        have hlo' : decide ((f k).1 < a) = true := decide_eq_true hlo
        go_wp2_with fail
        refine wp_region_held_drew (S := (fun W => W.cell? ⟨g, o + k * 2, none⟩ = some (.int .i64 (f k).1) ∧ W.cell? ⟨g, o + k * 2 + 1, none⟩ = some (.int .i64 (f k).2) ∧ W.cell? ⟨w.heap.size, 0, none⟩ = some (.int .i64 a) ∧ W.cell? ⟨w.heap.size, 1, none⟩ = some (.int .i64 b) ∧ wr.heap.size ≤ W.heap.size ∧ Below (w.heap.size + 1) (w.alloc (.cells #[.int .i64 a, .int .i64 b] 25)) W)) (by kernel_rfl) (⟨hc0, hc1, hx0, hx1, Nat.le_refl _, HB.out.drew⟩) (fun hHeld => ?_)
        refine tk 0 hHeld ?_
        refine tk 1 hHeld ?_
        refine tk 2 hHeld ?_
        refine tk 3 hHeld ?_
        refine tk 4 hHeld ?_
        refine tk 5 hHeld ?_
        refine tk 6 hHeld ?_
        refine tk 7 hHeld ?_
        refine tk 8 hHeld ?_
        refine tk 9 hHeld ?_
        refine tk 10 hHeld ?_
        refine tk 11 hHeld ?_
        refine tk 12 hHeld ?_
        refine tk 13 hHeld ?_
        refine rd0 ?_
        have HF := Lib.hid hHeld.2.2.2.2.2
        clear hHeld
        go_wp2
        go_roundw
        case rel => exact ⟨k + 1, by omega, by go_num, HOK.out, HF.out⟩
        case measure => simp [intOf]; omega
      · have hlo' : decide ((f k).1 < a) = false := decide_eq_false hlo
        have HP := Lib.hid (place_from HFr.out hk HA.out (fun _ => hlo))
        have hpp : ¬ qc = k := by omega
        go_wp2_with fail
        refine wp_region_held_drew (S := (fun W => W.cell? ⟨g, o + k * 2, none⟩ = some (.int .i64 (f k).1) ∧ W.cell? ⟨g, o + k * 2 + 1, none⟩ = some (.int .i64 (f k).2) ∧ W.cell? ⟨w.heap.size, 0, none⟩ = some (.int .i64 a) ∧ W.cell? ⟨w.heap.size, 1, none⟩ = some (.int .i64 b) ∧ wr.heap.size ≤ W.heap.size ∧ Below (w.heap.size + 1) (w.alloc (.cells #[.int .i64 a, .int .i64 b] 25)) W)) (by kernel_rfl) (⟨hc0, hc1, hx0, hx1, Nat.le_refl _, HB.out.drew⟩) (fun hHeld => ?_)
        refine tk 0 hHeld ?_
        refine tk 1 hHeld ?_
        refine tk 2 hHeld ?_
        refine tk 3 hHeld ?_
        refine tk 4 hHeld ?_
        refine tk 5 hHeld ?_
        refine tk 6 hHeld ?_
        refine tk 7 hHeld ?_
        refine tk 8 hHeld ?_
        refine tk 9 hHeld ?_
        refine tk 10 hHeld ?_
        refine tk 11 hHeld ?_
        refine tk 12 hHeld ?_
        refine tk 13 hHeld ?_
        refine rd0 ?_
        have HF := Lib.hid hHeld.2.2.2.2.2
        clear hHeld
        have hbD : Below w.heap.size w wr := bel1 HB.out
        have hR1 : PRow ((wr.drew).alloc (.cells #[] 25)) g o n f := (H1.out.below hbD l1).below ((Below.refl _ _).drew.alloc (Nat.le_refl _) _) hgl
        obtain ⟨v1, W2, hr2, hown2, hbel2, hg2, hat2⟩ := app_sp ((wr.drew).alloc (.cells #[] 25)) wr.heap.size 23 23 Try.underlying23 (RowO.made0 wr.drew wr.heap.size _ 2 (pc f) (Nat.le_refl _)) qc (pre_row hR1 hk) (by omega) (by simp)
        have HR2 := Lib.hid hr2
        have hW2 : Below wr.heap.size wr W2 := ((Below.refl wr.heap.size wr).drew.alloc (Nat.le_refl _) _).trans hbel2
        have hl2 : wr.heap.size ≤ W2.heap.size := hW2.size
        have ⟨hy0, hy1, hyl⟩ := box0 (HB.out.trans (hW2.mono hsz))
        have hrow2 := hown2.alloc (.cells #[.int .i64 a, .int .i64 b] 25)
        obtain ⟨v3, W4, hr4, hown4, hbel4, hg4, hat4⟩ := app_sp (W2.alloc (.cells #[.int .i64 a, .int .i64 b] 25)) wr.heap.size 23 23 Try.underlying23 hrow2 (m := 1) 1 one_row (by omega) (by simp; omega)
        have HR4 := Lib.hid hr4
        have hW4 : Below wr.heap.size wr W4 := (hW2.alloc hl2 _).trans hbel4
        have hR4 : PRow W4 g o n f := (H1.out.below hbD l1).below hW4 hgl
        obtain ⟨v5, W6, hr6, hown6, hbel6, hg6, hat6⟩ := app_sp W4 wr.heap.size 23 23 Try.underlying23 hown4 (qc - k) (sub_row hR4 hk) (by omega) hW4.size
        have HR6 := Lib.hid hr6
        have HY := Lib.hid (show ResRow (fun m h => m = n + 1 ∧ ∃ p, PlaceP n f a p ∧ ∀ i, i < n + 1 → h i = insF f p (a, b) i) w (.returned v5) W6 from ⟨v5, 0 + k + 1 + (n - k), _, rfl, ⟨by omega, k, HP.out, fun i hi => by rw [← ins_app hk i (by omega)]; unfold app; simp⟩, hown6.lower (by omega), hbD.trans ((hW4.trans hbel6).mono (by omega))⟩)
        clear hown2 hbel2 hg2 hat2 hr2 hrow2 hown4 hbel4 hg4 hat4 hr4 hown6 hbel6 hg6 hat6 hr6 hR1 hR4 hW2 hW4 hbD HF
        go_wp2_with (first | (at_builtin; refine wpList_app rfl (.tmp 23) (.tmp 26) 23 rfl rfl rfl HR2.out ?_) | (at_builtin; refine wpList_app rfl (.tmp 28) (.tmp 30) 23 rfl rfl rfl HR4.out ?_) | (at_builtin; refine wpList_app rfl (.tmp 32) (.tmp 35) 23 rfl rfl rfl HR6.out ?_))
        go_ret
        exact HY.out
    · obtain rfl : k = n := by omega
      by_cases hqc : k = qc
      · subst hqc
        have HP := Lib.hid (place_from HFr.out hk HA.out (fun h => absurd h hlt))
        have hkn : decide ((k : Int) < (k : Int)) = false := decide_eq_false (by omega)
        have hkn' : decide (k < k) = false := decide_eq_false (by omega)
        clear hb
        go_wp2_with fail
        refine wp_region_held_drew (S := (fun W => W.cell? ⟨w.heap.size, 0, none⟩ = some (.int .i64 a) ∧ W.cell? ⟨w.heap.size, 1, none⟩ = some (.int .i64 b) ∧ wr.heap.size ≤ W.heap.size ∧ Below (w.heap.size + 1) (w.alloc (.cells #[.int .i64 a, .int .i64 b] 25)) W)) (by kernel_rfl) (⟨hx0, hx1, Nat.le_refl _, HB.out.drew⟩) (fun hHeld => ?_)
        refine tk 0 hHeld ?_
        refine tk 1 hHeld ?_
        refine tk 2 hHeld ?_
        refine tk 3 hHeld ?_
        refine tk 4 hHeld ?_
        refine tn 5 hHeld ?_
        refine tn 6 hHeld ?_
        refine tn 7 hHeld ?_
        refine tn 8 hHeld ?_
        refine tn 9 hHeld ?_
        refine tn 10 hHeld ?_
        refine tn 11 hHeld ?_
        refine tn 12 hHeld ?_
        refine tk 13 hHeld ?_
        refine rd0 ?_
        have HF := Lib.hid hHeld.2.2.2
        clear hHeld
        have hbD : Below w.heap.size w wr := bel1 HB.out
        have hR1 : PRow ((wr.drew).alloc (.cells #[] 25)) g o k f := (H1.out.below hbD l1).below ((Below.refl _ _).drew.alloc (Nat.le_refl _) _) hgl
        obtain ⟨v1, W2, hr2, hown2, hbel2, hg2, hat2⟩ := app_sp ((wr.drew).alloc (.cells #[] 25)) wr.heap.size 23 23 Try.underlying23 (RowO.made0 wr.drew wr.heap.size _ 2 (pc f) (Nat.le_refl _)) k (pre_row hR1 hk) (by omega) (by simp)
        have HR2 := Lib.hid hr2
        have hW2 : Below wr.heap.size wr W2 := ((Below.refl wr.heap.size wr).drew.alloc (Nat.le_refl _) _).trans hbel2
        have hl2 : wr.heap.size ≤ W2.heap.size := hW2.size
        have ⟨hy0, hy1, hyl⟩ := box0 (HB.out.trans (hW2.mono hsz))
        have hrow2 := hown2.alloc (.cells #[.int .i64 a, .int .i64 b] 25)
        obtain ⟨v3, W4, hr4, hown4, hbel4, hg4, hat4⟩ := app_sp (W2.alloc (.cells #[.int .i64 a, .int .i64 b] 25)) wr.heap.size 23 23 Try.underlying23 hrow2 (m := 1) 1 one_row (by omega) (by simp; omega)
        have HR4 := Lib.hid hr4
        have hW4 : Below wr.heap.size wr W4 := (hW2.alloc hl2 _).trans hbel4
        have hR4 : PRow W4 g o k f := (H1.out.below hbD l1).below hW4 hgl
        obtain ⟨v5, W6, hr6, hown6, hbel6, hg6, hat6⟩ := app_sp W4 wr.heap.size 23 23 Try.underlying23 hown4 (g := g) (o := o) (m := 0) (h := fun i => f (i + k)) 0 slice0 (by omega) hW4.size
        have HR6 := Lib.hid hr6
        have HY := Lib.hid (show ResRow (fun m h => m = k + 1 ∧ ∃ p, PlaceP k f a p ∧ ∀ i, i < k + 1 → h i = insF f p (a, b) i) w (.returned v5) W6 from ⟨v5, 0 + k + 1 + 0, _, rfl, ⟨by omega, k, HP.out, fun i hi => by rw [← ins_app hk i (by omega)]; unfold app; simp⟩, hown6.lower (by omega), hbD.trans ((hW4.trans hbel6).mono (by omega))⟩)
        clear hown2 hbel2 hg2 hat2 hr2 hrow2 hown4 hbel4 hg4 hat4 hr4 hown6 hbel6 hg6 hat6 hr6 hR1 hR4 hW2 hW4 hbD HF
        go_wp2_with (first | (at_builtin; refine wpList_app rfl (.tmp 23) (.tmp 26) 23 rfl rfl rfl HR2.out ?_) | (at_builtin; refine wpList_app rfl (.tmp 28) (.tmp 30) 23 rfl rfl rfl HR4.out ?_) | (at_builtin; refine wpList_app rfl (.tmp 32) (.tmp 35) 23 rfl rfl rfl HR6.out ?_))
        go_ret
        exact HY.out
      · have hpp : ¬ qc = k := fun e => hqc e.symm
        have HP := Lib.hid (place_from HFr.out hk HA.out (fun h => absurd h hlt))
        have hkn : decide ((k : Int) < (k : Int)) = false := decide_eq_false (by omega)
        have hkn' : decide (k < k) = false := decide_eq_false (by omega)
        clear hb
        go_wp2_with fail
        refine wp_region_held_drew (S := (fun W => W.cell? ⟨w.heap.size, 0, none⟩ = some (.int .i64 a) ∧ W.cell? ⟨w.heap.size, 1, none⟩ = some (.int .i64 b) ∧ wr.heap.size ≤ W.heap.size ∧ Below (w.heap.size + 1) (w.alloc (.cells #[.int .i64 a, .int .i64 b] 25)) W)) (by kernel_rfl) (⟨hx0, hx1, Nat.le_refl _, HB.out.drew⟩) (fun hHeld => ?_)
        refine tk 0 hHeld ?_
        refine tk 1 hHeld ?_
        refine tk 2 hHeld ?_
        refine tk 3 hHeld ?_
        refine tk 4 hHeld ?_
        refine tn 5 hHeld ?_
        refine tn 6 hHeld ?_
        refine tn 7 hHeld ?_
        refine tn 8 hHeld ?_
        refine tn 9 hHeld ?_
        refine tn 10 hHeld ?_
        refine tn 11 hHeld ?_
        refine tn 12 hHeld ?_
        refine tk 13 hHeld ?_
        refine rd0 ?_
        have HF := Lib.hid hHeld.2.2.2
        clear hHeld
        have hbD : Below w.heap.size w wr := bel1 HB.out
        have hR1 : PRow ((wr.drew).alloc (.cells #[] 25)) g o k f := (H1.out.below hbD l1).below ((Below.refl _ _).drew.alloc (Nat.le_refl _) _) hgl
        obtain ⟨v1, W2, hr2, hown2, hbel2, hg2, hat2⟩ := app_sp ((wr.drew).alloc (.cells #[] 25)) wr.heap.size 23 23 Try.underlying23 (RowO.made0 wr.drew wr.heap.size _ 2 (pc f) (Nat.le_refl _)) qc (pre_row hR1 hk) (by omega) (by simp)
        have HR2 := Lib.hid hr2
        have hW2 : Below wr.heap.size wr W2 := ((Below.refl wr.heap.size wr).drew.alloc (Nat.le_refl _) _).trans hbel2
        have hl2 : wr.heap.size ≤ W2.heap.size := hW2.size
        have ⟨hy0, hy1, hyl⟩ := box0 (HB.out.trans (hW2.mono hsz))
        have hrow2 := hown2.alloc (.cells #[.int .i64 a, .int .i64 b] 25)
        obtain ⟨v3, W4, hr4, hown4, hbel4, hg4, hat4⟩ := app_sp (W2.alloc (.cells #[.int .i64 a, .int .i64 b] 25)) wr.heap.size 23 23 Try.underlying23 hrow2 (m := 1) 1 one_row (by omega) (by simp; omega)
        have HR4 := Lib.hid hr4
        have hW4 : Below wr.heap.size wr W4 := (hW2.alloc hl2 _).trans hbel4
        have hR4 : PRow W4 g o k f := (H1.out.below hbD l1).below hW4 hgl
        obtain ⟨v5, W6, hr6, hown6, hbel6, hg6, hat6⟩ := app_sp W4 wr.heap.size 23 23 Try.underlying23 hown4 (g := g) (o := o + k * 2) (m := 0) (h := fun i => f (i + k)) (qc - k) slice0 (by omega) hW4.size
        have HR6 := Lib.hid hr6
        have HY := Lib.hid (show ResRow (fun m h => m = k + 1 ∧ ∃ p, PlaceP k f a p ∧ ∀ i, i < k + 1 → h i = insF f p (a, b) i) w (.returned v5) W6 from ⟨v5, 0 + k + 1 + 0, _, rfl, ⟨by omega, k, HP.out, fun i hi => by rw [← ins_app hk i (by omega)]; unfold app; simp⟩, hown6.lower (by omega), hbD.trans ((hW4.trans hbel6).mono (by omega))⟩)
        clear hown2 hbel2 hg2 hat2 hr2 hrow2 hown4 hbel4 hg4 hat4 hr4 hown6 hbel6 hg6 hat6 hr6 hR1 hR4 hW2 hW4 hbD HF
        go_wp2_with (first | (at_builtin; refine wpList_app rfl (.tmp 23) (.tmp 26) 23 rfl rfl rfl HR2.out ?_) | (at_builtin; refine wpList_app rfl (.tmp 28) (.tmp 30) 23 rfl rfl rfl HR4.out ?_) | (at_builtin; refine wpList_app rfl (.tmp 32) (.tmp 35) 23 rfl rfl rfl HR6.out ?_))
        go_ret
        exact HY.out

theorem ins0 {f : Nat → Int × Int} {a b : Int} : ∀ i, i < 0 + 1 → app f 0 (fun _ => (a, b)) i = insF f 0 (a, b) i := fun i hi => by
  obtain rfl : i = 0 := by omega
  simp [app, insF]
set_option maxRecDepth 100000 in
set_option maxHeartbeats 3200000 in
theorem put2_none (qc : Nat) (f : Nat → Int × Int) (a b : Int) (w : World) (hF : FreeB 0 f a b) :
    Calls Try.prog 34 #[.slice none 0 qc, .agg #[.int .i64 a, .int .i64 b]] w (ResRow (fun m h => m = 0 + 1 ∧ ∃ p, PlaceP 0 f a p ∧ ∀ i, i < 0 + 1 → h i = insF f p (a, b) i) w) := by
  have HFr := Lib.hid hF
  clear hF
  go_enter Try.func34, Try.ntmps34
  go_wp2
  go_loopw [5] (fun i wr => i = .int .i64 0 ∧ Below (w.heap.size + 1) (w.alloc (.cells #[.int .i64 a, .int .i64 b] 25)) wr) (fun i _ => 0)
  case atStart => exact ⟨rfl, by simpa using Below.refl _ _⟩
  case round =>
    obtain ⟨rfl, hb⟩ := hrel
    have HB := Lib.hid hb
    have ⟨hx0, hx1, hxl⟩ := box0 hb
    have hsz : w.heap.size + 1 ≤ wr.heap.size := hxl
    have HP := Lib.hid (place_from HFr.out (Nat.le_refl 0) (fun j h => absurd h (Nat.not_lt_zero _)) (fun h => absurd h (Nat.lt_irrefl _)))
    clear hb
    go_wp2_with fail
    refine wp_region_held_drew (S := (fun W => W.cell? ⟨w.heap.size, 0, none⟩ = some (.int .i64 a) ∧ W.cell? ⟨w.heap.size, 1, none⟩ = some (.int .i64 b) ∧ wr.heap.size ≤ W.heap.size ∧ Below (w.heap.size + 1) (w.alloc (.cells #[.int .i64 a, .int .i64 b] 25)) W)) (by kernel_rfl) (⟨hx0, hx1, Nat.le_refl _, HB.out.drew⟩) (fun hHeld => ?_)
    refine tk 0 hHeld ?_
    refine tk 1 hHeld ?_
    refine tk 2 hHeld ?_
    refine tk 3 hHeld ?_
    refine tk 4 hHeld ?_
    refine tn 5 hHeld ?_
    refine tn 6 hHeld ?_
    refine tn 7 hHeld ?_
    refine tn 8 hHeld ?_
    refine tn 9 hHeld ?_
    refine tn 10 hHeld ?_
    refine tn 11 hHeld ?_
    refine tn 12 hHeld ?_
    refine tk 13 hHeld ?_
    refine rd0 ?_
    have HF := Lib.hid hHeld.2.2.2
    clear hHeld
    have hbD : Below w.heap.size w wr := bel1 HB.out
    obtain ⟨W2, hW2e⟩ : ∃ W2, W2 = (wr.alloc (.cells #[] 25)).drew := ⟨_, rfl⟩
    have hmade : RowS W2 wr.heap.size (.slice (some ⟨wr.heap.size, 0, none⟩) 0 0) 0 f := by rw [hW2e]; exact RowO.made0 wr.drew wr.heap.size _ 2 (pc f) (Nat.le_refl _)
    have hr2 : ∀ W, (Builtin.append_ #[23, 23] 23 #[.slice (some ⟨wr.heap.size, 0, none⟩) 0 0, .slice none 0 qc]).run Try.prog W = .ok (.slice (some ⟨wr.heap.size, 0, none⟩) 0 0) W := fun W => app_none Try.underlying23 infoS.choose_spec.1 _ _ 0 0 qc (Nat.le_refl _)
    have hW2 : Below wr.heap.size wr W2 := by rw [hW2e]; exact ((Below.refl wr.heap.size wr).alloc (Nat.le_refl _) _).drew
    have HR2 := Lib.hid hr2
    have hl2 : wr.heap.size ≤ W2.heap.size := hW2.size
    have ⟨hy0, hy1, hyl⟩ := box0 (HB.out.trans (hW2.mono hsz))
    have hrow2 := hmade.alloc (.cells #[.int .i64 a, .int .i64 b] 25)
    obtain ⟨v3, W4, hr4, hown4, hbel4, hg4, hat4⟩ := app_sp (W2.alloc (.cells #[.int .i64 a, .int .i64 b] 25)) wr.heap.size 23 23 Try.underlying23 hrow2 (m := 1) 1 one_row (by omega) (by simp; omega)
    obtain ⟨a4, c4, rfl⟩ := hown4.isSlice
    have HR4 := Lib.hid hr4
    have hW4 : Below wr.heap.size wr W4 := (hW2.alloc hl2 _).trans hbel4
    have hr6 : ∀ W, (Builtin.append_ #[23, 23] 23 #[.slice a4 (0 + 1) c4, .slice none 0 qc]).run Try.prog W = .ok (.slice a4 (0 + 1) c4) W := fun W => app_none Try.underlying23 infoS.choose_spec.1 _ _ (0 + 1) c4 qc (rowO_cap_le hown4)
    have HR6 := Lib.hid hr6
    have HY := Lib.hid (show ResRow (fun m h => m = 0 + 1 ∧ ∃ p, PlaceP 0 f a p ∧ ∀ i, i < 0 + 1 → h i = insF f p (a, b) i) w (.returned (.slice a4 (0 + 1) c4)) W4 from ⟨_, 0 + 1, _, rfl, ⟨by omega, 0, HP.out, ins0⟩, hown4.lower (by omega), hbD.trans (hW4.mono (by omega))⟩)
    clear hmade hr2 hrow2 hown4 hbel4 hg4 hat4 hr4 hr6 hW2 hW4 hbD HF
    go_wp2_with (first | (at_builtin; refine wpList_app rfl (.tmp 23) (.tmp 26) 23 rfl rfl rfl (HR2.out _) ?_; rw [← hW2e]; clear hW2e) | (at_builtin; refine wpList_app rfl (.tmp 28) (.tmp 30) 23 rfl rfl rfl HR4.out ?_) | (at_builtin; refine wpList_app rfl (.tmp 32) (.tmp 35) 23 rfl rfl rfl (HR6.out _) ?_))
    go_ret
    exact HY.out
theorem put2_spec (qa : Option Addr) (n qc : Nat) (f : Nat → Int × Int) (a b : Int) (w : World) (hn : n ≤ 1048576) (h1 : PS w qa n qc f) (hF : FreeB n f a b) :
    Calls Try.prog 34 #[.slice qa n qc, .agg #[.int .i64 a, .int .i64 b]] w (ResRow (fun m h => m = n + 1 ∧ ∃ p, PlaceP n f a p ∧ ∀ i, i < n + 1 → h i = insF f p (a, b) i) w) := by
  rcases h1 with ⟨rfl, rfl⟩ | ⟨g, o, rfl, l1, hnc, h1⟩
  · exact put2_none qc f a b w hF
  · exact put2_some g o n qc hnc f a b w hn h1 l1 hF
/-- a slice appended to a row of the call's own -/
theorem app_any (W : World) (lo : Nat) (t ty : TypeId) (ht : Try.prog.underlying t = some (.slice 25)) {v : Value} {n : Nat} {f : Nat → Int × Int} (hown : RowS W lo v n f) {qa : Option Addr} {m qc : Nat} {h : Nat → Int × Int} (hd : PS W qa m qc h) (hnm : n + m ≤ 4194304) (hl : lo ≤ W.heap.size) :
    ∃ v' W', (Builtin.append_ #[t, t] ty #[v, .slice qa m qc]).run Try.prog W = .ok v' W' ∧ RowS W' lo v' (n + m) (app f n h) ∧ Below lo W W' := by
  rcases hd with ⟨rfl, rfl⟩ | ⟨g, o, rfl, l1, hnc, h1⟩
  · obtain ⟨a, c, rfl⟩ := hown.isSlice
    exact ⟨_, W, app_none ht infoS.choose_spec.1 a none n c qc (rowO_cap_le hown), RowO.congr hown (fun j hj => by rw [← app_pc f h n 0 j (by omega), if_pos (by omega)]), Below.refl _ _⟩
  · obtain ⟨v', W', h1, h2, h3, _⟩ := app_sp W lo t ty ht hown (g := g) (o := o) (m := m) qc (h := h) h1 hnm hl
    exact ⟨v', W', h1, h2, h3⟩
set_option maxRecDepth 100000 in
set_option maxHeartbeats 3200000 in
theorem put_spec (qa : Option Addr) (n qc : Nat) (f : Nat → Int × Int) (a b : Int) (w : World) (hn : n ≤ 1048576) (h1 : PS w qa n qc f) :
    Calls Try.prog 11 #[.slice qa n qc, .agg #[.int .i64 a, .int .i64 b]] w (ResRow (PutP n f a b) w) := by
  have H1 := Lib.hid h1
  clear h1
  by_cases h400 : n ≤ 400
  · have hd : decide ((400 : Int) < (n : Int)) = false := decide_eq_false (by omega)
    have hR1 : PS (w.alloc (.cells #[.int .i64 a, .int .i64 b] 25)) qa n qc f := H1.out.bel ((Below.refl _ _).alloc (Nat.le_refl _) _)
    go_enter Try.func11, Try.ntmps11
    go_wp2_with fail
    refine (isfree_spec qa n qc f a b _ hn hR1.pa).mono ?_
    intro e wr h
    obtain ⟨c, rfl, hc, hb⟩ := resB_elim h
    have hb : Below (w.heap.size + 1) (w.alloc (.cells #[.int .i64 a, .int .i64 b] 25)) wr := by simpa using hb
    have HB := Lib.hid hb
    have ⟨hx0, hx1, hxl⟩ := box0 hb
    obtain ⟨v1, W2, hr2, hown2, hbel2⟩ := app_any (wr.alloc (.cells #[] 25)) wr.heap.size 23 23 Try.underlying23 (RowO.made0 wr wr.heap.size _ 2 (pc f) (Nat.le_refl _)) ((H1.out.bel (bel1 hb)).bel ((Below.refl _ _).alloc (Nat.le_refl _) _)) (by omega) (by simp)
    have HR2 := Lib.hid hr2
    have HOLD := Lib.hid (show ¬ (FreeB n f a b ∧ n < 20) → ResRow (PutP n f a b) w (.returned v1) W2 from fun hn => ⟨v1, 0 + n, _, rfl, .inr (.inl ⟨h400, hn, by omega, fun i hi => by simp [app]⟩), hown2.lower (by omega), (bel1 HB.out).trans ((((Below.refl wr.heap.size wr).alloc (Nat.le_refl _) _).trans hbel2).mono (by omega))⟩)
    clear h hR1 hr2 hown2 hbel2
    cases c with
    | false =>
      have HY := Lib.hid (HOLD.out (fun h => by have := hc.2 h.1; cases this))
      clear hb hc
      go_wp2_with (at_builtin; refine wpList_app rfl (.tmp 18) (.tmp 19) 23 rfl rfl rfl HR2.out ?_)
      go_ret
      exact HY.out
    | true =>
      have HF := Lib.hid (hc.1 rfl)
      clear hb hc
      by_cases h20 : 20 ≤ n
      · have hd20 : decide ((20 : Int) ≤ (n : Int)) = true := decide_eq_true (by omega)
        have HY := Lib.hid (HOLD.out (fun h => by omega))
        go_wp2_with (at_builtin; refine wpList_app rfl (.tmp 18) (.tmp 19) 23 rfl rfl rfl HR2.out ?_)
        go_ret
        exact HY.out
      · have hd20 : decide ((20 : Int) ≤ (n : Int)) = false := decide_eq_false (by omega)
        go_wp2_with fail
        refine (put2_spec qa n qc f a b _ hn (H1.out.bel (bel1 HB.out)) HF.out).mono ?_
        intro e w2 h
        obtain ⟨v, m, h', rfl, hq, hrow, hb⟩ := resRow_elim h
        have HR := Lib.hid (show ResRow (PutP n f a b) w (.returned v) w2 from ⟨v, m, h', rfl, .inr (.inr ⟨h400, HF.out, by omega, hq.1, hq.2⟩), hrow.lower (by omega), (bel1 HB.out).trans (hb.mono (by omega))⟩)
        clear h hq hrow hb
        go_wp2
        go_ret
        exact HR.out
  · have hd : decide ((400 : Int) < (n : Int)) = true := decide_eq_true (by omega)
    have HR := Lib.hid (show ResRow (PutP n f a b) w (.returned (.slice (some ⟨w.heap.size + 1, 0, none⟩) 0 0)) ((w.alloc (.cells #[.int .i64 a, .int .i64 b] 25)).alloc (.cells #[] 25)) from ⟨_, 0, f, rfl, .inl ⟨by omega, rfl⟩, by simpa using RowO.made0 (w.alloc (.cells #[.int .i64 a, .int .i64 b] 25)) w.heap.size 25 2 (pc f) (by simp), ((Below.refl _ _).alloc (Nat.le_refl _) _).alloc (by simp) _⟩)
    go_enter Try.func11, Try.ntmps11
    go_wp2
    go_ret
    exact HR.out
end Go.Proofs.Ytphklknaagjmpaa.SpanC
