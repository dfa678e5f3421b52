/- Of this claim's texts the part 4: SqPut3 NdI NdY2 NdU1 NdS2 NdU2 Lift Opn NdO NdGv NdO2 NdGs NdGu. -/
import Derived.Test.YtfciojkibklkfaaRows
import Derived.ProofKit
import Derived.OpenShut
import Derived.Below
import Derived.Carry
import Derived.ChangeOld
import Derived.Lib.SmallJoins
import Derived.Deep.Slices
import Derived.Test.YtfciojkibklkfaaPT3
section
namespace Go.Proofs.Ytfciojkibklkfaa.SpanC
open Go.RowKit KeptC RowC
set_option maxRecDepth 100000 in
set_option maxHeartbeats 3200000 in
theorem put2_some (g o n qc : Nat) (hnc : n ≤ qc) (f : Nat → Int × Int) (a b : Int) (w : World) (hn : n ≤ 1048576) (h1 : PRow w g o n f) (l1 : g < w.heap.size) (hF : FreeB n f a b) :
    Calls Try.prog 61 #[.slice (some ⟨g, o, none⟩) n qc, .agg #[.int .i64 a, .int .i64 b]] w (ResRow (fun m h => m = n + 1 ∧ ∃ p, PlaceP n f a p ∧ ∀ i, i < n + 1 → h i = insF f p (a, b) i) w) := by
  have H1 := Lib.hid h1
  have HFr := Lib.hid hF
  clear h1 hF
  go_enter Try.func61, Try.ntmps61
  go_wp2
  go_loopw [5] (fun i wr => ∃ k : Nat, k ≤ n ∧ i = .int .i64 k ∧ (∀ j, j < k → (f j).1 < a) ∧ Below (w.heap.size + 1) (w.alloc (.cells #[.int .i64 a, .int .i64 b] 25)) wr) (fun i _ => n - (intOf i).toNat)
  case atStart => exact ⟨0, Nat.zero_le _, rfl, fun j h => absurd h (Nat.not_lt_zero _), by simpa using Below.refl _ _⟩
  case round =>
    obtain ⟨k, hk, rfl, hall, hb⟩ := hrel
    have HA := Lib.hid hall
    have HB := Lib.hid hb
    have ⟨hx0, hx1, hxl⟩ := box0 hb
    have hsz : w.heap.size + 1 ≤ wr.heap.size := hxl
    have hgl : g < wr.heap.size := by omega
    have hi0 : (0 : Int) ≤ (k : Int) := Int.natCast_nonneg _
    have hik : (k : Int) ≤ (n : Int) := by omega
    have hkc : k ≤ qc := by omega
    have hkc1 : (k : Int) ≤ (qc : Int) := by omega
    have hnc1 : (n : Int) ≤ (qc : Int) := by omega
    clear hall
    by_cases hlt : k < n
    · have ⟨hc0, hc1⟩ := (H1.out.below (bel1 hb) l1) k hlt
      have hi1 : (k : Int) < (n : Int) := by omega
      have hkn : decide ((k : Int) < (n : Int)) = true := decide_eq_true hi1
      have hkn' : decide (k < n) = true := decide_eq_true hlt
      clear hb
      by_cases hlo : (f k).1 < a
      · have HOK := Lib.hid (all_step (P := fun j => (f j).1 < a) HA.out hlo)
        have hlo' : decide ((f k).1 < a) = true := decide_eq_true hlo
        go_wp2_with fail
        refine wp_region_held_drew (S := (fun W => W.cell? ⟨g, o + k * 2, none⟩ = some (.int .i64 (f k).1) ∧ W.cell? ⟨g, o + k * 2 + 1, none⟩ = some (.int .i64 (f k).2) ∧ W.cell? ⟨w.heap.size, 0, none⟩ = some (.int .i64 a) ∧ W.cell? ⟨w.heap.size, 1, none⟩ = some (.int .i64 b) ∧ wr.heap.size ≤ W.heap.size ∧ Below (w.heap.size + 1) (w.alloc (.cells #[.int .i64 a, .int .i64 b] 25)) W)) (by kernel_rfl) (⟨hc0, hc1, hx0, hx1, Nat.le_refl _, HB.out.drew⟩) (fun hHeld => ?_)
        refine tk 0 hHeld ?_
        refine tk 1 hHeld ?_
        refine tk 2 hHeld ?_
        refine tk 3 hHeld ?_
        refine tk 4 hHeld ?_
        refine tk 5 hHeld ?_
        refine tk 6 hHeld ?_
        refine tk 7 hHeld ?_
        refine tk 8 hHeld ?_
        refine tk 9 hHeld ?_
        refine tk 10 hHeld ?_
        refine tk 11 hHeld ?_
        refine tk 12 hHeld ?_
        refine tk 13 hHeld ?_
        refine rd0 ?_
        have HF := Lib.hid hHeld.2.2.2.2.2
        clear hHeld
        go_wp2
        go_roundw
        case rel => exact ⟨k + 1, by omega, by go_num, HOK.out, HF.out⟩
        case measure => simp [intOf]; omega
      · have hlo' : decide ((f k).1 < a) = false := decide_eq_false hlo
        have HP := Lib.hid (place_from HFr.out hk HA.out (fun _ => hlo))
        have hpp : ¬ qc = k := by omega
        go_wp2_with fail
        refine wp_region_held_drew (S := (fun W => W.cell? ⟨g, o + k * 2, none⟩ = some (.int .i64 (f k).1) ∧ W.cell? ⟨g, o + k * 2 + 1, none⟩ = some (.int .i64 (f k).2) ∧ W.cell? ⟨w.heap.size, 0, none⟩ = some (.int .i64 a) ∧ W.cell? ⟨w.heap.size, 1, none⟩ = some (.int .i64 b) ∧ wr.heap.size ≤ W.heap.size ∧ Below (w.heap.size + 1) (w.alloc (.cells #[.int .i64 a, .int .i64 b] 25)) W)) (by kernel_rfl) (⟨hc0, hc1, hx0, hx1, Nat.le_refl _, HB.out.drew⟩) (fun hHeld => ?_)
        refine tk 0 hHeld ?_
        refine tk 1 hHeld ?_
        refine tk 2 hHeld ?_
        refine tk 3 hHeld ?_
        refine tk 4 hHeld ?_
        refine tk 5 hHeld ?_
        refine tk 6 hHeld ?_
        refine tk 7 hHeld ?_
        refine tk 8 hHeld ?_
        refine tk 9 hHeld ?_
        refine tk 10 hHeld ?_
        refine tk 11 hHeld ?_
        refine tk 12 hHeld ?_
        refine tk 13 hHeld ?_
        refine rd0 ?_
        have HF := Lib.hid hHeld.2.2.2.2.2
        clear hHeld
        have hbD : Below w.heap.size w wr := bel1 HB.out
        have hR1 : PRow ((wr.drew).alloc (.cells #[] 25)) g o n f := (H1.out.below hbD l1).below ((Below.refl _ _).drew.alloc (Nat.le_refl _) _) hgl
        obtain ⟨v1, W2, hr2, hown2, hbel2, hg2, hat2⟩ := app_sp ((wr.drew).alloc (.cells #[] 25)) wr.heap.size 39 39 Try.underlying39 (RowO.made0 wr.drew wr.heap.size _ 2 (pc f) (Nat.le_refl _)) qc (pre_row hR1 hk) (by omega) (by simp)
        have HR2 := Lib.hid hr2
        have hW2 : Below wr.heap.size wr W2 := ((Below.refl wr.heap.size wr).drew.alloc (Nat.le_refl _) _).trans hbel2
        have hl2 : wr.heap.size ≤ W2.heap.size := hW2.size
        have ⟨hy0, hy1, hyl⟩ := box0 (HB.out.trans (hW2.mono hsz))
        have hrow2 := hown2.alloc (.cells #[.int .i64 a, .int .i64 b] 25)
        obtain ⟨v3, W4, hr4, hown4, hbel4, hg4, hat4⟩ := app_sp (W2.alloc (.cells #[.int .i64 a, .int .i64 b] 25)) wr.heap.size 39 39 Try.underlying39 hrow2 (m := 1) 1 one_row (by omega) (by simp; omega)
        have HR4 := Lib.hid hr4
        have hW4 : Below wr.heap.size wr W4 := (hW2.alloc hl2 _).trans hbel4
        have hR4 : PRow W4 g o n f := (H1.out.below hbD l1).below hW4 hgl
        obtain ⟨v5, W6, hr6, hown6, hbel6, hg6, hat6⟩ := app_sp W4 wr.heap.size 39 39 Try.underlying39 hown4 (qc - k) (sub_row hR4 hk) (by omega) hW4.size
        have HR6 := Lib.hid hr6
        have HY := Lib.hid (show ResRow (fun m h => m = n + 1 ∧ ∃ p, PlaceP n f a p ∧ ∀ i, i < n + 1 → h i = insF f p (a, b) i) w (.returned v5) W6 from ⟨v5, 0 + k + 1 + (n - k), _, rfl, ⟨by omega, k, HP.out, fun i hi => by rw [← ins_app hk i (by omega)]; unfold app; simp⟩, hown6.lower (by omega), hbD.trans ((hW4.trans hbel6).mono (by omega))⟩)
        clear hown2 hbel2 hg2 hat2 hr2 hrow2 hown4 hbel4 hg4 hat4 hr4 hown6 hbel6 hg6 hat6 hr6 hR1 hR4 hW2 hW4 hbD HF
        go_wp2_with (first | (at_builtin; refine wpList_app rfl (.tmp 23) (.tmp 26) 39 rfl rfl rfl HR2.out ?_) | (at_builtin; refine wpList_app rfl (.tmp 28) (.tmp 30) 39 rfl rfl rfl HR4.out ?_) | (at_builtin; refine wpList_app rfl (.tmp 32) (.tmp 35) 39 rfl rfl rfl HR6.out ?_))
        go_ret
        exact HY.out
    · obtain rfl : k = n := by omega
      by_cases hqc : k = qc
      · subst hqc
        have HP := Lib.hid (place_from HFr.out hk HA.out (fun h => absurd h hlt))
        have hkn : decide ((k : Int) < (k : Int)) = false := decide_eq_false (by omega)
        have hkn' : decide (k < k) = false := decide_eq_false (by omega)
        clear hb
        go_wp2_with fail
        refine wp_region_held_drew (S := (fun W => W.cell? ⟨w.heap.size, 0, none⟩ = some (.int .i64 a) ∧ W.cell? ⟨w.heap.size, 1, none⟩ = some (.int .i64 b) ∧ wr.heap.size ≤ W.heap.size ∧ Below (w.heap.size + 1) (w.alloc (.cells #[.int .i64 a, .int .i64 b] 25)) W)) (by kernel_rfl) (⟨hx0, hx1, Nat.le_refl _, HB.out.drew⟩) (fun hHeld => ?_)
        refine tk 0 hHeld ?_
        refine tk 1 hHeld ?_
        refine tk 2 hHeld ?_
        refine tk 3 hHeld ?_
        refine tk 4 hHeld ?_
        refine tn 5 hHeld ?_
        refine tn 6 hHeld ?_
        refine tn 7 hHeld ?_
        refine tn 8 hHeld ?_
        refine tn 9 hHeld ?_
        refine tn 10 hHeld ?_
        refine tn 11 hHeld ?_
        refine tn 12 hHeld ?_
        refine tk 13 hHeld ?_
        refine rd0 ?_
        have HF := Lib.hid hHeld.2.2.2
        clear hHeld
        have hbD : Below w.heap.size w wr := bel1 HB.out
        have hR1 : PRow ((wr.drew).alloc (.cells #[] 25)) g o k f := (H1.out.below hbD l1).below ((Below.refl _ _).drew.alloc (Nat.le_refl _) _) hgl
        obtain ⟨v1, W2, hr2, hown2, hbel2, hg2, hat2⟩ := app_sp ((wr.drew).alloc (.cells #[] 25)) wr.heap.size 39 39 Try.underlying39 (RowO.made0 wr.drew wr.heap.size _ 2 (pc f) (Nat.le_refl _)) k (pre_row hR1 hk) (by omega) (by simp)
        have HR2 := Lib.hid hr2
        have hW2 : Below wr.heap.size wr W2 := ((Below.refl wr.heap.size wr).drew.alloc (Nat.le_refl _) _).trans hbel2
        have hl2 : wr.heap.size ≤ W2.heap.size := hW2.size
        have ⟨hy0, hy1, hyl⟩ := box0 (HB.out.trans (hW2.mono hsz))
        have hrow2 := hown2.alloc (.cells #[.int .i64 a, .int .i64 b] 25)
        obtain ⟨v3, W4, hr4, hown4, hbel4, hg4, hat4⟩ := app_sp (W2.alloc (.cells #[.int .i64 a, .int .i64 b] 25)) wr.heap.size 39 39 Try.underlying39 hrow2 (m := 1) 1 one_row (by omega) (by simp; omega)
        have HR4 := Lib.hid hr4
        have hW4 : Below wr.heap.size wr W4 := (hW2.alloc hl2 _).trans hbel4
        have hR4 : PRow W4 g o k f := (H1.out.below hbD l1).below hW4 hgl
        obtain ⟨v5, W6, hr6, hown6, hbel6, hg6, hat6⟩ := app_sp W4 wr.heap.size 39 39 Try.underlying39 hown4 (g := g) (o := o) (m := 0) (h := fun i => f (i + k)) 0 slice0 (by omega) hW4.size
        have HR6 := Lib.hid hr6
        have HY := Lib.hid (show ResRow (fun m h => m = k + 1 ∧ ∃ p, PlaceP k f a p ∧ ∀ i, i < k + 1 → h i = insF f p (a, b) i) w (.returned v5) W6 from ⟨v5, 0 + k + 1 + 0, _, rfl, ⟨by omega, k, HP.out, fun i hi => by rw [← ins_app hk i (by omega)]; unfold app; simp⟩, hown6.lower (by omega), hbD.trans ((hW4.trans hbel6).mono (by omega))⟩)
        clear hown2 hbel2 hg2 hat2 hr2 hrow2 hown4 hbel4 hg4 hat4 hr4 hown6 hbel6 hg6 hat6 hr6 hR1 hR4 hW2 hW4 hbD HF
        go_wp2_with (first | (at_builtin; refine wpList_app rfl (.tmp 23) (.tmp 26) 39 rfl rfl rfl HR2.out ?_) | (at_builtin; refine wpList_app rfl (.tmp 28) (.tmp 30) 39 rfl rfl rfl HR4.out ?_) | (at_builtin; refine wpList_app rfl (.tmp 32) (.tmp 35) 39 rfl rfl rfl HR6.out ?_))
        go_ret
        exact HY.out
      · have hpp : ¬ qc = k := fun e => hqc e.symm
        have HP := Lib.hid (place_from HFr.out hk HA.out (fun h => absurd h hlt))
        have hkn : decide ((k : Int) < (k : Int)) = false := decide_eq_false (by omega)
        have hkn' : decide (k < k) = false := decide_eq_false (by omega)
        clear hb
        go_wp2_with fail
        refine wp_region_held_drew (S := (fun W => W.cell? ⟨w.heap.size, 0, none⟩ = some (.int .i64 a) ∧ W.cell? ⟨w.heap.size, 1, none⟩ = some (.int .i64 b) ∧ wr.heap.size ≤ W.heap.size ∧ Below (w.heap.size + 1) (w.alloc (.cells #[.int .i64 a, .int .i64 b] 25)) W)) (by kernel_rfl) (⟨hx0, hx1, Nat.le_refl _, HB.out.drew⟩) (fun hHeld => ?_)
        refine tk 0 hHeld ?_
        refine tk 1 hHeld ?_
        refine tk 2 hHeld ?_
        refine tk 3 hHeld ?_
        refine tk 4 hHeld ?_
        refine tn 5 hHeld ?_
        refine tn 6 hHeld ?_
        refine tn 7 hHeld ?_
        refine tn 8 hHeld ?_
        refine tn 9 hHeld ?_
        refine tn 10 hHeld ?_
        refine tn 11 hHeld ?_
        refine tn 12 hHeld ?_
        refine tk 13 hHeld ?_
        refine rd0 ?_
        have HF := Lib.hid hHeld.2.2.2
        clear hHeld
        have hbD : Below w.heap.size w wr := bel1 HB.out
        have hR1 : PRow ((wr.drew).alloc (.cells #[] 25)) g o k f := (H1.out.below hbD l1).below ((Below.refl _ _).drew.alloc (Nat.le_refl _) _) hgl
        obtain ⟨v1, W2, hr2, hown2, hbel2, hg2, hat2⟩ := app_sp ((wr.drew).alloc (.cells #[] 25)) wr.heap.size 39 39 Try.underlying39 (RowO.made0 wr.drew wr.heap.size _ 2 (pc f) (Nat.le_refl _)) qc (pre_row hR1 hk) (by omega) (by simp)
        have HR2 := Lib.hid hr2
        have hW2 : Below wr.heap.size wr W2 := ((Below.refl wr.heap.size wr).drew.alloc (Nat.le_refl _) _).trans hbel2
        have hl2 : wr.heap.size ≤ W2.heap.size := hW2.size
        have ⟨hy0, hy1, hyl⟩ := box0 (HB.out.trans (hW2.mono hsz))
        have hrow2 := hown2.alloc (.cells #[.int .i64 a, .int .i64 b] 25)
        obtain ⟨v3, W4, hr4, hown4, hbel4, hg4, hat4⟩ := app_sp (W2.alloc (.cells #[.int .i64 a, .int .i64 b] 25)) wr.heap.size 39 39 Try.underlying39 hrow2 (m := 1) 1 one_row (by omega) (by simp; omega)
        have HR4 := Lib.hid hr4
        have hW4 : Below wr.heap.size wr W4 := (hW2.alloc hl2 _).trans hbel4
        have hR4 : PRow W4 g o k f := (H1.out.below hbD l1).below hW4 hgl
        obtain ⟨v5, W6, hr6, hown6, hbel6, hg6, hat6⟩ := app_sp W4 wr.heap.size 39 39 Try.underlying39 hown4 (g := g) (o := o + k * 2) (m := 0) (h := fun i => f (i + k)) (qc - k) slice0 (by omega) hW4.size
        have HR6 := Lib.hid hr6
        have HY := Lib.hid (show ResRow (fun m h => m = k + 1 ∧ ∃ p, PlaceP k f a p ∧ ∀ i, i < k + 1 → h i = insF f p (a, b) i) w (.returned v5) W6 from ⟨v5, 0 + k + 1 + 0, _, rfl, ⟨by omega, k, HP.out, fun i hi => by rw [← ins_app hk i (by omega)]; unfold app; simp⟩, hown6.lower (by omega), hbD.trans ((hW4.trans hbel6).mono (by omega))⟩)
        clear hown2 hbel2 hg2 hat2 hr2 hrow2 hown4 hbel4 hg4 hat4 hr4 hown6 hbel6 hg6 hat6 hr6 hR1 hR4 hW2 hW4 hbD HF
        go_wp2_with (first | (at_builtin; refine wpList_app rfl (.tmp 23) (.tmp 26) 39 rfl rfl rfl HR2.out ?_) | (at_builtin; refine wpList_app rfl (.tmp 28) (.tmp 30) 39 rfl rfl rfl HR4.out ?_) | (at_builtin; refine wpList_app rfl (.tmp 32) (.tmp 35) 39 rfl rfl rfl HR6.out ?_))
        go_ret
        exact HY.out
theorem ins0 {f : Nat → Int × Int} {a b : Int} : ∀ i, i < 0 + 1 → app f 0 (fun _ => (a, b)) i = insF f 0 (a, b) i := fun i hi => by
  obtain rfl : i = 0 := by omega
  simp [app, insF]
set_option maxRecDepth 100000 in
set_option maxHeartbeats 3200000 in
theorem put2_none (qc : Nat) (f : Nat → Int × Int) (a b : Int) (w : World) (hF : FreeB 0 f a b) :
    Calls Try.prog 61 #[.slice none 0 qc, .agg #[.int .i64 a, .int .i64 b]] w (ResRow (fun m h => m = 0 + 1 ∧ ∃ p, PlaceP 0 f a p ∧ ∀ i, i < 0 + 1 → h i = insF f p (a, b) i) w) := by
  have HFr := Lib.hid hF
  clear hF
  go_enter Try.func61, Try.ntmps61
  go_wp2
  go_loopw [5] (fun i wr => i = .int .i64 0 ∧ Below (w.heap.size + 1) (w.alloc (.cells #[.int .i64 a, .int .i64 b] 25)) wr) (fun i _ => 0)
  case atStart => exact ⟨rfl, by simpa using Below.refl _ _⟩
  case round =>
    obtain ⟨rfl, hb⟩ := hrel
    have HB := Lib.hid hb
    have ⟨hx0, hx1, hxl⟩ := box0 hb
    have hsz : w.heap.size + 1 ≤ wr.heap.size := hxl
    have HP := Lib.hid (place_from HFr.out (Nat.le_refl 0) (fun j h => absurd h (Nat.not_lt_zero _)) (fun h => absurd h (Nat.lt_irrefl _)))
    clear hb
    go_wp2_with fail
    refine wp_region_held_drew (S := (fun W => W.cell? ⟨w.heap.size, 0, none⟩ = some (.int .i64 a) ∧ W.cell? ⟨w.heap.size, 1, none⟩ = some (.int .i64 b) ∧ wr.heap.size ≤ W.heap.size ∧ Below (w.heap.size + 1) (w.alloc (.cells #[.int .i64 a, .int .i64 b] 25)) W)) (by kernel_rfl) (⟨hx0, hx1, Nat.le_refl _, HB.out.drew⟩) (fun hHeld => ?_)
    refine tk 0 hHeld ?_
    refine tk 1 hHeld ?_
    refine tk 2 hHeld ?_
    refine tk 3 hHeld ?_
    refine tk 4 hHeld ?_
    refine tn 5 hHeld ?_
    refine tn 6 hHeld ?_
    refine tn 7 hHeld ?_
    refine tn 8 hHeld ?_
    refine tn 9 hHeld ?_
    refine tn 10 hHeld ?_
    refine tn 11 hHeld ?_
    refine tn 12 hHeld ?_
    refine tk 13 hHeld ?_
    refine rd0 ?_
    have HF := Lib.hid hHeld.2.2.2
    clear hHeld
    have hbD : Below w.heap.size w wr := bel1 HB.out
    obtain ⟨W2, hW2e⟩ : ∃ W2, W2 = (wr.alloc (.cells #[] 25)).drew := ⟨_, rfl⟩
    have hmade : RowS W2 wr.heap.size (.slice (some ⟨wr.heap.size, 0, none⟩) 0 0) 0 f := by rw [hW2e]; exact RowO.made0 wr.drew wr.heap.size _ 2 (pc f) (Nat.le_refl _)
    have hr2 : ∀ W, (Builtin.append_ #[39, 39] 39 #[.slice (some ⟨wr.heap.size, 0, none⟩) 0 0, .slice none 0 qc]).run Try.prog W = .ok (.slice (some ⟨wr.heap.size, 0, none⟩) 0 0) W := fun W => app_none Try.underlying39 infoS.choose_spec.1 _ _ 0 0 qc (Nat.le_refl _)
    have hW2 : Below wr.heap.size wr W2 := by rw [hW2e]; exact ((Below.refl wr.heap.size wr).alloc (Nat.le_refl _) _).drew
    have HR2 := Lib.hid hr2
    have hl2 : wr.heap.size ≤ W2.heap.size := hW2.size
    have ⟨hy0, hy1, hyl⟩ := box0 (HB.out.trans (hW2.mono hsz))
    have hrow2 := hmade.alloc (.cells #[.int .i64 a, .int .i64 b] 25)
    obtain ⟨v3, W4, hr4, hown4, hbel4, hg4, hat4⟩ := app_sp (W2.alloc (.cells #[.int .i64 a, .int .i64 b] 25)) wr.heap.size 39 39 Try.underlying39 hrow2 (m := 1) 1 one_row (by omega) (by simp; omega)
    obtain ⟨a4, c4, rfl⟩ := hown4.isSlice
    have HR4 := Lib.hid hr4
    have hW4 : Below wr.heap.size wr W4 := (hW2.alloc hl2 _).trans hbel4
    have hr6 : ∀ W, (Builtin.append_ #[39, 39] 39 #[.slice a4 (0 + 1) c4, .slice none 0 qc]).run Try.prog W = .ok (.slice a4 (0 + 1) c4) W := fun W => app_none Try.underlying39 infoS.choose_spec.1 _ _ (0 + 1) c4 qc (rowO_cap_le hown4)
    have HR6 := Lib.hid hr6
    have HY := Lib.hid (show ResRow (fun m h => m = 0 + 1 ∧ ∃ p, PlaceP 0 f a p ∧ ∀ i, i < 0 + 1 → h i = insF f p (a, b) i) w (.returned (.slice a4 (0 + 1) c4)) W4 from ⟨_, 0 + 1, _, rfl, ⟨by omega, 0, HP.out, ins0⟩, hown4.lower (by omega), hbD.trans (hW4.mono (by omega))⟩)
    clear hmade hr2 hrow2 hown4 hbel4 hg4 hat4 hr4 hr6 hW2 hW4 hbD HF
    go_wp2_with (first | (at_builtin; refine wpList_app rfl (.tmp 23) (.tmp 26) 39 rfl rfl rfl (HR2.out _) ?_; rw [← hW2e]; clear hW2e) | (at_builtin; refine wpList_app rfl (.tmp 28) (.tmp 30) 39 rfl rfl rfl HR4.out ?_) | (at_builtin; refine wpList_app rfl (.tmp 32) (.tmp 35) 39 rfl rfl rfl (HR6.out _) ?_))
    go_ret
    exact HY.out
theorem put2_spec (qa : Option Addr) (n qc : Nat) (f : Nat → Int × Int) (a b : Int) (w : World) (hn : n ≤ 1048576) (h1 : PS w qa n qc f) (hF : FreeB n f a b) :
    Calls Try.prog 61 #[.slice qa n qc, .agg #[.int .i64 a, .int .i64 b]] w (ResRow (fun m h => m = n + 1 ∧ ∃ p, PlaceP n f a p ∧ ∀ i, i < n + 1 → h i = insF f p (a, b) i) w) := by
  rcases h1 with ⟨rfl, rfl⟩ | ⟨g, o, rfl, l1, hnc, h1⟩
  · exact put2_none qc f a b w hF
  · exact put2_some g o n qc hnc f a b w hn h1 l1 hF
end Go.Proofs.Ytfciojkibklkfaa.SpanC
end
section
namespace Go.Proofs.Ytfciojkibklkfaa.RepC
open Go.RowKit RowC ValC SpanC KeptC
set_option linter.unusedVariables false
set_option linter.unusedSimpArgs false
theorem ins_list {L : List D_Span} {x : D_Span} {p : Nat} (hp : p ≤ L.length) {h : Nat → Int × Int} (hh : ∀ i, i < L.length + 1 → h i = insF (gt L) p x i) : (List.range (L.length + 1)).map h = L.take p ++ x :: L.drop p := by
  apply List.ext_getElem?
  intro i
  rw [List.getElem?_map]
  by_cases hi : i < L.length + 1
  · rw [List.getElem?_range hi]
    simp only [Option.map_some]
    rw [hh i hi]
    unfold insF
    by_cases h1 : i < p
    · rw [if_pos h1, List.getElem?_append_left (by rw [List.length_take]; omega), List.getElem?_take, if_pos h1, gt_get (by omega)]
    · rw [if_neg h1, List.getElem?_append_right (by rw [List.length_take]; omega), List.length_take, show min p L.length = p by omega]
      by_cases h2 : i = p
      · subst h2; simp
      · rw [if_neg h2, show i - p = (i - p - 1) + 1 by omega, List.getElem?_cons_succ, List.getElem?_drop, show p + (i - p - 1) = i - 1 by omega, gt_get (by omega)]
  · rw [List.getElem?_eq_none (by simp; omega), Option.map_none, List.getElem?_eq_none (by simp; omega)]
end Go.Proofs.Ytfciojkibklkfaa.RepC
end
section
namespace Go.Proofs.Ytfciojkibklkfaa.RepC
open Go.RowKit RowC ValC SpanC KeptC
set_option linter.unusedVariables false
set_option linter.unusedSimpArgs false
theorem Row.books {W wr wq : World} {S Sf : _} {L : List D_Node} {g k : Nat} {st : Int} {M M' : List D_Span} {v : Value} (h : Row R_Node wr S L g Sf) (hS : ∀ q, S q → W.heap.size ≤ q ∧ q < wr.heap.size) (hx : L[k]? = some (st, M)) (hb : Below wr.heap.size wr wq) (hv : XRow wq wr.heap.size v M') (hW : Below W.heap.size W wr) :
    ∃ S' Sf', Row R_Node (wq.setCell ⟨g, k * 2 + 1, none⟩ v) S' (L.set k (st, M')) g Sf' ∧ (∀ q, S' q → W.heap.size ≤ q ∧ q < (wq.setCell ⟨g, k * 2 + 1, none⟩ v).heap.size) ∧ Below W.heap.size W (wq.setCell ⟨g, k * 2 + 1, none⟩ v) ∧
      (∃ u, wq.cell? ⟨g, k * 2 + 1, none⟩ = some u) ∧ wq.frozen? ⟨g, k * 2 + 1, none⟩ = false := by
  obtain ⟨us, hu, hr⟩ := h.el k _ hx
  obtain ⟨ba, bc, T0, rfl, hT0, hM⟩ := ow_Node hr
  rw [size_NodeS] at hu
  have hgS := hS g h.own
  have hsz := hb.size
  obtain ⟨va, vc, rfl, hO⟩ := hv.sl R_Span_ok flat_Span
  have d0 : wq.cell? ⟨g, k * 2, none⟩ = some (.int .i64 st) := (hb.cell (p := ⟨g, k * 2, none⟩) hgS.2).trans (by simpa using hu 0 _ rfl)
  have d1 : wq.cell? ⟨g, k * 2 + 1, none⟩ = some (.slice ba M.length bc) := (hb.cell (p := ⟨g, k * 2 + 1, none⟩) hgS.2).trans (hu 1 _ rfl)
  have hset : ∀ q, q ≠ g → (wq.setCell ⟨g, k * 2 + 1, none⟩ (.slice va M'.length vc)).heap[q]? = wq.heap[q]? := fun q hq => Below.heap_setCell wq ⟨g, k * 2 + 1, none⟩ _ q hq
  have hrow := Row.put R_Node_ok (T := fun q => (Value.slice va M'.length vc).ownBlock = some q) (x := (st, M')) (us := [.int .i64 st, .slice va M'.length vc]) h (fun q hq => (hS q hq).2)
    (W' := wq.setCell ⟨g, k * 2 + 1, none⟩ (.slice va M'.length vc)) (by rw [size_NodeS]; exact (Upd.below hb hgS.2).trans (Upd.set (lo := k * 2) (hi := (k + 1) * 2) _ _ ⟨by omega, by omega⟩ _)) (fun q hq => (hv.blk q hq).1) (fun j d hd => by
      rw [size_NodeS]
      match j, hd with
      | 0, hd => simp at hd; subst hd; rw [Nat.add_zero, World.cell?_setCell_other _ _ _ _ (fun e => by injection e with _ e2; omega)]; exact d0
      | 1, hd => simp at hd; subst hd; exact World.cell?_setCell_same _ _ _ d1
      | j + 2, hd => simp at hd) (mkow_Node (fun q hq => hq) (hO.keep R_Span_ok fun q hq => hset q (by have := (hv.blk q hq).1; omega)))
  refine ⟨_, _, hrow, fun q hq => ?_, (hW.trans (hb.mono hW.size)).setCell (p := ⟨g, k * 2 + 1, none⟩) hgS.1 _, ⟨_, d1⟩, (hb.frozen (p := ⟨g, k * 2 + 1, none⟩) hgS.2).trans (h.soft _)⟩
  rcases hq with hq | hq
  · have := hS q hq
    simp; omega
  · have := hv.blk q hq
    have := hW.size
    simp; omega
end Go.Proofs.Ytfciojkibklkfaa.RepC
end
section
namespace Go.Proofs.Ytfciojkibklkfaa.SpanC
open Go.RowKit KeptC RowC ValC
set_option linter.unusedVariables false
set_option linter.unusedSimpArgs false
set_option maxRecDepth 100000 in
set_option maxHeartbeats 6400000 in
theorem put2_bad (ad : Addr) (qc : Nat) (f : Nat → Int × Int) (a b : Int) (w : World) (hF : FreeB 0 f a b) :
    Calls Try.prog 61 #[.slice (some ad) 0 qc, .agg #[.int .i64 a, .int .i64 b]] w (ResRow (fun m h => m = 0 + 1 ∧ ∃ p, PlaceP 0 f a p ∧ ∀ i, i < 0 + 1 → h i = insF f p (a, b) i) w) := by
  by_cases hq0 : qc = 0
  · subst hq0
    have HFr := Lib.hid hF
    clear hF
    go_enter Try.func61, Try.ntmps61
    go_wp2
    go_loopw [5] (fun i wr => i = .int .i64 0 ∧ Below (w.heap.size + 1) (w.alloc (.cells #[.int .i64 a, .int .i64 b] 25)) wr) (fun i _ => 0)
    case atStart => exact ⟨rfl, by simpa using Below.refl _ _⟩
    case round =>
      obtain ⟨rfl, hb⟩ := hrel
      have HB := Lib.hid hb
      have ⟨hx0, hx1, hxl⟩ := box0 hb
      have hsz : w.heap.size + 1 ≤ wr.heap.size := hxl
      have HP := Lib.hid (place_from HFr.out (Nat.le_refl 0) (fun j h => absurd h (Nat.not_lt_zero _)) (fun h => absurd h (Nat.lt_irrefl _)))
      clear hb
      go_wp2_with fail
      refine wp_region_held_drew (S := (fun W => W.cell? ⟨w.heap.size, 0, none⟩ = some (.int .i64 a) ∧ W.cell? ⟨w.heap.size, 1, none⟩ = some (.int .i64 b) ∧ wr.heap.size ≤ W.heap.size ∧ Below (w.heap.size + 1) (w.alloc (.cells #[.int .i64 a, .int .i64 b] 25)) W)) (by kernel_rfl) (⟨hx0, hx1, Nat.le_refl _, HB.out.drew⟩) (fun hHeld => ?_)
      refine tk 0 hHeld ?_
      refine tk 1 hHeld ?_
      refine tk 2 hHeld ?_
      refine tk 3 hHeld ?_
      refine tk 4 hHeld ?_
      refine tn 5 hHeld ?_
      refine tn 6 hHeld ?_
      refine tn 7 hHeld ?_
      refine tn 8 hHeld ?_
      refine tn 9 hHeld ?_
      refine tn 10 hHeld ?_
      refine tn 11 hHeld ?_
      refine tn 12 hHeld ?_
      refine tk 13 hHeld ?_
      refine rd0 ?_
      have HF := Lib.hid hHeld.2.2.2
      clear hHeld
      have hbD : Below w.heap.size w wr := bel1 HB.out
      obtain ⟨W2, hW2e⟩ : ∃ W2, W2 = (wr.alloc (.cells #[] 25)).drew := ⟨_, rfl⟩
      have hmade : RowS W2 wr.heap.size (.slice (some ⟨wr.heap.size, 0, none⟩) 0 0) 0 f := by rw [hW2e]; exact RowO.made0 wr.drew wr.heap.size _ 2 (pc f) (Nat.le_refl _)
      have hr2 : ∀ W, (Builtin.append_ #[39, 39] 39 #[.slice (some ⟨wr.heap.size, 0, none⟩) 0 0, .slice (some ad) 0 0]).run Try.prog W = .ok (.slice (some ⟨wr.heap.size, 0, none⟩) 0 0) W := fun W => app_none Try.underlying39 infoS.choose_spec.1 _ _ 0 0 0 (Nat.le_refl _)
      have hW2 : Below wr.heap.size wr W2 := by rw [hW2e]; exact ((Below.refl wr.heap.size wr).alloc (Nat.le_refl _) _).drew
      have HR2 := Lib.hid hr2
      have hl2 : wr.heap.size ≤ W2.heap.size := hW2.size
      have ⟨hy0, hy1, hyl⟩ := box0 (HB.out.trans (hW2.mono hsz))
      have hrow2 := hmade.alloc (.cells #[.int .i64 a, .int .i64 b] 25)
      obtain ⟨v3, W4, hr4, hown4, hbel4, hg4, hat4⟩ := app_sp (W2.alloc (.cells #[.int .i64 a, .int .i64 b] 25)) wr.heap.size 39 39 Try.underlying39 hrow2 (m := 1) 1 one_row (by omega) (by simp; omega)
      obtain ⟨a4, c4, rfl⟩ := hown4.isSlice
      have HR4 := Lib.hid hr4
      have hW4 : Below wr.heap.size wr W4 := (hW2.alloc hl2 _).trans hbel4
      have hr6 : ∀ W, (Builtin.append_ #[39, 39] 39 #[.slice a4 (0 + 1) c4, .slice (some ad) 0 0]).run Try.prog W = .ok (.slice a4 (0 + 1) c4) W := fun W => app_none Try.underlying39 infoS.choose_spec.1 _ _ (0 + 1) c4 0 (rowO_cap_le hown4)
      have HR6 := Lib.hid hr6
      have HY := Lib.hid (show ResRow (fun m h => m = 0 + 1 ∧ ∃ p, PlaceP 0 f a p ∧ ∀ i, i < 0 + 1 → h i = insF f p (a, b) i) w (.returned (.slice a4 (0 + 1) c4)) W4 from ⟨_, 0 + 1, _, rfl, ⟨by omega, 0, HP.out, ins0⟩, hown4.lower (by omega), hbD.trans (hW4.mono (by omega))⟩)
      clear hmade hr2 hrow2 hown4 hbel4 hg4 hat4 hr4 hr6 hW2 hW4 hbD HF
      go_wp2_with (first | (at_builtin; refine wpList_app rfl (.tmp 23) (.tmp 26) 39 rfl rfl rfl (HR2.out _) ?_; rw [← hW2e]; clear hW2e) | (at_builtin; refine wpList_app rfl (.tmp 28) (.tmp 30) 39 rfl rfl rfl HR4.out ?_) | (at_builtin; refine wpList_app rfl (.tmp 32) (.tmp 35) 39 rfl rfl rfl (HR6.out _) ?_))
      go_ret
      exact HY.out
  · have hq1 : ¬ 0 = qc := fun e => hq0 e.symm
    have HFr := Lib.hid hF
    clear hF
    go_enter Try.func61, Try.ntmps61
    go_wp2
    go_loopw [5] (fun i wr => i = .int .i64 0 ∧ Below (w.heap.size + 1) (w.alloc (.cells #[.int .i64 a, .int .i64 b] 25)) wr) (fun i _ => 0)
    case atStart => exact ⟨rfl, by simpa using Below.refl _ _⟩
    case round =>
      obtain ⟨rfl, hb⟩ := hrel
      have HB := Lib.hid hb
      have ⟨hx0, hx1, hxl⟩ := box0 hb
      have hsz : w.heap.size + 1 ≤ wr.heap.size := hxl
      have HP := Lib.hid (place_from HFr.out (Nat.le_refl 0) (fun j h => absurd h (Nat.not_lt_zero _)) (fun h => absurd h (Nat.lt_irrefl _)))
      clear hb
      go_wp2_with fail
      refine wp_region_held_drew (S := (fun W => W.cell? ⟨w.heap.size, 0, none⟩ = some (.int .i64 a) ∧ W.cell? ⟨w.heap.size, 1, none⟩ = some (.int .i64 b) ∧ wr.heap.size ≤ W.heap.size ∧ Below (w.heap.size + 1) (w.alloc (.cells #[.int .i64 a, .int .i64 b] 25)) W)) (by kernel_rfl) (⟨hx0, hx1, Nat.le_refl _, HB.out.drew⟩) (fun hHeld => ?_)
      refine tk 0 hHeld ?_
      refine tk 1 hHeld ?_
      refine tk 2 hHeld ?_
      refine tk 3 hHeld ?_
      refine tk 4 hHeld ?_
      refine tn 5 hHeld ?_
      refine tn 6 hHeld ?_
      refine tn 7 hHeld ?_
      refine tn 8 hHeld ?_
      refine tn 9 hHeld ?_
      refine tn 10 hHeld ?_
      refine tn 11 hHeld ?_
      refine tn 12 hHeld ?_
      refine tk 13 hHeld ?_
      refine rd0 ?_
      have HF := Lib.hid hHeld.2.2.2
      clear hHeld
      have hbD : Below w.heap.size w wr := bel1 HB.out
      obtain ⟨W2, hW2e⟩ : ∃ W2, W2 = (wr.alloc (.cells #[] 25)).drew := ⟨_, rfl⟩
      have hmade : RowS W2 wr.heap.size (.slice (some ⟨wr.heap.size, 0, none⟩) 0 0) 0 f := by rw [hW2e]; exact RowO.made0 wr.drew wr.heap.size _ 2 (pc f) (Nat.le_refl _)
      have hr2 : ∀ W, (Builtin.append_ #[39, 39] 39 #[.slice (some ⟨wr.heap.size, 0, none⟩) 0 0, .slice (some ad) 0 qc]).run Try.prog W = .ok (.slice (some ⟨wr.heap.size, 0, none⟩) 0 0) W := fun W => app_none Try.underlying39 infoS.choose_spec.1 _ _ 0 0 qc (Nat.le_refl _)
      have hW2 : Below wr.heap.size wr W2 := by rw [hW2e]; exact ((Below.refl wr.heap.size wr).alloc (Nat.le_refl _) _).drew
      have HR2 := Lib.hid hr2
      have hl2 : wr.heap.size ≤ W2.heap.size := hW2.size
      have ⟨hy0, hy1, hyl⟩ := box0 (HB.out.trans (hW2.mono hsz))
      have hrow2 := hmade.alloc (.cells #[.int .i64 a, .int .i64 b] 25)
      obtain ⟨v3, W4, hr4, hown4, hbel4, hg4, hat4⟩ := app_sp (W2.alloc (.cells #[.int .i64 a, .int .i64 b] 25)) wr.heap.size 39 39 Try.underlying39 hrow2 (m := 1) 1 one_row (by omega) (by simp; omega)
      obtain ⟨a4, c4, rfl⟩ := hown4.isSlice
      have HR4 := Lib.hid hr4
      have hW4 : Below wr.heap.size wr W4 := (hW2.alloc hl2 _).trans hbel4
      have hr6 : ∀ W, (Builtin.append_ #[39, 39] 39 #[.slice a4 (0 + 1) c4, .slice (some ad) 0 qc]).run Try.prog W = .ok (.slice a4 (0 + 1) c4) W := fun W => app_none Try.underlying39 infoS.choose_spec.1 _ _ (0 + 1) c4 qc (rowO_cap_le hown4)
      have HR6 := Lib.hid hr6
      have HY := Lib.hid (show ResRow (fun m h => m = 0 + 1 ∧ ∃ p, PlaceP 0 f a p ∧ ∀ i, i < 0 + 1 → h i = insF f p (a, b) i) w (.returned (.slice a4 (0 + 1) c4)) W4 from ⟨_, 0 + 1, _, rfl, ⟨by omega, 0, HP.out, ins0⟩, hown4.lower (by omega), hbD.trans (hW4.mono (by omega))⟩)
      clear hmade hr2 hrow2 hown4 hbel4 hg4 hat4 hr4 hr6 hW2 hW4 hbD HF
      go_wp2_with (first | (at_builtin; refine wpList_app rfl (.tmp 23) (.tmp 26) 39 rfl rfl rfl (HR2.out _) ?_; rw [← hW2e]; clear hW2e) | (at_builtin; refine wpList_app rfl (.tmp 28) (.tmp 30) 39 rfl rfl rfl HR4.out ?_) | (at_builtin; refine wpList_app rfl (.tmp 32) (.tmp 35) 39 rfl rfl rfl (HR6.out _) ?_))
      go_ret
      exact HY.out
end Go.Proofs.Ytfciojkibklkfaa.SpanC
namespace Go.Proofs.Ytfciojkibklkfaa.RepC
open Go.RowKit RowC ValC SpanC KeptC
set_option linter.unusedVariables false
set_option linter.unusedSimpArgs false
theorem flat_cl (h : Nat → Int × Int) : ∀ n : Nat, ((List.range n).map h).flatMap (fun x => [Value.int .i64 x.1, Value.int .i64 x.2]) = cl (pc h) (n * 2)
  | 0 => rfl
  | n + 1 => by
    have ih := flat_cl h n
    rw [List.range_succ, List.map_append, List.flatMap_append, ih]
    unfold cl
    rw [show (n + 1) * 2 = n * 2 + 1 + 1 by omega, List.range_succ, List.range_succ, List.map_append, List.map_append]
    simp [pc_even, pc_odd]
theorem rowS_x {w : World} {lo n : Nat} {v : Value} {h : Nat → Int × Int} (hr : RowS w lo v n h) : XRow w lo v ((List.range n).map h) := by
  refine ⟨?_, fun k hk => ?_⟩
  · rw [flat_cl]
    have e : ((List.range n).map h).length = n := by simp
    rw [e]
    exact hr
  · rcases hr.2 with ⟨rfl, _⟩ | ⟨g, cap, cur, rfl, hlo, hg, _⟩
    · cases hk
    · cases hk
      exact ⟨hlo, (Array.getElem?_eq_some_iff.1 hg).1⟩
theorem pN_range {x : D_Span} {now : Int} {d : D_Node} (h : (decide (x.1 ≤ now) || decide (now + 40 < x.2)) = true) : putN x now d = (8, d) := by unfold putN; rw [if_pos h]
theorem pN_there {x : D_Span} {now : Int} {d : D_Node} (h : (decide (x.1 ≤ now) || decide (now + 40 < x.2)) = false) (h2 : ¬ FreeP d.2.length (gt d.2) x.1 x.2) : putN x now d = (7, d) := by unfold putN; rw [if_neg (by rw [h]; decide), if_pos h2]
theorem pN_full {x : D_Span} {now : Int} {d : D_Node} (h : (decide (x.1 ≤ now) || decide (now + 40 < x.2)) = false) (h2 : FreeP d.2.length (gt d.2) x.1 x.2) (h3 : d.2.length = 4) : putN x now d = (9, d) := by unfold putN; rw [if_neg (by rw [h]; decide), if_neg (fun h => h h2), if_pos h3]
theorem pN_yes {x : D_Span} {now : Int} {d : D_Node} (h : (decide (x.1 ≤ now) || decide (now + 40 < x.2)) = false) (h2 : FreeP d.2.length (gt d.2) x.1 x.2) (h3 : ¬ d.2.length = 4) : putN x now d = (0, (d.1, putL d.2 x)) := by unfold putN; rw [if_neg (by rw [h]; decide), if_neg (fun h => h h2), if_neg h3]
def PutX (M : List D_Span) (x : D_Span) (w : World) (e : Ending) (w' : World) : Prop := ∃ v, e = .returned v ∧ XRow w' w.heap.size v (putL M x) ∧ Below w.heap.size w w'
theorem putX_elim {M : List D_Span} {x : D_Span} {w : World} {e : Ending} {w' : World} (h : PutX M x w e w') : ∃ v, e = .returned v ∧ XRow w' w.heap.size v (putL M x) ∧ Below w.heap.size w w' := h
theorem put_any {M : List D_Span} {ba : Option Addr} {bc : Nat} {a b : Int} {w : World} (hn : M.length ≤ 1048576) (h : RdSl R_Span w w.heap.size M ba bc) (hF : FreeB M.length (gt M) a b) :
    Calls Try.prog 61 #[.slice ba M.length bc, .agg #[.int .i64 a, .int .i64 b]] w (PutX M (a, b) w) := by
  have key : Calls Try.prog 61 #[.slice ba M.length bc, .agg #[.int .i64 a, .int .i64 b]] w (ResRow (fun m h => m = M.length + 1 ∧ ∃ p, PlaceP M.length (gt M) a p ∧ ∀ i, i < M.length + 1 → h i = insF (gt M) p (a, b) i) w) := by
    by_cases h0 : M.length = 0
    · rw [h0] at hF ⊢
      cases ba with
      | none => exact put2_none bc (gt M) a b w hF
      | some ad => exact put2_bad ad bc (gt M) a b w hF
    · obtain ⟨g, o, rfl, hg, _⟩ := h.2.2 (by omega)
      exact put2_spec _ _ _ _ a b w hn (.inr ⟨g, o, rfl, hg, h.1, PA.row (pa_of h (Nat.le_refl _))⟩) hF
  refine key.mono fun e w' hh => ?_
  obtain ⟨v, m, f, rfl, ⟨rfl, p, hp, hf⟩, hr, hb⟩ := resRow_elim hh
  have hx := rowS_x hr
  rw [ins_list hp.1 hf, ← putL_eq (x := (a, b)) hp] at hx
  exact ⟨v, rfl, hx, hb⟩
end Go.Proofs.Ytfciojkibklkfaa.RepC
end
section
namespace Go.Proofs.Ytfciojkibklkfaa.RepC
open Go.RowKit RowC ValC SpanC KeptC
set_option linter.unusedVariables false
set_option linter.unusedSimpArgs false
theorem ill_spec (c : Int) (W : World) : Calls Try.prog 55 #[.int .i64 c] W fun e w' => e = .returned (.agg #[.slice none 0 0, .int .i64 c]) ∧ Below W.heap.size W w' := by
  have HX := Lib.hid (Blk.new W 29 #[.slice none 0 0, .int .i64 0])
  go_enter Try.func55, Try.ntmps55
  go_wp2
  refine bodyPost_ret (v := .agg #[.slice none 0 0, .int .i64 c]) (by simp [results, Try.results55, go_sem, *]) rfl ⟨rfl, ?_⟩
  first | exact (Below.refl _ _).alloc (Nat.le_refl _) _ | exact ((Below.refl _ _).alloc (Nat.le_refl _) _).setCell (by first | omega | simp) _
theorem place_spec {L : List D_Node} (a : Option Addr) (cap : Nat) (n : Int) (w : World) (hL : L.length ≤ 4096) :
    Calls Try.prog 58 #[.slice a L.length cap, .int .i64 n] w fun e w' => e = .returned (.bool (isB n 0 ((L.length : Int) - 1))) ∧ w = w' := by
  by_cases h1 : 0 ≤ n
  · by_cases h2 : n < L.length
    · have hb : isB n 0 ((L.length : Int) - 1) = true := (isB_iff _ _ _).2 ⟨h1, by omega⟩
      rw [hb]; clear hb
      go_enter Try.func58, Try.ntmps58
      go_wp2
      go_ret
      exact ⟨rfl, rfl⟩
    · have hb : isB n 0 ((L.length : Int) - 1) = false := by
        cases hq : isB n 0 ((L.length : Int) - 1) with
        | false => rfl
        | true => have := (isB_iff _ _ _).1 hq; omega
      rw [hb]; clear hb
      have h2' : decide (n < (L.length : Int)) = false := by simpa using h2
      go_enter Try.func58, Try.ntmps58
      go_wp2
      go_ret
      exact ⟨rfl, rfl⟩
  · have hb : isB n 0 ((L.length : Int) - 1) = false := by
      cases hq : isB n 0 ((L.length : Int) - 1) with
      | false => rfl
      | true => have := (isB_iff _ _ _).1 hq; omega
    rw [hb]; clear hb
    have h1' : decide (0 ≤ n) = false := by simpa using h1
    go_enter Try.func58, Try.ntmps58
    go_wp2
    go_ret
    exact ⟨rfl, rfl⟩
end Go.Proofs.Ytfciojkibklkfaa.RepC
end
section
namespace Go.Proofs.Ytfciojkibklkfaa.RepC
open Go.RowKit RowC ValC SpanC KeptC
set_option linter.unusedVariables false
set_option linter.unusedSimpArgs false
theorem chgV_no {L : List D_Node} {n : Int} {chg : D_Node → Int × D_Node} (h : ¬ 400 < L.length) : chgV L n false chg = ([], 1) := by unfold chgV; rw [if_neg h, if_pos (by simp)]
set_option maxRecDepth 100000 in
set_option maxHeartbeats 6400000 in
theorem put_spec2 {L : List D_Node} {n a b now : Int} {al : Option Addr} {cap : Nat} {W : World} (h : RdSl R_Node W W.heap.size L al cap) :
    Calls Try.prog 14 #[.slice al L.length cap, .int .i64 n, .agg #[.int .i64 a, .int .i64 b], .int .i64 now] W (NewV R_NodesOut (chgV L n (spB a b && isB now 0 999900) (putN (a, b) now)) W) := by
  obtain ⟨wx, hwx⟩ : ∃ w, w = W.alloc (.cells #[.int .i64 a, .int .i64 b] 25) := ⟨_, rfl⟩
  have hbx : Below W.heap.size W wx := by rw [hwx]; exact (Below.refl _ _).alloc (Nat.le_refl _) _
  have hsx : wx.heap.size = W.heap.size + 1 := by rw [hwx]; simp
  have bx : Blk wx W.heap.size 25 #[.int .i64 a, .int .i64 b] := by rw [hwx]; exact Blk.new _ _ _
  obtain ⟨w0, hw0⟩ : ∃ w, w = wx.alloc (.cells #[.slice none 0 0, .int .i64 0] 29) := ⟨_, rfl⟩
  have hb0 : Below wx.heap.size wx w0 := by rw [hw0]; exact (Below.refl _ _).alloc (Nat.le_refl _) _
  have X0 := Lib.hid (show Blk w0 (W.heap.size + 1) 29 #[.slice none 0 0, .int .i64 0] from by rw [← hsx, hw0]; exact Blk.new _ _ _)
  have XX0 := Lib.hid (bx.call hb0)
  have HB0 := Lib.hid (hbx.trans (hb0.mono hbx.size))
  have H0 := Lib.hid (mv_rd R_Node_ok h HB0.out)
  have hnn := nd_len h
  have hz0 := HB0.out.size
  have hs := nodes_spec H0.out
  obtain ⟨z, hz⟩ : ∃ z, nodesB L = z := ⟨_, rfl⟩
  rw [hz] at hs
  have HZ := Lib.hid hz
  rw [hwx] at hw0
  clear h hz hb0 hbx bx hsx hwx
  obtain ⟨okv, hok⟩ : ∃ o, (spB a b && isB now 0 999900) = o := ⟨_, rfl⟩
  have HOKV := Lib.hid hok
  rw [hok]
  clear hok
  by_cases h400 : 400 < L.length
  · have HE := Lib.hid (chgV_size (n := n) (ok := okv) (chg := putN (a, b) now) h400)
    have hd : decide ((400 : Int) < (L.length : Int)) = true := decide_eq_true (by omega)
    go_enter Try.func14, Try.ntmps14
    go_wp2_with fail
    rw [← hw0]
    clear hw0
    refine (ill_spec 2 _).mono ?_
    rintro e w9 ⟨rfl, hb9⟩
    have X9 := Lib.hid (X0.out.call hb9)
    have HB9 := Lib.hid (HB0.out.trans (hb9.mono HB0.out.size))
    have q0 := X9.out.at_ 0 rfl
    have q1 := X9.out.at_ 1 rfl
    have f0 := X9.out.soft 0
    have f1 := X9.out.soft 1
    clear hb9
    go_wp2
    rw [HE.out]
    refine bodyPost_ret (v := .agg #[.slice none 0 0, .int .i64 2]) (by simp [results, Try.results14, go_sem, *]) rfl (out_ill ?_)
    exact (HB9.out.setCell (p := ⟨W.heap.size + 1, 0, none⟩) (show W.heap.size ≤ W.heap.size + 1 by omega) _).setCell (p := ⟨W.heap.size + 1, 1, none⟩) (show W.heap.size ≤ W.heap.size + 1 by omega) _
  have hd : decide ((400 : Int) < (L.length : Int)) = false := decide_eq_false (by omega)
  go_enter Try.func14, Try.ntmps14
  go_wp2_with fail
  rw [← hw0]
  clear hw0
  refine hs.mono ?_
  intro e w1 h
  obtain ⟨rfl, hb⟩ := isB_elim h
  have XR := Lib.hid (X0.out.call hb)
  have XX := Lib.hid (XX0.out.call hb)
  have H1 := Lib.hid (mv_rd R_Node_ok H0.out hb)
  have HB1 := Lib.hid (HB0.out.trans (hb.mono hz0))
  have hxr := XR.out.lt
  clear h hb hs
  cases z with
  | false =>
    have HE := Lib.hid (chgV_form (n := n) (ok := okv) (chg := putN (a, b) now) h400 (by rw [HZ.out]; rfl))
    go_wp2_with fail
    refine (ill_spec 1 _).mono ?_
    rintro e w9 ⟨rfl, hb9⟩
    have X9 := Lib.hid (XR.out.call hb9)
    have HB9 := Lib.hid (HB1.out.trans (hb9.mono HB1.out.size))
    have q0 := X9.out.at_ 0 rfl
    have q1 := X9.out.at_ 1 rfl
    have f0 := X9.out.soft 0
    have f1 := X9.out.soft 1
    clear hb9
    go_wp2
    rw [HE.out]
    refine bodyPost_ret (v := .agg #[.slice none 0 0, .int .i64 1]) (by simp [results, Try.results14, go_sem, *]) rfl (out_ill ?_)
    exact (HB9.out.setCell (p := ⟨W.heap.size + 1, 0, none⟩) (show W.heap.size ≤ W.heap.size + 1 by omega) _).setCell (p := ⟨W.heap.size + 1, 1, none⟩) (show W.heap.size ≤ W.heap.size + 1 by omega) _
  | true =>
  have q0 := XX.out.at_ 0 rfl
  have q1 := XX.out.at_ 1 rfl
  have hrs := fun W => right_spec a b W
  obtain ⟨zs, hzs⟩ : ∃ zs, spB a b = zs := ⟨_, rfl⟩
  have HSPB := Lib.hid hzs
  rw [hzs] at hrs
  rw [hzs] at HOKV
  clear hzs
  cases zs with
  | false =>
    obtain rfl : okv = false := by have := HOKV.out; simpa using this.symm
    have HE := Lib.hid (chgV_no (n := n) (chg := putN (a, b) now) h400)
    go_wp2_with fail
    refine (hrs _).mono ?_
    rintro e wr ⟨rfl, hbr⟩
    have XR := Lib.hid (XR.out.call hbr)
    have HB1 := Lib.hid (HB1.out.trans (hbr.mono HB1.out.size))
    clear q0 q1 hbr hrs
    go_wp2_with fail
    refine (ill_spec 1 _).mono ?_
    rintro e w9 ⟨rfl, hb9⟩
    have X9 := Lib.hid (XR.out.call hb9)
    have HB9 := Lib.hid (HB1.out.trans (hb9.mono HB1.out.size))
    have q0 := X9.out.at_ 0 rfl
    have q1 := X9.out.at_ 1 rfl
    have f0 := X9.out.soft 0
    have f1 := X9.out.soft 1
    clear hb9
    go_wp2
    rw [HE.out]
    refine bodyPost_ret (v := .agg #[.slice none 0 0, .int .i64 1]) (by simp [results, Try.results14, go_sem, *]) rfl (out_ill ?_)
    exact (HB9.out.setCell (p := ⟨W.heap.size + 1, 0, none⟩) (show W.heap.size ≤ W.heap.size + 1 by omega) _).setCell (p := ⟨W.heap.size + 1, 1, none⟩) (show W.heap.size ≤ W.heap.size + 1 by omega) _
  | true =>
  go_wp2_with fail
  refine (hrs _).mono ?_
  rintro e wr ⟨rfl, hbr⟩
  have XR := Lib.hid (XR.out.call hbr)
  have XX := Lib.hid (XX.out.call hbr)
  have H1 := Lib.hid (mv_rd R_Node_ok H1.out hbr)
  have HB1 := Lib.hid (HB1.out.trans (hbr.mono HB1.out.size))
  have hxr := XR.out.lt
  clear q0 q1 hbr hrs
  have hnw := fun W => now_spec now W
  obtain ⟨zn, hzn⟩ : ∃ zn, isB now 0 999900 = zn := ⟨_, rfl⟩
  have HNB := Lib.hid hzn
  rw [hzn] at hnw
  rw [hzn] at HOKV
  clear hzn
  cases zn with
  | false =>
    obtain rfl : okv = false := by have := HOKV.out; simpa using this.symm
    have HE := Lib.hid (chgV_no (n := n) (chg := putN (a, b) now) h400)
    go_wp2_with (first | (go_at_call 57; refine (hnw _).mono ?_; rintro e w' ⟨rfl, rfl⟩) | fail)
    refine (ill_spec 1 _).mono ?_
    rintro e w9 ⟨rfl, hb9⟩
    have X9 := Lib.hid (XR.out.call hb9)
    have HB9 := Lib.hid (HB1.out.trans (hb9.mono HB1.out.size))
    have q0 := X9.out.at_ 0 rfl
    have q1 := X9.out.at_ 1 rfl
    have f0 := X9.out.soft 0
    have f1 := X9.out.soft 1
    clear hb9
    go_wp2
    rw [HE.out]
    refine bodyPost_ret (v := .agg #[.slice none 0 0, .int .i64 1]) (by simp [results, Try.results14, go_sem, *]) rfl (out_ill ?_)
    exact (HB9.out.setCell (p := ⟨W.heap.size + 1, 0, none⟩) (show W.heap.size ≤ W.heap.size + 1 by omega) _).setCell (p := ⟨W.heap.size + 1, 1, none⟩) (show W.heap.size ≤ W.heap.size + 1 by omega) _
  | true =>
  obtain rfl : okv = true := by have := HOKV.out; simpa using this.symm
  have HZO := Lib.hid (show (nodesB L && true) = true from by rw [HZ.out]; rfl)
  have hN := nodesB_iff.1 HZ.out
  have hsm := nodesR_small hN
  have hL1 := hN.1.1
  have hL6 := hN.1.2
  have HN := Lib.hid hN
  clear hN
  obtain ⟨y, hy⟩ : ∃ y, isB n 0 ((L.length : Int) - 1) = y := ⟨_, rfl⟩
  have hi := fun W => place_spec (L := L) al cap n W hsm.1
  rw [hy] at hi
  have HY := Lib.hid hy
  clear hy
  cases y with
  | false =>
    have HE := Lib.hid (chgV_none (chg := putN (a, b) now) h400 HZO.out HY.out)
    go_wp2_with (first | (go_at_call 57; refine (hnw _).mono ?_; rintro e w' ⟨rfl, rfl⟩) | (go_at_call 58; refine (hi _).mono ?_; rintro e w' ⟨rfl, rfl⟩) | fail)
    refine (ill_spec 6 _).mono ?_
    rintro e w9 ⟨rfl, hb9⟩
    have X9 := Lib.hid (XR.out.call hb9)
    have HB9 := Lib.hid (HB1.out.trans (hb9.mono HB1.out.size))
    have q0 := X9.out.at_ 0 rfl
    have q1 := X9.out.at_ 1 rfl
    have f0 := X9.out.soft 0
    have f1 := X9.out.soft 1
    clear hb9
    go_wp2
    rw [HE.out]
    refine bodyPost_ret (v := .agg #[.slice none 0 0, .int .i64 6]) (by simp [results, Try.results14, go_sem, *]) rfl (out_ill ?_)
    exact (HB9.out.setCell (p := ⟨W.heap.size + 1, 0, none⟩) (show W.heap.size ≤ W.heap.size + 1 by omega) _).setCell (p := ⟨W.heap.size + 1, 1, none⟩) (show W.heap.size ≤ W.heap.size + 1 by omega) _
  | true =>
    have hnb := (isB_iff _ _ _).1 HY.out
    obtain ⟨m, rfl⟩ : ∃ m : Nat, n = m := ⟨n.toNat, by omega⟩
    have hm : m < L.length := by omega
    obtain ⟨x, hx⟩ := el_some hm
    have hok := nodesR_at HN.out hx
    obtain ⟨gl, o, us, rfl, hg, hu, hr⟩ := H1.out.at_ hx
    obtain ⟨s, M⟩ := x
    obtain ⟨ba, bc, rfl, hM⟩ := rd_Node hr
    have e1 : wr.cell? ⟨gl, o + m * 2 + 1, none⟩ = some (.slice ba M.length bc) := by simpa [size_NodeS, Nat.add_assoc] using hu 1 _ rfl
    have HCV := Lib.hid (chgV_at (chg := putN (a, b) now) h400 HZO.out hx)
    have hml : M.length ≤ 4 := hok.2.1
    have HSP := Lib.hid hok.2.2
    have HAB := Lib.hid ((spB_iff a b).1 HSPB.out)
    have HX := Lib.hid hx
    have HM := Lib.hid hM
    have HE1 := Lib.hid e1
    have HG := Lib.hid hg
    have hi0 : (0 : Int) ≤ (m : Int) := Int.natCast_nonneg _
    have hi1 : (m : Int) < (L.length : Int) := by omega
    have hwn : IntKind.i64.wrap (now + 40) = now + 40 := by
      have := (isB_iff _ _ _).1 HNB.out
      exact IntWalk.i64_in _ (by omega)
    have q0 := XX.out.at_ 0 rfl
    have q1 := XX.out.at_ 1 rfl
    have HQ0 := Lib.hid q0
    have HQ1 := Lib.hid q1
    have hxx : W.heap.size < wr.heap.size := XX.out.lt
    clear hx hnb hu hr hM hok e1 hg
    by_cases h1 : a ≤ now
    · have HE := Lib.hid (show chgV L m true (putN (a, b) now) = ([], 8) from by rw [HCV.out, pN_range (by simp [h1]), if_neg (show ¬ (8 : Int) = 0 by decide)])
      have hd1 : decide (a ≤ now) = true := decide_eq_true h1
      clear h1
      go_wp2_with (first | (go_at_call 57; refine (hnw _).mono ?_; rintro e w' ⟨rfl, rfl⟩) | (go_at_call 58; refine (hi _).mono ?_; rintro e w' ⟨rfl, rfl⟩) | fail)
      refine (ill_spec 8 _).mono ?_
      rintro e w9 ⟨rfl, hb9⟩
      have X9 := Lib.hid (XR.out.call hb9)
      have HB9 := Lib.hid (HB1.out.trans (hb9.mono HB1.out.size))
      have q0 := X9.out.at_ 0 rfl
      have q1 := X9.out.at_ 1 rfl
      have f0 := X9.out.soft 0
      have f1 := X9.out.soft 1
      clear hb9
      go_wp2
      rw [HE.out]
      refine bodyPost_ret (v := .agg #[.slice none 0 0, .int .i64 8]) (by simp [results, Try.results14, go_sem, *]) rfl (out_ill ?_)
      exact (HB9.out.setCell (p := ⟨W.heap.size + 1, 0, none⟩) (show W.heap.size ≤ W.heap.size + 1 by omega) _).setCell (p := ⟨W.heap.size + 1, 1, none⟩) (show W.heap.size ≤ W.heap.size + 1 by omega) _
    have hd1 : decide (a ≤ now) = false := decide_eq_false h1
    by_cases h2 : now + 40 < b
    · have HE := Lib.hid (show chgV L m true (putN (a, b) now) = ([], 8) from by rw [HCV.out, pN_range (by simp [h2]), if_neg (show ¬ (8 : Int) = 0 by decide)])
      have hd2 : decide (now + 40 < b) = true := decide_eq_true h2
      clear h1 h2
      go_wp2_with (first | (go_at_call 57; refine (hnw _).mono ?_; rintro e w' ⟨rfl, rfl⟩) | (go_at_call 58; refine (hi _).mono ?_; rintro e w' ⟨rfl, rfl⟩) | fail)
      refine (ill_spec 8 _).mono ?_
      rintro e w9 ⟨rfl, hb9⟩
      have X9 := Lib.hid (XR.out.call hb9)
      have HB9 := Lib.hid (HB1.out.trans (hb9.mono HB1.out.size))
      have q0 := X9.out.at_ 0 rfl
      have q1 := X9.out.at_ 1 rfl
      have f0 := X9.out.soft 0
      have f1 := X9.out.soft 1
      clear hb9
      go_wp2
      rw [HE.out]
      refine bodyPost_ret (v := .agg #[.slice none 0 0, .int .i64 8]) (by simp [results, Try.results14, go_sem, *]) rfl (out_ill ?_)
      exact (HB9.out.setCell (p := ⟨W.heap.size + 1, 0, none⟩) (show W.heap.size ≤ W.heap.size + 1 by omega) _).setCell (p := ⟨W.heap.size + 1, 1, none⟩) (show W.heap.size ≤ W.heap.size + 1 by omega) _
    have hd2 : decide (now + 40 < b) = false := decide_eq_false h2
    have HRG := Lib.hid (show (decide ((a, b).1 ≤ now) || decide (now + 40 < (a, b).2)) = false from by show (decide (a ≤ now) || decide (now + 40 < b)) = false; rw [hd1, hd2]; rfl)
    clear h1 h2
    go_wp2_with (first | (go_at_call 57; refine (hnw _).mono ?_; rintro e w' ⟨rfl, rfl⟩) | (go_at_call 58; refine (hi _).mono ?_; rintro e w' ⟨rfl, rfl⟩) | fail)
    clear q0 q1
    refine wp_region_held_drew (S := (fun V => Below (wr).heap.size (wr) V)) (by kernel_rfl) ((Below.refl _ _).drew) (fun hHeld => ?_)
    refine tk 0 hHeld ?_
    refine tk 1 hHeld ?_
    refine tk 2 hHeld ?_
    refine tk 3 hHeld ?_
    refine tk 4 hHeld ?_ (hy := fun w hSw => by (try dsimp only at hSw); have k0 := (hSw.cell (p := ⟨gl, o + m * 2 + 1, none⟩) HG.out).trans HE1.out; clear hSw; go_simp; try with_reducible rfl)
    refine tk 5 hHeld ?_ (hy := fun w hSw => by (try dsimp only at hSw); have k0 := (hSw.cell (p := ⟨W.heap.size, 0, none⟩) hxx).trans HQ0.out; have k1 := (hSw.cell (p := ⟨W.heap.size, 1, none⟩) hxx).trans HQ1.out; clear hSw; go_simp; try with_reducible rfl)
    refine rd1 6 (fun K hK => ?_)
    go_simp
    go_at_call 59
    refine (free_spec ba M.length bc (gt M) a b _ (by omega) (pa_of (mv_rd R_Span_ok HM.out hHeld) (Nat.le_refl _))).mono ?_
    intro e w3 h
    obtain ⟨z3, rfl, hz3, hb⟩ := resB_elim h
    have HZ3 := Lib.hid hz3
    clear h hz3
    refine hK.out _ _ (hHeld.trans (hb.mono hHeld.size)) (fun hHeld => ?_)
    clear hK K hb
    refine tk 7 hHeld ?_
    refine tk 8 hHeld ?_
    refine rd0 ?_
    have HF := Lib.hid hHeld
    clear hHeld
    have HB3 := HF
    have hz3w := HB3.out.size
    have XR := Lib.hid (XR.out.call HB3.out)
    have XX := Lib.hid (XX.out.call HB3.out)
    have HB1 := Lib.hid (HB1.out.trans (HB3.out.mono HB1.out.size))
    have H1 := Lib.hid (mv_rd R_Node_ok H1.out HB3.out)
    cases z3 with
    | false =>
      have HE := Lib.hid (show chgV L m true (putN (a, b) now) = ([], 7) from by rw [HCV.out, pN_there (d := (s, M)) HRG.out (fun h => by have := HZ3.out.2 h; cases this), if_neg (show ¬ (7 : Int) = 0 by decide)])
      go_wp2_with fail
      refine (ill_spec 7 _).mono ?_
      rintro e w9 ⟨rfl, hb9⟩
      have X9 := Lib.hid (XR.out.call hb9)
      have HB9 := Lib.hid (HB1.out.trans (hb9.mono HB1.out.size))
      have q0 := X9.out.at_ 0 rfl
      have q1 := X9.out.at_ 1 rfl
      have f0 := X9.out.soft 0
      have f1 := X9.out.soft 1
      clear hb9
      go_wp2
      rw [HE.out]
      refine bodyPost_ret (v := .agg #[.slice none 0 0, .int .i64 7]) (by simp [results, Try.results14, go_sem, *]) rfl (out_ill ?_)
      exact (HB9.out.setCell (p := ⟨W.heap.size + 1, 0, none⟩) (show W.heap.size ≤ W.heap.size + 1 by omega) _).setCell (p := ⟨W.heap.size + 1, 1, none⟩) (show W.heap.size ≤ W.heap.size + 1 by omega) _
    | true =>
    have HFP := Lib.hid (HZ3.out.1 rfl)
    have e3 : w3.cell? ⟨gl, o + m * 2 + 1, none⟩ = some (.slice ba M.length bc) := (HB3.out.cell (p := ⟨gl, o + m * 2 + 1, none⟩) HG.out).trans HE1.out
    by_cases h4 : 4 ≤ M.length
    · have HE := Lib.hid (show chgV L m true (putN (a, b) now) = ([], 9) from by rw [HCV.out, pN_full (d := (s, M)) HRG.out HFP.out (show M.length = 4 by omega), if_neg (show ¬ (9 : Int) = 0 by decide)])
      have hd4 : decide ((4 : Int) ≤ (M.length : Int)) = true := decide_eq_true (by omega)
      clear h4
      go_wp2_with fail
      refine (ill_spec 9 _).mono ?_
      rintro e w9 ⟨rfl, hb9⟩
      have X9 := Lib.hid (XR.out.call hb9)
      have HB9 := Lib.hid (HB1.out.trans (hb9.mono HB1.out.size))
      have q0 := X9.out.at_ 0 rfl
      have q1 := X9.out.at_ 1 rfl
      have f0 := X9.out.soft 0
      have f1 := X9.out.soft 1
      clear hb9
      go_wp2
      rw [HE.out]
      refine bodyPost_ret (v := .agg #[.slice none 0 0, .int .i64 9]) (by simp [results, Try.results14, go_sem, *]) rfl (out_ill ?_)
      exact (HB9.out.setCell (p := ⟨W.heap.size + 1, 0, none⟩) (show W.heap.size ≤ W.heap.size + 1 by omega) _).setCell (p := ⟨W.heap.size + 1, 1, none⟩) (show W.heap.size ≤ W.heap.size + 1 by omega) _
    have hd4 : decide ((4 : Int) ≤ (M.length : Int)) = false := decide_eq_false (by omega)
    have HVV := Lib.hid (show chgV L m true (putN (a, b) now) = (L.set m (s, putL M (a, b)), 0) from by rw [HCV.out, pN_yes (d := (s, M)) HRG.out HFP.out (show ¬ M.length = 4 by omega), if_pos rfl])
    clear h4
    go_wp2_with fail
    refine (copy_nodes hsm.1 hsm.2 H1.out).mono ?_
    intro e w4 h
    obtain ⟨a', c', rfl, ho, hb⟩ := newS_elim h
    obtain ⟨g, Sf, rfl, hrow0⟩ := ho.row (by omega)
    have hc1 := ho.1
    have hc2 := ho.2.1
    obtain ⟨us, hu, hr⟩ := hrow0.el m _ HX.out
    obtain ⟨ba2, bc2, T0, rfl, hT0, hO⟩ := ow_Node hr
    rw [size_NodeS] at hu
    have c4 : w4.drew.cell? ⟨g, m * 2 + 1, none⟩ = some (.slice ba2 M.length bc2) := hu 1 _ rfl
    have hrd : RdSl R_Span w4 w4.heap.size M ba2 bc2 := hO.rd R_Span_ok fun q hq => (hrow0.sub m q (hT0 q hq)).1.2
    have hput := put_any (a := a) (b := b) (w := w4.drew) (by omega) hrd ⟨HSP.out, HAB.out, HFP.out⟩
    have HPUT := Lib.hid hput
    have HR := Lib.hid hrow0
    have HB4 := Lib.hid hb
    have hz4 := hb.size
    have XR4 := Lib.hid (XR.out.call hb)
    have XX4 := Lib.hid (XX.out.call hb)
    have hgl := hrow0.own.2
    have hgw := hrow0.own.1
    have hS4 : w4.drew.cell? ⟨W.heap.size, 0, none⟩ = some (.int .i64 a) ∧ w4.drew.cell? ⟨W.heap.size, 1, none⟩ = some (.int .i64 b) := ⟨XX4.out.at_ 0 rfl, XX4.out.at_ 1 rfl⟩
    have HS4 := Lib.hid hS4
    obtain ⟨RR, hRR⟩ : ∃ R, L.set m (s, putL M (a, b)) = R := ⟨_, rfl⟩
    have HRR := Lib.hid hRR
    have HRL := Lib.hid (show RR.length = L.length from by rw [← hRR, List.length_set])
    rw [hRR] at HVV
    have HV := HVV
    clear h ho hb hrow0 hu hr hT0 hO hrd hput hS4 hRR e3 hi hnw
    go_upto_region 14 with fail
    refine wp_region_held_drew (S := (fun V => V.cell? ⟨W.heap.size, 0, none⟩ = some (.int .i64 a) ∧ V.cell? ⟨W.heap.size, 1, none⟩ = some (.int .i64 b))) (by kernel_rfl) (HS4.out) (fun hHeld => ?_)
    refine tk 0 hHeld ?_
    refine tk 1 hHeld ?_
    refine tk 2 hHeld ?_
    refine tk 3 hHeld ?_
    refine tk 4 hHeld ?_
    refine tk 5 hHeld ?_
    refine tk 7 hHeld ?_ (hy := fun w hSw => by (try dsimp only at hSw); have k0 := hSw.1; have k1 := hSw.2; clear hSw; go_simp; try with_reducible rfl)
    refine rd1 6 (fun K hK => ?_)
    go_simp
    refine hK.out _ _ hHeld (fun hHeld => ?_)
    clear hK K
    refine rd1 8 (fun K hK => ?_)
    go_simp
    go_at_call 61
    refine (HPUT.out).mono ?_
    intro e w5 h
    obtain ⟨v, rfl, hv, hb5⟩ := putX_elim h
    have hb45 : Below w4.heap.size w4 w5 := (Below.refl _ w4).drew.trans hb5
    have hv' : XRow w5 w4.heap.size v (putL M (a, b)) := hv
    obtain ⟨S', Sf2, hrow, hS', hW', ⟨u, d1⟩, f1⟩ := Row.books (W := w3) HR.out (fun q hq => hq) HX.out hb45 hv' HB4.out
    rw [HRR.out] at hrow
    obtain ⟨va, vc, rfl⟩ := hv'.isSlice
    have hz5 := hb45.size
    have hx6 := ((XR4.out.call hb45).far (b := g) (o := m * 2 + 1) (by omega) (.slice va (putL M (a, b)).length vc))
    have hb6 : Below W.heap.size W (w5.setCell ⟨g, m * 2 + 1, none⟩ (.slice va (putL M (a, b)).length vc)) := ((HB1.out.trans (HB4.out.mono HB1.out.size)).trans (hb45.mono (by have := HB1.out.size; omega))).setCell (p := ⟨g, m * 2 + 1, none⟩) (show W.heap.size ≤ g by omega) _
    have hs6 : ∀ q, S' q → W.heap.size + 1 < q ∧ q < (w5.setCell ⟨g, m * 2 + 1, none⟩ (.slice va (putL M (a, b)).length vc)).heap.size := fun q hq => by have := hS' q hq; omega
    have SF := Lib.hid (show w5.cell? ⟨W.heap.size, 0, none⟩ = some (.int .i64 a) ∧ w5.cell? ⟨W.heap.size, 1, none⟩ = some (.int .i64 b) from ⟨(XX4.out.call hb45).at_ 0 rfl, (XX4.out.call hb45).at_ 1 rfl⟩)
    have hxx6 := ((XX4.out.call hb45).far (b := g) (o := m * 2 + 1) (by omega) (.slice va (putL M (a, b)).length vc))
    have SF2 := Lib.hid (show (w5.setCell ⟨g, m * 2 + 1, none⟩ (.slice va (putL M (a, b)).length vc)).cell? ⟨W.heap.size, 0, none⟩ = some (.int .i64 a) ∧ (w5.setCell ⟨g, m * 2 + 1, none⟩ (.slice va (putL M (a, b)).length vc)).cell? ⟨W.heap.size, 1, none⟩ = some (.int .i64 b) from ⟨hxx6.at_ 0 rfl, hxx6.at_ 1 rfl⟩)
    have HX6 := Lib.hid hx6
    have HB6' := Lib.hid hb6
    have HS6' := Lib.hid hs6
    have HROW' := Lib.hid hrow
    clear h hv hv' hb5 hb45 hrow hS' hW' hx6 hb6 hs6 hxx6
    refine hK.out _ _ SF.out (fun hHeld => ?_)
    clear hK K
    refine tk 9 hHeld ?_
    refine tk 10 hHeld ?_
    refine rd1 11 (fun K hK => ?_)
    go_simp
    refine hK.out _ _ SF2.out (fun hHeld => ?_)
    clear hK K
    refine rd0 ?_
    clear hHeld
    have hx6 := HX6.out
    have hb6 := HB6'.out
    have hs6 := HS6'.out
    have hrow := HROW'.out
    clear HX6 HB6' HS6' HROW' SF SF2 c4 d1 f1
    have X6 := Lib.hid hx6
    have HB6 := Lib.hid hb6
    have HROW := Lib.hid hrow
    have HS6 := Lib.hid hs6
    have q0 := X6.out.at_ 0 rfl
    have q1 := X6.out.at_ 1 rfl
    have f0 := X6.out.soft 0
    have f1 := X6.out.soft 1
    clear hx6 hb6 hrow hs6
    go_wp2
    rw [HV.out]
    refine bodyPost_ret (v := .agg #[.slice (some ⟨g, 0, none⟩) L.length c', .int .i64 0]) (by simp [results, Try.results14, go_sem, *]) rfl ⟨[.slice (some ⟨g, 0, none⟩) RR.length c', .int .i64 0], by rw [HRL.out], ?_, (HB6.out.setCell (p := ⟨W.heap.size + 1, 0, none⟩) (show W.heap.size ≤ W.heap.size + 1 by omega) _).setCell (p := ⟨W.heap.size + 1, 1, none⟩) (show W.heap.size ≤ W.heap.size + 1 by omega) _⟩
    refine mkow_NodesOut (T0 := S') (fun q hq => ⟨?_, ?_⟩) ((HROW.out.slice (by rw [HRL.out]; exact hc1) hc2).keep R_Node_ok fun q hq => ?_)
    · have := (HS6.out q hq).1
      omega
    · have := (HS6.out q hq).2
      simpa using this
    · have h9 := (HS6.out q hq).1
      rw [Below.heap_setCell _ ⟨W.heap.size + 1, 1, none⟩ _ q (show q ≠ W.heap.size + 1 by omega), Below.heap_setCell _ ⟨W.heap.size + 1, 0, none⟩ _ q (show q ≠ W.heap.size + 1 by omega)]
end Go.Proofs.Ytfciojkibklkfaa.RepC
end
section
namespace Go.Proofs.Ytfciojkibklkfaa.LiftL
open Go.ChangeShapes Go.WideShapes Go.ChangeAt Go.RowKit Go.Joins
section
variable {H : Type} {enc : TypeId × Value → H} {P : Program}
def allRead (P : Program) (ts : List TypeId) : Bool := ts.all fun t => P.readableRec t && decide (t < P.types.size)
theorem trodAll_stays (hl : laidOutB P = true) {W W' : World} (hb : Below W.heap.size W W') : ∀ (ts : List TypeId) (vs : List Value) (ds : List (DataW H)) (ps : List MemPlace), allRead P ts = true →
    DataW.TrodAll enc P W 0 (fun _ => true) true ts vs ds ps → DataW.TrodAll enc P W' 0 (fun b => decide (b < W.heap.size)) true ts vs ds ps
  | [], vs, ds, ps, _, h => by
    obtain ⟨rfl, rfl, rfl⟩ := trodAll_nil h
    exact trodAll_mk0
  | t :: ts, vs, ds, ps, hr, h => by
    obtain ⟨v, vs', d, ds', p, q, rfl, rfl, rfl, h1, h2⟩ := trodAll_cons h
    have hr' : (P.readableRec t = true ∧ t < P.types.size) ∧ allRead P ts = true := by
      unfold allRead at hr
      simpa [List.all_cons, allRead] using hr
    have lt : ∀ x ∈ p, x.block < W.heap.size := by obtain ⟨m, hm⟩ := h1; exact DataW.trod_lt m _ _ _ hm
    exact trodAll_cons_mk (Below.trod hl hr'.1.1 hr'.1.2 h1 hb lt) (trodAll_stays hl hb ts vs' ds' q hr'.2 h2)
theorem var_stays {W W' : World} (hb : Below W.heap.size W W') {n : String} {g : Nat} {cs : Array Value} (hg : P.globalNamed n = some g) (h : W.var? P n = some cs) : W'.var? P n = some cs := by
  have hlt : g < W.heap.size := by
    simp only [World.var?, hg, Option.bind_some] at h
    cases hw : W.heap[g]? with
    | none => rw [hw] at h; simp at h
    | some o => exact (Array.getElem?_eq_some_iff.1 hw).1
  simp only [World.var?, hg, Option.bind_some] at h ⊢
  rw [hb.block g hlt]
  exact h
def varsRead (P : Program) (ns : List String) : Bool := ns.all fun n => match (P.globalNamed n).bind (fun g => (P.globals[g]?).map (·.type)) with | some t => P.readableRec t && decide (t < P.types.size) | none => false
theorem trodVars_stays (hl : laidOutB P = true) {W W' : World} (hb : Below W.heap.size W W') : ∀ (ns : List String) (gs : List (DataW H)) (ps : List MemPlace), varsRead P ns = true →
    DataW.TrodVars enc P W (fun _ => true) ns gs ps → DataW.TrodVars enc P W' (fun b => decide (b < W.heap.size)) ns gs ps
  | [], gs, ps, _, h => by
    obtain ⟨rfl, rfl⟩ := trodVars_none h
    exact rfl
  | n :: ns, [], ps, _, h => by cases h
  | n :: ns, d :: gs, ps, hr, h => by
    obtain ⟨g, t, cs, fuel, p, q, h1, h2, h3, h4, h5, rfl⟩ := h
    have hr' : (P.readableRec t = true ∧ t < P.types.size) ∧ varsRead P ns = true := by
      unfold varsRead at hr
      rw [List.all_cons, Bool.and_eq_true] at hr
      have h0 := hr.1
      rw [h1, Option.bind_some, h2] at h0
      simp only [Bool.and_eq_true, decide_eq_true_eq] at h0
      exact ⟨h0, hr.2⟩
    have lt : ∀ x ∈ p, x.block < W.heap.size := DataW.trod_lt fuel _ _ _ h4
    obtain ⟨fuel', h6⟩ := Below.trod hl hr'.1.1 hr'.1.2 (v := .agg cs) (d := d) (ps := p) ⟨fuel, h4⟩ hb lt
    exact ⟨g, t, cs, fuel', p, q, h1, h2, var_stays hb h1 h3, h6, trodVars_stays hl hb ns gs q hr'.2 h5, rfl⟩
theorem post_law {f : Func} {s : ChangeSpec} {W W' : World} {args : Array Value} {ds gs : List (DataW H)} {before : List MemPlace} {tb : TypeId} (hspec : s.fn H (ds ++ gs) = { results := [.lit (.bool true)], args := ds, vars := gs })
    (hl : laidOutB P = true) (hr : allRead P f.params.toList = true) (hv : varsRead P s.vars = true) (hres : f.resultTypes = #[tb]) (hbool : P.underlying tb = some .bool)
    (hW : DataW.Whole enc P f.params.toList s.vars false W args.toList ds gs before) (hb : Below W.heap.size W W') : s.post enc P f false true false false W args (.bool true) W' := by
  have hW' := hW
  obtain ⟨p, q, hA, hV, rfl, _, _⟩ := hW
  refine ⟨ds, gs, _, [], p, q, hW', ?_, ?_, ?_, hb.frame _, fun h => by cases h⟩
  · rw [hspec, hres]
    exact trodAll_mk1 (shut_bool hbool _)
  · rw [hspec]
    exact trodAll_stays hl hb _ _ _ _ hr hA
  · rw [hspec]
    exact trodVars_stays hl hb _ _ _ hv hV
end
end Go.Proofs.Ytfciojkibklkfaa.LiftL
end
section
namespace Go.Proofs.Ytfciojkibklkfaa.RepC
open Go.ChangeShapes Go.WideShapes Go.ChangeAt Go.RowKit Go.Joins Go.Deep RowC ValC
set_option linter.unusedVariables false
set_option maxRecDepth 100000
def Opn {α : Type} (E : Rp α) (t : TypeId) : Prop := ∀ {H : Type} (enc : TypeId × Value → H) (W : World) (fuel : Nat) (cs : List Value) (y : DataW H × List MemPlace), DataW.trod enc Try.prog W 0 (fun _ => true) true fuel t cs = some y → ∃ d, E.rd W W.heap.size d cs
theorem opn_int {t : TypeId} (ht : Try.prog.underlying t = some (.int .i64)) : Opn I t := fun enc W fuel cs y h => by
  obtain ⟨n, rfl, _, _⟩ := DataW.trod_int ht h
  exact ⟨n, rfl⟩
theorem add_addr (b o k : Nat) : (⟨b, o, none⟩ : Addr).add k = ⟨b, o + k, none⟩ := by
  unfold Addr.add; split
  · rename_i hz; rw [hz]; rfl
  · rfl
theorem opn_sl {α : Type} {E : Rp α} {t e : TypeId} (hE : Opn E e) (hp : 0 < E.size) (ht : Try.prog.underlying t = some (.slice e)) (hc : Try.prog.cellsOf e = E.size) : Opn (Sl E) t := fun enc W fuel cs y h => by
  rcases open_slice ht h with ⟨rfl, _⟩ | ⟨x, n, cap, m, k, D, Pl, rfl, _, hl, hm, hmm, _, hi⟩
  · exact ⟨[], none, 0, rfl, Nat.le_refl _, Nat.zero_le _, fun h => absurd h (Nat.lt_irrefl _)⟩
  · simp only [if_true] at hmm
    rw [hc] at hi
    have hone : ∀ i, i < n → ∃ d us, us.length = E.size ∧ (∀ j, j < E.size → W.cell? ((x.add (i * E.size)).add j) = us[j]?) ∧ E.rd W W.heap.size d us := fun i hin => by
      obtain ⟨us, h1, h2⟩ := hi i (by omega)
      obtain ⟨_, h3, h4⟩ := World.cells?_some h1
      obtain ⟨d, hd⟩ := hE enc W k us _ h2
      exact ⟨d, us, h3, h4, hd⟩
    by_cases hn : n = 0
    · subst hn
      exact ⟨[], some x, cap, rfl, hl, hm, fun h => absurd h (Nat.lt_irrefl _)⟩
    · obtain ⟨d0, us0, l0, c0, _⟩ := hone 0 (by omega)
      have e0 : (x.add (0 * E.size)).add 0 = x := by simp [Addr.add]
      have h0 := c0 0 hp
      rw [e0] at h0
      have hu : ∃ u, us0[0]? = some u := ⟨us0[0], List.getElem?_eq_getElem (by omega)⟩
      obtain ⟨u, hu⟩ := hu
      rw [hu] at h0
      have hsp : x.spot = none := by
        cases hs : x.spot with
        | none => rfl
        | some s => simp [World.cell?, hs] at h0; split at h0 <;> simp at h0
      obtain ⟨b, off, sp⟩ := x
      simp only at hsp
      subst hsp
      have hb := World.block_lt_of_cell? W ⟨b, off, none⟩ h0
      have hall : ∀ q, q ≤ n → ∃ L : List α, L.length = q ∧ ∀ i d, L[i]? = some d → ∃ us, CellsAt W b (off + i * E.size) us ∧ E.rd W W.heap.size d us := by
        intro q
        induction q with
        | zero => exact fun _ => ⟨[], rfl, fun i d hd => by simp at hd⟩
        | succ q ih =>
          intro hq
          obtain ⟨L, hL, hall⟩ := ih (by omega)
          obtain ⟨d, us, hus, hcs, hd⟩ := hone q (by omega)
          refine ⟨L ++ [d], by simp [hL], fun i z hz => ?_⟩
          by_cases hi : i < L.length
          · rw [List.getElem?_append_left hi] at hz
            exact hall i z hz
          · rw [List.getElem?_append_right (by omega)] at hz
            have hi2 : i = q := by
              have := (List.getElem?_eq_some_iff.1 hz).1
              simp at this
              omega
            subst hi2
            simp [hL] at hz
            subst hz
            refine ⟨us, fun j c hj => ?_, hd⟩
            have hj2 := (List.getElem?_eq_some_iff.1 hj).1
            have := hcs j (by omega)
            rw [add_addr, add_addr, hj] at this
            exact this
      obtain ⟨L, hL, hel⟩ := hall n (Nat.le_refl _)
      subst hL
      exact ⟨L, some ⟨b, off, none⟩, cap, rfl, hl, hm, fun _ => ⟨b, off, rfl, hb, hel⟩⟩
theorem fld {H : Type} {enc : TypeId × Value → H} {W : World} {n : Nat} {cs : List Value} {fs : Array Field} {xs : List (DataW H × List MemPlace)} (hf : ∀ (i : Nat) (f : Field), fs[i]? = some f → DataW.trod enc Try.prog W 0 (fun _ => true) true n f.type ((cs.drop f.offset).take (Try.prog.cellsOf f.type)) = xs[i]?)
    (i : Nat) (t o k : Nat) (h : fs[i]?.map (fun f => (f.type, f.offset)) = some (t, o)) (hc : Try.prog.cellsOf t = k) : DataW.trod enc Try.prog W 0 (fun _ => true) true n t ((cs.drop o).take k) = xs[i]? := by
  cases e : fs[i]? with
  | none => rw [e] at h; cases h
  | some f =>
    rw [e] at h
    simp only [Option.map_some, Option.some.injEq, Prod.mk.injEq] at h
    obtain ⟨rfl, rfl⟩ := h
    subst hc
    exact hf i f e
theorem open_sl {α : Type} {E : Rp α} {t e : TypeId} (hO : Opn (Sl E) t) (ht : Try.prog.underlying t = some (.slice e)) {H : Type} {enc : TypeId × Value → H} {W : World} {base : Nat} {v : Value} {d : DataW H} {p : List MemPlace} (o : Value.okWide Try.prog W .any base t v)
    (h : DataW.Trod enc Try.prog W 0 (fun _ => true) true t v d p) : ∃ (L : List α) (a : Option Addr) (cap : Nat), v = .slice a L.length cap ∧ RdSl E W W.heap.size L a cap := by
  obtain ⟨a, n, cap, rfl⟩ := okWide_slice ht o
  obtain ⟨fuel, hf⟩ := h
  obtain ⟨L, a', cap', hcs, hr⟩ := hO enc W fuel _ _ hf
  simp [Value.cells] at hcs
  obtain ⟨rfl, rfl, rfl⟩ := hcs
  exact ⟨L, a, cap, rfl, hr⟩
theorem open_st {α : Type} {E : Rp α} {t : TypeId} {fs : Array Field} (hO : Opn E t) (ht : Try.prog.underlying t = some (.struct fs)) {H : Type} {enc : TypeId × Value → H} {W : World} {base : Nat} {v : Value} {d : DataW H} {p : List MemPlace} (o : Value.okWide Try.prog W .any base t v)
    (h : DataW.Trod enc Try.prog W 0 (fun _ => true) true t v d p) : ∃ (x : α) (cs : List Value), v = .agg cs.toArray ∧ E.rd W W.heap.size x cs := by
  obtain ⟨cs, rfl, _⟩ := okWide_struct ht o
  obtain ⟨fuel, hf⟩ := h
  obtain ⟨x, hx⟩ := hO enc W fuel _ _ hf
  exact ⟨x, cs.toList, rfl, hx⟩
end Go.Proofs.Ytfciojkibklkfaa.RepC
end
section
namespace Go.Proofs.Ytfciojkibklkfaa.RepC
open Go.ChangeShapes Go.WideShapes Go.ChangeAt Go.RowKit Go.Joins Go.Deep RowC ValC
set_option linter.unusedVariables false
set_option linter.unusedSimpArgs false
set_option maxRecDepth 100000
theorem c_int64 : Try.prog.cellsOf 2 = 1 := by kernel_rfl
theorem opn_i64 : Opn I 2 := opn_int Try.underlying2
theorem c_SpanS : Try.prog.cellsOf 85 = 1 := by kernel_rfl
theorem c_Span : Try.prog.cellsOf 55 = 2 := by kernel_rfl
theorem opn_Span : Opn R_Span 55 := fun enc W fuel cs y h => by
  obtain ⟨xs, n, _, _, hl, hlen, hf⟩ := DataW.trod_struct Try.underlying55 h
  rw [c_Span] at hl
  match cs, hl with
  | [c0, c1], _ =>
    have e2 : xs.length = 2 := hlen
    match xs, e2 with
    | [y0, y1], _ =>
      have g0 := fld hf 0 2 0 1 rfl c_int64
      have g1 := fld hf 1 2 1 1 rfl c_int64
      obtain ⟨d0, h0⟩ := opn_i64 enc W n [c0] y0 g0
      obtain ⟨d1, h1⟩ := opn_i64 enc W n [c1] y1 g1
      exact ⟨(d0, d1), ⟨[c0], [c1], rfl, h0, h1⟩⟩
theorem open_Span {H : Type} {enc : TypeId × Value → H} {W : World} {base : Nat} {v : Value} {d : DataW H} {p : List MemPlace} (o : Value.okWide Try.prog W .any base 55 v) (h : DataW.Trod enc Try.prog W 0 (fun _ => true) true 55 v d p) :
    ∃ (x0 : Int) (x1 : Int), v = .agg #[.int .i64 x0, .int .i64 x1] ∧ R_Span.rd W W.heap.size (x0, x1) [.int .i64 x0, .int .i64 x1] := by
  obtain ⟨⟨x0, x1⟩, cs, rfl, hr⟩ := open_st opn_Span Try.underlying55 o h
  obtain rfl := rd_Span hr
  exact ⟨x0, x1, rfl, hr⟩
theorem opn_SpanS : Opn (Sl R_Span) 85 := opn_sl opn_Span (by decide) Try.underlying85 c_Span
theorem c_Node : Try.prog.cellsOf 87 = 2 := by kernel_rfl
theorem opn_Node : Opn R_Node 87 := fun enc W fuel cs y h => by
  obtain ⟨xs, n, _, _, hl, hlen, hf⟩ := DataW.trod_struct Try.underlying87 h
  rw [c_Node] at hl
  match cs, hl with
  | [c0, c1], _ =>
    have e2 : xs.length = 2 := hlen
    match xs, e2 with
    | [y0, y1], _ =>
      have g0 := fld hf 0 2 0 1 rfl c_int64
      have g1 := fld hf 1 85 1 1 rfl c_SpanS
      obtain ⟨d0, h0⟩ := opn_i64 enc W n [c0] y0 g0
      obtain ⟨d1, h1⟩ := opn_SpanS enc W n [c1] y1 g1
      exact ⟨(d0, d1), ⟨[c0], [c1], rfl, h0, h1⟩⟩
theorem opn_NodeS : Opn (Sl R_Node) 45 := opn_sl opn_Node (by decide) Try.underlying45 c_Node
theorem open_nodes {H : Type} {enc : TypeId × Value → H} {W : World} {base : Nat} {v : Value} {d : DataW H} {p : List MemPlace} (o : Value.okWide Try.prog W .any base 45 v) (h : DataW.Trod enc Try.prog W 0 (fun _ => true) true 45 v d p) :
    ∃ (L : List D_Node) (a : Option Addr) (cap : Nat), v = .slice a L.length cap ∧ (Sl R_Node).rd W W.heap.size L [.slice a L.length cap] := by
  obtain ⟨L, a, cap, rfl, hr⟩ := open_sl opn_NodeS Try.underlying45 o h
  exact ⟨L, a, cap, rfl, a, cap, rfl, hr⟩
end Go.Proofs.Ytfciojkibklkfaa.RepC
end
section
namespace Go.Proofs.Ytfciojkibklkfaa.RepC
open Go.RowKit RowC ValC SpanC KeptC
set_option linter.unusedVariables false
set_option linter.unusedSimpArgs false
theorem cm_spans : ∀ L : List D_Span, sumL R_Span.cm L = 2 * L.length
  | [] => rfl
  | x :: xs => by
    simp only [sumL, cm_spans xs, List.length_cons]
    have : R_Span.cm x = 2 := rfl
    omega
theorem cm_nodes : ∀ L : List D_Node, sumL R_Node.cm L ≤ 2 * (Sl R_Node).sz L
  | [] => Nat.zero_le _
  | x :: xs => by
    have h := cm_nodes xs
    have e : (Sl R_Node).sz (x :: xs) = (x :: xs).length + (R_Node.sz x + sumL R_Node.sz xs) := rfl
    have e2 : (Sl R_Node).sz xs = xs.length + sumL R_Node.sz xs := rfl
    obtain ⟨s, b⟩ := x
    have e3 : R_Node.sz (s, b) = b.length := by rw [szd_Node, flat_SpanS]
    have e4 : R_Node.cm (s, b) = 1 + sumL R_Span.cm b := rfl
    rw [e, e3]
    rw [e2] at h
    simp only [sumL, List.length_cons]
    rw [e4, cm_spans]
    omega
theorem cvs_NodeS {L : List D_Node} (h : (Sl R_Node).sz L ≤ 1048576) : (Sl R_Node).cv L ≤ 8388608 := by
  have := cm_nodes L
  show sumL R_Node.cm L ≤ _
  omega
end Go.Proofs.Ytfciojkibklkfaa.RepC
end
section
namespace Go.Proofs.Ytfciojkibklkfaa.RepC
open Go.ChangeShapes Go.WideShapes Go.ChangeAt Go.RowKit Go.Joins Go.Deep RowC ValC
theorem open_n64 {H : Type} {enc : TypeId × Value → H} {W : World} {base : Nat} {v : Value} {d : DataW H} {p : List MemPlace} (o : Value.okWide Try.prog W .any base 2 v) (h : DataW.Trod enc Try.prog W 0 (fun _ => true) true 2 v d p) : ∃ q : Int, v = .int .i64 q := by
  obtain ⟨a0, rfl, rfl, rfl, w0⟩ := open_int Try.underlying2 o h
  exact ⟨a0, rfl⟩
end Go.Proofs.Ytfciojkibklkfaa.RepC
end
section
namespace Go.Proofs.Ytfciojkibklkfaa.RepC
open Go.RowKit RowC ValC SpanC KeptC
set_option linter.unusedVariables false
set_option linter.unusedSimpArgs false
theorem chg_small {L : List D_Node} {n : Int} {ok : Bool} {chg : D_Node → Int × D_Node} {d : D_NodesOut} (hz : (Sl R_Node).sz L ≤ 1048576) (hc : ∀ x, okN x → (chg x).2.2.length ≤ 5) (hd : chgV L n ok chg = d) : R_NodesOut.cv d ≤ 8388608 := by
  obtain ⟨R, c⟩ := d
  rw [cvd_NodesOut]
  have key : ∀ K : List D_Node, (∀ x ∈ K, x.2.length ≤ 5) → sumL R_Node.cm K ≤ 11 * K.length := by
    intro K hK
    induction K with
    | nil => exact Nat.zero_le _
    | cons y ys ih =>
      have h1 := ih fun x hx => hK x (by simp [hx])
      have h2 := hK y (by simp)
      obtain ⟨s, b⟩ := y
      have h3 : R_Node.cm (s, b) = 1 + sumL R_Span.cm b := rfl
      have h4 : b.length ≤ 5 := h2
      simp only [sumL, List.length_cons]
      rw [h3, cm_spans]
      omega
  have hR : R = [] ∨ (R.length ≤ 6 ∧ ∀ x ∈ R, x.2.length ≤ 5) := by
    unfold chgV at hd
    split at hd
    · exact .inl (congrArg Prod.fst hd).symm
    · split at hd
      · exact .inl (congrArg Prod.fst hd).symm
      · rename_i h1 h2
        split at hd
        · exact .inl (congrArg Prod.fst hd).symm
        · split at hd
          · exact .inl (congrArg Prod.fst hd).symm
          · rename_i x hx
            split at hd
            · have hN : NodesR L := nodesB_iff.1 (by cases hq : nodesB L with
                | true => rfl
                | false => rw [hq] at h2; exact absurd rfl h2)
              have e : L.set n.toNat (chg x).2 = R := congrArg Prod.fst hd
              refine .inr ⟨by rw [← e, List.length_set]; exact hN.1.2, fun y hy => ?_⟩
              rw [← e] at hy
              rcases List.mem_or_eq_of_mem_set hy with h | h
              · have := (hN.2 y h).2.1; omega
              · rw [h]; exact hc x (nodesR_at hN hx)
            · exact .inl (congrArg Prod.fst hd).symm
  rcases hR with rfl | ⟨h1, h2⟩
  · exact Nat.zero_le _
  · have := key R h2
    omega
theorem sets_NodesOut {w : World} {g : Nat} {v0 v1 : Value} {t : TypeId} (h : Blk w g t #[.slice none 0 0, .int .i64 0]) : Blk ((w.setCell ⟨g, 0, none⟩ v0).setCell ⟨g, 1, none⟩ v1) g t #[v0, v1] := Blk.as ((h.set 0 v0).set 1 v1) rfl
theorem soff_NodesOut (w : World) (g : Nat) (v0 v1 : Value) : Off (fun x => x = g) w ((w.setCell ⟨g, 0, none⟩ v0).setCell ⟨g, 1, none⟩ v1) := (((Off.refl (fun x => x = g) w).setCell (p := ⟨g, 0, none⟩) rfl v0).setCell (p := ⟨g, 1, none⟩) rfl v1)
end Go.Proofs.Ytfciojkibklkfaa.RepC
end
section
namespace Go.Proofs.Ytfciojkibklkfaa.RepC
open Go.RowKit RowC ValC SpanC KeptC
set_option linter.unusedVariables false
set_option linter.unusedSimpArgs false
theorem gbu_spec {L : List D_Node} {v : Value} {n a b now : Int} {W : World} (h : (Sl R_Node).rd W W.heap.size L [v]) : Calls Try.prog 14 #[v, .int .i64 n, .agg #[.int .i64 a, .int .i64 b], .int .i64 now] W (NewV R_NodesOut (chgV L n (spB a b && isB now 0 999900) (putN (a, b) now)) W) := by
  obtain ⟨al, cap, he, k⟩ := h; cases he
  exact put_spec2 k
theorem gbu_impl {L : List D_Node} {v : Value} {n a b now : Int} {W : World} (h : (Sl R_Node).rd W W.heap.size L [v]) : Calls Try.prog 13 #[v, .int .i64 n, .agg #[.int .i64 a, .int .i64 b], .int .i64 now] W (NewV R_NodesOut (chgV L n (spB a b && isB now 0 999900) (putN (a, b) now)) W) := by
  obtain ⟨al, cap, he, k⟩ := h; cases he
  exact put_impl2 k
theorem putL_len (M : List D_Span) (x : D_Span) : (putL M x).length = M.length + 1 := by
  unfold putL
  rw [List.length_append, List.length_cons]
  have h := congrArg List.length (List.takeWhile_append_dropWhile (p := fun y : D_Span => decide (y.2 ≤ x.1)) (l := M))
  rw [List.length_append] at h
  omega
theorem put_small {L : List D_Node} {n a b now : Int} {ok : Bool} {d : D_NodesOut} (hz : (Sl R_Node).sz L ≤ 1048576) (hd : chgV L n ok (putN (a, b) now) = d) : R_NodesOut.cv d ≤ 8388608 :=
  chg_small hz (fun x hx => by
    have h4 := hx.2.1
    unfold putN
    split
    · show x.2.length ≤ 5; omega
    · split
      · show x.2.length ≤ 5; omega
      · split
        · show x.2.length ≤ 5; omega
        · show (putL x.2 _).length ≤ 5; rw [putL_len]; omega) hd
end Go.Proofs.Ytfciojkibklkfaa.RepC
end
