/- SpanPut in the program: a contract. -/
import Derived.Test.YtglifjjoalkkbaaSpPut
namespace Go.Proofs.Ytglifjjoalkkbaa.SpanC
open Go.RowKit KeptC RowC
set_option linter.unusedSimpArgs false
set_option linter.unusedVariables false

theorem one_row {W : World} {a b : Int} {T : TypeId} : PRow (W.alloc (.cells #[.int .i64 a, .int .i64 b] T)) W.heap.size 0 1 (fun _ => (a, b)) := fun i hi => by
  obtain rfl : i = 0 := by omega
  simp
theorem sub_row {W : World} {g n p : Nat} {f : Nat → Int × Int} (h : PRow W g 0 n f) (hp : p ≤ n) : PRow W g (p * 2) (n - p) (fun i => f (i + p)) := fun i hi => by
  have h2 := h (i + p) (by omega)
  rw [show 0 + (i + p) * 2 = p * 2 + i * 2 by omega] at h2
  exact h2
theorem pre_row {W : World} {g o n p : Nat} {f : Nat → Int × Int} (h : PRow W g o n f) (hp : p ≤ n) : PRow W g o p f := fun i hi => h i (by omega)
theorem ins_app {f : Nat → Int × Int} {a b : Int} {n p : Nat} (hp : p ≤ n) : ∀ i, i < p + 1 + (n - p) → app (app f p fun _ => (a, b)) (p + 1) (fun i => f (i + p)) i = insF f p (a, b) i := fun i hi => by
  unfold app insF
  by_cases h1 : i < p
  · rw [if_pos (by omega), if_pos h1, if_pos h1]
  · rw [if_neg h1]
    by_cases h2 : i = p
    · rw [if_pos (by omega), if_neg h1, if_pos h2]
    · rw [if_neg (by omega), if_neg h2]
      show f (i - (p + 1) + p) = _
      rw [show i - (p + 1) + p = i - 1 by omega, if_neg h1]
theorem slice0 {W : World} {g o : Nat} {f : Nat → Int × Int} : PRow W g o 0 f := fun i hi => absurd hi (Nat.not_lt_zero _)

set_option maxRecDepth 100000 in
set_option maxHeartbeats 3200000 in
theorem with_impl (g n : Nat) (f : Nat → Int × Int) (a b : Int) (w : World) (hn : n ≤ 1048576) (h1 : PRow w g 0 n f) (l1 : g < w.heap.size) :
    Calls Try.prog 39 #[.slice (some ⟨g, 0, none⟩) n n, .agg #[.int .i64 a, .int .i64 b]] w (ResRow (fun m h => m = n + 1 ∧ ∃ p, PlaceP n f a p ∧ ∀ i, i < n + 1 → h i = insF f p (a, b) i) w) := by
  have H1 := Lib.hid h1
  clear h1
  go_enter Try.func39, Try.ntmps39
  go_wp2_with fail
  refine (place_impl g n f a b _ hn (H1.out.below ((Below.refl _ _).alloc (Nat.le_refl _) _) l1) (by simp; omega)).mono ?_
  intro e wr h
  obtain ⟨p, rfl, hp, hb⟩ := resPlace_elim h
  have HP := Lib.hid hp
  have hpn := hp.1
  have hb : Below (w.heap.size + 1) (w.alloc (.cells #[.int .i64 a, .int .i64 b] 25)) wr := by simpa using hb
  have HB := Lib.hid hb
  have ⟨hx0, hx1, hxl⟩ := box0 hb
  have hsz : w.heap.size + 1 ≤ wr.heap.size := hxl
  have hgl : g < wr.heap.size := by omega
  have hR := H1.out.below (bel1 hb) l1
  have hR1 : PRow ((wr.drew).alloc (.cells #[.int .i64 a, .int .i64 b] 25)) g 0 n f := hR.below ((Below.refl _ _).drew.alloc (Nat.le_refl _) _) hgl
  obtain ⟨v2, W2, hr2, hown2, hbel2, hat2⟩ := app_sp_full ((wr.drew).alloc (.cells #[.int .i64 a, .int .i64 b] 25)) 59 59 Try.underlying59 (pre_row hR1 hpn) 1 (m := 1) one_row (by omega) (by omega)
  have HR2 := Lib.hid hr2
  have hlo2 : wr.heap.size + 1 ≤ W2.heap.size := by have := hbel2.size; simp at this; omega
  have hW2 : Below wr.heap.size wr W2 := ((Below.refl _ _).drew.alloc (Nat.le_refl _) _).trans (hbel2.mono (by simp))
  have HW2 := Lib.hid hW2
  have hp0 : (0 : Int) ≤ (p : Int) := Int.natCast_nonneg _
  have hp1 : (p : Int) ≤ (n : Int) := by omega
  have ⟨hy0, hy1, hyl⟩ := box0 (HB.out.trans (hW2.mono hsz))
  by_cases hlt : p < n
  · obtain ⟨v3, W3, hr3, hown3, hbel3, hg3, hat3⟩ := app_sp W2 (wr.heap.size + 1) 59 59 Try.underlying59 (hown2.lower (by simp)) (n - p) (sub_row (hR.below hW2 hgl) hpn) (by omega) hlo2
    have HR3 := Lib.hid hr3
    have HW3 := Lib.hid (hW2.trans (hbel3.mono (Nat.le_succ _)))
    have HY := Lib.hid (show ResRow (fun m h => m = n + 1 ∧ ∃ p, PlaceP n f a p ∧ ∀ i, i < n + 1 → h i = insF f p (a, b) i) w (.returned v3) W3 from
      ⟨v3, p + 1 + (n - p), _, rfl, ⟨by omega, p, HP.out, fun i hi => ins_app hpn i (by omega)⟩, hown3.lower (by omega), (bel1 HB.out).trans (HW3.out.mono (by omega))⟩)
    have hpp : ¬ n = p := by omega
    clear hb h hp hR hR1 hr2 hown2 hbel2 hat2 hr3 hown3 hbel3 hg3 hat3 hW2
    go_wp2_with fail
    refine wp_region_held_drew (S := (fun W => W.cell? ⟨w.heap.size, 0, none⟩ = some (.int .i64 a) ∧ W.cell? ⟨w.heap.size, 1, none⟩ = some (.int .i64 b) ∧ wr.heap.size ≤ W.heap.size ∧ Below (w.heap.size + 1) (w.alloc (.cells #[.int .i64 a, .int .i64 b] 25)) W)) (by kernel_rfl) (⟨hx0, hx1, Nat.le_refl _, HB.out.drew⟩) (fun hHeld => ?_)
    (refine wpAnyH_take (i := 0) (v := ?hv1) rfl (by kernel_rfl) (by kernel_rfl) (by kernel_rfl) (fun _ _ _ h => h) (Or.inl ⟨by kernel_rfl, ?hy1⟩) hHeld ?hr1; case hy1 => (intro w hSw; (try dsimp only at hSw); go_simp; try with_reducible rfl))
    simp only [Act.put, List.getElem_toArray, List.getElem_cons_succ, List.getElem_cons_zero, List.setIfInBounds_toArray, List.set_cons_zero, List.set_cons_succ]
    (refine wpAnyH_take (i := 1) (v := ?hv2) rfl (by kernel_rfl) (by kernel_rfl) (by kernel_rfl) (fun _ _ _ h => h) (Or.inl ⟨by kernel_rfl, ?hy2⟩) hHeld ?hr2; case hy2 => (intro w hSw; (try dsimp only at hSw); go_simp; try with_reducible rfl))
    simp only [Act.put, List.getElem_toArray, List.getElem_cons_succ, List.getElem_cons_zero, List.setIfInBounds_toArray, List.set_cons_zero, List.set_cons_succ]
    (refine wpAnyH_take (i := 2) (v := ?hv3) rfl (by kernel_rfl) (by kernel_rfl) (by kernel_rfl) (fun _ _ _ h => h) (Or.inl ⟨by kernel_rfl, ?hy3⟩) hHeld ?hr3; case hy3 => (intro w hSw; (try dsimp only at hSw); go_simp; try with_reducible rfl))
    simp only [Act.put, List.getElem_toArray, List.getElem_cons_succ, List.getElem_cons_zero, List.setIfInBounds_toArray, List.set_cons_zero, List.set_cons_succ]
    (refine wpAnyH_take (i := 3) (v := ?hv4) rfl (by kernel_rfl) (by kernel_rfl) (by kernel_rfl) (fun _ _ _ h => h) (Or.inl ⟨by kernel_rfl, ?hy4⟩) hHeld ?hr4; case hy4 => (intro w hSw; (try dsimp only at hSw); go_simp; try with_reducible rfl))
    simp only [Act.put, List.getElem_toArray, List.getElem_cons_succ, List.getElem_cons_zero, List.setIfInBounds_toArray, List.set_cons_zero, List.set_cons_succ]
    (refine wpAnyH_take (i := 4) (v := ?hv5) rfl (by kernel_rfl) (by kernel_rfl) (by kernel_rfl) (fun _ _ _ h => h) (Or.inl ⟨by kernel_rfl, ?hy5⟩) hHeld ?hr5; case hy5 => (intro w hSw; (try dsimp only at hSw); go_simp; try with_reducible rfl))
    simp only [Act.put, List.getElem_toArray, List.getElem_cons_succ, List.getElem_cons_zero, List.setIfInBounds_toArray, List.set_cons_zero, List.set_cons_succ]
    (refine wpAnyH_take (i := 7) (v := ?hv6) rfl (by kernel_rfl) (by kernel_rfl) (by kernel_rfl) (fun _ _ _ h => h) (Or.inl ⟨by kernel_rfl, ?hy6⟩) hHeld ?hr6; case hy6 => (intro w hSw; (try dsimp only at hSw); go_simp; try with_reducible rfl))
    simp only [Act.put, List.getElem_toArray, List.getElem_cons_succ, List.getElem_cons_zero, List.setIfInBounds_toArray, List.set_cons_zero, List.set_cons_succ]
    (refine wpAnyH_take (i := 8) (v := ?hv7) rfl (by kernel_rfl) (by kernel_rfl) (by kernel_rfl) (fun _ _ _ h => h) (Or.inl ⟨by kernel_rfl, ?hy7⟩) hHeld ?hr7; case hy7 => (intro w hSw; (try dsimp only at hSw); go_simp; try with_reducible rfl))
    simp only [Act.put, List.getElem_toArray, List.getElem_cons_succ, List.getElem_cons_zero, List.setIfInBounds_toArray, List.set_cons_zero, List.set_cons_succ]
    (refine wpAnyH_take (i := 9) (v := ?hv8) rfl (by kernel_rfl) (by kernel_rfl) (by kernel_rfl) (fun _ _ _ h => h) (Or.inl ⟨by kernel_rfl, ?hy8⟩) hHeld ?hr8; case hy8 => (intro w hSw; (try dsimp only at hSw); go_simp; try with_reducible rfl))
    simp only [Act.put, List.getElem_toArray, List.getElem_cons_succ, List.getElem_cons_zero, List.setIfInBounds_toArray, List.set_cons_zero, List.set_cons_succ]
    refine wpAnyH_ready (rs := [5]) (by kernel_rfl) (by simp) ?_
    refine AllReadyH.cons rfl (fun K hK => ?_) AllReadyH.nil
    go_simp
    refine hK.out _ _ (⟨(World.cell?_alloc_lt _ _ ⟨w.heap.size, 0, none⟩ hxl).trans hHeld.1, (World.cell?_alloc_lt _ _ ⟨w.heap.size, 1, none⟩ hxl).trans hHeld.2.1, Nat.le_trans hHeld.2.2.1 (by simp), hHeld.2.2.2.alloc (Nat.le_trans hsz hHeld.2.2.1) _⟩) (fun hHeld => ?_)
    clear hK K
    try simp only [Act.put, List.getElem_toArray, List.getElem_cons_succ, List.getElem_cons_zero, List.setIfInBounds_toArray, List.set_cons_zero, List.set_cons_succ]
    refine wpAnyH_ready (rs := [6]) (by kernel_rfl) (by simp) ?_
    refine AllReadyH.cons rfl (fun K hK => ?_) AllReadyH.nil
    refine step_app rfl (.tmp 12) (.tmp 14) 59 rfl rfl rfl HR2.out ?_
    refine hK.out _ _ (⟨hy0, hy1, HW2.out.size, HB.out.trans (HW2.out.mono hsz)⟩) (fun hHeld => ?_)
    clear hK K
    try simp only [Act.put, List.getElem_toArray, List.getElem_cons_succ, List.getElem_cons_zero, List.setIfInBounds_toArray, List.set_cons_zero, List.set_cons_succ]
    refine wpAnyH_ready (rs := [10]) (by kernel_rfl) (by simp) ?_
    refine AllReadyH.cons rfl (fun K hK => ?_) AllReadyH.nil
    refine step_app rfl (.tmp 15) (.tmp 18) 59 rfl rfl rfl HR3.out ?_
    refine hK.out _ _ (⟨(HW3.out.cell (p := ⟨w.heap.size, 0, none⟩) hxl).trans hx0, (HW3.out.cell (p := ⟨w.heap.size, 1, none⟩) hxl).trans hx1, HW3.out.size, HB.out.trans (HW3.out.mono hsz)⟩) (fun hHeld => ?_)
    clear hK K
    try simp only [Act.put, List.getElem_toArray, List.getElem_cons_succ, List.getElem_cons_zero, List.setIfInBounds_toArray, List.set_cons_zero, List.set_cons_succ]
    (refine wpAnyH_take (i := 11) (v := ?hv9) rfl (by kernel_rfl) (by kernel_rfl) (by kernel_rfl) (fun _ _ _ h => h) (Or.inl ⟨by kernel_rfl, ?hy9⟩) hHeld ?hr9; case hy9 => (intro w hSw; (try dsimp only at hSw); go_simp; try with_reducible rfl))
    simp only [Act.put, List.getElem_toArray, List.getElem_cons_succ, List.getElem_cons_zero, List.setIfInBounds_toArray, List.set_cons_zero, List.set_cons_succ]
    refine wpAnyH_done (by kernel_rfl) ?_ _
    clear hHeld
    go_wp2
    go_ret
    exact HY.out
  · obtain rfl : p = n := by omega
    obtain ⟨v3, W3, hr3, hown3, hbel3, hg3, hat3⟩ := app_sp W2 (wr.heap.size + 1) 59 59 Try.underlying59 (hown2.lower (by simp)) (g := g) (o := 0) (m := 0) (h := fun i => f (i + p)) 0 slice0 (by omega) hlo2
    have HR3 := Lib.hid hr3
    have HW3 := Lib.hid (hW2.trans (hbel3.mono (Nat.le_succ _)))
    have HY := Lib.hid (show ResRow (fun m h => m = p + 1 ∧ ∃ q, PlaceP p f a q ∧ ∀ i, i < p + 1 → h i = insF f q (a, b) i) w (.returned v3) W3 from
      ⟨v3, p + 1 + 0, _, rfl, ⟨by omega, p, HP.out, fun i hi => ins_app hpn i (by omega)⟩, hown3.lower (by omega), (bel1 HB.out).trans (HW3.out.mono (by omega))⟩)
    clear hb h hp hR hR1 hr2 hown2 hbel2 hat2 hr3 hown3 hbel3 hg3 hat3 hW2
    go_wp2_with fail
    refine wp_region_held_drew (S := (fun W => W.cell? ⟨w.heap.size, 0, none⟩ = some (.int .i64 a) ∧ W.cell? ⟨w.heap.size, 1, none⟩ = some (.int .i64 b) ∧ wr.heap.size ≤ W.heap.size ∧ Below (w.heap.size + 1) (w.alloc (.cells #[.int .i64 a, .int .i64 b] 25)) W)) (by kernel_rfl) (⟨hx0, hx1, Nat.le_refl _, HB.out.drew⟩) (fun hHeld => ?_)
    (refine wpAnyH_take (i := 0) (v := ?hv10) rfl (by kernel_rfl) (by kernel_rfl) (by kernel_rfl) (fun _ _ _ h => h) (Or.inl ⟨by kernel_rfl, ?hy10⟩) hHeld ?hr10; case hy10 => (intro w hSw; (try dsimp only at hSw); go_simp; try with_reducible rfl))
    simp only [Act.put, List.getElem_toArray, List.getElem_cons_succ, List.getElem_cons_zero, List.setIfInBounds_toArray, List.set_cons_zero, List.set_cons_succ]
    (refine wpAnyH_take (i := 1) (v := ?hv11) rfl (by kernel_rfl) (by kernel_rfl) (by kernel_rfl) (fun _ _ _ h => h) (Or.inl ⟨by kernel_rfl, ?hy11⟩) hHeld ?hr11; case hy11 => (intro w hSw; (try dsimp only at hSw); go_simp; try with_reducible rfl))
    simp only [Act.put, List.getElem_toArray, List.getElem_cons_succ, List.getElem_cons_zero, List.setIfInBounds_toArray, List.set_cons_zero, List.set_cons_succ]
    (refine wpAnyH_take (i := 2) (v := ?hv12) rfl (by kernel_rfl) (by kernel_rfl) (by kernel_rfl) (fun _ _ _ h => h) (Or.inl ⟨by kernel_rfl, ?hy12⟩) hHeld ?hr12; case hy12 => (intro w hSw; (try dsimp only at hSw); go_simp; try with_reducible rfl))
    simp only [Act.put, List.getElem_toArray, List.getElem_cons_succ, List.getElem_cons_zero, List.setIfInBounds_toArray, List.set_cons_zero, List.set_cons_succ]
    (refine wpAnyH_take (i := 3) (v := ?hv13) rfl (by kernel_rfl) (by kernel_rfl) (by kernel_rfl) (fun _ _ _ h => h) (Or.inl ⟨by kernel_rfl, ?hy13⟩) hHeld ?hr13; case hy13 => (intro w hSw; (try dsimp only at hSw); go_simp; try with_reducible rfl))
    simp only [Act.put, List.getElem_toArray, List.getElem_cons_succ, List.getElem_cons_zero, List.setIfInBounds_toArray, List.set_cons_zero, List.set_cons_succ]
    (refine wpAnyH_take (i := 4) (v := ?hv14) rfl (by kernel_rfl) (by kernel_rfl) (by kernel_rfl) (fun _ _ _ h => h) (Or.inl ⟨by kernel_rfl, ?hy14⟩) hHeld ?hr14; case hy14 => (intro w hSw; (try dsimp only at hSw); go_simp; try with_reducible rfl))
    simp only [Act.put, List.getElem_toArray, List.getElem_cons_succ, List.getElem_cons_zero, List.setIfInBounds_toArray, List.set_cons_zero, List.set_cons_succ]
    (refine wpAnyH_take (i := 7) (v := ?hv15) rfl (by kernel_rfl) (by kernel_rfl) (by kernel_rfl) (fun _ _ _ h => h) (Or.inl ⟨by kernel_rfl, ?hy15⟩) hHeld ?hr15; case hy15 => (intro w hSw; (try dsimp only at hSw); go_simp; try with_reducible rfl))
    simp only [Act.put, List.getElem_toArray, List.getElem_cons_succ, List.getElem_cons_zero, List.setIfInBounds_toArray, List.set_cons_zero, List.set_cons_succ]
    (refine wpAnyH_take (i := 8) (v := ?hv16) rfl (by kernel_rfl) (by kernel_rfl) (by kernel_rfl) (fun _ _ _ h => h) (Or.inl ⟨by kernel_rfl, ?hy16⟩) hHeld ?hr16; case hy16 => (intro w hSw; (try dsimp only at hSw); go_simp; try with_reducible rfl))
    simp only [Act.put, List.getElem_toArray, List.getElem_cons_succ, List.getElem_cons_zero, List.setIfInBounds_toArray, List.set_cons_zero, List.set_cons_succ]
    (refine wpAnyH_take (i := 9) (v := ?hv17) rfl (by kernel_rfl) (by kernel_rfl) (by kernel_rfl) (fun _ _ _ h => h) (Or.inl ⟨by kernel_rfl, ?hy17⟩) hHeld ?hr17; case hy17 => (intro w hSw; (try dsimp only at hSw); go_simp; try with_reducible rfl))
    simp only [Act.put, List.getElem_toArray, List.getElem_cons_succ, List.getElem_cons_zero, List.setIfInBounds_toArray, List.set_cons_zero, List.set_cons_succ]
    refine wpAnyH_ready (rs := [5]) (by kernel_rfl) (by simp) ?_
    refine AllReadyH.cons rfl (fun K hK => ?_) AllReadyH.nil
    go_simp
    refine hK.out _ _ (⟨(World.cell?_alloc_lt _ _ ⟨w.heap.size, 0, none⟩ hxl).trans hHeld.1, (World.cell?_alloc_lt _ _ ⟨w.heap.size, 1, none⟩ hxl).trans hHeld.2.1, Nat.le_trans hHeld.2.2.1 (by simp), hHeld.2.2.2.alloc (Nat.le_trans hsz hHeld.2.2.1) _⟩) (fun hHeld => ?_)
    clear hK K
    try simp only [Act.put, List.getElem_toArray, List.getElem_cons_succ, List.getElem_cons_zero, List.setIfInBounds_toArray, List.set_cons_zero, List.set_cons_succ]
    refine wpAnyH_ready (rs := [6]) (by kernel_rfl) (by simp) ?_
    refine AllReadyH.cons rfl (fun K hK => ?_) AllReadyH.nil
    refine step_app rfl (.tmp 12) (.tmp 14) 59 rfl rfl rfl HR2.out ?_
    refine hK.out _ _ (⟨hy0, hy1, HW2.out.size, HB.out.trans (HW2.out.mono hsz)⟩) (fun hHeld => ?_)
    clear hK K
    try simp only [Act.put, List.getElem_toArray, List.getElem_cons_succ, List.getElem_cons_zero, List.setIfInBounds_toArray, List.set_cons_zero, List.set_cons_succ]
    refine wpAnyH_ready (rs := [10]) (by kernel_rfl) (by simp) ?_
    refine AllReadyH.cons rfl (fun K hK => ?_) AllReadyH.nil
    refine step_app rfl (.tmp 15) (.tmp 18) 59 rfl rfl rfl HR3.out ?_
    refine hK.out _ _ (⟨(HW3.out.cell (p := ⟨w.heap.size, 0, none⟩) hxl).trans hx0, (HW3.out.cell (p := ⟨w.heap.size, 1, none⟩) hxl).trans hx1, HW3.out.size, HB.out.trans (HW3.out.mono hsz)⟩) (fun hHeld => ?_)
    clear hK K
    try simp only [Act.put, List.getElem_toArray, List.getElem_cons_succ, List.getElem_cons_zero, List.setIfInBounds_toArray, List.set_cons_zero, List.set_cons_succ]
    (refine wpAnyH_take (i := 11) (v := ?hv18) rfl (by kernel_rfl) (by kernel_rfl) (by kernel_rfl) (fun _ _ _ h => h) (Or.inl ⟨by kernel_rfl, ?hy18⟩) hHeld ?hr18; case hy18 => (intro w hSw; (try dsimp only at hSw); go_simp; try with_reducible rfl))
    simp only [Act.put, List.getElem_toArray, List.getElem_cons_succ, List.getElem_cons_zero, List.setIfInBounds_toArray, List.set_cons_zero, List.set_cons_succ]
    refine wpAnyH_done (by kernel_rfl) ?_ _
    clear hHeld
    go_wp2
    go_ret
    exact HY.out
end Go.Proofs.Ytglifjjoalkkbaa.SpanC
