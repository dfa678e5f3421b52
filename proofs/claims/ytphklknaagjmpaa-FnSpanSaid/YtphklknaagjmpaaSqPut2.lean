/- SpanPut in the program: a contract. -/
import Derived.Test.YtphklknaagjmpaaTk
import Derived.Test.YtphklknaagjmpaaSqPut
namespace Go.Proofs.Ytphklknaagjmpaa.SpanC
open Go.RowKit KeptC RowC
set_option linter.unusedSimpArgs false
set_option linter.unusedVariables false

theorem one_row {W : World} {a b : Int} {T : TypeId} : PRow (W.alloc (.cells #[.int .i64 a, .int .i64 b] T)) W.heap.size 0 1 (fun _ => (a, b)) := fun i hi => by
  obtain rfl : i = 0 := by omega
  simp
theorem sub_row {W : World} {g o n p : Nat} {f : Nat → Int × Int} (h : PRow W g o n f) (hp : p ≤ n) : PRow W g (o + p * 2) (n - p) (fun i => f (i + p)) := fun i hi => by
  have h2 := h (i + p) (by omega)
  rw [show o + (i + p) * 2 = o + p * 2 + i * 2 by omega] at h2
  exact h2
theorem pre_row {W : World} {g o n p : Nat} {f : Nat → Int × Int} (h : PRow W g o n f) (hp : p ≤ n) : PRow W g o p f := fun i hi => h i (by omega)
theorem ins_app {f : Nat → Int × Int} {a b : Int} {n p : Nat} (hp : p ≤ n) : ∀ i, i < p + 1 + (n - p) → app (app f p fun _ => (a, b)) (p + 1) (fun i => f (i + p)) i = insF f p (a, b) i := fun i hi => by
  unfold app insF
  by_cases h1 : i < p
  · rw [if_pos (by omega), if_pos h1, if_pos h1]
  · rw [if_neg h1]
    by_cases h2 : i = p
    · rw [if_pos (by omega), if_neg h1, if_pos h2]
    · rw [if_neg (by omega), if_neg h2]
      show f (i - (p + 1) + p) = _
      rw [show i - (p + 1) + p = i - 1 by omega, if_neg h1]
theorem slice0 {W : World} {g o : Nat} {f : Nat → Int × Int} : PRow W g o 0 f := fun i hi => absurd hi (Nat.not_lt_zero _)

theorem rowO_cap_le {W : World} {lo n m c : Nat} {a : Option Addr} {T : TypeId} {s : Nat} {f : Nat → Value} (h : RowO W lo T s (.slice a m c) n f) : n ≤ c := by
  obtain ⟨_, h2⟩ := h
  rcases h2 with ⟨_, h0⟩ | ⟨g, cap, cur, e, _, _, hn, _⟩
  · omega
  · cases e; exact hn
theorem rowO_ps {W : World} {lo n : Nat} {v : Value} {f : Nat → Int × Int} (h : RowS W lo v n f) : ∃ qa qc, v = .slice qa n qc ∧ PS W qa n qc f := by
  have hc := h
  obtain ⟨_, h2⟩ := h
  rcases h2 with ⟨rfl, h0⟩ | ⟨g, cap, cur, rfl, hlo, hg, hn, _⟩
  · exact ⟨none, 0, by rw [h0], .inl ⟨rfl, h0⟩⟩
  · refine ⟨_, cap, rfl, .inr ⟨g, 0, rfl, (Array.getElem?_eq_some_iff.1 hg).1, hn, ?_⟩⟩
    rcases Nat.eq_zero_or_pos n with h0 | h0
    · subst h0; exact fun i hi => absurd hi (Nat.not_lt_zero _)
    · obtain ⟨g', c', e, _, _, _, hp, _⟩ := RowO.spans hc h0
      cases e
      exact hp
set_option maxRecDepth 100000 in
set_option maxHeartbeats 3200000 in
theorem with_some (g o n qc : Nat) (hnc : n ≤ qc) (f : Nat → Int × Int) (a b : Int) (w : World) (hn : n ≤ 1048576) (h1 : PRow w g o n f) (l1 : g < w.heap.size) :
    Calls Try.prog 21 #[.slice (some ⟨g, o, none⟩) n qc, .agg #[.int .i64 a, .int .i64 b]] w (ResRow (fun m h => m = n + 1 ∧ ∃ p, PlaceP n f a p ∧ ∀ i, i < n + 1 → h i = insF f p (a, b) i) w) := by
  have H1 := Lib.hid h1
  clear h1
  go_enter Try.func21, Try.ntmps21
  go_wp2_with fail
  refine (place_impl (some ⟨g, o, none⟩) n qc f a b _ hn (PRow.pa (H1.out.below ((Below.refl _ _).alloc (Nat.le_refl _) _) l1) (by simp; omega))).mono ?_
  intro e wr h
  obtain ⟨p, rfl, hp, hb⟩ := resPlace_elim h
  have HP := Lib.hid hp
  have hpn := hp.1
  have hb : Below (w.heap.size + 1) (w.alloc (.cells #[.int .i64 a, .int .i64 b] 25)) wr := by simpa using hb
  have HB := Lib.hid hb
  have ⟨hx0, hx1, hxl⟩ := box0 hb
  have hsz : w.heap.size + 1 ≤ wr.heap.size := hxl
  have hgl : g < wr.heap.size := by omega
  have hR := H1.out.below (bel1 hb) l1
  have hR1 : PRow ((wr.drew).alloc (.cells #[.int .i64 a, .int .i64 b] 25)) g o n f := hR.below ((Below.refl _ _).drew.alloc (Nat.le_refl _) _) hgl
  obtain ⟨v2, W2, hr2, hown2, hbel2, hat2⟩ := app_sp_full ((wr.drew).alloc (.cells #[.int .i64 a, .int .i64 b] 25)) 43 43 Try.underlying43 (pre_row hR1 hpn) 1 (m := 1) one_row (by omega) (by omega)
  have HR2 := Lib.hid hr2
  have hlo2 : wr.heap.size + 1 ≤ W2.heap.size := by have := hbel2.size; simp at this; omega
  have hW2 : Below wr.heap.size wr W2 := ((Below.refl _ _).drew.alloc (Nat.le_refl _) _).trans (hbel2.mono (by simp))
  have HW2 := Lib.hid hW2
  have hp0 : (0 : Int) ≤ (p : Int) := Int.natCast_nonneg _
  have hp1 : (p : Int) ≤ (n : Int) := by omega
  have hpc : p ≤ qc := by omega
  have hpc1 : (p : Int) ≤ (qc : Int) := by omega
  have hnc1 : (n : Int) ≤ (qc : Int) := by omega
  have ⟨hy0, hy1, hyl⟩ := box0 (HB.out.trans (hW2.mono hsz))
  by_cases hlt : p < n
  · obtain ⟨v3, W3, hr3, hown3, hbel3, hg3, hat3⟩ := app_sp W2 (wr.heap.size + 1) 43 43 Try.underlying43 (hown2.lower (by simp)) (qc - p) (sub_row (hR.below hW2 hgl) hpn) (by omega) hlo2
    have HR3 := Lib.hid hr3
    have HW3 := Lib.hid (hW2.trans (hbel3.mono (Nat.le_succ _)))
    have HY := Lib.hid (show ResRow (fun m h => m = n + 1 ∧ ∃ p, PlaceP n f a p ∧ ∀ i, i < n + 1 → h i = insF f p (a, b) i) w (.returned v3) W3 from
      ⟨v3, p + 1 + (n - p), _, rfl, ⟨by omega, p, HP.out, fun i hi => ins_app hpn i (by omega)⟩, hown3.lower (by omega), (bel1 HB.out).trans (HW3.out.mono (by omega))⟩)
    have hpp : ¬ qc = p := by omega
    clear hb h hp hR hR1 hr2 hown2 hbel2 hat2 hr3 hown3 hbel3 hg3 hat3 hW2
    go_wp2_with fail
    refine wp_region_held_drew (S := (fun W => W.cell? ⟨w.heap.size, 0, none⟩ = some (.int .i64 a) ∧ W.cell? ⟨w.heap.size, 1, none⟩ = some (.int .i64 b) ∧ wr.heap.size ≤ W.heap.size ∧ Below (w.heap.size + 1) (w.alloc (.cells #[.int .i64 a, .int .i64 b] 25)) W)) (by kernel_rfl) (⟨hx0, hx1, Nat.le_refl _, HB.out.drew⟩) (fun hHeld => ?_)
    refine tk 0 hHeld ?_
    refine tk 1 hHeld ?_
    refine tk 2 hHeld ?_
    refine tk 3 hHeld ?_
    refine tk 4 hHeld ?_
    refine tk 7 hHeld ?_
    refine tk 8 hHeld ?_
    refine tk 9 hHeld ?_
    refine rd1 5 (fun K hK => ?_)
    go_simp
    refine hK.out _ _ (⟨(World.cell?_alloc_lt _ _ ⟨w.heap.size, 0, none⟩ hxl).trans hHeld.1, (World.cell?_alloc_lt _ _ ⟨w.heap.size, 1, none⟩ hxl).trans hHeld.2.1, Nat.le_trans hHeld.2.2.1 (by simp), hHeld.2.2.2.alloc (Nat.le_trans hsz hHeld.2.2.1) _⟩) (fun hHeld => ?_)
    clear hK K
    refine rd1 6 (fun K hK => ?_)
    refine step_app rfl (.tmp 12) (.tmp 14) 43 rfl rfl rfl HR2.out ?_
    refine hK.out _ _ (⟨hy0, hy1, HW2.out.size, HB.out.trans (HW2.out.mono hsz)⟩) (fun hHeld => ?_)
    clear hK K
    refine rd1 10 (fun K hK => ?_)
    refine step_app rfl (.tmp 15) (.tmp 18) 43 rfl rfl rfl HR3.out ?_
    refine hK.out _ _ (⟨(HW3.out.cell (p := ⟨w.heap.size, 0, none⟩) hxl).trans hx0, (HW3.out.cell (p := ⟨w.heap.size, 1, none⟩) hxl).trans hx1, HW3.out.size, HB.out.trans (HW3.out.mono hsz)⟩) (fun hHeld => ?_)
    clear hK K
    refine tk 11 hHeld ?_
    refine rd0 ?_
    clear hHeld
    go_wp2
    go_ret
    exact HY.out
  · obtain rfl : p = n := by omega
    by_cases hqc : p = qc
    · subst hqc
      obtain ⟨v3, W3, hr3, hown3, hbel3, hg3, hat3⟩ := app_sp W2 (wr.heap.size + 1) 43 43 Try.underlying43 (hown2.lower (by simp)) (g := g) (o := o) (m := 0) (h := fun i => f (i + p)) 0 slice0 (by omega) hlo2
      have HR3 := Lib.hid hr3
      have HW3 := Lib.hid (hW2.trans (hbel3.mono (Nat.le_succ _)))
      have HY := Lib.hid (show ResRow (fun m h => m = p + 1 ∧ ∃ q, PlaceP p f a q ∧ ∀ i, i < p + 1 → h i = insF f q (a, b) i) w (.returned v3) W3 from
        ⟨v3, p + 1 + 0, _, rfl, ⟨by omega, p, HP.out, fun i hi => ins_app hpn i (by omega)⟩, hown3.lower (by omega), (bel1 HB.out).trans (HW3.out.mono (by omega))⟩)
      clear hb h hp hR hR1 hr2 hown2 hbel2 hat2 hr3 hown3 hbel3 hg3 hat3 hW2
      go_wp2_with fail
      refine wp_region_held_drew (S := (fun W => W.cell? ⟨w.heap.size, 0, none⟩ = some (.int .i64 a) ∧ W.cell? ⟨w.heap.size, 1, none⟩ = some (.int .i64 b) ∧ wr.heap.size ≤ W.heap.size ∧ Below (w.heap.size + 1) (w.alloc (.cells #[.int .i64 a, .int .i64 b] 25)) W)) (by kernel_rfl) (⟨hx0, hx1, Nat.le_refl _, HB.out.drew⟩) (fun hHeld => ?_)
      refine tk 0 hHeld ?_
      refine tk 1 hHeld ?_
      refine tk 2 hHeld ?_
      refine tk 3 hHeld ?_
      refine tk 4 hHeld ?_
      refine tk 7 hHeld ?_
      refine tk 8 hHeld ?_
      refine tk 9 hHeld ?_
      refine rd1 5 (fun K hK => ?_)
      go_simp
      refine hK.out _ _ (⟨(World.cell?_alloc_lt _ _ ⟨w.heap.size, 0, none⟩ hxl).trans hHeld.1, (World.cell?_alloc_lt _ _ ⟨w.heap.size, 1, none⟩ hxl).trans hHeld.2.1, Nat.le_trans hHeld.2.2.1 (by simp), hHeld.2.2.2.alloc (Nat.le_trans hsz hHeld.2.2.1) _⟩) (fun hHeld => ?_)
      clear hK K
      refine rd1 6 (fun K hK => ?_)
      refine step_app rfl (.tmp 12) (.tmp 14) 43 rfl rfl rfl HR2.out ?_
      refine hK.out _ _ (⟨hy0, hy1, HW2.out.size, HB.out.trans (HW2.out.mono hsz)⟩) (fun hHeld => ?_)
      clear hK K
      refine rd1 10 (fun K hK => ?_)
      refine step_app rfl (.tmp 15) (.tmp 18) 43 rfl rfl rfl HR3.out ?_
      refine hK.out _ _ (⟨(HW3.out.cell (p := ⟨w.heap.size, 0, none⟩) hxl).trans hx0, (HW3.out.cell (p := ⟨w.heap.size, 1, none⟩) hxl).trans hx1, HW3.out.size, HB.out.trans (HW3.out.mono hsz)⟩) (fun hHeld => ?_)
      clear hK K
      refine tk 11 hHeld ?_
      refine rd0 ?_
      clear hHeld
      go_wp2
      go_ret
      exact HY.out
    · have hpp : ¬ qc = p := fun e => hqc e.symm
      obtain ⟨v3, W3, hr3, hown3, hbel3, hg3, hat3⟩ := app_sp W2 (wr.heap.size + 1) 43 43 Try.underlying43 (hown2.lower (by simp)) (g := g) (o := o + p * 2) (m := 0) (h := fun i => f (i + p)) (qc - p) slice0 (by omega) hlo2
      have HR3 := Lib.hid hr3
      have HW3 := Lib.hid (hW2.trans (hbel3.mono (Nat.le_succ _)))
      have HY := Lib.hid (show ResRow (fun m h => m = p + 1 ∧ ∃ q, PlaceP p f a q ∧ ∀ i, i < p + 1 → h i = insF f q (a, b) i) w (.returned v3) W3 from
        ⟨v3, p + 1 + 0, _, rfl, ⟨by omega, p, HP.out, fun i hi => ins_app hpn i (by omega)⟩, hown3.lower (by omega), (bel1 HB.out).trans (HW3.out.mono (by omega))⟩)
      clear hb h hp hR hR1 hr2 hown2 hbel2 hat2 hr3 hown3 hbel3 hg3 hat3 hW2
      go_wp2_with fail
      refine wp_region_held_drew (S := (fun W => W.cell? ⟨w.heap.size, 0, none⟩ = some (.int .i64 a) ∧ W.cell? ⟨w.heap.size, 1, none⟩ = some (.int .i64 b) ∧ wr.heap.size ≤ W.heap.size ∧ Below (w.heap.size + 1) (w.alloc (.cells #[.int .i64 a, .int .i64 b] 25)) W)) (by kernel_rfl) (⟨hx0, hx1, Nat.le_refl _, HB.out.drew⟩) (fun hHeld => ?_)
      refine tk 0 hHeld ?_
      refine tk 1 hHeld ?_
      refine tk 2 hHeld ?_
      refine tk 3 hHeld ?_
      refine tk 4 hHeld ?_
      refine tk 7 hHeld ?_
      refine tk 8 hHeld ?_
      refine tk 9 hHeld ?_
      refine rd1 5 (fun K hK => ?_)
      go_simp
      refine hK.out _ _ (⟨(World.cell?_alloc_lt _ _ ⟨w.heap.size, 0, none⟩ hxl).trans hHeld.1, (World.cell?_alloc_lt _ _ ⟨w.heap.size, 1, none⟩ hxl).trans hHeld.2.1, Nat.le_trans hHeld.2.2.1 (by simp), hHeld.2.2.2.alloc (Nat.le_trans hsz hHeld.2.2.1) _⟩) (fun hHeld => ?_)
      clear hK K
      refine rd1 6 (fun K hK => ?_)
      refine step_app rfl (.tmp 12) (.tmp 14) 43 rfl rfl rfl HR2.out ?_
      refine hK.out _ _ (⟨hy0, hy1, HW2.out.size, HB.out.trans (HW2.out.mono hsz)⟩) (fun hHeld => ?_)
      clear hK K
      refine rd1 10 (fun K hK => ?_)
      refine step_app rfl (.tmp 15) (.tmp 18) 43 rfl rfl rfl HR3.out ?_
      refine hK.out _ _ (⟨(HW3.out.cell (p := ⟨w.heap.size, 0, none⟩) hxl).trans hx0, (HW3.out.cell (p := ⟨w.heap.size, 1, none⟩) hxl).trans hx1, HW3.out.size, HB.out.trans (HW3.out.mono hsz)⟩) (fun hHeld => ?_)
      clear hK K
      refine tk 11 hHeld ?_
      refine rd0 ?_
      clear hHeld
      go_wp2
      go_ret
      exact HY.out

set_option maxRecDepth 100000 in
set_option maxHeartbeats 3200000 in
theorem with_none (qc : Nat) (f : Nat → Int × Int) (a b : Int) (w : World) :
    Calls Try.prog 21 #[.slice none 0 qc, .agg #[.int .i64 a, .int .i64 b]] w (ResRow (fun m h => m = 0 + 1 ∧ ∃ p, PlaceP 0 f a p ∧ ∀ i, i < 0 + 1 → h i = insF f p (a, b) i) w) := by
  have H1 := Lib.hid (show ∀ W, PA W none 0 f from fun W i hi => absurd hi (Nat.not_lt_zero _))
  go_enter Try.func21, Try.ntmps21
  go_wp2_with fail
  refine (place_impl none 0 qc f a b _ (by omega) (H1.out _)).mono ?_
  intro e wr h
  obtain ⟨p, rfl, hp, hb⟩ := resPlace_elim h
  have HP := Lib.hid hp
  obtain rfl : p = 0 := by have := hp.1; omega
  have hb : Below (w.heap.size + 1) (w.alloc (.cells #[.int .i64 a, .int .i64 b] 25)) wr := by simpa using hb
  have HB := Lib.hid hb
  have ⟨hx0, hx1, hxl⟩ := box0 hb
  have hsz : w.heap.size + 1 ≤ wr.heap.size := hxl
  obtain ⟨v2, W2, hr2, hown2, hbel2, hg2, hat2⟩ := app_sp ((wr.drew).alloc (.cells #[.int .i64 a, .int .i64 b] 25)) (wr.heap.size + 1) 43 43 Try.underlying43 (RowO.nil _ _ _ 2 (pc f)) 1 (m := 1) one_row (by omega) (by simp)
  obtain ⟨a2, c2, rfl⟩ := hown2.isSlice
  have hr3 := app_none (P := Try.prog) (w := W2) (ty := 43) Try.underlying43 infoS.choose_spec.1 a2 none (0 + 1) c2 qc (rowO_cap_le hown2)
  have HR2 := Lib.hid hr2
  have HR3 := Lib.hid hr3
  have hlo2 : wr.heap.size + 1 ≤ W2.heap.size := by have := hbel2.size; simp at this; omega
  have hW2 : Below wr.heap.size wr W2 := ((Below.refl _ _).drew.alloc (Nat.le_refl _) _).trans (hbel2.mono (by simp))
  have HW2 := Lib.hid hW2
  have ⟨hy0, hy1, hyl⟩ := box0 (HB.out.trans (hW2.mono hsz))
  have HY := Lib.hid (show ResRow (fun m h => m = 0 + 1 ∧ ∃ p, PlaceP 0 f a p ∧ ∀ i, i < 0 + 1 → h i = insF f p (a, b) i) w (.returned (.slice a2 (0 + 1) c2)) W2 from
      ⟨_, 0 + 1, _, rfl, ⟨by omega, 0, HP.out, fun i hi => by obtain rfl : i = 0 := by omega
                                                              simp [app, insF]⟩, hown2.lower (by omega), (bel1 HB.out).trans (HW2.out.mono (by omega))⟩)
  clear hb h hp hr2 hown2 hbel2 hg2 hat2 hr3 hW2
  go_wp2_with fail
  refine wp_region_held_drew (S := (fun W => W.cell? ⟨w.heap.size, 0, none⟩ = some (.int .i64 a) ∧ W.cell? ⟨w.heap.size, 1, none⟩ = some (.int .i64 b) ∧ wr.heap.size ≤ W.heap.size ∧ Below (w.heap.size + 1) (w.alloc (.cells #[.int .i64 a, .int .i64 b] 25)) W)) (by kernel_rfl) (⟨hx0, hx1, Nat.le_refl _, HB.out.drew⟩) (fun hHeld => ?_)
  refine tk 0 hHeld ?_
  refine tk 1 hHeld ?_
  refine tk 2 hHeld ?_
  refine tk 3 hHeld ?_
  refine tk 4 hHeld ?_
  refine tk 7 hHeld ?_
  refine tk 8 hHeld ?_
  refine tk 9 hHeld ?_
  refine rd1 5 (fun K hK => ?_)
  go_simp
  refine hK.out _ _ (⟨(World.cell?_alloc_lt _ _ ⟨w.heap.size, 0, none⟩ hxl).trans hHeld.1, (World.cell?_alloc_lt _ _ ⟨w.heap.size, 1, none⟩ hxl).trans hHeld.2.1, Nat.le_trans hHeld.2.2.1 (by simp), hHeld.2.2.2.alloc (Nat.le_trans hsz hHeld.2.2.1) _⟩) (fun hHeld => ?_)
  clear hK K
  refine rd1 6 (fun K hK => ?_)
  refine step_app rfl (.tmp 12) (.tmp 14) 43 rfl rfl rfl HR2.out ?_
  refine hK.out _ _ (⟨hy0, hy1, HW2.out.size, HB.out.trans (HW2.out.mono hsz)⟩) (fun hHeld => ?_)
  clear hK K
  refine rd1 10 (fun K hK => ?_)
  refine step_app rfl (.tmp 15) (.tmp 18) 43 rfl rfl rfl HR3.out ?_
  refine hK.out _ _ (⟨(HW2.out.cell (p := ⟨w.heap.size, 0, none⟩) hxl).trans hx0, (HW2.out.cell (p := ⟨w.heap.size, 1, none⟩) hxl).trans hx1, HW2.out.size, HB.out.trans (HW2.out.mono hsz)⟩) (fun hHeld => ?_)
  clear hK K
  refine tk 11 hHeld ?_
  refine rd0 ?_
  clear hHeld
  go_wp2
  go_ret
  exact HY.out
theorem with_impl (qa : Option Addr) (n qc : Nat) (f : Nat → Int × Int) (a b : Int) (w : World) (hn : n ≤ 1048576) (h1 : PS w qa n qc f) :
    Calls Try.prog 21 #[.slice qa n qc, .agg #[.int .i64 a, .int .i64 b]] w (ResRow (fun m h => m = n + 1 ∧ ∃ p, PlaceP n f a p ∧ ∀ i, i < n + 1 → h i = insF f p (a, b) i) w) := by
  rcases h1 with ⟨rfl, rfl⟩ | ⟨g, o, rfl, l1, hnc, h1⟩
  · exact with_none qc f a b w
  · exact with_some g o n qc hnc f a b w hn h1 l1
end Go.Proofs.Ytphklknaagjmpaa.SpanC
