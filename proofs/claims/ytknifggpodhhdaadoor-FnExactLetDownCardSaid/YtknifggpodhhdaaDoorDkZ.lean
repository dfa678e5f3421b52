/- LetDown of the program, and both as the law wants them. -/
import Derived.Test.YtknifggpodhhdaaDoorDkW
import Derived.Test.YtknifggpodhhdaaDoorDkY
import Derived.Test.YtknifggpodhhdaaDoorDkV
namespace Go.Proofs.YtknifggpodhhdaaDoor.RepC
open SenC IsC Go.RowKit RowC ValC SpanC KeptC
set_option linter.unusedVariables false
set_option linter.unusedSimpArgs false

set_option maxRecDepth 100000 in
set_option maxHeartbeats 2000000 in
theorem letdown_impl {P B A : List D_Letter} {pa ba aa : Option Addr} {pc bc ac : Nat} {u n : Int} {f0 f1 t0 t1 z : Int} {W : World} {a1 a2 a3 a4 : Addr} (h : Sent W a1 a2 a3 a4) (hP : RdSl R_Letter W W.heap.size P pa pc) (hB : RdSl R_Letter W W.heap.size B ba bc) (hA : RdSl R_Letter W W.heap.size A aa ac) : Calls Tryd.prog 27 #[.agg #[.slice pa P.length pc, .slice ba B.length bc, .slice aa A.length ac, .int .i64 u, .int .i64 n], .agg #[.int .i64 f0, .int .i64 f1], .agg #[.int .i64 t0, .int .i64 t1], .int .i64 z] W (NewV R_DeskStep (letG (P, B, A, u, n) (f0, f1) (t0, t1) z) W) := by
  obtain ⟨hb0, hd0, hf0, ht0, hr0⟩ := bx4 W #[.slice pa P.length pc, .slice ba B.length bc, .slice aa A.length ac, .int .i64 u, .int .i64 n] #[.int .i64 f0, .int .i64 f1] #[.int .i64 t0, .int .i64 t1] #[.slice none 0 0, .slice none 0 0, .slice none 0 0, .int .i64 0, .int .i64 0, .int .i64 0] 42 24 24 46
  obtain ⟨w0, hw0⟩ : ∃ w, w = (((W.alloc (.cells #[.slice pa P.length pc, .slice ba B.length bc, .slice aa A.length ac, .int .i64 u, .int .i64 n] 42)).alloc (.cells #[.int .i64 f0, .int .i64 f1] 24)).alloc (.cells #[.int .i64 t0, .int .i64 t1] 24)).alloc (.cells #[.slice none 0 0, .slice none 0 0, .slice none 0 0, .int .i64 0, .int .i64 0, .int .i64 0] 46) := ⟨_, rfl⟩
  rw [← hw0] at hb0 hd0 hf0 ht0 hr0
  have HB0 := Lib.hid hb0
  have HR0 := Lib.hid hr0
  have HS0 := Lib.hid (h.mv hb0)
  have HPw := Lib.hid (gmvS hP hb0)
  have HBw := Lib.hid (gmvS hB hb0)
  have HAw := Lib.hid (gmvS hA hb0)
  have hz0 := hb0.size
  clear hb0 hd0 hf0 ht0 hr0 hP hB hA h
  obtain ⟨⟨⟨P', B', A', u', n'⟩, c'⟩, hG⟩ : ∃ r, letG (P, B, A, u, n) (f0, f1) (t0, t1) z = r := ⟨_, rfl⟩
  have HG := Lib.hid hG
  clear hG
  go_enter Tryd.func27, Tryd.ntmps27
  go_wp2_with fail
  rw [← hw0]
  clear hw0
  refine (letdown_tup HS0.out HPw.out HBw.out HAw.out).mono ?_
  intro e w1 h
  rw [HG.out] at h
  obtain ⟨us, err, rfl, hu, hb, hcase⟩ := h
  have HB1 := Lib.hid (HB0.out.trans (hb.mono hz0))
  have hz1 := HB1.out.size
  have HR1 := Lib.hid (HR0.out.call hb)
  have HS1 := Lib.hid (HS0.out.mv hb)
  have hlt1 := HR1.out.lt
  clear hb
  rcases hcase with ⟨hc, rfl⟩ | ⟨rfl, hcase⟩
  · obtain rfl : c' = 0 := hc
    obtain ⟨xa, xc, ya, yc, za, zc, rfl, hu⟩ := owc_Desk hu
    have HU := Lib.hid hu
    clear hu
    go_wp2_with fail
    refine (step_ok HU.out (fun k hk => hk.2)).mono ?_
    intro e w2 h
    obtain ⟨us, rfl, hu, hb⟩ := h
    obtain ⟨va, vc, ua, uc, ta, tc, rfl, hu⟩ := owc_DeskStep hu
    have HB2 := Lib.hid (HB1.out.trans (hb.mono hz1))
    have HR2 := Lib.hid (HR1.out.call hb)
    have qHR2_0 := HR2.out.at_ 0 rfl
    have qHR2_1 := HR2.out.at_ 1 rfl
    have qHR2_2 := HR2.out.at_ 2 rfl
    have qHR2_3 := HR2.out.at_ 3 rfl
    have qHR2_4 := HR2.out.at_ 4 rfl
    have qHR2_5 := HR2.out.at_ 5 rfl
    have sHR2_0 := HR2.out.soft 0
    have sHR2_1 := HR2.out.soft 1
    have sHR2_2 := HR2.out.soft 2
    have sHR2_3 := HR2.out.soft 3
    have sHR2_4 := HR2.out.soft 4
    have sHR2_5 := HR2.out.soft 5
    have HU2 := Lib.hid hu
    have hs2 := hb.size
    clear hu hb
    go_wp2
    refine bodyPost_ret (v := .agg #[.slice va P'.length vc, .slice ua B'.length uc, .slice ta A'.length tc, .int .i64 u', .int .i64 n', .int .i64 0]) (by simp [results, Tryd.results27, go_sem, *]) rfl ?_
    rw [HG.out]
    have hbb := ((((((HB2.out.setCell (p := ⟨W.heap.size + 1 + 1 + 1, 0, none⟩) (by show W.heap.size ≤ W.heap.size + 1 + 1 + 1; omega) (.slice va P'.length vc)).setCell (p := ⟨W.heap.size + 1 + 1 + 1, 1, none⟩) (by show W.heap.size ≤ W.heap.size + 1 + 1 + 1; omega) (.slice ua B'.length uc)).setCell (p := ⟨W.heap.size + 1 + 1 + 1, 2, none⟩) (by show W.heap.size ≤ W.heap.size + 1 + 1 + 1; omega) (.slice ta A'.length tc)).setCell (p := ⟨W.heap.size + 1 + 1 + 1, 3, none⟩) (by show W.heap.size ≤ W.heap.size + 1 + 1 + 1; omega) (.int .i64 u')).setCell (p := ⟨W.heap.size + 1 + 1 + 1, 4, none⟩) (by show W.heap.size ≤ W.heap.size + 1 + 1 + 1; omega) (.int .i64 n')).setCell (p := ⟨W.heap.size + 1 + 1 + 1, 5, none⟩) (by show W.heap.size ≤ W.heap.size + 1 + 1 + 1; omega) (.int .i64 0))
    have hoff := (((((((Off.refl (fun x => x = W.heap.size + 1 + 1 + 1) w2).setCell (p := ⟨W.heap.size + 1 + 1 + 1, 0, none⟩) (rfl) (.slice va P'.length vc)).setCell (p := ⟨W.heap.size + 1 + 1 + 1, 1, none⟩) (rfl) (.slice ua B'.length uc)).setCell (p := ⟨W.heap.size + 1 + 1 + 1, 2, none⟩) (rfl) (.slice ta A'.length tc)).setCell (p := ⟨W.heap.size + 1 + 1 + 1, 3, none⟩) (rfl) (.int .i64 u')).setCell (p := ⟨W.heap.size + 1 + 1 + 1, 4, none⟩) (rfl) (.int .i64 n')).setCell (p := ⟨W.heap.size + 1 + 1 + 1, 5, none⟩) (rfl) (.int .i64 0))
    exact ⟨_, rfl, ow_fin HU2.out hoff hs2 HR0.out.lt hz0, hbb⟩
  · rcases hcase with ⟨hr, rfl⟩ | ⟨hr, rfl⟩ | ⟨hr, rfl⟩ | ⟨hr, rfl⟩
    · have HG2 := Lib.hid (HG.out.trans hr)
      clear hr hu
      go_wp2_with fail
      refine (step_1 HS1.out).mono ?_
      intro e w2 h
      obtain ⟨us, rfl, hu, hb⟩ := newV_elim h
      obtain ⟨va, vc, ua, uc, ta, tc, rfl, hu⟩ := owc_DeskStep (L0 := []) (L1 := []) (L2 := []) (x3 := 0) (x4 := 0) (x5 := 1) hu
      have HB2 := Lib.hid (HB1.out.trans (hb.mono hz1))
      have HR2 := Lib.hid (HR1.out.call hb)
      have qHR2_0 := HR2.out.at_ 0 rfl
      have qHR2_1 := HR2.out.at_ 1 rfl
      have qHR2_2 := HR2.out.at_ 2 rfl
      have qHR2_3 := HR2.out.at_ 3 rfl
      have qHR2_4 := HR2.out.at_ 4 rfl
      have qHR2_5 := HR2.out.at_ 5 rfl
      have sHR2_0 := HR2.out.soft 0
      have sHR2_1 := HR2.out.soft 1
      have sHR2_2 := HR2.out.soft 2
      have sHR2_3 := HR2.out.soft 3
      have sHR2_4 := HR2.out.soft 4
      have sHR2_5 := HR2.out.soft 5
      have HU2 := Lib.hid hu
      clear hu hb h
      go_wp2
      refine bodyPost_ret (v := .agg #[.slice va 0 vc, .slice ua 0 uc, .slice ta 0 tc, .int .i64 0, .int .i64 0, .int .i64 1]) (by simp [results, Tryd.results27, go_sem, *]) rfl ?_
      rw [HG2.out]
      have hbb := ((((((HB2.out.setCell (p := ⟨W.heap.size + 1 + 1 + 1, 0, none⟩) (by show W.heap.size ≤ W.heap.size + 1 + 1 + 1; omega) (.slice va 0 vc)).setCell (p := ⟨W.heap.size + 1 + 1 + 1, 1, none⟩) (by show W.heap.size ≤ W.heap.size + 1 + 1 + 1; omega) (.slice ua 0 uc)).setCell (p := ⟨W.heap.size + 1 + 1 + 1, 2, none⟩) (by show W.heap.size ≤ W.heap.size + 1 + 1 + 1; omega) (.slice ta 0 tc)).setCell (p := ⟨W.heap.size + 1 + 1 + 1, 3, none⟩) (by show W.heap.size ≤ W.heap.size + 1 + 1 + 1; omega) (.int .i64 0)).setCell (p := ⟨W.heap.size + 1 + 1 + 1, 4, none⟩) (by show W.heap.size ≤ W.heap.size + 1 + 1 + 1; omega) (.int .i64 0)).setCell (p := ⟨W.heap.size + 1 + 1 + 1, 5, none⟩) (by show W.heap.size ≤ W.heap.size + 1 + 1 + 1; omega) (.int .i64 1))
      have hoff := (((((((Off.refl (fun x => x = W.heap.size + 1 + 1 + 1) w2).setCell (p := ⟨W.heap.size + 1 + 1 + 1, 0, none⟩) (rfl) (.slice va 0 vc)).setCell (p := ⟨W.heap.size + 1 + 1 + 1, 1, none⟩) (rfl) (.slice ua 0 uc)).setCell (p := ⟨W.heap.size + 1 + 1 + 1, 2, none⟩) (rfl) (.slice ta 0 tc)).setCell (p := ⟨W.heap.size + 1 + 1 + 1, 3, none⟩) (rfl) (.int .i64 0)).setCell (p := ⟨W.heap.size + 1 + 1 + 1, 4, none⟩) (rfl) (.int .i64 0)).setCell (p := ⟨W.heap.size + 1 + 1 + 1, 5, none⟩) (rfl) (.int .i64 1))
      exact ⟨_, rfl, ow_fin HU2.out hoff (Nat.le_refl _) HR1.out.lt hz1, hbb⟩
    · have HG2 := Lib.hid (HG.out.trans hr)
      clear hr hu
      go_wp2_with fail
      refine (step_2 HS1.out).mono ?_
      intro e w2 h
      obtain ⟨us, rfl, hu, hb⟩ := newV_elim h
      obtain ⟨va, vc, ua, uc, ta, tc, rfl, hu⟩ := owc_DeskStep (L0 := []) (L1 := []) (L2 := []) (x3 := 0) (x4 := 0) (x5 := 11) hu
      have HB2 := Lib.hid (HB1.out.trans (hb.mono hz1))
      have HR2 := Lib.hid (HR1.out.call hb)
      have qHR2_0 := HR2.out.at_ 0 rfl
      have qHR2_1 := HR2.out.at_ 1 rfl
      have qHR2_2 := HR2.out.at_ 2 rfl
      have qHR2_3 := HR2.out.at_ 3 rfl
      have qHR2_4 := HR2.out.at_ 4 rfl
      have qHR2_5 := HR2.out.at_ 5 rfl
      have sHR2_0 := HR2.out.soft 0
      have sHR2_1 := HR2.out.soft 1
      have sHR2_2 := HR2.out.soft 2
      have sHR2_3 := HR2.out.soft 3
      have sHR2_4 := HR2.out.soft 4
      have sHR2_5 := HR2.out.soft 5
      have HU2 := Lib.hid hu
      clear hu hb h
      go_wp2
      refine bodyPost_ret (v := .agg #[.slice va 0 vc, .slice ua 0 uc, .slice ta 0 tc, .int .i64 0, .int .i64 0, .int .i64 11]) (by simp [results, Tryd.results27, go_sem, *]) rfl ?_
      rw [HG2.out]
      have hbb := ((((((HB2.out.setCell (p := ⟨W.heap.size + 1 + 1 + 1, 0, none⟩) (by show W.heap.size ≤ W.heap.size + 1 + 1 + 1; omega) (.slice va 0 vc)).setCell (p := ⟨W.heap.size + 1 + 1 + 1, 1, none⟩) (by show W.heap.size ≤ W.heap.size + 1 + 1 + 1; omega) (.slice ua 0 uc)).setCell (p := ⟨W.heap.size + 1 + 1 + 1, 2, none⟩) (by show W.heap.size ≤ W.heap.size + 1 + 1 + 1; omega) (.slice ta 0 tc)).setCell (p := ⟨W.heap.size + 1 + 1 + 1, 3, none⟩) (by show W.heap.size ≤ W.heap.size + 1 + 1 + 1; omega) (.int .i64 0)).setCell (p := ⟨W.heap.size + 1 + 1 + 1, 4, none⟩) (by show W.heap.size ≤ W.heap.size + 1 + 1 + 1; omega) (.int .i64 0)).setCell (p := ⟨W.heap.size + 1 + 1 + 1, 5, none⟩) (by show W.heap.size ≤ W.heap.size + 1 + 1 + 1; omega) (.int .i64 11))
      have hoff := (((((((Off.refl (fun x => x = W.heap.size + 1 + 1 + 1) w2).setCell (p := ⟨W.heap.size + 1 + 1 + 1, 0, none⟩) (rfl) (.slice va 0 vc)).setCell (p := ⟨W.heap.size + 1 + 1 + 1, 1, none⟩) (rfl) (.slice ua 0 uc)).setCell (p := ⟨W.heap.size + 1 + 1 + 1, 2, none⟩) (rfl) (.slice ta 0 tc)).setCell (p := ⟨W.heap.size + 1 + 1 + 1, 3, none⟩) (rfl) (.int .i64 0)).setCell (p := ⟨W.heap.size + 1 + 1 + 1, 4, none⟩) (rfl) (.int .i64 0)).setCell (p := ⟨W.heap.size + 1 + 1 + 1, 5, none⟩) (rfl) (.int .i64 11))
      exact ⟨_, rfl, ow_fin HU2.out hoff (Nat.le_refl _) HR1.out.lt hz1, hbb⟩
    · have HG2 := Lib.hid (HG.out.trans hr)
      clear hr hu
      go_wp2_with fail
      refine (step_3 HS1.out).mono ?_
      intro e w2 h
      obtain ⟨us, rfl, hu, hb⟩ := newV_elim h
      obtain ⟨va, vc, ua, uc, ta, tc, rfl, hu⟩ := owc_DeskStep (L0 := []) (L1 := []) (L2 := []) (x3 := 0) (x4 := 0) (x5 := 8) hu
      have HB2 := Lib.hid (HB1.out.trans (hb.mono hz1))
      have HR2 := Lib.hid (HR1.out.call hb)
      have qHR2_0 := HR2.out.at_ 0 rfl
      have qHR2_1 := HR2.out.at_ 1 rfl
      have qHR2_2 := HR2.out.at_ 2 rfl
      have qHR2_3 := HR2.out.at_ 3 rfl
      have qHR2_4 := HR2.out.at_ 4 rfl
      have qHR2_5 := HR2.out.at_ 5 rfl
      have sHR2_0 := HR2.out.soft 0
      have sHR2_1 := HR2.out.soft 1
      have sHR2_2 := HR2.out.soft 2
      have sHR2_3 := HR2.out.soft 3
      have sHR2_4 := HR2.out.soft 4
      have sHR2_5 := HR2.out.soft 5
      have HU2 := Lib.hid hu
      clear hu hb h
      go_wp2
      refine bodyPost_ret (v := .agg #[.slice va 0 vc, .slice ua 0 uc, .slice ta 0 tc, .int .i64 0, .int .i64 0, .int .i64 8]) (by simp [results, Tryd.results27, go_sem, *]) rfl ?_
      rw [HG2.out]
      have hbb := ((((((HB2.out.setCell (p := ⟨W.heap.size + 1 + 1 + 1, 0, none⟩) (by show W.heap.size ≤ W.heap.size + 1 + 1 + 1; omega) (.slice va 0 vc)).setCell (p := ⟨W.heap.size + 1 + 1 + 1, 1, none⟩) (by show W.heap.size ≤ W.heap.size + 1 + 1 + 1; omega) (.slice ua 0 uc)).setCell (p := ⟨W.heap.size + 1 + 1 + 1, 2, none⟩) (by show W.heap.size ≤ W.heap.size + 1 + 1 + 1; omega) (.slice ta 0 tc)).setCell (p := ⟨W.heap.size + 1 + 1 + 1, 3, none⟩) (by show W.heap.size ≤ W.heap.size + 1 + 1 + 1; omega) (.int .i64 0)).setCell (p := ⟨W.heap.size + 1 + 1 + 1, 4, none⟩) (by show W.heap.size ≤ W.heap.size + 1 + 1 + 1; omega) (.int .i64 0)).setCell (p := ⟨W.heap.size + 1 + 1 + 1, 5, none⟩) (by show W.heap.size ≤ W.heap.size + 1 + 1 + 1; omega) (.int .i64 8))
      have hoff := (((((((Off.refl (fun x => x = W.heap.size + 1 + 1 + 1) w2).setCell (p := ⟨W.heap.size + 1 + 1 + 1, 0, none⟩) (rfl) (.slice va 0 vc)).setCell (p := ⟨W.heap.size + 1 + 1 + 1, 1, none⟩) (rfl) (.slice ua 0 uc)).setCell (p := ⟨W.heap.size + 1 + 1 + 1, 2, none⟩) (rfl) (.slice ta 0 tc)).setCell (p := ⟨W.heap.size + 1 + 1 + 1, 3, none⟩) (rfl) (.int .i64 0)).setCell (p := ⟨W.heap.size + 1 + 1 + 1, 4, none⟩) (rfl) (.int .i64 0)).setCell (p := ⟨W.heap.size + 1 + 1 + 1, 5, none⟩) (rfl) (.int .i64 8))
      exact ⟨_, rfl, ow_fin HU2.out hoff (Nat.le_refl _) HR1.out.lt hz1, hbb⟩
    · have HG2 := Lib.hid (HG.out.trans hr)
      clear hr hu
      go_wp2_with fail
      refine (step_4 HS1.out).mono ?_
      intro e w2 h
      obtain ⟨us, rfl, hu, hb⟩ := newV_elim h
      obtain ⟨va, vc, ua, uc, ta, tc, rfl, hu⟩ := owc_DeskStep (L0 := []) (L1 := []) (L2 := []) (x3 := 0) (x4 := 0) (x5 := 9) hu
      have HB2 := Lib.hid (HB1.out.trans (hb.mono hz1))
      have HR2 := Lib.hid (HR1.out.call hb)
      have qHR2_0 := HR2.out.at_ 0 rfl
      have qHR2_1 := HR2.out.at_ 1 rfl
      have qHR2_2 := HR2.out.at_ 2 rfl
      have qHR2_3 := HR2.out.at_ 3 rfl
      have qHR2_4 := HR2.out.at_ 4 rfl
      have qHR2_5 := HR2.out.at_ 5 rfl
      have sHR2_0 := HR2.out.soft 0
      have sHR2_1 := HR2.out.soft 1
      have sHR2_2 := HR2.out.soft 2
      have sHR2_3 := HR2.out.soft 3
      have sHR2_4 := HR2.out.soft 4
      have sHR2_5 := HR2.out.soft 5
      have HU2 := Lib.hid hu
      clear hu hb h
      go_wp2
      refine bodyPost_ret (v := .agg #[.slice va 0 vc, .slice ua 0 uc, .slice ta 0 tc, .int .i64 0, .int .i64 0, .int .i64 9]) (by simp [results, Tryd.results27, go_sem, *]) rfl ?_
      rw [HG2.out]
      have hbb := ((((((HB2.out.setCell (p := ⟨W.heap.size + 1 + 1 + 1, 0, none⟩) (by show W.heap.size ≤ W.heap.size + 1 + 1 + 1; omega) (.slice va 0 vc)).setCell (p := ⟨W.heap.size + 1 + 1 + 1, 1, none⟩) (by show W.heap.size ≤ W.heap.size + 1 + 1 + 1; omega) (.slice ua 0 uc)).setCell (p := ⟨W.heap.size + 1 + 1 + 1, 2, none⟩) (by show W.heap.size ≤ W.heap.size + 1 + 1 + 1; omega) (.slice ta 0 tc)).setCell (p := ⟨W.heap.size + 1 + 1 + 1, 3, none⟩) (by show W.heap.size ≤ W.heap.size + 1 + 1 + 1; omega) (.int .i64 0)).setCell (p := ⟨W.heap.size + 1 + 1 + 1, 4, none⟩) (by show W.heap.size ≤ W.heap.size + 1 + 1 + 1; omega) (.int .i64 0)).setCell (p := ⟨W.heap.size + 1 + 1 + 1, 5, none⟩) (by show W.heap.size ≤ W.heap.size + 1 + 1 + 1; omega) (.int .i64 9))
      have hoff := (((((((Off.refl (fun x => x = W.heap.size + 1 + 1 + 1) w2).setCell (p := ⟨W.heap.size + 1 + 1 + 1, 0, none⟩) (rfl) (.slice va 0 vc)).setCell (p := ⟨W.heap.size + 1 + 1 + 1, 1, none⟩) (rfl) (.slice ua 0 uc)).setCell (p := ⟨W.heap.size + 1 + 1 + 1, 2, none⟩) (rfl) (.slice ta 0 tc)).setCell (p := ⟨W.heap.size + 1 + 1 + 1, 3, none⟩) (rfl) (.int .i64 0)).setCell (p := ⟨W.heap.size + 1 + 1 + 1, 4, none⟩) (rfl) (.int .i64 0)).setCell (p := ⟨W.heap.size + 1 + 1 + 1, 5, none⟩) (rfl) (.int .i64 9))
      exact ⟨_, rfl, ow_fin HU2.out hoff (Nat.le_refl _) HR1.out.lt hz1, hbb⟩
theorem gletdown_spec {d : D_Desk} {cs : List Value} {f0 f1 t0 t1 z : Int} {W : World} (hsz : R_Desk.sz d ≤ 1048576) (h : R_Desk.rd W W.heap.size d cs) : Calls Tryd.prog 32 #[.agg cs.toArray, .agg #[.int .i64 f0, .int .i64 f1], .agg #[.int .i64 t0, .int .i64 t1], .int .i64 z] W (NewV R_DeskStep (letG d (f0, f1) (t0, t1) z) W) := by
  obtain ⟨P, B, A, u, n⟩ := d
  obtain ⟨a0, c0, a1, c1, a2, c2, rfl, k0, k1, k2⟩ := rd_Desk h
  rw [szd_Desk2] at hsz
  exact letdown_spec ⟨by omega, by omega, by omega⟩ k0 k1 k2
theorem gletdown_impl {d : D_Desk} {cs : List Value} {f0 f1 t0 t1 z : Int} {W : World} {a1 a2 a3 a4 : Addr} (hS : Sent W a1 a2 a3 a4) (h : R_Desk.rd W W.heap.size d cs) : Calls Tryd.prog 27 #[.agg cs.toArray, .agg #[.int .i64 f0, .int .i64 f1], .agg #[.int .i64 t0, .int .i64 t1], .int .i64 z] W (NewV R_DeskStep (letG d (f0, f1) (t0, t1) z) W) := by
  obtain ⟨P, B, A, u, n⟩ := d
  obtain ⟨a0, c0, a1, c1, a2, c2, rfl, k0, k1, k2⟩ := rd_Desk h
  exact letdown_impl hS k0 k1 k2
theorem let_small {d : D_Desk} {f t : D_Label} {z : Int} {R : D_DeskStep} (h : R_Desk.sz d ≤ 1048576) (hd : letG d f t z = R) : R_DeskStep.cv R ≤ 16777216 := by
  obtain ⟨P, B, A, u, n⟩ := d
  rw [szd_Desk2] at h
  have hz : ∀ c, R_DeskStep.cv (zeroD, c) ≤ 16777216 := fun c => by unfold zeroD; rw [cvd_DeskStep, cm_letters]; simp
  rw [← hd]
  unfold letG
  split
  · split
    · split
      · exact hz _
      · split
        · exact hz _
        · rw [cvd_DeskStep, cm_letters, cm_letters, cm_letters]
          simp only [List.length_append, List.length_singleton]
          omega
    · exact hz _
  · exact hz _
end Go.Proofs.YtknifggpodhhdaaDoor.RepC
