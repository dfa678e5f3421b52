/- LetDown of the program: contracts. -/
import Derived.Test.YtknifggpodhhdaaDoorDkW0
namespace Go.Proofs.YtknifggpodhhdaaDoor.RepC
open SenC IsC Go.RowKit RowC ValC SpanC KeptC
set_option linter.unusedVariables false
set_option linter.unusedSimpArgs false

set_option maxRecDepth 100000 in
set_option maxHeartbeats 8000000 in
theorem letdown_tup {P B A : List D_Letter} {pa ba aa : Option Addr} {pc bc ac : Nat} {u n : Int} {f0 f1 t0 t1 z : Int} {W : World} {a1 a2 a3 a4 : Addr} (h : Sent W a1 a2 a3 a4) (hP : RdSl R_Letter W W.heap.size P pa pc) (hB : RdSl R_Letter W W.heap.size B ba bc) (hA : RdSl R_Letter W W.heap.size A aa ac) : Calls Tryd.prog 64 #[.agg #[.slice pa P.length pc, .slice ba B.length bc, .slice aa A.length ac, .int .i64 u, .int .i64 n], .agg #[.int .i64 f0, .int .i64 f1], .agg #[.int .i64 t0, .int .i64 t1], .int .i64 z] W (TupR a1 a2 a3 a4 (letG (P, B, A, u, n) (f0, f1) (t0, t1) z) W) := by
  have hv1 := Nat.lt_succ_of_lt (Nat.lt_succ_of_lt (Nat.lt_succ_of_lt (World.block_lt_of_cell? W _ h.v1)))
  have hv2 := Nat.lt_succ_of_lt (Nat.lt_succ_of_lt (Nat.lt_succ_of_lt (World.block_lt_of_cell? W _ h.v2)))
  have hv3 := Nat.lt_succ_of_lt (Nat.lt_succ_of_lt (Nat.lt_succ_of_lt (World.block_lt_of_cell? W _ h.v3)))
  have hv4 := Nat.lt_succ_of_lt (Nat.lt_succ_of_lt (Nat.lt_succ_of_lt (World.block_lt_of_cell? W _ h.v4)))
  obtain ⟨hb0, hd0, hf0, ht0, hr0⟩ := bx4 W #[.slice pa P.length pc, .slice ba B.length bc, .slice aa A.length ac, .int .i64 u, .int .i64 n] #[.int .i64 f0, .int .i64 f1] #[.int .i64 t0, .int .i64 t1] #[.slice none 0 0, .slice none 0 0, .slice none 0 0, .int .i64 0, .int .i64 0] 42 24 24 42
  obtain ⟨w0, hw0⟩ : ∃ w, w = (((W.alloc (.cells #[.slice pa P.length pc, .slice ba B.length bc, .slice aa A.length ac, .int .i64 u, .int .i64 n] 42)).alloc (.cells #[.int .i64 f0, .int .i64 f1] 24)).alloc (.cells #[.int .i64 t0, .int .i64 t1] 24)).alloc (.cells #[.slice none 0 0, .slice none 0 0, .slice none 0 0, .int .i64 0, .int .i64 0] 42) := ⟨_, rfl⟩
  rw [← hw0] at hb0 hd0 hf0 ht0 hr0
  have HB := Lib.hid hb0
  have HR := Lib.hid hr0
  have HD := Lib.hid hd0
  have HF1 := Lib.hid hf0
  have HT1 := Lib.hid ht0
  have HS := Lib.hid (h.mv hb0)
  have HP0 := Lib.hid hP
  have HB0 := Lib.hid hB
  have HA0 := Lib.hid hA
  have HPw := Lib.hid (gmvS hP hb0)
  have HBw := Lib.hid (gmvS hB hb0)
  have HAw := Lib.hid (gmvS hA hb0)
  have hz0 := hb0.size
  clear hb0 hd0 hf0 ht0 hr0 hP hB hA h
  obtain ⟨q1, Q1⟩ := nameB (DeskR P B A u n)
  obtain ⟨q2, Q2⟩ : ∃ b, Hid (isB z 0 1000000 = b) := ⟨_, Lib.hid rfl⟩
  obtain ⟨q3, Q3⟩ := nameB (HasCh P (f0, f1) (t0, t1))
  go_enter Tryd.func64, Tryd.ntmps64
  go_wp2_with fail
  rw [← hw0]
  clear hw0
  refine ((box_impl HPw.out HBw.out HAw.out).mono (fun _ _ => resB_at Q1.out)).mono ?_
  rintro e w1 ⟨rfl, hb⟩
  have HB1 := Lib.hid (HB.out.trans (hb.mono hz0))
  have hz1 := HB1.out.size
  have HR := Lib.hid (HR.out.call hb)
  have HD := Lib.hid (HD.out.call hb)
  have HF1 := Lib.hid (HF1.out.call hb)
  have HT1 := Lib.hid (HT1.out.call hb)
  have HS := Lib.hid (HS.out.mv hb)
  replace HPw := Lib.hid (gmvS HPw.out hb)
  replace HBw := Lib.hid (gmvS HBw.out hb)
  replace HAw := Lib.hid (gmvS HAw.out hb)
  have d1_0 := HD.out.at_ 0 rfl
  have d1_1 := HD.out.at_ 1 rfl
  have d1_2 := HD.out.at_ 2 rfl
  have d1_3 := HD.out.at_ 3 rfl
  have d1_4 := HD.out.at_ 4 rfl
  have x1_0 := HF1.out.at_ 0 rfl
  have x1_1 := HF1.out.at_ 1 rfl
  have y1_0 := HT1.out.at_ 0 rfl
  have y1_1 := HT1.out.at_ 1 rfl
  clear hb
  cases q1 with
  | false =>
    have HG := Lib.hid (show letG (P, B, A, u, n) (f0, f1) (t0, t1) z = (zeroD, 1) from letG_no (fun h => by have := Q1.out.2 (boxB_iff.1 h.1); cases this))
    have v1 := HS.out.v1
    have HRd := Lib.hid (show Blk w1.drew (W.heap.size + 1 + 1 + 1) 42 #[.slice none 0 0, .slice none 0 0, .slice none 0 0, .int .i64 0, .int .i64 0] from HR.out)
    go_wp2_with fail
    refine wp_region_held_drew (S := (fun V => Below (W.heap.size + 1 + 1 + 1) w1 V)) (by kernel_rfl) ((Below.refl _ _).drew) (fun hHeld => ?_)
    obtain ⟨wd, hwd⟩ : ∃ w, w = w1.drew := ⟨_, rfl⟩
    rw [← hwd] at hHeld HRd
    rw [← hwd]
    clear hwd
    (refine wpAnyH_take (i := 0) (v := ?hv79) rfl (by kernel_rfl) (by kernel_rfl) (by kernel_rfl) (fun _ _ _ h => h) (Or.inl ⟨by kernel_rfl, ?hy79⟩) hHeld ?hr79; case hy79 => (intro w hSw; (try dsimp only at hSw); go_simp; try with_reducible rfl))
    simp only [Act.put, List.getElem_toArray, List.getElem_cons_succ, List.getElem_cons_zero, List.setIfInBounds_toArray, List.set_cons_zero, List.set_cons_succ]
    refine wpAnyH_ready (rs := [1, 2]) (by kernel_rfl) (by simp) ?_
    refine AllReadyH.cons rfl (fun K hK => ?_) (AllReadyH.cons rfl (fun K hK => ?_) (AllReadyH.nil))
    · skip
      have k0 := (hHeld.cell (p := ⟨1, 0, none⟩) hv1).trans v1
      go_simp
      refine hK.out _ _ hHeld (fun hHeld => ?_)
      clear k0
      clear hK K
      try simp only [Act.put, List.getElem_toArray, List.getElem_cons_succ, List.getElem_cons_zero, List.setIfInBounds_toArray, List.set_cons_zero, List.set_cons_succ]
      refine wpAnyH_ready (rs := [2]) (by kernel_rfl) (by simp) ?_
      refine AllReadyH.cons rfl (fun K hK => ?_) (AllReadyH.nil)
      have qHRd_0 := HRd.out.at_ 0 rfl
      have qHRd_1 := HRd.out.at_ 1 rfl
      have qHRd_2 := HRd.out.at_ 2 rfl
      have qHRd_3 := HRd.out.at_ 3 rfl
      have qHRd_4 := HRd.out.at_ 4 rfl
      have sHRd_0 := HRd.out.soft 0
      have sHRd_1 := HRd.out.soft 1
      have sHRd_2 := HRd.out.soft 2
      have sHRd_3 := HRd.out.soft 3
      have sHRd_4 := HRd.out.soft 4
      go_simp
      refine hK.out _ _ (((((hHeld.setCell (p := ⟨W.heap.size + 1 + 1 + 1, 0, none⟩) (Nat.le_refl _) (.slice none 0 0)).setCell (p := ⟨W.heap.size + 1 + 1 + 1, 1, none⟩) (Nat.le_refl _) (.slice none 0 0)).setCell (p := ⟨W.heap.size + 1 + 1 + 1, 2, none⟩) (Nat.le_refl _) (.slice none 0 0)).setCell (p := ⟨W.heap.size + 1 + 1 + 1, 3, none⟩) (Nat.le_refl _) (.int .i64 0)).setCell (p := ⟨W.heap.size + 1 + 1 + 1, 4, none⟩) (Nat.le_refl _) (.int .i64 0)) (fun hHeld => ?_)
      clear qHRd_0 sHRd_0 qHRd_1 sHRd_1 qHRd_2 sHRd_2 qHRd_3 sHRd_3 qHRd_4 sHRd_4
      clear hK K
      try simp only [Act.put, List.getElem_toArray, List.getElem_cons_succ, List.getElem_cons_zero, List.setIfInBounds_toArray, List.set_cons_zero, List.set_cons_succ]
      (refine wpAnyH_take (i := 3) (v := ?hv80) rfl (by kernel_rfl) (by kernel_rfl) (by kernel_rfl) (fun _ _ _ h => h) (Or.inl ⟨by kernel_rfl, ?hy80⟩) hHeld ?hr80; case hy80 => (intro w hSw; (try dsimp only at hSw); go_simp; try with_reducible rfl))
      simp only [Act.put, List.getElem_toArray, List.getElem_cons_succ, List.getElem_cons_zero, List.setIfInBounds_toArray, List.set_cons_zero, List.set_cons_succ]
      refine wpAnyH_done (by kernel_rfl) ?_ _
      have HF := Lib.hid hHeld
      clear hHeld
      have qHRd_0 := HRd.out.at_ 0 rfl
      have qHRd_1 := HRd.out.at_ 1 rfl
      have qHRd_2 := HRd.out.at_ 2 rfl
      have qHRd_3 := HRd.out.at_ 3 rfl
      have qHRd_4 := HRd.out.at_ 4 rfl
      go_wp2
      refine bodyPost_ret (v := .tuple #[.agg #[.slice none 0 0, .slice none 0 0, .slice none 0 0, .int .i64 0, .int .i64 0], .iface 166 (.pointer (some a1))]) (by simp [results, Tryd.results64, go_sem, *]) rfl ?_
      rw [HG.out]
      exact ⟨_, _, rfl, zero_ow, HB1.out.trans (HF.out.mono (by omega)), .inr ⟨rfl, .inl ⟨rfl, rfl⟩⟩⟩
    · skip
      have qHRd_0 := HRd.out.at_ 0 rfl
      have qHRd_1 := HRd.out.at_ 1 rfl
      have qHRd_2 := HRd.out.at_ 2 rfl
      have qHRd_3 := HRd.out.at_ 3 rfl
      have qHRd_4 := HRd.out.at_ 4 rfl
      have sHRd_0 := HRd.out.soft 0
      have sHRd_1 := HRd.out.soft 1
      have sHRd_2 := HRd.out.soft 2
      have sHRd_3 := HRd.out.soft 3
      have sHRd_4 := HRd.out.soft 4
      go_simp
      refine hK.out _ _ (((((hHeld.setCell (p := ⟨W.heap.size + 1 + 1 + 1, 0, none⟩) (Nat.le_refl _) (.slice none 0 0)).setCell (p := ⟨W.heap.size + 1 + 1 + 1, 1, none⟩) (Nat.le_refl _) (.slice none 0 0)).setCell (p := ⟨W.heap.size + 1 + 1 + 1, 2, none⟩) (Nat.le_refl _) (.slice none 0 0)).setCell (p := ⟨W.heap.size + 1 + 1 + 1, 3, none⟩) (Nat.le_refl _) (.int .i64 0)).setCell (p := ⟨W.heap.size + 1 + 1 + 1, 4, none⟩) (Nat.le_refl _) (.int .i64 0)) (fun hHeld => ?_)
      clear qHRd_0 sHRd_0 qHRd_1 sHRd_1 qHRd_2 sHRd_2 qHRd_3 sHRd_3 qHRd_4 sHRd_4
      clear hK K
      try simp only [Act.put, List.getElem_toArray, List.getElem_cons_succ, List.getElem_cons_zero, List.setIfInBounds_toArray, List.set_cons_zero, List.set_cons_succ]
      refine wpAnyH_ready (rs := [1]) (by kernel_rfl) (by simp) ?_
      refine AllReadyH.cons rfl (fun K hK => ?_) (AllReadyH.nil)
      have k0 := (hHeld.cell (p := ⟨1, 0, none⟩) hv1).trans v1
      go_simp
      refine hK.out _ _ hHeld (fun hHeld => ?_)
      clear k0
      clear hK K
      try simp only [Act.put, List.getElem_toArray, List.getElem_cons_succ, List.getElem_cons_zero, List.setIfInBounds_toArray, List.set_cons_zero, List.set_cons_succ]
      (refine wpAnyH_take (i := 3) (v := ?hv81) rfl (by kernel_rfl) (by kernel_rfl) (by kernel_rfl) (fun _ _ _ h => h) (Or.inl ⟨by kernel_rfl, ?hy81⟩) hHeld ?hr81; case hy81 => (intro w hSw; (try dsimp only at hSw); go_simp; try with_reducible rfl))
      simp only [Act.put, List.getElem_toArray, List.getElem_cons_succ, List.getElem_cons_zero, List.setIfInBounds_toArray, List.set_cons_zero, List.set_cons_succ]
      refine wpAnyH_done (by kernel_rfl) ?_ _
      have HF := Lib.hid hHeld
      clear hHeld
      have qHRd_0 := HRd.out.at_ 0 rfl
      have qHRd_1 := HRd.out.at_ 1 rfl
      have qHRd_2 := HRd.out.at_ 2 rfl
      have qHRd_3 := HRd.out.at_ 3 rfl
      have qHRd_4 := HRd.out.at_ 4 rfl
      go_wp2
      refine bodyPost_ret (v := .tuple #[.agg #[.slice none 0 0, .slice none 0 0, .slice none 0 0, .int .i64 0, .int .i64 0], .iface 166 (.pointer (some a1))]) (by simp [results, Tryd.results64, go_sem, *]) rfl ?_
      rw [HG.out]
      exact ⟨_, _, rfl, zero_ow, HB1.out.trans (HF.out.mono (by omega)), .inr ⟨rfl, .inl ⟨rfl, rfl⟩⟩⟩
  | true =>
    go_wp2_with fail
    refine (word_at z Q2.out _).mono ?_
    rintro e w2 ⟨rfl, hb⟩
    have HB2 := Lib.hid (HB1.out.trans (hb.mono hz1))
    have hz2 := HB2.out.size
    have HR := Lib.hid (HR.out.call hb)
    have HD := Lib.hid (HD.out.call hb)
    have HF1 := Lib.hid (HF1.out.call hb)
    have HT1 := Lib.hid (HT1.out.call hb)
    have HS := Lib.hid (HS.out.mv hb)
    replace HPw := Lib.hid (gmvS HPw.out hb)
    replace HBw := Lib.hid (gmvS HBw.out hb)
    replace HAw := Lib.hid (gmvS HAw.out hb)
    have d2_0 := HD.out.at_ 0 rfl
    have d2_1 := HD.out.at_ 1 rfl
    have d2_2 := HD.out.at_ 2 rfl
    have d2_3 := HD.out.at_ 3 rfl
    have d2_4 := HD.out.at_ 4 rfl
    have x2_0 := HF1.out.at_ 0 rfl
    have x2_1 := HF1.out.at_ 1 rfl
    have y2_0 := HT1.out.at_ 0 rfl
    have y2_1 := HT1.out.at_ 1 rfl
    clear hb
    cases q2 with
    | false =>
      have HG := Lib.hid (show letG (P, B, A, u, n) (f0, f1) (t0, t1) z = (zeroD, 1) from letG_no (fun h => by have h2 := h.2; rw [Q2.out] at h2; cases h2))
      have v1 := HS.out.v1
      have HRd := Lib.hid (show Blk w2.drew (W.heap.size + 1 + 1 + 1) 42 #[.slice none 0 0, .slice none 0 0, .slice none 0 0, .int .i64 0, .int .i64 0] from HR.out)
      go_wp2_with fail
      refine wp_region_held_drew (S := (fun V => Below (W.heap.size + 1 + 1 + 1) w2 V)) (by kernel_rfl) ((Below.refl _ _).drew) (fun hHeld => ?_)
      obtain ⟨wd, hwd⟩ : ∃ w, w = w2.drew := ⟨_, rfl⟩
      rw [← hwd] at hHeld HRd
      rw [← hwd]
      clear hwd
      (refine wpAnyH_take (i := 0) (v := ?hv82) rfl (by kernel_rfl) (by kernel_rfl) (by kernel_rfl) (fun _ _ _ h => h) (Or.inl ⟨by kernel_rfl, ?hy82⟩) hHeld ?hr82; case hy82 => (intro w hSw; (try dsimp only at hSw); go_simp; try with_reducible rfl))
      simp only [Act.put, List.getElem_toArray, List.getElem_cons_succ, List.getElem_cons_zero, List.setIfInBounds_toArray, List.set_cons_zero, List.set_cons_succ]
      refine wpAnyH_ready (rs := [1, 2]) (by kernel_rfl) (by simp) ?_
      refine AllReadyH.cons rfl (fun K hK => ?_) (AllReadyH.cons rfl (fun K hK => ?_) (AllReadyH.nil))
      · skip
        have k0 := (hHeld.cell (p := ⟨1, 0, none⟩) hv1).trans v1
        go_simp
        refine hK.out _ _ hHeld (fun hHeld => ?_)
        clear k0
        clear hK K
        try simp only [Act.put, List.getElem_toArray, List.getElem_cons_succ, List.getElem_cons_zero, List.setIfInBounds_toArray, List.set_cons_zero, List.set_cons_succ]
        refine wpAnyH_ready (rs := [2]) (by kernel_rfl) (by simp) ?_
        refine AllReadyH.cons rfl (fun K hK => ?_) (AllReadyH.nil)
        have qHRd_0 := HRd.out.at_ 0 rfl
        have qHRd_1 := HRd.out.at_ 1 rfl
        have qHRd_2 := HRd.out.at_ 2 rfl
        have qHRd_3 := HRd.out.at_ 3 rfl
        have qHRd_4 := HRd.out.at_ 4 rfl
        have sHRd_0 := HRd.out.soft 0
        have sHRd_1 := HRd.out.soft 1
        have sHRd_2 := HRd.out.soft 2
        have sHRd_3 := HRd.out.soft 3
        have sHRd_4 := HRd.out.soft 4
        go_simp
        refine hK.out _ _ (((((hHeld.setCell (p := ⟨W.heap.size + 1 + 1 + 1, 0, none⟩) (Nat.le_refl _) (.slice none 0 0)).setCell (p := ⟨W.heap.size + 1 + 1 + 1, 1, none⟩) (Nat.le_refl _) (.slice none 0 0)).setCell (p := ⟨W.heap.size + 1 + 1 + 1, 2, none⟩) (Nat.le_refl _) (.slice none 0 0)).setCell (p := ⟨W.heap.size + 1 + 1 + 1, 3, none⟩) (Nat.le_refl _) (.int .i64 0)).setCell (p := ⟨W.heap.size + 1 + 1 + 1, 4, none⟩) (Nat.le_refl _) (.int .i64 0)) (fun hHeld => ?_)
        clear qHRd_0 sHRd_0 qHRd_1 sHRd_1 qHRd_2 sHRd_2 qHRd_3 sHRd_3 qHRd_4 sHRd_4
        clear hK K
        try simp only [Act.put, List.getElem_toArray, List.getElem_cons_succ, List.getElem_cons_zero, List.setIfInBounds_toArray, List.set_cons_zero, List.set_cons_succ]
        (refine wpAnyH_take (i := 3) (v := ?hv83) rfl (by kernel_rfl) (by kernel_rfl) (by kernel_rfl) (fun _ _ _ h => h) (Or.inl ⟨by kernel_rfl, ?hy83⟩) hHeld ?hr83; case hy83 => (intro w hSw; (try dsimp only at hSw); go_simp; try with_reducible rfl))
        simp only [Act.put, List.getElem_toArray, List.getElem_cons_succ, List.getElem_cons_zero, List.setIfInBounds_toArray, List.set_cons_zero, List.set_cons_succ]
        refine wpAnyH_done (by kernel_rfl) ?_ _
        have HF := Lib.hid hHeld
        clear hHeld
        have qHRd_0 := HRd.out.at_ 0 rfl
        have qHRd_1 := HRd.out.at_ 1 rfl
        have qHRd_2 := HRd.out.at_ 2 rfl
        have qHRd_3 := HRd.out.at_ 3 rfl
        have qHRd_4 := HRd.out.at_ 4 rfl
        go_wp2
        refine bodyPost_ret (v := .tuple #[.agg #[.slice none 0 0, .slice none 0 0, .slice none 0 0, .int .i64 0, .int .i64 0], .iface 166 (.pointer (some a1))]) (by simp [results, Tryd.results64, go_sem, *]) rfl ?_
        rw [HG.out]
        exact ⟨_, _, rfl, zero_ow, HB2.out.trans (HF.out.mono (by omega)), .inr ⟨rfl, .inl ⟨rfl, rfl⟩⟩⟩
      · skip
        have qHRd_0 := HRd.out.at_ 0 rfl
        have qHRd_1 := HRd.out.at_ 1 rfl
        have qHRd_2 := HRd.out.at_ 2 rfl
        have qHRd_3 := HRd.out.at_ 3 rfl
        have qHRd_4 := HRd.out.at_ 4 rfl
        have sHRd_0 := HRd.out.soft 0
        have sHRd_1 := HRd.out.soft 1
        have sHRd_2 := HRd.out.soft 2
        have sHRd_3 := HRd.out.soft 3
        have sHRd_4 := HRd.out.soft 4
        go_simp
        refine hK.out _ _ (((((hHeld.setCell (p := ⟨W.heap.size + 1 + 1 + 1, 0, none⟩) (Nat.le_refl _) (.slice none 0 0)).setCell (p := ⟨W.heap.size + 1 + 1 + 1, 1, none⟩) (Nat.le_refl _) (.slice none 0 0)).setCell (p := ⟨W.heap.size + 1 + 1 + 1, 2, none⟩) (Nat.le_refl _) (.slice none 0 0)).setCell (p := ⟨W.heap.size + 1 + 1 + 1, 3, none⟩) (Nat.le_refl _) (.int .i64 0)).setCell (p := ⟨W.heap.size + 1 + 1 + 1, 4, none⟩) (Nat.le_refl _) (.int .i64 0)) (fun hHeld => ?_)
        clear qHRd_0 sHRd_0 qHRd_1 sHRd_1 qHRd_2 sHRd_2 qHRd_3 sHRd_3 qHRd_4 sHRd_4
        clear hK K
        try simp only [Act.put, List.getElem_toArray, List.getElem_cons_succ, List.getElem_cons_zero, List.setIfInBounds_toArray, List.set_cons_zero, List.set_cons_succ]
        refine wpAnyH_ready (rs := [1]) (by kernel_rfl) (by simp) ?_
        refine AllReadyH.cons rfl (fun K hK => ?_) (AllReadyH.nil)
        have k0 := (hHeld.cell (p := ⟨1, 0, none⟩) hv1).trans v1
        go_simp
        refine hK.out _ _ hHeld (fun hHeld => ?_)
        clear k0
        clear hK K
        try simp only [Act.put, List.getElem_toArray, List.getElem_cons_succ, List.getElem_cons_zero, List.setIfInBounds_toArray, List.set_cons_zero, List.set_cons_succ]
        (refine wpAnyH_take (i := 3) (v := ?hv84) rfl (by kernel_rfl) (by kernel_rfl) (by kernel_rfl) (fun _ _ _ h => h) (Or.inl ⟨by kernel_rfl, ?hy84⟩) hHeld ?hr84; case hy84 => (intro w hSw; (try dsimp only at hSw); go_simp; try with_reducible rfl))
        simp only [Act.put, List.getElem_toArray, List.getElem_cons_succ, List.getElem_cons_zero, List.setIfInBounds_toArray, List.set_cons_zero, List.set_cons_succ]
        refine wpAnyH_done (by kernel_rfl) ?_ _
        have HF := Lib.hid hHeld
        clear hHeld
        have qHRd_0 := HRd.out.at_ 0 rfl
        have qHRd_1 := HRd.out.at_ 1 rfl
        have qHRd_2 := HRd.out.at_ 2 rfl
        have qHRd_3 := HRd.out.at_ 3 rfl
        have qHRd_4 := HRd.out.at_ 4 rfl
        go_wp2
        refine bodyPost_ret (v := .tuple #[.agg #[.slice none 0 0, .slice none 0 0, .slice none 0 0, .int .i64 0, .int .i64 0], .iface 166 (.pointer (some a1))]) (by simp [results, Tryd.results64, go_sem, *]) rfl ?_
        rw [HG.out]
        exact ⟨_, _, rfl, zero_ow, HB2.out.trans (HF.out.mono (by omega)), .inr ⟨rfl, .inl ⟨rfl, rfl⟩⟩⟩
    | true =>
      have HY := Lib.hid (Q1.out.1 (by first | rfl | trivial))
      have hYP : boxB (P, B, A, u, n) = true ∧ isB z 0 1000000 = true := ⟨boxB_iff.2 HY.out, Q2.out⟩
      have HYP := Lib.hid hYP
      clear hYP
      have hP4 : P.length ≤ 4 := HY.out.1.1
      have hB6 : B.length ≤ 6 := by have := HY.out.2.2.1.1; omega
      have hA20 : A.length ≤ 20 := by have := HY.out.2.2.2.1.1; omega
      have hur := HY.out.2.2.2.2.1
      simp only [isB, Bool.and_eq_true, decide_eq_true_iff] at hur
      go_wp2_with fail
      refine (chan_impl hP4 HPw.out Q3.out).mono ?_
      rintro e w3 ⟨rfl, hb⟩
      have HB3 := Lib.hid (HB2.out.trans (hb.mono hz2))
      have hz3 := HB3.out.size
      have HR := Lib.hid (HR.out.call hb)
      have HD := Lib.hid (HD.out.call hb)
      have HF1 := Lib.hid (HF1.out.call hb)
      have HT1 := Lib.hid (HT1.out.call hb)
      have HS := Lib.hid (HS.out.mv hb)
      replace HPw := Lib.hid (gmvS HPw.out hb)
      replace HBw := Lib.hid (gmvS HBw.out hb)
      replace HAw := Lib.hid (gmvS HAw.out hb)
      have d3_0 := HD.out.at_ 0 rfl
      have d3_1 := HD.out.at_ 1 rfl
      have d3_2 := HD.out.at_ 2 rfl
      have d3_3 := HD.out.at_ 3 rfl
      have d3_4 := HD.out.at_ 4 rfl
      have x3_0 := HF1.out.at_ 0 rfl
      have x3_1 := HF1.out.at_ 1 rfl
      have y3_0 := HT1.out.at_ 0 rfl
      have y3_1 := HT1.out.at_ 1 rfl
      clear hb
      cases q3 with
      | false =>
        have HG := Lib.hid (show letG (P, B, A, u, n) (f0, f1) (t0, t1) z = (zeroD, 11) from letG_label HYP.out (fun h => by have := Q3.out.2 h; cases this))
        have v2 := HS.out.v2
        have HRd := Lib.hid (show Blk w3.drew (W.heap.size + 1 + 1 + 1) 42 #[.slice none 0 0, .slice none 0 0, .slice none 0 0, .int .i64 0, .int .i64 0] from HR.out)
        go_wp2_with fail
        refine wp_region_held_drew (S := (fun V => Below (W.heap.size + 1 + 1 + 1) w3 V)) (by kernel_rfl) ((Below.refl _ _).drew) (fun hHeld => ?_)
        obtain ⟨wd, hwd⟩ : ∃ w, w = w3.drew := ⟨_, rfl⟩
        rw [← hwd] at hHeld HRd
        rw [← hwd]
        clear hwd
        (refine wpAnyH_take (i := 0) (v := ?hv85) rfl (by kernel_rfl) (by kernel_rfl) (by kernel_rfl) (fun _ _ _ h => h) (Or.inl ⟨by kernel_rfl, ?hy85⟩) hHeld ?hr85; case hy85 => (intro w hSw; (try dsimp only at hSw); go_simp; try with_reducible rfl))
        simp only [Act.put, List.getElem_toArray, List.getElem_cons_succ, List.getElem_cons_zero, List.setIfInBounds_toArray, List.set_cons_zero, List.set_cons_succ]
        refine wpAnyH_ready (rs := [1, 2]) (by kernel_rfl) (by simp) ?_
        refine AllReadyH.cons rfl (fun K hK => ?_) (AllReadyH.cons rfl (fun K hK => ?_) (AllReadyH.nil))
        · skip
          have k0 := (hHeld.cell (p := ⟨2, 0, none⟩) hv2).trans v2
          go_simp
          refine hK.out _ _ hHeld (fun hHeld => ?_)
          clear k0
          clear hK K
          try simp only [Act.put, List.getElem_toArray, List.getElem_cons_succ, List.getElem_cons_zero, List.setIfInBounds_toArray, List.set_cons_zero, List.set_cons_succ]
          refine wpAnyH_ready (rs := [2]) (by kernel_rfl) (by simp) ?_
          refine AllReadyH.cons rfl (fun K hK => ?_) (AllReadyH.nil)
          have qHRd_0 := HRd.out.at_ 0 rfl
          have qHRd_1 := HRd.out.at_ 1 rfl
          have qHRd_2 := HRd.out.at_ 2 rfl
          have qHRd_3 := HRd.out.at_ 3 rfl
          have qHRd_4 := HRd.out.at_ 4 rfl
          have sHRd_0 := HRd.out.soft 0
          have sHRd_1 := HRd.out.soft 1
          have sHRd_2 := HRd.out.soft 2
          have sHRd_3 := HRd.out.soft 3
          have sHRd_4 := HRd.out.soft 4
          go_simp
          refine hK.out _ _ (((((hHeld.setCell (p := ⟨W.heap.size + 1 + 1 + 1, 0, none⟩) (Nat.le_refl _) (.slice none 0 0)).setCell (p := ⟨W.heap.size + 1 + 1 + 1, 1, none⟩) (Nat.le_refl _) (.slice none 0 0)).setCell (p := ⟨W.heap.size + 1 + 1 + 1, 2, none⟩) (Nat.le_refl _) (.slice none 0 0)).setCell (p := ⟨W.heap.size + 1 + 1 + 1, 3, none⟩) (Nat.le_refl _) (.int .i64 0)).setCell (p := ⟨W.heap.size + 1 + 1 + 1, 4, none⟩) (Nat.le_refl _) (.int .i64 0)) (fun hHeld => ?_)
          clear qHRd_0 sHRd_0 qHRd_1 sHRd_1 qHRd_2 sHRd_2 qHRd_3 sHRd_3 qHRd_4 sHRd_4
          clear hK K
          try simp only [Act.put, List.getElem_toArray, List.getElem_cons_succ, List.getElem_cons_zero, List.setIfInBounds_toArray, List.set_cons_zero, List.set_cons_succ]
          (refine wpAnyH_take (i := 3) (v := ?hv86) rfl (by kernel_rfl) (by kernel_rfl) (by kernel_rfl) (fun _ _ _ h => h) (Or.inl ⟨by kernel_rfl, ?hy86⟩) hHeld ?hr86; case hy86 => (intro w hSw; (try dsimp only at hSw); go_simp; try with_reducible rfl))
          simp only [Act.put, List.getElem_toArray, List.getElem_cons_succ, List.getElem_cons_zero, List.setIfInBounds_toArray, List.set_cons_zero, List.set_cons_succ]
          refine wpAnyH_done (by kernel_rfl) ?_ _
          have HF := Lib.hid hHeld
          clear hHeld
          have qHRd_0 := HRd.out.at_ 0 rfl
          have qHRd_1 := HRd.out.at_ 1 rfl
          have qHRd_2 := HRd.out.at_ 2 rfl
          have qHRd_3 := HRd.out.at_ 3 rfl
          have qHRd_4 := HRd.out.at_ 4 rfl
          go_wp2
          refine bodyPost_ret (v := .tuple #[.agg #[.slice none 0 0, .slice none 0 0, .slice none 0 0, .int .i64 0, .int .i64 0], .iface 166 (.pointer (some a2))]) (by simp [results, Tryd.results64, go_sem, *]) rfl ?_
          rw [HG.out]
          exact ⟨_, _, rfl, zero_ow, HB3.out.trans (HF.out.mono (by omega)), .inr ⟨rfl, .inr (.inl ⟨rfl, rfl⟩)⟩⟩
        · skip
          have qHRd_0 := HRd.out.at_ 0 rfl
          have qHRd_1 := HRd.out.at_ 1 rfl
          have qHRd_2 := HRd.out.at_ 2 rfl
          have qHRd_3 := HRd.out.at_ 3 rfl
          have qHRd_4 := HRd.out.at_ 4 rfl
          have sHRd_0 := HRd.out.soft 0
          have sHRd_1 := HRd.out.soft 1
          have sHRd_2 := HRd.out.soft 2
          have sHRd_3 := HRd.out.soft 3
          have sHRd_4 := HRd.out.soft 4
          go_simp
          refine hK.out _ _ (((((hHeld.setCell (p := ⟨W.heap.size + 1 + 1 + 1, 0, none⟩) (Nat.le_refl _) (.slice none 0 0)).setCell (p := ⟨W.heap.size + 1 + 1 + 1, 1, none⟩) (Nat.le_refl _) (.slice none 0 0)).setCell (p := ⟨W.heap.size + 1 + 1 + 1, 2, none⟩) (Nat.le_refl _) (.slice none 0 0)).setCell (p := ⟨W.heap.size + 1 + 1 + 1, 3, none⟩) (Nat.le_refl _) (.int .i64 0)).setCell (p := ⟨W.heap.size + 1 + 1 + 1, 4, none⟩) (Nat.le_refl _) (.int .i64 0)) (fun hHeld => ?_)
          clear qHRd_0 sHRd_0 qHRd_1 sHRd_1 qHRd_2 sHRd_2 qHRd_3 sHRd_3 qHRd_4 sHRd_4
          clear hK K
          try simp only [Act.put, List.getElem_toArray, List.getElem_cons_succ, List.getElem_cons_zero, List.setIfInBounds_toArray, List.set_cons_zero, List.set_cons_succ]
          refine wpAnyH_ready (rs := [1]) (by kernel_rfl) (by simp) ?_
          refine AllReadyH.cons rfl (fun K hK => ?_) (AllReadyH.nil)
          have k0 := (hHeld.cell (p := ⟨2, 0, none⟩) hv2).trans v2
          go_simp
          refine hK.out _ _ hHeld (fun hHeld => ?_)
          clear k0
          clear hK K
          try simp only [Act.put, List.getElem_toArray, List.getElem_cons_succ, List.getElem_cons_zero, List.setIfInBounds_toArray, List.set_cons_zero, List.set_cons_succ]
          (refine wpAnyH_take (i := 3) (v := ?hv87) rfl (by kernel_rfl) (by kernel_rfl) (by kernel_rfl) (fun _ _ _ h => h) (Or.inl ⟨by kernel_rfl, ?hy87⟩) hHeld ?hr87; case hy87 => (intro w hSw; (try dsimp only at hSw); go_simp; try with_reducible rfl))
          simp only [Act.put, List.getElem_toArray, List.getElem_cons_succ, List.getElem_cons_zero, List.setIfInBounds_toArray, List.set_cons_zero, List.set_cons_succ]
          refine wpAnyH_done (by kernel_rfl) ?_ _
          have HF := Lib.hid hHeld
          clear hHeld
          have qHRd_0 := HRd.out.at_ 0 rfl
          have qHRd_1 := HRd.out.at_ 1 rfl
          have qHRd_2 := HRd.out.at_ 2 rfl
          have qHRd_3 := HRd.out.at_ 3 rfl
          have qHRd_4 := HRd.out.at_ 4 rfl
          go_wp2
          refine bodyPost_ret (v := .tuple #[.agg #[.slice none 0 0, .slice none 0 0, .slice none 0 0, .int .i64 0, .int .i64 0], .iface 166 (.pointer (some a2))]) (by simp [results, Tryd.results64, go_sem, *]) rfl ?_
          rw [HG.out]
          exact ⟨_, _, rfl, zero_ow, HB3.out.trans (HF.out.mono (by omega)), .inr ⟨rfl, .inr (.inl ⟨rfl, rfl⟩)⟩⟩
      | true =>
        have HC := Lib.hid (Q3.out.1 (by first | rfl | trivial))
        by_cases hu : u = 2
        · have hbe : (u == 2) = true := beq_iff_eq.2 hu
          have HG := Lib.hid (show letG (P, B, A, u, n) (f0, f1) (t0, t1) z = (zeroD, 8) from letG_range HYP.out HC.out hu)
          have v3 := HS.out.v3
          have HRd := Lib.hid (show Blk w3.drew (W.heap.size + 1 + 1 + 1) 42 #[.slice none 0 0, .slice none 0 0, .slice none 0 0, .int .i64 0, .int .i64 0] from HR.out)
          go_wp2_with fail
          refine wp_region_held_drew (S := (fun V => Below (W.heap.size + 1 + 1 + 1) w3 V)) (by kernel_rfl) ((Below.refl _ _).drew) (fun hHeld => ?_)
          obtain ⟨wd, hwd⟩ : ∃ w, w = w3.drew := ⟨_, rfl⟩
          rw [← hwd] at hHeld HRd
          rw [← hwd]
          clear hwd
          (refine wpAnyH_take (i := 0) (v := ?hv88) rfl (by kernel_rfl) (by kernel_rfl) (by kernel_rfl) (fun _ _ _ h => h) (Or.inl ⟨by kernel_rfl, ?hy88⟩) hHeld ?hr88; case hy88 => (intro w hSw; (try dsimp only at hSw); go_simp; try with_reducible rfl))
          simp only [Act.put, List.getElem_toArray, List.getElem_cons_succ, List.getElem_cons_zero, List.setIfInBounds_toArray, List.set_cons_zero, List.set_cons_succ]
          refine wpAnyH_ready (rs := [1, 2]) (by kernel_rfl) (by simp) ?_
          refine AllReadyH.cons rfl (fun K hK => ?_) (AllReadyH.cons rfl (fun K hK => ?_) (AllReadyH.nil))
          · skip
            have k0 := (hHeld.cell (p := ⟨3, 0, none⟩) hv3).trans v3
            go_simp
            refine hK.out _ _ hHeld (fun hHeld => ?_)
            clear k0
            clear hK K
            try simp only [Act.put, List.getElem_toArray, List.getElem_cons_succ, List.getElem_cons_zero, List.setIfInBounds_toArray, List.set_cons_zero, List.set_cons_succ]
            refine wpAnyH_ready (rs := [2]) (by kernel_rfl) (by simp) ?_
            refine AllReadyH.cons rfl (fun K hK => ?_) (AllReadyH.nil)
            have qHRd_0 := HRd.out.at_ 0 rfl
            have qHRd_1 := HRd.out.at_ 1 rfl
            have qHRd_2 := HRd.out.at_ 2 rfl
            have qHRd_3 := HRd.out.at_ 3 rfl
            have qHRd_4 := HRd.out.at_ 4 rfl
            have sHRd_0 := HRd.out.soft 0
            have sHRd_1 := HRd.out.soft 1
            have sHRd_2 := HRd.out.soft 2
            have sHRd_3 := HRd.out.soft 3
            have sHRd_4 := HRd.out.soft 4
            go_simp
            refine hK.out _ _ (((((hHeld.setCell (p := ⟨W.heap.size + 1 + 1 + 1, 0, none⟩) (Nat.le_refl _) (.slice none 0 0)).setCell (p := ⟨W.heap.size + 1 + 1 + 1, 1, none⟩) (Nat.le_refl _) (.slice none 0 0)).setCell (p := ⟨W.heap.size + 1 + 1 + 1, 2, none⟩) (Nat.le_refl _) (.slice none 0 0)).setCell (p := ⟨W.heap.size + 1 + 1 + 1, 3, none⟩) (Nat.le_refl _) (.int .i64 0)).setCell (p := ⟨W.heap.size + 1 + 1 + 1, 4, none⟩) (Nat.le_refl _) (.int .i64 0)) (fun hHeld => ?_)
            clear qHRd_0 sHRd_0 qHRd_1 sHRd_1 qHRd_2 sHRd_2 qHRd_3 sHRd_3 qHRd_4 sHRd_4
            clear hK K
            try simp only [Act.put, List.getElem_toArray, List.getElem_cons_succ, List.getElem_cons_zero, List.setIfInBounds_toArray, List.set_cons_zero, List.set_cons_succ]
            (refine wpAnyH_take (i := 3) (v := ?hv89) rfl (by kernel_rfl) (by kernel_rfl) (by kernel_rfl) (fun _ _ _ h => h) (Or.inl ⟨by kernel_rfl, ?hy89⟩) hHeld ?hr89; case hy89 => (intro w hSw; (try dsimp only at hSw); go_simp; try with_reducible rfl))
            simp only [Act.put, List.getElem_toArray, List.getElem_cons_succ, List.getElem_cons_zero, List.setIfInBounds_toArray, List.set_cons_zero, List.set_cons_succ]
            refine wpAnyH_done (by kernel_rfl) ?_ _
            have HF := Lib.hid hHeld
            clear hHeld
            have qHRd_0 := HRd.out.at_ 0 rfl
            have qHRd_1 := HRd.out.at_ 1 rfl
            have qHRd_2 := HRd.out.at_ 2 rfl
            have qHRd_3 := HRd.out.at_ 3 rfl
            have qHRd_4 := HRd.out.at_ 4 rfl
            go_wp2
            refine bodyPost_ret (v := .tuple #[.agg #[.slice none 0 0, .slice none 0 0, .slice none 0 0, .int .i64 0, .int .i64 0], .iface 166 (.pointer (some a3))]) (by simp [results, Tryd.results64, go_sem, *]) rfl ?_
            rw [HG.out]
            exact ⟨_, _, rfl, zero_ow, HB3.out.trans (HF.out.mono (by omega)), .inr ⟨rfl, .inr (.inr (.inl ⟨rfl, rfl⟩))⟩⟩
          · skip
            have qHRd_0 := HRd.out.at_ 0 rfl
            have qHRd_1 := HRd.out.at_ 1 rfl
            have qHRd_2 := HRd.out.at_ 2 rfl
            have qHRd_3 := HRd.out.at_ 3 rfl
            have qHRd_4 := HRd.out.at_ 4 rfl
            have sHRd_0 := HRd.out.soft 0
            have sHRd_1 := HRd.out.soft 1
            have sHRd_2 := HRd.out.soft 2
            have sHRd_3 := HRd.out.soft 3
            have sHRd_4 := HRd.out.soft 4
            go_simp
            refine hK.out _ _ (((((hHeld.setCell (p := ⟨W.heap.size + 1 + 1 + 1, 0, none⟩) (Nat.le_refl _) (.slice none 0 0)).setCell (p := ⟨W.heap.size + 1 + 1 + 1, 1, none⟩) (Nat.le_refl _) (.slice none 0 0)).setCell (p := ⟨W.heap.size + 1 + 1 + 1, 2, none⟩) (Nat.le_refl _) (.slice none 0 0)).setCell (p := ⟨W.heap.size + 1 + 1 + 1, 3, none⟩) (Nat.le_refl _) (.int .i64 0)).setCell (p := ⟨W.heap.size + 1 + 1 + 1, 4, none⟩) (Nat.le_refl _) (.int .i64 0)) (fun hHeld => ?_)
            clear qHRd_0 sHRd_0 qHRd_1 sHRd_1 qHRd_2 sHRd_2 qHRd_3 sHRd_3 qHRd_4 sHRd_4
            clear hK K
            try simp only [Act.put, List.getElem_toArray, List.getElem_cons_succ, List.getElem_cons_zero, List.setIfInBounds_toArray, List.set_cons_zero, List.set_cons_succ]
            refine wpAnyH_ready (rs := [1]) (by kernel_rfl) (by simp) ?_
            refine AllReadyH.cons rfl (fun K hK => ?_) (AllReadyH.nil)
            have k0 := (hHeld.cell (p := ⟨3, 0, none⟩) hv3).trans v3
            go_simp
            refine hK.out _ _ hHeld (fun hHeld => ?_)
            clear k0
            clear hK K
            try simp only [Act.put, List.getElem_toArray, List.getElem_cons_succ, List.getElem_cons_zero, List.setIfInBounds_toArray, List.set_cons_zero, List.set_cons_succ]
            (refine wpAnyH_take (i := 3) (v := ?hv90) rfl (by kernel_rfl) (by kernel_rfl) (by kernel_rfl) (fun _ _ _ h => h) (Or.inl ⟨by kernel_rfl, ?hy90⟩) hHeld ?hr90; case hy90 => (intro w hSw; (try dsimp only at hSw); go_simp; try with_reducible rfl))
            simp only [Act.put, List.getElem_toArray, List.getElem_cons_succ, List.getElem_cons_zero, List.setIfInBounds_toArray, List.set_cons_zero, List.set_cons_succ]
            refine wpAnyH_done (by kernel_rfl) ?_ _
            have HF := Lib.hid hHeld
            clear hHeld
            have qHRd_0 := HRd.out.at_ 0 rfl
            have qHRd_1 := HRd.out.at_ 1 rfl
            have qHRd_2 := HRd.out.at_ 2 rfl
            have qHRd_3 := HRd.out.at_ 3 rfl
            have qHRd_4 := HRd.out.at_ 4 rfl
            go_wp2
            refine bodyPost_ret (v := .tuple #[.agg #[.slice none 0 0, .slice none 0 0, .slice none 0 0, .int .i64 0, .int .i64 0], .iface 166 (.pointer (some a3))]) (by simp [results, Tryd.results64, go_sem, *]) rfl ?_
            rw [HG.out]
            exact ⟨_, _, rfl, zero_ow, HB3.out.trans (HF.out.mono (by omega)), .inr ⟨rfl, .inr (.inr (.inl ⟨rfl, rfl⟩))⟩⟩
        have hbe : (u == 2) = false := by simpa using hu
        have HU := Lib.hid hu
        clear hu
        by_cases h6 : B.length = 6
        · have hb6 : ((B.length : Int) == 6) = true := beq_iff_eq.2 (by omega)
          have HG := Lib.hid (show letG (P, B, A, u, n) (f0, f1) (t0, t1) z = (zeroD, 9) from letG_full HYP.out HC.out HU.out (.inl h6))
          have v4 := HS.out.v4
          have HRd := Lib.hid (show Blk w3.drew (W.heap.size + 1 + 1 + 1) 42 #[.slice none 0 0, .slice none 0 0, .slice none 0 0, .int .i64 0, .int .i64 0] from HR.out)
          go_wp2_with fail
          refine wp_region_held_drew (S := (fun V => Below (W.heap.size + 1 + 1 + 1) w3 V)) (by kernel_rfl) ((Below.refl _ _).drew) (fun hHeld => ?_)
          obtain ⟨wd, hwd⟩ : ∃ w, w = w3.drew := ⟨_, rfl⟩
          rw [← hwd] at hHeld HRd
          rw [← hwd]
          clear hwd
          (refine wpAnyH_take (i := 0) (v := ?hv91) rfl (by kernel_rfl) (by kernel_rfl) (by kernel_rfl) (fun _ _ _ h => h) (Or.inl ⟨by kernel_rfl, ?hy91⟩) hHeld ?hr91; case hy91 => (intro w hSw; (try dsimp only at hSw); go_simp; try with_reducible rfl))
          simp only [Act.put, List.getElem_toArray, List.getElem_cons_succ, List.getElem_cons_zero, List.setIfInBounds_toArray, List.set_cons_zero, List.set_cons_succ]
          refine wpAnyH_ready (rs := [1, 2]) (by kernel_rfl) (by simp) ?_
          refine AllReadyH.cons rfl (fun K hK => ?_) (AllReadyH.cons rfl (fun K hK => ?_) (AllReadyH.nil))
          · skip
            have k0 := (hHeld.cell (p := ⟨4, 0, none⟩) hv4).trans v4
            go_simp
            refine hK.out _ _ hHeld (fun hHeld => ?_)
            clear k0
            clear hK K
            try simp only [Act.put, List.getElem_toArray, List.getElem_cons_succ, List.getElem_cons_zero, List.setIfInBounds_toArray, List.set_cons_zero, List.set_cons_succ]
            refine wpAnyH_ready (rs := [2]) (by kernel_rfl) (by simp) ?_
            refine AllReadyH.cons rfl (fun K hK => ?_) (AllReadyH.nil)
            have qHRd_0 := HRd.out.at_ 0 rfl
            have qHRd_1 := HRd.out.at_ 1 rfl
            have qHRd_2 := HRd.out.at_ 2 rfl
            have qHRd_3 := HRd.out.at_ 3 rfl
            have qHRd_4 := HRd.out.at_ 4 rfl
            have sHRd_0 := HRd.out.soft 0
            have sHRd_1 := HRd.out.soft 1
            have sHRd_2 := HRd.out.soft 2
            have sHRd_3 := HRd.out.soft 3
            have sHRd_4 := HRd.out.soft 4
            go_simp
            refine hK.out _ _ (((((hHeld.setCell (p := ⟨W.heap.size + 1 + 1 + 1, 0, none⟩) (Nat.le_refl _) (.slice none 0 0)).setCell (p := ⟨W.heap.size + 1 + 1 + 1, 1, none⟩) (Nat.le_refl _) (.slice none 0 0)).setCell (p := ⟨W.heap.size + 1 + 1 + 1, 2, none⟩) (Nat.le_refl _) (.slice none 0 0)).setCell (p := ⟨W.heap.size + 1 + 1 + 1, 3, none⟩) (Nat.le_refl _) (.int .i64 0)).setCell (p := ⟨W.heap.size + 1 + 1 + 1, 4, none⟩) (Nat.le_refl _) (.int .i64 0)) (fun hHeld => ?_)
            clear qHRd_0 sHRd_0 qHRd_1 sHRd_1 qHRd_2 sHRd_2 qHRd_3 sHRd_3 qHRd_4 sHRd_4
            clear hK K
            try simp only [Act.put, List.getElem_toArray, List.getElem_cons_succ, List.getElem_cons_zero, List.setIfInBounds_toArray, List.set_cons_zero, List.set_cons_succ]
            (refine wpAnyH_take (i := 3) (v := ?hv92) rfl (by kernel_rfl) (by kernel_rfl) (by kernel_rfl) (fun _ _ _ h => h) (Or.inl ⟨by kernel_rfl, ?hy92⟩) hHeld ?hr92; case hy92 => (intro w hSw; (try dsimp only at hSw); go_simp; try with_reducible rfl))
            simp only [Act.put, List.getElem_toArray, List.getElem_cons_succ, List.getElem_cons_zero, List.setIfInBounds_toArray, List.set_cons_zero, List.set_cons_succ]
            refine wpAnyH_done (by kernel_rfl) ?_ _
            have HF := Lib.hid hHeld
            clear hHeld
            have qHRd_0 := HRd.out.at_ 0 rfl
            have qHRd_1 := HRd.out.at_ 1 rfl
            have qHRd_2 := HRd.out.at_ 2 rfl
            have qHRd_3 := HRd.out.at_ 3 rfl
            have qHRd_4 := HRd.out.at_ 4 rfl
            go_wp2
            refine bodyPost_ret (v := .tuple #[.agg #[.slice none 0 0, .slice none 0 0, .slice none 0 0, .int .i64 0, .int .i64 0], .iface 166 (.pointer (some a4))]) (by simp [results, Tryd.results64, go_sem, *]) rfl ?_
            rw [HG.out]
            exact ⟨_, _, rfl, zero_ow, HB3.out.trans (HF.out.mono (by omega)), .inr ⟨rfl, .inr (.inr (.inr ⟨rfl, rfl⟩))⟩⟩
          · skip
            have qHRd_0 := HRd.out.at_ 0 rfl
            have qHRd_1 := HRd.out.at_ 1 rfl
            have qHRd_2 := HRd.out.at_ 2 rfl
            have qHRd_3 := HRd.out.at_ 3 rfl
            have qHRd_4 := HRd.out.at_ 4 rfl
            have sHRd_0 := HRd.out.soft 0
            have sHRd_1 := HRd.out.soft 1
            have sHRd_2 := HRd.out.soft 2
            have sHRd_3 := HRd.out.soft 3
            have sHRd_4 := HRd.out.soft 4
            go_simp
            refine hK.out _ _ (((((hHeld.setCell (p := ⟨W.heap.size + 1 + 1 + 1, 0, none⟩) (Nat.le_refl _) (.slice none 0 0)).setCell (p := ⟨W.heap.size + 1 + 1 + 1, 1, none⟩) (Nat.le_refl _) (.slice none 0 0)).setCell (p := ⟨W.heap.size + 1 + 1 + 1, 2, none⟩) (Nat.le_refl _) (.slice none 0 0)).setCell (p := ⟨W.heap.size + 1 + 1 + 1, 3, none⟩) (Nat.le_refl _) (.int .i64 0)).setCell (p := ⟨W.heap.size + 1 + 1 + 1, 4, none⟩) (Nat.le_refl _) (.int .i64 0)) (fun hHeld => ?_)
            clear qHRd_0 sHRd_0 qHRd_1 sHRd_1 qHRd_2 sHRd_2 qHRd_3 sHRd_3 qHRd_4 sHRd_4
            clear hK K
            try simp only [Act.put, List.getElem_toArray, List.getElem_cons_succ, List.getElem_cons_zero, List.setIfInBounds_toArray, List.set_cons_zero, List.set_cons_succ]
            refine wpAnyH_ready (rs := [1]) (by kernel_rfl) (by simp) ?_
            refine AllReadyH.cons rfl (fun K hK => ?_) (AllReadyH.nil)
            have k0 := (hHeld.cell (p := ⟨4, 0, none⟩) hv4).trans v4
            go_simp
            refine hK.out _ _ hHeld (fun hHeld => ?_)
            clear k0
            clear hK K
            try simp only [Act.put, List.getElem_toArray, List.getElem_cons_succ, List.getElem_cons_zero, List.setIfInBounds_toArray, List.set_cons_zero, List.set_cons_succ]
            (refine wpAnyH_take (i := 3) (v := ?hv93) rfl (by kernel_rfl) (by kernel_rfl) (by kernel_rfl) (fun _ _ _ h => h) (Or.inl ⟨by kernel_rfl, ?hy93⟩) hHeld ?hr93; case hy93 => (intro w hSw; (try dsimp only at hSw); go_simp; try with_reducible rfl))
            simp only [Act.put, List.getElem_toArray, List.getElem_cons_succ, List.getElem_cons_zero, List.setIfInBounds_toArray, List.set_cons_zero, List.set_cons_succ]
            refine wpAnyH_done (by kernel_rfl) ?_ _
            have HF := Lib.hid hHeld
            clear hHeld
            have qHRd_0 := HRd.out.at_ 0 rfl
            have qHRd_1 := HRd.out.at_ 1 rfl
            have qHRd_2 := HRd.out.at_ 2 rfl
            have qHRd_3 := HRd.out.at_ 3 rfl
            have qHRd_4 := HRd.out.at_ 4 rfl
            go_wp2
            refine bodyPost_ret (v := .tuple #[.agg #[.slice none 0 0, .slice none 0 0, .slice none 0 0, .int .i64 0, .int .i64 0], .iface 166 (.pointer (some a4))]) (by simp [results, Tryd.results64, go_sem, *]) rfl ?_
            rw [HG.out]
            exact ⟨_, _, rfl, zero_ow, HB3.out.trans (HF.out.mono (by omega)), .inr ⟨rfl, .inr (.inr (.inr ⟨rfl, rfl⟩))⟩⟩
        have hb6 : ((B.length : Int) == 6) = false := by rw [beq_eq_false_iff_ne]; omega
        by_cases h20 : A.length = 20
        · have hb20 : ((A.length : Int) == 20) = true := beq_iff_eq.2 (by omega)
          have HG := Lib.hid (show letG (P, B, A, u, n) (f0, f1) (t0, t1) z = (zeroD, 9) from letG_full HYP.out HC.out HU.out (.inr h20))
          have v4 := HS.out.v4
          have HRd := Lib.hid (show Blk w3.drew (W.heap.size + 1 + 1 + 1) 42 #[.slice none 0 0, .slice none 0 0, .slice none 0 0, .int .i64 0, .int .i64 0] from HR.out)
          go_wp2_with fail
          refine wp_region_held_drew (S := (fun V => Below (W.heap.size + 1 + 1 + 1) w3 V)) (by kernel_rfl) ((Below.refl _ _).drew) (fun hHeld => ?_)
          obtain ⟨wd, hwd⟩ : ∃ w, w = w3.drew := ⟨_, rfl⟩
          rw [← hwd] at hHeld HRd
          rw [← hwd]
          clear hwd
          (refine wpAnyH_take (i := 0) (v := ?hv94) rfl (by kernel_rfl) (by kernel_rfl) (by kernel_rfl) (fun _ _ _ h => h) (Or.inl ⟨by kernel_rfl, ?hy94⟩) hHeld ?hr94; case hy94 => (intro w hSw; (try dsimp only at hSw); go_simp; try with_reducible rfl))
          simp only [Act.put, List.getElem_toArray, List.getElem_cons_succ, List.getElem_cons_zero, List.setIfInBounds_toArray, List.set_cons_zero, List.set_cons_succ]
          refine wpAnyH_ready (rs := [1, 2]) (by kernel_rfl) (by simp) ?_
          refine AllReadyH.cons rfl (fun K hK => ?_) (AllReadyH.cons rfl (fun K hK => ?_) (AllReadyH.nil))
          · skip
            have k0 := (hHeld.cell (p := ⟨4, 0, none⟩) hv4).trans v4
            go_simp
            refine hK.out _ _ hHeld (fun hHeld => ?_)
            clear k0
            clear hK K
            try simp only [Act.put, List.getElem_toArray, List.getElem_cons_succ, List.getElem_cons_zero, List.setIfInBounds_toArray, List.set_cons_zero, List.set_cons_succ]
            refine wpAnyH_ready (rs := [2]) (by kernel_rfl) (by simp) ?_
            refine AllReadyH.cons rfl (fun K hK => ?_) (AllReadyH.nil)
            have qHRd_0 := HRd.out.at_ 0 rfl
            have qHRd_1 := HRd.out.at_ 1 rfl
            have qHRd_2 := HRd.out.at_ 2 rfl
            have qHRd_3 := HRd.out.at_ 3 rfl
            have qHRd_4 := HRd.out.at_ 4 rfl
            have sHRd_0 := HRd.out.soft 0
            have sHRd_1 := HRd.out.soft 1
            have sHRd_2 := HRd.out.soft 2
            have sHRd_3 := HRd.out.soft 3
            have sHRd_4 := HRd.out.soft 4
            go_simp
            refine hK.out _ _ (((((hHeld.setCell (p := ⟨W.heap.size + 1 + 1 + 1, 0, none⟩) (Nat.le_refl _) (.slice none 0 0)).setCell (p := ⟨W.heap.size + 1 + 1 + 1, 1, none⟩) (Nat.le_refl _) (.slice none 0 0)).setCell (p := ⟨W.heap.size + 1 + 1 + 1, 2, none⟩) (Nat.le_refl _) (.slice none 0 0)).setCell (p := ⟨W.heap.size + 1 + 1 + 1, 3, none⟩) (Nat.le_refl _) (.int .i64 0)).setCell (p := ⟨W.heap.size + 1 + 1 + 1, 4, none⟩) (Nat.le_refl _) (.int .i64 0)) (fun hHeld => ?_)
            clear qHRd_0 sHRd_0 qHRd_1 sHRd_1 qHRd_2 sHRd_2 qHRd_3 sHRd_3 qHRd_4 sHRd_4
            clear hK K
            try simp only [Act.put, List.getElem_toArray, List.getElem_cons_succ, List.getElem_cons_zero, List.setIfInBounds_toArray, List.set_cons_zero, List.set_cons_succ]
            (refine wpAnyH_take (i := 3) (v := ?hv95) rfl (by kernel_rfl) (by kernel_rfl) (by kernel_rfl) (fun _ _ _ h => h) (Or.inl ⟨by kernel_rfl, ?hy95⟩) hHeld ?hr95; case hy95 => (intro w hSw; (try dsimp only at hSw); go_simp; try with_reducible rfl))
            simp only [Act.put, List.getElem_toArray, List.getElem_cons_succ, List.getElem_cons_zero, List.setIfInBounds_toArray, List.set_cons_zero, List.set_cons_succ]
            refine wpAnyH_done (by kernel_rfl) ?_ _
            have HF := Lib.hid hHeld
            clear hHeld
            have qHRd_0 := HRd.out.at_ 0 rfl
            have qHRd_1 := HRd.out.at_ 1 rfl
            have qHRd_2 := HRd.out.at_ 2 rfl
            have qHRd_3 := HRd.out.at_ 3 rfl
            have qHRd_4 := HRd.out.at_ 4 rfl
            go_wp2
            refine bodyPost_ret (v := .tuple #[.agg #[.slice none 0 0, .slice none 0 0, .slice none 0 0, .int .i64 0, .int .i64 0], .iface 166 (.pointer (some a4))]) (by simp [results, Tryd.results64, go_sem, *]) rfl ?_
            rw [HG.out]
            exact ⟨_, _, rfl, zero_ow, HB3.out.trans (HF.out.mono (by omega)), .inr ⟨rfl, .inr (.inr (.inr ⟨rfl, rfl⟩))⟩⟩
          · skip
            have qHRd_0 := HRd.out.at_ 0 rfl
            have qHRd_1 := HRd.out.at_ 1 rfl
            have qHRd_2 := HRd.out.at_ 2 rfl
            have qHRd_3 := HRd.out.at_ 3 rfl
            have qHRd_4 := HRd.out.at_ 4 rfl
            have sHRd_0 := HRd.out.soft 0
            have sHRd_1 := HRd.out.soft 1
            have sHRd_2 := HRd.out.soft 2
            have sHRd_3 := HRd.out.soft 3
            have sHRd_4 := HRd.out.soft 4
            go_simp
            refine hK.out _ _ (((((hHeld.setCell (p := ⟨W.heap.size + 1 + 1 + 1, 0, none⟩) (Nat.le_refl _) (.slice none 0 0)).setCell (p := ⟨W.heap.size + 1 + 1 + 1, 1, none⟩) (Nat.le_refl _) (.slice none 0 0)).setCell (p := ⟨W.heap.size + 1 + 1 + 1, 2, none⟩) (Nat.le_refl _) (.slice none 0 0)).setCell (p := ⟨W.heap.size + 1 + 1 + 1, 3, none⟩) (Nat.le_refl _) (.int .i64 0)).setCell (p := ⟨W.heap.size + 1 + 1 + 1, 4, none⟩) (Nat.le_refl _) (.int .i64 0)) (fun hHeld => ?_)
            clear qHRd_0 sHRd_0 qHRd_1 sHRd_1 qHRd_2 sHRd_2 qHRd_3 sHRd_3 qHRd_4 sHRd_4
            clear hK K
            try simp only [Act.put, List.getElem_toArray, List.getElem_cons_succ, List.getElem_cons_zero, List.setIfInBounds_toArray, List.set_cons_zero, List.set_cons_succ]
            refine wpAnyH_ready (rs := [1]) (by kernel_rfl) (by simp) ?_
            refine AllReadyH.cons rfl (fun K hK => ?_) (AllReadyH.nil)
            have k0 := (hHeld.cell (p := ⟨4, 0, none⟩) hv4).trans v4
            go_simp
            refine hK.out _ _ hHeld (fun hHeld => ?_)
            clear k0
            clear hK K
            try simp only [Act.put, List.getElem_toArray, List.getElem_cons_succ, List.getElem_cons_zero, List.setIfInBounds_toArray, List.set_cons_zero, List.set_cons_succ]
            (refine wpAnyH_take (i := 3) (v := ?hv96) rfl (by kernel_rfl) (by kernel_rfl) (by kernel_rfl) (fun _ _ _ h => h) (Or.inl ⟨by kernel_rfl, ?hy96⟩) hHeld ?hr96; case hy96 => (intro w hSw; (try dsimp only at hSw); go_simp; try with_reducible rfl))
            simp only [Act.put, List.getElem_toArray, List.getElem_cons_succ, List.getElem_cons_zero, List.setIfInBounds_toArray, List.set_cons_zero, List.set_cons_succ]
            refine wpAnyH_done (by kernel_rfl) ?_ _
            have HF := Lib.hid hHeld
            clear hHeld
            have qHRd_0 := HRd.out.at_ 0 rfl
            have qHRd_1 := HRd.out.at_ 1 rfl
            have qHRd_2 := HRd.out.at_ 2 rfl
            have qHRd_3 := HRd.out.at_ 3 rfl
            have qHRd_4 := HRd.out.at_ 4 rfl
            go_wp2
            refine bodyPost_ret (v := .tuple #[.agg #[.slice none 0 0, .slice none 0 0, .slice none 0 0, .int .i64 0, .int .i64 0], .iface 166 (.pointer (some a4))]) (by simp [results, Tryd.results64, go_sem, *]) rfl ?_
            rw [HG.out]
            exact ⟨_, _, rfl, zero_ow, HB3.out.trans (HF.out.mono (by omega)), .inr ⟨rfl, .inr (.inr (.inr ⟨rfl, rfl⟩))⟩⟩
        have hb20 : ((A.length : Int) == 20) = false := by rw [beq_eq_false_iff_ne]; omega
        have HG := Lib.hid (show letG (P, B, A, u, n) (f0, f1) (t0, t1) z = ((P, B ++ [((f0, f1), (t0, t1), n, z)], A ++ [((f0, f1), (t0, t1), n, z)], u + 1, n), 0) from letG_ok HYP.out HC.out HU.out h6 h20)
        have hwr : IntKind.i64.wrap (u + 1) = u + 1 := IntWalk.i64_in _ (by omega)
        clear h6 h20
        have HRL := Lib.hid HR.out.lt
        have hbx : Below w3.heap.size w3 (w3.alloc (.cells #[.int .i64 f0, .int .i64 f1, .int .i64 t0, .int .i64 t1, .int .i64 n, .int .i64 z] 87)) := (Below.refl _ _).alloc (Nat.le_refl _) _
        have HX := Lib.hid (Blk.new w3 87 #[.int .i64 f0, .int .i64 f1, .int .i64 t0, .int .i64 t1, .int .i64 n, .int .i64 z])
        obtain ⟨wz, hwz⟩ : ∃ w, w = w3.alloc (.cells #[.int .i64 f0, .int .i64 f1, .int .i64 t0, .int .i64 t1, .int .i64 n, .int .i64 z] 87) := ⟨_, rfl⟩
        rw [← hwz] at hbx HX
        have HBz := Lib.hid (HB3.out.trans (hbx.mono hz3))
        have hzz := HBz.out.size
        have HD := Lib.hid (HD.out.call hbx)
        have HR := Lib.hid (HR.out.call hbx)
        have hgx : w3.heap.size < wz.heap.size := HX.out.lt
        have hgx : w3.heap.size < wz.heap.size := HX.out.lt
        have hR3 : W.heap.size + 1 + 1 + 1 < w3.heap.size := HRL.out
        have hgz : W.heap.size + 1 + 1 + 1 < wz.heap.size := Nat.lt_trans hR3 hgx
        clear hbx
        go_wp2_with fail
        rw [← hwz]
        clear hwz
        refine wp_region_held_drew (S := (fun V => But2 wz V (W.heap.size + 1 + 1 + 1))) (by kernel_rfl) (But2.of ((Below.refl _ _).drew)) (fun hHeld => ?_)
        obtain ⟨wd, hwd⟩ : ∃ w, w = wz.drew := ⟨_, rfl⟩
        have HRd := Lib.hid (show Blk wz.drew (W.heap.size + 1 + 1 + 1) 42 #[.slice none 0 0, .slice none 0 0, .slice none 0 0, .int .i64 0, .int .i64 0] from HR.out)
        rw [← hwd] at hHeld HRd
        rw [← hwd]
        clear hwd
        (refine wpAnyH_take (i := 0) (v := ?hv97) rfl (by kernel_rfl) (by kernel_rfl) (by kernel_rfl) (fun _ _ _ h => h) (Or.inl ⟨by kernel_rfl, ?hy97⟩) hHeld ?hr97; case hy97 => (intro w hSw; (try dsimp only at hSw); go_simp; try with_reducible rfl))
        simp only [Act.put, List.getElem_toArray, List.getElem_cons_succ, List.getElem_cons_zero, List.setIfInBounds_toArray, List.set_cons_zero, List.set_cons_succ]
        (refine wpAnyH_take (i := 1) (v := ?hv98) rfl (by kernel_rfl) (by kernel_rfl) (by kernel_rfl) (fun _ _ _ h => h) (Or.inl ⟨by kernel_rfl, ?hy98⟩) hHeld ?hr98; case hy98 => (intro w hSw; (try dsimp only at hSw); have k0 := hSw.cell (Nat.lt_of_lt_of_le (Nat.lt_succ_of_lt (Nat.lt_succ_of_lt (Nat.lt_succ_self _))) (Nat.le_of_lt hgz)) (by omega) (HD.out.at_ 0 rfl); have k1 := hSw.cell (Nat.lt_of_lt_of_le (Nat.lt_succ_of_lt (Nat.lt_succ_of_lt (Nat.lt_succ_self _))) (Nat.le_of_lt hgz)) (by omega) (HD.out.at_ 1 rfl); have k2 := hSw.cell (Nat.lt_of_lt_of_le (Nat.lt_succ_of_lt (Nat.lt_succ_of_lt (Nat.lt_succ_self _))) (Nat.le_of_lt hgz)) (by omega) (HD.out.at_ 2 rfl); have k3 := hSw.cell (Nat.lt_of_lt_of_le (Nat.lt_succ_of_lt (Nat.lt_succ_of_lt (Nat.lt_succ_self _))) (Nat.le_of_lt hgz)) (by omega) (HD.out.at_ 3 rfl); have k4 := hSw.cell (Nat.lt_of_lt_of_le (Nat.lt_succ_of_lt (Nat.lt_succ_of_lt (Nat.lt_succ_self _))) (Nat.le_of_lt hgz)) (by omega) (HD.out.at_ 4 rfl); clear hSw; go_simp; try with_reducible rfl))
        simp only [Act.put, List.getElem_toArray, List.getElem_cons_succ, List.getElem_cons_zero, List.setIfInBounds_toArray, List.set_cons_zero, List.set_cons_succ]
        (refine wpAnyH_take (i := 3) (v := ?hv99) rfl (by kernel_rfl) (by kernel_rfl) (by kernel_rfl) (fun _ _ _ h => h) (Or.inl ⟨by kernel_rfl, ?hy99⟩) hHeld ?hr99; case hy99 => (intro w hSw; (try dsimp only at hSw); go_simp; try with_reducible rfl))
        simp only [Act.put, List.getElem_toArray, List.getElem_cons_succ, List.getElem_cons_zero, List.setIfInBounds_toArray, List.set_cons_zero, List.set_cons_succ]
        (refine wpAnyH_take (i := 4) (v := ?hv100) rfl (by kernel_rfl) (by kernel_rfl) (by kernel_rfl) (fun _ _ _ h => h) (Or.inl ⟨by kernel_rfl, ?hy100⟩) hHeld ?hr100; case hy100 => (intro w hSw; (try dsimp only at hSw); have k0 := hSw.cell (Nat.lt_of_lt_of_le (Nat.lt_succ_of_lt (Nat.lt_succ_of_lt (Nat.lt_succ_self _))) (Nat.le_of_lt hgz)) (by omega) (HD.out.at_ 0 rfl); have k1 := hSw.cell (Nat.lt_of_lt_of_le (Nat.lt_succ_of_lt (Nat.lt_succ_of_lt (Nat.lt_succ_self _))) (Nat.le_of_lt hgz)) (by omega) (HD.out.at_ 1 rfl); have k2 := hSw.cell (Nat.lt_of_lt_of_le (Nat.lt_succ_of_lt (Nat.lt_succ_of_lt (Nat.lt_succ_self _))) (Nat.le_of_lt hgz)) (by omega) (HD.out.at_ 2 rfl); have k3 := hSw.cell (Nat.lt_of_lt_of_le (Nat.lt_succ_of_lt (Nat.lt_succ_of_lt (Nat.lt_succ_self _))) (Nat.le_of_lt hgz)) (by omega) (HD.out.at_ 3 rfl); have k4 := hSw.cell (Nat.lt_of_lt_of_le (Nat.lt_succ_of_lt (Nat.lt_succ_of_lt (Nat.lt_succ_self _))) (Nat.le_of_lt hgz)) (by omega) (HD.out.at_ 4 rfl); clear hSw; go_simp; try with_reducible rfl))
        simp only [Act.put, List.getElem_toArray, List.getElem_cons_succ, List.getElem_cons_zero, List.setIfInBounds_toArray, List.set_cons_zero, List.set_cons_succ]
        (refine wpAnyH_take (i := 5) (v := ?hv101) rfl (by kernel_rfl) (by kernel_rfl) (by kernel_rfl) (fun _ _ _ h => h) (Or.inl ⟨by kernel_rfl, ?hy101⟩) hHeld ?hr101; case hy101 => (intro w hSw; (try dsimp only at hSw); have k0 := hSw.cell hgx (by omega) (HX.out.at_ 0 rfl); have k1 := hSw.cell hgx (by omega) (HX.out.at_ 1 rfl); have k2 := hSw.cell hgx (by omega) (HX.out.at_ 2 rfl); have k3 := hSw.cell hgx (by omega) (HX.out.at_ 3 rfl); have k4 := hSw.cell hgx (by omega) (HX.out.at_ 4 rfl); have k5 := hSw.cell hgx (by omega) (HX.out.at_ 5 rfl); clear hSw; go_simp; try with_reducible rfl))
        simp only [Act.put, List.getElem_toArray, List.getElem_cons_succ, List.getElem_cons_zero, List.setIfInBounds_toArray, List.set_cons_zero, List.set_cons_succ]
        (refine wpAnyH_take (i := 8) (v := ?hv102) rfl (by kernel_rfl) (by kernel_rfl) (by kernel_rfl) (fun _ _ _ h => h) (Or.inl ⟨by kernel_rfl, ?hy102⟩) hHeld ?hr102; case hy102 => (intro w hSw; (try dsimp only at hSw); go_simp; try with_reducible rfl))
        simp only [Act.put, List.getElem_toArray, List.getElem_cons_succ, List.getElem_cons_zero, List.setIfInBounds_toArray, List.set_cons_zero, List.set_cons_succ]
        (refine wpAnyH_take (i := 9) (v := ?hv103) rfl (by kernel_rfl) (by kernel_rfl) (by kernel_rfl) (fun _ _ _ h => h) (Or.inl ⟨by kernel_rfl, ?hy103⟩) hHeld ?hr103; case hy103 => (intro w hSw; (try dsimp only at hSw); have k0 := hSw.cell (Nat.lt_of_lt_of_le (Nat.lt_succ_of_lt (Nat.lt_succ_of_lt (Nat.lt_succ_self _))) (Nat.le_of_lt hgz)) (by omega) (HD.out.at_ 0 rfl); have k1 := hSw.cell (Nat.lt_of_lt_of_le (Nat.lt_succ_of_lt (Nat.lt_succ_of_lt (Nat.lt_succ_self _))) (Nat.le_of_lt hgz)) (by omega) (HD.out.at_ 1 rfl); have k2 := hSw.cell (Nat.lt_of_lt_of_le (Nat.lt_succ_of_lt (Nat.lt_succ_of_lt (Nat.lt_succ_self _))) (Nat.le_of_lt hgz)) (by omega) (HD.out.at_ 2 rfl); have k3 := hSw.cell (Nat.lt_of_lt_of_le (Nat.lt_succ_of_lt (Nat.lt_succ_of_lt (Nat.lt_succ_self _))) (Nat.le_of_lt hgz)) (by omega) (HD.out.at_ 3 rfl); have k4 := hSw.cell (Nat.lt_of_lt_of_le (Nat.lt_succ_of_lt (Nat.lt_succ_of_lt (Nat.lt_succ_self _))) (Nat.le_of_lt hgz)) (by omega) (HD.out.at_ 4 rfl); clear hSw; go_simp; try with_reducible rfl))
        simp only [Act.put, List.getElem_toArray, List.getElem_cons_succ, List.getElem_cons_zero, List.setIfInBounds_toArray, List.set_cons_zero, List.set_cons_succ]
        (refine wpAnyH_take (i := 10) (v := ?hv104) rfl (by kernel_rfl) (by kernel_rfl) (by kernel_rfl) (fun _ _ _ h => h) (Or.inl ⟨by kernel_rfl, ?hy104⟩) hHeld ?hr104; case hy104 => (intro w hSw; (try dsimp only at hSw); have k0 := hSw.cell hgx (by omega) (HX.out.at_ 0 rfl); have k1 := hSw.cell hgx (by omega) (HX.out.at_ 1 rfl); have k2 := hSw.cell hgx (by omega) (HX.out.at_ 2 rfl); have k3 := hSw.cell hgx (by omega) (HX.out.at_ 3 rfl); have k4 := hSw.cell hgx (by omega) (HX.out.at_ 4 rfl); have k5 := hSw.cell hgx (by omega) (HX.out.at_ 5 rfl); clear hSw; go_simp; try with_reducible rfl))
        simp only [Act.put, List.getElem_toArray, List.getElem_cons_succ, List.getElem_cons_zero, List.setIfInBounds_toArray, List.set_cons_zero, List.set_cons_succ]
        (refine wpAnyH_take (i := 13) (v := ?hv105) rfl (by kernel_rfl) (by kernel_rfl) (by kernel_rfl) (fun _ _ _ h => h) (Or.inl ⟨by kernel_rfl, ?hy105⟩) hHeld ?hr105; case hy105 => (intro w hSw; (try dsimp only at hSw); go_simp; try with_reducible rfl))
        simp only [Act.put, List.getElem_toArray, List.getElem_cons_succ, List.getElem_cons_zero, List.setIfInBounds_toArray, List.set_cons_zero, List.set_cons_succ]
        (refine wpAnyH_take (i := 14) (v := ?hv106) rfl (by kernel_rfl) (by kernel_rfl) (by kernel_rfl) (fun _ _ _ h => h) (Or.inl ⟨by kernel_rfl, ?hy106⟩) hHeld ?hr106; case hy106 => (intro w hSw; (try dsimp only at hSw); have k0 := hSw.cell (Nat.lt_of_lt_of_le (Nat.lt_succ_of_lt (Nat.lt_succ_of_lt (Nat.lt_succ_self _))) (Nat.le_of_lt hgz)) (by omega) (HD.out.at_ 0 rfl); have k1 := hSw.cell (Nat.lt_of_lt_of_le (Nat.lt_succ_of_lt (Nat.lt_succ_of_lt (Nat.lt_succ_self _))) (Nat.le_of_lt hgz)) (by omega) (HD.out.at_ 1 rfl); have k2 := hSw.cell (Nat.lt_of_lt_of_le (Nat.lt_succ_of_lt (Nat.lt_succ_of_lt (Nat.lt_succ_self _))) (Nat.le_of_lt hgz)) (by omega) (HD.out.at_ 2 rfl); have k3 := hSw.cell (Nat.lt_of_lt_of_le (Nat.lt_succ_of_lt (Nat.lt_succ_of_lt (Nat.lt_succ_self _))) (Nat.le_of_lt hgz)) (by omega) (HD.out.at_ 3 rfl); have k4 := hSw.cell (Nat.lt_of_lt_of_le (Nat.lt_succ_of_lt (Nat.lt_succ_of_lt (Nat.lt_succ_self _))) (Nat.le_of_lt hgz)) (by omega) (HD.out.at_ 4 rfl); clear hSw; go_simp; try with_reducible rfl))
        simp only [Act.put, List.getElem_toArray, List.getElem_cons_succ, List.getElem_cons_zero, List.setIfInBounds_toArray, List.set_cons_zero, List.set_cons_succ]
        (refine wpAnyH_take (i := 15) (v := ?hv107) rfl (by kernel_rfl) (by kernel_rfl) (by kernel_rfl) (fun _ _ _ h => h) (Or.inl ⟨by kernel_rfl, ?hy107⟩) hHeld ?hr107; case hy107 => (intro w hSw; (try dsimp only at hSw); go_simp; try with_reducible rfl))
        simp only [Act.put, List.getElem_toArray, List.getElem_cons_succ, List.getElem_cons_zero, List.setIfInBounds_toArray, List.set_cons_zero, List.set_cons_succ]
        (refine wpAnyH_take (i := 16) (v := ?hv108) rfl (by kernel_rfl) (by kernel_rfl) (by kernel_rfl) (fun _ _ _ h => h) (Or.inl ⟨by kernel_rfl, ?hy108⟩) hHeld ?hr108; case hy108 => (intro w hSw; (try dsimp only at hSw); go_simp; try with_reducible rfl))
        simp only [Act.put, List.getElem_toArray, List.getElem_cons_succ, List.getElem_cons_zero, List.setIfInBounds_toArray, List.set_cons_zero, List.set_cons_succ]
        (refine wpAnyH_take (i := 17) (v := ?hv109) rfl (by kernel_rfl) (by kernel_rfl) (by kernel_rfl) (fun _ _ _ h => h) (Or.inl ⟨by kernel_rfl, ?hy109⟩) hHeld ?hr109; case hy109 => (intro w hSw; (try dsimp only at hSw); have k0 := hSw.cell (Nat.lt_of_lt_of_le (Nat.lt_succ_of_lt (Nat.lt_succ_of_lt (Nat.lt_succ_self _))) (Nat.le_of_lt hgz)) (by omega) (HD.out.at_ 0 rfl); have k1 := hSw.cell (Nat.lt_of_lt_of_le (Nat.lt_succ_of_lt (Nat.lt_succ_of_lt (Nat.lt_succ_self _))) (Nat.le_of_lt hgz)) (by omega) (HD.out.at_ 1 rfl); have k2 := hSw.cell (Nat.lt_of_lt_of_le (Nat.lt_succ_of_lt (Nat.lt_succ_of_lt (Nat.lt_succ_self _))) (Nat.le_of_lt hgz)) (by omega) (HD.out.at_ 2 rfl); have k3 := hSw.cell (Nat.lt_of_lt_of_le (Nat.lt_succ_of_lt (Nat.lt_succ_of_lt (Nat.lt_succ_self _))) (Nat.le_of_lt hgz)) (by omega) (HD.out.at_ 3 rfl); have k4 := hSw.cell (Nat.lt_of_lt_of_le (Nat.lt_succ_of_lt (Nat.lt_succ_of_lt (Nat.lt_succ_self _))) (Nat.le_of_lt hgz)) (by omega) (HD.out.at_ 4 rfl); clear hSw; go_simp; try with_reducible rfl))
        simp only [Act.put, List.getElem_toArray, List.getElem_cons_succ, List.getElem_cons_zero, List.setIfInBounds_toArray, List.set_cons_zero, List.set_cons_succ]
        refine wpAnyH_ready (rs := [2, 6, 11]) (by kernel_rfl) (by simp) ?_
        refine AllReadyH.cons rfl (fun K hK => ?_) (AllReadyH.cons rfl (fun K hK => ?_) (AllReadyH.cons rfl (fun K hK => ?_) (AllReadyH.nil)))
        · skip
          go_simp
          go_at_call 87
          refine (letters1_impl (by omega) ((HP0.out.below R_Letter_ok (HBz.out.trans (hHeld.2.2 W.heap.size (by omega) hzz))).more R_Letter_ok (HBz.out.trans (hHeld.2.2 W.heap.size (by omega) hzz)).size)).mono ?_
          intro e u1 h
          obtain ⟨xa, xc, rfl, ho, hb⟩ := newS_elim h
          have HRd := Lib.hid (HRd.out.call hb)
          have HO0 := Lib.hid ho
          have HM0 := Lib.hid (Nat.le_refl u1.heap.size)
          have HE0 := Lib.hid hb.size
          have HGA := Lib.hid (show W.heap.size + 1 + 1 + 1 < wd.heap.size from Nat.lt_of_lt_of_le hgz hHeld.1)
          clear h ho
          have HML0 := Lib.hid (Nat.le_refl u1.heap.size)
          refine hK.out _ _ (hHeld.trans (But2.of hb)) (fun hHeld => ?_)
          clear hb
          clear hK K
          try simp only [Act.put, List.getElem_toArray, List.getElem_cons_succ, List.getElem_cons_zero, List.setIfInBounds_toArray, List.set_cons_zero, List.set_cons_succ]
          refine wpAnyH_ready (rs := [6, 11]) (by kernel_rfl) (by simp) ?_
          refine AllReadyH.cons rfl (fun K hK => ?_) (AllReadyH.cons rfl (fun K hK => ?_) (AllReadyH.nil))
          · skip
            go_simp
            have hb : Below u1.heap.size u1 (u1.alloc (.cells #[.int .i64 f0, .int .i64 f1, .int .i64 t0, .int .i64 t1, .int .i64 n, .int .i64 z] 87)) := (Below.refl _ _).alloc (Nat.le_refl _) _
            have HK0 := Lib.hid (Blk.new u1 87 #[.int .i64 f0, .int .i64 f1, .int .i64 t0, .int .i64 t1, .int .i64 n, .int .i64 z])
            obtain ⟨u2, hw⟩ : ∃ w', w' = u1.alloc (.cells #[.int .i64 f0, .int .i64 f1, .int .i64 t0, .int .i64 t1, .int .i64 n, .int .i64 z] 87) := ⟨_, rfl⟩
            rw [← hw] at hb HK0
            have HRd := Lib.hid (HRd.out.call hb)
            have HO0 := Lib.hid (OwSl.keep R_Letter_ok HO0.out fun k hk => hb.block k (by have := HM0.out; unfold Rg at hk; omega))
            have HM0 := Lib.hid (Nat.le_trans HM0.out hb.size)
            rw [← hw]
            clear hw
            have HML0 := Lib.hid (Nat.le_trans HML0.out hb.size)
            refine hK.out _ _ (hHeld.trans (But2.of hb)) (fun hHeld => ?_)
            clear hb
            clear hK K
            try simp only [Act.put, List.getElem_toArray, List.getElem_cons_succ, List.getElem_cons_zero, List.setIfInBounds_toArray, List.set_cons_zero, List.set_cons_succ]
            refine wpAnyH_ready (rs := [7, 11]) (by kernel_rfl) (by simp) ?_
            refine AllReadyH.cons rfl (fun K hK => ?_) (AllReadyH.cons rfl (fun K hK => ?_) (AllReadyH.nil))
            · skip
              go_simp
              go_at_call 87
              refine (letters2_impl (M := [((f0, f1), (t0, t1), n, z)]) (by simp only [List.length_singleton]; omega) ((HB0.out.below R_Letter_ok (HBz.out.trans (hHeld.2.2 W.heap.size (by omega) hzz))).more R_Letter_ok (HBz.out.trans (hHeld.2.2 W.heap.size (by omega) hzz)).size) (rd_one f0 f1 t0 t1 n z HK0.out)).mono ?_
              intro e u3 h
              obtain ⟨ya, yc, rfl, ho, hb⟩ := newS_elim h
              have HRd := Lib.hid (HRd.out.call hb)
              have HK0 := Lib.hid (HK0.out.call hb)
              have HO0 := Lib.hid (OwSl.keep R_Letter_ok HO0.out fun k hk => hb.block k (by have := HM0.out; unfold Rg at hk; omega))
              have HM0 := Lib.hid (Nat.le_trans HM0.out hb.size)
              have HO1 := Lib.hid ho
              have HM1 := Lib.hid (Nat.le_refl u3.heap.size)
              have HE1 := Lib.hid hb.size
              have HL01 := HML0
              clear h ho
              have HML1 := Lib.hid (Nat.le_refl u3.heap.size)
              refine hK.out _ _ (hHeld.trans (But2.of hb)) (fun hHeld => ?_)
              clear hb
              clear hK K
              try simp only [Act.put, List.getElem_toArray, List.getElem_cons_succ, List.getElem_cons_zero, List.setIfInBounds_toArray, List.set_cons_zero, List.set_cons_succ]
              refine wpAnyH_ready (rs := [11]) (by kernel_rfl) (by simp) ?_
              refine AllReadyH.cons rfl (fun K hK => ?_) (AllReadyH.nil)
              go_simp
              have hb : Below u3.heap.size u3 (u3.alloc (.cells #[.int .i64 f0, .int .i64 f1, .int .i64 t0, .int .i64 t1, .int .i64 n, .int .i64 z] 87)) := (Below.refl _ _).alloc (Nat.le_refl _) _
              have HK1 := Lib.hid (Blk.new u3 87 #[.int .i64 f0, .int .i64 f1, .int .i64 t0, .int .i64 t1, .int .i64 n, .int .i64 z])
              obtain ⟨u4, hw⟩ : ∃ w', w' = u3.alloc (.cells #[.int .i64 f0, .int .i64 f1, .int .i64 t0, .int .i64 t1, .int .i64 n, .int .i64 z] 87) := ⟨_, rfl⟩
              rw [← hw] at hb HK1
              have HRd := Lib.hid (HRd.out.call hb)
              have HK0 := Lib.hid (HK0.out.call hb)
              have HO0 := Lib.hid (OwSl.keep R_Letter_ok HO0.out fun k hk => hb.block k (by have := HM0.out; unfold Rg at hk; omega))
              have HM0 := Lib.hid (Nat.le_trans HM0.out hb.size)
              have HO1 := Lib.hid (OwSl.keep R_Letter_ok HO1.out fun k hk => hb.block k (by have := HM1.out; unfold Rg at hk; omega))
              have HM1 := Lib.hid (Nat.le_trans HM1.out hb.size)
              rw [← hw]
              clear hw
              have HML1 := Lib.hid (Nat.le_trans HML1.out hb.size)
              refine hK.out _ _ (hHeld.trans (But2.of hb)) (fun hHeld => ?_)
              clear hb
              clear hK K
              try simp only [Act.put, List.getElem_toArray, List.getElem_cons_succ, List.getElem_cons_zero, List.setIfInBounds_toArray, List.set_cons_zero, List.set_cons_succ]
              refine wpAnyH_ready (rs := [12]) (by kernel_rfl) (by simp) ?_
              refine AllReadyH.cons rfl (fun K hK => ?_) (AllReadyH.nil)
              go_simp
              go_at_call 87
              refine (letters2_impl (M := [((f0, f1), (t0, t1), n, z)]) (by simp only [List.length_singleton]; omega) ((HA0.out.below R_Letter_ok (HBz.out.trans (hHeld.2.2 W.heap.size (by omega) hzz))).more R_Letter_ok (HBz.out.trans (hHeld.2.2 W.heap.size (by omega) hzz)).size) (rd_one f0 f1 t0 t1 n z HK1.out)).mono ?_
              intro e u5 h
              obtain ⟨za, zc, rfl, ho, hb⟩ := newS_elim h
              have HRd := Lib.hid (HRd.out.call hb)
              have HK0 := Lib.hid (HK0.out.call hb)
              have HK1 := Lib.hid (HK1.out.call hb)
              have HO0 := Lib.hid (OwSl.keep R_Letter_ok HO0.out fun k hk => hb.block k (by have := HM0.out; unfold Rg at hk; omega))
              have HM0 := Lib.hid (Nat.le_trans HM0.out hb.size)
              have HO1 := Lib.hid (OwSl.keep R_Letter_ok HO1.out fun k hk => hb.block k (by have := HM1.out; unfold Rg at hk; omega))
              have HM1 := Lib.hid (Nat.le_trans HM1.out hb.size)
              have HO2 := Lib.hid ho
              have HM2 := Lib.hid (Nat.le_refl u5.heap.size)
              have HE2 := Lib.hid hb.size
              have HL12 := HML1
              have HE12 := HM1
              have HE02 := HM0
              clear h ho
              have HML2 := Lib.hid (Nat.le_refl u5.heap.size)
              refine hK.out _ _ (hHeld.trans (But2.of hb)) (fun hHeld => ?_)
              clear hb
              clear hK K
              try simp only [Act.put, List.getElem_toArray, List.getElem_cons_succ, List.getElem_cons_zero, List.setIfInBounds_toArray, List.set_cons_zero, List.set_cons_succ]
              (refine wpAnyH_take (i := 18) (v := ?hv110) rfl (by kernel_rfl) (by kernel_rfl) (by kernel_rfl) (fun _ _ _ h => h) (Or.inl ⟨by kernel_rfl, ?hy110⟩) hHeld ?hr110; case hy110 => (intro w hSw; (try dsimp only at hSw); go_simp; try with_reducible rfl))
              simp only [Act.put, List.getElem_toArray, List.getElem_cons_succ, List.getElem_cons_zero, List.setIfInBounds_toArray, List.set_cons_zero, List.set_cons_succ]
              refine wpAnyH_ready (rs := [19]) (by kernel_rfl) (by simp) ?_
              refine AllReadyH.cons rfl (fun K hK => ?_) (AllReadyH.nil)
              have qHRd_0 := HRd.out.at_ 0 rfl
              have qHRd_1 := HRd.out.at_ 1 rfl
              have qHRd_2 := HRd.out.at_ 2 rfl
              have qHRd_3 := HRd.out.at_ 3 rfl
              have qHRd_4 := HRd.out.at_ 4 rfl
              have sHRd_0 := HRd.out.soft 0
              have sHRd_1 := HRd.out.soft 1
              have sHRd_2 := HRd.out.soft 2
              have sHRd_3 := HRd.out.soft 3
              have sHRd_4 := HRd.out.soft 4
              go_simp
              refine hK.out _ _ (hHeld.trans (But2.off ((((((Off.refl (fun x => x = W.heap.size + 1 + 1 + 1) u5).setCell (p := ⟨W.heap.size + 1 + 1 + 1, 0, none⟩) (rfl) (.slice xa P.length xc)).setCell (p := ⟨W.heap.size + 1 + 1 + 1, 1, none⟩) (rfl) (.slice ya (B.length + 1) yc)).setCell (p := ⟨W.heap.size + 1 + 1 + 1, 2, none⟩) (rfl) (.slice za (A.length + 1) zc)).setCell (p := ⟨W.heap.size + 1 + 1 + 1, 3, none⟩) (rfl) (.int .i64 (u + 1))).setCell (p := ⟨W.heap.size + 1 + 1 + 1, 4, none⟩) (rfl) (.int .i64 n)))) (fun hHeld => ?_)
              clear qHRd_0 sHRd_0 qHRd_1 sHRd_1 qHRd_2 sHRd_2 qHRd_3 sHRd_3 qHRd_4 sHRd_4
              clear hK K
              try simp only [Act.put, List.getElem_toArray, List.getElem_cons_succ, List.getElem_cons_zero, List.setIfInBounds_toArray, List.set_cons_zero, List.set_cons_succ]
              (refine wpAnyH_take (i := 20) (v := ?hv111) rfl (by kernel_rfl) (by kernel_rfl) (by kernel_rfl) (fun _ _ _ h => h) (Or.inl ⟨by kernel_rfl, ?hy111⟩) hHeld ?hr111; case hy111 => (intro w hSw; (try dsimp only at hSw); go_simp; try with_reducible rfl))
              simp only [Act.put, List.getElem_toArray, List.getElem_cons_succ, List.getElem_cons_zero, List.setIfInBounds_toArray, List.set_cons_zero, List.set_cons_succ]
              refine wpAnyH_done (by kernel_rfl) ?_ _
              have qHRd_0 := HRd.out.at_ 0 rfl
              have qHRd_1 := HRd.out.at_ 1 rfl
              have qHRd_2 := HRd.out.at_ 2 rfl
              have qHRd_3 := HRd.out.at_ 3 rfl
              have qHRd_4 := HRd.out.at_ 4 rfl
              go_wp2
              refine bodyPost_ret (v := .tuple #[.agg #[.slice xa P.length xc, .slice ya (B.length + 1) yc, .slice za (A.length + 1) zc, .int .i64 (u + 1), .int .i64 n], .nilIface]) (by simp [results, Tryd.results64, go_sem, *]) rfl ?_
              rw [HG.out]
              have hoff := ((((((Off.refl (fun x => x = W.heap.size + 1 + 1 + 1) u5).setCell (p := ⟨W.heap.size + 1 + 1 + 1, 0, none⟩) (rfl) (.slice xa P.length xc)).setCell (p := ⟨W.heap.size + 1 + 1 + 1, 1, none⟩) (rfl) (.slice ya (B.length + 1) yc)).setCell (p := ⟨W.heap.size + 1 + 1 + 1, 2, none⟩) (rfl) (.slice za (A.length + 1) zc)).setCell (p := ⟨W.heap.size + 1 + 1 + 1, 3, none⟩) (rfl) (.int .i64 (u + 1))).setCell (p := ⟨W.heap.size + 1 + 1 + 1, 4, none⟩) (rfl) (.int .i64 n))
              have hbf := HBz.out.trans (hHeld.2.2 W.heap.size (by omega) hzz)
              exact ⟨_, _, rfl, let_fin HO0.out HO1.out HO2.out HL01.out HL12.out HE0.out HE1.out (Nat.le_refl _) hoff HGA.out (by have := HGA.out; omega) HE12.out HE02.out (by simp) (by simp), hbf, .inl ⟨rfl, rfl⟩⟩
            · skip
              go_simp
              have hb : Below u2.heap.size u2 (u2.alloc (.cells #[.int .i64 f0, .int .i64 f1, .int .i64 t0, .int .i64 t1, .int .i64 n, .int .i64 z] 87)) := (Below.refl _ _).alloc (Nat.le_refl _) _
              have HK1 := Lib.hid (Blk.new u2 87 #[.int .i64 f0, .int .i64 f1, .int .i64 t0, .int .i64 t1, .int .i64 n, .int .i64 z])
              obtain ⟨u7, hw⟩ : ∃ w', w' = u2.alloc (.cells #[.int .i64 f0, .int .i64 f1, .int .i64 t0, .int .i64 t1, .int .i64 n, .int .i64 z] 87) := ⟨_, rfl⟩
              rw [← hw] at hb HK1
              have HRd := Lib.hid (HRd.out.call hb)
              have HK0 := Lib.hid (HK0.out.call hb)
              have HO0 := Lib.hid (OwSl.keep R_Letter_ok HO0.out fun k hk => hb.block k (by have := HM0.out; unfold Rg at hk; omega))
              have HM0 := Lib.hid (Nat.le_trans HM0.out hb.size)
              rw [← hw]
              clear hw
              have HML0 := Lib.hid (Nat.le_trans HML0.out hb.size)
              refine hK.out _ _ (hHeld.trans (But2.of hb)) (fun hHeld => ?_)
              clear hb
              clear hK K
              try simp only [Act.put, List.getElem_toArray, List.getElem_cons_succ, List.getElem_cons_zero, List.setIfInBounds_toArray, List.set_cons_zero, List.set_cons_succ]
              refine wpAnyH_ready (rs := [7]) (by kernel_rfl) (by simp) ?_
              refine AllReadyH.cons rfl (fun K hK => ?_) (AllReadyH.nil)
              go_simp
              go_at_call 87
              refine (letters2_impl (M := [((f0, f1), (t0, t1), n, z)]) (by simp only [List.length_singleton]; omega) ((HB0.out.below R_Letter_ok (HBz.out.trans (hHeld.2.2 W.heap.size (by omega) hzz))).more R_Letter_ok (HBz.out.trans (hHeld.2.2 W.heap.size (by omega) hzz)).size) (rd_one f0 f1 t0 t1 n z HK0.out)).mono ?_
              intro e u8 h
              obtain ⟨ya, yc, rfl, ho, hb⟩ := newS_elim h
              have HRd := Lib.hid (HRd.out.call hb)
              have HK0 := Lib.hid (HK0.out.call hb)
              have HK1 := Lib.hid (HK1.out.call hb)
              have HO0 := Lib.hid (OwSl.keep R_Letter_ok HO0.out fun k hk => hb.block k (by have := HM0.out; unfold Rg at hk; omega))
              have HM0 := Lib.hid (Nat.le_trans HM0.out hb.size)
              have HO1 := Lib.hid ho
              have HM1 := Lib.hid (Nat.le_refl u8.heap.size)
              have HE1 := Lib.hid hb.size
              have HL01 := HML0
              clear h ho
              have HML1 := Lib.hid (Nat.le_refl u8.heap.size)
              refine hK.out _ _ (hHeld.trans (But2.of hb)) (fun hHeld => ?_)
              clear hb
              clear hK K
              try simp only [Act.put, List.getElem_toArray, List.getElem_cons_succ, List.getElem_cons_zero, List.setIfInBounds_toArray, List.set_cons_zero, List.set_cons_succ]
              refine wpAnyH_ready (rs := [12]) (by kernel_rfl) (by simp) ?_
              refine AllReadyH.cons rfl (fun K hK => ?_) (AllReadyH.nil)
              go_simp
              go_at_call 87
              refine (letters2_impl (M := [((f0, f1), (t0, t1), n, z)]) (by simp only [List.length_singleton]; omega) ((HA0.out.below R_Letter_ok (HBz.out.trans (hHeld.2.2 W.heap.size (by omega) hzz))).more R_Letter_ok (HBz.out.trans (hHeld.2.2 W.heap.size (by omega) hzz)).size) (rd_one f0 f1 t0 t1 n z HK1.out)).mono ?_
              intro e u9 h
              obtain ⟨za, zc, rfl, ho, hb⟩ := newS_elim h
              have HRd := Lib.hid (HRd.out.call hb)
              have HK0 := Lib.hid (HK0.out.call hb)
              have HK1 := Lib.hid (HK1.out.call hb)
              have HO0 := Lib.hid (OwSl.keep R_Letter_ok HO0.out fun k hk => hb.block k (by have := HM0.out; unfold Rg at hk; omega))
              have HM0 := Lib.hid (Nat.le_trans HM0.out hb.size)
              have HO1 := Lib.hid (OwSl.keep R_Letter_ok HO1.out fun k hk => hb.block k (by have := HM1.out; unfold Rg at hk; omega))
              have HM1 := Lib.hid (Nat.le_trans HM1.out hb.size)
              have HO2 := Lib.hid ho
              have HM2 := Lib.hid (Nat.le_refl u9.heap.size)
              have HE2 := Lib.hid hb.size
              have HL12 := HML1
              have HE12 := HM1
              have HE02 := HM0
              clear h ho
              have HML2 := Lib.hid (Nat.le_refl u9.heap.size)
              refine hK.out _ _ (hHeld.trans (But2.of hb)) (fun hHeld => ?_)
              clear hb
              clear hK K
              try simp only [Act.put, List.getElem_toArray, List.getElem_cons_succ, List.getElem_cons_zero, List.setIfInBounds_toArray, List.set_cons_zero, List.set_cons_succ]
              (refine wpAnyH_take (i := 18) (v := ?hv112) rfl (by kernel_rfl) (by kernel_rfl) (by kernel_rfl) (fun _ _ _ h => h) (Or.inl ⟨by kernel_rfl, ?hy112⟩) hHeld ?hr112; case hy112 => (intro w hSw; (try dsimp only at hSw); go_simp; try with_reducible rfl))
              simp only [Act.put, List.getElem_toArray, List.getElem_cons_succ, List.getElem_cons_zero, List.setIfInBounds_toArray, List.set_cons_zero, List.set_cons_succ]
              refine wpAnyH_ready (rs := [19]) (by kernel_rfl) (by simp) ?_
              refine AllReadyH.cons rfl (fun K hK => ?_) (AllReadyH.nil)
              have qHRd_0 := HRd.out.at_ 0 rfl
              have qHRd_1 := HRd.out.at_ 1 rfl
              have qHRd_2 := HRd.out.at_ 2 rfl
              have qHRd_3 := HRd.out.at_ 3 rfl
              have qHRd_4 := HRd.out.at_ 4 rfl
              have sHRd_0 := HRd.out.soft 0
              have sHRd_1 := HRd.out.soft 1
              have sHRd_2 := HRd.out.soft 2
              have sHRd_3 := HRd.out.soft 3
              have sHRd_4 := HRd.out.soft 4
              go_simp
              refine hK.out _ _ (hHeld.trans (But2.off ((((((Off.refl (fun x => x = W.heap.size + 1 + 1 + 1) u9).setCell (p := ⟨W.heap.size + 1 + 1 + 1, 0, none⟩) (rfl) (.slice xa P.length xc)).setCell (p := ⟨W.heap.size + 1 + 1 + 1, 1, none⟩) (rfl) (.slice ya (B.length + 1) yc)).setCell (p := ⟨W.heap.size + 1 + 1 + 1, 2, none⟩) (rfl) (.slice za (A.length + 1) zc)).setCell (p := ⟨W.heap.size + 1 + 1 + 1, 3, none⟩) (rfl) (.int .i64 (u + 1))).setCell (p := ⟨W.heap.size + 1 + 1 + 1, 4, none⟩) (rfl) (.int .i64 n)))) (fun hHeld => ?_)
              clear qHRd_0 sHRd_0 qHRd_1 sHRd_1 qHRd_2 sHRd_2 qHRd_3 sHRd_3 qHRd_4 sHRd_4
              clear hK K
              try simp only [Act.put, List.getElem_toArray, List.getElem_cons_succ, List.getElem_cons_zero, List.setIfInBounds_toArray, List.set_cons_zero, List.set_cons_succ]
              (refine wpAnyH_take (i := 20) (v := ?hv113) rfl (by kernel_rfl) (by kernel_rfl) (by kernel_rfl) (fun _ _ _ h => h) (Or.inl ⟨by kernel_rfl, ?hy113⟩) hHeld ?hr113; case hy113 => (intro w hSw; (try dsimp only at hSw); go_simp; try with_reducible rfl))
              simp only [Act.put, List.getElem_toArray, List.getElem_cons_succ, List.getElem_cons_zero, List.setIfInBounds_toArray, List.set_cons_zero, List.set_cons_succ]
              refine wpAnyH_done (by kernel_rfl) ?_ _
              have qHRd_0 := HRd.out.at_ 0 rfl
              have qHRd_1 := HRd.out.at_ 1 rfl
              have qHRd_2 := HRd.out.at_ 2 rfl
              have qHRd_3 := HRd.out.at_ 3 rfl
              have qHRd_4 := HRd.out.at_ 4 rfl
              go_wp2
              refine bodyPost_ret (v := .tuple #[.agg #[.slice xa P.length xc, .slice ya (B.length + 1) yc, .slice za (A.length + 1) zc, .int .i64 (u + 1), .int .i64 n], .nilIface]) (by simp [results, Tryd.results64, go_sem, *]) rfl ?_
              rw [HG.out]
              have hoff := ((((((Off.refl (fun x => x = W.heap.size + 1 + 1 + 1) u9).setCell (p := ⟨W.heap.size + 1 + 1 + 1, 0, none⟩) (rfl) (.slice xa P.length xc)).setCell (p := ⟨W.heap.size + 1 + 1 + 1, 1, none⟩) (rfl) (.slice ya (B.length + 1) yc)).setCell (p := ⟨W.heap.size + 1 + 1 + 1, 2, none⟩) (rfl) (.slice za (A.length + 1) zc)).setCell (p := ⟨W.heap.size + 1 + 1 + 1, 3, none⟩) (rfl) (.int .i64 (u + 1))).setCell (p := ⟨W.heap.size + 1 + 1 + 1, 4, none⟩) (rfl) (.int .i64 n))
              have hbf := HBz.out.trans (hHeld.2.2 W.heap.size (by omega) hzz)
              exact ⟨_, _, rfl, let_fin HO0.out HO1.out HO2.out HL01.out HL12.out HE0.out HE1.out (Nat.le_refl _) hoff HGA.out (by have := HGA.out; omega) HE12.out HE02.out (by simp) (by simp), hbf, .inl ⟨rfl, rfl⟩⟩
          · skip
            go_simp
            have hb : Below u1.heap.size u1 (u1.alloc (.cells #[.int .i64 f0, .int .i64 f1, .int .i64 t0, .int .i64 t1, .int .i64 n, .int .i64 z] 87)) := (Below.refl _ _).alloc (Nat.le_refl _) _
            have HK1 := Lib.hid (Blk.new u1 87 #[.int .i64 f0, .int .i64 f1, .int .i64 t0, .int .i64 t1, .int .i64 n, .int .i64 z])
            obtain ⟨u11, hw⟩ : ∃ w', w' = u1.alloc (.cells #[.int .i64 f0, .int .i64 f1, .int .i64 t0, .int .i64 t1, .int .i64 n, .int .i64 z] 87) := ⟨_, rfl⟩
            rw [← hw] at hb HK1
            have HRd := Lib.hid (HRd.out.call hb)
            have HO0 := Lib.hid (OwSl.keep R_Letter_ok HO0.out fun k hk => hb.block k (by have := HM0.out; unfold Rg at hk; omega))
            have HM0 := Lib.hid (Nat.le_trans HM0.out hb.size)
            rw [← hw]
            clear hw
            have HML0 := Lib.hid (Nat.le_trans HML0.out hb.size)
            refine hK.out _ _ (hHeld.trans (But2.of hb)) (fun hHeld => ?_)
            clear hb
            clear hK K
            try simp only [Act.put, List.getElem_toArray, List.getElem_cons_succ, List.getElem_cons_zero, List.setIfInBounds_toArray, List.set_cons_zero, List.set_cons_succ]
            refine wpAnyH_ready (rs := [6]) (by kernel_rfl) (by simp) ?_
            refine AllReadyH.cons rfl (fun K hK => ?_) (AllReadyH.nil)
            go_simp
            have hb : Below u11.heap.size u11 (u11.alloc (.cells #[.int .i64 f0, .int .i64 f1, .int .i64 t0, .int .i64 t1, .int .i64 n, .int .i64 z] 87)) := (Below.refl _ _).alloc (Nat.le_refl _) _
            have HK0 := Lib.hid (Blk.new u11 87 #[.int .i64 f0, .int .i64 f1, .int .i64 t0, .int .i64 t1, .int .i64 n, .int .i64 z])
            obtain ⟨u12, hw⟩ : ∃ w', w' = u11.alloc (.cells #[.int .i64 f0, .int .i64 f1, .int .i64 t0, .int .i64 t1, .int .i64 n, .int .i64 z] 87) := ⟨_, rfl⟩
            rw [← hw] at hb HK0
            have HRd := Lib.hid (HRd.out.call hb)
            have HK1 := Lib.hid (HK1.out.call hb)
            have HO0 := Lib.hid (OwSl.keep R_Letter_ok HO0.out fun k hk => hb.block k (by have := HM0.out; unfold Rg at hk; omega))
            have HM0 := Lib.hid (Nat.le_trans HM0.out hb.size)
            rw [← hw]
            clear hw
            have HML0 := Lib.hid (Nat.le_trans HML0.out hb.size)
            refine hK.out _ _ (hHeld.trans (But2.of hb)) (fun hHeld => ?_)
            clear hb
            clear hK K
            try simp only [Act.put, List.getElem_toArray, List.getElem_cons_succ, List.getElem_cons_zero, List.setIfInBounds_toArray, List.set_cons_zero, List.set_cons_succ]
            refine wpAnyH_ready (rs := [7]) (by kernel_rfl) (by simp) ?_
            refine AllReadyH.cons rfl (fun K hK => ?_) (AllReadyH.nil)
            go_simp
            go_at_call 87
            refine (letters2_impl (M := [((f0, f1), (t0, t1), n, z)]) (by simp only [List.length_singleton]; omega) ((HB0.out.below R_Letter_ok (HBz.out.trans (hHeld.2.2 W.heap.size (by omega) hzz))).more R_Letter_ok (HBz.out.trans (hHeld.2.2 W.heap.size (by omega) hzz)).size) (rd_one f0 f1 t0 t1 n z HK0.out)).mono ?_
            intro e u13 h
            obtain ⟨ya, yc, rfl, ho, hb⟩ := newS_elim h
            have HRd := Lib.hid (HRd.out.call hb)
            have HK1 := Lib.hid (HK1.out.call hb)
            have HK0 := Lib.hid (HK0.out.call hb)
            have HO0 := Lib.hid (OwSl.keep R_Letter_ok HO0.out fun k hk => hb.block k (by have := HM0.out; unfold Rg at hk; omega))
            have HM0 := Lib.hid (Nat.le_trans HM0.out hb.size)
            have HO1 := Lib.hid ho
            have HM1 := Lib.hid (Nat.le_refl u13.heap.size)
            have HE1 := Lib.hid hb.size
            have HL01 := HML0
            clear h ho
            have HML1 := Lib.hid (Nat.le_refl u13.heap.size)
            refine hK.out _ _ (hHeld.trans (But2.of hb)) (fun hHeld => ?_)
            clear hb
            clear hK K
            try simp only [Act.put, List.getElem_toArray, List.getElem_cons_succ, List.getElem_cons_zero, List.setIfInBounds_toArray, List.set_cons_zero, List.set_cons_succ]
            refine wpAnyH_ready (rs := [12]) (by kernel_rfl) (by simp) ?_
            refine AllReadyH.cons rfl (fun K hK => ?_) (AllReadyH.nil)
            go_simp
            go_at_call 87
            refine (letters2_impl (M := [((f0, f1), (t0, t1), n, z)]) (by simp only [List.length_singleton]; omega) ((HA0.out.below R_Letter_ok (HBz.out.trans (hHeld.2.2 W.heap.size (by omega) hzz))).more R_Letter_ok (HBz.out.trans (hHeld.2.2 W.heap.size (by omega) hzz)).size) (rd_one f0 f1 t0 t1 n z HK1.out)).mono ?_
            intro e u14 h
            obtain ⟨za, zc, rfl, ho, hb⟩ := newS_elim h
            have HRd := Lib.hid (HRd.out.call hb)
            have HK1 := Lib.hid (HK1.out.call hb)
            have HK0 := Lib.hid (HK0.out.call hb)
            have HO0 := Lib.hid (OwSl.keep R_Letter_ok HO0.out fun k hk => hb.block k (by have := HM0.out; unfold Rg at hk; omega))
            have HM0 := Lib.hid (Nat.le_trans HM0.out hb.size)
            have HO1 := Lib.hid (OwSl.keep R_Letter_ok HO1.out fun k hk => hb.block k (by have := HM1.out; unfold Rg at hk; omega))
            have HM1 := Lib.hid (Nat.le_trans HM1.out hb.size)
            have HO2 := Lib.hid ho
            have HM2 := Lib.hid (Nat.le_refl u14.heap.size)
            have HE2 := Lib.hid hb.size
            have HL12 := HML1
            have HE12 := HM1
            have HE02 := HM0
            clear h ho
            have HML2 := Lib.hid (Nat.le_refl u14.heap.size)
            refine hK.out _ _ (hHeld.trans (But2.of hb)) (fun hHeld => ?_)
            clear hb
            clear hK K
            try simp only [Act.put, List.getElem_toArray, List.getElem_cons_succ, List.getElem_cons_zero, List.setIfInBounds_toArray, List.set_cons_zero, List.set_cons_succ]
            (refine wpAnyH_take (i := 18) (v := ?hv114) rfl (by kernel_rfl) (by kernel_rfl) (by kernel_rfl) (fun _ _ _ h => h) (Or.inl ⟨by kernel_rfl, ?hy114⟩) hHeld ?hr114; case hy114 => (intro w hSw; (try dsimp only at hSw); go_simp; try with_reducible rfl))
            simp only [Act.put, List.getElem_toArray, List.getElem_cons_succ, List.getElem_cons_zero, List.setIfInBounds_toArray, List.set_cons_zero, List.set_cons_succ]
            refine wpAnyH_ready (rs := [19]) (by kernel_rfl) (by simp) ?_
            refine AllReadyH.cons rfl (fun K hK => ?_) (AllReadyH.nil)
            have qHRd_0 := HRd.out.at_ 0 rfl
            have qHRd_1 := HRd.out.at_ 1 rfl
            have qHRd_2 := HRd.out.at_ 2 rfl
            have qHRd_3 := HRd.out.at_ 3 rfl
            have qHRd_4 := HRd.out.at_ 4 rfl
            have sHRd_0 := HRd.out.soft 0
            have sHRd_1 := HRd.out.soft 1
            have sHRd_2 := HRd.out.soft 2
            have sHRd_3 := HRd.out.soft 3
            have sHRd_4 := HRd.out.soft 4
            go_simp
            refine hK.out _ _ (hHeld.trans (But2.off ((((((Off.refl (fun x => x = W.heap.size + 1 + 1 + 1) u14).setCell (p := ⟨W.heap.size + 1 + 1 + 1, 0, none⟩) (rfl) (.slice xa P.length xc)).setCell (p := ⟨W.heap.size + 1 + 1 + 1, 1, none⟩) (rfl) (.slice ya (B.length + 1) yc)).setCell (p := ⟨W.heap.size + 1 + 1 + 1, 2, none⟩) (rfl) (.slice za (A.length + 1) zc)).setCell (p := ⟨W.heap.size + 1 + 1 + 1, 3, none⟩) (rfl) (.int .i64 (u + 1))).setCell (p := ⟨W.heap.size + 1 + 1 + 1, 4, none⟩) (rfl) (.int .i64 n)))) (fun hHeld => ?_)
            clear qHRd_0 sHRd_0 qHRd_1 sHRd_1 qHRd_2 sHRd_2 qHRd_3 sHRd_3 qHRd_4 sHRd_4
            clear hK K
            try simp only [Act.put, List.getElem_toArray, List.getElem_cons_succ, List.getElem_cons_zero, List.setIfInBounds_toArray, List.set_cons_zero, List.set_cons_succ]
            (refine wpAnyH_take (i := 20) (v := ?hv115) rfl (by kernel_rfl) (by kernel_rfl) (by kernel_rfl) (fun _ _ _ h => h) (Or.inl ⟨by kernel_rfl, ?hy115⟩) hHeld ?hr115; case hy115 => (intro w hSw; (try dsimp only at hSw); go_simp; try with_reducible rfl))
            simp only [Act.put, List.getElem_toArray, List.getElem_cons_succ, List.getElem_cons_zero, List.setIfInBounds_toArray, List.set_cons_zero, List.set_cons_succ]
            refine wpAnyH_done (by kernel_rfl) ?_ _
            have qHRd_0 := HRd.out.at_ 0 rfl
            have qHRd_1 := HRd.out.at_ 1 rfl
            have qHRd_2 := HRd.out.at_ 2 rfl
            have qHRd_3 := HRd.out.at_ 3 rfl
            have qHRd_4 := HRd.out.at_ 4 rfl
            go_wp2
            refine bodyPost_ret (v := .tuple #[.agg #[.slice xa P.length xc, .slice ya (B.length + 1) yc, .slice za (A.length + 1) zc, .int .i64 (u + 1), .int .i64 n], .nilIface]) (by simp [results, Tryd.results64, go_sem, *]) rfl ?_
            rw [HG.out]
            have hoff := ((((((Off.refl (fun x => x = W.heap.size + 1 + 1 + 1) u14).setCell (p := ⟨W.heap.size + 1 + 1 + 1, 0, none⟩) (rfl) (.slice xa P.length xc)).setCell (p := ⟨W.heap.size + 1 + 1 + 1, 1, none⟩) (rfl) (.slice ya (B.length + 1) yc)).setCell (p := ⟨W.heap.size + 1 + 1 + 1, 2, none⟩) (rfl) (.slice za (A.length + 1) zc)).setCell (p := ⟨W.heap.size + 1 + 1 + 1, 3, none⟩) (rfl) (.int .i64 (u + 1))).setCell (p := ⟨W.heap.size + 1 + 1 + 1, 4, none⟩) (rfl) (.int .i64 n))
            have hbf := HBz.out.trans (hHeld.2.2 W.heap.size (by omega) hzz)
            exact ⟨_, _, rfl, let_fin HO0.out HO1.out HO2.out HL01.out HL12.out HE0.out HE1.out (Nat.le_refl _) hoff HGA.out (by have := HGA.out; omega) HE12.out HE02.out (by simp) (by simp), hbf, .inl ⟨rfl, rfl⟩⟩
        · skip
          go_simp
          have hb : Below wd.heap.size wd (wd.alloc (.cells #[.int .i64 f0, .int .i64 f1, .int .i64 t0, .int .i64 t1, .int .i64 n, .int .i64 z] 87)) := (Below.refl _ _).alloc (Nat.le_refl _) _
          have HK0 := Lib.hid (Blk.new wd 87 #[.int .i64 f0, .int .i64 f1, .int .i64 t0, .int .i64 t1, .int .i64 n, .int .i64 z])
          obtain ⟨u16, hw⟩ : ∃ w', w' = wd.alloc (.cells #[.int .i64 f0, .int .i64 f1, .int .i64 t0, .int .i64 t1, .int .i64 n, .int .i64 z] 87) := ⟨_, rfl⟩
          rw [← hw] at hb HK0
          have HRd := Lib.hid (HRd.out.call hb)
          rw [← hw]
          clear hw
          refine hK.out _ _ (hHeld.trans (But2.of hb)) (fun hHeld => ?_)
          clear hb
          clear hK K
          try simp only [Act.put, List.getElem_toArray, List.getElem_cons_succ, List.getElem_cons_zero, List.setIfInBounds_toArray, List.set_cons_zero, List.set_cons_succ]
          refine wpAnyH_ready (rs := [2, 11]) (by kernel_rfl) (by simp) ?_
          refine AllReadyH.cons rfl (fun K hK => ?_) (AllReadyH.cons rfl (fun K hK => ?_) (AllReadyH.nil))
          · skip
            go_simp
            go_at_call 87
            refine (letters1_impl (by omega) ((HP0.out.below R_Letter_ok (HBz.out.trans (hHeld.2.2 W.heap.size (by omega) hzz))).more R_Letter_ok (HBz.out.trans (hHeld.2.2 W.heap.size (by omega) hzz)).size)).mono ?_
            intro e u17 h
            obtain ⟨xa, xc, rfl, ho, hb⟩ := newS_elim h
            have HRd := Lib.hid (HRd.out.call hb)
            have HK0 := Lib.hid (HK0.out.call hb)
            have HO0 := Lib.hid ho
            have HM0 := Lib.hid (Nat.le_refl u17.heap.size)
            have HE0 := Lib.hid hb.size
            have HGA := Lib.hid (show W.heap.size + 1 + 1 + 1 < u16.heap.size from Nat.lt_of_lt_of_le hgz hHeld.1)
            clear h ho
            have HML0 := Lib.hid (Nat.le_refl u17.heap.size)
            refine hK.out _ _ (hHeld.trans (But2.of hb)) (fun hHeld => ?_)
            clear hb
            clear hK K
            try simp only [Act.put, List.getElem_toArray, List.getElem_cons_succ, List.getElem_cons_zero, List.setIfInBounds_toArray, List.set_cons_zero, List.set_cons_succ]
            refine wpAnyH_ready (rs := [7, 11]) (by kernel_rfl) (by simp) ?_
            refine AllReadyH.cons rfl (fun K hK => ?_) (AllReadyH.cons rfl (fun K hK => ?_) (AllReadyH.nil))
            · skip
              go_simp
              go_at_call 87
              refine (letters2_impl (M := [((f0, f1), (t0, t1), n, z)]) (by simp only [List.length_singleton]; omega) ((HB0.out.below R_Letter_ok (HBz.out.trans (hHeld.2.2 W.heap.size (by omega) hzz))).more R_Letter_ok (HBz.out.trans (hHeld.2.2 W.heap.size (by omega) hzz)).size) (rd_one f0 f1 t0 t1 n z HK0.out)).mono ?_
              intro e u18 h
              obtain ⟨ya, yc, rfl, ho, hb⟩ := newS_elim h
              have HRd := Lib.hid (HRd.out.call hb)
              have HK0 := Lib.hid (HK0.out.call hb)
              have HO0 := Lib.hid (OwSl.keep R_Letter_ok HO0.out fun k hk => hb.block k (by have := HM0.out; unfold Rg at hk; omega))
              have HM0 := Lib.hid (Nat.le_trans HM0.out hb.size)
              have HO1 := Lib.hid ho
              have HM1 := Lib.hid (Nat.le_refl u18.heap.size)
              have HE1 := Lib.hid hb.size
              have HL01 := HML0
              clear h ho
              have HML1 := Lib.hid (Nat.le_refl u18.heap.size)
              refine hK.out _ _ (hHeld.trans (But2.of hb)) (fun hHeld => ?_)
              clear hb
              clear hK K
              try simp only [Act.put, List.getElem_toArray, List.getElem_cons_succ, List.getElem_cons_zero, List.setIfInBounds_toArray, List.set_cons_zero, List.set_cons_succ]
              refine wpAnyH_ready (rs := [11]) (by kernel_rfl) (by simp) ?_
              refine AllReadyH.cons rfl (fun K hK => ?_) (AllReadyH.nil)
              go_simp
              have hb : Below u18.heap.size u18 (u18.alloc (.cells #[.int .i64 f0, .int .i64 f1, .int .i64 t0, .int .i64 t1, .int .i64 n, .int .i64 z] 87)) := (Below.refl _ _).alloc (Nat.le_refl _) _
              have HK1 := Lib.hid (Blk.new u18 87 #[.int .i64 f0, .int .i64 f1, .int .i64 t0, .int .i64 t1, .int .i64 n, .int .i64 z])
              obtain ⟨u19, hw⟩ : ∃ w', w' = u18.alloc (.cells #[.int .i64 f0, .int .i64 f1, .int .i64 t0, .int .i64 t1, .int .i64 n, .int .i64 z] 87) := ⟨_, rfl⟩
              rw [← hw] at hb HK1
              have HRd := Lib.hid (HRd.out.call hb)
              have HK0 := Lib.hid (HK0.out.call hb)
              have HO0 := Lib.hid (OwSl.keep R_Letter_ok HO0.out fun k hk => hb.block k (by have := HM0.out; unfold Rg at hk; omega))
              have HM0 := Lib.hid (Nat.le_trans HM0.out hb.size)
              have HO1 := Lib.hid (OwSl.keep R_Letter_ok HO1.out fun k hk => hb.block k (by have := HM1.out; unfold Rg at hk; omega))
              have HM1 := Lib.hid (Nat.le_trans HM1.out hb.size)
              rw [← hw]
              clear hw
              have HML1 := Lib.hid (Nat.le_trans HML1.out hb.size)
              refine hK.out _ _ (hHeld.trans (But2.of hb)) (fun hHeld => ?_)
              clear hb
              clear hK K
              try simp only [Act.put, List.getElem_toArray, List.getElem_cons_succ, List.getElem_cons_zero, List.setIfInBounds_toArray, List.set_cons_zero, List.set_cons_succ]
              refine wpAnyH_ready (rs := [12]) (by kernel_rfl) (by simp) ?_
              refine AllReadyH.cons rfl (fun K hK => ?_) (AllReadyH.nil)
              go_simp
              go_at_call 87
              refine (letters2_impl (M := [((f0, f1), (t0, t1), n, z)]) (by simp only [List.length_singleton]; omega) ((HA0.out.below R_Letter_ok (HBz.out.trans (hHeld.2.2 W.heap.size (by omega) hzz))).more R_Letter_ok (HBz.out.trans (hHeld.2.2 W.heap.size (by omega) hzz)).size) (rd_one f0 f1 t0 t1 n z HK1.out)).mono ?_
              intro e u20 h
              obtain ⟨za, zc, rfl, ho, hb⟩ := newS_elim h
              have HRd := Lib.hid (HRd.out.call hb)
              have HK0 := Lib.hid (HK0.out.call hb)
              have HK1 := Lib.hid (HK1.out.call hb)
              have HO0 := Lib.hid (OwSl.keep R_Letter_ok HO0.out fun k hk => hb.block k (by have := HM0.out; unfold Rg at hk; omega))
              have HM0 := Lib.hid (Nat.le_trans HM0.out hb.size)
              have HO1 := Lib.hid (OwSl.keep R_Letter_ok HO1.out fun k hk => hb.block k (by have := HM1.out; unfold Rg at hk; omega))
              have HM1 := Lib.hid (Nat.le_trans HM1.out hb.size)
              have HO2 := Lib.hid ho
              have HM2 := Lib.hid (Nat.le_refl u20.heap.size)
              have HE2 := Lib.hid hb.size
              have HL12 := HML1
              have HE12 := HM1
              have HE02 := HM0
              clear h ho
              have HML2 := Lib.hid (Nat.le_refl u20.heap.size)
              refine hK.out _ _ (hHeld.trans (But2.of hb)) (fun hHeld => ?_)
              clear hb
              clear hK K
              try simp only [Act.put, List.getElem_toArray, List.getElem_cons_succ, List.getElem_cons_zero, List.setIfInBounds_toArray, List.set_cons_zero, List.set_cons_succ]
              (refine wpAnyH_take (i := 18) (v := ?hv116) rfl (by kernel_rfl) (by kernel_rfl) (by kernel_rfl) (fun _ _ _ h => h) (Or.inl ⟨by kernel_rfl, ?hy116⟩) hHeld ?hr116; case hy116 => (intro w hSw; (try dsimp only at hSw); go_simp; try with_reducible rfl))
              simp only [Act.put, List.getElem_toArray, List.getElem_cons_succ, List.getElem_cons_zero, List.setIfInBounds_toArray, List.set_cons_zero, List.set_cons_succ]
              refine wpAnyH_ready (rs := [19]) (by kernel_rfl) (by simp) ?_
              refine AllReadyH.cons rfl (fun K hK => ?_) (AllReadyH.nil)
              have qHRd_0 := HRd.out.at_ 0 rfl
              have qHRd_1 := HRd.out.at_ 1 rfl
              have qHRd_2 := HRd.out.at_ 2 rfl
              have qHRd_3 := HRd.out.at_ 3 rfl
              have qHRd_4 := HRd.out.at_ 4 rfl
              have sHRd_0 := HRd.out.soft 0
              have sHRd_1 := HRd.out.soft 1
              have sHRd_2 := HRd.out.soft 2
              have sHRd_3 := HRd.out.soft 3
              have sHRd_4 := HRd.out.soft 4
              go_simp
              refine hK.out _ _ (hHeld.trans (But2.off ((((((Off.refl (fun x => x = W.heap.size + 1 + 1 + 1) u20).setCell (p := ⟨W.heap.size + 1 + 1 + 1, 0, none⟩) (rfl) (.slice xa P.length xc)).setCell (p := ⟨W.heap.size + 1 + 1 + 1, 1, none⟩) (rfl) (.slice ya (B.length + 1) yc)).setCell (p := ⟨W.heap.size + 1 + 1 + 1, 2, none⟩) (rfl) (.slice za (A.length + 1) zc)).setCell (p := ⟨W.heap.size + 1 + 1 + 1, 3, none⟩) (rfl) (.int .i64 (u + 1))).setCell (p := ⟨W.heap.size + 1 + 1 + 1, 4, none⟩) (rfl) (.int .i64 n)))) (fun hHeld => ?_)
              clear qHRd_0 sHRd_0 qHRd_1 sHRd_1 qHRd_2 sHRd_2 qHRd_3 sHRd_3 qHRd_4 sHRd_4
              clear hK K
              try simp only [Act.put, List.getElem_toArray, List.getElem_cons_succ, List.getElem_cons_zero, List.setIfInBounds_toArray, List.set_cons_zero, List.set_cons_succ]
              (refine wpAnyH_take (i := 20) (v := ?hv117) rfl (by kernel_rfl) (by kernel_rfl) (by kernel_rfl) (fun _ _ _ h => h) (Or.inl ⟨by kernel_rfl, ?hy117⟩) hHeld ?hr117; case hy117 => (intro w hSw; (try dsimp only at hSw); go_simp; try with_reducible rfl))
              simp only [Act.put, List.getElem_toArray, List.getElem_cons_succ, List.getElem_cons_zero, List.setIfInBounds_toArray, List.set_cons_zero, List.set_cons_succ]
              refine wpAnyH_done (by kernel_rfl) ?_ _
              have qHRd_0 := HRd.out.at_ 0 rfl
              have qHRd_1 := HRd.out.at_ 1 rfl
              have qHRd_2 := HRd.out.at_ 2 rfl
              have qHRd_3 := HRd.out.at_ 3 rfl
              have qHRd_4 := HRd.out.at_ 4 rfl
              go_wp2
              refine bodyPost_ret (v := .tuple #[.agg #[.slice xa P.length xc, .slice ya (B.length + 1) yc, .slice za (A.length + 1) zc, .int .i64 (u + 1), .int .i64 n], .nilIface]) (by simp [results, Tryd.results64, go_sem, *]) rfl ?_
              rw [HG.out]
              have hoff := ((((((Off.refl (fun x => x = W.heap.size + 1 + 1 + 1) u20).setCell (p := ⟨W.heap.size + 1 + 1 + 1, 0, none⟩) (rfl) (.slice xa P.length xc)).setCell (p := ⟨W.heap.size + 1 + 1 + 1, 1, none⟩) (rfl) (.slice ya (B.length + 1) yc)).setCell (p := ⟨W.heap.size + 1 + 1 + 1, 2, none⟩) (rfl) (.slice za (A.length + 1) zc)).setCell (p := ⟨W.heap.size + 1 + 1 + 1, 3, none⟩) (rfl) (.int .i64 (u + 1))).setCell (p := ⟨W.heap.size + 1 + 1 + 1, 4, none⟩) (rfl) (.int .i64 n))
              have hbf := HBz.out.trans (hHeld.2.2 W.heap.size (by omega) hzz)
              exact ⟨_, _, rfl, let_fin HO0.out HO1.out HO2.out HL01.out HL12.out HE0.out HE1.out (Nat.le_refl _) hoff HGA.out (by have := HGA.out; omega) HE12.out HE02.out (by simp) (by simp), hbf, .inl ⟨rfl, rfl⟩⟩
            · skip
              go_simp
              have hb : Below u17.heap.size u17 (u17.alloc (.cells #[.int .i64 f0, .int .i64 f1, .int .i64 t0, .int .i64 t1, .int .i64 n, .int .i64 z] 87)) := (Below.refl _ _).alloc (Nat.le_refl _) _
              have HK1 := Lib.hid (Blk.new u17 87 #[.int .i64 f0, .int .i64 f1, .int .i64 t0, .int .i64 t1, .int .i64 n, .int .i64 z])
              obtain ⟨u22, hw⟩ : ∃ w', w' = u17.alloc (.cells #[.int .i64 f0, .int .i64 f1, .int .i64 t0, .int .i64 t1, .int .i64 n, .int .i64 z] 87) := ⟨_, rfl⟩
              rw [← hw] at hb HK1
              have HRd := Lib.hid (HRd.out.call hb)
              have HK0 := Lib.hid (HK0.out.call hb)
              have HO0 := Lib.hid (OwSl.keep R_Letter_ok HO0.out fun k hk => hb.block k (by have := HM0.out; unfold Rg at hk; omega))
              have HM0 := Lib.hid (Nat.le_trans HM0.out hb.size)
              rw [← hw]
              clear hw
              have HML0 := Lib.hid (Nat.le_trans HML0.out hb.size)
              refine hK.out _ _ (hHeld.trans (But2.of hb)) (fun hHeld => ?_)
              clear hb
              clear hK K
              try simp only [Act.put, List.getElem_toArray, List.getElem_cons_succ, List.getElem_cons_zero, List.setIfInBounds_toArray, List.set_cons_zero, List.set_cons_succ]
              refine wpAnyH_ready (rs := [7]) (by kernel_rfl) (by simp) ?_
              refine AllReadyH.cons rfl (fun K hK => ?_) (AllReadyH.nil)
              go_simp
              go_at_call 87
              refine (letters2_impl (M := [((f0, f1), (t0, t1), n, z)]) (by simp only [List.length_singleton]; omega) ((HB0.out.below R_Letter_ok (HBz.out.trans (hHeld.2.2 W.heap.size (by omega) hzz))).more R_Letter_ok (HBz.out.trans (hHeld.2.2 W.heap.size (by omega) hzz)).size) (rd_one f0 f1 t0 t1 n z HK0.out)).mono ?_
              intro e u23 h
              obtain ⟨ya, yc, rfl, ho, hb⟩ := newS_elim h
              have HRd := Lib.hid (HRd.out.call hb)
              have HK0 := Lib.hid (HK0.out.call hb)
              have HK1 := Lib.hid (HK1.out.call hb)
              have HO0 := Lib.hid (OwSl.keep R_Letter_ok HO0.out fun k hk => hb.block k (by have := HM0.out; unfold Rg at hk; omega))
              have HM0 := Lib.hid (Nat.le_trans HM0.out hb.size)
              have HO1 := Lib.hid ho
              have HM1 := Lib.hid (Nat.le_refl u23.heap.size)
              have HE1 := Lib.hid hb.size
              have HL01 := HML0
              clear h ho
              have HML1 := Lib.hid (Nat.le_refl u23.heap.size)
              refine hK.out _ _ (hHeld.trans (But2.of hb)) (fun hHeld => ?_)
              clear hb
              clear hK K
              try simp only [Act.put, List.getElem_toArray, List.getElem_cons_succ, List.getElem_cons_zero, List.setIfInBounds_toArray, List.set_cons_zero, List.set_cons_succ]
              refine wpAnyH_ready (rs := [12]) (by kernel_rfl) (by simp) ?_
              refine AllReadyH.cons rfl (fun K hK => ?_) (AllReadyH.nil)
              go_simp
              go_at_call 87
              refine (letters2_impl (M := [((f0, f1), (t0, t1), n, z)]) (by simp only [List.length_singleton]; omega) ((HA0.out.below R_Letter_ok (HBz.out.trans (hHeld.2.2 W.heap.size (by omega) hzz))).more R_Letter_ok (HBz.out.trans (hHeld.2.2 W.heap.size (by omega) hzz)).size) (rd_one f0 f1 t0 t1 n z HK1.out)).mono ?_
              intro e u24 h
              obtain ⟨za, zc, rfl, ho, hb⟩ := newS_elim h
              have HRd := Lib.hid (HRd.out.call hb)
              have HK0 := Lib.hid (HK0.out.call hb)
              have HK1 := Lib.hid (HK1.out.call hb)
              have HO0 := Lib.hid (OwSl.keep R_Letter_ok HO0.out fun k hk => hb.block k (by have := HM0.out; unfold Rg at hk; omega))
              have HM0 := Lib.hid (Nat.le_trans HM0.out hb.size)
              have HO1 := Lib.hid (OwSl.keep R_Letter_ok HO1.out fun k hk => hb.block k (by have := HM1.out; unfold Rg at hk; omega))
              have HM1 := Lib.hid (Nat.le_trans HM1.out hb.size)
              have HO2 := Lib.hid ho
              have HM2 := Lib.hid (Nat.le_refl u24.heap.size)
              have HE2 := Lib.hid hb.size
              have HL12 := HML1
              have HE12 := HM1
              have HE02 := HM0
              clear h ho
              have HML2 := Lib.hid (Nat.le_refl u24.heap.size)
              refine hK.out _ _ (hHeld.trans (But2.of hb)) (fun hHeld => ?_)
              clear hb
              clear hK K
              try simp only [Act.put, List.getElem_toArray, List.getElem_cons_succ, List.getElem_cons_zero, List.setIfInBounds_toArray, List.set_cons_zero, List.set_cons_succ]
              (refine wpAnyH_take (i := 18) (v := ?hv118) rfl (by kernel_rfl) (by kernel_rfl) (by kernel_rfl) (fun _ _ _ h => h) (Or.inl ⟨by kernel_rfl, ?hy118⟩) hHeld ?hr118; case hy118 => (intro w hSw; (try dsimp only at hSw); go_simp; try with_reducible rfl))
              simp only [Act.put, List.getElem_toArray, List.getElem_cons_succ, List.getElem_cons_zero, List.setIfInBounds_toArray, List.set_cons_zero, List.set_cons_succ]
              refine wpAnyH_ready (rs := [19]) (by kernel_rfl) (by simp) ?_
              refine AllReadyH.cons rfl (fun K hK => ?_) (AllReadyH.nil)
              have qHRd_0 := HRd.out.at_ 0 rfl
              have qHRd_1 := HRd.out.at_ 1 rfl
              have qHRd_2 := HRd.out.at_ 2 rfl
              have qHRd_3 := HRd.out.at_ 3 rfl
              have qHRd_4 := HRd.out.at_ 4 rfl
              have sHRd_0 := HRd.out.soft 0
              have sHRd_1 := HRd.out.soft 1
              have sHRd_2 := HRd.out.soft 2
              have sHRd_3 := HRd.out.soft 3
              have sHRd_4 := HRd.out.soft 4
              go_simp
              refine hK.out _ _ (hHeld.trans (But2.off ((((((Off.refl (fun x => x = W.heap.size + 1 + 1 + 1) u24).setCell (p := ⟨W.heap.size + 1 + 1 + 1, 0, none⟩) (rfl) (.slice xa P.length xc)).setCell (p := ⟨W.heap.size + 1 + 1 + 1, 1, none⟩) (rfl) (.slice ya (B.length + 1) yc)).setCell (p := ⟨W.heap.size + 1 + 1 + 1, 2, none⟩) (rfl) (.slice za (A.length + 1) zc)).setCell (p := ⟨W.heap.size + 1 + 1 + 1, 3, none⟩) (rfl) (.int .i64 (u + 1))).setCell (p := ⟨W.heap.size + 1 + 1 + 1, 4, none⟩) (rfl) (.int .i64 n)))) (fun hHeld => ?_)
              clear qHRd_0 sHRd_0 qHRd_1 sHRd_1 qHRd_2 sHRd_2 qHRd_3 sHRd_3 qHRd_4 sHRd_4
              clear hK K
              try simp only [Act.put, List.getElem_toArray, List.getElem_cons_succ, List.getElem_cons_zero, List.setIfInBounds_toArray, List.set_cons_zero, List.set_cons_succ]
              (refine wpAnyH_take (i := 20) (v := ?hv119) rfl (by kernel_rfl) (by kernel_rfl) (by kernel_rfl) (fun _ _ _ h => h) (Or.inl ⟨by kernel_rfl, ?hy119⟩) hHeld ?hr119; case hy119 => (intro w hSw; (try dsimp only at hSw); go_simp; try with_reducible rfl))
              simp only [Act.put, List.getElem_toArray, List.getElem_cons_succ, List.getElem_cons_zero, List.setIfInBounds_toArray, List.set_cons_zero, List.set_cons_succ]
              refine wpAnyH_done (by kernel_rfl) ?_ _
              have qHRd_0 := HRd.out.at_ 0 rfl
              have qHRd_1 := HRd.out.at_ 1 rfl
              have qHRd_2 := HRd.out.at_ 2 rfl
              have qHRd_3 := HRd.out.at_ 3 rfl
              have qHRd_4 := HRd.out.at_ 4 rfl
              go_wp2
              refine bodyPost_ret (v := .tuple #[.agg #[.slice xa P.length xc, .slice ya (B.length + 1) yc, .slice za (A.length + 1) zc, .int .i64 (u + 1), .int .i64 n], .nilIface]) (by simp [results, Tryd.results64, go_sem, *]) rfl ?_
              rw [HG.out]
              have hoff := ((((((Off.refl (fun x => x = W.heap.size + 1 + 1 + 1) u24).setCell (p := ⟨W.heap.size + 1 + 1 + 1, 0, none⟩) (rfl) (.slice xa P.length xc)).setCell (p := ⟨W.heap.size + 1 + 1 + 1, 1, none⟩) (rfl) (.slice ya (B.length + 1) yc)).setCell (p := ⟨W.heap.size + 1 + 1 + 1, 2, none⟩) (rfl) (.slice za (A.length + 1) zc)).setCell (p := ⟨W.heap.size + 1 + 1 + 1, 3, none⟩) (rfl) (.int .i64 (u + 1))).setCell (p := ⟨W.heap.size + 1 + 1 + 1, 4, none⟩) (rfl) (.int .i64 n))
              have hbf := HBz.out.trans (hHeld.2.2 W.heap.size (by omega) hzz)
              exact ⟨_, _, rfl, let_fin HO0.out HO1.out HO2.out HL01.out HL12.out HE0.out HE1.out (Nat.le_refl _) hoff HGA.out (by have := HGA.out; omega) HE12.out HE02.out (by simp) (by simp), hbf, .inl ⟨rfl, rfl⟩⟩
          · skip
            go_simp
            have hb : Below u16.heap.size u16 (u16.alloc (.cells #[.int .i64 f0, .int .i64 f1, .int .i64 t0, .int .i64 t1, .int .i64 n, .int .i64 z] 87)) := (Below.refl _ _).alloc (Nat.le_refl _) _
            have HK1 := Lib.hid (Blk.new u16 87 #[.int .i64 f0, .int .i64 f1, .int .i64 t0, .int .i64 t1, .int .i64 n, .int .i64 z])
            obtain ⟨u26, hw⟩ : ∃ w', w' = u16.alloc (.cells #[.int .i64 f0, .int .i64 f1, .int .i64 t0, .int .i64 t1, .int .i64 n, .int .i64 z] 87) := ⟨_, rfl⟩
            rw [← hw] at hb HK1
            have HRd := Lib.hid (HRd.out.call hb)
            have HK0 := Lib.hid (HK0.out.call hb)
            rw [← hw]
            clear hw
            refine hK.out _ _ (hHeld.trans (But2.of hb)) (fun hHeld => ?_)
            clear hb
            clear hK K
            try simp only [Act.put, List.getElem_toArray, List.getElem_cons_succ, List.getElem_cons_zero, List.setIfInBounds_toArray, List.set_cons_zero, List.set_cons_succ]
            refine wpAnyH_ready (rs := [2]) (by kernel_rfl) (by simp) ?_
            refine AllReadyH.cons rfl (fun K hK => ?_) (AllReadyH.nil)
            go_simp
            go_at_call 87
            refine (letters1_impl (by omega) ((HP0.out.below R_Letter_ok (HBz.out.trans (hHeld.2.2 W.heap.size (by omega) hzz))).more R_Letter_ok (HBz.out.trans (hHeld.2.2 W.heap.size (by omega) hzz)).size)).mono ?_
            intro e u27 h
            obtain ⟨xa, xc, rfl, ho, hb⟩ := newS_elim h
            have HRd := Lib.hid (HRd.out.call hb)
            have HK0 := Lib.hid (HK0.out.call hb)
            have HK1 := Lib.hid (HK1.out.call hb)
            have HO0 := Lib.hid ho
            have HM0 := Lib.hid (Nat.le_refl u27.heap.size)
            have HE0 := Lib.hid hb.size
            have HGA := Lib.hid (show W.heap.size + 1 + 1 + 1 < u26.heap.size from Nat.lt_of_lt_of_le hgz hHeld.1)
            clear h ho
            have HML0 := Lib.hid (Nat.le_refl u27.heap.size)
            refine hK.out _ _ (hHeld.trans (But2.of hb)) (fun hHeld => ?_)
            clear hb
            clear hK K
            try simp only [Act.put, List.getElem_toArray, List.getElem_cons_succ, List.getElem_cons_zero, List.setIfInBounds_toArray, List.set_cons_zero, List.set_cons_succ]
            refine wpAnyH_ready (rs := [7]) (by kernel_rfl) (by simp) ?_
            refine AllReadyH.cons rfl (fun K hK => ?_) (AllReadyH.nil)
            go_simp
            go_at_call 87
            refine (letters2_impl (M := [((f0, f1), (t0, t1), n, z)]) (by simp only [List.length_singleton]; omega) ((HB0.out.below R_Letter_ok (HBz.out.trans (hHeld.2.2 W.heap.size (by omega) hzz))).more R_Letter_ok (HBz.out.trans (hHeld.2.2 W.heap.size (by omega) hzz)).size) (rd_one f0 f1 t0 t1 n z HK0.out)).mono ?_
            intro e u28 h
            obtain ⟨ya, yc, rfl, ho, hb⟩ := newS_elim h
            have HRd := Lib.hid (HRd.out.call hb)
            have HK0 := Lib.hid (HK0.out.call hb)
            have HK1 := Lib.hid (HK1.out.call hb)
            have HO0 := Lib.hid (OwSl.keep R_Letter_ok HO0.out fun k hk => hb.block k (by have := HM0.out; unfold Rg at hk; omega))
            have HM0 := Lib.hid (Nat.le_trans HM0.out hb.size)
            have HO1 := Lib.hid ho
            have HM1 := Lib.hid (Nat.le_refl u28.heap.size)
            have HE1 := Lib.hid hb.size
            have HL01 := HML0
            clear h ho
            have HML1 := Lib.hid (Nat.le_refl u28.heap.size)
            refine hK.out _ _ (hHeld.trans (But2.of hb)) (fun hHeld => ?_)
            clear hb
            clear hK K
            try simp only [Act.put, List.getElem_toArray, List.getElem_cons_succ, List.getElem_cons_zero, List.setIfInBounds_toArray, List.set_cons_zero, List.set_cons_succ]
            refine wpAnyH_ready (rs := [12]) (by kernel_rfl) (by simp) ?_
            refine AllReadyH.cons rfl (fun K hK => ?_) (AllReadyH.nil)
            go_simp
            go_at_call 87
            refine (letters2_impl (M := [((f0, f1), (t0, t1), n, z)]) (by simp only [List.length_singleton]; omega) ((HA0.out.below R_Letter_ok (HBz.out.trans (hHeld.2.2 W.heap.size (by omega) hzz))).more R_Letter_ok (HBz.out.trans (hHeld.2.2 W.heap.size (by omega) hzz)).size) (rd_one f0 f1 t0 t1 n z HK1.out)).mono ?_
            intro e u29 h
            obtain ⟨za, zc, rfl, ho, hb⟩ := newS_elim h
            have HRd := Lib.hid (HRd.out.call hb)
            have HK0 := Lib.hid (HK0.out.call hb)
            have HK1 := Lib.hid (HK1.out.call hb)
            have HO0 := Lib.hid (OwSl.keep R_Letter_ok HO0.out fun k hk => hb.block k (by have := HM0.out; unfold Rg at hk; omega))
            have HM0 := Lib.hid (Nat.le_trans HM0.out hb.size)
            have HO1 := Lib.hid (OwSl.keep R_Letter_ok HO1.out fun k hk => hb.block k (by have := HM1.out; unfold Rg at hk; omega))
            have HM1 := Lib.hid (Nat.le_trans HM1.out hb.size)
            have HO2 := Lib.hid ho
            have HM2 := Lib.hid (Nat.le_refl u29.heap.size)
            have HE2 := Lib.hid hb.size
            have HL12 := HML1
            have HE12 := HM1
            have HE02 := HM0
            clear h ho
            have HML2 := Lib.hid (Nat.le_refl u29.heap.size)
            refine hK.out _ _ (hHeld.trans (But2.of hb)) (fun hHeld => ?_)
            clear hb
            clear hK K
            try simp only [Act.put, List.getElem_toArray, List.getElem_cons_succ, List.getElem_cons_zero, List.setIfInBounds_toArray, List.set_cons_zero, List.set_cons_succ]
            (refine wpAnyH_take (i := 18) (v := ?hv120) rfl (by kernel_rfl) (by kernel_rfl) (by kernel_rfl) (fun _ _ _ h => h) (Or.inl ⟨by kernel_rfl, ?hy120⟩) hHeld ?hr120; case hy120 => (intro w hSw; (try dsimp only at hSw); go_simp; try with_reducible rfl))
            simp only [Act.put, List.getElem_toArray, List.getElem_cons_succ, List.getElem_cons_zero, List.setIfInBounds_toArray, List.set_cons_zero, List.set_cons_succ]
            refine wpAnyH_ready (rs := [19]) (by kernel_rfl) (by simp) ?_
            refine AllReadyH.cons rfl (fun K hK => ?_) (AllReadyH.nil)
            have qHRd_0 := HRd.out.at_ 0 rfl
            have qHRd_1 := HRd.out.at_ 1 rfl
            have qHRd_2 := HRd.out.at_ 2 rfl
            have qHRd_3 := HRd.out.at_ 3 rfl
            have qHRd_4 := HRd.out.at_ 4 rfl
            have sHRd_0 := HRd.out.soft 0
            have sHRd_1 := HRd.out.soft 1
            have sHRd_2 := HRd.out.soft 2
            have sHRd_3 := HRd.out.soft 3
            have sHRd_4 := HRd.out.soft 4
            go_simp
            refine hK.out _ _ (hHeld.trans (But2.off ((((((Off.refl (fun x => x = W.heap.size + 1 + 1 + 1) u29).setCell (p := ⟨W.heap.size + 1 + 1 + 1, 0, none⟩) (rfl) (.slice xa P.length xc)).setCell (p := ⟨W.heap.size + 1 + 1 + 1, 1, none⟩) (rfl) (.slice ya (B.length + 1) yc)).setCell (p := ⟨W.heap.size + 1 + 1 + 1, 2, none⟩) (rfl) (.slice za (A.length + 1) zc)).setCell (p := ⟨W.heap.size + 1 + 1 + 1, 3, none⟩) (rfl) (.int .i64 (u + 1))).setCell (p := ⟨W.heap.size + 1 + 1 + 1, 4, none⟩) (rfl) (.int .i64 n)))) (fun hHeld => ?_)
            clear qHRd_0 sHRd_0 qHRd_1 sHRd_1 qHRd_2 sHRd_2 qHRd_3 sHRd_3 qHRd_4 sHRd_4
            clear hK K
            try simp only [Act.put, List.getElem_toArray, List.getElem_cons_succ, List.getElem_cons_zero, List.setIfInBounds_toArray, List.set_cons_zero, List.set_cons_succ]
            (refine wpAnyH_take (i := 20) (v := ?hv121) rfl (by kernel_rfl) (by kernel_rfl) (by kernel_rfl) (fun _ _ _ h => h) (Or.inl ⟨by kernel_rfl, ?hy121⟩) hHeld ?hr121; case hy121 => (intro w hSw; (try dsimp only at hSw); go_simp; try with_reducible rfl))
            simp only [Act.put, List.getElem_toArray, List.getElem_cons_succ, List.getElem_cons_zero, List.setIfInBounds_toArray, List.set_cons_zero, List.set_cons_succ]
            refine wpAnyH_done (by kernel_rfl) ?_ _
            have qHRd_0 := HRd.out.at_ 0 rfl
            have qHRd_1 := HRd.out.at_ 1 rfl
            have qHRd_2 := HRd.out.at_ 2 rfl
            have qHRd_3 := HRd.out.at_ 3 rfl
            have qHRd_4 := HRd.out.at_ 4 rfl
            go_wp2
            refine bodyPost_ret (v := .tuple #[.agg #[.slice xa P.length xc, .slice ya (B.length + 1) yc, .slice za (A.length + 1) zc, .int .i64 (u + 1), .int .i64 n], .nilIface]) (by simp [results, Tryd.results64, go_sem, *]) rfl ?_
            rw [HG.out]
            have hoff := ((((((Off.refl (fun x => x = W.heap.size + 1 + 1 + 1) u29).setCell (p := ⟨W.heap.size + 1 + 1 + 1, 0, none⟩) (rfl) (.slice xa P.length xc)).setCell (p := ⟨W.heap.size + 1 + 1 + 1, 1, none⟩) (rfl) (.slice ya (B.length + 1) yc)).setCell (p := ⟨W.heap.size + 1 + 1 + 1, 2, none⟩) (rfl) (.slice za (A.length + 1) zc)).setCell (p := ⟨W.heap.size + 1 + 1 + 1, 3, none⟩) (rfl) (.int .i64 (u + 1))).setCell (p := ⟨W.heap.size + 1 + 1 + 1, 4, none⟩) (rfl) (.int .i64 n))
            have hbf := HBz.out.trans (hHeld.2.2 W.heap.size (by omega) hzz)
            exact ⟨_, _, rfl, let_fin HO0.out HO1.out HO2.out HL01.out HL12.out HE0.out HE1.out (Nat.le_refl _) hoff HGA.out (by have := HGA.out; omega) HE12.out HE02.out (by simp) (by simp), hbf, .inl ⟨rfl, rfl⟩⟩
        · skip
          go_simp
          have hb : Below wd.heap.size wd (wd.alloc (.cells #[.int .i64 f0, .int .i64 f1, .int .i64 t0, .int .i64 t1, .int .i64 n, .int .i64 z] 87)) := (Below.refl _ _).alloc (Nat.le_refl _) _
          have HK1 := Lib.hid (Blk.new wd 87 #[.int .i64 f0, .int .i64 f1, .int .i64 t0, .int .i64 t1, .int .i64 n, .int .i64 z])
          obtain ⟨u31, hw⟩ : ∃ w', w' = wd.alloc (.cells #[.int .i64 f0, .int .i64 f1, .int .i64 t0, .int .i64 t1, .int .i64 n, .int .i64 z] 87) := ⟨_, rfl⟩
          rw [← hw] at hb HK1
          have HRd := Lib.hid (HRd.out.call hb)
          rw [← hw]
          clear hw
          refine hK.out _ _ (hHeld.trans (But2.of hb)) (fun hHeld => ?_)
          clear hb
          clear hK K
          try simp only [Act.put, List.getElem_toArray, List.getElem_cons_succ, List.getElem_cons_zero, List.setIfInBounds_toArray, List.set_cons_zero, List.set_cons_succ]
          refine wpAnyH_ready (rs := [2, 6]) (by kernel_rfl) (by simp) ?_
          refine AllReadyH.cons rfl (fun K hK => ?_) (AllReadyH.cons rfl (fun K hK => ?_) (AllReadyH.nil))
          · skip
            go_simp
            go_at_call 87
            refine (letters1_impl (by omega) ((HP0.out.below R_Letter_ok (HBz.out.trans (hHeld.2.2 W.heap.size (by omega) hzz))).more R_Letter_ok (HBz.out.trans (hHeld.2.2 W.heap.size (by omega) hzz)).size)).mono ?_
            intro e u32 h
            obtain ⟨xa, xc, rfl, ho, hb⟩ := newS_elim h
            have HRd := Lib.hid (HRd.out.call hb)
            have HK1 := Lib.hid (HK1.out.call hb)
            have HO0 := Lib.hid ho
            have HM0 := Lib.hid (Nat.le_refl u32.heap.size)
            have HE0 := Lib.hid hb.size
            have HGA := Lib.hid (show W.heap.size + 1 + 1 + 1 < u31.heap.size from Nat.lt_of_lt_of_le hgz hHeld.1)
            clear h ho
            have HML0 := Lib.hid (Nat.le_refl u32.heap.size)
            refine hK.out _ _ (hHeld.trans (But2.of hb)) (fun hHeld => ?_)
            clear hb
            clear hK K
            try simp only [Act.put, List.getElem_toArray, List.getElem_cons_succ, List.getElem_cons_zero, List.setIfInBounds_toArray, List.set_cons_zero, List.set_cons_succ]
            refine wpAnyH_ready (rs := [6]) (by kernel_rfl) (by simp) ?_
            refine AllReadyH.cons rfl (fun K hK => ?_) (AllReadyH.nil)
            go_simp
            have hb : Below u32.heap.size u32 (u32.alloc (.cells #[.int .i64 f0, .int .i64 f1, .int .i64 t0, .int .i64 t1, .int .i64 n, .int .i64 z] 87)) := (Below.refl _ _).alloc (Nat.le_refl _) _
            have HK0 := Lib.hid (Blk.new u32 87 #[.int .i64 f0, .int .i64 f1, .int .i64 t0, .int .i64 t1, .int .i64 n, .int .i64 z])
            obtain ⟨u33, hw⟩ : ∃ w', w' = u32.alloc (.cells #[.int .i64 f0, .int .i64 f1, .int .i64 t0, .int .i64 t1, .int .i64 n, .int .i64 z] 87) := ⟨_, rfl⟩
            rw [← hw] at hb HK0
            have HRd := Lib.hid (HRd.out.call hb)
            have HK1 := Lib.hid (HK1.out.call hb)
            have HO0 := Lib.hid (OwSl.keep R_Letter_ok HO0.out fun k hk => hb.block k (by have := HM0.out; unfold Rg at hk; omega))
            have HM0 := Lib.hid (Nat.le_trans HM0.out hb.size)
            rw [← hw]
            clear hw
            have HML0 := Lib.hid (Nat.le_trans HML0.out hb.size)
            refine hK.out _ _ (hHeld.trans (But2.of hb)) (fun hHeld => ?_)
            clear hb
            clear hK K
            try simp only [Act.put, List.getElem_toArray, List.getElem_cons_succ, List.getElem_cons_zero, List.setIfInBounds_toArray, List.set_cons_zero, List.set_cons_succ]
            refine wpAnyH_ready (rs := [7]) (by kernel_rfl) (by simp) ?_
            refine AllReadyH.cons rfl (fun K hK => ?_) (AllReadyH.nil)
            go_simp
            go_at_call 87
            refine (letters2_impl (M := [((f0, f1), (t0, t1), n, z)]) (by simp only [List.length_singleton]; omega) ((HB0.out.below R_Letter_ok (HBz.out.trans (hHeld.2.2 W.heap.size (by omega) hzz))).more R_Letter_ok (HBz.out.trans (hHeld.2.2 W.heap.size (by omega) hzz)).size) (rd_one f0 f1 t0 t1 n z HK0.out)).mono ?_
            intro e u34 h
            obtain ⟨ya, yc, rfl, ho, hb⟩ := newS_elim h
            have HRd := Lib.hid (HRd.out.call hb)
            have HK1 := Lib.hid (HK1.out.call hb)
            have HK0 := Lib.hid (HK0.out.call hb)
            have HO0 := Lib.hid (OwSl.keep R_Letter_ok HO0.out fun k hk => hb.block k (by have := HM0.out; unfold Rg at hk; omega))
            have HM0 := Lib.hid (Nat.le_trans HM0.out hb.size)
            have HO1 := Lib.hid ho
            have HM1 := Lib.hid (Nat.le_refl u34.heap.size)
            have HE1 := Lib.hid hb.size
            have HL01 := HML0
            clear h ho
            have HML1 := Lib.hid (Nat.le_refl u34.heap.size)
            refine hK.out _ _ (hHeld.trans (But2.of hb)) (fun hHeld => ?_)
            clear hb
            clear hK K
            try simp only [Act.put, List.getElem_toArray, List.getElem_cons_succ, List.getElem_cons_zero, List.setIfInBounds_toArray, List.set_cons_zero, List.set_cons_succ]
            refine wpAnyH_ready (rs := [12]) (by kernel_rfl) (by simp) ?_
            refine AllReadyH.cons rfl (fun K hK => ?_) (AllReadyH.nil)
            go_simp
            go_at_call 87
            refine (letters2_impl (M := [((f0, f1), (t0, t1), n, z)]) (by simp only [List.length_singleton]; omega) ((HA0.out.below R_Letter_ok (HBz.out.trans (hHeld.2.2 W.heap.size (by omega) hzz))).more R_Letter_ok (HBz.out.trans (hHeld.2.2 W.heap.size (by omega) hzz)).size) (rd_one f0 f1 t0 t1 n z HK1.out)).mono ?_
            intro e u35 h
            obtain ⟨za, zc, rfl, ho, hb⟩ := newS_elim h
            have HRd := Lib.hid (HRd.out.call hb)
            have HK1 := Lib.hid (HK1.out.call hb)
            have HK0 := Lib.hid (HK0.out.call hb)
            have HO0 := Lib.hid (OwSl.keep R_Letter_ok HO0.out fun k hk => hb.block k (by have := HM0.out; unfold Rg at hk; omega))
            have HM0 := Lib.hid (Nat.le_trans HM0.out hb.size)
            have HO1 := Lib.hid (OwSl.keep R_Letter_ok HO1.out fun k hk => hb.block k (by have := HM1.out; unfold Rg at hk; omega))
            have HM1 := Lib.hid (Nat.le_trans HM1.out hb.size)
            have HO2 := Lib.hid ho
            have HM2 := Lib.hid (Nat.le_refl u35.heap.size)
            have HE2 := Lib.hid hb.size
            have HL12 := HML1
            have HE12 := HM1
            have HE02 := HM0
            clear h ho
            have HML2 := Lib.hid (Nat.le_refl u35.heap.size)
            refine hK.out _ _ (hHeld.trans (But2.of hb)) (fun hHeld => ?_)
            clear hb
            clear hK K
            try simp only [Act.put, List.getElem_toArray, List.getElem_cons_succ, List.getElem_cons_zero, List.setIfInBounds_toArray, List.set_cons_zero, List.set_cons_succ]
            (refine wpAnyH_take (i := 18) (v := ?hv122) rfl (by kernel_rfl) (by kernel_rfl) (by kernel_rfl) (fun _ _ _ h => h) (Or.inl ⟨by kernel_rfl, ?hy122⟩) hHeld ?hr122; case hy122 => (intro w hSw; (try dsimp only at hSw); go_simp; try with_reducible rfl))
            simp only [Act.put, List.getElem_toArray, List.getElem_cons_succ, List.getElem_cons_zero, List.setIfInBounds_toArray, List.set_cons_zero, List.set_cons_succ]
            refine wpAnyH_ready (rs := [19]) (by kernel_rfl) (by simp) ?_
            refine AllReadyH.cons rfl (fun K hK => ?_) (AllReadyH.nil)
            have qHRd_0 := HRd.out.at_ 0 rfl
            have qHRd_1 := HRd.out.at_ 1 rfl
            have qHRd_2 := HRd.out.at_ 2 rfl
            have qHRd_3 := HRd.out.at_ 3 rfl
            have qHRd_4 := HRd.out.at_ 4 rfl
            have sHRd_0 := HRd.out.soft 0
            have sHRd_1 := HRd.out.soft 1
            have sHRd_2 := HRd.out.soft 2
            have sHRd_3 := HRd.out.soft 3
            have sHRd_4 := HRd.out.soft 4
            go_simp
            refine hK.out _ _ (hHeld.trans (But2.off ((((((Off.refl (fun x => x = W.heap.size + 1 + 1 + 1) u35).setCell (p := ⟨W.heap.size + 1 + 1 + 1, 0, none⟩) (rfl) (.slice xa P.length xc)).setCell (p := ⟨W.heap.size + 1 + 1 + 1, 1, none⟩) (rfl) (.slice ya (B.length + 1) yc)).setCell (p := ⟨W.heap.size + 1 + 1 + 1, 2, none⟩) (rfl) (.slice za (A.length + 1) zc)).setCell (p := ⟨W.heap.size + 1 + 1 + 1, 3, none⟩) (rfl) (.int .i64 (u + 1))).setCell (p := ⟨W.heap.size + 1 + 1 + 1, 4, none⟩) (rfl) (.int .i64 n)))) (fun hHeld => ?_)
            clear qHRd_0 sHRd_0 qHRd_1 sHRd_1 qHRd_2 sHRd_2 qHRd_3 sHRd_3 qHRd_4 sHRd_4
            clear hK K
            try simp only [Act.put, List.getElem_toArray, List.getElem_cons_succ, List.getElem_cons_zero, List.setIfInBounds_toArray, List.set_cons_zero, List.set_cons_succ]
            (refine wpAnyH_take (i := 20) (v := ?hv123) rfl (by kernel_rfl) (by kernel_rfl) (by kernel_rfl) (fun _ _ _ h => h) (Or.inl ⟨by kernel_rfl, ?hy123⟩) hHeld ?hr123; case hy123 => (intro w hSw; (try dsimp only at hSw); go_simp; try with_reducible rfl))
            simp only [Act.put, List.getElem_toArray, List.getElem_cons_succ, List.getElem_cons_zero, List.setIfInBounds_toArray, List.set_cons_zero, List.set_cons_succ]
            refine wpAnyH_done (by kernel_rfl) ?_ _
            have qHRd_0 := HRd.out.at_ 0 rfl
            have qHRd_1 := HRd.out.at_ 1 rfl
            have qHRd_2 := HRd.out.at_ 2 rfl
            have qHRd_3 := HRd.out.at_ 3 rfl
            have qHRd_4 := HRd.out.at_ 4 rfl
            go_wp2
            refine bodyPost_ret (v := .tuple #[.agg #[.slice xa P.length xc, .slice ya (B.length + 1) yc, .slice za (A.length + 1) zc, .int .i64 (u + 1), .int .i64 n], .nilIface]) (by simp [results, Tryd.results64, go_sem, *]) rfl ?_
            rw [HG.out]
            have hoff := ((((((Off.refl (fun x => x = W.heap.size + 1 + 1 + 1) u35).setCell (p := ⟨W.heap.size + 1 + 1 + 1, 0, none⟩) (rfl) (.slice xa P.length xc)).setCell (p := ⟨W.heap.size + 1 + 1 + 1, 1, none⟩) (rfl) (.slice ya (B.length + 1) yc)).setCell (p := ⟨W.heap.size + 1 + 1 + 1, 2, none⟩) (rfl) (.slice za (A.length + 1) zc)).setCell (p := ⟨W.heap.size + 1 + 1 + 1, 3, none⟩) (rfl) (.int .i64 (u + 1))).setCell (p := ⟨W.heap.size + 1 + 1 + 1, 4, none⟩) (rfl) (.int .i64 n))
            have hbf := HBz.out.trans (hHeld.2.2 W.heap.size (by omega) hzz)
            exact ⟨_, _, rfl, let_fin HO0.out HO1.out HO2.out HL01.out HL12.out HE0.out HE1.out (Nat.le_refl _) hoff HGA.out (by have := HGA.out; omega) HE12.out HE02.out (by simp) (by simp), hbf, .inl ⟨rfl, rfl⟩⟩
          · skip
            go_simp
            have hb : Below u31.heap.size u31 (u31.alloc (.cells #[.int .i64 f0, .int .i64 f1, .int .i64 t0, .int .i64 t1, .int .i64 n, .int .i64 z] 87)) := (Below.refl _ _).alloc (Nat.le_refl _) _
            have HK0 := Lib.hid (Blk.new u31 87 #[.int .i64 f0, .int .i64 f1, .int .i64 t0, .int .i64 t1, .int .i64 n, .int .i64 z])
            obtain ⟨u37, hw⟩ : ∃ w', w' = u31.alloc (.cells #[.int .i64 f0, .int .i64 f1, .int .i64 t0, .int .i64 t1, .int .i64 n, .int .i64 z] 87) := ⟨_, rfl⟩
            rw [← hw] at hb HK0
            have HRd := Lib.hid (HRd.out.call hb)
            have HK1 := Lib.hid (HK1.out.call hb)
            rw [← hw]
            clear hw
            refine hK.out _ _ (hHeld.trans (But2.of hb)) (fun hHeld => ?_)
            clear hb
            clear hK K
            try simp only [Act.put, List.getElem_toArray, List.getElem_cons_succ, List.getElem_cons_zero, List.setIfInBounds_toArray, List.set_cons_zero, List.set_cons_succ]
            refine wpAnyH_ready (rs := [2]) (by kernel_rfl) (by simp) ?_
            refine AllReadyH.cons rfl (fun K hK => ?_) (AllReadyH.nil)
            go_simp
            go_at_call 87
            refine (letters1_impl (by omega) ((HP0.out.below R_Letter_ok (HBz.out.trans (hHeld.2.2 W.heap.size (by omega) hzz))).more R_Letter_ok (HBz.out.trans (hHeld.2.2 W.heap.size (by omega) hzz)).size)).mono ?_
            intro e u38 h
            obtain ⟨xa, xc, rfl, ho, hb⟩ := newS_elim h
            have HRd := Lib.hid (HRd.out.call hb)
            have HK1 := Lib.hid (HK1.out.call hb)
            have HK0 := Lib.hid (HK0.out.call hb)
            have HO0 := Lib.hid ho
            have HM0 := Lib.hid (Nat.le_refl u38.heap.size)
            have HE0 := Lib.hid hb.size
            have HGA := Lib.hid (show W.heap.size + 1 + 1 + 1 < u37.heap.size from Nat.lt_of_lt_of_le hgz hHeld.1)
            clear h ho
            have HML0 := Lib.hid (Nat.le_refl u38.heap.size)
            refine hK.out _ _ (hHeld.trans (But2.of hb)) (fun hHeld => ?_)
            clear hb
            clear hK K
            try simp only [Act.put, List.getElem_toArray, List.getElem_cons_succ, List.getElem_cons_zero, List.setIfInBounds_toArray, List.set_cons_zero, List.set_cons_succ]
            refine wpAnyH_ready (rs := [7]) (by kernel_rfl) (by simp) ?_
            refine AllReadyH.cons rfl (fun K hK => ?_) (AllReadyH.nil)
            go_simp
            go_at_call 87
            refine (letters2_impl (M := [((f0, f1), (t0, t1), n, z)]) (by simp only [List.length_singleton]; omega) ((HB0.out.below R_Letter_ok (HBz.out.trans (hHeld.2.2 W.heap.size (by omega) hzz))).more R_Letter_ok (HBz.out.trans (hHeld.2.2 W.heap.size (by omega) hzz)).size) (rd_one f0 f1 t0 t1 n z HK0.out)).mono ?_
            intro e u39 h
            obtain ⟨ya, yc, rfl, ho, hb⟩ := newS_elim h
            have HRd := Lib.hid (HRd.out.call hb)
            have HK1 := Lib.hid (HK1.out.call hb)
            have HK0 := Lib.hid (HK0.out.call hb)
            have HO0 := Lib.hid (OwSl.keep R_Letter_ok HO0.out fun k hk => hb.block k (by have := HM0.out; unfold Rg at hk; omega))
            have HM0 := Lib.hid (Nat.le_trans HM0.out hb.size)
            have HO1 := Lib.hid ho
            have HM1 := Lib.hid (Nat.le_refl u39.heap.size)
            have HE1 := Lib.hid hb.size
            have HL01 := HML0
            clear h ho
            have HML1 := Lib.hid (Nat.le_refl u39.heap.size)
            refine hK.out _ _ (hHeld.trans (But2.of hb)) (fun hHeld => ?_)
            clear hb
            clear hK K
            try simp only [Act.put, List.getElem_toArray, List.getElem_cons_succ, List.getElem_cons_zero, List.setIfInBounds_toArray, List.set_cons_zero, List.set_cons_succ]
            refine wpAnyH_ready (rs := [12]) (by kernel_rfl) (by simp) ?_
            refine AllReadyH.cons rfl (fun K hK => ?_) (AllReadyH.nil)
            go_simp
            go_at_call 87
            refine (letters2_impl (M := [((f0, f1), (t0, t1), n, z)]) (by simp only [List.length_singleton]; omega) ((HA0.out.below R_Letter_ok (HBz.out.trans (hHeld.2.2 W.heap.size (by omega) hzz))).more R_Letter_ok (HBz.out.trans (hHeld.2.2 W.heap.size (by omega) hzz)).size) (rd_one f0 f1 t0 t1 n z HK1.out)).mono ?_
            intro e u40 h
            obtain ⟨za, zc, rfl, ho, hb⟩ := newS_elim h
            have HRd := Lib.hid (HRd.out.call hb)
            have HK1 := Lib.hid (HK1.out.call hb)
            have HK0 := Lib.hid (HK0.out.call hb)
            have HO0 := Lib.hid (OwSl.keep R_Letter_ok HO0.out fun k hk => hb.block k (by have := HM0.out; unfold Rg at hk; omega))
            have HM0 := Lib.hid (Nat.le_trans HM0.out hb.size)
            have HO1 := Lib.hid (OwSl.keep R_Letter_ok HO1.out fun k hk => hb.block k (by have := HM1.out; unfold Rg at hk; omega))
            have HM1 := Lib.hid (Nat.le_trans HM1.out hb.size)
            have HO2 := Lib.hid ho
            have HM2 := Lib.hid (Nat.le_refl u40.heap.size)
            have HE2 := Lib.hid hb.size
            have HL12 := HML1
            have HE12 := HM1
            have HE02 := HM0
            clear h ho
            have HML2 := Lib.hid (Nat.le_refl u40.heap.size)
            refine hK.out _ _ (hHeld.trans (But2.of hb)) (fun hHeld => ?_)
            clear hb
            clear hK K
            try simp only [Act.put, List.getElem_toArray, List.getElem_cons_succ, List.getElem_cons_zero, List.setIfInBounds_toArray, List.set_cons_zero, List.set_cons_succ]
            (refine wpAnyH_take (i := 18) (v := ?hv124) rfl (by kernel_rfl) (by kernel_rfl) (by kernel_rfl) (fun _ _ _ h => h) (Or.inl ⟨by kernel_rfl, ?hy124⟩) hHeld ?hr124; case hy124 => (intro w hSw; (try dsimp only at hSw); go_simp; try with_reducible rfl))
            simp only [Act.put, List.getElem_toArray, List.getElem_cons_succ, List.getElem_cons_zero, List.setIfInBounds_toArray, List.set_cons_zero, List.set_cons_succ]
            refine wpAnyH_ready (rs := [19]) (by kernel_rfl) (by simp) ?_
            refine AllReadyH.cons rfl (fun K hK => ?_) (AllReadyH.nil)
            have qHRd_0 := HRd.out.at_ 0 rfl
            have qHRd_1 := HRd.out.at_ 1 rfl
            have qHRd_2 := HRd.out.at_ 2 rfl
            have qHRd_3 := HRd.out.at_ 3 rfl
            have qHRd_4 := HRd.out.at_ 4 rfl
            have sHRd_0 := HRd.out.soft 0
            have sHRd_1 := HRd.out.soft 1
            have sHRd_2 := HRd.out.soft 2
            have sHRd_3 := HRd.out.soft 3
            have sHRd_4 := HRd.out.soft 4
            go_simp
            refine hK.out _ _ (hHeld.trans (But2.off ((((((Off.refl (fun x => x = W.heap.size + 1 + 1 + 1) u40).setCell (p := ⟨W.heap.size + 1 + 1 + 1, 0, none⟩) (rfl) (.slice xa P.length xc)).setCell (p := ⟨W.heap.size + 1 + 1 + 1, 1, none⟩) (rfl) (.slice ya (B.length + 1) yc)).setCell (p := ⟨W.heap.size + 1 + 1 + 1, 2, none⟩) (rfl) (.slice za (A.length + 1) zc)).setCell (p := ⟨W.heap.size + 1 + 1 + 1, 3, none⟩) (rfl) (.int .i64 (u + 1))).setCell (p := ⟨W.heap.size + 1 + 1 + 1, 4, none⟩) (rfl) (.int .i64 n)))) (fun hHeld => ?_)
            clear qHRd_0 sHRd_0 qHRd_1 sHRd_1 qHRd_2 sHRd_2 qHRd_3 sHRd_3 qHRd_4 sHRd_4
            clear hK K
            try simp only [Act.put, List.getElem_toArray, List.getElem_cons_succ, List.getElem_cons_zero, List.setIfInBounds_toArray, List.set_cons_zero, List.set_cons_succ]
            (refine wpAnyH_take (i := 20) (v := ?hv125) rfl (by kernel_rfl) (by kernel_rfl) (by kernel_rfl) (fun _ _ _ h => h) (Or.inl ⟨by kernel_rfl, ?hy125⟩) hHeld ?hr125; case hy125 => (intro w hSw; (try dsimp only at hSw); go_simp; try with_reducible rfl))
            simp only [Act.put, List.getElem_toArray, List.getElem_cons_succ, List.getElem_cons_zero, List.setIfInBounds_toArray, List.set_cons_zero, List.set_cons_succ]
            refine wpAnyH_done (by kernel_rfl) ?_ _
            have qHRd_0 := HRd.out.at_ 0 rfl
            have qHRd_1 := HRd.out.at_ 1 rfl
            have qHRd_2 := HRd.out.at_ 2 rfl
            have qHRd_3 := HRd.out.at_ 3 rfl
            have qHRd_4 := HRd.out.at_ 4 rfl
            go_wp2
            refine bodyPost_ret (v := .tuple #[.agg #[.slice xa P.length xc, .slice ya (B.length + 1) yc, .slice za (A.length + 1) zc, .int .i64 (u + 1), .int .i64 n], .nilIface]) (by simp [results, Tryd.results64, go_sem, *]) rfl ?_
            rw [HG.out]
            have hoff := ((((((Off.refl (fun x => x = W.heap.size + 1 + 1 + 1) u40).setCell (p := ⟨W.heap.size + 1 + 1 + 1, 0, none⟩) (rfl) (.slice xa P.length xc)).setCell (p := ⟨W.heap.size + 1 + 1 + 1, 1, none⟩) (rfl) (.slice ya (B.length + 1) yc)).setCell (p := ⟨W.heap.size + 1 + 1 + 1, 2, none⟩) (rfl) (.slice za (A.length + 1) zc)).setCell (p := ⟨W.heap.size + 1 + 1 + 1, 3, none⟩) (rfl) (.int .i64 (u + 1))).setCell (p := ⟨W.heap.size + 1 + 1 + 1, 4, none⟩) (rfl) (.int .i64 n))
            have hbf := HBz.out.trans (hHeld.2.2 W.heap.size (by omega) hzz)
            exact ⟨_, _, rfl, let_fin HO0.out HO1.out HO2.out HL01.out HL12.out HE0.out HE1.out (Nat.le_refl _) hoff HGA.out (by have := HGA.out; omega) HE12.out HE02.out (by simp) (by simp), hbf, .inl ⟨rfl, rfl⟩⟩
end Go.Proofs.YtknifggpodhhdaaDoor.RepC
