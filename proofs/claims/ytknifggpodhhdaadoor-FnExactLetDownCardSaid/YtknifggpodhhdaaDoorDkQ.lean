/- NextTime of the program: a contract. -/
import Derived.Test.YtknifggpodhhdaaDoorDkP
namespace Go.Proofs.YtknifggpodhhdaaDoor.RepC
open SenC IsC Go.RowKit RowC ValC SpanC KeptC
set_option linter.unusedVariables false
set_option linter.unusedSimpArgs false

theorem ow_fin {d : D_DeskStep} {us : List Value} {w V : World} {g lo a b : Nat} (h : R_DeskStep.ow w (Rg a b) d us) (hoff : Off (fun x => x = g) w V) (hb : b ≤ w.heap.size) (hg : g < a) (hlo : lo ≤ a) : R_DeskStep.ow V (Rg lo V.heap.size) d us := by
  have hs := hoff.size
  refine R_DeskStep_ok.ow_more (R_DeskStep_ok.ow_keep h fun k hk => ?_) fun k hk => ?_
  · unfold Rg at hk
    exact hoff.block k (by omega) (by intro e; subst e; omega)
  · unfold Rg at hk ⊢
    omega
set_option maxRecDepth 100000 in
set_option maxHeartbeats 1000000 in
theorem next_ok {P B A : List D_Letter} {pa ba aa : Option Addr} {pc bc ac : Nat} {u n : Int} {W : World} (hY : DeskR P B A u n) (hn : n ≠ 999900) (hP : RdSl R_Letter W W.heap.size P pa pc) (hB : RdSl R_Letter W W.heap.size B ba bc) (hA : RdSl R_Letter W W.heap.size A aa ac) : Calls Tryd.prog 65 #[.agg #[.slice pa P.length pc, .slice ba B.length bc, .slice aa A.length ac, .int .i64 u, .int .i64 n]] W fun e w' => ∃ us : List Value, e = .returned (.tuple #[.agg us.toArray, .nilIface]) ∧ R_Desk.ow w' (Rg W.heap.size w'.heap.size) (P, [], A, 0, n + 1) us ∧ Below W.heap.size W w' := by
  have hr := hY.2.1
  simp only [isB, Bool.and_eq_true, decide_eq_true_iff] at hr
  have hP4 : P.length ≤ 4 := hY.1.1
  have hA20 : A.length ≤ 20 := by have := hY.2.2.2.1.1; omega
  have hbe : (n == 999900) = false := by simpa using hn
  have hwr : IntKind.i64.wrap (n + 1) = n + 1 := IntWalk.i64_in _ (by omega)
  obtain ⟨hb0, hd0, hr0⟩ := bx2 W #[.slice pa P.length pc, .slice ba B.length bc, .slice aa A.length ac, .int .i64 u, .int .i64 n] #[.slice none 0 0, .slice none 0 0, .slice none 0 0, .int .i64 0, .int .i64 0] 42 42
  obtain ⟨w0, hw0⟩ : ∃ w, w = (W.alloc (.cells #[.slice pa P.length pc, .slice ba B.length bc, .slice aa A.length ac, .int .i64 u, .int .i64 n] 42)).alloc (.cells #[.slice none 0 0, .slice none 0 0, .slice none 0 0, .int .i64 0, .int .i64 0] 42) := ⟨_, rfl⟩
  rw [← hw0] at hb0 hd0 hr0
  have HB0 := Lib.hid hb0
  have HR0 := Lib.hid hr0
  have HD0 := Lib.hid hd0
  have HP0 := Lib.hid hP
  have HA0 := Lib.hid hA
  have HPw := Lib.hid (gmvS hP hb0)
  have HBw := Lib.hid (gmvS hB hb0)
  have HAw := Lib.hid (gmvS hA hb0)
  have hz0 := hb0.size
  have HY := Lib.hid hY
  have HNE := Lib.hid hn
  clear hb0 hd0 hr0 hP hB hA hY hn
  go_enter Tryd.func65, Tryd.ntmps65
  go_wp2_with fail
  rw [← hw0]
  clear hw0
  refine ((box_impl HPw.out HBw.out HAw.out).mono (fun _ _ => resB_at (b := true) (by simp [HY.out]))).mono ?_
  rintro e w1 ⟨rfl, hb⟩
  have HB1 := Lib.hid (HB0.out.trans (hb.mono hz0))
  have hz1 := HB1.out.size
  have HR1 := Lib.hid (HR0.out.call hb)
  have HD1 := Lib.hid (HD0.out.call hb)
  have qHD1_0 := HD1.out.at_ 0 rfl
  have qHD1_1 := HD1.out.at_ 1 rfl
  have qHD1_2 := HD1.out.at_ 2 rfl
  have qHD1_3 := HD1.out.at_ 3 rfl
  have qHD1_4 := HD1.out.at_ 4 rfl
  have hlt1 : W.heap.size + 1 < w1.heap.size := HR1.out.lt
  have hle1 : W.heap.size + 1 ≤ w1.heap.size := Nat.le_of_lt hlt1
  clear hb
  go_wp2_with fail
  refine wp_region_held_drew (S := (fun V => Below (W.heap.size + 1) w1 V)) (by kernel_rfl) ((Below.refl _ _).drew) (fun hHeld => ?_)
  (refine wpAnyH_take (i := 0) (v := ?hv79) rfl (by kernel_rfl) (by kernel_rfl) (by kernel_rfl) (fun _ _ _ h => h) (Or.inl ⟨by kernel_rfl, ?hy79⟩) hHeld ?hr79; case hy79 => (intro w hSw; (try dsimp only at hSw); go_simp; try with_reducible rfl))
  simp only [Act.put, List.getElem_toArray, List.getElem_cons_succ, List.getElem_cons_zero, List.setIfInBounds_toArray, List.set_cons_zero, List.set_cons_succ]
  (refine wpAnyH_take (i := 1) (v := ?hv80) rfl (by kernel_rfl) (by kernel_rfl) (by kernel_rfl) (fun _ _ _ h => h) (Or.inl ⟨by kernel_rfl, ?hy80⟩) hHeld ?hr80; case hy80 => (intro w hSw; (try dsimp only at hSw); have k0 := (hSw.cell (p := ⟨W.heap.size, 0, none⟩) (Nat.lt_succ_self _)).trans (HD1.out.at_ 0 rfl); have k1 := (hSw.cell (p := ⟨W.heap.size, 1, none⟩) (Nat.lt_succ_self _)).trans (HD1.out.at_ 1 rfl); have k2 := (hSw.cell (p := ⟨W.heap.size, 2, none⟩) (Nat.lt_succ_self _)).trans (HD1.out.at_ 2 rfl); have k3 := (hSw.cell (p := ⟨W.heap.size, 3, none⟩) (Nat.lt_succ_self _)).trans (HD1.out.at_ 3 rfl); have k4 := (hSw.cell (p := ⟨W.heap.size, 4, none⟩) (Nat.lt_succ_self _)).trans (HD1.out.at_ 4 rfl); clear hSw; go_simp; try with_reducible rfl))
  simp only [Act.put, List.getElem_toArray, List.getElem_cons_succ, List.getElem_cons_zero, List.setIfInBounds_toArray, List.set_cons_zero, List.set_cons_succ]
  (refine wpAnyH_take (i := 3) (v := ?hv81) rfl (by kernel_rfl) (by kernel_rfl) (by kernel_rfl) (fun _ _ _ h => h) (Or.inl ⟨by kernel_rfl, ?hy81⟩) hHeld ?hr81; case hy81 => (intro w hSw; (try dsimp only at hSw); go_simp; try with_reducible rfl))
  simp only [Act.put, List.getElem_toArray, List.getElem_cons_succ, List.getElem_cons_zero, List.setIfInBounds_toArray, List.set_cons_zero, List.set_cons_succ]
  (refine wpAnyH_take (i := 4) (v := ?hv82) rfl (by kernel_rfl) (by kernel_rfl) (by kernel_rfl) (fun _ _ _ h => h) (Or.inl ⟨by kernel_rfl, ?hy82⟩) hHeld ?hr82; case hy82 => (intro w hSw; (try dsimp only at hSw); have k0 := (hSw.cell (p := ⟨W.heap.size, 0, none⟩) (Nat.lt_succ_self _)).trans (HD1.out.at_ 0 rfl); have k1 := (hSw.cell (p := ⟨W.heap.size, 1, none⟩) (Nat.lt_succ_self _)).trans (HD1.out.at_ 1 rfl); have k2 := (hSw.cell (p := ⟨W.heap.size, 2, none⟩) (Nat.lt_succ_self _)).trans (HD1.out.at_ 2 rfl); have k3 := (hSw.cell (p := ⟨W.heap.size, 3, none⟩) (Nat.lt_succ_self _)).trans (HD1.out.at_ 3 rfl); have k4 := (hSw.cell (p := ⟨W.heap.size, 4, none⟩) (Nat.lt_succ_self _)).trans (HD1.out.at_ 4 rfl); clear hSw; go_simp; try with_reducible rfl))
  simp only [Act.put, List.getElem_toArray, List.getElem_cons_succ, List.getElem_cons_zero, List.setIfInBounds_toArray, List.set_cons_zero, List.set_cons_succ]
  (refine wpAnyH_take (i := 6) (v := ?hv83) rfl (by kernel_rfl) (by kernel_rfl) (by kernel_rfl) (fun _ _ _ h => h) (Or.inl ⟨by kernel_rfl, ?hy83⟩) hHeld ?hr83; case hy83 => (intro w hSw; (try dsimp only at hSw); go_simp; try with_reducible rfl))
  simp only [Act.put, List.getElem_toArray, List.getElem_cons_succ, List.getElem_cons_zero, List.setIfInBounds_toArray, List.set_cons_zero, List.set_cons_succ]
  (refine wpAnyH_take (i := 7) (v := ?hv84) rfl (by kernel_rfl) (by kernel_rfl) (by kernel_rfl) (fun _ _ _ h => h) (Or.inl ⟨by kernel_rfl, ?hy84⟩) hHeld ?hr84; case hy84 => (intro w hSw; (try dsimp only at hSw); have k0 := (hSw.cell (p := ⟨W.heap.size, 0, none⟩) (Nat.lt_succ_self _)).trans (HD1.out.at_ 0 rfl); have k1 := (hSw.cell (p := ⟨W.heap.size, 1, none⟩) (Nat.lt_succ_self _)).trans (HD1.out.at_ 1 rfl); have k2 := (hSw.cell (p := ⟨W.heap.size, 2, none⟩) (Nat.lt_succ_self _)).trans (HD1.out.at_ 2 rfl); have k3 := (hSw.cell (p := ⟨W.heap.size, 3, none⟩) (Nat.lt_succ_self _)).trans (HD1.out.at_ 3 rfl); have k4 := (hSw.cell (p := ⟨W.heap.size, 4, none⟩) (Nat.lt_succ_self _)).trans (HD1.out.at_ 4 rfl); clear hSw; go_simp; try with_reducible rfl))
  simp only [Act.put, List.getElem_toArray, List.getElem_cons_succ, List.getElem_cons_zero, List.setIfInBounds_toArray, List.set_cons_zero, List.set_cons_succ]
  (refine wpAnyH_take (i := 8) (v := ?hv85) rfl (by kernel_rfl) (by kernel_rfl) (by kernel_rfl) (fun _ _ _ h => h) (Or.inl ⟨by kernel_rfl, ?hy85⟩) hHeld ?hr85; case hy85 => (intro w hSw; (try dsimp only at hSw); go_simp; try with_reducible rfl))
  simp only [Act.put, List.getElem_toArray, List.getElem_cons_succ, List.getElem_cons_zero, List.setIfInBounds_toArray, List.set_cons_zero, List.set_cons_succ]
  refine wpAnyH_ready (rs := [2]) (by kernel_rfl) (by simp) ?_
  refine AllReadyH.cons rfl (fun K hK => ?_) (AllReadyH.nil)
  go_simp
  go_at_call 87
  refine (letters1_impl (by omega) ((HP0.out.below R_Letter_ok (HB1.out.trans (hHeld.mono (Nat.le_succ _)))).more R_Letter_ok (HB1.out.trans (hHeld.mono (Nat.le_succ _))).size)).mono ?_
  intro e w2 h
  obtain ⟨xa, xc, rfl, ho, hb⟩ := newS_elim h
  have HX := Lib.hid ho
  have HS12 := Lib.hid (show w1.heap.size ≤ w2.heap.size from hb.size)
  have HR2 := Lib.hid (show Blk w2 (W.heap.size + 1) 42 #[.slice none 0 0, .slice none 0 0, .slice none 0 0, .int .i64 0, .int .i64 0] from ((show Blk w1.drew (W.heap.size + 1) 42 #[.slice none 0 0, .slice none 0 0, .slice none 0 0, .int .i64 0, .int .i64 0] from HR1.out).call hb))
  refine hK.out _ _ (hHeld.trans (hb.mono (Nat.le_trans hle1 hHeld.size))) (fun hHeld => ?_)
  clear h ho hb
  clear hK K
  try simp only [Act.put, List.getElem_toArray, List.getElem_cons_succ, List.getElem_cons_zero, List.setIfInBounds_toArray, List.set_cons_zero, List.set_cons_succ]
  refine wpAnyH_ready (rs := [5]) (by kernel_rfl) (by simp) ?_
  refine AllReadyH.cons rfl (fun K hK => ?_) (AllReadyH.nil)
  go_simp
  go_at_call 87
  refine (letters1_impl (by omega) ((HA0.out.below R_Letter_ok (HB1.out.trans (hHeld.mono (Nat.le_succ _)))).more R_Letter_ok (HB1.out.trans (hHeld.mono (Nat.le_succ _))).size)).mono ?_
  intro e w3 h
  obtain ⟨ya, yc, rfl, ho, hb⟩ := newS_elim h
  have HX3 := Lib.hid (OwSl.keep R_Letter_ok HX.out fun k hk => hb.block k hk.2)
  have HY3 := Lib.hid ho
  have HS23 := Lib.hid hb.size
  have HR3 := Lib.hid (HR2.out.call hb)
  have qHR3_0 := HR3.out.at_ 0 rfl
  have qHR3_1 := HR3.out.at_ 1 rfl
  have qHR3_2 := HR3.out.at_ 2 rfl
  have qHR3_3 := HR3.out.at_ 3 rfl
  have qHR3_4 := HR3.out.at_ 4 rfl
  have sHR3_0 := HR3.out.soft 0
  have sHR3_1 := HR3.out.soft 1
  have sHR3_2 := HR3.out.soft 2
  have sHR3_3 := HR3.out.soft 3
  have sHR3_4 := HR3.out.soft 4
  refine hK.out _ _ (hHeld.trans (hb.mono (Nat.le_trans hle1 hHeld.size))) (fun hHeld => ?_)
  clear h ho hb
  clear hK K
  try simp only [Act.put, List.getElem_toArray, List.getElem_cons_succ, List.getElem_cons_zero, List.setIfInBounds_toArray, List.set_cons_zero, List.set_cons_succ]
  (refine wpAnyH_take (i := 9) (v := ?hv86) rfl (by kernel_rfl) (by kernel_rfl) (by kernel_rfl) (fun _ _ _ h => h) (Or.inl ⟨by kernel_rfl, ?hy86⟩) hHeld ?hr86; case hy86 => (intro w hSw; (try dsimp only at hSw); go_simp; try with_reducible rfl))
  simp only [Act.put, List.getElem_toArray, List.getElem_cons_succ, List.getElem_cons_zero, List.setIfInBounds_toArray, List.set_cons_zero, List.set_cons_succ]
  refine wpAnyH_ready (rs := [10]) (by kernel_rfl) (by simp) ?_
  refine AllReadyH.cons rfl (fun K hK => ?_) (AllReadyH.nil)
  go_simp
  have HVV := Lib.hid hHeld
  refine hK.out _ _ (((((hHeld.setCell (p := ⟨W.heap.size + 1, 0, none⟩) (Nat.le_refl _) (.slice xa P.length xc)).setCell (p := ⟨W.heap.size + 1, 1, none⟩) (Nat.le_refl _) (.slice none 0 0)).setCell (p := ⟨W.heap.size + 1, 2, none⟩) (Nat.le_refl _) (.slice ya A.length yc)).setCell (p := ⟨W.heap.size + 1, 3, none⟩) (Nat.le_refl _) (.int .i64 0)).setCell (p := ⟨W.heap.size + 1, 4, none⟩) (Nat.le_refl _) (.int .i64 (n + 1))) (fun hHeld => ?_)
  clear hK K
  try simp only [Act.put, List.getElem_toArray, List.getElem_cons_succ, List.getElem_cons_zero, List.setIfInBounds_toArray, List.set_cons_zero, List.set_cons_succ]
  (refine wpAnyH_take (i := 11) (v := ?hv87) rfl (by kernel_rfl) (by kernel_rfl) (by kernel_rfl) (fun _ _ _ h => h) (Or.inl ⟨by kernel_rfl, ?hy87⟩) hHeld ?hr87; case hy87 => (intro w hSw; (try dsimp only at hSw); go_simp; try with_reducible rfl))
  simp only [Act.put, List.getElem_toArray, List.getElem_cons_succ, List.getElem_cons_zero, List.setIfInBounds_toArray, List.set_cons_zero, List.set_cons_succ]
  refine wpAnyH_done (by kernel_rfl) ?_ _
  have HF := Lib.hid hHeld
  clear hHeld
  go_wp2
  refine bodyPost_ret (v := .tuple #[.agg #[.slice xa P.length xc, .slice none 0 0, .slice ya A.length yc, .int .i64 0, .int .i64 (n + 1)], .nilIface]) (by simp [results, Tryd.results65, go_sem, *]) rfl ?_
  have hoff := ((((((Off.refl (fun x => x = W.heap.size + 1) w3).setCell (p := ⟨W.heap.size + 1, 0, none⟩) (rfl) (.slice xa P.length xc)).setCell (p := ⟨W.heap.size + 1, 1, none⟩) (rfl) (.slice none 0 0)).setCell (p := ⟨W.heap.size + 1, 2, none⟩) (rfl) (.slice ya A.length yc)).setCell (p := ⟨W.heap.size + 1, 3, none⟩) (rfl) (.int .i64 0)).setCell (p := ⟨W.heap.size + 1, 4, none⟩) (rfl) (.int .i64 (n + 1)))
  have hbb := ((((((HB1.out.trans (HVV.out.mono (Nat.le_succ _))).setCell (p := ⟨W.heap.size + 1, 0, none⟩) (Nat.le_succ _) (.slice xa P.length xc)).setCell (p := ⟨W.heap.size + 1, 1, none⟩) (Nat.le_succ _) (.slice none 0 0)).setCell (p := ⟨W.heap.size + 1, 2, none⟩) (Nat.le_succ _) (.slice ya A.length yc)).setCell (p := ⟨W.heap.size + 1, 3, none⟩) (Nat.le_succ _) (.int .i64 0)).setCell (p := ⟨W.heap.size + 1, 4, none⟩) (Nat.le_succ _) (.int .i64 (n + 1)))
  refine ⟨_, rfl, ?_, hbb⟩
  have hsz := hoff.size
  have h12 := HS12.out
  have h23 := HS23.out
  exact mkow_Desk (T0 := Rg w1.heap.size w2.heap.size) (T1 := fun _ => False) (T2 := Rg w2.heap.size w3.heap.size) (fun k hk => ⟨Nat.le_trans hz1 hk.1, by have := hk.2; omega⟩) (fun k h => h.elim) (fun k hk => ⟨by have := hk.1; omega, by have := hk.2; omega⟩) (fun k _ h => h) (fun k h1 h2 => by have := h1.2; have := h2.1; omega) (fun k h => h.elim)
    (OwSl.keep R_Letter_ok HX3.out fun k hk => hoff.block k (by have := hk.2; omega) (by intro e; have := hk.1; omega)) (nil_ow _ _) (OwSl.keep R_Letter_ok HY3.out fun k hk => hoff.block k hk.2 (by intro e; have := hk.1; omega))
set_option maxRecDepth 100000 in
set_option maxHeartbeats 1000000 in
theorem nexttime_impl {P B A : List D_Letter} {pa ba aa : Option Addr} {pc bc ac : Nat} {u n : Int} {W : World} {a1 a2 a3 a4 : Addr} (h : Sent W a1 a2 a3 a4) (hP : RdSl R_Letter W W.heap.size P pa pc) (hB : RdSl R_Letter W W.heap.size B ba bc) (hA : RdSl R_Letter W W.heap.size A aa ac) : Calls Tryd.prog 29 #[.agg #[.slice pa P.length pc, .slice ba B.length bc, .slice aa A.length ac, .int .i64 u, .int .i64 n]] W (NewV R_DeskStep (nextG (P, B, A, u, n)) W) := by
  obtain ⟨hb0, hd0, hr0⟩ := bx2 W #[.slice pa P.length pc, .slice ba B.length bc, .slice aa A.length ac, .int .i64 u, .int .i64 n] #[.slice none 0 0, .slice none 0 0, .slice none 0 0, .int .i64 0, .int .i64 0, .int .i64 0] 42 46
  obtain ⟨w0, hw0⟩ : ∃ w, w = (W.alloc (.cells #[.slice pa P.length pc, .slice ba B.length bc, .slice aa A.length ac, .int .i64 u, .int .i64 n] 42)).alloc (.cells #[.slice none 0 0, .slice none 0 0, .slice none 0 0, .int .i64 0, .int .i64 0, .int .i64 0] 46) := ⟨_, rfl⟩
  rw [← hw0] at hb0 hd0 hr0
  have HB0 := Lib.hid hb0
  have HR0 := Lib.hid hr0
  have HD0 := Lib.hid hd0
  have HS0 := Lib.hid (h.mv hb0)
  have HPw := Lib.hid (gmvS hP hb0)
  have HBw := Lib.hid (gmvS hB hb0)
  have HAw := Lib.hid (gmvS hA hb0)
  have hz0 := hb0.size
  clear hb0 hd0 hr0 hP hB hA h
  by_cases hY : DeskR P B A u n
  rotate_left
  · have HG := Lib.hid (show nextG (P, B, A, u, n) = (zeroD, 1) from by unfold nextG; rw [if_neg (by rw [boxB_iff]; exact hY)])
    go_enter Tryd.func29, Tryd.ntmps29
    go_wp2_with fail
    rw [← hw0]
    clear hw0
    refine (next_1 HS0.out HPw.out HBw.out HAw.out hY).mono ?_
    rintro e w1 ⟨rfl, hb⟩
    have HB1 := Lib.hid (HB0.out.trans (hb.mono hz0))
    have hz1 := HB1.out.size
    have HR1 := Lib.hid (HR0.out.call hb)
    have HS1 := Lib.hid (HS0.out.mv hb)
    clear hb
    go_wp2_with fail
    refine (step_1 HS1.out).mono ?_
    intro e w2 h
    obtain ⟨us, rfl, hu, hb⟩ := newV_elim h
    obtain ⟨va, vc, ua, uc, ta, tc, rfl, hu⟩ := owc_DeskStep (L0 := []) (L1 := []) (L2 := []) (x3 := 0) (x4 := 0) (x5 := 1) hu
    have HB2 := Lib.hid (HB1.out.trans (hb.mono hz1))
    have HR2 := Lib.hid (HR1.out.call hb)
    have qHR2_0 := HR2.out.at_ 0 rfl
    have qHR2_1 := HR2.out.at_ 1 rfl
    have qHR2_2 := HR2.out.at_ 2 rfl
    have qHR2_3 := HR2.out.at_ 3 rfl
    have qHR2_4 := HR2.out.at_ 4 rfl
    have qHR2_5 := HR2.out.at_ 5 rfl
    have sHR2_0 := HR2.out.soft 0
    have sHR2_1 := HR2.out.soft 1
    have sHR2_2 := HR2.out.soft 2
    have sHR2_3 := HR2.out.soft 3
    have sHR2_4 := HR2.out.soft 4
    have sHR2_5 := HR2.out.soft 5
    have HU2 := Lib.hid hu
    have hs2 := hb.size
    clear hu hb h
    go_wp2
    refine bodyPost_ret (v := .agg #[.slice va 0 vc, .slice ua 0 uc, .slice ta 0 tc, .int .i64 0, .int .i64 0, .int .i64 1]) (by simp [results, Tryd.results29, go_sem, *]) rfl ?_
    rw [HG.out]
    have hbb := ((((((HB2.out.setCell (p := ⟨W.heap.size + 1, 0, none⟩) (Nat.le_succ _) (.slice va 0 vc)).setCell (p := ⟨W.heap.size + 1, 1, none⟩) (Nat.le_succ _) (.slice ua 0 uc)).setCell (p := ⟨W.heap.size + 1, 2, none⟩) (Nat.le_succ _) (.slice ta 0 tc)).setCell (p := ⟨W.heap.size + 1, 3, none⟩) (Nat.le_succ _) (.int .i64 0)).setCell (p := ⟨W.heap.size + 1, 4, none⟩) (Nat.le_succ _) (.int .i64 0)).setCell (p := ⟨W.heap.size + 1, 5, none⟩) (Nat.le_succ _) (.int .i64 1))
    have hoff := (((((((Off.refl (fun x => x = W.heap.size + 1) w2).setCell (p := ⟨W.heap.size + 1, 0, none⟩) (rfl) (.slice va 0 vc)).setCell (p := ⟨W.heap.size + 1, 1, none⟩) (rfl) (.slice ua 0 uc)).setCell (p := ⟨W.heap.size + 1, 2, none⟩) (rfl) (.slice ta 0 tc)).setCell (p := ⟨W.heap.size + 1, 3, none⟩) (rfl) (.int .i64 0)).setCell (p := ⟨W.heap.size + 1, 4, none⟩) (rfl) (.int .i64 0)).setCell (p := ⟨W.heap.size + 1, 5, none⟩) (rfl) (.int .i64 1))
    exact ⟨_, rfl, ow_fin HU2.out hoff (Nat.le_refl _) HR1.out.lt hz1, hbb⟩
  by_cases hn : n = 999900
  · have HG := Lib.hid (show nextG (P, B, A, u, n) = (zeroD, 9) from by unfold nextG; rw [if_pos (by rw [boxB_iff]; exact hY), if_pos hn])
    subst hn
    go_enter Tryd.func29, Tryd.ntmps29
    go_wp2_with fail
    rw [← hw0]
    clear hw0
    refine (next_4 HS0.out HPw.out HBw.out HAw.out hY).mono ?_
    rintro e w1 ⟨rfl, hb⟩
    have HB1 := Lib.hid (HB0.out.trans (hb.mono hz0))
    have hz1 := HB1.out.size
    have HR1 := Lib.hid (HR0.out.call hb)
    have HS1 := Lib.hid (HS0.out.mv hb)
    clear hb
    go_wp2_with fail
    refine (step_4 HS1.out).mono ?_
    intro e w2 h
    obtain ⟨us, rfl, hu, hb⟩ := newV_elim h
    obtain ⟨va, vc, ua, uc, ta, tc, rfl, hu⟩ := owc_DeskStep (L0 := []) (L1 := []) (L2 := []) (x3 := 0) (x4 := 0) (x5 := 9) hu
    have HB2 := Lib.hid (HB1.out.trans (hb.mono hz1))
    have HR2 := Lib.hid (HR1.out.call hb)
    have qHR2_0 := HR2.out.at_ 0 rfl
    have qHR2_1 := HR2.out.at_ 1 rfl
    have qHR2_2 := HR2.out.at_ 2 rfl
    have qHR2_3 := HR2.out.at_ 3 rfl
    have qHR2_4 := HR2.out.at_ 4 rfl
    have qHR2_5 := HR2.out.at_ 5 rfl
    have sHR2_0 := HR2.out.soft 0
    have sHR2_1 := HR2.out.soft 1
    have sHR2_2 := HR2.out.soft 2
    have sHR2_3 := HR2.out.soft 3
    have sHR2_4 := HR2.out.soft 4
    have sHR2_5 := HR2.out.soft 5
    have HU2 := Lib.hid hu
    have hs2 := hb.size
    clear hu hb h
    go_wp2
    refine bodyPost_ret (v := .agg #[.slice va 0 vc, .slice ua 0 uc, .slice ta 0 tc, .int .i64 0, .int .i64 0, .int .i64 9]) (by simp [results, Tryd.results29, go_sem, *]) rfl ?_
    rw [HG.out]
    have hbb := ((((((HB2.out.setCell (p := ⟨W.heap.size + 1, 0, none⟩) (Nat.le_succ _) (.slice va 0 vc)).setCell (p := ⟨W.heap.size + 1, 1, none⟩) (Nat.le_succ _) (.slice ua 0 uc)).setCell (p := ⟨W.heap.size + 1, 2, none⟩) (Nat.le_succ _) (.slice ta 0 tc)).setCell (p := ⟨W.heap.size + 1, 3, none⟩) (Nat.le_succ _) (.int .i64 0)).setCell (p := ⟨W.heap.size + 1, 4, none⟩) (Nat.le_succ _) (.int .i64 0)).setCell (p := ⟨W.heap.size + 1, 5, none⟩) (Nat.le_succ _) (.int .i64 9))
    have hoff := (((((((Off.refl (fun x => x = W.heap.size + 1) w2).setCell (p := ⟨W.heap.size + 1, 0, none⟩) (rfl) (.slice va 0 vc)).setCell (p := ⟨W.heap.size + 1, 1, none⟩) (rfl) (.slice ua 0 uc)).setCell (p := ⟨W.heap.size + 1, 2, none⟩) (rfl) (.slice ta 0 tc)).setCell (p := ⟨W.heap.size + 1, 3, none⟩) (rfl) (.int .i64 0)).setCell (p := ⟨W.heap.size + 1, 4, none⟩) (rfl) (.int .i64 0)).setCell (p := ⟨W.heap.size + 1, 5, none⟩) (rfl) (.int .i64 9))
    exact ⟨_, rfl, ow_fin HU2.out hoff (Nat.le_refl _) HR1.out.lt hz1, hbb⟩
  have HG := Lib.hid (show nextG (P, B, A, u, n) = ((P, [], A, 0, n + 1), 0) from by unfold nextG; rw [if_pos (by rw [boxB_iff]; exact hY), if_neg hn])
  have HY := Lib.hid hY
  have HNE := Lib.hid hn
  clear hY hn
  go_enter Tryd.func29, Tryd.ntmps29
  go_wp2_with fail
  rw [← hw0]
  clear hw0
  refine (next_ok HY.out HNE.out HPw.out HBw.out HAw.out).mono ?_
  intro e w1 h
  obtain ⟨us, rfl, hu, hb⟩ := h
  obtain ⟨xa, xc, ya, yc, za, zc, rfl, hu⟩ := owc_Desk hu
  have HB1 := Lib.hid (HB0.out.trans (hb.mono hz0))
  have hz1 := HB1.out.size
  have HR1 := Lib.hid (HR0.out.call hb)
  have HU := Lib.hid hu
  clear hu hb
  go_wp2_with fail
  refine (step_ok HU.out (fun k hk => hk.2)).mono ?_
  intro e w2 h
  obtain ⟨us, rfl, hu, hb⟩ := h
  obtain ⟨va, vc, ua, uc, ta, tc, rfl, hu⟩ := owc_DeskStep hu
  have HB2 := Lib.hid (HB1.out.trans (hb.mono hz1))
  have HR2 := Lib.hid (HR1.out.call hb)
  have qHR2_0 := HR2.out.at_ 0 rfl
  have qHR2_1 := HR2.out.at_ 1 rfl
  have qHR2_2 := HR2.out.at_ 2 rfl
  have qHR2_3 := HR2.out.at_ 3 rfl
  have qHR2_4 := HR2.out.at_ 4 rfl
  have qHR2_5 := HR2.out.at_ 5 rfl
  have sHR2_0 := HR2.out.soft 0
  have sHR2_1 := HR2.out.soft 1
  have sHR2_2 := HR2.out.soft 2
  have sHR2_3 := HR2.out.soft 3
  have sHR2_4 := HR2.out.soft 4
  have sHR2_5 := HR2.out.soft 5
  have HU2 := Lib.hid hu
  have hs2 := hb.size
  clear hu hb
  go_wp2
  refine bodyPost_ret (v := .agg #[.slice va P.length vc, .slice ua 0 uc, .slice ta A.length tc, .int .i64 0, .int .i64 (n + 1), .int .i64 0]) (by simp [results, Tryd.results29, go_sem, *]) rfl ?_
  rw [HG.out]
  have hbb := ((((((HB2.out.setCell (p := ⟨W.heap.size + 1, 0, none⟩) (Nat.le_succ _) (.slice va P.length vc)).setCell (p := ⟨W.heap.size + 1, 1, none⟩) (Nat.le_succ _) (.slice ua 0 uc)).setCell (p := ⟨W.heap.size + 1, 2, none⟩) (Nat.le_succ _) (.slice ta A.length tc)).setCell (p := ⟨W.heap.size + 1, 3, none⟩) (Nat.le_succ _) (.int .i64 0)).setCell (p := ⟨W.heap.size + 1, 4, none⟩) (Nat.le_succ _) (.int .i64 (n + 1))).setCell (p := ⟨W.heap.size + 1, 5, none⟩) (Nat.le_succ _) (.int .i64 0))
  have hoff := (((((((Off.refl (fun x => x = W.heap.size + 1) w2).setCell (p := ⟨W.heap.size + 1, 0, none⟩) (rfl) (.slice va P.length vc)).setCell (p := ⟨W.heap.size + 1, 1, none⟩) (rfl) (.slice ua 0 uc)).setCell (p := ⟨W.heap.size + 1, 2, none⟩) (rfl) (.slice ta A.length tc)).setCell (p := ⟨W.heap.size + 1, 3, none⟩) (rfl) (.int .i64 0)).setCell (p := ⟨W.heap.size + 1, 4, none⟩) (rfl) (.int .i64 (n + 1))).setCell (p := ⟨W.heap.size + 1, 5, none⟩) (rfl) (.int .i64 0))
  exact ⟨_, rfl, ow_fin HU2.out hoff hs2 HR0.out.lt hz0, hbb⟩
end Go.Proofs.YtknifggpodhhdaaDoor.RepC
