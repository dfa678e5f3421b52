/- The law on Ahead, out of the contracts. -/
import Derived.Test.YtnpnjoacamginaaJobAI
import Derived.Test.YtnpnjoacamginaaJobL1
namespace Go.Proofs.Ytnpnjoacamginaa.RepC
open Go.RowKit RowC ValC SpanC KeptC
set_option linter.unusedVariables false
set_option linter.unusedSimpArgs false

theorem rd_mv {α : Type} {E : Rp α} (hE : Ok E) {L : List α} {a : Option Addr} {c : Nat} {w w' : World} (h : RdSl E w w.heap.size L a c) (hb : Below w.heap.size w w') : RdSl E w' w'.heap.size L a c := (h.below hE hb).more hE hb.size

set_option maxRecDepth 100000 in
set_option maxHeartbeats 6400000 in
theorem law_ahead {x0 x1 x2 x3 x4 x5 x6 x7 y0 y1 y2 y3 y4 y5 y6 y7 : Int} {L M : List Int} {a b : Option Addr} {c d : Nat} {W : World} (h : RdSl I W W.heap.size L a c) (h' : RdSl I W W.heap.size M b d) :
    Calls Try.prog 8 #[.agg #[.int .i64 x0, .int .i64 x1, .int .i64 x2, .int .i64 x3, .int .i64 x4, .int .i64 x5, .int .i64 x6, .int .i64 x7, .slice a L.length c], .agg #[.int .i64 y0, .int .i64 y1, .int .i64 y2, .int .i64 y3, .int .i64 y4, .int .i64 y5, .int .i64 y6, .int .i64 y7, .slice b M.length d]] W fun e w' => e = .returned (.bool true) ∧ Below W.heap.size W w' := by
  have H := Lib.hid h
  have H' := Lib.hid h'
  clear h h'
  have hbA : Below (W).heap.size (W) (W.alloc (.cells #[.int .i64 x0, .int .i64 x1, .int .i64 x2, .int .i64 x3, .int .i64 x4, .int .i64 x5, .int .i64 x6, .int .i64 x7, .slice a L.length c] 59)) := (Below.refl _ _).alloc (Nat.le_refl _) _
  have H_1 := Lib.hid (rd_mv I_ok H.out hbA)
  have H'_1 := Lib.hid (rd_mv I_ok H'.out hbA)
  have HB1 := Lib.hid (show Below W.heap.size W (W.alloc (.cells #[.int .i64 x0, .int .i64 x1, .int .i64 x2, .int .i64 x3, .int .i64 x4, .int .i64 x5, .int .i64 x6, .int .i64 x7, .slice a L.length c] 59)) from hbA)
  clear H H'
  have PX_1 := Blk.new (W) 59 #[.int .i64 x0, .int .i64 x1, .int .i64 x2, .int .i64 x3, .int .i64 x4, .int .i64 x5, .int .i64 x6, .int .i64 x7, .slice a L.length c]
  have PXh_1 := Lib.hid PX_1
  clear PX_1 hbA
  have hbA : Below (W.alloc (.cells #[.int .i64 x0, .int .i64 x1, .int .i64 x2, .int .i64 x3, .int .i64 x4, .int .i64 x5, .int .i64 x6, .int .i64 x7, .slice a L.length c] 59)).heap.size (W.alloc (.cells #[.int .i64 x0, .int .i64 x1, .int .i64 x2, .int .i64 x3, .int .i64 x4, .int .i64 x5, .int .i64 x6, .int .i64 x7, .slice a L.length c] 59)) ((W.alloc (.cells #[.int .i64 x0, .int .i64 x1, .int .i64 x2, .int .i64 x3, .int .i64 x4, .int .i64 x5, .int .i64 x6, .int .i64 x7, .slice a L.length c] 59)).alloc (.cells #[.int .i64 y0, .int .i64 y1, .int .i64 y2, .int .i64 y3, .int .i64 y4, .int .i64 y5, .int .i64 y6, .int .i64 y7, .slice b M.length d] 59)) := (Below.refl _ _).alloc (Nat.le_refl _) _
  have PX_2 := Lib.hid (PXh_1.out.call hbA)
  have H_2 := Lib.hid (rd_mv I_ok H_1.out hbA)
  have H'_2 := Lib.hid (rd_mv I_ok H'_1.out hbA)
  have HB2 := Lib.hid (HB1.out.trans ((hbA).mono HB1.out.size))
  clear PXh_1 H_1 H'_1 HB1
  have PY_2 := Blk.new (W.alloc (.cells #[.int .i64 x0, .int .i64 x1, .int .i64 x2, .int .i64 x3, .int .i64 x4, .int .i64 x5, .int .i64 x6, .int .i64 x7, .slice a L.length c] 59)) 59 #[.int .i64 y0, .int .i64 y1, .int .i64 y2, .int .i64 y3, .int .i64 y4, .int .i64 y5, .int .i64 y6, .int .i64 y7, .slice b M.length d]
  have PYh_2 := Lib.hid PY_2
  clear PY_2 hbA
  have hPY := PYh_2.out
  simp only [World.size_alloc] at hPY
  have PYs := Lib.hid hPY
  clear hPY PYh_2
  by_cases hsz : R_Job.sz ((x0, x1), x2, x3, x4, x5, x6, x7, L) ≤ 1048576
  rotate_left
  · skip
    go_enter Try.func8, Try.ntmps8
    go_wp2_with fail
    refine (sz_Job (by omega) (by omega) (H_2.out)).mono ?_
    intro e w3 h
    obtain ⟨rfl, hb⟩ := szC_elim h
    rw [szR_no (by omega)]
    have PX_3 := Lib.hid (PX_2.out.call hb)
    have PY_3 := Lib.hid (PYs.out.call hb)
    have H_3 := Lib.hid (rd_mv I_ok H_2.out hb)
    have H'_3 := Lib.hid (rd_mv I_ok H'_2.out hb)
    have HB3 := Lib.hid (HB2.out.trans ((hb).mono HB2.out.size))
    clear PX_2 PYs H_2 H'_2 HB2
    clear h hb
    go_wp2
    go_ret
    exact ⟨rfl, HB3.out⟩
  have HSX := Lib.hid hsz
  obtain ⟨m, hm⟩ : ∃ m : Nat, R_Job.sz ((x0, x1), x2, x3, x4, x5, x6, x7, L) = m := ⟨_, rfl⟩
  have HM := Lib.hid hm
  rw [hm] at hsz
  clear hm
  by_cases hsy : R_Job.sz ((y0, y1), y2, y3, y4, y5, y6, y7, M) + m ≤ 1048576
  rotate_left
  · skip
    go_enter Try.func8, Try.ntmps8
    go_wp2_with fail
    refine (sz_Job (by omega) (by omega) (H_2.out)).mono ?_
    intro e w3 h
    obtain ⟨rfl, hb⟩ := szC_elim h
    rw [HM.out, szR_yes (by omega)]
    have PX_3 := Lib.hid (PX_2.out.call hb)
    have PY_3 := Lib.hid (PYs.out.call hb)
    have H_3 := Lib.hid (rd_mv I_ok H_2.out hb)
    have H'_3 := Lib.hid (rd_mv I_ok H'_2.out hb)
    have HB3 := Lib.hid (HB2.out.trans ((hb).mono HB2.out.size))
    clear PX_2 PYs H_2 H'_2 HB2
    have hlt1 : decide ((1048576 : Int) - (m : Int) < 0) = false := decide_eq_false (by omega)
    clear h hb
    have qPX_0 := PX_3.out.at_ 0 rfl
    have qPX_1 := PX_3.out.at_ 1 rfl
    have qPX_2 := PX_3.out.at_ 2 rfl
    have qPX_3 := PX_3.out.at_ 3 rfl
    have qPX_4 := PX_3.out.at_ 4 rfl
    have qPX_5 := PX_3.out.at_ 5 rfl
    have qPX_6 := PX_3.out.at_ 6 rfl
    have qPX_7 := PX_3.out.at_ 7 rfl
    have qPX_8 := PX_3.out.at_ 8 rfl
    have qPY_0 := PY_3.out.at_ 0 rfl
    have qPY_1 := PY_3.out.at_ 1 rfl
    have qPY_2 := PY_3.out.at_ 2 rfl
    have qPY_3 := PY_3.out.at_ 3 rfl
    have qPY_4 := PY_3.out.at_ 4 rfl
    have qPY_5 := PY_3.out.at_ 5 rfl
    have qPY_6 := PY_3.out.at_ 6 rfl
    have qPY_7 := PY_3.out.at_ 7 rfl
    have qPY_8 := PY_3.out.at_ 8 rfl
    go_wp2_with fail
    refine (sz_Job (by omega) (by omega) (H'_3.out)).mono ?_
    intro e w4 h
    obtain ⟨rfl, hb⟩ := szC_elim h
    rw [szR_no (by omega)]
    clear qPX_0 qPX_1 qPX_2 qPX_3 qPX_4 qPX_5 qPX_6 qPX_7 qPX_8 qPY_0 qPY_1 qPY_2 qPY_3 qPY_4 qPY_5 qPY_6 qPY_7 qPY_8
    have PX_4 := Lib.hid (PX_3.out.call hb)
    have PY_4 := Lib.hid (PY_3.out.call hb)
    have H_4 := Lib.hid (rd_mv I_ok H_3.out hb)
    have H'_4 := Lib.hid (rd_mv I_ok H'_3.out hb)
    have HB4 := Lib.hid (HB3.out.trans ((hb).mono HB3.out.size))
    clear PX_3 PY_3 H_3 H'_3 HB3
    clear h hb
    go_wp2
    go_ret
    exact ⟨rfl, HB4.out⟩
  have HSY := Lib.hid (show R_Job.sz ((y0, y1), y2, y3, y4, y5, y6, y7, M) ≤ 1048576 from by omega)
  obtain ⟨n, hn⟩ : ∃ n : Nat, R_Job.sz ((y0, y1), y2, y3, y4, y5, y6, y7, M) = n := ⟨_, rfl⟩
  have HN := Lib.hid hn
  rw [hn] at hsy
  clear hn
  go_enter Try.func8, Try.ntmps8
  go_wp2_with fail
  refine (sz_Job (by omega) (by omega) (H_2.out)).mono ?_
  intro e w3 h
  obtain ⟨rfl, hb⟩ := szC_elim h
  rw [HM.out, szR_yes (by omega)]
  have PX_3 := Lib.hid (PX_2.out.call hb)
  have PY_3 := Lib.hid (PYs.out.call hb)
  have H_3 := Lib.hid (rd_mv I_ok H_2.out hb)
  have H'_3 := Lib.hid (rd_mv I_ok H'_2.out hb)
  have HB3 := Lib.hid (HB2.out.trans ((hb).mono HB2.out.size))
  clear PX_2 PYs H_2 H'_2 HB2
  have hlt1 : decide ((1048576 : Int) - (m : Int) < 0) = false := decide_eq_false (by omega)
  clear h hb
  have qPX_0 := PX_3.out.at_ 0 rfl
  have qPX_1 := PX_3.out.at_ 1 rfl
  have qPX_2 := PX_3.out.at_ 2 rfl
  have qPX_3 := PX_3.out.at_ 3 rfl
  have qPX_4 := PX_3.out.at_ 4 rfl
  have qPX_5 := PX_3.out.at_ 5 rfl
  have qPX_6 := PX_3.out.at_ 6 rfl
  have qPX_7 := PX_3.out.at_ 7 rfl
  have qPX_8 := PX_3.out.at_ 8 rfl
  have qPY_0 := PY_3.out.at_ 0 rfl
  have qPY_1 := PY_3.out.at_ 1 rfl
  have qPY_2 := PY_3.out.at_ 2 rfl
  have qPY_3 := PY_3.out.at_ 3 rfl
  have qPY_4 := PY_3.out.at_ 4 rfl
  have qPY_5 := PY_3.out.at_ 5 rfl
  have qPY_6 := PY_3.out.at_ 6 rfl
  have qPY_7 := PY_3.out.at_ 7 rfl
  have qPY_8 := PY_3.out.at_ 8 rfl
  go_wp2_with fail
  refine (sz_Job (by omega) (by omega) (H'_3.out)).mono ?_
  intro e w4 h
  obtain ⟨rfl, hb⟩ := szC_elim h
  rw [HN.out, szR_yes (by omega)]
  clear qPX_0 qPX_1 qPX_2 qPX_3 qPX_4 qPX_5 qPX_6 qPX_7 qPX_8 qPY_0 qPY_1 qPY_2 qPY_3 qPY_4 qPY_5 qPY_6 qPY_7 qPY_8
  have PX_4 := Lib.hid (PX_3.out.call hb)
  have PY_4 := Lib.hid (PY_3.out.call hb)
  have H_4 := Lib.hid (rd_mv I_ok H_3.out hb)
  have H'_4 := Lib.hid (rd_mv I_ok H'_3.out hb)
  have HB4 := Lib.hid (HB3.out.trans ((hb).mono HB3.out.size))
  clear PX_3 PY_3 H_3 H'_3 HB3
  have hlt2 : decide ((1048576 : Int) - (m : Int) - (n : Int) < 0) = false := decide_eq_false (by omega)
  clear hsz hsy
  clear h hb
  go_wp2_with fail
  refine wp_region_held_drew (S := (fun V => Below (w4).heap.size (w4) V)) (by kernel_rfl) ((Below.refl _ _).drew) (fun hHeld => ?_)
  (refine wpAnyH_take (i := 0) (v := ?hv1) rfl (by kernel_rfl) (by kernel_rfl) (by kernel_rfl) (fun _ _ _ h => h) (Or.inl ⟨by kernel_rfl, ?hy1⟩) hHeld ?hr1; case hy1 => (intro w hSw; (try dsimp only at hSw); have k0 := (hSw.cell (p := ⟨W.heap.size, 0, none⟩) PX_4.out.lt).trans (PX_4.out.at_ 0 rfl); have k1 := (hSw.cell (p := ⟨W.heap.size, 1, none⟩) PX_4.out.lt).trans (PX_4.out.at_ 1 rfl); have k2 := (hSw.cell (p := ⟨W.heap.size, 2, none⟩) PX_4.out.lt).trans (PX_4.out.at_ 2 rfl); have k3 := (hSw.cell (p := ⟨W.heap.size, 3, none⟩) PX_4.out.lt).trans (PX_4.out.at_ 3 rfl); have k4 := (hSw.cell (p := ⟨W.heap.size, 4, none⟩) PX_4.out.lt).trans (PX_4.out.at_ 4 rfl); have k5 := (hSw.cell (p := ⟨W.heap.size, 5, none⟩) PX_4.out.lt).trans (PX_4.out.at_ 5 rfl); have k6 := (hSw.cell (p := ⟨W.heap.size, 6, none⟩) PX_4.out.lt).trans (PX_4.out.at_ 6 rfl); have k7 := (hSw.cell (p := ⟨W.heap.size, 7, none⟩) PX_4.out.lt).trans (PX_4.out.at_ 7 rfl); have k8 := (hSw.cell (p := ⟨W.heap.size, 8, none⟩) PX_4.out.lt).trans (PX_4.out.at_ 8 rfl); clear hSw; go_simp; try with_reducible rfl))
  simp only [Act.put, List.getElem_toArray, List.getElem_cons_succ, List.getElem_cons_zero, List.setIfInBounds_toArray, List.set_cons_zero, List.set_cons_succ]
  (refine wpAnyH_take (i := 2) (v := ?hv2) rfl (by kernel_rfl) (by kernel_rfl) (by kernel_rfl) (fun _ _ _ h => h) (Or.inl ⟨by kernel_rfl, ?hy2⟩) hHeld ?hr2; case hy2 => (intro w hSw; (try dsimp only at hSw); have k0 := (hSw.cell (p := ⟨(W.heap.size + 1), 0, none⟩) PY_4.out.lt).trans (PY_4.out.at_ 0 rfl); have k1 := (hSw.cell (p := ⟨(W.heap.size + 1), 1, none⟩) PY_4.out.lt).trans (PY_4.out.at_ 1 rfl); have k2 := (hSw.cell (p := ⟨(W.heap.size + 1), 2, none⟩) PY_4.out.lt).trans (PY_4.out.at_ 2 rfl); have k3 := (hSw.cell (p := ⟨(W.heap.size + 1), 3, none⟩) PY_4.out.lt).trans (PY_4.out.at_ 3 rfl); have k4 := (hSw.cell (p := ⟨(W.heap.size + 1), 4, none⟩) PY_4.out.lt).trans (PY_4.out.at_ 4 rfl); have k5 := (hSw.cell (p := ⟨(W.heap.size + 1), 5, none⟩) PY_4.out.lt).trans (PY_4.out.at_ 5 rfl); have k6 := (hSw.cell (p := ⟨(W.heap.size + 1), 6, none⟩) PY_4.out.lt).trans (PY_4.out.at_ 6 rfl); have k7 := (hSw.cell (p := ⟨(W.heap.size + 1), 7, none⟩) PY_4.out.lt).trans (PY_4.out.at_ 7 rfl); have k8 := (hSw.cell (p := ⟨(W.heap.size + 1), 8, none⟩) PY_4.out.lt).trans (PY_4.out.at_ 8 rfl); clear hSw; go_simp; try with_reducible rfl))
  simp only [Act.put, List.getElem_toArray, List.getElem_cons_succ, List.getElem_cons_zero, List.setIfInBounds_toArray, List.set_cons_zero, List.set_cons_succ]
  refine wpAnyH_ready (rs := [1]) (by kernel_rfl) (by simp) ?_
  refine AllReadyH.cons rfl (fun K hK => ?_) AllReadyH.nil
  go_simp
  go_at_call 39
  refine (to_Job HSX.out (rd_call (H_4.out) hHeld)).mono ?_
  intro e w401 h
  obtain ⟨us, rfl, hu, hb⟩ := newV_elim h
  obtain ⟨a401, c401, T401, rfl, hT, ho⟩ := ow_Job hu
  have NX := Lib.hid (rd_new ho fun k hk => (hT k hk).2)
  clear h
  refine hK.out _ _ (hHeld.trans (hb.mono hHeld.size)) (fun hHeld => ?_)
  clear hK K hb
  try simp only [Act.put, List.getElem_toArray, List.getElem_cons_succ, List.getElem_cons_zero, List.setIfInBounds_toArray, List.set_cons_zero, List.set_cons_succ]
  refine wpAnyH_ready (rs := [3]) (by kernel_rfl) (by simp) ?_
  refine AllReadyH.cons rfl (fun K hK => ?_) AllReadyH.nil
  go_simp
  go_at_call 39
  refine (to_Job HSY.out (rd_call (H'_4.out) hHeld)).mono ?_
  intro e w402 h
  obtain ⟨us, rfl, hu, hb⟩ := newV_elim h
  obtain ⟨a402, c402, T402, rfl, hT, ho⟩ := ow_Job hu
  have NX := Lib.hid (rd_call NX.out hb)
  have NY := Lib.hid (rd_new ho fun k hk => (hT k hk).2)
  clear h
  refine hK.out _ _ (hHeld.trans (hb.mono hHeld.size)) (fun hHeld => ?_)
  clear hK K hb
  try simp only [Act.put, List.getElem_toArray, List.getElem_cons_succ, List.getElem_cons_zero, List.setIfInBounds_toArray, List.set_cons_zero, List.set_cons_succ]
  refine wpAnyH_ready (rs := [4]) (by kernel_rfl) (by simp) ?_
  refine AllReadyH.cons rfl (fun K hK => ?_) AllReadyH.nil
  go_simp
  go_at_call 29
  refine (ahead_spec NX.out NY.out).mono ?_
  intro e w403 h
  obtain ⟨b1, rfl, hq, hb⟩ := resB_elim h
  have HQ := Lib.hid (hq)
  clear h
  refine hK.out _ _ (hHeld.trans (hb.mono hHeld.size)) (fun hHeld => ?_)
  clear hK K hb
  try simp only [Act.put, List.getElem_toArray, List.getElem_cons_succ, List.getElem_cons_zero, List.setIfInBounds_toArray, List.set_cons_zero, List.set_cons_succ]
  (refine wpAnyH_take (i := 5) (v := ?hv3) rfl (by kernel_rfl) (by kernel_rfl) (by kernel_rfl) (fun _ _ _ h => h) (Or.inl ⟨by kernel_rfl, ?hy3⟩) hHeld ?hr3; case hy3 => (intro w hSw; (try dsimp only at hSw); go_simp; try with_reducible rfl))
  simp only [Act.put, List.getElem_toArray, List.getElem_cons_succ, List.getElem_cons_zero, List.setIfInBounds_toArray, List.set_cons_zero, List.set_cons_succ]
  refine wpAnyH_done (by kernel_rfl) ?_ _
  have HF := Lib.hid hHeld
  clear hHeld
  have hF := HF.out
  have PX_5 := Lib.hid (PX_4.out.call hF)
  have PY_5 := Lib.hid (PY_4.out.call hF)
  have H_5 := Lib.hid (rd_mv I_ok H_4.out hF)
  have H'_5 := Lib.hid (rd_mv I_ok H'_4.out hF)
  have HB5 := Lib.hid (HB4.out.trans ((hF).mono HB4.out.size))
  clear PX_4 PY_4 H_4 H'_4 HB4
  clear HF hF
  clear NX NY hlt1 hlt2
  have qPX_0 := PX_5.out.at_ 0 rfl
  have qPX_1 := PX_5.out.at_ 1 rfl
  have qPX_2 := PX_5.out.at_ 2 rfl
  have qPX_3 := PX_5.out.at_ 3 rfl
  have qPX_4 := PX_5.out.at_ 4 rfl
  have qPX_5 := PX_5.out.at_ 5 rfl
  have qPX_6 := PX_5.out.at_ 6 rfl
  have qPX_7 := PX_5.out.at_ 7 rfl
  have qPX_8 := PX_5.out.at_ 8 rfl
  go_wp2_with fail
  refine (to_Job HSX.out (H_5.out)).mono ?_
  intro e w6 h
  obtain ⟨us, rfl, hu, hb⟩ := newV_elim h
  obtain ⟨ax, cx, Tx, rfl, hT, ho⟩ := ow_Job hu
  clear qPX_0 qPX_1 qPX_2 qPX_3 qPX_4 qPX_5 qPX_6 qPX_7 qPX_8
  have PX_6 := Lib.hid (PX_5.out.call hb)
  have PY_6 := Lib.hid (PY_5.out.call hb)
  have H_6 := Lib.hid (rd_mv I_ok H_5.out hb)
  have H'_6 := Lib.hid (rd_mv I_ok H'_5.out hb)
  have HB6 := Lib.hid (HB5.out.trans ((hb).mono HB5.out.size))
  clear PX_5 PY_5 H_5 H'_5 HB5
  have GX_6 := Lib.hid (rd_new ho fun k hk => (hT k hk).2)
  clear hu hT ho
  clear h hb
  have hbA : Below (w6).heap.size (w6) (w6.alloc (.cells #[.int .i64 x0, .int .i64 x1, .int .i64 x2, .int .i64 x3, .int .i64 x4, .int .i64 x5, .int .i64 x6, .int .i64 x7, .slice ax L.length cx] 45)) := (Below.refl _ _).alloc (Nat.le_refl _) _
  have PX_7 := Lib.hid (PX_6.out.call hbA)
  have PY_7 := Lib.hid (PY_6.out.call hbA)
  have H_7 := Lib.hid (rd_mv I_ok H_6.out hbA)
  have H'_7 := Lib.hid (rd_mv I_ok H'_6.out hbA)
  have GX_7 := Lib.hid (rd_mv I_ok GX_6.out hbA)
  have HB7 := Lib.hid (HB6.out.trans ((hbA).mono HB6.out.size))
  clear PX_6 PY_6 H_6 H'_6 GX_6 HB6
  have BX_7 := Blk.new (w6) 45 #[.int .i64 x0, .int .i64 x1, .int .i64 x2, .int .i64 x3, .int .i64 x4, .int .i64 x5, .int .i64 x6, .int .i64 x7, .slice ax L.length cx]
  have BXh_7 := Lib.hid BX_7
  clear BX_7 hbA
  have qPY_0 := PY_7.out.at_ 0 rfl
  have qPY_1 := PY_7.out.at_ 1 rfl
  have qPY_2 := PY_7.out.at_ 2 rfl
  have qPY_3 := PY_7.out.at_ 3 rfl
  have qPY_4 := PY_7.out.at_ 4 rfl
  have qPY_5 := PY_7.out.at_ 5 rfl
  have qPY_6 := PY_7.out.at_ 6 rfl
  have qPY_7 := PY_7.out.at_ 7 rfl
  have qPY_8 := PY_7.out.at_ 8 rfl
  go_wp2_with fail
  refine (to_Job HSY.out (H'_7.out)).mono ?_
  intro e w8 h
  obtain ⟨us, rfl, hu, hb⟩ := newV_elim h
  obtain ⟨ay, cy, Ty, rfl, hT, ho⟩ := ow_Job hu
  clear qPY_0 qPY_1 qPY_2 qPY_3 qPY_4 qPY_5 qPY_6 qPY_7 qPY_8
  have PX_8 := Lib.hid (PX_7.out.call hb)
  have PY_8 := Lib.hid (PY_7.out.call hb)
  have BX_8 := Lib.hid (BXh_7.out.call hb)
  have H_8 := Lib.hid (rd_mv I_ok H_7.out hb)
  have H'_8 := Lib.hid (rd_mv I_ok H'_7.out hb)
  have GX_8 := Lib.hid (rd_mv I_ok GX_7.out hb)
  have HB8 := Lib.hid (HB7.out.trans ((hb).mono HB7.out.size))
  clear PX_7 PY_7 BXh_7 H_7 H'_7 GX_7 HB7
  have GY_8 := Lib.hid (rd_new ho fun k hk => (hT k hk).2)
  clear hu hT ho
  clear h hb
  have hbA : Below (w8).heap.size (w8) (w8.alloc (.cells #[.int .i64 y0, .int .i64 y1, .int .i64 y2, .int .i64 y3, .int .i64 y4, .int .i64 y5, .int .i64 y6, .int .i64 y7, .slice ay M.length cy] 45)) := (Below.refl _ _).alloc (Nat.le_refl _) _
  have PX_9 := Lib.hid (PX_8.out.call hbA)
  have PY_9 := Lib.hid (PY_8.out.call hbA)
  have BX_9 := Lib.hid (BX_8.out.call hbA)
  have H_9 := Lib.hid (rd_mv I_ok H_8.out hbA)
  have H'_9 := Lib.hid (rd_mv I_ok H'_8.out hbA)
  have GX_9 := Lib.hid (rd_mv I_ok GX_8.out hbA)
  have GY_9 := Lib.hid (rd_mv I_ok GY_8.out hbA)
  have HB9 := Lib.hid (HB8.out.trans ((hbA).mono HB8.out.size))
  clear PX_8 PY_8 BX_8 H_8 H'_8 GX_8 GY_8 HB8
  have BY_9 := Blk.new (w8) 45 #[.int .i64 y0, .int .i64 y1, .int .i64 y2, .int .i64 y3, .int .i64 y4, .int .i64 y5, .int .i64 y6, .int .i64 y7, .slice ay M.length cy]
  have BYh_9 := Lib.hid BY_9
  clear BY_9 hbA
  have qBX_0 := BX_9.out.at_ 0 rfl
  have qBX_1 := BX_9.out.at_ 1 rfl
  have qBX_2 := BX_9.out.at_ 2 rfl
  have qBX_3 := BX_9.out.at_ 3 rfl
  have qBX_4 := BX_9.out.at_ 4 rfl
  have qBX_5 := BX_9.out.at_ 5 rfl
  have qBX_6 := BX_9.out.at_ 6 rfl
  have qBX_7 := BX_9.out.at_ 7 rfl
  have qBX_8 := BX_9.out.at_ 8 rfl
  have qBY_0 := BYh_9.out.at_ 0 rfl
  have qBY_1 := BYh_9.out.at_ 1 rfl
  have qBY_2 := BYh_9.out.at_ 2 rfl
  have qBY_3 := BYh_9.out.at_ 3 rfl
  have qBY_4 := BYh_9.out.at_ 4 rfl
  have qBY_5 := BYh_9.out.at_ 5 rfl
  have qBY_6 := BYh_9.out.at_ 6 rfl
  have qBY_7 := BYh_9.out.at_ 7 rfl
  have qBY_8 := BYh_9.out.at_ 8 rfl
  go_wp2_with fail
  refine (ahead_impl (GX_9.out) (GY_9.out)).mono ?_
  intro e w10 h
  obtain ⟨b2, rfl, hq, hb⟩ := resB_elim h
  obtain rfl : b2 = b1 := by rw [Bool.eq_iff_iff]; exact hq.trans HQ.out.symm
  have hbb : (b2 != b2) = false := by cases b2 <;> rfl
  clear qBX_0 qBX_1 qBX_2 qBX_3 qBX_4 qBX_5 qBX_6 qBX_7 qBX_8 qBY_0 qBY_1 qBY_2 qBY_3 qBY_4 qBY_5 qBY_6 qBY_7 qBY_8
  have PX_10 := Lib.hid (PX_9.out.call hb)
  have PY_10 := Lib.hid (PY_9.out.call hb)
  have BX_10 := Lib.hid (BX_9.out.call hb)
  have BY_10 := Lib.hid (BYh_9.out.call hb)
  have H_10 := Lib.hid (rd_mv I_ok H_9.out hb)
  have H'_10 := Lib.hid (rd_mv I_ok H'_9.out hb)
  have GX_10 := Lib.hid (rd_mv I_ok GX_9.out hb)
  have GY_10 := Lib.hid (rd_mv I_ok GY_9.out hb)
  have HB10 := Lib.hid (HB9.out.trans ((hb).mono HB9.out.size))
  clear PX_9 PY_9 BX_9 BYh_9 H_9 H'_9 GX_9 GY_9 HB9
  clear hq HQ
  clear h hb
  go_wp2_with fail
  refine wp_region_held_drew (S := (fun V => Below (w10).heap.size (w10) V)) (by kernel_rfl) ((Below.refl _ _).drew) (fun hHeld => ?_)
  (refine wpAnyH_take (i := 0) (v := ?hv4) rfl (by kernel_rfl) (by kernel_rfl) (by kernel_rfl) (fun _ _ _ h => h) (Or.inl ⟨by kernel_rfl, ?hy4⟩) hHeld ?hr4; case hy4 => (intro w hSw; (try dsimp only at hSw); have k0 := (hSw.cell (p := ⟨w6.heap.size, 0, none⟩) BX_10.out.lt).trans (BX_10.out.at_ 0 rfl); have k1 := (hSw.cell (p := ⟨w6.heap.size, 1, none⟩) BX_10.out.lt).trans (BX_10.out.at_ 1 rfl); have k2 := (hSw.cell (p := ⟨w6.heap.size, 2, none⟩) BX_10.out.lt).trans (BX_10.out.at_ 2 rfl); have k3 := (hSw.cell (p := ⟨w6.heap.size, 3, none⟩) BX_10.out.lt).trans (BX_10.out.at_ 3 rfl); have k4 := (hSw.cell (p := ⟨w6.heap.size, 4, none⟩) BX_10.out.lt).trans (BX_10.out.at_ 4 rfl); have k5 := (hSw.cell (p := ⟨w6.heap.size, 5, none⟩) BX_10.out.lt).trans (BX_10.out.at_ 5 rfl); have k6 := (hSw.cell (p := ⟨w6.heap.size, 6, none⟩) BX_10.out.lt).trans (BX_10.out.at_ 6 rfl); have k7 := (hSw.cell (p := ⟨w6.heap.size, 7, none⟩) BX_10.out.lt).trans (BX_10.out.at_ 7 rfl); have k8 := (hSw.cell (p := ⟨w6.heap.size, 8, none⟩) BX_10.out.lt).trans (BX_10.out.at_ 8 rfl); clear hSw; go_simp; try with_reducible rfl))
  simp only [Act.put, List.getElem_toArray, List.getElem_cons_succ, List.getElem_cons_zero, List.setIfInBounds_toArray, List.set_cons_zero, List.set_cons_succ]
  (refine wpAnyH_take (i := 1) (v := ?hv5) rfl (by kernel_rfl) (by kernel_rfl) (by kernel_rfl) (fun _ _ _ h => h) (Or.inl ⟨by kernel_rfl, ?hy5⟩) hHeld ?hr5; case hy5 => (intro w hSw; (try dsimp only at hSw); have k0 := (hSw.cell (p := ⟨W.heap.size, 0, none⟩) PX_10.out.lt).trans (PX_10.out.at_ 0 rfl); have k1 := (hSw.cell (p := ⟨W.heap.size, 1, none⟩) PX_10.out.lt).trans (PX_10.out.at_ 1 rfl); have k2 := (hSw.cell (p := ⟨W.heap.size, 2, none⟩) PX_10.out.lt).trans (PX_10.out.at_ 2 rfl); have k3 := (hSw.cell (p := ⟨W.heap.size, 3, none⟩) PX_10.out.lt).trans (PX_10.out.at_ 3 rfl); have k4 := (hSw.cell (p := ⟨W.heap.size, 4, none⟩) PX_10.out.lt).trans (PX_10.out.at_ 4 rfl); have k5 := (hSw.cell (p := ⟨W.heap.size, 5, none⟩) PX_10.out.lt).trans (PX_10.out.at_ 5 rfl); have k6 := (hSw.cell (p := ⟨W.heap.size, 6, none⟩) PX_10.out.lt).trans (PX_10.out.at_ 6 rfl); have k7 := (hSw.cell (p := ⟨W.heap.size, 7, none⟩) PX_10.out.lt).trans (PX_10.out.at_ 7 rfl); have k8 := (hSw.cell (p := ⟨W.heap.size, 8, none⟩) PX_10.out.lt).trans (PX_10.out.at_ 8 rfl); clear hSw; go_simp; try with_reducible rfl))
  simp only [Act.put, List.getElem_toArray, List.getElem_cons_succ, List.getElem_cons_zero, List.setIfInBounds_toArray, List.set_cons_zero, List.set_cons_succ]
  refine wpAnyH_ready (rs := [2]) (by kernel_rfl) (by simp) ?_
  refine AllReadyH.cons rfl (fun K hK => ?_) AllReadyH.nil
  go_simp
  go_at_call 39
  refine (to_Job HSX.out (rd_call (H_10.out) hHeld)).mono ?_
  intro e w1001 h
  obtain ⟨us, rfl, hu, hb⟩ := newV_elim h
  obtain ⟨a1001, c1001, T1001, rfl, hT, ho⟩ := ow_Job hu
  have NZ := Lib.hid (rd_new ho fun k hk => (hT k hk).2)
  clear h
  refine hK.out _ _ (hHeld.trans (hb.mono hHeld.size)) (fun hHeld => ?_)
  clear hK K hb
  try simp only [Act.put, List.getElem_toArray, List.getElem_cons_succ, List.getElem_cons_zero, List.setIfInBounds_toArray, List.set_cons_zero, List.set_cons_succ]
  refine wpAnyH_ready (rs := [3]) (by kernel_rfl) (by simp) ?_
  refine AllReadyH.cons rfl (fun K hK => ?_) AllReadyH.nil
  go_simp
  go_at_call 40
  refine (eq_Job (rd_call (GX_10.out) hHeld) NZ.out).mono ?_
  intro e w1002 h
  obtain ⟨rfl, hb⟩ := isB_elim h
  clear h
  refine hK.out _ _ (hHeld.trans (hb.mono hHeld.size)) (fun hHeld => ?_)
  clear hK K hb
  try simp only [Act.put, List.getElem_toArray, List.getElem_cons_succ, List.getElem_cons_zero, List.setIfInBounds_toArray, List.set_cons_zero, List.set_cons_succ]
  (refine wpAnyH_take (i := 4) (v := ?hv6) rfl (by kernel_rfl) (by kernel_rfl) (by kernel_rfl) (fun _ _ _ h => h) (Or.inl ⟨by kernel_rfl, ?hy6⟩) hHeld ?hr6; case hy6 => (intro w hSw; (try dsimp only at hSw); go_simp; try with_reducible rfl))
  simp only [Act.put, List.getElem_toArray, List.getElem_cons_succ, List.getElem_cons_zero, List.setIfInBounds_toArray, List.set_cons_zero, List.set_cons_succ]
  refine wpAnyH_done (by kernel_rfl) ?_ _
  have HF := Lib.hid hHeld
  clear hHeld
  have hF := HF.out
  have PX_11 := Lib.hid (PX_10.out.call hF)
  have PY_11 := Lib.hid (PY_10.out.call hF)
  have BX_11 := Lib.hid (BX_10.out.call hF)
  have BY_11 := Lib.hid (BY_10.out.call hF)
  have H_11 := Lib.hid (rd_mv I_ok H_10.out hF)
  have H'_11 := Lib.hid (rd_mv I_ok H'_10.out hF)
  have GX_11 := Lib.hid (rd_mv I_ok GX_10.out hF)
  have GY_11 := Lib.hid (rd_mv I_ok GY_10.out hF)
  have HB11 := Lib.hid (HB10.out.trans ((hF).mono HB10.out.size))
  clear PX_10 PY_10 BX_10 BY_10 H_10 H'_10 GX_10 GY_10 HB10
  clear HF hF
  clear NZ
  go_wp2_with fail
  refine wp_region_held_drew (S := (fun V => Below (w1002).heap.size (w1002) V)) (by kernel_rfl) ((Below.refl _ _).drew) (fun hHeld => ?_)
  (refine wpAnyH_take (i := 0) (v := ?hv7) rfl (by kernel_rfl) (by kernel_rfl) (by kernel_rfl) (fun _ _ _ h => h) (Or.inl ⟨by kernel_rfl, ?hy7⟩) hHeld ?hr7; case hy7 => (intro w hSw; (try dsimp only at hSw); have k0 := (hSw.cell (p := ⟨w8.heap.size, 0, none⟩) BY_11.out.lt).trans (BY_11.out.at_ 0 rfl); have k1 := (hSw.cell (p := ⟨w8.heap.size, 1, none⟩) BY_11.out.lt).trans (BY_11.out.at_ 1 rfl); have k2 := (hSw.cell (p := ⟨w8.heap.size, 2, none⟩) BY_11.out.lt).trans (BY_11.out.at_ 2 rfl); have k3 := (hSw.cell (p := ⟨w8.heap.size, 3, none⟩) BY_11.out.lt).trans (BY_11.out.at_ 3 rfl); have k4 := (hSw.cell (p := ⟨w8.heap.size, 4, none⟩) BY_11.out.lt).trans (BY_11.out.at_ 4 rfl); have k5 := (hSw.cell (p := ⟨w8.heap.size, 5, none⟩) BY_11.out.lt).trans (BY_11.out.at_ 5 rfl); have k6 := (hSw.cell (p := ⟨w8.heap.size, 6, none⟩) BY_11.out.lt).trans (BY_11.out.at_ 6 rfl); have k7 := (hSw.cell (p := ⟨w8.heap.size, 7, none⟩) BY_11.out.lt).trans (BY_11.out.at_ 7 rfl); have k8 := (hSw.cell (p := ⟨w8.heap.size, 8, none⟩) BY_11.out.lt).trans (BY_11.out.at_ 8 rfl); clear hSw; go_simp; try with_reducible rfl))
  simp only [Act.put, List.getElem_toArray, List.getElem_cons_succ, List.getElem_cons_zero, List.setIfInBounds_toArray, List.set_cons_zero, List.set_cons_succ]
  (refine wpAnyH_take (i := 1) (v := ?hv8) rfl (by kernel_rfl) (by kernel_rfl) (by kernel_rfl) (fun _ _ _ h => h) (Or.inl ⟨by kernel_rfl, ?hy8⟩) hHeld ?hr8; case hy8 => (intro w hSw; (try dsimp only at hSw); have k0 := (hSw.cell (p := ⟨(W.heap.size + 1), 0, none⟩) PY_11.out.lt).trans (PY_11.out.at_ 0 rfl); have k1 := (hSw.cell (p := ⟨(W.heap.size + 1), 1, none⟩) PY_11.out.lt).trans (PY_11.out.at_ 1 rfl); have k2 := (hSw.cell (p := ⟨(W.heap.size + 1), 2, none⟩) PY_11.out.lt).trans (PY_11.out.at_ 2 rfl); have k3 := (hSw.cell (p := ⟨(W.heap.size + 1), 3, none⟩) PY_11.out.lt).trans (PY_11.out.at_ 3 rfl); have k4 := (hSw.cell (p := ⟨(W.heap.size + 1), 4, none⟩) PY_11.out.lt).trans (PY_11.out.at_ 4 rfl); have k5 := (hSw.cell (p := ⟨(W.heap.size + 1), 5, none⟩) PY_11.out.lt).trans (PY_11.out.at_ 5 rfl); have k6 := (hSw.cell (p := ⟨(W.heap.size + 1), 6, none⟩) PY_11.out.lt).trans (PY_11.out.at_ 6 rfl); have k7 := (hSw.cell (p := ⟨(W.heap.size + 1), 7, none⟩) PY_11.out.lt).trans (PY_11.out.at_ 7 rfl); have k8 := (hSw.cell (p := ⟨(W.heap.size + 1), 8, none⟩) PY_11.out.lt).trans (PY_11.out.at_ 8 rfl); clear hSw; go_simp; try with_reducible rfl))
  simp only [Act.put, List.getElem_toArray, List.getElem_cons_succ, List.getElem_cons_zero, List.setIfInBounds_toArray, List.set_cons_zero, List.set_cons_succ]
  refine wpAnyH_ready (rs := [2]) (by kernel_rfl) (by simp) ?_
  refine AllReadyH.cons rfl (fun K hK => ?_) AllReadyH.nil
  go_simp
  go_at_call 39
  refine (to_Job HSY.out (rd_call (H'_11.out) hHeld)).mono ?_
  intro e w1101 h
  obtain ⟨us, rfl, hu, hb⟩ := newV_elim h
  obtain ⟨a1101, c1101, T1101, rfl, hT, ho⟩ := ow_Job hu
  have NZ := Lib.hid (rd_new ho fun k hk => (hT k hk).2)
  clear h
  refine hK.out _ _ (hHeld.trans (hb.mono hHeld.size)) (fun hHeld => ?_)
  clear hK K hb
  try simp only [Act.put, List.getElem_toArray, List.getElem_cons_succ, List.getElem_cons_zero, List.setIfInBounds_toArray, List.set_cons_zero, List.set_cons_succ]
  refine wpAnyH_ready (rs := [3]) (by kernel_rfl) (by simp) ?_
  refine AllReadyH.cons rfl (fun K hK => ?_) AllReadyH.nil
  go_simp
  go_at_call 40
  refine (eq_Job (rd_call (GY_11.out) hHeld) NZ.out).mono ?_
  intro e w1102 h
  obtain ⟨rfl, hb⟩ := isB_elim h
  clear h
  refine hK.out _ _ (hHeld.trans (hb.mono hHeld.size)) (fun hHeld => ?_)
  clear hK K hb
  try simp only [Act.put, List.getElem_toArray, List.getElem_cons_succ, List.getElem_cons_zero, List.setIfInBounds_toArray, List.set_cons_zero, List.set_cons_succ]
  (refine wpAnyH_take (i := 4) (v := ?hv9) rfl (by kernel_rfl) (by kernel_rfl) (by kernel_rfl) (fun _ _ _ h => h) (Or.inl ⟨by kernel_rfl, ?hy9⟩) hHeld ?hr9; case hy9 => (intro w hSw; (try dsimp only at hSw); go_simp; try with_reducible rfl))
  simp only [Act.put, List.getElem_toArray, List.getElem_cons_succ, List.getElem_cons_zero, List.setIfInBounds_toArray, List.set_cons_zero, List.set_cons_succ]
  refine wpAnyH_done (by kernel_rfl) ?_ _
  have HF := Lib.hid hHeld
  clear hHeld
  have hF := HF.out
  have PX_12 := Lib.hid (PX_11.out.call hF)
  have PY_12 := Lib.hid (PY_11.out.call hF)
  have BX_12 := Lib.hid (BX_11.out.call hF)
  have BY_12 := Lib.hid (BY_11.out.call hF)
  have H_12 := Lib.hid (rd_mv I_ok H_11.out hF)
  have H'_12 := Lib.hid (rd_mv I_ok H'_11.out hF)
  have GX_12 := Lib.hid (rd_mv I_ok GX_11.out hF)
  have GY_12 := Lib.hid (rd_mv I_ok GY_11.out hF)
  have HB12 := Lib.hid (HB11.out.trans ((hF).mono HB11.out.size))
  clear PX_11 PY_11 BX_11 BY_11 H_11 H'_11 GX_11 GY_11 HB11
  clear HF hF
  clear NZ
  go_wp2
  go_ret
  exact ⟨rfl, HB12.out⟩
end Go.Proofs.Ytnpnjoacamginaa.RepC
