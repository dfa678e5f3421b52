/- The law on BookCut, out of the contracts. -/
import Derived.Test.YtfciojkibklkfaaNdGc
namespace Go.Proofs.Ytfciojkibklkfaa.RepC
open Go.RowKit RowC ValC SpanC KeptC
set_option linter.unusedVariables false
set_option linter.unusedSimpArgs false

set_option maxRecDepth 100000 in
set_option maxHeartbeats 4000000 in
theorem law_bookcut {L : List (D_Node)} {La : Option Addr} {Lc : Nat} {M : Int} {K : Int} {W : World} (hL : (Sl R_Node).rd W W.heap.size L [.slice La L.length Lc]) :
    Calls Try.prog 8 #[.slice La L.length Lc, .int .i64 M, .int .i64 K] W fun e w' => e = .returned (.bool true) ∧ Below W.heap.size W w' := by
  have HL := Lib.hid hL
  have HL0 := Lib.hid hL
  clear hL
  by_cases hsz : (Sl R_Node).sz L ≤ 1048576
  rotate_left
  · skip
    go_enter Try.func8, Try.ntmps8
    go_wp2_with fail
    refine (gsz_NodeS (by omega) (by omega) HL.out).mono ?_
    intro e w1 h
    obtain ⟨rfl, hb⟩ := szC_elim h
    rw [szR_no (by omega)]
    have HL_1 := Lib.hid (gmv (Sl_ok R_Node_ok) HL.out hb)
    have HB1 := Lib.hid (show Below W.heap.size W (w1) from hb)
    have HZ1 := Lib.hid ((hb).size)
    clear HL
    clear h hb
    go_wp2
    go_ret
    exact ⟨rfl, HB1.out⟩
  have HSZL := Lib.hid hsz
  have HSAL := Lib.hid (cvs_NodeS hsz)
  obtain ⟨m, hm⟩ : ∃ m : Nat, (Sl R_Node).sz L = m := ⟨_, rfl⟩
  have HM := Lib.hid hm
  rw [hm] at hsz
  clear hm
  have hlt1 : decide ((1048576 : Int) - (m : Int) < 0) = false := decide_eq_false (by omega)
  obtain ⟨⟨dL0, dx1⟩, hD⟩ : ∃ d, chgV L M true (cutN K) = d := ⟨_, rfl⟩
  have HDD := Lib.hid hD
  have HSM := Lib.hid (cut_small HSZL.out hD)
  clear hD
  go_enter Try.func8, Try.ntmps8
  go_wp2_with fail
  refine (gsz_NodeS (by omega) (by omega) HL.out).mono ?_
  intro e w1 h
  obtain ⟨rfl, hb⟩ := szC_elim h
  rw [HM.out, szR_yes (by omega)]
  have HL_1 := Lib.hid (gmv (Sl_ok R_Node_ok) HL.out hb)
  have HB1 := Lib.hid (show Below W.heap.size W (w1) from hb)
  have HZ1 := Lib.hid ((hb).size)
  clear HL
  clear hsz
  clear h hb
  go_wp2_with fail
  refine (gto_NodeS HSZL.out HL_1.out).mono ?_
  intro e w2 h
  obtain ⟨aL2, cL2, rfl, hu, hb⟩ := newS_elim2 h
  have HL_2 := Lib.hid (gmv (Sl_ok R_Node_ok) HL_1.out hb)
  have HB2 := Lib.hid (HB1.out.trans ((hb).mono HB1.out.size))
  have HZ2 := Lib.hid ((hb).size)
  clear HL_1 HB1
  have NL_2 := Lib.hid (owG_new hu)
  clear hu
  clear h hb
  go_wp2_with fail
  refine (gbc_spec (NL_2.out.rd (Sl_ok R_Node_ok))).mono ?_
  intro e w3 h
  rw [HDD.out] at h
  obtain ⟨us, rfl, hu, hb⟩ := newV_elim h
  obtain ⟨ra0w, rc0w, rfl, hu⟩ := owc_NodesOut hu
  have HL_3 := Lib.hid (gmv (Sl_ok R_Node_ok) HL_2.out hb)
  have NL_3 := Lib.hid (NL_2.out.mv (Sl_ok R_Node_ok) hb)
  have HB3 := Lib.hid (HB2.out.trans ((hb).mono HB2.out.size))
  have HZ3 := Lib.hid ((hb).size)
  clear HL_2 NL_2 HB2
  have Yw_3 := Lib.hid (owG_new hu)
  have HSw := Lib.hid (fun k (hk : Rg w2.heap.size w3.heap.size k) => hk)
  clear hu
  clear h hb
  clear NL_3
  have hbA : Below (w3).heap.size (w3) (w3.alloc (.cells #[.slice ra0w dL0.length rc0w, .int .i64 dx1] 29)) := (Below.refl _ _).alloc (Nat.le_refl _) _
  have HL_4 := Lib.hid (gmv (Sl_ok R_Node_ok) HL_3.out hbA)
  have Yw_4 := Lib.hid (Yw_3.out.mv R_NodesOut_ok hbA)
  have HB4 := Lib.hid (HB3.out.trans ((hbA).mono HB3.out.size))
  have HZ4 := Lib.hid ((hbA).size)
  clear HL_3 Yw_3 HB3
  have Bw_4 := Blk.new (w3) 29 #[.slice ra0w dL0.length rc0w, .int .i64 dx1]
  have Bwh_4 := Lib.hid Bw_4
  clear Bw_4 hbA
  have HZ5 := Lib.hid ((show (w3.alloc (.cells #[.slice ra0w dL0.length rc0w, .int .i64 dx1] 29)).heap.size = w3.heap.size + 1 by simp))
  obtain ⟨wz4, hwz4⟩ : ∃ w, w = w3.alloc (.cells #[.slice ra0w dL0.length rc0w, .int .i64 dx1] 29) := ⟨_, rfl⟩
  rw [← hwz4] at Bwh_4 HL_4 Yw_4 HB4 HZ4 HZ5
  go_wp2_with fail
  rw [← hwz4]
  clear hwz4
  refine (gto_NodeS HSZL.out HL_4.out).mono ?_
  intro e w5 h
  obtain ⟨aL5, cL5, rfl, hu, hb⟩ := newS_elim2 h
  have Bw_5 := Lib.hid (Bwh_4.out.call hb)
  have HL_5 := Lib.hid (gmv (Sl_ok R_Node_ok) HL_4.out hb)
  have Yw_5 := Lib.hid (Yw_4.out.mv R_NodesOut_ok hb)
  have HB5 := Lib.hid (HB4.out.trans ((hb).mono HB4.out.size))
  have HZ6 := Lib.hid ((hb).size)
  clear Bwh_4 HL_4 Yw_4 HB4
  have X_5 := Lib.hid (owG_new hu)
  have HSX := Lib.hid (fun k (hk : Rg wz4.heap.size w5.heap.size k) => hk)
  clear hu
  clear h hb
  go_wp2_with fail
  refine (gbc_impl (X_5.out.rd (Sl_ok R_Node_ok))).mono ?_
  intro e w6 h
  rw [HDD.out] at h
  obtain ⟨us, rfl, hu, hb⟩ := newV_elim h
  obtain ⟨ra0g, rc0g, rfl, hu⟩ := owc_NodesOut hu
  have Bw_6 := Lib.hid (Bw_5.out.call hb)
  have HL_6 := Lib.hid (gmv (Sl_ok R_Node_ok) HL_5.out hb)
  have Yw_6 := Lib.hid (Yw_5.out.mv R_NodesOut_ok hb)
  have X_6 := Lib.hid (X_5.out.mv (Sl_ok R_Node_ok) hb)
  have HB6 := Lib.hid (HB5.out.trans ((hb).mono HB5.out.size))
  have HZ7 := Lib.hid ((hb).size)
  clear Bw_5 HL_5 Yw_5 X_5 HB5
  have Yg_6 := Lib.hid (owG_new hu)
  have HSg := Lib.hid (fun k (hk : Rg w5.heap.size w6.heap.size k) => hk)
  clear hu
  clear h hb
  have hbA : Below (w6).heap.size (w6) (w6.alloc (.cells #[.slice ra0g dL0.length rc0g, .int .i64 dx1] 29)) := (Below.refl _ _).alloc (Nat.le_refl _) _
  have Bw_7 := Lib.hid (Bw_6.out.call hbA)
  have HL_7 := Lib.hid (gmv (Sl_ok R_Node_ok) HL_6.out hbA)
  have Yw_7 := Lib.hid (Yw_6.out.mv R_NodesOut_ok hbA)
  have X_7 := Lib.hid (X_6.out.mv (Sl_ok R_Node_ok) hbA)
  have Yg_7 := Lib.hid (Yg_6.out.mv R_NodesOut_ok hbA)
  have HB7 := Lib.hid (HB6.out.trans ((hbA).mono HB6.out.size))
  have HZ8 := Lib.hid ((hbA).size)
  clear Bw_6 HL_6 Yw_6 X_6 Yg_6 HB6
  have Bg_7 := Blk.new (w6) 29 #[.slice ra0g dL0.length rc0g, .int .i64 dx1]
  have Bgh_7 := Lib.hid Bg_7
  clear Bg_7 hbA
  have HZ9 := Lib.hid ((show (w6.alloc (.cells #[.slice ra0g dL0.length rc0g, .int .i64 dx1] 29)).heap.size = w6.heap.size + 1 by simp))
  obtain ⟨wz7, hwz7⟩ : ∃ w, w = w6.alloc (.cells #[.slice ra0g dL0.length rc0g, .int .i64 dx1] 29) := ⟨_, rfl⟩
  rw [← hwz7] at Bw_7 Bgh_7 HL_7 Yw_7 X_7 Yg_7 HB7 HZ8 HZ9
  have qBg_0 := Bgh_7.out.at_ 0 rfl
  have qBg_1 := Bgh_7.out.at_ 1 rfl
  have qBw_0 := Bw_7.out.at_ 0 rfl
  have qBw_1 := Bw_7.out.at_ 1 rfl
  have qBg_0_u := qBg_0
  rw [hwz7] at qBg_0_u
  have qBg_1_u := qBg_1
  rw [hwz7] at qBg_1_u
  have qBw_0_u := qBw_0
  rw [hwz7] at qBw_0_u
  have qBw_1_u := qBw_1
  rw [hwz7] at qBw_1_u
  go_wp2_with fail
  rw [← hwz7]
  clear hwz7
  refine (geq_NodesOut (Yg_7.out.rd R_NodesOut_ok) (Yw_7.out.rd R_NodesOut_ok)).mono ?_
  intro e w8 h
  obtain ⟨rfl, hb⟩ := isB_elim h
  clear qBg_0 qBg_1 qBw_0 qBw_1 qBg_0_u qBg_1_u qBw_0_u qBw_1_u
  have Bw_8 := Lib.hid (Bw_7.out.call hb)
  have Bg_8 := Lib.hid (Bgh_7.out.call hb)
  have HL_8 := Lib.hid (gmv (Sl_ok R_Node_ok) HL_7.out hb)
  have Yw_8 := Lib.hid (Yw_7.out.mv R_NodesOut_ok hb)
  have X_8 := Lib.hid (X_7.out.mv (Sl_ok R_Node_ok) hb)
  have Yg_8 := Lib.hid (Yg_7.out.mv R_NodesOut_ok hb)
  have HB8 := Lib.hid (HB7.out.trans ((hb).mono HB7.out.size))
  have HZ10 := Lib.hid ((hb).size)
  clear Bw_7 Bgh_7 HL_7 Yw_7 X_7 Yg_7 HB7
  clear h hb
  go_wp2_with fail
  refine (gto_NodeS HSZL.out HL_8.out).mono ?_
  intro e w9 h
  obtain ⟨aL9, cL9, rfl, hu, hb⟩ := newS_elim2 h
  have Bw_9 := Lib.hid (Bw_8.out.call hb)
  have Bg_9 := Lib.hid (Bg_8.out.call hb)
  have HL_9 := Lib.hid (gmv (Sl_ok R_Node_ok) HL_8.out hb)
  have Yw_9 := Lib.hid (Yw_8.out.mv R_NodesOut_ok hb)
  have X_9 := Lib.hid (X_8.out.mv (Sl_ok R_Node_ok) hb)
  have Yg_9 := Lib.hid (Yg_8.out.mv R_NodesOut_ok hb)
  have HB9 := Lib.hid (HB8.out.trans ((hb).mono HB8.out.size))
  have HZ11 := Lib.hid ((hb).size)
  clear Bw_8 Bg_8 HL_8 Yw_8 X_8 Yg_8 HB8
  have NL_9 := Lib.hid (owG_new hu)
  clear hu
  clear h hb
  go_wp2_with fail
  refine (geq_NodeS (X_9.out.rd (Sl_ok R_Node_ok)) (NL_9.out.rd (Sl_ok R_Node_ok))).mono ?_
  intro e w10 h
  obtain ⟨rfl, hb⟩ := isB_elim h
  have Bw_10 := Lib.hid (Bw_9.out.call hb)
  have Bg_10 := Lib.hid (Bg_9.out.call hb)
  have HL_10 := Lib.hid (gmv (Sl_ok R_Node_ok) HL_9.out hb)
  have Yw_10 := Lib.hid (Yw_9.out.mv R_NodesOut_ok hb)
  have X_10 := Lib.hid (X_9.out.mv (Sl_ok R_Node_ok) hb)
  have Yg_10 := Lib.hid (Yg_9.out.mv R_NodesOut_ok hb)
  have NL_10 := Lib.hid (NL_9.out.mv (Sl_ok R_Node_ok) hb)
  have HB10 := Lib.hid (HB9.out.trans ((hb).mono HB9.out.size))
  have HZ12 := Lib.hid ((hb).size)
  clear Bw_9 Bg_9 HL_9 Yw_9 X_9 Yg_9 NL_9 HB9
  clear h hb
  clear NL_10
  go_wp2_with fail
  refine (gmark_NodeS (by omega) (by have h1 := HSAL.out; omega) X_10.out.2 X_10.out.1).mono ?_
  intro e wm h
  obtain ⟨dM, y1, rfl, hmv, hzz, ho, hoff⟩ := markG_elim h
  have HB11 := Lib.hid (HB10.out.trans (hoff.below HB10.out.size (fun k hk => by have zHZ1 := HZ1.out; have zHZ2 := HZ2.out; have zHZ3 := HZ3.out; have zHZ4 := HZ4.out; have zHZ5 := HZ5.out; have zHZ6 := HZ6.out; have zHZ7 := HZ7.out; have zHZ8 := HZ8.out; have zHZ9 := HZ9.out; have zHZ10 := HZ10.out; have zHZ11 := HZ11.out; have zHZ12 := HZ12.out; have rX := HSX.out _ hk; try unfold Rg at rX; omega)))
  have Bw_11 := Lib.hid (Bw_10.out.off hoff Bw_10.out.lt (fun hk => by have zHZ1 := HZ1.out; have zHZ2 := HZ2.out; have zHZ3 := HZ3.out; have zHZ4 := HZ4.out; have zHZ5 := HZ5.out; have zHZ6 := HZ6.out; have zHZ7 := HZ7.out; have zHZ8 := HZ8.out; have zHZ9 := HZ9.out; have zHZ10 := HZ10.out; have zHZ11 := HZ11.out; have zHZ12 := HZ12.out; have rX := HSX.out _ hk; try unfold Rg at rX; omega))
  have Bg_11 := Lib.hid (Bg_10.out.off hoff Bg_10.out.lt (fun hk => by have zHZ1 := HZ1.out; have zHZ2 := HZ2.out; have zHZ3 := HZ3.out; have zHZ4 := HZ4.out; have zHZ5 := HZ5.out; have zHZ6 := HZ6.out; have zHZ7 := HZ7.out; have zHZ8 := HZ8.out; have zHZ9 := HZ9.out; have zHZ10 := HZ10.out; have zHZ11 := HZ11.out; have zHZ12 := HZ12.out; have rX := HSX.out _ hk; try unfold Rg at rX; omega))
  have HL_11 := Lib.hid (gmv (Sl_ok R_Node_ok) HL0.out HB11.out)
  have Yw_11 := Lib.hid (Yw_10.out.off R_NodesOut_ok hoff (fun k hk hk2 => by have zHZ1 := HZ1.out; have zHZ2 := HZ2.out; have zHZ3 := HZ3.out; have zHZ4 := HZ4.out; have zHZ5 := HZ5.out; have zHZ6 := HZ6.out; have zHZ7 := HZ7.out; have zHZ8 := HZ8.out; have zHZ9 := HZ9.out; have zHZ10 := HZ10.out; have zHZ11 := HZ11.out; have zHZ12 := HZ12.out; have rX := HSX.out k hk2; try unfold Rg at rX; have rw := HSw.out k hk; try unfold Rg at rw; omega))
  have Yg_11 := Lib.hid (Yg_10.out.off R_NodesOut_ok hoff (fun k hk hk2 => by have zHZ1 := HZ1.out; have zHZ2 := HZ2.out; have zHZ3 := HZ3.out; have zHZ4 := HZ4.out; have zHZ5 := HZ5.out; have zHZ6 := HZ6.out; have zHZ7 := HZ7.out; have zHZ8 := HZ8.out; have zHZ9 := HZ9.out; have zHZ10 := HZ10.out; have zHZ11 := HZ11.out; have zHZ12 := HZ12.out; have rX := HSX.out k hk2; try unfold Rg at rX; have rg := HSg.out k hk; try unfold Rg at rg; omega))
  have hkn : decide (y1 < 0) = false := decide_eq_false (by omega)
  have HZ13 := Lib.hid (hoff.size)
  clear h hmv hzz ho hoff
  have qBg_0 := Bg_11.out.at_ 0 rfl
  have qBg_1 := Bg_11.out.at_ 1 rfl
  have qBw_0 := Bw_11.out.at_ 0 rfl
  have qBw_1 := Bw_11.out.at_ 1 rfl
  go_wp2_with fail
  refine (geq_NodesOut (Yg_11.out.rd R_NodesOut_ok) (Yw_11.out.rd R_NodesOut_ok)).mono ?_
  intro e w12 h
  obtain ⟨rfl, hb⟩ := isB_elim h
  clear qBg_0 qBg_1 qBw_0 qBw_1
  have Bw_12 := Lib.hid (Bw_11.out.call hb)
  have Bg_12 := Lib.hid (Bg_11.out.call hb)
  have HL_12 := Lib.hid (gmv (Sl_ok R_Node_ok) HL_11.out hb)
  have Yw_12 := Lib.hid (Yw_11.out.mv R_NodesOut_ok hb)
  have Yg_12 := Lib.hid (Yg_11.out.mv R_NodesOut_ok hb)
  have HB12 := Lib.hid (HB11.out.trans ((hb).mono HB11.out.size))
  have HZ14 := Lib.hid ((hb).size)
  clear Bw_11 Bg_11 HL_11 Yw_11 Yg_11 HB11
  clear h hb
  clear hkn
  have qBg_0 := Bg_12.out.at_ 0 rfl
  have qBg_1 := Bg_12.out.at_ 1 rfl
  go_wp2_with fail
  refine (gmark_NodesOut (by omega) (by have h1 := HSM.out; omega) Yg_12.out.2 Yg_12.out.1).mono ?_
  intro e wn h
  obtain ⟨dN, zN, rfl, hmv, hzz, ho, hoff⟩ := markG_elim h
  clear qBg_0 qBg_1
  have HB13 := Lib.hid (HB12.out.trans (hoff.below HB12.out.size (fun k hk => by have zHZ1 := HZ1.out; have zHZ2 := HZ2.out; have zHZ3 := HZ3.out; have zHZ4 := HZ4.out; have zHZ5 := HZ5.out; have zHZ6 := HZ6.out; have zHZ7 := HZ7.out; have zHZ8 := HZ8.out; have zHZ9 := HZ9.out; have zHZ10 := HZ10.out; have zHZ11 := HZ11.out; have zHZ12 := HZ12.out; have zHZ13 := HZ13.out; have zHZ14 := HZ14.out; have rg := HSg.out _ hk; try unfold Rg at rg; omega)))
  have Bw_13 := Lib.hid (Bw_12.out.off hoff Bw_12.out.lt (fun hk => by have zHZ1 := HZ1.out; have zHZ2 := HZ2.out; have zHZ3 := HZ3.out; have zHZ4 := HZ4.out; have zHZ5 := HZ5.out; have zHZ6 := HZ6.out; have zHZ7 := HZ7.out; have zHZ8 := HZ8.out; have zHZ9 := HZ9.out; have zHZ10 := HZ10.out; have zHZ11 := HZ11.out; have zHZ12 := HZ12.out; have zHZ13 := HZ13.out; have zHZ14 := HZ14.out; have rg := HSg.out _ hk; try unfold Rg at rg; omega))
  have Bg_13 := Lib.hid (Bg_12.out.off hoff Bg_12.out.lt (fun hk => by have zHZ1 := HZ1.out; have zHZ2 := HZ2.out; have zHZ3 := HZ3.out; have zHZ4 := HZ4.out; have zHZ5 := HZ5.out; have zHZ6 := HZ6.out; have zHZ7 := HZ7.out; have zHZ8 := HZ8.out; have zHZ9 := HZ9.out; have zHZ10 := HZ10.out; have zHZ11 := HZ11.out; have zHZ12 := HZ12.out; have zHZ13 := HZ13.out; have zHZ14 := HZ14.out; have rg := HSg.out _ hk; try unfold Rg at rg; omega))
  have HL_13 := Lib.hid (gmv (Sl_ok R_Node_ok) HL0.out HB13.out)
  have Yw_13 := Lib.hid (Yw_12.out.off R_NodesOut_ok hoff (fun k hk hk2 => by have zHZ1 := HZ1.out; have zHZ2 := HZ2.out; have zHZ3 := HZ3.out; have zHZ4 := HZ4.out; have zHZ5 := HZ5.out; have zHZ6 := HZ6.out; have zHZ7 := HZ7.out; have zHZ8 := HZ8.out; have zHZ9 := HZ9.out; have zHZ10 := HZ10.out; have zHZ11 := HZ11.out; have zHZ12 := HZ12.out; have zHZ13 := HZ13.out; have zHZ14 := HZ14.out; have rg := HSg.out k hk2; try unfold Rg at rg; have rw := HSw.out k hk; try unfold Rg at rw; omega))
  have Yg_13 := Lib.hid (show OwG R_NodesOut wn _ dN _ from ⟨ho, fun k hk => Nat.lt_of_lt_of_le (Yg_12.out.2 k hk) hoff.size⟩)
  have HMV := Lib.hid hmv
  have hzn : decide (zN < 0) = false := decide_eq_false (by omega)
  have hze : (zN != zN) = false := by simp
  have hzb : zN ≤ 4611686018427387904 := by have := HSM.out; omega
  have HZ15 := Lib.hid (hoff.size)
  clear h hmv hzz ho hoff
  have qBg_0 := Bg_13.out.at_ 0 rfl
  have qBg_1 := Bg_13.out.at_ 1 rfl
  go_wp2_with fail
  refine (gheld_NodesOut (by omega) hzb HMV.out (Yg_13.out.rd R_NodesOut_ok)).mono ?_
  intro e w14 h
  obtain ⟨rfl, hb⟩ := heldC_elim h
  clear qBg_0 qBg_1
  have Bw_14 := Lib.hid (Bw_13.out.call hb)
  have Bg_14 := Lib.hid (Bg_13.out.call hb)
  have HL_14 := Lib.hid (gmv (Sl_ok R_Node_ok) HL_13.out hb)
  have Yw_14 := Lib.hid (Yw_13.out.mv R_NodesOut_ok hb)
  have Yg_14 := Lib.hid (Yg_13.out.mv R_NodesOut_ok hb)
  have HB14 := Lib.hid (HB13.out.trans ((hb).mono HB13.out.size))
  have HZ16 := Lib.hid ((hb).size)
  clear Bw_13 Bg_13 HL_13 Yw_13 Yg_13 HB13
  clear h hb
  go_wp2_with fail
  refine (gto_NodeS HSZL.out HL_14.out).mono ?_
  intro e w15 h
  obtain ⟨aL15, cL15, rfl, hu, hb⟩ := newS_elim2 h
  have Bw_15 := Lib.hid (Bw_14.out.call hb)
  have Bg_15 := Lib.hid (Bg_14.out.call hb)
  have HL_15 := Lib.hid (gmv (Sl_ok R_Node_ok) HL_14.out hb)
  have Yw_15 := Lib.hid (Yw_14.out.mv R_NodesOut_ok hb)
  have Yg_15 := Lib.hid (Yg_14.out.mv R_NodesOut_ok hb)
  have HB15 := Lib.hid (HB14.out.trans ((hb).mono HB14.out.size))
  have HZ17 := Lib.hid ((hb).size)
  clear Bw_14 Bg_14 HL_14 Yw_14 Yg_14 HB14
  have NL_15 := Lib.hid (owG_new hu)
  clear hu
  clear h hb
  go_wp2_with fail
  refine (gbc_impl (NL_15.out.rd (Sl_ok R_Node_ok))).mono ?_
  intro e w16 h
  rw [HDD.out] at h
  obtain ⟨us, rfl, hu, hb⟩ := newV_elim h
  obtain ⟨ra0h, rc0h, rfl, hu⟩ := owc_NodesOut hu
  have Bw_16 := Lib.hid (Bw_15.out.call hb)
  have Bg_16 := Lib.hid (Bg_15.out.call hb)
  have HL_16 := Lib.hid (gmv (Sl_ok R_Node_ok) HL_15.out hb)
  have Yw_16 := Lib.hid (Yw_15.out.mv R_NodesOut_ok hb)
  have Yg_16 := Lib.hid (Yg_15.out.mv R_NodesOut_ok hb)
  have NL_16 := Lib.hid (NL_15.out.mv (Sl_ok R_Node_ok) hb)
  have HB16 := Lib.hid (HB15.out.trans ((hb).mono HB15.out.size))
  have HZ18 := Lib.hid ((hb).size)
  clear Bw_15 Bg_15 HL_15 Yw_15 Yg_15 NL_15 HB15
  have Yh_16 := Lib.hid (owG_new hu)
  have HSh := Lib.hid (fun k (hk : Rg w15.heap.size w16.heap.size k) => hk)
  clear hu
  clear h hb
  clear NL_16
  have hbA : Below (w16).heap.size (w16) (w16.alloc (.cells #[.slice ra0h dL0.length rc0h, .int .i64 dx1] 29)) := (Below.refl _ _).alloc (Nat.le_refl _) _
  have Bw_17 := Lib.hid (Bw_16.out.call hbA)
  have Bg_17 := Lib.hid (Bg_16.out.call hbA)
  have HL_17 := Lib.hid (gmv (Sl_ok R_Node_ok) HL_16.out hbA)
  have Yw_17 := Lib.hid (Yw_16.out.mv R_NodesOut_ok hbA)
  have Yg_17 := Lib.hid (Yg_16.out.mv R_NodesOut_ok hbA)
  have Yh_17 := Lib.hid (Yh_16.out.mv R_NodesOut_ok hbA)
  have HB17 := Lib.hid (HB16.out.trans ((hbA).mono HB16.out.size))
  have HZ19 := Lib.hid ((hbA).size)
  clear Bw_16 Bg_16 HL_16 Yw_16 Yg_16 Yh_16 HB16
  have Bh_17 := Blk.new (w16) 29 #[.slice ra0h dL0.length rc0h, .int .i64 dx1]
  have Bhh_17 := Lib.hid Bh_17
  clear Bh_17 hbA
  have HZ20 := Lib.hid ((show (w16.alloc (.cells #[.slice ra0h dL0.length rc0h, .int .i64 dx1] 29)).heap.size = w16.heap.size + 1 by simp))
  obtain ⟨wz17, hwz17⟩ : ∃ w, w = w16.alloc (.cells #[.slice ra0h dL0.length rc0h, .int .i64 dx1] 29) := ⟨_, rfl⟩
  rw [← hwz17] at Bw_17 Bg_17 Bhh_17 HL_17 Yw_17 Yg_17 Yh_17 HB17 HZ19 HZ20
  have qBh_0 := Bhh_17.out.at_ 0 rfl
  have qBh_1 := Bhh_17.out.at_ 1 rfl
  have qBw_0 := Bw_17.out.at_ 0 rfl
  have qBw_1 := Bw_17.out.at_ 1 rfl
  have qBh_0_u := qBh_0
  rw [hwz17] at qBh_0_u
  have qBh_1_u := qBh_1
  rw [hwz17] at qBh_1_u
  have qBw_0_u := qBw_0
  rw [hwz17] at qBw_0_u
  have qBw_1_u := qBw_1
  rw [hwz17] at qBw_1_u
  go_wp2_with fail
  rw [← hwz17]
  clear hwz17
  refine (geq_NodesOut (Yh_17.out.rd R_NodesOut_ok) (Yw_17.out.rd R_NodesOut_ok)).mono ?_
  intro e w18 h
  obtain ⟨rfl, hb⟩ := isB_elim h
  clear qBh_0 qBh_1 qBw_0 qBw_1 qBh_0_u qBh_1_u qBw_0_u qBw_1_u
  have Bw_18 := Lib.hid (Bw_17.out.call hb)
  have Bg_18 := Lib.hid (Bg_17.out.call hb)
  have Bh_18 := Lib.hid (Bhh_17.out.call hb)
  have HL_18 := Lib.hid (gmv (Sl_ok R_Node_ok) HL_17.out hb)
  have Yw_18 := Lib.hid (Yw_17.out.mv R_NodesOut_ok hb)
  have Yg_18 := Lib.hid (Yg_17.out.mv R_NodesOut_ok hb)
  have Yh_18 := Lib.hid (Yh_17.out.mv R_NodesOut_ok hb)
  have HB18 := Lib.hid (HB17.out.trans ((hb).mono HB17.out.size))
  have HZ21 := Lib.hid ((hb).size)
  clear Bw_17 Bg_17 Bhh_17 HL_17 Yw_17 Yg_17 Yh_17 HB17
  clear h hb
  have qBg_0 := Bg_18.out.at_ 0 rfl
  have qBg_1 := Bg_18.out.at_ 1 rfl
  go_wp2_with fail
  refine (gheld_NodesOut (by omega) hzb HMV.out (Yg_18.out.rd R_NodesOut_ok)).mono ?_
  intro e w19 h
  obtain ⟨rfl, hb⟩ := heldC_elim h
  clear qBg_0 qBg_1
  have Bw_19 := Lib.hid (Bw_18.out.call hb)
  have Bg_19 := Lib.hid (Bg_18.out.call hb)
  have Bh_19 := Lib.hid (Bh_18.out.call hb)
  have HL_19 := Lib.hid (gmv (Sl_ok R_Node_ok) HL_18.out hb)
  have Yw_19 := Lib.hid (Yw_18.out.mv R_NodesOut_ok hb)
  have Yg_19 := Lib.hid (Yg_18.out.mv R_NodesOut_ok hb)
  have Yh_19 := Lib.hid (Yh_18.out.mv R_NodesOut_ok hb)
  have HB19 := Lib.hid (HB18.out.trans ((hb).mono HB18.out.size))
  have HZ22 := Lib.hid ((hb).size)
  clear Bw_18 Bg_18 Bh_18 HL_18 Yw_18 Yg_18 Yh_18 HB18
  clear h hb
  go_wp2
  go_ret
  exact ⟨rfl, HB19.out⟩
end Go.Proofs.Ytfciojkibklkfaa.RepC
