/- The law on DiskWipe, out of the contracts. -/
import Derived.Test.YtdedomfocljhaaaTk
import Derived.Test.YtdedomfocljhaaaTk
import Derived.Test.YtdedomfocljhaaaZrG1
namespace Go.Proofs.Ytdedomfocljhaaa.RepC
open Go.RowKit RowC ValC SpanC KeptC
set_option linter.unusedVariables false
set_option linter.unusedSimpArgs false

set_option maxRecDepth 100000 in
set_option maxHeartbeats 4000000 in
theorem law_wipe {DL0 : List (D_Region)} {Dx1 : Int} {Da0 : Option Addr} {Dc0 : Nat} {R : Int} {W : World} (hD : R_Disk.rd W W.heap.size (DL0, Dx1) [.slice Da0 DL0.length Dc0, .int .i64 Dx1]) :
    Calls Try.prog 8 #[.agg #[.slice Da0 DL0.length Dc0, .int .i64 Dx1], .int .i64 R] W fun e w' => e = .returned (.bool true) ∧ Below W.heap.size W w' := by
  have HD := Lib.hid hD
  have HD0 := Lib.hid hD
  clear hD
  have hbA : Below (W).heap.size (W) (W.alloc (.cells #[.slice Da0 DL0.length Dc0, .int .i64 Dx1] 42)) := (Below.refl _ _).alloc (Nat.le_refl _) _
  have HD_1 := Lib.hid (gmv R_Disk_ok HD.out hbA)
  have HB1 := Lib.hid (show Below W.heap.size W (W.alloc (.cells #[.slice Da0 DL0.length Dc0, .int .i64 Dx1] 42)) from hbA)
  have HZ1 := Lib.hid ((hbA).size)
  clear HD
  have PD_1 := Blk.new (W) 42 #[.slice Da0 DL0.length Dc0, .int .i64 Dx1]
  have PDh_1 := Lib.hid PD_1
  clear PD_1 hbA
  by_cases hsz : R_Disk.sz (DL0, Dx1) ≤ 1048576
  rotate_left
  · skip
    go_enter Try.func8, Try.ntmps8
    have qPD_0 := PDh_1.out.at_ 0 rfl
    have qPD_1 := PDh_1.out.at_ 1 rfl
    go_wp2_with fail
    refine (gsz_Disk (by omega) (by omega) HD_1.out).mono ?_
    intro e w2 h
    obtain ⟨rfl, hb⟩ := szC_elim h
    rw [szR_no (by omega)]
    clear qPD_0 qPD_1
    have PD_2 := Lib.hid (PDh_1.out.call hb)
    have HD_2 := Lib.hid (gmv R_Disk_ok HD_1.out hb)
    have HB2 := Lib.hid (HB1.out.trans ((hb).mono HB1.out.size))
    have HZ2 := Lib.hid ((hb).size)
    clear PDh_1 HD_1 HB1
    clear h hb
    go_wp2
    go_ret
    exact ⟨rfl, HB2.out⟩
  have HSZD := Lib.hid hsz
  have HSAD := Lib.hid (cvs_Disk hsz)
  obtain ⟨m, hm⟩ : ∃ m : Nat, R_Disk.sz (DL0, Dx1) = m := ⟨_, rfl⟩
  have HM := Lib.hid hm
  rw [hm] at hsz
  clear hm
  have hlt1 : decide ((1048576 : Int) - (m : Int) < 0) = false := decide_eq_false (by omega)
  obtain ⟨⟨⟨dL0, dx1⟩, dx2⟩, hD⟩ : ∃ d, ChC.chgV ChC.wipeF DL0 Dx1 R = d := ⟨_, rfl⟩
  have HDD := Lib.hid hD
  have HSM := Lib.hid (chg_small HSZD.out hD)
  clear hD
  go_enter Try.func8, Try.ntmps8
  have qPD_0 := PDh_1.out.at_ 0 rfl
  have qPD_1 := PDh_1.out.at_ 1 rfl
  go_wp2_with fail
  refine (gsz_Disk (by omega) (by omega) HD_1.out).mono ?_
  intro e w2 h
  obtain ⟨rfl, hb⟩ := szC_elim h
  rw [HM.out, szR_yes (by omega)]
  clear qPD_0 qPD_1
  have PD_2 := Lib.hid (PDh_1.out.call hb)
  have HD_2 := Lib.hid (gmv R_Disk_ok HD_1.out hb)
  have HB2 := Lib.hid (HB1.out.trans ((hb).mono HB1.out.size))
  have HZ2 := Lib.hid ((hb).size)
  clear PDh_1 HD_1 HB1
  clear hsz
  clear h hb
  have HPL := Lib.hid (PD_2.out.lt)
  have qPD_0 := PD_2.out.at_ 0 rfl
  have qPD_1 := PD_2.out.at_ 1 rfl
  go_wp2_with fail
  refine (gto_Disk HSZD.out HD_2.out).mono ?_
  intro e w3 h
  obtain ⟨us, rfl, hu, hb⟩ := newV_elim h
  obtain ⟨aD03, cD03, rfl, hu⟩ := owc_Disk hu
  clear qPD_0 qPD_1
  have PD_3 := Lib.hid (PD_2.out.call hb)
  have HD_3 := Lib.hid (gmv R_Disk_ok HD_2.out hb)
  have HB3 := Lib.hid (HB2.out.trans ((hb).mono HB2.out.size))
  have HZ3 := Lib.hid ((hb).size)
  clear PD_2 HD_2 HB2
  have ND_3 := Lib.hid (owG_new hu)
  clear hu
  clear h hb
  go_wp2_with fail
  refine (gwipe_spec (ND_3.out.rd R_Disk_ok)).mono ?_
  intro e w4 h
  rw [HDD.out] at h
  obtain ⟨us, rfl, hu, hb⟩ := newV_elim h
  obtain ⟨ra0w, rc0w, rfl, hu⟩ := owc_DiskOut hu
  have PD_4 := Lib.hid (PD_3.out.call hb)
  have HD_4 := Lib.hid (gmv R_Disk_ok HD_3.out hb)
  have ND_4 := Lib.hid (ND_3.out.mv R_Disk_ok hb)
  have HB4 := Lib.hid (HB3.out.trans ((hb).mono HB3.out.size))
  have HZ4 := Lib.hid ((hb).size)
  clear PD_3 HD_3 ND_3 HB3
  have Yw_4 := Lib.hid (owG_new hu)
  have HSw := Lib.hid (fun k (hk : Rg w3.heap.size w4.heap.size k) => hk)
  clear hu
  clear h hb
  clear ND_4
  have hbA : Below (w4).heap.size (w4) (w4.alloc (.cells #[.slice ra0w dL0.length rc0w, .int .i64 dx1, .int .i64 dx2] 55)) := (Below.refl _ _).alloc (Nat.le_refl _) _
  have PD_5 := Lib.hid (PD_4.out.call hbA)
  have HD_5 := Lib.hid (gmv R_Disk_ok HD_4.out hbA)
  have Yw_5 := Lib.hid (Yw_4.out.mv R_DiskOut_ok hbA)
  have HB5 := Lib.hid (HB4.out.trans ((hbA).mono HB4.out.size))
  have HZ5 := Lib.hid ((hbA).size)
  clear PD_4 HD_4 Yw_4 HB4
  have Bw_5 := Blk.new (w4) 55 #[.slice ra0w dL0.length rc0w, .int .i64 dx1, .int .i64 dx2]
  have Bwh_5 := Lib.hid Bw_5
  clear Bw_5 hbA
  have HZ6 := Lib.hid ((show (w4.alloc (.cells #[.slice ra0w dL0.length rc0w, .int .i64 dx1, .int .i64 dx2] 55)).heap.size = w4.heap.size + 1 by simp))
  obtain ⟨wz5, hwz5⟩ : ∃ w, w = w4.alloc (.cells #[.slice ra0w dL0.length rc0w, .int .i64 dx1, .int .i64 dx2] 55) := ⟨_, rfl⟩
  rw [← hwz5] at PD_5 Bwh_5 HD_5 Yw_5 HB5 HZ5 HZ6
  have qPD_0 := PD_5.out.at_ 0 rfl
  have qPD_1 := PD_5.out.at_ 1 rfl
  have qPD_0_u := qPD_0
  rw [hwz5] at qPD_0_u
  have qPD_1_u := qPD_1
  rw [hwz5] at qPD_1_u
  go_wp2_with fail
  rw [← hwz5]
  clear hwz5
  refine (gto_Disk HSZD.out HD_5.out).mono ?_
  intro e w6 h
  obtain ⟨us, rfl, hu, hb⟩ := newV_elim h
  obtain ⟨aD06, cD06, rfl, hu⟩ := owc_Disk hu
  clear qPD_0 qPD_1 qPD_0_u qPD_1_u
  have PD_6 := Lib.hid (PD_5.out.call hb)
  have Bw_6 := Lib.hid (Bwh_5.out.call hb)
  have HD_6 := Lib.hid (gmv R_Disk_ok HD_5.out hb)
  have Yw_6 := Lib.hid (Yw_5.out.mv R_DiskOut_ok hb)
  have HB6 := Lib.hid (HB5.out.trans ((hb).mono HB5.out.size))
  have HZ7 := Lib.hid ((hb).size)
  clear PD_5 Bwh_5 HD_5 Yw_5 HB5
  have X_6 := Lib.hid (owG_new hu)
  have HSX := Lib.hid (fun k (hk : Rg wz5.heap.size w6.heap.size k) => hk)
  clear hu
  clear h hb
  have hbA : Below (w6).heap.size (w6) (w6.alloc (.cells #[.slice aD06 DL0.length cD06, .int .i64 Dx1] 47)) := (Below.refl _ _).alloc (Nat.le_refl _) _
  have PD_7 := Lib.hid (PD_6.out.call hbA)
  have Bw_7 := Lib.hid (Bw_6.out.call hbA)
  have HD_7 := Lib.hid (gmv R_Disk_ok HD_6.out hbA)
  have Yw_7 := Lib.hid (Yw_6.out.mv R_DiskOut_ok hbA)
  have X_7 := Lib.hid (X_6.out.mv R_Disk_ok hbA)
  have HB7 := Lib.hid (HB6.out.trans ((hbA).mono HB6.out.size))
  have HZ8 := Lib.hid ((hbA).size)
  clear PD_6 Bw_6 HD_6 Yw_6 X_6 HB6
  have BX_7 := Blk.new (w6) 47 #[.slice aD06 DL0.length cD06, .int .i64 Dx1]
  have BXh_7 := Lib.hid BX_7
  clear BX_7 hbA
  have HZ9 := Lib.hid ((show (w6.alloc (.cells #[.slice aD06 DL0.length cD06, .int .i64 Dx1] 47)).heap.size = w6.heap.size + 1 by simp))
  obtain ⟨wz7, hwz7⟩ : ∃ w, w = w6.alloc (.cells #[.slice aD06 DL0.length cD06, .int .i64 Dx1] 47) := ⟨_, rfl⟩
  rw [← hwz7] at PD_7 Bw_7 BXh_7 HD_7 Yw_7 X_7 HB7 HZ8 HZ9
  have qBX_0 := BXh_7.out.at_ 0 rfl
  have qBX_1 := BXh_7.out.at_ 1 rfl
  have qBX_0_u := qBX_0
  rw [hwz7] at qBX_0_u
  have qBX_1_u := qBX_1
  rw [hwz7] at qBX_1_u
  go_wp2_with fail
  rw [← hwz7]
  clear hwz7
  refine (gwipe_impl (X_7.out.rd R_Disk_ok)).mono ?_
  intro e w8 h
  rw [HDD.out] at h
  obtain ⟨us, rfl, hu, hb⟩ := newV_elim h
  obtain ⟨ra0g, rc0g, rfl, hu⟩ := owc_DiskOut hu
  clear qBX_0 qBX_1 qBX_0_u qBX_1_u
  have PD_8 := Lib.hid (PD_7.out.call hb)
  have Bw_8 := Lib.hid (Bw_7.out.call hb)
  have BX_8 := Lib.hid (BXh_7.out.call hb)
  have HD_8 := Lib.hid (gmv R_Disk_ok HD_7.out hb)
  have Yw_8 := Lib.hid (Yw_7.out.mv R_DiskOut_ok hb)
  have X_8 := Lib.hid (X_7.out.mv R_Disk_ok hb)
  have HB8 := Lib.hid (HB7.out.trans ((hb).mono HB7.out.size))
  have HZ10 := Lib.hid ((hb).size)
  clear PD_7 Bw_7 BXh_7 HD_7 Yw_7 X_7 HB7
  have Yg_8 := Lib.hid (owG_new hu)
  have HSg := Lib.hid (fun k (hk : Rg wz7.heap.size w8.heap.size k) => hk)
  clear hu
  clear h hb
  have hbA : Below (w8).heap.size (w8) (w8.alloc (.cells #[.slice ra0g dL0.length rc0g, .int .i64 dx1, .int .i64 dx2] 55)) := (Below.refl _ _).alloc (Nat.le_refl _) _
  have PD_9 := Lib.hid (PD_8.out.call hbA)
  have Bw_9 := Lib.hid (Bw_8.out.call hbA)
  have BX_9 := Lib.hid (BX_8.out.call hbA)
  have HD_9 := Lib.hid (gmv R_Disk_ok HD_8.out hbA)
  have Yw_9 := Lib.hid (Yw_8.out.mv R_DiskOut_ok hbA)
  have X_9 := Lib.hid (X_8.out.mv R_Disk_ok hbA)
  have Yg_9 := Lib.hid (Yg_8.out.mv R_DiskOut_ok hbA)
  have HB9 := Lib.hid (HB8.out.trans ((hbA).mono HB8.out.size))
  have HZ11 := Lib.hid ((hbA).size)
  clear PD_8 Bw_8 BX_8 HD_8 Yw_8 X_8 Yg_8 HB8
  have Bg_9 := Blk.new (w8) 55 #[.slice ra0g dL0.length rc0g, .int .i64 dx1, .int .i64 dx2]
  have Bgh_9 := Lib.hid Bg_9
  clear Bg_9 hbA
  have HZ12 := Lib.hid ((show (w8.alloc (.cells #[.slice ra0g dL0.length rc0g, .int .i64 dx1, .int .i64 dx2] 55)).heap.size = w8.heap.size + 1 by simp))
  obtain ⟨wz9, hwz9⟩ : ∃ w, w = w8.alloc (.cells #[.slice ra0g dL0.length rc0g, .int .i64 dx1, .int .i64 dx2] 55) := ⟨_, rfl⟩
  rw [← hwz9] at PD_9 Bw_9 BX_9 Bgh_9 HD_9 Yw_9 X_9 Yg_9 HB9 HZ11 HZ12
  have qBg_0 := Bgh_9.out.at_ 0 rfl
  have qBg_1 := Bgh_9.out.at_ 1 rfl
  have qBg_2 := Bgh_9.out.at_ 2 rfl
  have qBw_0 := Bw_9.out.at_ 0 rfl
  have qBw_1 := Bw_9.out.at_ 1 rfl
  have qBw_2 := Bw_9.out.at_ 2 rfl
  have qBg_0_u := qBg_0
  rw [hwz9] at qBg_0_u
  have qBg_1_u := qBg_1
  rw [hwz9] at qBg_1_u
  have qBg_2_u := qBg_2
  rw [hwz9] at qBg_2_u
  have qBw_0_u := qBw_0
  rw [hwz9] at qBw_0_u
  have qBw_1_u := qBw_1
  rw [hwz9] at qBw_1_u
  have qBw_2_u := qBw_2
  rw [hwz9] at qBw_2_u
  go_wp2_with fail
  rw [← hwz9]
  clear hwz9
  refine (geq_DiskOut (Yg_9.out.rd R_DiskOut_ok) (Yw_9.out.rd R_DiskOut_ok)).mono ?_
  intro e w10 h
  obtain ⟨rfl, hb⟩ := isB_elim h
  clear qBg_0 qBg_1 qBg_2 qBw_0 qBw_1 qBw_2 qBg_0_u qBg_1_u qBg_2_u qBw_0_u qBw_1_u qBw_2_u
  have PD_10 := Lib.hid (PD_9.out.call hb)
  have Bw_10 := Lib.hid (Bw_9.out.call hb)
  have BX_10 := Lib.hid (BX_9.out.call hb)
  have Bg_10 := Lib.hid (Bgh_9.out.call hb)
  have HD_10 := Lib.hid (gmv R_Disk_ok HD_9.out hb)
  have Yw_10 := Lib.hid (Yw_9.out.mv R_DiskOut_ok hb)
  have X_10 := Lib.hid (X_9.out.mv R_Disk_ok hb)
  have Yg_10 := Lib.hid (Yg_9.out.mv R_DiskOut_ok hb)
  have HB10 := Lib.hid (HB9.out.trans ((hb).mono HB9.out.size))
  have HZ13 := Lib.hid ((hb).size)
  clear PD_9 Bw_9 BX_9 Bgh_9 HD_9 Yw_9 X_9 Yg_9 HB9
  clear h hb
  go_wp2_with fail
  refine wp_region_held_drew (S := (fun V => Below (w10).heap.size (w10) V)) (by kernel_rfl) ((Below.refl _ _).drew) (fun hHeld => ?_)
  refine tk 0 hHeld ?_ (hy := fun w hSw => by (try dsimp only at hSw); have k0 := (hSw.cell (p := ⟨w6.heap.size, 0, none⟩) BX_10.out.lt).trans (BX_10.out.at_ 0 rfl); have k1 := (hSw.cell (p := ⟨w6.heap.size, 1, none⟩) BX_10.out.lt).trans (BX_10.out.at_ 1 rfl); clear hSw; go_simp; try with_reducible rfl)
  refine tk 1 hHeld ?_ (hy := fun w hSw => by (try dsimp only at hSw); have k0 := (hSw.cell (p := ⟨W.heap.size, 0, none⟩) PD_10.out.lt).trans (PD_10.out.at_ 0 rfl); have k1 := (hSw.cell (p := ⟨W.heap.size, 1, none⟩) PD_10.out.lt).trans (PD_10.out.at_ 1 rfl); clear hSw; go_simp; try with_reducible rfl)
  refine rd1 2 (fun K hK => ?_)
  go_simp
  go_at_call 24
  refine (gto_Disk HSZD.out (gmv R_Disk_ok HD_10.out hHeld)).mono ?_
  intro e w1001 h
  obtain ⟨us, rfl, hu, hb⟩ := newV_elim h
  obtain ⟨aD01001, cD01001, rfl, hu⟩ := owc_Disk hu
  have NZ := Lib.hid (owG_new hu)
  clear h hu
  refine hK.out _ _ (hHeld.trans (hb.mono hHeld.size)) (fun hHeld => ?_)
  clear hK K hb
  refine rd1 3 (fun K hK => ?_)
  go_simp
  go_at_call 26
  refine (geq_Disk (gmv R_Disk_ok (X_10.out.rd R_Disk_ok) hHeld) (NZ.out.rd R_Disk_ok)).mono ?_
  intro e w1002 h
  obtain ⟨rfl, hb⟩ := isB_elim h
  clear h
  refine hK.out _ _ (hHeld.trans (hb.mono hHeld.size)) (fun hHeld => ?_)
  clear hK K hb
  refine tk 4 hHeld ?_
  refine rd0 ?_
  have HF := Lib.hid hHeld
  clear hHeld
  have hF := HF.out
  have PD_11 := Lib.hid (PD_10.out.call hF)
  have Bw_11 := Lib.hid (Bw_10.out.call hF)
  have BX_11 := Lib.hid (BX_10.out.call hF)
  have Bg_11 := Lib.hid (Bg_10.out.call hF)
  have HD_11 := Lib.hid (gmv R_Disk_ok HD_10.out hF)
  have Yw_11 := Lib.hid (Yw_10.out.mv R_DiskOut_ok hF)
  have X_11 := Lib.hid (X_10.out.mv R_Disk_ok hF)
  have Yg_11 := Lib.hid (Yg_10.out.mv R_DiskOut_ok hF)
  have HB11 := Lib.hid (HB10.out.trans ((hF).mono HB10.out.size))
  have HZ14 := Lib.hid ((hF).size)
  clear PD_10 Bw_10 BX_10 Bg_10 HB10
  clear HF hF NZ
  have qBX_0 := BX_11.out.at_ 0 rfl
  have qBX_1 := BX_11.out.at_ 1 rfl
  go_wp2_with fail
  refine (gmark_Disk (by omega) (by have h1 := HSAD.out; omega) X_11.out.2 X_11.out.1).mono ?_
  intro e wm h
  obtain ⟨dM, y1, rfl, hmv, hzz, ho, hoff⟩ := markG_elim h
  clear qBX_0 qBX_1
  have HB12 := Lib.hid (HB11.out.trans (hoff.below HB11.out.size (fun k hk => by have zHZ2 := HZ2.out; have zHZ3 := HZ3.out; have zHZ4 := HZ4.out; have zHZ5 := HZ5.out; have zHZ6 := HZ6.out; have zHZ7 := HZ7.out; have zHZ8 := HZ8.out; have zHZ9 := HZ9.out; have zHZ10 := HZ10.out; have zHZ11 := HZ11.out; have zHZ12 := HZ12.out; have zHZ13 := HZ13.out; have zHZ14 := HZ14.out; have yHPL := HPL.out; have rX := HSX.out _ hk; try unfold Rg at rX; omega)))
  have PD_12 := Lib.hid (PD_11.out.off hoff PD_11.out.lt (fun hk => by have zHZ2 := HZ2.out; have zHZ3 := HZ3.out; have zHZ4 := HZ4.out; have zHZ5 := HZ5.out; have zHZ6 := HZ6.out; have zHZ7 := HZ7.out; have zHZ8 := HZ8.out; have zHZ9 := HZ9.out; have zHZ10 := HZ10.out; have zHZ11 := HZ11.out; have zHZ12 := HZ12.out; have zHZ13 := HZ13.out; have zHZ14 := HZ14.out; have yHPL := HPL.out; have rX := HSX.out _ hk; try unfold Rg at rX; omega))
  have Bw_12 := Lib.hid (Bw_11.out.off hoff Bw_11.out.lt (fun hk => by have zHZ2 := HZ2.out; have zHZ3 := HZ3.out; have zHZ4 := HZ4.out; have zHZ5 := HZ5.out; have zHZ6 := HZ6.out; have zHZ7 := HZ7.out; have zHZ8 := HZ8.out; have zHZ9 := HZ9.out; have zHZ10 := HZ10.out; have zHZ11 := HZ11.out; have zHZ12 := HZ12.out; have zHZ13 := HZ13.out; have zHZ14 := HZ14.out; have yHPL := HPL.out; have rX := HSX.out _ hk; try unfold Rg at rX; omega))
  have BX_12 := Lib.hid (BX_11.out.off hoff BX_11.out.lt (fun hk => by have zHZ2 := HZ2.out; have zHZ3 := HZ3.out; have zHZ4 := HZ4.out; have zHZ5 := HZ5.out; have zHZ6 := HZ6.out; have zHZ7 := HZ7.out; have zHZ8 := HZ8.out; have zHZ9 := HZ9.out; have zHZ10 := HZ10.out; have zHZ11 := HZ11.out; have zHZ12 := HZ12.out; have zHZ13 := HZ13.out; have zHZ14 := HZ14.out; have yHPL := HPL.out; have rX := HSX.out _ hk; try unfold Rg at rX; omega))
  have Bg_12 := Lib.hid (Bg_11.out.off hoff Bg_11.out.lt (fun hk => by have zHZ2 := HZ2.out; have zHZ3 := HZ3.out; have zHZ4 := HZ4.out; have zHZ5 := HZ5.out; have zHZ6 := HZ6.out; have zHZ7 := HZ7.out; have zHZ8 := HZ8.out; have zHZ9 := HZ9.out; have zHZ10 := HZ10.out; have zHZ11 := HZ11.out; have zHZ12 := HZ12.out; have zHZ13 := HZ13.out; have zHZ14 := HZ14.out; have yHPL := HPL.out; have rX := HSX.out _ hk; try unfold Rg at rX; omega))
  have HD_12 := Lib.hid (gmv R_Disk_ok HD0.out HB12.out)
  have Yw_12 := Lib.hid (Yw_11.out.off R_DiskOut_ok hoff (fun k hk hk2 => by have zHZ2 := HZ2.out; have zHZ3 := HZ3.out; have zHZ4 := HZ4.out; have zHZ5 := HZ5.out; have zHZ6 := HZ6.out; have zHZ7 := HZ7.out; have zHZ8 := HZ8.out; have zHZ9 := HZ9.out; have zHZ10 := HZ10.out; have zHZ11 := HZ11.out; have zHZ12 := HZ12.out; have zHZ13 := HZ13.out; have zHZ14 := HZ14.out; have yHPL := HPL.out; have rX := HSX.out k hk2; try unfold Rg at rX; have rw := HSw.out k hk; try unfold Rg at rw; omega))
  have Yg_12 := Lib.hid (Yg_11.out.off R_DiskOut_ok hoff (fun k hk hk2 => by have zHZ2 := HZ2.out; have zHZ3 := HZ3.out; have zHZ4 := HZ4.out; have zHZ5 := HZ5.out; have zHZ6 := HZ6.out; have zHZ7 := HZ7.out; have zHZ8 := HZ8.out; have zHZ9 := HZ9.out; have zHZ10 := HZ10.out; have zHZ11 := HZ11.out; have zHZ12 := HZ12.out; have zHZ13 := HZ13.out; have zHZ14 := HZ14.out; have yHPL := HPL.out; have rX := HSX.out k hk2; try unfold Rg at rX; have rg := HSg.out k hk; try unfold Rg at rg; omega))
  have hkn : decide (y1 < 0) = false := decide_eq_false (by omega)
  have HZ15 := Lib.hid (hoff.size)
  clear h hmv hzz ho hoff
  have qBg_0 := Bg_12.out.at_ 0 rfl
  have qBg_1 := Bg_12.out.at_ 1 rfl
  have qBg_2 := Bg_12.out.at_ 2 rfl
  have qBw_0 := Bw_12.out.at_ 0 rfl
  have qBw_1 := Bw_12.out.at_ 1 rfl
  have qBw_2 := Bw_12.out.at_ 2 rfl
  go_wp2_with fail
  refine (geq_DiskOut (Yg_12.out.rd R_DiskOut_ok) (Yw_12.out.rd R_DiskOut_ok)).mono ?_
  intro e w13 h
  obtain ⟨rfl, hb⟩ := isB_elim h
  clear qBg_0 qBg_1 qBg_2 qBw_0 qBw_1 qBw_2
  have PD_13 := Lib.hid (PD_12.out.call hb)
  have Bw_13 := Lib.hid (Bw_12.out.call hb)
  have BX_13 := Lib.hid (BX_12.out.call hb)
  have Bg_13 := Lib.hid (Bg_12.out.call hb)
  have HD_13 := Lib.hid (gmv R_Disk_ok HD_12.out hb)
  have Yw_13 := Lib.hid (Yw_12.out.mv R_DiskOut_ok hb)
  have Yg_13 := Lib.hid (Yg_12.out.mv R_DiskOut_ok hb)
  have HB13 := Lib.hid (HB12.out.trans ((hb).mono HB12.out.size))
  have HZ16 := Lib.hid ((hb).size)
  clear PD_12 Bw_12 BX_12 Bg_12 HD_12 Yw_12 Yg_12 HB12
  clear h hb
  clear hkn
  have qBg_0 := Bg_13.out.at_ 0 rfl
  have qBg_1 := Bg_13.out.at_ 1 rfl
  have qBg_2 := Bg_13.out.at_ 2 rfl
  go_wp2_with fail
  refine (gmark_DiskOut (by omega) (by have h1 := HSM.out; omega) Yg_13.out.2 Yg_13.out.1).mono ?_
  intro e wn h
  obtain ⟨dN, zN, rfl, hmv, hzz, ho, hoff⟩ := markG_elim h
  clear qBg_0 qBg_1 qBg_2
  have HB14 := Lib.hid (HB13.out.trans (hoff.below HB13.out.size (fun k hk => by have zHZ2 := HZ2.out; have zHZ3 := HZ3.out; have zHZ4 := HZ4.out; have zHZ5 := HZ5.out; have zHZ6 := HZ6.out; have zHZ7 := HZ7.out; have zHZ8 := HZ8.out; have zHZ9 := HZ9.out; have zHZ10 := HZ10.out; have zHZ11 := HZ11.out; have zHZ12 := HZ12.out; have zHZ13 := HZ13.out; have zHZ14 := HZ14.out; have zHZ15 := HZ15.out; have zHZ16 := HZ16.out; have yHPL := HPL.out; have rg := HSg.out _ hk; try unfold Rg at rg; omega)))
  have PD_14 := Lib.hid (PD_13.out.off hoff PD_13.out.lt (fun hk => by have zHZ2 := HZ2.out; have zHZ3 := HZ3.out; have zHZ4 := HZ4.out; have zHZ5 := HZ5.out; have zHZ6 := HZ6.out; have zHZ7 := HZ7.out; have zHZ8 := HZ8.out; have zHZ9 := HZ9.out; have zHZ10 := HZ10.out; have zHZ11 := HZ11.out; have zHZ12 := HZ12.out; have zHZ13 := HZ13.out; have zHZ14 := HZ14.out; have zHZ15 := HZ15.out; have zHZ16 := HZ16.out; have yHPL := HPL.out; have rg := HSg.out _ hk; try unfold Rg at rg; omega))
  have Bw_14 := Lib.hid (Bw_13.out.off hoff Bw_13.out.lt (fun hk => by have zHZ2 := HZ2.out; have zHZ3 := HZ3.out; have zHZ4 := HZ4.out; have zHZ5 := HZ5.out; have zHZ6 := HZ6.out; have zHZ7 := HZ7.out; have zHZ8 := HZ8.out; have zHZ9 := HZ9.out; have zHZ10 := HZ10.out; have zHZ11 := HZ11.out; have zHZ12 := HZ12.out; have zHZ13 := HZ13.out; have zHZ14 := HZ14.out; have zHZ15 := HZ15.out; have zHZ16 := HZ16.out; have yHPL := HPL.out; have rg := HSg.out _ hk; try unfold Rg at rg; omega))
  have BX_14 := Lib.hid (BX_13.out.off hoff BX_13.out.lt (fun hk => by have zHZ2 := HZ2.out; have zHZ3 := HZ3.out; have zHZ4 := HZ4.out; have zHZ5 := HZ5.out; have zHZ6 := HZ6.out; have zHZ7 := HZ7.out; have zHZ8 := HZ8.out; have zHZ9 := HZ9.out; have zHZ10 := HZ10.out; have zHZ11 := HZ11.out; have zHZ12 := HZ12.out; have zHZ13 := HZ13.out; have zHZ14 := HZ14.out; have zHZ15 := HZ15.out; have zHZ16 := HZ16.out; have yHPL := HPL.out; have rg := HSg.out _ hk; try unfold Rg at rg; omega))
  have Bg_14 := Lib.hid (Bg_13.out.off hoff Bg_13.out.lt (fun hk => by have zHZ2 := HZ2.out; have zHZ3 := HZ3.out; have zHZ4 := HZ4.out; have zHZ5 := HZ5.out; have zHZ6 := HZ6.out; have zHZ7 := HZ7.out; have zHZ8 := HZ8.out; have zHZ9 := HZ9.out; have zHZ10 := HZ10.out; have zHZ11 := HZ11.out; have zHZ12 := HZ12.out; have zHZ13 := HZ13.out; have zHZ14 := HZ14.out; have zHZ15 := HZ15.out; have zHZ16 := HZ16.out; have yHPL := HPL.out; have rg := HSg.out _ hk; try unfold Rg at rg; omega))
  have HD_14 := Lib.hid (gmv R_Disk_ok HD0.out HB14.out)
  have Yw_14 := Lib.hid (Yw_13.out.off R_DiskOut_ok hoff (fun k hk hk2 => by have zHZ2 := HZ2.out; have zHZ3 := HZ3.out; have zHZ4 := HZ4.out; have zHZ5 := HZ5.out; have zHZ6 := HZ6.out; have zHZ7 := HZ7.out; have zHZ8 := HZ8.out; have zHZ9 := HZ9.out; have zHZ10 := HZ10.out; have zHZ11 := HZ11.out; have zHZ12 := HZ12.out; have zHZ13 := HZ13.out; have zHZ14 := HZ14.out; have zHZ15 := HZ15.out; have zHZ16 := HZ16.out; have yHPL := HPL.out; have rg := HSg.out k hk2; try unfold Rg at rg; have rw := HSw.out k hk; try unfold Rg at rw; omega))
  have Yg_14 := Lib.hid (show OwG R_DiskOut wn _ dN _ from ⟨ho, fun k hk => Nat.lt_of_lt_of_le (Yg_13.out.2 k hk) hoff.size⟩)
  have HMV := Lib.hid hmv
  have hzn : decide (zN < 0) = false := decide_eq_false (by omega)
  have hze : (zN != zN) = false := by simp
  have hzb : zN ≤ 4611686018427387904 := by have := HSM.out; omega
  have HZ17 := Lib.hid (hoff.size)
  clear h hmv hzz ho hoff
  have qBg_0 := Bg_14.out.at_ 0 rfl
  have qBg_1 := Bg_14.out.at_ 1 rfl
  have qBg_2 := Bg_14.out.at_ 2 rfl
  go_wp2_with fail
  refine (gheld_DiskOut (by omega) hzb HMV.out (Yg_14.out.rd R_DiskOut_ok)).mono ?_
  intro e w15 h
  obtain ⟨rfl, hb⟩ := heldC_elim h
  clear qBg_0 qBg_1 qBg_2
  have PD_15 := Lib.hid (PD_14.out.call hb)
  have Bw_15 := Lib.hid (Bw_14.out.call hb)
  have BX_15 := Lib.hid (BX_14.out.call hb)
  have Bg_15 := Lib.hid (Bg_14.out.call hb)
  have HD_15 := Lib.hid (gmv R_Disk_ok HD_14.out hb)
  have Yw_15 := Lib.hid (Yw_14.out.mv R_DiskOut_ok hb)
  have Yg_15 := Lib.hid (Yg_14.out.mv R_DiskOut_ok hb)
  have HB15 := Lib.hid (HB14.out.trans ((hb).mono HB14.out.size))
  have HZ18 := Lib.hid ((hb).size)
  clear PD_14 Bw_14 BX_14 Bg_14 HD_14 Yw_14 Yg_14 HB14
  clear h hb
  have qPD_0 := PD_15.out.at_ 0 rfl
  have qPD_1 := PD_15.out.at_ 1 rfl
  go_wp2_with fail
  refine (gto_Disk HSZD.out HD_15.out).mono ?_
  intro e w16 h
  obtain ⟨us, rfl, hu, hb⟩ := newV_elim h
  obtain ⟨aD016, cD016, rfl, hu⟩ := owc_Disk hu
  clear qPD_0 qPD_1
  have PD_16 := Lib.hid (PD_15.out.call hb)
  have Bw_16 := Lib.hid (Bw_15.out.call hb)
  have BX_16 := Lib.hid (BX_15.out.call hb)
  have Bg_16 := Lib.hid (Bg_15.out.call hb)
  have HD_16 := Lib.hid (gmv R_Disk_ok HD_15.out hb)
  have Yw_16 := Lib.hid (Yw_15.out.mv R_DiskOut_ok hb)
  have Yg_16 := Lib.hid (Yg_15.out.mv R_DiskOut_ok hb)
  have HB16 := Lib.hid (HB15.out.trans ((hb).mono HB15.out.size))
  have HZ19 := Lib.hid ((hb).size)
  clear PD_15 Bw_15 BX_15 Bg_15 HD_15 Yw_15 Yg_15 HB15
  have ND_16 := Lib.hid (owG_new hu)
  clear hu
  clear h hb
  go_wp2_with fail
  refine (gwipe_impl (ND_16.out.rd R_Disk_ok)).mono ?_
  intro e w17 h
  rw [HDD.out] at h
  obtain ⟨us, rfl, hu, hb⟩ := newV_elim h
  obtain ⟨ra0h, rc0h, rfl, hu⟩ := owc_DiskOut hu
  have PD_17 := Lib.hid (PD_16.out.call hb)
  have Bw_17 := Lib.hid (Bw_16.out.call hb)
  have BX_17 := Lib.hid (BX_16.out.call hb)
  have Bg_17 := Lib.hid (Bg_16.out.call hb)
  have HD_17 := Lib.hid (gmv R_Disk_ok HD_16.out hb)
  have Yw_17 := Lib.hid (Yw_16.out.mv R_DiskOut_ok hb)
  have Yg_17 := Lib.hid (Yg_16.out.mv R_DiskOut_ok hb)
  have ND_17 := Lib.hid (ND_16.out.mv R_Disk_ok hb)
  have HB17 := Lib.hid (HB16.out.trans ((hb).mono HB16.out.size))
  have HZ20 := Lib.hid ((hb).size)
  clear PD_16 Bw_16 BX_16 Bg_16 HD_16 Yw_16 Yg_16 ND_16 HB16
  have Yh_17 := Lib.hid (owG_new hu)
  have HSh := Lib.hid (fun k (hk : Rg w16.heap.size w17.heap.size k) => hk)
  clear hu
  clear h hb
  clear ND_17
  have hbA : Below (w17).heap.size (w17) (w17.alloc (.cells #[.slice ra0h dL0.length rc0h, .int .i64 dx1, .int .i64 dx2] 55)) := (Below.refl _ _).alloc (Nat.le_refl _) _
  have PD_18 := Lib.hid (PD_17.out.call hbA)
  have Bw_18 := Lib.hid (Bw_17.out.call hbA)
  have BX_18 := Lib.hid (BX_17.out.call hbA)
  have Bg_18 := Lib.hid (Bg_17.out.call hbA)
  have HD_18 := Lib.hid (gmv R_Disk_ok HD_17.out hbA)
  have Yw_18 := Lib.hid (Yw_17.out.mv R_DiskOut_ok hbA)
  have Yg_18 := Lib.hid (Yg_17.out.mv R_DiskOut_ok hbA)
  have Yh_18 := Lib.hid (Yh_17.out.mv R_DiskOut_ok hbA)
  have HB18 := Lib.hid (HB17.out.trans ((hbA).mono HB17.out.size))
  have HZ21 := Lib.hid ((hbA).size)
  clear PD_17 Bw_17 BX_17 Bg_17 HD_17 Yw_17 Yg_17 Yh_17 HB17
  have Bh_18 := Blk.new (w17) 55 #[.slice ra0h dL0.length rc0h, .int .i64 dx1, .int .i64 dx2]
  have Bhh_18 := Lib.hid Bh_18
  clear Bh_18 hbA
  have HZ22 := Lib.hid ((show (w17.alloc (.cells #[.slice ra0h dL0.length rc0h, .int .i64 dx1, .int .i64 dx2] 55)).heap.size = w17.heap.size + 1 by simp))
  obtain ⟨wz18, hwz18⟩ : ∃ w, w = w17.alloc (.cells #[.slice ra0h dL0.length rc0h, .int .i64 dx1, .int .i64 dx2] 55) := ⟨_, rfl⟩
  rw [← hwz18] at PD_18 Bw_18 BX_18 Bg_18 Bhh_18 HD_18 Yw_18 Yg_18 Yh_18 HB18 HZ21 HZ22
  have qBh_0 := Bhh_18.out.at_ 0 rfl
  have qBh_1 := Bhh_18.out.at_ 1 rfl
  have qBh_2 := Bhh_18.out.at_ 2 rfl
  have qBw_0 := Bw_18.out.at_ 0 rfl
  have qBw_1 := Bw_18.out.at_ 1 rfl
  have qBw_2 := Bw_18.out.at_ 2 rfl
  have qBh_0_u := qBh_0
  rw [hwz18] at qBh_0_u
  have qBh_1_u := qBh_1
  rw [hwz18] at qBh_1_u
  have qBh_2_u := qBh_2
  rw [hwz18] at qBh_2_u
  have qBw_0_u := qBw_0
  rw [hwz18] at qBw_0_u
  have qBw_1_u := qBw_1
  rw [hwz18] at qBw_1_u
  have qBw_2_u := qBw_2
  rw [hwz18] at qBw_2_u
  go_wp2_with fail
  rw [← hwz18]
  clear hwz18
  refine (geq_DiskOut (Yh_18.out.rd R_DiskOut_ok) (Yw_18.out.rd R_DiskOut_ok)).mono ?_
  intro e w19 h
  obtain ⟨rfl, hb⟩ := isB_elim h
  clear qBh_0 qBh_1 qBh_2 qBw_0 qBw_1 qBw_2 qBh_0_u qBh_1_u qBh_2_u qBw_0_u qBw_1_u qBw_2_u
  have PD_19 := Lib.hid (PD_18.out.call hb)
  have Bw_19 := Lib.hid (Bw_18.out.call hb)
  have BX_19 := Lib.hid (BX_18.out.call hb)
  have Bg_19 := Lib.hid (Bg_18.out.call hb)
  have Bh_19 := Lib.hid (Bhh_18.out.call hb)
  have HD_19 := Lib.hid (gmv R_Disk_ok HD_18.out hb)
  have Yw_19 := Lib.hid (Yw_18.out.mv R_DiskOut_ok hb)
  have Yg_19 := Lib.hid (Yg_18.out.mv R_DiskOut_ok hb)
  have Yh_19 := Lib.hid (Yh_18.out.mv R_DiskOut_ok hb)
  have HB19 := Lib.hid (HB18.out.trans ((hb).mono HB18.out.size))
  have HZ23 := Lib.hid ((hb).size)
  clear PD_18 Bw_18 BX_18 Bg_18 Bhh_18 HD_18 Yw_18 Yg_18 Yh_18 HB18
  clear h hb
  have qBg_0 := Bg_19.out.at_ 0 rfl
  have qBg_1 := Bg_19.out.at_ 1 rfl
  have qBg_2 := Bg_19.out.at_ 2 rfl
  go_wp2_with fail
  refine (gheld_DiskOut (by omega) hzb HMV.out (Yg_19.out.rd R_DiskOut_ok)).mono ?_
  intro e w20 h
  obtain ⟨rfl, hb⟩ := heldC_elim h
  clear qBg_0 qBg_1 qBg_2
  have PD_20 := Lib.hid (PD_19.out.call hb)
  have Bw_20 := Lib.hid (Bw_19.out.call hb)
  have BX_20 := Lib.hid (BX_19.out.call hb)
  have Bg_20 := Lib.hid (Bg_19.out.call hb)
  have Bh_20 := Lib.hid (Bh_19.out.call hb)
  have HD_20 := Lib.hid (gmv R_Disk_ok HD_19.out hb)
  have Yw_20 := Lib.hid (Yw_19.out.mv R_DiskOut_ok hb)
  have Yg_20 := Lib.hid (Yg_19.out.mv R_DiskOut_ok hb)
  have Yh_20 := Lib.hid (Yh_19.out.mv R_DiskOut_ok hb)
  have HB20 := Lib.hid (HB19.out.trans ((hb).mono HB19.out.size))
  have HZ24 := Lib.hid ((hb).size)
  clear PD_19 Bw_19 BX_19 Bg_19 Bh_19 HD_19 Yw_19 Yg_19 Yh_19 HB19
  clear h hb
  go_wp2
  go_ret
  exact ⟨rfl, HB20.out⟩
end Go.Proofs.Ytdedomfocljhaaa.RepC
