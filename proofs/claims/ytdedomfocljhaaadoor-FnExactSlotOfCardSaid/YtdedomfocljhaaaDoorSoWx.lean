/- The law on SlotOf, out of the contracts. -/
import Derived.Test.YtdedomfocljhaaaDoorTk
import Derived.Test.YtdedomfocljhaaaDoorTk
import Derived.Test.YtdedomfocljhaaaDoorSoX
namespace Go.Proofs.YtdedomfocljhaaaDoor.RepC
open Go.RowKit RowC ValC SpanC KeptC
set_option linter.unusedVariables false
set_option linter.unusedSimpArgs false

set_option maxRecDepth 100000 in
set_option maxHeartbeats 4000000 in
theorem law_slotof {DL0 : List (D_Region)} {Dx1 : Int} {Da0 : Option Addr} {Dc0 : Nat} {R : Int} {N : Int} {W : World} (hD : R_Disk.rd W W.heap.size (DL0, Dx1) [.slice Da0 DL0.length Dc0, .int .i64 Dx1]) (hDo : GetC.Door W) :
    Calls Tryd.prog 7 #[.agg #[.slice Da0 DL0.length Dc0, .int .i64 Dx1], .int .i64 R, .int .i64 N] W fun e w' => e = .returned (.bool true) ∧ Below W.heap.size W w' := by
  have HDOOR := Lib.hid hDo
  have HDZ := Lib.hid hDo.lt
  clear hDo
  have HD := Lib.hid hD
  have HD0 := Lib.hid hD
  clear hD
  have hbA : Below (W).heap.size (W) (W.alloc (.cells #[.slice Da0 DL0.length Dc0, .int .i64 Dx1] 38)) := (Below.refl _ _).alloc (Nat.le_refl _) _
  have HD_1 := Lib.hid (gmv R_Disk_ok HD.out hbA)
  have HB1 := Lib.hid (show Below W.heap.size W (W.alloc (.cells #[.slice Da0 DL0.length Dc0, .int .i64 Dx1] 38)) from hbA)
  have HZ1 := Lib.hid ((hbA).size)
  clear HD
  have PD_1 := Blk.new (W) 38 #[.slice Da0 DL0.length Dc0, .int .i64 Dx1]
  have PDh_1 := Lib.hid PD_1
  clear PD_1 hbA
  by_cases hsz : R_Disk.sz (DL0, Dx1) ≤ 1048576
  rotate_left
  · skip
    go_enter Tryd.func7, Tryd.ntmps7
    have qPD_0 := PDh_1.out.at_ 0 rfl
    have qPD_1 := PDh_1.out.at_ 1 rfl
    go_wp2_with fail
    refine (gsz_Disk (by omega) (by omega) HD_1.out).mono ?_
    intro e w2 h
    obtain ⟨rfl, hb⟩ := szC_elim h
    rw [szR_no (by omega)]
    clear qPD_0 qPD_1
    have PD_2 := Lib.hid (PDh_1.out.call hb)
    have HD_2 := Lib.hid (gmv R_Disk_ok HD_1.out hb)
    have HB2 := Lib.hid (HB1.out.trans ((hb).mono HB1.out.size))
    have HZ2 := Lib.hid ((hb).size)
    clear PDh_1 HD_1 HB1
    clear h hb
    go_wp2
    go_ret
    exact ⟨rfl, HB2.out⟩
  have HSZD := Lib.hid hsz
  have HSAD := Lib.hid (cvs_Disk hsz)
  obtain ⟨m, hm⟩ : ∃ m : Nat, R_Disk.sz (DL0, Dx1) = m := ⟨_, rfl⟩
  have HM := Lib.hid hm
  rw [hm] at hsz
  clear hm
  have hlt1 : decide ((1048576 : Int) - (m : Int) < 0) = false := decide_eq_false (by omega)
  obtain ⟨⟨⟨dx0, dx1⟩, dx2, dx3⟩, hD⟩ : ∃ d, FrC.slotOf (DL0, Dx1) R N = d := ⟨_, rfl⟩
  have HDD := Lib.hid hD
  clear hD
  go_enter Tryd.func7, Tryd.ntmps7
  have qPD_0 := PDh_1.out.at_ 0 rfl
  have qPD_1 := PDh_1.out.at_ 1 rfl
  go_wp2_with fail
  refine (gsz_Disk (by omega) (by omega) HD_1.out).mono ?_
  intro e w2 h
  obtain ⟨rfl, hb⟩ := szC_elim h
  rw [HM.out, szR_yes (by omega)]
  clear qPD_0 qPD_1
  have PD_2 := Lib.hid (PDh_1.out.call hb)
  have HD_2 := Lib.hid (gmv R_Disk_ok HD_1.out hb)
  have HB2 := Lib.hid (HB1.out.trans ((hb).mono HB1.out.size))
  have HZ2 := Lib.hid ((hb).size)
  clear PDh_1 HD_1 HB1
  clear hsz
  clear h hb
  have HPL := Lib.hid (PD_2.out.lt)
  have qPD_0 := PD_2.out.at_ 0 rfl
  have qPD_1 := PD_2.out.at_ 1 rfl
  go_wp2_with fail
  refine (gto_Disk HSZD.out HD_2.out).mono ?_
  intro e w3 h
  obtain ⟨us, rfl, hu, hb⟩ := newV_elim h
  obtain ⟨aD03, cD03, rfl, hu⟩ := owc_Disk hu
  clear qPD_0 qPD_1
  have PD_3 := Lib.hid (PD_2.out.call hb)
  have HD_3 := Lib.hid (gmv R_Disk_ok HD_2.out hb)
  have HB3 := Lib.hid (HB2.out.trans ((hb).mono HB2.out.size))
  have HZ3 := Lib.hid ((hb).size)
  clear PD_2 HD_2 HB2
  have ND_3 := Lib.hid (owG_new hu)
  clear hu
  clear h hb
  go_wp2_with fail
  refine (gso_spec (ND_3.out.rd R_Disk_ok)).mono ?_
  intro e w4 h
  rw [HDD.out] at h
  obtain ⟨us, rfl, hu, hb⟩ := newV_elim h
  obtain ⟨rfl, hu⟩ := owc_FrameOut hu
  have PD_4 := Lib.hid (PD_3.out.call hb)
  have HD_4 := Lib.hid (gmv R_Disk_ok HD_3.out hb)
  have ND_4 := Lib.hid (ND_3.out.mv R_Disk_ok hb)
  have HB4 := Lib.hid (HB3.out.trans ((hb).mono HB3.out.size))
  have HZ4 := Lib.hid ((hb).size)
  clear PD_3 HD_3 ND_3 HB3
  have Yw_4 := Lib.hid (owG_new hu)
  have HSw := Lib.hid (fun k (hk : Rg w3.heap.size w4.heap.size k) => hk)
  clear hu
  clear h hb
  clear ND_4
  have hbA : Below (w4).heap.size (w4) (w4.alloc (.cells #[.int .i64 dx0, .string dx1, .int .i64 dx2, .int .i64 dx3] 25)) := (Below.refl _ _).alloc (Nat.le_refl _) _
  have PD_5 := Lib.hid (PD_4.out.call hbA)
  have HD_5 := Lib.hid (gmv R_Disk_ok HD_4.out hbA)
  have Yw_5 := Lib.hid (Yw_4.out.mv R_FrameOut_ok hbA)
  have HB5 := Lib.hid (HB4.out.trans ((hbA).mono HB4.out.size))
  have HZ5 := Lib.hid ((hbA).size)
  clear PD_4 HD_4 Yw_4 HB4
  have Bw_5 := Blk.new (w4) 25 #[.int .i64 dx0, .string dx1, .int .i64 dx2, .int .i64 dx3]
  have Bwh_5 := Lib.hid Bw_5
  clear Bw_5 hbA
  have HZ6 := Lib.hid ((show (w4.alloc (.cells #[.int .i64 dx0, .string dx1, .int .i64 dx2, .int .i64 dx3] 25)).heap.size = w4.heap.size + 1 by simp))
  obtain ⟨wz5, hwz5⟩ : ∃ w, w = w4.alloc (.cells #[.int .i64 dx0, .string dx1, .int .i64 dx2, .int .i64 dx3] 25) := ⟨_, rfl⟩
  rw [← hwz5] at PD_5 Bwh_5 HD_5 Yw_5 HB5 HZ5 HZ6
  have qPD_0 := PD_5.out.at_ 0 rfl
  have qPD_1 := PD_5.out.at_ 1 rfl
  have qPD_0_u := qPD_0
  rw [hwz5] at qPD_0_u
  have qPD_1_u := qPD_1
  rw [hwz5] at qPD_1_u
  go_wp2_with fail
  rw [← hwz5]
  clear hwz5
  refine (gto_Disk HSZD.out HD_5.out).mono ?_
  intro e w6 h
  obtain ⟨us, rfl, hu, hb⟩ := newV_elim h
  obtain ⟨aD06, cD06, rfl, hu⟩ := owc_Disk hu
  clear qPD_0 qPD_1 qPD_0_u qPD_1_u
  have PD_6 := Lib.hid (PD_5.out.call hb)
  have Bw_6 := Lib.hid (Bwh_5.out.call hb)
  have HD_6 := Lib.hid (gmv R_Disk_ok HD_5.out hb)
  have Yw_6 := Lib.hid (Yw_5.out.mv R_FrameOut_ok hb)
  have HB6 := Lib.hid (HB5.out.trans ((hb).mono HB5.out.size))
  have HZ7 := Lib.hid ((hb).size)
  clear PD_5 Bwh_5 HD_5 Yw_5 HB5
  have X_6 := Lib.hid (owG_new hu)
  have HSX := Lib.hid (fun k (hk : Rg wz5.heap.size w6.heap.size k) => hk)
  clear hu
  clear h hb
  have hbA : Below (w6).heap.size (w6) (w6.alloc (.cells #[.slice aD06 DL0.length cD06, .int .i64 Dx1] 42)) := (Below.refl _ _).alloc (Nat.le_refl _) _
  have PD_7 := Lib.hid (PD_6.out.call hbA)
  have Bw_7 := Lib.hid (Bw_6.out.call hbA)
  have HD_7 := Lib.hid (gmv R_Disk_ok HD_6.out hbA)
  have Yw_7 := Lib.hid (Yw_6.out.mv R_FrameOut_ok hbA)
  have X_7 := Lib.hid (X_6.out.mv R_Disk_ok hbA)
  have HB7 := Lib.hid (HB6.out.trans ((hbA).mono HB6.out.size))
  have HZ8 := Lib.hid ((hbA).size)
  clear PD_6 Bw_6 HD_6 Yw_6 X_6 HB6
  have BX_7 := Blk.new (w6) 42 #[.slice aD06 DL0.length cD06, .int .i64 Dx1]
  have BXh_7 := Lib.hid BX_7
  clear BX_7 hbA
  have HZ9 := Lib.hid ((show (w6.alloc (.cells #[.slice aD06 DL0.length cD06, .int .i64 Dx1] 42)).heap.size = w6.heap.size + 1 by simp))
  obtain ⟨wz7, hwz7⟩ : ∃ w, w = w6.alloc (.cells #[.slice aD06 DL0.length cD06, .int .i64 Dx1] 42) := ⟨_, rfl⟩
  rw [← hwz7] at PD_7 Bw_7 BXh_7 HD_7 Yw_7 X_7 HB7 HZ8 HZ9
  have qBX_0 := BXh_7.out.at_ 0 rfl
  have qBX_1 := BXh_7.out.at_ 1 rfl
  have qBX_0_u := qBX_0
  rw [hwz7] at qBX_0_u
  have qBX_1_u := qBX_1
  rw [hwz7] at qBX_1_u
  go_wp2_with fail
  rw [← hwz7]
  clear hwz7
  refine (gso_impl (HDOOR.out.below HB7.out HDZ.out) (X_7.out.rd R_Disk_ok)).mono ?_
  intro e w8 h
  rw [HDD.out] at h
  obtain ⟨us, rfl, hu, hb⟩ := newV_elim h
  obtain ⟨rfl, hu⟩ := owc_FrameOut hu
  clear qBX_0 qBX_1 qBX_0_u qBX_1_u
  have PD_8 := Lib.hid (PD_7.out.call hb)
  have Bw_8 := Lib.hid (Bw_7.out.call hb)
  have BX_8 := Lib.hid (BXh_7.out.call hb)
  have HD_8 := Lib.hid (gmv R_Disk_ok HD_7.out hb)
  have Yw_8 := Lib.hid (Yw_7.out.mv R_FrameOut_ok hb)
  have X_8 := Lib.hid (X_7.out.mv R_Disk_ok hb)
  have HB8 := Lib.hid (HB7.out.trans ((hb).mono HB7.out.size))
  have HZ10 := Lib.hid ((hb).size)
  clear PD_7 Bw_7 BXh_7 HD_7 Yw_7 X_7 HB7
  have Yg_8 := Lib.hid (owG_new hu)
  have HSg := Lib.hid (fun k (hk : Rg wz7.heap.size w8.heap.size k) => hk)
  clear hu
  clear h hb
  have hbA : Below (w8).heap.size (w8) (w8.alloc (.cells #[.int .i64 dx0, .string dx1, .int .i64 dx2, .int .i64 dx3] 25)) := (Below.refl _ _).alloc (Nat.le_refl _) _
  have PD_9 := Lib.hid (PD_8.out.call hbA)
  have Bw_9 := Lib.hid (Bw_8.out.call hbA)
  have BX_9 := Lib.hid (BX_8.out.call hbA)
  have HD_9 := Lib.hid (gmv R_Disk_ok HD_8.out hbA)
  have Yw_9 := Lib.hid (Yw_8.out.mv R_FrameOut_ok hbA)
  have X_9 := Lib.hid (X_8.out.mv R_Disk_ok hbA)
  have Yg_9 := Lib.hid (Yg_8.out.mv R_FrameOut_ok hbA)
  have HB9 := Lib.hid (HB8.out.trans ((hbA).mono HB8.out.size))
  have HZ11 := Lib.hid ((hbA).size)
  clear PD_8 Bw_8 BX_8 HD_8 Yw_8 X_8 Yg_8 HB8
  have Bg_9 := Blk.new (w8) 25 #[.int .i64 dx0, .string dx1, .int .i64 dx2, .int .i64 dx3]
  have Bgh_9 := Lib.hid Bg_9
  clear Bg_9 hbA
  have HZ12 := Lib.hid ((show (w8.alloc (.cells #[.int .i64 dx0, .string dx1, .int .i64 dx2, .int .i64 dx3] 25)).heap.size = w8.heap.size + 1 by simp))
  obtain ⟨wz9, hwz9⟩ : ∃ w, w = w8.alloc (.cells #[.int .i64 dx0, .string dx1, .int .i64 dx2, .int .i64 dx3] 25) := ⟨_, rfl⟩
  rw [← hwz9] at PD_9 Bw_9 BX_9 Bgh_9 HD_9 Yw_9 X_9 Yg_9 HB9 HZ11 HZ12
  have qBg_0 := Bgh_9.out.at_ 0 rfl
  have qBg_1 := Bgh_9.out.at_ 1 rfl
  have qBg_2 := Bgh_9.out.at_ 2 rfl
  have qBg_3 := Bgh_9.out.at_ 3 rfl
  have qBw_0 := Bw_9.out.at_ 0 rfl
  have qBw_1 := Bw_9.out.at_ 1 rfl
  have qBw_2 := Bw_9.out.at_ 2 rfl
  have qBw_3 := Bw_9.out.at_ 3 rfl
  have qBg_0_u := qBg_0
  rw [hwz9] at qBg_0_u
  have qBg_1_u := qBg_1
  rw [hwz9] at qBg_1_u
  have qBg_2_u := qBg_2
  rw [hwz9] at qBg_2_u
  have qBg_3_u := qBg_3
  rw [hwz9] at qBg_3_u
  have qBw_0_u := qBw_0
  rw [hwz9] at qBw_0_u
  have qBw_1_u := qBw_1
  rw [hwz9] at qBw_1_u
  have qBw_2_u := qBw_2
  rw [hwz9] at qBw_2_u
  have qBw_3_u := qBw_3
  rw [hwz9] at qBw_3_u
  go_wp2_with fail
  rw [← hwz9]
  clear hwz9
  refine (geq_FrameOut (Yg_9.out.rd R_FrameOut_ok) (Yw_9.out.rd R_FrameOut_ok)).mono ?_
  intro e w10 h
  obtain ⟨rfl, hb⟩ := isB_elim h
  clear qBg_0 qBg_1 qBg_2 qBg_3 qBw_0 qBw_1 qBw_2 qBw_3 qBg_0_u qBg_1_u qBg_2_u qBg_3_u qBw_0_u qBw_1_u qBw_2_u qBw_3_u
  have PD_10 := Lib.hid (PD_9.out.call hb)
  have Bw_10 := Lib.hid (Bw_9.out.call hb)
  have BX_10 := Lib.hid (BX_9.out.call hb)
  have Bg_10 := Lib.hid (Bgh_9.out.call hb)
  have HD_10 := Lib.hid (gmv R_Disk_ok HD_9.out hb)
  have Yw_10 := Lib.hid (Yw_9.out.mv R_FrameOut_ok hb)
  have X_10 := Lib.hid (X_9.out.mv R_Disk_ok hb)
  have Yg_10 := Lib.hid (Yg_9.out.mv R_FrameOut_ok hb)
  have HB10 := Lib.hid (HB9.out.trans ((hb).mono HB9.out.size))
  have HZ13 := Lib.hid ((hb).size)
  clear PD_9 Bw_9 BX_9 Bgh_9 HD_9 Yw_9 X_9 Yg_9 HB9
  clear h hb
  go_wp2_with fail
  refine wp_region_held_drew (S := (fun V => Below (w10).heap.size (w10) V)) (by kernel_rfl) ((Below.refl _ _).drew) (fun hHeld => ?_)
  refine tk 0 hHeld ?_ (hy := fun w hSw => by (try dsimp only at hSw); have k0 := (hSw.cell (p := ⟨w6.heap.size, 0, none⟩) BX_10.out.lt).trans (BX_10.out.at_ 0 rfl); have k1 := (hSw.cell (p := ⟨w6.heap.size, 1, none⟩) BX_10.out.lt).trans (BX_10.out.at_ 1 rfl); clear hSw; go_simp; try with_reducible rfl)
  refine tk 1 hHeld ?_ (hy := fun w hSw => by (try dsimp only at hSw); have k0 := (hSw.cell (p := ⟨W.heap.size, 0, none⟩) PD_10.out.lt).trans (PD_10.out.at_ 0 rfl); have k1 := (hSw.cell (p := ⟨W.heap.size, 1, none⟩) PD_10.out.lt).trans (PD_10.out.at_ 1 rfl); clear hSw; go_simp; try with_reducible rfl)
  refine rd1 2 (fun K hK => ?_)
  go_simp
  go_at_call 18
  refine (gto_Disk HSZD.out (gmv R_Disk_ok HD_10.out hHeld)).mono ?_
  intro e w1001 h
  obtain ⟨us, rfl, hu, hb⟩ := newV_elim h
  obtain ⟨aD01001, cD01001, rfl, hu⟩ := owc_Disk hu
  have NZ := Lib.hid (owG_new hu)
  clear h hu
  refine hK.out _ _ (hHeld.trans (hb.mono hHeld.size)) (fun hHeld => ?_)
  clear hK K hb
  refine rd1 3 (fun K hK => ?_)
  go_simp
  go_at_call 21
  refine (geq_Disk (gmv R_Disk_ok (X_10.out.rd R_Disk_ok) hHeld) (NZ.out.rd R_Disk_ok)).mono ?_
  intro e w1002 h
  obtain ⟨rfl, hb⟩ := isB_elim h
  clear h
  refine hK.out _ _ (hHeld.trans (hb.mono hHeld.size)) (fun hHeld => ?_)
  clear hK K hb
  refine tk 4 hHeld ?_
  refine rd0 ?_
  have HF := Lib.hid hHeld
  clear hHeld
  have hF := HF.out
  have PD_11 := Lib.hid (PD_10.out.call hF)
  have Bw_11 := Lib.hid (Bw_10.out.call hF)
  have BX_11 := Lib.hid (BX_10.out.call hF)
  have Bg_11 := Lib.hid (Bg_10.out.call hF)
  have HD_11 := Lib.hid (gmv R_Disk_ok HD_10.out hF)
  have Yw_11 := Lib.hid (Yw_10.out.mv R_FrameOut_ok hF)
  have X_11 := Lib.hid (X_10.out.mv R_Disk_ok hF)
  have Yg_11 := Lib.hid (Yg_10.out.mv R_FrameOut_ok hF)
  have HB11 := Lib.hid (HB10.out.trans ((hF).mono HB10.out.size))
  have HZ14 := Lib.hid ((hF).size)
  clear PD_10 Bw_10 BX_10 Bg_10 HB10
  clear HF hF NZ
  go_wp2
  go_ret
  exact ⟨rfl, HB11.out⟩
end Go.Proofs.YtdedomfocljhaaaDoor.RepC
