/- The law on LabelsOf, out of the contracts. -/
import Derived.Test.YtdghcjlgmajffaaTk
import Derived.Test.YtdghcjlgmajffaaTk
import Derived.Test.YtdghcjlgmajffaaCfGv
namespace Go.Proofs.Ytdghcjlgmajffaa.RepC
open Go.RowKit RowC ValC SpanC KeptC
set_option linter.unusedVariables false
set_option linter.unusedSimpArgs false

set_option maxRecDepth 100000 in
set_option maxHeartbeats 4000000 in
theorem law_labelsof {DL0 : List (List (D_Label))} {DL1 : List (D_Pair)} {DL2 : List (D_Quota)} {Dx3 : Int} {Da0 : Option Addr} {Dc0 : Nat} {Da1 : Option Addr} {Dc1 : Nat} {Da2 : Option Addr} {Dc2 : Nat} {W : World} (hD : R_Config.rd W W.heap.size (DL0, DL1, DL2, Dx3) [.slice Da0 DL0.length Dc0, .slice Da1 DL1.length Dc1, .slice Da2 DL2.length Dc2, .int .i64 Dx3]) :
    Calls Try.prog 4 #[.agg #[.slice Da0 DL0.length Dc0, .slice Da1 DL1.length Dc1, .slice Da2 DL2.length Dc2, .int .i64 Dx3]] W fun e w' => e = .returned (.bool true) ∧ Below W.heap.size W w' := by
  have HD := Lib.hid hD
  have HD0 := Lib.hid hD
  clear hD
  have hbA : Below (W).heap.size (W) (W.alloc (.cells #[.slice Da0 DL0.length Dc0, .slice Da1 DL1.length Dc1, .slice Da2 DL2.length Dc2, .int .i64 Dx3] 26)) := (Below.refl _ _).alloc (Nat.le_refl _) _
  have HD_1 := Lib.hid (gmv R_Config_ok HD.out hbA)
  have HB1 := Lib.hid (show Below W.heap.size W (W.alloc (.cells #[.slice Da0 DL0.length Dc0, .slice Da1 DL1.length Dc1, .slice Da2 DL2.length Dc2, .int .i64 Dx3] 26)) from hbA)
  have HZ1 := Lib.hid ((hbA).size)
  clear HD
  have PD_1 := Blk.new (W) 26 #[.slice Da0 DL0.length Dc0, .slice Da1 DL1.length Dc1, .slice Da2 DL2.length Dc2, .int .i64 Dx3]
  have PDh_1 := Lib.hid PD_1
  clear PD_1 hbA
  by_cases hsz : R_Config.sz (DL0, DL1, DL2, Dx3) ≤ 1048576
  rotate_left
  · skip
    go_enter Try.func4, Try.ntmps4
    have qPD_0 := PDh_1.out.at_ 0 rfl
    have qPD_1 := PDh_1.out.at_ 1 rfl
    have qPD_2 := PDh_1.out.at_ 2 rfl
    have qPD_3 := PDh_1.out.at_ 3 rfl
    go_wp2_with fail
    refine (gsz_Config (by omega) (by omega) HD_1.out).mono ?_
    intro e w2 h
    obtain ⟨rfl, hb⟩ := szC_elim h
    rw [szR_no (by omega)]
    clear qPD_0 qPD_1 qPD_2 qPD_3
    have PD_2 := Lib.hid (PDh_1.out.call hb)
    have HD_2 := Lib.hid (gmv R_Config_ok HD_1.out hb)
    have HB2 := Lib.hid (HB1.out.trans ((hb).mono HB1.out.size))
    have HZ2 := Lib.hid ((hb).size)
    clear PDh_1 HD_1 HB1
    clear h hb
    go_wp2
    go_ret
    exact ⟨rfl, HB2.out⟩
  have HSZD := Lib.hid hsz
  have HSAD := Lib.hid (cvs_Config hsz)
  obtain ⟨m, hm⟩ : ∃ m : Nat, R_Config.sz (DL0, DL1, DL2, Dx3) = m := ⟨_, rfl⟩
  have HM := Lib.hid hm
  rw [hm] at hsz
  clear hm
  have hlt1 : decide ((1048576 : Int) - (m : Int) < 0) = false := decide_eq_false (by omega)
  obtain ⟨dR, hD⟩ : ∃ d, labsG (DL0, DL1, DL2, Dx3) = d := ⟨_, rfl⟩
  have HDD := Lib.hid hD
  have HSM := Lib.hid ((fun _ => labs_small) HSZD.out hD)
  clear hD
  go_enter Try.func4, Try.ntmps4
  have qPD_0 := PDh_1.out.at_ 0 rfl
  have qPD_1 := PDh_1.out.at_ 1 rfl
  have qPD_2 := PDh_1.out.at_ 2 rfl
  have qPD_3 := PDh_1.out.at_ 3 rfl
  go_wp2_with fail
  refine (gsz_Config (by omega) (by omega) HD_1.out).mono ?_
  intro e w2 h
  obtain ⟨rfl, hb⟩ := szC_elim h
  rw [HM.out, szR_yes (by omega)]
  clear qPD_0 qPD_1 qPD_2 qPD_3
  have PD_2 := Lib.hid (PDh_1.out.call hb)
  have HD_2 := Lib.hid (gmv R_Config_ok HD_1.out hb)
  have HB2 := Lib.hid (HB1.out.trans ((hb).mono HB1.out.size))
  have HZ2 := Lib.hid ((hb).size)
  clear PDh_1 HD_1 HB1
  clear hsz
  clear h hb
  have HPL := Lib.hid (PD_2.out.lt)
  have qPD_0 := PD_2.out.at_ 0 rfl
  have qPD_1 := PD_2.out.at_ 1 rfl
  have qPD_2 := PD_2.out.at_ 2 rfl
  have qPD_3 := PD_2.out.at_ 3 rfl
  go_wp2_with fail
  refine (gto_Config HSZD.out HD_2.out).mono ?_
  intro e w3 h
  obtain ⟨us, rfl, hu, hb⟩ := newV_elim h
  obtain ⟨aD03, cD03, aD13, cD13, aD23, cD23, rfl, hu⟩ := owc_Config hu
  clear qPD_0 qPD_1 qPD_2 qPD_3
  have PD_3 := Lib.hid (PD_2.out.call hb)
  have HD_3 := Lib.hid (gmv R_Config_ok HD_2.out hb)
  have HB3 := Lib.hid (HB2.out.trans ((hb).mono HB2.out.size))
  have HZ3 := Lib.hid ((hb).size)
  clear PD_2 HD_2 HB2
  have ND_3 := Lib.hid (owG_new hu)
  clear hu
  clear h hb
  go_wp2_with fail
  refine (glabs_spec (ND_3.out.rd R_Config_ok)).mono ?_
  intro e w4 h
  rw [HDD.out] at h
  obtain ⟨raw, rcw, rfl, hu, hb⟩ := newS_elim2 h
  have PD_4 := Lib.hid (PD_3.out.call hb)
  have HD_4 := Lib.hid (gmv R_Config_ok HD_3.out hb)
  have ND_4 := Lib.hid (ND_3.out.mv R_Config_ok hb)
  have HB4 := Lib.hid (HB3.out.trans ((hb).mono HB3.out.size))
  have HZ4 := Lib.hid ((hb).size)
  clear PD_3 HD_3 ND_3 HB3
  have Yw_4 := Lib.hid (owG_new hu)
  have HSw := Lib.hid (fun k (hk : Rg w3.heap.size w4.heap.size k) => hk)
  clear hu
  clear h hb
  clear ND_4
  have qPD_0 := PD_4.out.at_ 0 rfl
  have qPD_1 := PD_4.out.at_ 1 rfl
  have qPD_2 := PD_4.out.at_ 2 rfl
  have qPD_3 := PD_4.out.at_ 3 rfl
  go_wp2_with fail
  refine (gto_Config HSZD.out HD_4.out).mono ?_
  intro e w5 h
  obtain ⟨us, rfl, hu, hb⟩ := newV_elim h
  obtain ⟨aD05, cD05, aD15, cD15, aD25, cD25, rfl, hu⟩ := owc_Config hu
  clear qPD_0 qPD_1 qPD_2 qPD_3
  have PD_5 := Lib.hid (PD_4.out.call hb)
  have HD_5 := Lib.hid (gmv R_Config_ok HD_4.out hb)
  have Yw_5 := Lib.hid (Yw_4.out.mv (Sl_ok R_Label_ok) hb)
  have HB5 := Lib.hid (HB4.out.trans ((hb).mono HB4.out.size))
  have HZ5 := Lib.hid ((hb).size)
  clear PD_4 HD_4 Yw_4 HB4
  have X_5 := Lib.hid (owG_new hu)
  have HSX := Lib.hid (fun k (hk : Rg w4.heap.size w5.heap.size k) => hk)
  clear hu
  clear h hb
  have hbA : Below (w5).heap.size (w5) (w5.alloc (.cells #[.slice aD05 DL0.length cD05, .slice aD15 DL1.length cD15, .slice aD25 DL2.length cD25, .int .i64 Dx3] 33)) := (Below.refl _ _).alloc (Nat.le_refl _) _
  have PD_6 := Lib.hid (PD_5.out.call hbA)
  have HD_6 := Lib.hid (gmv R_Config_ok HD_5.out hbA)
  have Yw_6 := Lib.hid (Yw_5.out.mv (Sl_ok R_Label_ok) hbA)
  have X_6 := Lib.hid (X_5.out.mv R_Config_ok hbA)
  have HB6 := Lib.hid (HB5.out.trans ((hbA).mono HB5.out.size))
  have HZ6 := Lib.hid ((hbA).size)
  clear PD_5 HD_5 Yw_5 X_5 HB5
  have BX_6 := Blk.new (w5) 33 #[.slice aD05 DL0.length cD05, .slice aD15 DL1.length cD15, .slice aD25 DL2.length cD25, .int .i64 Dx3]
  have BXh_6 := Lib.hid BX_6
  clear BX_6 hbA
  have HZ7 := Lib.hid ((show (w5.alloc (.cells #[.slice aD05 DL0.length cD05, .slice aD15 DL1.length cD15, .slice aD25 DL2.length cD25, .int .i64 Dx3] 33)).heap.size = w5.heap.size + 1 by simp))
  obtain ⟨wz6, hwz6⟩ : ∃ w, w = w5.alloc (.cells #[.slice aD05 DL0.length cD05, .slice aD15 DL1.length cD15, .slice aD25 DL2.length cD25, .int .i64 Dx3] 33) := ⟨_, rfl⟩
  rw [← hwz6] at PD_6 BXh_6 HD_6 Yw_6 X_6 HB6 HZ6 HZ7
  have qBX_0 := BXh_6.out.at_ 0 rfl
  have qBX_1 := BXh_6.out.at_ 1 rfl
  have qBX_2 := BXh_6.out.at_ 2 rfl
  have qBX_3 := BXh_6.out.at_ 3 rfl
  have qBX_0_u := qBX_0
  rw [hwz6] at qBX_0_u
  have qBX_1_u := qBX_1
  rw [hwz6] at qBX_1_u
  have qBX_2_u := qBX_2
  rw [hwz6] at qBX_2_u
  have qBX_3_u := qBX_3
  rw [hwz6] at qBX_3_u
  go_wp2_with fail
  rw [← hwz6]
  clear hwz6
  refine (glabs_impl (X_6.out.rd R_Config_ok)).mono ?_
  intro e w7 h
  rw [HDD.out] at h
  obtain ⟨rag, rcg, rfl, hu, hb⟩ := newS_elim2 h
  clear qBX_0 qBX_1 qBX_2 qBX_3 qBX_0_u qBX_1_u qBX_2_u qBX_3_u
  have PD_7 := Lib.hid (PD_6.out.call hb)
  have BX_7 := Lib.hid (BXh_6.out.call hb)
  have HD_7 := Lib.hid (gmv R_Config_ok HD_6.out hb)
  have Yw_7 := Lib.hid (Yw_6.out.mv (Sl_ok R_Label_ok) hb)
  have X_7 := Lib.hid (X_6.out.mv R_Config_ok hb)
  have HB7 := Lib.hid (HB6.out.trans ((hb).mono HB6.out.size))
  have HZ8 := Lib.hid ((hb).size)
  clear PD_6 BXh_6 HD_6 Yw_6 X_6 HB6
  have Yg_7 := Lib.hid (owG_new hu)
  have HSg := Lib.hid (fun k (hk : Rg wz6.heap.size w7.heap.size k) => hk)
  clear hu
  clear h hb
  go_wp2_with fail
  refine (geq_LabelS (Yg_7.out.rd (Sl_ok R_Label_ok)) (Yw_7.out.rd (Sl_ok R_Label_ok))).mono ?_
  intro e w8 h
  obtain ⟨rfl, hb⟩ := isB_elim h
  have PD_8 := Lib.hid (PD_7.out.call hb)
  have BX_8 := Lib.hid (BX_7.out.call hb)
  have HD_8 := Lib.hid (gmv R_Config_ok HD_7.out hb)
  have Yw_8 := Lib.hid (Yw_7.out.mv (Sl_ok R_Label_ok) hb)
  have X_8 := Lib.hid (X_7.out.mv R_Config_ok hb)
  have Yg_8 := Lib.hid (Yg_7.out.mv (Sl_ok R_Label_ok) hb)
  have HB8 := Lib.hid (HB7.out.trans ((hb).mono HB7.out.size))
  have HZ9 := Lib.hid ((hb).size)
  clear PD_7 BX_7 HD_7 Yw_7 X_7 Yg_7 HB7
  clear h hb
  go_wp2_with fail
  refine wp_region_held_drew (S := (fun V => Below (w8).heap.size (w8) V)) (by kernel_rfl) ((Below.refl _ _).drew) (fun hHeld => ?_)
  refine tk 0 hHeld ?_ (hy := fun w hSw => by (try dsimp only at hSw); have k0 := (hSw.cell (p := ⟨w5.heap.size, 0, none⟩) BX_8.out.lt).trans (BX_8.out.at_ 0 rfl); have k1 := (hSw.cell (p := ⟨w5.heap.size, 1, none⟩) BX_8.out.lt).trans (BX_8.out.at_ 1 rfl); have k2 := (hSw.cell (p := ⟨w5.heap.size, 2, none⟩) BX_8.out.lt).trans (BX_8.out.at_ 2 rfl); have k3 := (hSw.cell (p := ⟨w5.heap.size, 3, none⟩) BX_8.out.lt).trans (BX_8.out.at_ 3 rfl); clear hSw; go_simp; try with_reducible rfl)
  refine tk 1 hHeld ?_ (hy := fun w hSw => by (try dsimp only at hSw); have k0 := (hSw.cell (p := ⟨W.heap.size, 0, none⟩) PD_8.out.lt).trans (PD_8.out.at_ 0 rfl); have k1 := (hSw.cell (p := ⟨W.heap.size, 1, none⟩) PD_8.out.lt).trans (PD_8.out.at_ 1 rfl); have k2 := (hSw.cell (p := ⟨W.heap.size, 2, none⟩) PD_8.out.lt).trans (PD_8.out.at_ 2 rfl); have k3 := (hSw.cell (p := ⟨W.heap.size, 3, none⟩) PD_8.out.lt).trans (PD_8.out.at_ 3 rfl); clear hSw; go_simp; try with_reducible rfl)
  refine rd1 2 (fun K hK => ?_)
  go_simp
  go_at_call 10
  refine (gto_Config HSZD.out (gmv R_Config_ok HD_8.out hHeld)).mono ?_
  intro e w801 h
  obtain ⟨us, rfl, hu, hb⟩ := newV_elim h
  obtain ⟨aD0801, cD0801, aD1801, cD1801, aD2801, cD2801, rfl, hu⟩ := owc_Config hu
  have NZ := Lib.hid (owG_new hu)
  clear h hu
  refine hK.out _ _ (hHeld.trans (hb.mono hHeld.size)) (fun hHeld => ?_)
  clear hK K hb
  refine rd1 3 (fun K hK => ?_)
  go_simp
  go_at_call 12
  refine (geq_Config (gmv R_Config_ok (X_8.out.rd R_Config_ok) hHeld) (NZ.out.rd R_Config_ok)).mono ?_
  intro e w802 h
  obtain ⟨rfl, hb⟩ := isB_elim h
  clear h
  refine hK.out _ _ (hHeld.trans (hb.mono hHeld.size)) (fun hHeld => ?_)
  clear hK K hb
  refine tk 4 hHeld ?_
  refine rd0 ?_
  have HF := Lib.hid hHeld
  clear hHeld
  have hF := HF.out
  have PD_9 := Lib.hid (PD_8.out.call hF)
  have BX_9 := Lib.hid (BX_8.out.call hF)
  have HD_9 := Lib.hid (gmv R_Config_ok HD_8.out hF)
  have Yw_9 := Lib.hid (Yw_8.out.mv (Sl_ok R_Label_ok) hF)
  have X_9 := Lib.hid (X_8.out.mv R_Config_ok hF)
  have Yg_9 := Lib.hid (Yg_8.out.mv (Sl_ok R_Label_ok) hF)
  have HB9 := Lib.hid (HB8.out.trans ((hF).mono HB8.out.size))
  have HZ10 := Lib.hid ((hF).size)
  clear PD_8 BX_8 HD_8 Yw_8 X_8 Yg_8 HB8
  clear HF hF NZ
  have qBX_0 := BX_9.out.at_ 0 rfl
  have qBX_1 := BX_9.out.at_ 1 rfl
  have qBX_2 := BX_9.out.at_ 2 rfl
  have qBX_3 := BX_9.out.at_ 3 rfl
  go_wp2_with fail
  refine (gmark_Config (by omega) (by have h1 := HSAD.out; omega) X_9.out.2 X_9.out.1).mono ?_
  intro e wm h
  obtain ⟨dM, y1, rfl, hmv, hzz, ho, hoff⟩ := markG_elim h
  clear qBX_0 qBX_1 qBX_2 qBX_3
  have HB10 := Lib.hid (HB9.out.trans (hoff.below HB9.out.size (fun k hk => by have zHZ2 := HZ2.out; have zHZ3 := HZ3.out; have zHZ4 := HZ4.out; have zHZ5 := HZ5.out; have zHZ6 := HZ6.out; have zHZ7 := HZ7.out; have zHZ8 := HZ8.out; have zHZ9 := HZ9.out; have zHZ10 := HZ10.out; have yHPL := HPL.out; have rX := HSX.out _ hk; try unfold Rg at rX; omega)))
  have PD_10 := Lib.hid (PD_9.out.off hoff PD_9.out.lt (fun hk => by have zHZ2 := HZ2.out; have zHZ3 := HZ3.out; have zHZ4 := HZ4.out; have zHZ5 := HZ5.out; have zHZ6 := HZ6.out; have zHZ7 := HZ7.out; have zHZ8 := HZ8.out; have zHZ9 := HZ9.out; have zHZ10 := HZ10.out; have yHPL := HPL.out; have rX := HSX.out _ hk; try unfold Rg at rX; omega))
  have BX_10 := Lib.hid (BX_9.out.off hoff BX_9.out.lt (fun hk => by have zHZ2 := HZ2.out; have zHZ3 := HZ3.out; have zHZ4 := HZ4.out; have zHZ5 := HZ5.out; have zHZ6 := HZ6.out; have zHZ7 := HZ7.out; have zHZ8 := HZ8.out; have zHZ9 := HZ9.out; have zHZ10 := HZ10.out; have yHPL := HPL.out; have rX := HSX.out _ hk; try unfold Rg at rX; omega))
  have HD_10 := Lib.hid (gmv R_Config_ok HD0.out HB10.out)
  have Yw_10 := Lib.hid (Yw_9.out.off (Sl_ok R_Label_ok) hoff (fun k hk hk2 => by have zHZ2 := HZ2.out; have zHZ3 := HZ3.out; have zHZ4 := HZ4.out; have zHZ5 := HZ5.out; have zHZ6 := HZ6.out; have zHZ7 := HZ7.out; have zHZ8 := HZ8.out; have zHZ9 := HZ9.out; have zHZ10 := HZ10.out; have yHPL := HPL.out; have rX := HSX.out k hk2; try unfold Rg at rX; have rw := HSw.out k hk; try unfold Rg at rw; omega))
  have Yg_10 := Lib.hid (Yg_9.out.off (Sl_ok R_Label_ok) hoff (fun k hk hk2 => by have zHZ2 := HZ2.out; have zHZ3 := HZ3.out; have zHZ4 := HZ4.out; have zHZ5 := HZ5.out; have zHZ6 := HZ6.out; have zHZ7 := HZ7.out; have zHZ8 := HZ8.out; have zHZ9 := HZ9.out; have zHZ10 := HZ10.out; have yHPL := HPL.out; have rX := HSX.out k hk2; try unfold Rg at rX; have rg := HSg.out k hk; try unfold Rg at rg; omega))
  have hkn : decide (y1 < 0) = false := decide_eq_false (by omega)
  have HZ11 := Lib.hid (hoff.size)
  clear h hmv hzz ho hoff
  go_wp2_with fail
  refine (geq_LabelS (Yg_10.out.rd (Sl_ok R_Label_ok)) (Yw_10.out.rd (Sl_ok R_Label_ok))).mono ?_
  intro e w11 h
  obtain ⟨rfl, hb⟩ := isB_elim h
  have PD_11 := Lib.hid (PD_10.out.call hb)
  have BX_11 := Lib.hid (BX_10.out.call hb)
  have HD_11 := Lib.hid (gmv R_Config_ok HD_10.out hb)
  have Yw_11 := Lib.hid (Yw_10.out.mv (Sl_ok R_Label_ok) hb)
  have Yg_11 := Lib.hid (Yg_10.out.mv (Sl_ok R_Label_ok) hb)
  have HB11 := Lib.hid (HB10.out.trans ((hb).mono HB10.out.size))
  have HZ12 := Lib.hid ((hb).size)
  clear PD_10 BX_10 HB10
  clear h hb
  clear hkn
  go_wp2_with fail
  refine (gmark_LabelS (by omega) (by have h1 := HSM.out; omega) Yg_11.out.2 Yg_11.out.1).mono ?_
  intro e wn h
  obtain ⟨dN, zN, rfl, hmv, hzz, ho, hoff⟩ := markG_elim h
  have HB12 := Lib.hid (HB11.out.trans (hoff.below HB11.out.size (fun k hk => by have zHZ2 := HZ2.out; have zHZ3 := HZ3.out; have zHZ4 := HZ4.out; have zHZ5 := HZ5.out; have zHZ6 := HZ6.out; have zHZ7 := HZ7.out; have zHZ8 := HZ8.out; have zHZ9 := HZ9.out; have zHZ10 := HZ10.out; have zHZ11 := HZ11.out; have zHZ12 := HZ12.out; have yHPL := HPL.out; have rg := HSg.out _ hk; try unfold Rg at rg; omega)))
  have PD_12 := Lib.hid (PD_11.out.off hoff PD_11.out.lt (fun hk => by have zHZ2 := HZ2.out; have zHZ3 := HZ3.out; have zHZ4 := HZ4.out; have zHZ5 := HZ5.out; have zHZ6 := HZ6.out; have zHZ7 := HZ7.out; have zHZ8 := HZ8.out; have zHZ9 := HZ9.out; have zHZ10 := HZ10.out; have zHZ11 := HZ11.out; have zHZ12 := HZ12.out; have yHPL := HPL.out; have rg := HSg.out _ hk; try unfold Rg at rg; omega))
  have BX_12 := Lib.hid (BX_11.out.off hoff BX_11.out.lt (fun hk => by have zHZ2 := HZ2.out; have zHZ3 := HZ3.out; have zHZ4 := HZ4.out; have zHZ5 := HZ5.out; have zHZ6 := HZ6.out; have zHZ7 := HZ7.out; have zHZ8 := HZ8.out; have zHZ9 := HZ9.out; have zHZ10 := HZ10.out; have zHZ11 := HZ11.out; have zHZ12 := HZ12.out; have yHPL := HPL.out; have rg := HSg.out _ hk; try unfold Rg at rg; omega))
  have HD_12 := Lib.hid (gmv R_Config_ok HD0.out HB12.out)
  have Yw_12 := Lib.hid (Yw_11.out.off (Sl_ok R_Label_ok) hoff (fun k hk hk2 => by have zHZ2 := HZ2.out; have zHZ3 := HZ3.out; have zHZ4 := HZ4.out; have zHZ5 := HZ5.out; have zHZ6 := HZ6.out; have zHZ7 := HZ7.out; have zHZ8 := HZ8.out; have zHZ9 := HZ9.out; have zHZ10 := HZ10.out; have zHZ11 := HZ11.out; have zHZ12 := HZ12.out; have yHPL := HPL.out; have rg := HSg.out k hk2; try unfold Rg at rg; have rw := HSw.out k hk; try unfold Rg at rw; omega))
  have Yg_12 := Lib.hid (show OwG (Sl R_Label) wn _ dN _ from ⟨ho, fun k hk => Nat.lt_of_lt_of_le (Yg_11.out.2 k hk) hoff.size⟩)
  have HMV := Lib.hid hmv
  have hzn : decide (zN < 0) = false := decide_eq_false (by omega)
  have hze : (zN != zN) = false := by simp
  have hzb : zN ≤ 4611686018427387904 := by have := HSM.out; omega
  have HZ13 := Lib.hid (hoff.size)
  clear h hmv hzz ho hoff
  go_wp2_with fail
  refine (gheld_LabelS (by omega) hzb HMV.out (Yg_12.out.rd (Sl_ok R_Label_ok))).mono ?_
  intro e w13 h
  obtain ⟨rfl, hb⟩ := heldC_elim h
  have PD_13 := Lib.hid (PD_12.out.call hb)
  have BX_13 := Lib.hid (BX_12.out.call hb)
  have HD_13 := Lib.hid (gmv R_Config_ok HD_12.out hb)
  have Yw_13 := Lib.hid (Yw_12.out.mv (Sl_ok R_Label_ok) hb)
  have Yg_13 := Lib.hid (Yg_12.out.mv (Sl_ok R_Label_ok) hb)
  have HB13 := Lib.hid (HB12.out.trans ((hb).mono HB12.out.size))
  have HZ14 := Lib.hid ((hb).size)
  clear PD_12 BX_12 HD_12 Yw_12 Yg_12 HB12
  clear h hb
  have qPD_0 := PD_13.out.at_ 0 rfl
  have qPD_1 := PD_13.out.at_ 1 rfl
  have qPD_2 := PD_13.out.at_ 2 rfl
  have qPD_3 := PD_13.out.at_ 3 rfl
  go_wp2_with fail
  refine (gto_Config HSZD.out HD_13.out).mono ?_
  intro e w14 h
  obtain ⟨us, rfl, hu, hb⟩ := newV_elim h
  obtain ⟨aD014, cD014, aD114, cD114, aD214, cD214, rfl, hu⟩ := owc_Config hu
  clear qPD_0 qPD_1 qPD_2 qPD_3
  have PD_14 := Lib.hid (PD_13.out.call hb)
  have BX_14 := Lib.hid (BX_13.out.call hb)
  have HD_14 := Lib.hid (gmv R_Config_ok HD_13.out hb)
  have Yw_14 := Lib.hid (Yw_13.out.mv (Sl_ok R_Label_ok) hb)
  have Yg_14 := Lib.hid (Yg_13.out.mv (Sl_ok R_Label_ok) hb)
  have HB14 := Lib.hid (HB13.out.trans ((hb).mono HB13.out.size))
  have HZ15 := Lib.hid ((hb).size)
  clear PD_13 BX_13 HD_13 Yw_13 Yg_13 HB13
  have ND_14 := Lib.hid (owG_new hu)
  clear hu
  clear h hb
  go_wp2_with fail
  refine (glabs_impl (ND_14.out.rd R_Config_ok)).mono ?_
  intro e w15 h
  rw [HDD.out] at h
  obtain ⟨rah, rch, rfl, hu, hb⟩ := newS_elim2 h
  have PD_15 := Lib.hid (PD_14.out.call hb)
  have BX_15 := Lib.hid (BX_14.out.call hb)
  have HD_15 := Lib.hid (gmv R_Config_ok HD_14.out hb)
  have Yw_15 := Lib.hid (Yw_14.out.mv (Sl_ok R_Label_ok) hb)
  have Yg_15 := Lib.hid (Yg_14.out.mv (Sl_ok R_Label_ok) hb)
  have ND_15 := Lib.hid (ND_14.out.mv R_Config_ok hb)
  have HB15 := Lib.hid (HB14.out.trans ((hb).mono HB14.out.size))
  have HZ16 := Lib.hid ((hb).size)
  clear PD_14 BX_14 HD_14 Yw_14 Yg_14 ND_14 HB14
  have Yh_15 := Lib.hid (owG_new hu)
  have HSh := Lib.hid (fun k (hk : Rg w14.heap.size w15.heap.size k) => hk)
  clear hu
  clear h hb
  clear ND_15
  go_wp2_with fail
  refine (geq_LabelS (Yh_15.out.rd (Sl_ok R_Label_ok)) (Yw_15.out.rd (Sl_ok R_Label_ok))).mono ?_
  intro e w16 h
  obtain ⟨rfl, hb⟩ := isB_elim h
  have PD_16 := Lib.hid (PD_15.out.call hb)
  have BX_16 := Lib.hid (BX_15.out.call hb)
  have HD_16 := Lib.hid (gmv R_Config_ok HD_15.out hb)
  have Yw_16 := Lib.hid (Yw_15.out.mv (Sl_ok R_Label_ok) hb)
  have Yg_16 := Lib.hid (Yg_15.out.mv (Sl_ok R_Label_ok) hb)
  have Yh_16 := Lib.hid (Yh_15.out.mv (Sl_ok R_Label_ok) hb)
  have HB16 := Lib.hid (HB15.out.trans ((hb).mono HB15.out.size))
  have HZ17 := Lib.hid ((hb).size)
  clear PD_15 BX_15 HD_15 Yw_15 Yg_15 Yh_15 HB15
  clear h hb
  go_wp2_with fail
  refine (gheld_LabelS (by omega) hzb HMV.out (Yg_16.out.rd (Sl_ok R_Label_ok))).mono ?_
  intro e w17 h
  obtain ⟨rfl, hb⟩ := heldC_elim h
  have PD_17 := Lib.hid (PD_16.out.call hb)
  have BX_17 := Lib.hid (BX_16.out.call hb)
  have HD_17 := Lib.hid (gmv R_Config_ok HD_16.out hb)
  have Yw_17 := Lib.hid (Yw_16.out.mv (Sl_ok R_Label_ok) hb)
  have Yg_17 := Lib.hid (Yg_16.out.mv (Sl_ok R_Label_ok) hb)
  have Yh_17 := Lib.hid (Yh_16.out.mv (Sl_ok R_Label_ok) hb)
  have HB17 := Lib.hid (HB16.out.trans ((hb).mono HB16.out.size))
  have HZ18 := Lib.hid ((hb).size)
  clear PD_16 BX_16 HD_16 Yw_16 Yg_16 Yh_16 HB16
  clear h hb
  go_wp2
  go_ret
  exact ⟨rfl, HB17.out⟩
end Go.Proofs.Ytdghcjlgmajffaa.RepC
