/- The law on DiskBase, out of the contracts. -/
import Derived.Test.YtdedomfocljhaaaDoorTk
import Derived.Test.YtdedomfocljhaaaDoorTk
import Derived.Test.YtdedomfocljhaaaDoorDbX
namespace Go.Proofs.YtdedomfocljhaaaDoor.RepC
open Go.RowKit RowC ValC SpanC KeptC
set_option linter.unusedVariables false
set_option linter.unusedSimpArgs false

set_option maxRecDepth 100000 in
set_option maxHeartbeats 4000000 in
theorem law_diskbase {DL0 : List (D_Region)} {Dx1 : Int} {Da0 : Option Addr} {Dc0 : Nat} {W : World} (hD : R_Disk.rd W W.heap.size (DL0, Dx1) [.slice Da0 DL0.length Dc0, .int .i64 Dx1]) (hDo : GetC.Door W) :
    Calls Tryd.prog 6 #[.agg #[.slice Da0 DL0.length Dc0, .int .i64 Dx1]] W fun e w' => e = .returned (.bool true) ∧ Below W.heap.size W w' := by
  have HDOOR := Lib.hid hDo
  have HDZ := Lib.hid hDo.lt
  clear hDo
  have HD := Lib.hid hD
  have HD0 := Lib.hid hD
  clear hD
  have hbA : Below (W).heap.size (W) (W.alloc (.cells #[.slice Da0 DL0.length Dc0, .int .i64 Dx1] 38)) := (Below.refl _ _).alloc (Nat.le_refl _) _
  have HD_1 := Lib.hid (gmv R_Disk_ok HD.out hbA)
  have HB1 := Lib.hid (show Below W.heap.size W (W.alloc (.cells #[.slice Da0 DL0.length Dc0, .int .i64 Dx1] 38)) from hbA)
  have HZ1 := Lib.hid ((hbA).size)
  clear HD
  have PD_1 := Blk.new (W) 38 #[.slice Da0 DL0.length Dc0, .int .i64 Dx1]
  have PDh_1 := Lib.hid PD_1
  clear PD_1 hbA
  by_cases hsz : R_Disk.sz (DL0, Dx1) ≤ 1048576
  rotate_left
  · skip
    go_enter Tryd.func6, Tryd.ntmps6
    have qPD_0 := PDh_1.out.at_ 0 rfl
    have qPD_1 := PDh_1.out.at_ 1 rfl
    go_wp2_with fail
    refine (gsz_Disk (by omega) (by omega) HD_1.out).mono ?_
    intro e w2 h
    obtain ⟨rfl, hb⟩ := szC_elim h
    rw [szR_no (by omega)]
    clear qPD_0 qPD_1
    have PD_2 := Lib.hid (PDh_1.out.call hb)
    have HD_2 := Lib.hid (gmv R_Disk_ok HD_1.out hb)
    have HB2 := Lib.hid (HB1.out.trans ((hb).mono HB1.out.size))
    have HZ2 := Lib.hid ((hb).size)
    clear PDh_1 HD_1 HB1
    clear h hb
    go_wp2
    go_ret
    exact ⟨rfl, HB2.out⟩
  have HSZD := Lib.hid hsz
  have HSAD := Lib.hid (cvs_Disk hsz)
  obtain ⟨m, hm⟩ : ∃ m : Nat, R_Disk.sz (DL0, Dx1) = m := ⟨_, rfl⟩
  have HM := Lib.hid hm
  rw [hm] at hsz
  clear hm
  have hlt1 : decide ((1048576 : Int) - (m : Int) < 0) = false := decide_eq_false (by omega)
  obtain ⟨dR, hD⟩ : ∃ d, FrC.baseV (DL0, Dx1) = d := ⟨_, rfl⟩
  have HDD := Lib.hid hD
  clear hD
  go_enter Tryd.func6, Tryd.ntmps6
  have qPD_0 := PDh_1.out.at_ 0 rfl
  have qPD_1 := PDh_1.out.at_ 1 rfl
  go_wp2_with fail
  refine (gsz_Disk (by omega) (by omega) HD_1.out).mono ?_
  intro e w2 h
  obtain ⟨rfl, hb⟩ := szC_elim h
  rw [HM.out, szR_yes (by omega)]
  clear qPD_0 qPD_1
  have PD_2 := Lib.hid (PDh_1.out.call hb)
  have HD_2 := Lib.hid (gmv R_Disk_ok HD_1.out hb)
  have HB2 := Lib.hid (HB1.out.trans ((hb).mono HB1.out.size))
  have HZ2 := Lib.hid ((hb).size)
  clear PDh_1 HD_1 HB1
  clear hsz
  clear h hb
  have HPL := Lib.hid (PD_2.out.lt)
  have hbb : (dR != dR) = false := by simp
  have qPD_0 := PD_2.out.at_ 0 rfl
  have qPD_1 := PD_2.out.at_ 1 rfl
  go_wp2_with fail
  refine (gto_Disk HSZD.out HD_2.out).mono ?_
  intro e w3 h
  obtain ⟨us, rfl, hu, hb⟩ := newV_elim h
  obtain ⟨aD03, cD03, rfl, hu⟩ := owc_Disk hu
  clear qPD_0 qPD_1
  have PD_3 := Lib.hid (PD_2.out.call hb)
  have HD_3 := Lib.hid (gmv R_Disk_ok HD_2.out hb)
  have HB3 := Lib.hid (HB2.out.trans ((hb).mono HB2.out.size))
  have HZ3 := Lib.hid ((hb).size)
  clear PD_2 HD_2 HB2
  have ND_3 := Lib.hid (owG_new hu)
  clear hu
  clear h hb
  go_wp2_with fail
  refine (gdb_spec (ND_3.out.rd R_Disk_ok)).mono ?_
  intro e w4 h
  rw [HDD.out] at h
  obtain ⟨rfl, hb⟩ := isI_elim h
  have PD_4 := Lib.hid (PD_3.out.call hb)
  have HD_4 := Lib.hid (gmv R_Disk_ok HD_3.out hb)
  have ND_4 := Lib.hid (ND_3.out.mv R_Disk_ok hb)
  have HB4 := Lib.hid (HB3.out.trans ((hb).mono HB3.out.size))
  have HZ4 := Lib.hid ((hb).size)
  clear PD_3 HD_3 ND_3 HB3
  clear h hb
  clear ND_4
  have qPD_0 := PD_4.out.at_ 0 rfl
  have qPD_1 := PD_4.out.at_ 1 rfl
  go_wp2_with fail
  refine (gto_Disk HSZD.out HD_4.out).mono ?_
  intro e w5 h
  obtain ⟨us, rfl, hu, hb⟩ := newV_elim h
  obtain ⟨aD05, cD05, rfl, hu⟩ := owc_Disk hu
  clear qPD_0 qPD_1
  have PD_5 := Lib.hid (PD_4.out.call hb)
  have HD_5 := Lib.hid (gmv R_Disk_ok HD_4.out hb)
  have HB5 := Lib.hid (HB4.out.trans ((hb).mono HB4.out.size))
  have HZ5 := Lib.hid ((hb).size)
  clear PD_4 HD_4 HB4
  have X_5 := Lib.hid (owG_new hu)
  have HSX := Lib.hid (fun k (hk : Rg w4.heap.size w5.heap.size k) => hk)
  clear hu
  clear h hb
  have hbA : Below (w5).heap.size (w5) (w5.alloc (.cells #[.slice aD05 DL0.length cD05, .int .i64 Dx1] 42)) := (Below.refl _ _).alloc (Nat.le_refl _) _
  have PD_6 := Lib.hid (PD_5.out.call hbA)
  have HD_6 := Lib.hid (gmv R_Disk_ok HD_5.out hbA)
  have X_6 := Lib.hid (X_5.out.mv R_Disk_ok hbA)
  have HB6 := Lib.hid (HB5.out.trans ((hbA).mono HB5.out.size))
  have HZ6 := Lib.hid ((hbA).size)
  clear PD_5 HD_5 X_5 HB5
  have BX_6 := Blk.new (w5) 42 #[.slice aD05 DL0.length cD05, .int .i64 Dx1]
  have BXh_6 := Lib.hid BX_6
  clear BX_6 hbA
  have HZ7 := Lib.hid ((show (w5.alloc (.cells #[.slice aD05 DL0.length cD05, .int .i64 Dx1] 42)).heap.size = w5.heap.size + 1 by simp))
  obtain ⟨wz6, hwz6⟩ : ∃ w, w = w5.alloc (.cells #[.slice aD05 DL0.length cD05, .int .i64 Dx1] 42) := ⟨_, rfl⟩
  rw [← hwz6] at PD_6 BXh_6 HD_6 X_6 HB6 HZ6 HZ7
  have qBX_0 := BXh_6.out.at_ 0 rfl
  have qBX_1 := BXh_6.out.at_ 1 rfl
  have qBX_0_u := qBX_0
  rw [hwz6] at qBX_0_u
  have qBX_1_u := qBX_1
  rw [hwz6] at qBX_1_u
  go_wp2_with fail
  rw [← hwz6]
  clear hwz6
  refine (gdb_impl (HDOOR.out.below HB6.out HDZ.out) (X_6.out.rd R_Disk_ok)).mono ?_
  intro e w7 h
  rw [HDD.out] at h
  obtain ⟨rfl, hb⟩ := isI_elim h
  clear qBX_0 qBX_1 qBX_0_u qBX_1_u
  have PD_7 := Lib.hid (PD_6.out.call hb)
  have BX_7 := Lib.hid (BXh_6.out.call hb)
  have HD_7 := Lib.hid (gmv R_Disk_ok HD_6.out hb)
  have X_7 := Lib.hid (X_6.out.mv R_Disk_ok hb)
  have HB7 := Lib.hid (HB6.out.trans ((hb).mono HB6.out.size))
  have HZ8 := Lib.hid ((hb).size)
  clear PD_6 BXh_6 HD_6 X_6 HB6
  clear h hb
  go_wp2_with fail
  refine wp_region_held_drew (S := (fun V => Below (w7).heap.size (w7) V)) (by kernel_rfl) ((Below.refl _ _).drew) (fun hHeld => ?_)
  refine tk 0 hHeld ?_ (hy := fun w hSw => by (try dsimp only at hSw); have k0 := (hSw.cell (p := ⟨w5.heap.size, 0, none⟩) BX_7.out.lt).trans (BX_7.out.at_ 0 rfl); have k1 := (hSw.cell (p := ⟨w5.heap.size, 1, none⟩) BX_7.out.lt).trans (BX_7.out.at_ 1 rfl); clear hSw; go_simp; try with_reducible rfl)
  refine tk 1 hHeld ?_ (hy := fun w hSw => by (try dsimp only at hSw); have k0 := (hSw.cell (p := ⟨W.heap.size, 0, none⟩) PD_7.out.lt).trans (PD_7.out.at_ 0 rfl); have k1 := (hSw.cell (p := ⟨W.heap.size, 1, none⟩) PD_7.out.lt).trans (PD_7.out.at_ 1 rfl); clear hSw; go_simp; try with_reducible rfl)
  refine rd1 2 (fun K hK => ?_)
  go_simp
  go_at_call 18
  refine (gto_Disk HSZD.out (gmv R_Disk_ok HD_7.out hHeld)).mono ?_
  intro e w701 h
  obtain ⟨us, rfl, hu, hb⟩ := newV_elim h
  obtain ⟨aD0701, cD0701, rfl, hu⟩ := owc_Disk hu
  have NZ := Lib.hid (owG_new hu)
  clear h hu
  refine hK.out _ _ (hHeld.trans (hb.mono hHeld.size)) (fun hHeld => ?_)
  clear hK K hb
  refine rd1 3 (fun K hK => ?_)
  go_simp
  go_at_call 21
  refine (geq_Disk (gmv R_Disk_ok (X_7.out.rd R_Disk_ok) hHeld) (NZ.out.rd R_Disk_ok)).mono ?_
  intro e w702 h
  obtain ⟨rfl, hb⟩ := isB_elim h
  clear h
  refine hK.out _ _ (hHeld.trans (hb.mono hHeld.size)) (fun hHeld => ?_)
  clear hK K hb
  refine tk 4 hHeld ?_
  refine rd0 ?_
  have HF := Lib.hid hHeld
  clear hHeld
  have hF := HF.out
  have PD_8 := Lib.hid (PD_7.out.call hF)
  have BX_8 := Lib.hid (BX_7.out.call hF)
  have HD_8 := Lib.hid (gmv R_Disk_ok HD_7.out hF)
  have X_8 := Lib.hid (X_7.out.mv R_Disk_ok hF)
  have HB8 := Lib.hid (HB7.out.trans ((hF).mono HB7.out.size))
  have HZ9 := Lib.hid ((hF).size)
  clear PD_7 BX_7 HD_7 X_7 HB7
  clear HF hF NZ
  go_wp2
  go_ret
  exact ⟨rfl, HB8.out⟩
end Go.Proofs.YtdedomfocljhaaaDoor.RepC
