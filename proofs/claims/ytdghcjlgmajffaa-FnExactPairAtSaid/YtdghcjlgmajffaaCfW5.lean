/- The law on PairAt, out of the contracts. -/
import Derived.Test.YtdghcjlgmajffaaTk
import Derived.Test.YtdghcjlgmajffaaTk
import Derived.Test.YtdghcjlgmajffaaCfGPair
namespace Go.Proofs.Ytdghcjlgmajffaa.RepC
open Go.RowKit RowC ValC SpanC KeptC
set_option linter.unusedVariables false
set_option linter.unusedSimpArgs false

set_option maxRecDepth 100000 in
set_option maxHeartbeats 4000000 in
theorem law_pairat {DL0 : List (List (D_Label))} {DL1 : List (D_Pair)} {DL2 : List (D_Quota)} {Dx3 : Int} {Da0 : Option Addr} {Dc0 : Nat} {Da1 : Option Addr} {Dc1 : Nat} {Da2 : Option Addr} {Dc2 : Nat} {Fx0 : Int} {Fx1 : Int}  {Kx0 : Int} {Kx1 : Int}  {W : World} (hD : R_Config.rd W W.heap.size (DL0, DL1, DL2, Dx3) [.slice Da0 DL0.length Dc0, .slice Da1 DL1.length Dc1, .slice Da2 DL2.length Dc2, .int .i64 Dx3]) :
    Calls Try.prog 7 #[.agg #[.slice Da0 DL0.length Dc0, .slice Da1 DL1.length Dc1, .slice Da2 DL2.length Dc2, .int .i64 Dx3], .agg #[.int .i64 Fx0, .int .i64 Fx1], .agg #[.int .i64 Kx0, .int .i64 Kx1]] W fun e w' => e = .returned (.bool true) ∧ Below W.heap.size W w' := by
  have HD := Lib.hid hD
  have HD0 := Lib.hid hD
  clear hD
  have hbA : Below (W).heap.size (W) (W.alloc (.cells #[.slice Da0 DL0.length Dc0, .slice Da1 DL1.length Dc1, .slice Da2 DL2.length Dc2, .int .i64 Dx3] 26)) := (Below.refl _ _).alloc (Nat.le_refl _) _
  have HD_1 := Lib.hid (gmv R_Config_ok HD.out hbA)
  have HB1 := Lib.hid (show Below W.heap.size W (W.alloc (.cells #[.slice Da0 DL0.length Dc0, .slice Da1 DL1.length Dc1, .slice Da2 DL2.length Dc2, .int .i64 Dx3] 26)) from hbA)
  have HZ1 := Lib.hid ((hbA).size)
  clear HD
  have PD_1 := Blk.new (W) 26 #[.slice Da0 DL0.length Dc0, .slice Da1 DL1.length Dc1, .slice Da2 DL2.length Dc2, .int .i64 Dx3]
  have PDh_1 := Lib.hid PD_1
  clear PD_1 hbA
  have hbA : Below (W.alloc (.cells #[.slice Da0 DL0.length Dc0, .slice Da1 DL1.length Dc1, .slice Da2 DL2.length Dc2, .int .i64 Dx3] 26)).heap.size (W.alloc (.cells #[.slice Da0 DL0.length Dc0, .slice Da1 DL1.length Dc1, .slice Da2 DL2.length Dc2, .int .i64 Dx3] 26)) ((W.alloc (.cells #[.slice Da0 DL0.length Dc0, .slice Da1 DL1.length Dc1, .slice Da2 DL2.length Dc2, .int .i64 Dx3] 26)).alloc (.cells #[.int .i64 Fx0, .int .i64 Fx1] 43)) := (Below.refl _ _).alloc (Nat.le_refl _) _
  have PD_2 := Lib.hid (PDh_1.out.call hbA)
  have HD_2 := Lib.hid (gmv R_Config_ok HD_1.out hbA)
  have HB2 := Lib.hid (HB1.out.trans ((hbA).mono HB1.out.size))
  have HZ2 := Lib.hid ((hbA).size)
  clear PDh_1 HD_1 HB1
  have PF_2 := Blk.new (W.alloc (.cells #[.slice Da0 DL0.length Dc0, .slice Da1 DL1.length Dc1, .slice Da2 DL2.length Dc2, .int .i64 Dx3] 26)) 43 #[.int .i64 Fx0, .int .i64 Fx1]
  have PFh_2 := Lib.hid PF_2
  clear PF_2 hbA
  have hq := PFh_2.out
  simp only [World.size_alloc] at hq
  clear PFh_2
  have PFh_2 := Lib.hid hq
  clear hq
  have hbA : Below ((W.alloc (.cells #[.slice Da0 DL0.length Dc0, .slice Da1 DL1.length Dc1, .slice Da2 DL2.length Dc2, .int .i64 Dx3] 26)).alloc (.cells #[.int .i64 Fx0, .int .i64 Fx1] 43)).heap.size ((W.alloc (.cells #[.slice Da0 DL0.length Dc0, .slice Da1 DL1.length Dc1, .slice Da2 DL2.length Dc2, .int .i64 Dx3] 26)).alloc (.cells #[.int .i64 Fx0, .int .i64 Fx1] 43)) (((W.alloc (.cells #[.slice Da0 DL0.length Dc0, .slice Da1 DL1.length Dc1, .slice Da2 DL2.length Dc2, .int .i64 Dx3] 26)).alloc (.cells #[.int .i64 Fx0, .int .i64 Fx1] 43)).alloc (.cells #[.int .i64 Kx0, .int .i64 Kx1] 43)) := (Below.refl _ _).alloc (Nat.le_refl _) _
  have PD_3 := Lib.hid (PD_2.out.call hbA)
  have PF_3 := Lib.hid (PFh_2.out.call hbA)
  have HD_3 := Lib.hid (gmv R_Config_ok HD_2.out hbA)
  have HB3 := Lib.hid (HB2.out.trans ((hbA).mono HB2.out.size))
  have HZ3 := Lib.hid ((hbA).size)
  clear PD_2 PFh_2 HD_2 HB2
  have PK_3 := Blk.new ((W.alloc (.cells #[.slice Da0 DL0.length Dc0, .slice Da1 DL1.length Dc1, .slice Da2 DL2.length Dc2, .int .i64 Dx3] 26)).alloc (.cells #[.int .i64 Fx0, .int .i64 Fx1] 43)) 43 #[.int .i64 Kx0, .int .i64 Kx1]
  have PKh_3 := Lib.hid PK_3
  clear PK_3 hbA
  have hq := PKh_3.out
  simp only [World.size_alloc] at hq
  clear PKh_3
  have PKh_3 := Lib.hid hq
  clear hq
  by_cases hsz : R_Config.sz (DL0, DL1, DL2, Dx3) ≤ 1048576
  rotate_left
  · skip
    go_enter Try.func7, Try.ntmps7
    have qPD_0 := PD_3.out.at_ 0 rfl
    have qPD_1 := PD_3.out.at_ 1 rfl
    have qPD_2 := PD_3.out.at_ 2 rfl
    have qPD_3 := PD_3.out.at_ 3 rfl
    have qPF_0 := PF_3.out.at_ 0 rfl
    have qPF_1 := PF_3.out.at_ 1 rfl
    have qPK_0 := PKh_3.out.at_ 0 rfl
    have qPK_1 := PKh_3.out.at_ 1 rfl
    go_wp2_with fail
    refine (gsz_Config (by omega) (by omega) HD_3.out).mono ?_
    intro e w4 h
    obtain ⟨rfl, hb⟩ := szC_elim h
    rw [szR_no (by omega)]
    clear qPD_0 qPD_1 qPD_2 qPD_3 qPF_0 qPF_1 qPK_0 qPK_1
    have PD_4 := Lib.hid (PD_3.out.call hb)
    have PF_4 := Lib.hid (PF_3.out.call hb)
    have PK_4 := Lib.hid (PKh_3.out.call hb)
    have HD_4 := Lib.hid (gmv R_Config_ok HD_3.out hb)
    have HB4 := Lib.hid (HB3.out.trans ((hb).mono HB3.out.size))
    have HZ4 := Lib.hid ((hb).size)
    clear PD_3 PF_3 PKh_3 HD_3 HB3
    clear h hb
    go_wp2
    go_ret
    exact ⟨rfl, HB4.out⟩
  have HSZD := Lib.hid hsz
  have HSAD := Lib.hid (cvs_Config hsz)
  obtain ⟨m, hm⟩ : ∃ m : Nat, R_Config.sz (DL0, DL1, DL2, Dx3) = m := ⟨_, rfl⟩
  have HM := Lib.hid hm
  rw [hm] at hsz
  clear hm
  have hlt1 : decide ((1048576 : Int) - (m : Int) < 0) = false := decide_eq_false (by omega)
  obtain ⟨dR, hD⟩ : ∃ d, pairG (DL0, DL1, DL2, Dx3) Fx0 Fx1 Kx0 Kx1 = d := ⟨_, rfl⟩
  have HDD := Lib.hid hD
  clear hD
  go_enter Try.func7, Try.ntmps7
  have qPD_0 := PD_3.out.at_ 0 rfl
  have qPD_1 := PD_3.out.at_ 1 rfl
  have qPD_2 := PD_3.out.at_ 2 rfl
  have qPD_3 := PD_3.out.at_ 3 rfl
  have qPF_0 := PF_3.out.at_ 0 rfl
  have qPF_1 := PF_3.out.at_ 1 rfl
  have qPK_0 := PKh_3.out.at_ 0 rfl
  have qPK_1 := PKh_3.out.at_ 1 rfl
  go_wp2_with fail
  refine (gsz_Config (by omega) (by omega) HD_3.out).mono ?_
  intro e w4 h
  obtain ⟨rfl, hb⟩ := szC_elim h
  rw [HM.out, szR_yes (by omega)]
  clear qPD_0 qPD_1 qPD_2 qPD_3 qPF_0 qPF_1 qPK_0 qPK_1
  have PD_4 := Lib.hid (PD_3.out.call hb)
  have PF_4 := Lib.hid (PF_3.out.call hb)
  have PK_4 := Lib.hid (PKh_3.out.call hb)
  have HD_4 := Lib.hid (gmv R_Config_ok HD_3.out hb)
  have HB4 := Lib.hid (HB3.out.trans ((hb).mono HB3.out.size))
  have HZ4 := Lib.hid ((hb).size)
  clear PD_3 PF_3 PKh_3 HD_3 HB3
  clear hsz
  clear h hb
  have HPL := Lib.hid (PK_4.out.lt)
  have hbb : (dR != dR) = false := by simp
  go_wp2_with fail
  refine wp_region_held_drew (S := (fun V => Below (w4).heap.size (w4) V)) (by kernel_rfl) ((Below.refl _ _).drew) (fun hHeld => ?_)
  refine tk 0 hHeld ?_ (hy := fun w hSw => by (try dsimp only at hSw); have k0 := (hSw.cell (p := ⟨W.heap.size, 0, none⟩) PD_4.out.lt).trans (PD_4.out.at_ 0 rfl); have k1 := (hSw.cell (p := ⟨W.heap.size, 1, none⟩) PD_4.out.lt).trans (PD_4.out.at_ 1 rfl); have k2 := (hSw.cell (p := ⟨W.heap.size, 2, none⟩) PD_4.out.lt).trans (PD_4.out.at_ 2 rfl); have k3 := (hSw.cell (p := ⟨W.heap.size, 3, none⟩) PD_4.out.lt).trans (PD_4.out.at_ 3 rfl); clear hSw; go_simp; try with_reducible rfl)
  refine tk 2 hHeld ?_ (hy := fun w hSw => by (try dsimp only at hSw); have k0 := (hSw.cell (p := ⟨(W.heap.size + 1), 0, none⟩) PF_4.out.lt).trans (PF_4.out.at_ 0 rfl); have k1 := (hSw.cell (p := ⟨(W.heap.size + 1), 1, none⟩) PF_4.out.lt).trans (PF_4.out.at_ 1 rfl); clear hSw; go_simp; try with_reducible rfl)
  refine tk 4 hHeld ?_ (hy := fun w hSw => by (try dsimp only at hSw); have k0 := (hSw.cell (p := ⟨(W.heap.size + 1 + 1), 0, none⟩) PK_4.out.lt).trans (PK_4.out.at_ 0 rfl); have k1 := (hSw.cell (p := ⟨(W.heap.size + 1 + 1), 1, none⟩) PK_4.out.lt).trans (PK_4.out.at_ 1 rfl); clear hSw; go_simp; try with_reducible rfl)
  refine rd1 1 (fun K hK => ?_)
  go_simp
  go_at_call 10
  refine (gto_Config HSZD.out (gmv R_Config_ok HD_4.out hHeld)).mono ?_
  intro e w401 h
  obtain ⟨us, rfl, hu, hb⟩ := newV_elim h
  obtain ⟨aD0401, cD0401, aD1401, cD1401, aD2401, cD2401, rfl, hu⟩ := owc_Config hu
  have ND := Lib.hid (owG_new hu)
  clear h hu
  refine hK.out _ _ (hHeld.trans (hb.mono hHeld.size)) (fun hHeld => ?_)
  clear hK K hb
  refine rd1 3 (fun K hK => ?_)
  go_simp
  go_at_call 20
  refine (to_Label (by simp only [R_Label, Pr, I, atom] <;> omega)).mono ?_
  intro e w402 h
  obtain ⟨us, rfl, hu, hb⟩ := newV_elim h
  obtain rfl := ow0_Label hu
  have ND := Lib.hid (ND.out.mv R_Config_ok hb)
  clear h hu
  refine hK.out _ _ (hHeld.trans (hb.mono hHeld.size)) (fun hHeld => ?_)
  clear hK K hb
  refine rd1 5 (fun K hK => ?_)
  go_simp
  go_at_call 20
  refine (to_Label (by simp only [R_Label, Pr, I, atom] <;> omega)).mono ?_
  intro e w403 h
  obtain ⟨us, rfl, hu, hb⟩ := newV_elim h
  obtain rfl := ow0_Label hu
  have ND := Lib.hid (ND.out.mv R_Config_ok hb)
  clear h hu
  refine hK.out _ _ (hHeld.trans (hb.mono hHeld.size)) (fun hHeld => ?_)
  clear hK K hb
  refine rd1 6 (fun K hK => ?_)
  go_simp
  go_at_call 27
  refine (gpair_spec (ND.out.rd R_Config_ok)).mono ?_
  intro e w404 h
  rw [HDD.out] at h
  obtain ⟨rfl, hb⟩ := isI_elim h
  clear h
  refine hK.out _ _ (hHeld.trans (hb.mono hHeld.size)) (fun hHeld => ?_)
  clear hK K hb
  refine tk 7 hHeld ?_
  refine rd0 ?_
  have HF := Lib.hid hHeld
  clear hHeld
  have hF := HF.out
  have PD_5 := Lib.hid (PD_4.out.call hF)
  have PF_5 := Lib.hid (PF_4.out.call hF)
  have PK_5 := Lib.hid (PK_4.out.call hF)
  have HD_5 := Lib.hid (gmv R_Config_ok HD_4.out hF)
  have HB5 := Lib.hid (HB4.out.trans ((hF).mono HB4.out.size))
  have HZ5 := Lib.hid ((hF).size)
  clear PD_4 PF_4 PK_4 HD_4 HB4
  clear HF hF
  clear ND
  have qPD_0 := PD_5.out.at_ 0 rfl
  have qPD_1 := PD_5.out.at_ 1 rfl
  have qPD_2 := PD_5.out.at_ 2 rfl
  have qPD_3 := PD_5.out.at_ 3 rfl
  go_wp2_with fail
  refine (gto_Config HSZD.out HD_5.out).mono ?_
  intro e w6 h
  obtain ⟨us, rfl, hu, hb⟩ := newV_elim h
  obtain ⟨aD06, cD06, aD16, cD16, aD26, cD26, rfl, hu⟩ := owc_Config hu
  clear qPD_0 qPD_1 qPD_2 qPD_3
  have PD_6 := Lib.hid (PD_5.out.call hb)
  have PF_6 := Lib.hid (PF_5.out.call hb)
  have PK_6 := Lib.hid (PK_5.out.call hb)
  have HD_6 := Lib.hid (gmv R_Config_ok HD_5.out hb)
  have HB6 := Lib.hid (HB5.out.trans ((hb).mono HB5.out.size))
  have HZ6 := Lib.hid ((hb).size)
  clear PD_5 PF_5 PK_5 HD_5 HB5
  have X_6 := Lib.hid (owG_new hu)
  have HSX := Lib.hid (fun k (hk : Rg w404.heap.size w6.heap.size k) => hk)
  clear hu
  clear h hb
  have hbA : Below (w6).heap.size (w6) (w6.alloc (.cells #[.slice aD06 DL0.length cD06, .slice aD16 DL1.length cD16, .slice aD26 DL2.length cD26, .int .i64 Dx3] 33)) := (Below.refl _ _).alloc (Nat.le_refl _) _
  have PD_7 := Lib.hid (PD_6.out.call hbA)
  have PF_7 := Lib.hid (PF_6.out.call hbA)
  have PK_7 := Lib.hid (PK_6.out.call hbA)
  have HD_7 := Lib.hid (gmv R_Config_ok HD_6.out hbA)
  have X_7 := Lib.hid (X_6.out.mv R_Config_ok hbA)
  have HB7 := Lib.hid (HB6.out.trans ((hbA).mono HB6.out.size))
  have HZ7 := Lib.hid ((hbA).size)
  clear PD_6 PF_6 PK_6 HD_6 X_6 HB6
  have BX_7 := Blk.new (w6) 33 #[.slice aD06 DL0.length cD06, .slice aD16 DL1.length cD16, .slice aD26 DL2.length cD26, .int .i64 Dx3]
  have BXh_7 := Lib.hid BX_7
  clear BX_7 hbA
  have HZ8 := Lib.hid ((show (w6.alloc (.cells #[.slice aD06 DL0.length cD06, .slice aD16 DL1.length cD16, .slice aD26 DL2.length cD26, .int .i64 Dx3] 33)).heap.size = w6.heap.size + 1 by simp))
  obtain ⟨wz7, hwz7⟩ : ∃ w, w = w6.alloc (.cells #[.slice aD06 DL0.length cD06, .slice aD16 DL1.length cD16, .slice aD26 DL2.length cD26, .int .i64 Dx3] 33) := ⟨_, rfl⟩
  rw [← hwz7] at PD_7 PF_7 PK_7 BXh_7 HD_7 X_7 HB7 HZ7 HZ8
  go_wp2_with fail
  rw [← hwz7]
  clear hwz7
  refine wp_region_held_drew (S := (fun V => Below (wz7).heap.size (wz7) V)) (by kernel_rfl) ((Below.refl _ _).drew) (fun hHeld => ?_)
  refine tk 0 hHeld ?_ (hy := fun w hSw => by (try dsimp only at hSw); have k0 := (hSw.cell (p := ⟨w6.heap.size, 0, none⟩) BXh_7.out.lt).trans (BXh_7.out.at_ 0 rfl); have k1 := (hSw.cell (p := ⟨w6.heap.size, 1, none⟩) BXh_7.out.lt).trans (BXh_7.out.at_ 1 rfl); have k2 := (hSw.cell (p := ⟨w6.heap.size, 2, none⟩) BXh_7.out.lt).trans (BXh_7.out.at_ 2 rfl); have k3 := (hSw.cell (p := ⟨w6.heap.size, 3, none⟩) BXh_7.out.lt).trans (BXh_7.out.at_ 3 rfl); clear hSw; go_simp; try with_reducible rfl)
  refine tk 1 hHeld ?_ (hy := fun w hSw => by (try dsimp only at hSw); have k0 := (hSw.cell (p := ⟨(W.heap.size + 1), 0, none⟩) PF_7.out.lt).trans (PF_7.out.at_ 0 rfl); have k1 := (hSw.cell (p := ⟨(W.heap.size + 1), 1, none⟩) PF_7.out.lt).trans (PF_7.out.at_ 1 rfl); clear hSw; go_simp; try with_reducible rfl)
  refine tk 3 hHeld ?_ (hy := fun w hSw => by (try dsimp only at hSw); have k0 := (hSw.cell (p := ⟨(W.heap.size + 1 + 1), 0, none⟩) PK_7.out.lt).trans (PK_7.out.at_ 0 rfl); have k1 := (hSw.cell (p := ⟨(W.heap.size + 1 + 1), 1, none⟩) PK_7.out.lt).trans (PK_7.out.at_ 1 rfl); clear hSw; go_simp; try with_reducible rfl)
  refine rd1 2 (fun K hK => ?_)
  go_simp
  go_at_call 20
  refine (to_Label (by simp only [R_Label, Pr, I, atom] <;> omega)).mono ?_
  intro e w701 h
  obtain ⟨us, rfl, hu, hb⟩ := newV_elim h
  obtain rfl := ow0_Label hu
  clear h hu
  refine hK.out _ _ (hHeld.trans (hb.mono hHeld.size)) (fun hHeld => ?_)
  clear hK K hb
  refine rd1 4 (fun K hK => ?_)
  go_simp
  go_at_call 20
  refine (to_Label (by simp only [R_Label, Pr, I, atom] <;> omega)).mono ?_
  intro e w702 h
  obtain ⟨us, rfl, hu, hb⟩ := newV_elim h
  obtain rfl := ow0_Label hu
  clear h hu
  refine hK.out _ _ (hHeld.trans (hb.mono hHeld.size)) (fun hHeld => ?_)
  clear hK K hb
  refine rd1 5 (fun K hK => ?_)
  go_simp
  go_at_call 28
  refine (gpair_impl (gmv R_Config_ok (X_7.out.rd R_Config_ok) hHeld)).mono ?_
  intro e w703 h
  rw [HDD.out] at h
  obtain ⟨rfl, hb⟩ := isI_elim h
  clear h
  refine hK.out _ _ (hHeld.trans (hb.mono hHeld.size)) (fun hHeld => ?_)
  clear hK K hb
  refine tk 6 hHeld ?_
  refine rd0 ?_
  have HF := Lib.hid hHeld
  clear hHeld
  have hF := HF.out
  have PD_8 := Lib.hid (PD_7.out.call hF)
  have PF_8 := Lib.hid (PF_7.out.call hF)
  have PK_8 := Lib.hid (PK_7.out.call hF)
  have BX_8 := Lib.hid (BXh_7.out.call hF)
  have HD_8 := Lib.hid (gmv R_Config_ok HD_7.out hF)
  have X_8 := Lib.hid (X_7.out.mv R_Config_ok hF)
  have HB8 := Lib.hid (HB7.out.trans ((hF).mono HB7.out.size))
  have HZ9 := Lib.hid ((hF).size)
  clear PD_7 PF_7 PK_7 BXh_7 HD_7 X_7 HB7
  clear HF hF
  go_wp2_with fail
  refine wp_region_held_drew (S := (fun V => Below (w703).heap.size (w703) V)) (by kernel_rfl) ((Below.refl _ _).drew) (fun hHeld => ?_)
  refine tk 0 hHeld ?_ (hy := fun w hSw => by (try dsimp only at hSw); have k0 := (hSw.cell (p := ⟨w6.heap.size, 0, none⟩) BX_8.out.lt).trans (BX_8.out.at_ 0 rfl); have k1 := (hSw.cell (p := ⟨w6.heap.size, 1, none⟩) BX_8.out.lt).trans (BX_8.out.at_ 1 rfl); have k2 := (hSw.cell (p := ⟨w6.heap.size, 2, none⟩) BX_8.out.lt).trans (BX_8.out.at_ 2 rfl); have k3 := (hSw.cell (p := ⟨w6.heap.size, 3, none⟩) BX_8.out.lt).trans (BX_8.out.at_ 3 rfl); clear hSw; go_simp; try with_reducible rfl)
  refine tk 1 hHeld ?_ (hy := fun w hSw => by (try dsimp only at hSw); have k0 := (hSw.cell (p := ⟨W.heap.size, 0, none⟩) PD_8.out.lt).trans (PD_8.out.at_ 0 rfl); have k1 := (hSw.cell (p := ⟨W.heap.size, 1, none⟩) PD_8.out.lt).trans (PD_8.out.at_ 1 rfl); have k2 := (hSw.cell (p := ⟨W.heap.size, 2, none⟩) PD_8.out.lt).trans (PD_8.out.at_ 2 rfl); have k3 := (hSw.cell (p := ⟨W.heap.size, 3, none⟩) PD_8.out.lt).trans (PD_8.out.at_ 3 rfl); clear hSw; go_simp; try with_reducible rfl)
  refine rd1 2 (fun K hK => ?_)
  go_simp
  go_at_call 10
  refine (gto_Config HSZD.out (gmv R_Config_ok HD_8.out hHeld)).mono ?_
  intro e w801 h
  obtain ⟨us, rfl, hu, hb⟩ := newV_elim h
  obtain ⟨aD0801, cD0801, aD1801, cD1801, aD2801, cD2801, rfl, hu⟩ := owc_Config hu
  have NZ := Lib.hid (owG_new hu)
  clear h hu
  refine hK.out _ _ (hHeld.trans (hb.mono hHeld.size)) (fun hHeld => ?_)
  clear hK K hb
  refine rd1 3 (fun K hK => ?_)
  go_simp
  go_at_call 12
  refine (geq_Config (gmv R_Config_ok (X_8.out.rd R_Config_ok) hHeld) (NZ.out.rd R_Config_ok)).mono ?_
  intro e w802 h
  obtain ⟨rfl, hb⟩ := isB_elim h
  clear h
  refine hK.out _ _ (hHeld.trans (hb.mono hHeld.size)) (fun hHeld => ?_)
  clear hK K hb
  refine tk 4 hHeld ?_
  refine rd0 ?_
  have HF := Lib.hid hHeld
  clear hHeld
  have hF := HF.out
  have PD_9 := Lib.hid (PD_8.out.call hF)
  have PF_9 := Lib.hid (PF_8.out.call hF)
  have PK_9 := Lib.hid (PK_8.out.call hF)
  have BX_9 := Lib.hid (BX_8.out.call hF)
  have HD_9 := Lib.hid (gmv R_Config_ok HD_8.out hF)
  have X_9 := Lib.hid (X_8.out.mv R_Config_ok hF)
  have HB9 := Lib.hid (HB8.out.trans ((hF).mono HB8.out.size))
  have HZ10 := Lib.hid ((hF).size)
  clear PD_8 PF_8 PK_8 BX_8 HD_8 X_8 HB8
  clear HF hF NZ
  go_wp2
  go_ret
  exact ⟨rfl, HB9.out⟩
end Go.Proofs.Ytdghcjlgmajffaa.RepC
