/- Of this claim's texts the part 23: MlGv MlW1. -/
import Derived.Test.YtlgflddljhldhaaPM21
import Derived.Test.YtlgflddljhldhaaPM22
section
namespace Go.Proofs.Ytlgflddljhldhaa.RepC
open Go.RowKit RowC ValC SpanC KeptC CfC
set_option linter.unusedVariables false
set_option linter.unusedSimpArgs false
theorem gmail_spec {d : D_Config} {m : D_Mail} {cs ds : List Value} {W : World} (h : R_Config.rd W W.heap.size d cs) (k : R_Mail.rd W W.heap.size m ds) : Calls Try.prog 7 #[.agg cs.toArray, .agg ds.toArray] W (IsB (mailB d m) W) := by
  obtain ⟨C, P, Q, hf⟩ := d
  obtain ⟨a0, c0, a1, c1, a2, c2, rfl, k0, k1, k2⟩ := rd_Config h
  obtain ⟨a3, c3, rfl, k3⟩ := rd_Mail k
  exact mail_spec k0 k1 k2 k3
theorem gmail_impl {d : D_Config} {m : D_Mail} {cs ds : List Value} {W : World} (h : R_Config.rd W W.heap.size d cs) (k : R_Mail.rd W W.heap.size m ds) : Calls Try.prog 10 #[.agg cs.toArray, .agg ds.toArray] W (IsB (mailB d m) W) := by
  obtain ⟨C, P, Q, hf⟩ := d
  obtain ⟨a0, c0, a1, c1, a2, c2, rfl, k0, k1, k2⟩ := rd_Config h
  obtain ⟨a3, c3, rfl, k3⟩ := rd_Mail k
  exact mail_impl k0 k1 k2 k3
theorem cm_i64s : ∀ L : List Int, sumL I.cm L = L.length
  | [] => rfl
  | x :: xs => by
    simp only [sumL, cm_i64s xs, List.length_cons]
    have : I.cm x = 1 := rfl
    omega
theorem cm_notes : ∀ L : List D_Note, sumL R_Note.cm L = 2 * L.length
  | [] => rfl
  | x :: xs => by
    simp only [sumL, cm_notes xs, List.length_cons]
    have : R_Note.cm x = 2 := rfl
    omega
theorem cm_Box (b : D_Box) : R_Box.cm b = b.1.length + b.2.1.length + 2 * b.2.2.length := by
  show sumL I.cm b.1 + (sumL I.cm b.2.1 + sumL R_Note.cm b.2.2) = _
  rw [cm_i64s, cm_i64s, cm_notes]
  omega
theorem cm_boxes : ∀ L : List D_Box, sumL R_Box.cm L ≤ 2 * R_Mail.sz L
  | [] => Nat.zero_le _
  | x :: xs => by
    have h := cm_boxes xs
    have e : R_Mail.sz (x :: xs) = (x :: xs).length + (R_Box.sz x + sumL R_Box.sz xs) := rfl
    have e2 : R_Mail.sz xs = xs.length + sumL R_Box.sz xs := rfl
    have e3 : R_Box.sz x = (x.1.length + sumL I.sz x.1) + ((x.2.1.length + sumL I.sz x.2.1) + (x.2.2.length + sumL R_Note.sz x.2.2)) := rfl
    have e4 := cm_Box x
    simp only [sumL, List.length_cons] at e ⊢
    omega
theorem cvs_Mail {m : D_Mail} (h : R_Mail.sz m ≤ 1048576) : R_Mail.cv m ≤ 8388608 := by
  have h1 := cm_boxes m
  show sumL R_Box.cm m ≤ _
  omega
end Go.Proofs.Ytlgflddljhldhaa.RepC
end
section
namespace Go.Proofs.Ytlgflddljhldhaa.RepC
open Go.RowKit RowC ValC SpanC KeptC CfC
set_option linter.unusedVariables false
set_option linter.unusedSimpArgs false
set_option maxRecDepth 100000 in
set_option maxHeartbeats 4000000 in
theorem law_mailright {DL0 : List (List (D_Label))} {DL1 : List (D_Pair)} {DL2 : List (D_Quota)} {Dx3 : Int} {Da0 : Option Addr} {Dc0 : Nat} {Da1 : Option Addr} {Dc1 : Nat} {Da2 : Option Addr} {Dc2 : Nat} {EL0 : List (D_Box)} {Ea0 : Option Addr} {Ec0 : Nat} {W : World} (hD : R_Config.rd W W.heap.size (DL0, DL1, DL2, Dx3) [.slice Da0 DL0.length Dc0, .slice Da1 DL1.length Dc1, .slice Da2 DL2.length Dc2, .int .i64 Dx3]) (hE : R_Mail.rd W W.heap.size EL0 [.slice Ea0 EL0.length Ec0]) :
    Calls Try.prog 3 #[.agg #[.slice Da0 DL0.length Dc0, .slice Da1 DL1.length Dc1, .slice Da2 DL2.length Dc2, .int .i64 Dx3], .agg #[.slice Ea0 EL0.length Ec0]] W fun e w' => e = .returned (.bool true) ∧ Below W.heap.size W w' := by
  have HD := Lib.hid hD
  have HD0 := Lib.hid hD
  clear hD
  have HE := Lib.hid hE
  have HE0 := Lib.hid hE
  clear hE
  have hbA : Below (W).heap.size (W) (W.alloc (.cells #[.slice Da0 DL0.length Dc0, .slice Da1 DL1.length Dc1, .slice Da2 DL2.length Dc2, .int .i64 Dx3] 26)) := (Below.refl _ _).alloc (Nat.le_refl _) _
  have HD_1 := Lib.hid (gmv R_Config_ok HD.out hbA)
  have HE_1 := Lib.hid (gmv R_Mail_ok HE.out hbA)
  have HB1 := Lib.hid (show Below W.heap.size W (W.alloc (.cells #[.slice Da0 DL0.length Dc0, .slice Da1 DL1.length Dc1, .slice Da2 DL2.length Dc2, .int .i64 Dx3] 26)) from hbA)
  have HZ1 := Lib.hid ((hbA).size)
  clear HD HE
  have PD_1 := Blk.new (W) 26 #[.slice Da0 DL0.length Dc0, .slice Da1 DL1.length Dc1, .slice Da2 DL2.length Dc2, .int .i64 Dx3]
  have PDh_1 := Lib.hid PD_1
  clear PD_1 hbA
  have hbA : Below (W.alloc (.cells #[.slice Da0 DL0.length Dc0, .slice Da1 DL1.length Dc1, .slice Da2 DL2.length Dc2, .int .i64 Dx3] 26)).heap.size (W.alloc (.cells #[.slice Da0 DL0.length Dc0, .slice Da1 DL1.length Dc1, .slice Da2 DL2.length Dc2, .int .i64 Dx3] 26)) ((W.alloc (.cells #[.slice Da0 DL0.length Dc0, .slice Da1 DL1.length Dc1, .slice Da2 DL2.length Dc2, .int .i64 Dx3] 26)).alloc (.cells #[.slice Ea0 EL0.length Ec0] 29)) := (Below.refl _ _).alloc (Nat.le_refl _) _
  have PD_2 := Lib.hid (PDh_1.out.call hbA)
  have HD_2 := Lib.hid (gmv R_Config_ok HD_1.out hbA)
  have HE_2 := Lib.hid (gmv R_Mail_ok HE_1.out hbA)
  have HB2 := Lib.hid (HB1.out.trans ((hbA).mono HB1.out.size))
  have HZ2 := Lib.hid ((hbA).size)
  clear PDh_1 HD_1 HE_1 HB1
  have PE_2 := Blk.new (W.alloc (.cells #[.slice Da0 DL0.length Dc0, .slice Da1 DL1.length Dc1, .slice Da2 DL2.length Dc2, .int .i64 Dx3] 26)) 29 #[.slice Ea0 EL0.length Ec0]
  have PEh_2 := Lib.hid PE_2
  clear PE_2 hbA
  have hq := PEh_2.out
  simp only [World.size_alloc] at hq
  clear PEh_2
  have PEh_2 := Lib.hid hq
  clear hq
  by_cases hszD : ((R_Config.sz (DL0, DL1, DL2, Dx3) : Nat) : Int) ≤ (1048576 : Int)
  rotate_left
  · skip
    go_enter Try.func3, Try.ntmps3
    have qPD_0 := PD_2.out.at_ 0 rfl
    have qPD_1 := PD_2.out.at_ 1 rfl
    have qPD_2 := PD_2.out.at_ 2 rfl
    have qPD_3 := PD_2.out.at_ 3 rfl
    have qPE_0 := PEh_2.out.at_ 0 rfl
    go_wp2_with fail
    refine (gsz_Config (l := (1048576 : Int)) (by omega) (by omega) HD_2.out).mono ?_
    intro e w3 h
    obtain ⟨rfl, hb⟩ := szC_elim h
    rw [szR_no (by omega)]
    clear qPD_0 qPD_1 qPD_2 qPD_3 qPE_0
    have PD_3 := Lib.hid (PD_2.out.call hb)
    have PE_3 := Lib.hid (PEh_2.out.call hb)
    have HD_3 := Lib.hid (gmv R_Config_ok HD_2.out hb)
    have HE_3 := Lib.hid (gmv R_Mail_ok HE_2.out hb)
    have HB3 := Lib.hid (HB2.out.trans ((hb).mono HB2.out.size))
    have HZ3 := Lib.hid ((hb).size)
    clear PD_2 PEh_2 HD_2 HE_2 HB2
    clear h hb
    go_wp2
    go_ret
    exact ⟨rfl, HB3.out⟩
  have hswD : R_Config.sz (DL0, DL1, DL2, Dx3) ≤ 1048576 := by omega
  have HSZD := Lib.hid hswD
  have HSAD := Lib.hid (cvs_Config hswD)
  clear hswD
  obtain ⟨mD, hmD⟩ : ∃ m : Nat, R_Config.sz (DL0, DL1, DL2, Dx3) = m := ⟨_, rfl⟩
  have HMD := Lib.hid hmD
  rw [hmD] at hszD
  clear hmD
  have hltD : decide ((1048576 : Int) - (mD : Int) < 0) = false := decide_eq_false (by omega)
  by_cases hszE : ((R_Mail.sz EL0 : Nat) : Int) ≤ (1048576 : Int) - (mD : Int)
  rotate_left
  · skip
    go_enter Try.func3, Try.ntmps3
    have qPD_0 := PD_2.out.at_ 0 rfl
    have qPD_1 := PD_2.out.at_ 1 rfl
    have qPD_2 := PD_2.out.at_ 2 rfl
    have qPD_3 := PD_2.out.at_ 3 rfl
    have qPE_0 := PEh_2.out.at_ 0 rfl
    go_wp2_with fail
    refine (gsz_Config (l := (1048576 : Int)) (by omega) (by omega) HD_2.out).mono ?_
    intro e w3 h
    obtain ⟨rfl, hb⟩ := szC_elim h
    rw [HMD.out, szR_yes (by omega)]
    clear qPD_0 qPD_1 qPD_2 qPD_3 qPE_0
    have PD_3 := Lib.hid (PD_2.out.call hb)
    have PE_3 := Lib.hid (PEh_2.out.call hb)
    have HD_3 := Lib.hid (gmv R_Config_ok HD_2.out hb)
    have HE_3 := Lib.hid (gmv R_Mail_ok HE_2.out hb)
    have HB3 := Lib.hid (HB2.out.trans ((hb).mono HB2.out.size))
    have HZ3 := Lib.hid ((hb).size)
    clear PD_2 PEh_2 HD_2 HE_2 HB2
    clear h hb
    have qPD_0 := PD_3.out.at_ 0 rfl
    have qPD_1 := PD_3.out.at_ 1 rfl
    have qPD_2 := PD_3.out.at_ 2 rfl
    have qPD_3 := PD_3.out.at_ 3 rfl
    have qPE_0 := PE_3.out.at_ 0 rfl
    go_wp2_with fail
    refine (gsz_Mail (l := (1048576 : Int) - (mD : Int)) (by omega) (by omega) HE_3.out).mono ?_
    intro e w4 h
    obtain ⟨rfl, hb⟩ := szC_elim h
    rw [szR_no (by omega)]
    clear qPD_0 qPD_1 qPD_2 qPD_3 qPE_0
    have PD_4 := Lib.hid (PD_3.out.call hb)
    have PE_4 := Lib.hid (PE_3.out.call hb)
    have HD_4 := Lib.hid (gmv R_Config_ok HD_3.out hb)
    have HE_4 := Lib.hid (gmv R_Mail_ok HE_3.out hb)
    have HB4 := Lib.hid (HB3.out.trans ((hb).mono HB3.out.size))
    have HZ4 := Lib.hid ((hb).size)
    clear PD_3 PE_3 HD_3 HE_3 HB3
    clear h hb
    go_wp2
    go_ret
    exact ⟨rfl, HB4.out⟩
  have hswE : R_Mail.sz EL0 ≤ 1048576 := by omega
  have HSZE := Lib.hid hswE
  have HSAE := Lib.hid (cvs_Mail hswE)
  clear hswE
  obtain ⟨mE, hmE⟩ : ∃ m : Nat, R_Mail.sz EL0 = m := ⟨_, rfl⟩
  have HME := Lib.hid hmE
  rw [hmE] at hszE
  clear hmE
  have hltE : decide ((1048576 : Int) - (mD : Int) - (mE : Int) < 0) = false := decide_eq_false (by omega)
  obtain ⟨dR, hD⟩ : ∃ d, mailB (DL0, DL1, DL2, Dx3) EL0 = d := ⟨_, rfl⟩
  have HDD := Lib.hid hD
  clear hD
  go_enter Try.func3, Try.ntmps3
  have qPD_0 := PD_2.out.at_ 0 rfl
  have qPD_1 := PD_2.out.at_ 1 rfl
  have qPD_2 := PD_2.out.at_ 2 rfl
  have qPD_3 := PD_2.out.at_ 3 rfl
  have qPE_0 := PEh_2.out.at_ 0 rfl
  go_wp2_with fail
  refine (gsz_Config (l := (1048576 : Int)) (by omega) (by omega) HD_2.out).mono ?_
  intro e w3 h
  obtain ⟨rfl, hb⟩ := szC_elim h
  rw [HMD.out, szR_yes (by omega)]
  clear qPD_0 qPD_1 qPD_2 qPD_3 qPE_0
  have PD_3 := Lib.hid (PD_2.out.call hb)
  have PE_3 := Lib.hid (PEh_2.out.call hb)
  have HD_3 := Lib.hid (gmv R_Config_ok HD_2.out hb)
  have HE_3 := Lib.hid (gmv R_Mail_ok HE_2.out hb)
  have HB3 := Lib.hid (HB2.out.trans ((hb).mono HB2.out.size))
  have HZ3 := Lib.hid ((hb).size)
  clear PD_2 PEh_2 HD_2 HE_2 HB2
  clear h hb
  have qPD_0 := PD_3.out.at_ 0 rfl
  have qPD_1 := PD_3.out.at_ 1 rfl
  have qPD_2 := PD_3.out.at_ 2 rfl
  have qPD_3 := PD_3.out.at_ 3 rfl
  have qPE_0 := PE_3.out.at_ 0 rfl
  go_wp2_with fail
  refine (gsz_Mail (l := (1048576 : Int) - (mD : Int)) (by omega) (by omega) HE_3.out).mono ?_
  intro e w4 h
  obtain ⟨rfl, hb⟩ := szC_elim h
  rw [HME.out, szR_yes (by omega)]
  clear qPD_0 qPD_1 qPD_2 qPD_3 qPE_0
  have PD_4 := Lib.hid (PD_3.out.call hb)
  have PE_4 := Lib.hid (PE_3.out.call hb)
  have HD_4 := Lib.hid (gmv R_Config_ok HD_3.out hb)
  have HE_4 := Lib.hid (gmv R_Mail_ok HE_3.out hb)
  have HB4 := Lib.hid (HB3.out.trans ((hb).mono HB3.out.size))
  have HZ4 := Lib.hid ((hb).size)
  clear PD_3 PE_3 HD_3 HE_3 HB3
  clear h hb
  have qPD_0 := PD_4.out.at_ 0 rfl
  have qPD_1 := PD_4.out.at_ 1 rfl
  have qPD_2 := PD_4.out.at_ 2 rfl
  have qPD_3 := PD_4.out.at_ 3 rfl
  have qPE_0 := PE_4.out.at_ 0 rfl
  clear hszD hszE
  clear qPD_0 qPD_1 qPD_2 qPD_3 qPE_0
  have hbb : (dR != dR) = false := by cases dR <;> rfl
  have HPL := Lib.hid (PE_4.out.lt)
  go_wp2_with fail
  refine wp_region_held_drew (S := (fun V => Below (w4).heap.size (w4) V)) (by kernel_rfl) ((Below.refl _ _).drew) (fun hHeld => ?_)
  refine tk 0 hHeld ?_ (hy := fun w hSw => by (try dsimp only at hSw); have k0 := (hSw.cell (p := ⟨W.heap.size, 0, none⟩) PD_4.out.lt).trans (PD_4.out.at_ 0 rfl); have k1 := (hSw.cell (p := ⟨W.heap.size, 1, none⟩) PD_4.out.lt).trans (PD_4.out.at_ 1 rfl); have k2 := (hSw.cell (p := ⟨W.heap.size, 2, none⟩) PD_4.out.lt).trans (PD_4.out.at_ 2 rfl); have k3 := (hSw.cell (p := ⟨W.heap.size, 3, none⟩) PD_4.out.lt).trans (PD_4.out.at_ 3 rfl); clear hSw; go_simp; try with_reducible rfl)
  refine tk 2 hHeld ?_ (hy := fun w hSw => by (try dsimp only at hSw); have k0 := (hSw.cell (p := ⟨(W.heap.size + 1), 0, none⟩) PE_4.out.lt).trans (PE_4.out.at_ 0 rfl); clear hSw; go_simp; try with_reducible rfl)
  refine rd1 1 (fun K hK => ?_)
  go_simp
  go_at_call 8
  refine (gto_Config HSZD.out (gmv R_Config_ok HD_4.out hHeld)).mono ?_
  intro e w401 h
  obtain ⟨us, rfl, hu, hb⟩ := newV_elim h
  obtain ⟨aD0401, cD0401, aD1401, cD1401, aD2401, cD2401, rfl, hu⟩ := owc_Config hu
  have ND := Lib.hid (owG_new hu)
  clear h hu
  refine hK.out _ _ (hHeld.trans (hb.mono hHeld.size)) (fun hHeld => ?_)
  clear hK K hb
  refine rd1 3 (fun K hK => ?_)
  go_simp
  go_at_call 9
  refine (gto_Mail HSZE.out (gmv R_Mail_ok HE_4.out hHeld)).mono ?_
  intro e w402 h
  obtain ⟨us, rfl, hu, hb⟩ := newV_elim h
  obtain ⟨aE0402, cE0402, rfl, hu⟩ := owc_Mail hu
  have ND := Lib.hid (ND.out.mv R_Config_ok hb)
  have NE := Lib.hid (owG_new hu)
  clear h hu
  refine hK.out _ _ (hHeld.trans (hb.mono hHeld.size)) (fun hHeld => ?_)
  clear hK K hb
  refine rd1 4 (fun K hK => ?_)
  go_simp
  go_at_call 7
  refine (gmail_spec (ND.out.rd R_Config_ok) (NE.out.rd R_Mail_ok)).mono ?_
  intro e w403 h
  rw [HDD.out] at h
  obtain ⟨rfl, hb⟩ := isB_elim h
  clear h
  refine hK.out _ _ (hHeld.trans (hb.mono hHeld.size)) (fun hHeld => ?_)
  clear hK K hb
  refine tk 5 hHeld ?_
  refine rd0 ?_
  have HF := Lib.hid hHeld
  clear hHeld
  have hF := HF.out
  have PD_5 := Lib.hid (PD_4.out.call hF)
  have PE_5 := Lib.hid (PE_4.out.call hF)
  have HD_5 := Lib.hid (gmv R_Config_ok HD_4.out hF)
  have HE_5 := Lib.hid (gmv R_Mail_ok HE_4.out hF)
  have HB5 := Lib.hid (HB4.out.trans ((hF).mono HB4.out.size))
  have HZ5 := Lib.hid ((hF).size)
  clear PD_4 PE_4 HD_4 HE_4 HB4
  clear HF hF
  clear ND
  clear NE
  have qPD_0 := PD_5.out.at_ 0 rfl
  have qPD_1 := PD_5.out.at_ 1 rfl
  have qPD_2 := PD_5.out.at_ 2 rfl
  have qPD_3 := PD_5.out.at_ 3 rfl
  go_wp2_with fail
  refine (gto_Config HSZD.out HD_5.out).mono ?_
  intro e w6 h
  obtain ⟨us, rfl, hu, hb⟩ := newV_elim h
  obtain ⟨aD06, cD06, aD16, cD16, aD26, cD26, rfl, hu⟩ := owc_Config hu
  clear qPD_0 qPD_1 qPD_2 qPD_3
  have PD_6 := Lib.hid (PD_5.out.call hb)
  have PE_6 := Lib.hid (PE_5.out.call hb)
  have HD_6 := Lib.hid (gmv R_Config_ok HD_5.out hb)
  have HE_6 := Lib.hid (gmv R_Mail_ok HE_5.out hb)
  have HB6 := Lib.hid (HB5.out.trans ((hb).mono HB5.out.size))
  have HZ6 := Lib.hid ((hb).size)
  clear PD_5 PE_5 HD_5 HE_5 HB5
  have XD_6 := Lib.hid (owG_new hu)
  have HSD := Lib.hid (fun k (hk : Rg w403.heap.size w6.heap.size k) => hk)
  clear hu
  clear h hb
  have hbA : Below (w6).heap.size (w6) (w6.alloc (.cells #[.slice aD06 DL0.length cD06, .slice aD16 DL1.length cD16, .slice aD26 DL2.length cD26, .int .i64 Dx3] 37)) := (Below.refl _ _).alloc (Nat.le_refl _) _
  have PD_7 := Lib.hid (PD_6.out.call hbA)
  have PE_7 := Lib.hid (PE_6.out.call hbA)
  have HD_7 := Lib.hid (gmv R_Config_ok HD_6.out hbA)
  have HE_7 := Lib.hid (gmv R_Mail_ok HE_6.out hbA)
  have XD_7 := Lib.hid (XD_6.out.mv R_Config_ok hbA)
  have HB7 := Lib.hid (HB6.out.trans ((hbA).mono HB6.out.size))
  have HZ7 := Lib.hid ((hbA).size)
  clear PD_6 PE_6 HD_6 HE_6 XD_6 HB6
  have BXD_7 := Blk.new (w6) 37 #[.slice aD06 DL0.length cD06, .slice aD16 DL1.length cD16, .slice aD26 DL2.length cD26, .int .i64 Dx3]
  have BXDh_7 := Lib.hid BXD_7
  clear BXD_7 hbA
  have HZ8 := Lib.hid ((show (w6.alloc (.cells #[.slice aD06 DL0.length cD06, .slice aD16 DL1.length cD16, .slice aD26 DL2.length cD26, .int .i64 Dx3] 37)).heap.size = w6.heap.size + 1 by simp))
  obtain ⟨wz7, hwz7⟩ : ∃ w, w = w6.alloc (.cells #[.slice aD06 DL0.length cD06, .slice aD16 DL1.length cD16, .slice aD26 DL2.length cD26, .int .i64 Dx3] 37) := ⟨_, rfl⟩
  rw [← hwz7] at PD_7 PE_7 BXDh_7 HD_7 HE_7 XD_7 HB7 HZ7 HZ8
  have qPE_0 := PE_7.out.at_ 0 rfl
  have qPE_0_u := qPE_0
  rw [hwz7] at qPE_0_u
  go_wp2_with fail
  rw [← hwz7]
  clear hwz7
  refine (gto_Mail HSZE.out HE_7.out).mono ?_
  intro e w8 h
  obtain ⟨us, rfl, hu, hb⟩ := newV_elim h
  obtain ⟨aE08, cE08, rfl, hu⟩ := owc_Mail hu
  clear qPE_0 qPE_0_u
  have PD_8 := Lib.hid (PD_7.out.call hb)
  have PE_8 := Lib.hid (PE_7.out.call hb)
  have BXD_8 := Lib.hid (BXDh_7.out.call hb)
  have HD_8 := Lib.hid (gmv R_Config_ok HD_7.out hb)
  have HE_8 := Lib.hid (gmv R_Mail_ok HE_7.out hb)
  have XD_8 := Lib.hid (XD_7.out.mv R_Config_ok hb)
  have HB8 := Lib.hid (HB7.out.trans ((hb).mono HB7.out.size))
  have HZ9 := Lib.hid ((hb).size)
  clear PD_7 PE_7 BXDh_7 HD_7 HE_7 XD_7 HB7
  have XE_8 := Lib.hid (owG_new hu)
  have HSE := Lib.hid (fun k (hk : Rg wz7.heap.size w8.heap.size k) => hk)
  clear hu
  clear h hb
  have hbA : Below (w8).heap.size (w8) (w8.alloc (.cells #[.slice aE08 EL0.length cE08] 41)) := (Below.refl _ _).alloc (Nat.le_refl _) _
  have PD_9 := Lib.hid (PD_8.out.call hbA)
  have PE_9 := Lib.hid (PE_8.out.call hbA)
  have BXD_9 := Lib.hid (BXD_8.out.call hbA)
  have HD_9 := Lib.hid (gmv R_Config_ok HD_8.out hbA)
  have HE_9 := Lib.hid (gmv R_Mail_ok HE_8.out hbA)
  have XD_9 := Lib.hid (XD_8.out.mv R_Config_ok hbA)
  have XE_9 := Lib.hid (XE_8.out.mv R_Mail_ok hbA)
  have HB9 := Lib.hid (HB8.out.trans ((hbA).mono HB8.out.size))
  have HZ10 := Lib.hid ((hbA).size)
  clear PD_8 PE_8 BXD_8 HD_8 HE_8 XD_8 XE_8 HB8
  have BXE_9 := Blk.new (w8) 41 #[.slice aE08 EL0.length cE08]
  have BXEh_9 := Lib.hid BXE_9
  clear BXE_9 hbA
  have HZ11 := Lib.hid ((show (w8.alloc (.cells #[.slice aE08 EL0.length cE08] 41)).heap.size = w8.heap.size + 1 by simp))
  obtain ⟨wz9, hwz9⟩ : ∃ w, w = w8.alloc (.cells #[.slice aE08 EL0.length cE08] 41) := ⟨_, rfl⟩
  rw [← hwz9] at PD_9 PE_9 BXD_9 BXEh_9 HD_9 HE_9 XD_9 XE_9 HB9 HZ10 HZ11
  have qBXD_0 := BXD_9.out.at_ 0 rfl
  have qBXD_1 := BXD_9.out.at_ 1 rfl
  have qBXD_2 := BXD_9.out.at_ 2 rfl
  have qBXD_3 := BXD_9.out.at_ 3 rfl
  have qBXD_0_u := qBXD_0
  rw [hwz9] at qBXD_0_u
  have qBXD_1_u := qBXD_1
  rw [hwz9] at qBXD_1_u
  have qBXD_2_u := qBXD_2
  rw [hwz9] at qBXD_2_u
  have qBXD_3_u := qBXD_3
  rw [hwz9] at qBXD_3_u
  have qBXE_0 := BXEh_9.out.at_ 0 rfl
  have qBXE_0_u := qBXE_0
  rw [hwz9] at qBXE_0_u
  go_wp2_with fail
  rw [← hwz9]
  clear hwz9
  refine (gmail_impl (XD_9.out.rd R_Config_ok) (XE_9.out.rd R_Mail_ok)).mono ?_
  intro e w10 h
  rw [HDD.out] at h
  obtain ⟨rfl, hb⟩ := isB_elim h
  clear qBXD_0 qBXD_1 qBXD_2 qBXD_3 qBXD_0_u qBXD_1_u qBXD_2_u qBXD_3_u qBXE_0 qBXE_0_u
  have PD_10 := Lib.hid (PD_9.out.call hb)
  have PE_10 := Lib.hid (PE_9.out.call hb)
  have BXD_10 := Lib.hid (BXD_9.out.call hb)
  have BXE_10 := Lib.hid (BXEh_9.out.call hb)
  have HD_10 := Lib.hid (gmv R_Config_ok HD_9.out hb)
  have HE_10 := Lib.hid (gmv R_Mail_ok HE_9.out hb)
  have XD_10 := Lib.hid (XD_9.out.mv R_Config_ok hb)
  have XE_10 := Lib.hid (XE_9.out.mv R_Mail_ok hb)
  have HB10 := Lib.hid (HB9.out.trans ((hb).mono HB9.out.size))
  have HZ12 := Lib.hid ((hb).size)
  clear PD_9 PE_9 BXD_9 BXEh_9 HD_9 HE_9 XD_9 XE_9 HB9
  clear h hb
  go_wp2_with fail
  refine wp_region_held_drew (S := (fun V => Below (w10).heap.size (w10) V)) (by kernel_rfl) ((Below.refl _ _).drew) (fun hHeld => ?_)
  refine tk 0 hHeld ?_ (hy := fun w hSw => by (try dsimp only at hSw); have k0 := (hSw.cell (p := ⟨w6.heap.size, 0, none⟩) BXD_10.out.lt).trans (BXD_10.out.at_ 0 rfl); have k1 := (hSw.cell (p := ⟨w6.heap.size, 1, none⟩) BXD_10.out.lt).trans (BXD_10.out.at_ 1 rfl); have k2 := (hSw.cell (p := ⟨w6.heap.size, 2, none⟩) BXD_10.out.lt).trans (BXD_10.out.at_ 2 rfl); have k3 := (hSw.cell (p := ⟨w6.heap.size, 3, none⟩) BXD_10.out.lt).trans (BXD_10.out.at_ 3 rfl); clear hSw; go_simp; try with_reducible rfl)
  refine tk 1 hHeld ?_ (hy := fun w hSw => by (try dsimp only at hSw); have k0 := (hSw.cell (p := ⟨W.heap.size, 0, none⟩) PD_10.out.lt).trans (PD_10.out.at_ 0 rfl); have k1 := (hSw.cell (p := ⟨W.heap.size, 1, none⟩) PD_10.out.lt).trans (PD_10.out.at_ 1 rfl); have k2 := (hSw.cell (p := ⟨W.heap.size, 2, none⟩) PD_10.out.lt).trans (PD_10.out.at_ 2 rfl); have k3 := (hSw.cell (p := ⟨W.heap.size, 3, none⟩) PD_10.out.lt).trans (PD_10.out.at_ 3 rfl); clear hSw; go_simp; try with_reducible rfl)
  refine rd1 2 (fun K hK => ?_)
  go_simp
  go_at_call 8
  refine (gto_Config HSZD.out (gmv R_Config_ok HD_10.out hHeld)).mono ?_
  intro e w1001 h
  obtain ⟨us, rfl, hu, hb⟩ := newV_elim h
  obtain ⟨aD01001, cD01001, aD11001, cD11001, aD21001, cD21001, rfl, hu⟩ := owc_Config hu
  have NZ := Lib.hid (owG_new hu)
  clear h hu
  refine hK.out _ _ (hHeld.trans (hb.mono hHeld.size)) (fun hHeld => ?_)
  clear hK K hb
  refine rd1 3 (fun K hK => ?_)
  go_simp
  go_at_call 11
  refine (geq_Config (gmv R_Config_ok (XD_10.out.rd R_Config_ok) hHeld) (NZ.out.rd R_Config_ok)).mono ?_
  intro e w1002 h
  obtain ⟨rfl, hb⟩ := isB_elim h
  clear h
  refine hK.out _ _ (hHeld.trans (hb.mono hHeld.size)) (fun hHeld => ?_)
  clear hK K hb
  refine tk 4 hHeld ?_
  refine rd0 ?_
  have HF := Lib.hid hHeld
  clear hHeld
  have hF := HF.out
  have PD_11 := Lib.hid (PD_10.out.call hF)
  have PE_11 := Lib.hid (PE_10.out.call hF)
  have BXD_11 := Lib.hid (BXD_10.out.call hF)
  have BXE_11 := Lib.hid (BXE_10.out.call hF)
  have HD_11 := Lib.hid (gmv R_Config_ok HD_10.out hF)
  have HE_11 := Lib.hid (gmv R_Mail_ok HE_10.out hF)
  have XD_11 := Lib.hid (XD_10.out.mv R_Config_ok hF)
  have XE_11 := Lib.hid (XE_10.out.mv R_Mail_ok hF)
  have HB11 := Lib.hid (HB10.out.trans ((hF).mono HB10.out.size))
  have HZ13 := Lib.hid ((hF).size)
  clear PD_10 PE_10 BXD_10 BXE_10 HB10
  clear HF hF NZ
  go_wp2_with fail
  refine wp_region_held_drew (S := (fun V => Below (w1002).heap.size (w1002) V)) (by kernel_rfl) ((Below.refl _ _).drew) (fun hHeld => ?_)
  refine tk 0 hHeld ?_ (hy := fun w hSw => by (try dsimp only at hSw); have k0 := (hSw.cell (p := ⟨w8.heap.size, 0, none⟩) BXE_11.out.lt).trans (BXE_11.out.at_ 0 rfl); clear hSw; go_simp; try with_reducible rfl)
  refine tk 1 hHeld ?_ (hy := fun w hSw => by (try dsimp only at hSw); have k0 := (hSw.cell (p := ⟨(W.heap.size + 1), 0, none⟩) PE_11.out.lt).trans (PE_11.out.at_ 0 rfl); clear hSw; go_simp; try with_reducible rfl)
  refine rd1 2 (fun K hK => ?_)
  go_simp
  go_at_call 9
  refine (gto_Mail HSZE.out (gmv R_Mail_ok HE_11.out hHeld)).mono ?_
  intro e w1101 h
  obtain ⟨us, rfl, hu, hb⟩ := newV_elim h
  obtain ⟨aE01101, cE01101, rfl, hu⟩ := owc_Mail hu
  have NZ := Lib.hid (owG_new hu)
  clear h hu
  refine hK.out _ _ (hHeld.trans (hb.mono hHeld.size)) (fun hHeld => ?_)
  clear hK K hb
  refine rd1 3 (fun K hK => ?_)
  go_simp
  go_at_call 12
  refine (geq_Mail (gmv R_Mail_ok (XE_11.out.rd R_Mail_ok) hHeld) (NZ.out.rd R_Mail_ok)).mono ?_
  intro e w1102 h
  obtain ⟨rfl, hb⟩ := isB_elim h
  clear h
  refine hK.out _ _ (hHeld.trans (hb.mono hHeld.size)) (fun hHeld => ?_)
  clear hK K hb
  refine tk 4 hHeld ?_
  refine rd0 ?_
  have HF := Lib.hid hHeld
  clear hHeld
  have hF := HF.out
  have PD_12 := Lib.hid (PD_11.out.call hF)
  have PE_12 := Lib.hid (PE_11.out.call hF)
  have BXD_12 := Lib.hid (BXD_11.out.call hF)
  have BXE_12 := Lib.hid (BXE_11.out.call hF)
  have HD_12 := Lib.hid (gmv R_Config_ok HD_11.out hF)
  have HE_12 := Lib.hid (gmv R_Mail_ok HE_11.out hF)
  have XD_12 := Lib.hid (XD_11.out.mv R_Config_ok hF)
  have XE_12 := Lib.hid (XE_11.out.mv R_Mail_ok hF)
  have HB12 := Lib.hid (HB11.out.trans ((hF).mono HB11.out.size))
  have HZ14 := Lib.hid ((hF).size)
  clear PD_11 PE_11 BXD_11 BXE_11 HD_11 HE_11 XD_11 XE_11 HB11
  clear HF hF NZ
  go_wp2
  go_ret
  exact ⟨rfl, HB12.out⟩
end Go.Proofs.Ytlgflddljhldhaa.RepC
end
