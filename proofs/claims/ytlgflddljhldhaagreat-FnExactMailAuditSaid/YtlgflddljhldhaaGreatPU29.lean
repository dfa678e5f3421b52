/- Of this claim's texts the part 29: MlGAudit MlW4. -/
import Derived.Test.YtlgflddljhldhaaGreatPU24
import Derived.Test.YtlgflddljhldhaaGreatPU28
section
namespace Go.Proofs.YtlgflddljhldhaaGreat.RepC
open Go.RowKit RowC ValC SpanC KeptC CfC
set_option linter.unusedVariables false
set_option linter.unusedSimpArgs false
theorem gmaudit_spec {d : D_Config} {m : D_Mail} {cs ds : List Value} {l s : Int} {W : World} (hb : BdM m) (h : R_Config.rd W W.heap.size d cs) (k : R_Mail.rd W W.heap.size m ds) : Calls Tryz.prog 28 #[.agg cs.toArray, .agg ds.toArray, .agg #[.int .i64 l, .int .i64 s]] W (fun e w' => e = .returned (.string (readM fromL logB d m (l, s))) ∧ Below W.heap.size W w') := by
  obtain ⟨C, P, Q, hf⟩ := d
  obtain ⟨a0, c0, a1, c1, a2, c2, rfl, k0, k1, k2⟩ := rd_Config h
  obtain ⟨a3, c3, rfl, k3⟩ := rd_Mail k
  exact maudit_spec hb k0 k1 k2 k3
theorem gmaudit_impl {d : D_Config} {m : D_Mail} {cs ds : List Value} {l s : Int} {W : World} (hb : BdM m) (h : R_Config.rd W W.heap.size d cs) (k : R_Mail.rd W W.heap.size m ds) : Calls Tryz.prog 29 #[.agg cs.toArray, .agg ds.toArray, .agg #[.int .i64 l, .int .i64 s]] W (fun e w' => e = .returned (.string (readM fromL logB d m (l, s))) ∧ Below W.heap.size W w') := by
  obtain ⟨C, P, Q, hf⟩ := d
  obtain ⟨a0, c0, a1, c1, a2, c2, rfl, k0, k1, k2⟩ := rd_Config h
  obtain ⟨a3, c3, rfl, k3⟩ := rd_Mail k
  exact maudit_impl hb k0 k1 k2 k3
end Go.Proofs.YtlgflddljhldhaaGreat.RepC
end
section
namespace Go.Proofs.YtlgflddljhldhaaGreat.RepC
open Go.RowKit RowC ValC SpanC KeptC CfC
set_option linter.unusedVariables false
set_option linter.unusedSimpArgs false
set_option maxRecDepth 100000 in
set_option maxHeartbeats 4000000 in
theorem law_mailaudit {DL0 : List (List (D_Label))} {DL1 : List (D_Pair)} {DL2 : List (D_Quota)} {Dx3 : Int} {Da0 : Option Addr} {Dc0 : Nat} {Da1 : Option Addr} {Dc1 : Nat} {Da2 : Option Addr} {Dc2 : Nat} {EL0 : List (D_Box)} {Ea0 : Option Addr} {Ec0 : Nat} {Kx0 : Int} {Kx1 : Int}  {W : World} (hD : R_Config.rd W W.heap.size (DL0, DL1, DL2, Dx3) [.slice Da0 DL0.length Dc0, .slice Da1 DL1.length Dc1, .slice Da2 DL2.length Dc2, .int .i64 Dx3]) (hE : R_Mail.rd W W.heap.size EL0 [.slice Ea0 EL0.length Ec0]) (hBd : BdM EL0) :
    Calls Tryz.prog 7 #[.agg #[.slice Da0 DL0.length Dc0, .slice Da1 DL1.length Dc1, .slice Da2 DL2.length Dc2, .int .i64 Dx3], .agg #[.slice Ea0 EL0.length Ec0], .agg #[.int .i64 Kx0, .int .i64 Kx1]] W fun e w' => e = .returned (.bool true) ∧ Below W.heap.size W w' := by
  have HBDD := Lib.hid hBd
  clear hBd
  have HD := Lib.hid hD
  have HD0 := Lib.hid hD
  clear hD
  have HE := Lib.hid hE
  have HE0 := Lib.hid hE
  clear hE
  have hbA : Below (W).heap.size (W) (W.alloc (.cells #[.slice Da0 DL0.length Dc0, .slice Da1 DL1.length Dc1, .slice Da2 DL2.length Dc2, .int .i64 Dx3] 26)) := (Below.refl _ _).alloc (Nat.le_refl _) _
  have HD_1 := Lib.hid (gmv R_Config_ok HD.out hbA)
  have HE_1 := Lib.hid (gmv R_Mail_ok HE.out hbA)
  have HB1 := Lib.hid (show Below W.heap.size W (W.alloc (.cells #[.slice Da0 DL0.length Dc0, .slice Da1 DL1.length Dc1, .slice Da2 DL2.length Dc2, .int .i64 Dx3] 26)) from hbA)
  have HZ1 := Lib.hid ((hbA).size)
  clear HD HE
  have PD_1 := Blk.new (W) 26 #[.slice Da0 DL0.length Dc0, .slice Da1 DL1.length Dc1, .slice Da2 DL2.length Dc2, .int .i64 Dx3]
  have PDh_1 := Lib.hid PD_1
  clear PD_1 hbA
  have hbA : Below (W.alloc (.cells #[.slice Da0 DL0.length Dc0, .slice Da1 DL1.length Dc1, .slice Da2 DL2.length Dc2, .int .i64 Dx3] 26)).heap.size (W.alloc (.cells #[.slice Da0 DL0.length Dc0, .slice Da1 DL1.length Dc1, .slice Da2 DL2.length Dc2, .int .i64 Dx3] 26)) ((W.alloc (.cells #[.slice Da0 DL0.length Dc0, .slice Da1 DL1.length Dc1, .slice Da2 DL2.length Dc2, .int .i64 Dx3] 26)).alloc (.cells #[.slice Ea0 EL0.length Ec0] 29)) := (Below.refl _ _).alloc (Nat.le_refl _) _
  have PD_2 := Lib.hid (PDh_1.out.call hbA)
  have HD_2 := Lib.hid (gmv R_Config_ok HD_1.out hbA)
  have HE_2 := Lib.hid (gmv R_Mail_ok HE_1.out hbA)
  have HB2 := Lib.hid (HB1.out.trans ((hbA).mono HB1.out.size))
  have HZ2 := Lib.hid ((hbA).size)
  clear PDh_1 HD_1 HE_1 HB1
  have PE_2 := Blk.new (W.alloc (.cells #[.slice Da0 DL0.length Dc0, .slice Da1 DL1.length Dc1, .slice Da2 DL2.length Dc2, .int .i64 Dx3] 26)) 29 #[.slice Ea0 EL0.length Ec0]
  have PEh_2 := Lib.hid PE_2
  clear PE_2 hbA
  have hq := PEh_2.out
  simp only [World.size_alloc] at hq
  clear PEh_2
  have PEh_2 := Lib.hid hq
  clear hq
  have hbA : Below ((W.alloc (.cells #[.slice Da0 DL0.length Dc0, .slice Da1 DL1.length Dc1, .slice Da2 DL2.length Dc2, .int .i64 Dx3] 26)).alloc (.cells #[.slice Ea0 EL0.length Ec0] 29)).heap.size ((W.alloc (.cells #[.slice Da0 DL0.length Dc0, .slice Da1 DL1.length Dc1, .slice Da2 DL2.length Dc2, .int .i64 Dx3] 26)).alloc (.cells #[.slice Ea0 EL0.length Ec0] 29)) (((W.alloc (.cells #[.slice Da0 DL0.length Dc0, .slice Da1 DL1.length Dc1, .slice Da2 DL2.length Dc2, .int .i64 Dx3] 26)).alloc (.cells #[.slice Ea0 EL0.length Ec0] 29)).alloc (.cells #[.int .i64 Kx0, .int .i64 Kx1] 31)) := (Below.refl _ _).alloc (Nat.le_refl _) _
  have PD_3 := Lib.hid (PD_2.out.call hbA)
  have PE_3 := Lib.hid (PEh_2.out.call hbA)
  have HD_3 := Lib.hid (gmv R_Config_ok HD_2.out hbA)
  have HE_3 := Lib.hid (gmv R_Mail_ok HE_2.out hbA)
  have HB3 := Lib.hid (HB2.out.trans ((hbA).mono HB2.out.size))
  have HZ3 := Lib.hid ((hbA).size)
  clear PD_2 PEh_2 HD_2 HE_2 HB2
  have PK_3 := Blk.new ((W.alloc (.cells #[.slice Da0 DL0.length Dc0, .slice Da1 DL1.length Dc1, .slice Da2 DL2.length Dc2, .int .i64 Dx3] 26)).alloc (.cells #[.slice Ea0 EL0.length Ec0] 29)) 31 #[.int .i64 Kx0, .int .i64 Kx1]
  have PKh_3 := Lib.hid PK_3
  clear PK_3 hbA
  have hq := PKh_3.out
  simp only [World.size_alloc] at hq
  clear PKh_3
  have PKh_3 := Lib.hid hq
  clear hq
  by_cases hszD : ((R_Config.sz (DL0, DL1, DL2, Dx3) : Nat) : Int) ≤ (1048576 : Int)
  rotate_left
  · skip
    go_enter Tryz.func7, Tryz.ntmps7
    have qPD_0 := PD_3.out.at_ 0 rfl
    have qPD_1 := PD_3.out.at_ 1 rfl
    have qPD_2 := PD_3.out.at_ 2 rfl
    have qPD_3 := PD_3.out.at_ 3 rfl
    have qPE_0 := PE_3.out.at_ 0 rfl
    have qPK_0 := PKh_3.out.at_ 0 rfl
    have qPK_1 := PKh_3.out.at_ 1 rfl
    go_wp2_with fail
    refine (gsz_Config (l := (1048576 : Int)) (by omega) (by omega) HD_3.out).mono ?_
    intro e w4 h
    obtain ⟨rfl, hb⟩ := szC_elim h
    rw [szR_no (by omega)]
    clear qPD_0 qPD_1 qPD_2 qPD_3 qPE_0 qPK_0 qPK_1
    have PD_4 := Lib.hid (PD_3.out.call hb)
    have PE_4 := Lib.hid (PE_3.out.call hb)
    have PK_4 := Lib.hid (PKh_3.out.call hb)
    have HD_4 := Lib.hid (gmv R_Config_ok HD_3.out hb)
    have HE_4 := Lib.hid (gmv R_Mail_ok HE_3.out hb)
    have HB4 := Lib.hid (HB3.out.trans ((hb).mono HB3.out.size))
    have HZ4 := Lib.hid ((hb).size)
    clear PD_3 PE_3 PKh_3 HD_3 HE_3 HB3
    clear h hb
    go_wp2
    go_ret
    exact ⟨rfl, HB4.out⟩
  have hswD : R_Config.sz (DL0, DL1, DL2, Dx3) ≤ 1048576 := by omega
  have HSZD := Lib.hid hswD
  have HSAD := Lib.hid (cvs_Config hswD)
  clear hswD
  obtain ⟨mD, hmD⟩ : ∃ m : Nat, R_Config.sz (DL0, DL1, DL2, Dx3) = m := ⟨_, rfl⟩
  have HMD := Lib.hid hmD
  rw [hmD] at hszD
  clear hmD
  have hltD : decide ((1048576 : Int) - (mD : Int) < 0) = false := decide_eq_false (by omega)
  by_cases hszE : ((R_Mail.sz EL0 : Nat) : Int) ≤ (1048576 : Int) - (mD : Int)
  rotate_left
  · skip
    go_enter Tryz.func7, Tryz.ntmps7
    have qPD_0 := PD_3.out.at_ 0 rfl
    have qPD_1 := PD_3.out.at_ 1 rfl
    have qPD_2 := PD_3.out.at_ 2 rfl
    have qPD_3 := PD_3.out.at_ 3 rfl
    have qPE_0 := PE_3.out.at_ 0 rfl
    have qPK_0 := PKh_3.out.at_ 0 rfl
    have qPK_1 := PKh_3.out.at_ 1 rfl
    go_wp2_with fail
    refine (gsz_Config (l := (1048576 : Int)) (by omega) (by omega) HD_3.out).mono ?_
    intro e w4 h
    obtain ⟨rfl, hb⟩ := szC_elim h
    rw [HMD.out, szR_yes (by omega)]
    clear qPD_0 qPD_1 qPD_2 qPD_3 qPE_0 qPK_0 qPK_1
    have PD_4 := Lib.hid (PD_3.out.call hb)
    have PE_4 := Lib.hid (PE_3.out.call hb)
    have PK_4 := Lib.hid (PKh_3.out.call hb)
    have HD_4 := Lib.hid (gmv R_Config_ok HD_3.out hb)
    have HE_4 := Lib.hid (gmv R_Mail_ok HE_3.out hb)
    have HB4 := Lib.hid (HB3.out.trans ((hb).mono HB3.out.size))
    have HZ4 := Lib.hid ((hb).size)
    clear PD_3 PE_3 PKh_3 HD_3 HE_3 HB3
    clear h hb
    have qPD_0 := PD_4.out.at_ 0 rfl
    have qPD_1 := PD_4.out.at_ 1 rfl
    have qPD_2 := PD_4.out.at_ 2 rfl
    have qPD_3 := PD_4.out.at_ 3 rfl
    have qPE_0 := PE_4.out.at_ 0 rfl
    have qPK_0 := PK_4.out.at_ 0 rfl
    have qPK_1 := PK_4.out.at_ 1 rfl
    go_wp2_with fail
    refine (gsz_Mail (l := (1048576 : Int) - (mD : Int)) (by omega) (by omega) HE_4.out).mono ?_
    intro e w5 h
    obtain ⟨rfl, hb⟩ := szC_elim h
    rw [szR_no (by omega)]
    clear qPD_0 qPD_1 qPD_2 qPD_3 qPE_0 qPK_0 qPK_1
    have PD_5 := Lib.hid (PD_4.out.call hb)
    have PE_5 := Lib.hid (PE_4.out.call hb)
    have PK_5 := Lib.hid (PK_4.out.call hb)
    have HD_5 := Lib.hid (gmv R_Config_ok HD_4.out hb)
    have HE_5 := Lib.hid (gmv R_Mail_ok HE_4.out hb)
    have HB5 := Lib.hid (HB4.out.trans ((hb).mono HB4.out.size))
    have HZ5 := Lib.hid ((hb).size)
    clear PD_4 PE_4 PK_4 HD_4 HE_4 HB4
    clear h hb
    go_wp2
    go_ret
    exact ⟨rfl, HB5.out⟩
  have hswE : R_Mail.sz EL0 ≤ 1048576 := by omega
  have HSZE := Lib.hid hswE
  have HSAE := Lib.hid (cvs_Mail hswE)
  clear hswE
  obtain ⟨mE, hmE⟩ : ∃ m : Nat, R_Mail.sz EL0 = m := ⟨_, rfl⟩
  have HME := Lib.hid hmE
  rw [hmE] at hszE
  clear hmE
  have hltE : decide ((1048576 : Int) - (mD : Int) - (mE : Int) < 0) = false := decide_eq_false (by omega)
  obtain ⟨dR, hD⟩ : ∃ d, readM fromL logB (DL0, DL1, DL2, Dx3) EL0 (Kx0, Kx1) = d := ⟨_, rfl⟩
  have HDD := Lib.hid hD
  clear hD
  go_enter Tryz.func7, Tryz.ntmps7
  have qPD_0 := PD_3.out.at_ 0 rfl
  have qPD_1 := PD_3.out.at_ 1 rfl
  have qPD_2 := PD_3.out.at_ 2 rfl
  have qPD_3 := PD_3.out.at_ 3 rfl
  have qPE_0 := PE_3.out.at_ 0 rfl
  have qPK_0 := PKh_3.out.at_ 0 rfl
  have qPK_1 := PKh_3.out.at_ 1 rfl
  go_wp2_with fail
  refine (gsz_Config (l := (1048576 : Int)) (by omega) (by omega) HD_3.out).mono ?_
  intro e w4 h
  obtain ⟨rfl, hb⟩ := szC_elim h
  rw [HMD.out, szR_yes (by omega)]
  clear qPD_0 qPD_1 qPD_2 qPD_3 qPE_0 qPK_0 qPK_1
  have PD_4 := Lib.hid (PD_3.out.call hb)
  have PE_4 := Lib.hid (PE_3.out.call hb)
  have PK_4 := Lib.hid (PKh_3.out.call hb)
  have HD_4 := Lib.hid (gmv R_Config_ok HD_3.out hb)
  have HE_4 := Lib.hid (gmv R_Mail_ok HE_3.out hb)
  have HB4 := Lib.hid (HB3.out.trans ((hb).mono HB3.out.size))
  have HZ4 := Lib.hid ((hb).size)
  clear PD_3 PE_3 PKh_3 HD_3 HE_3 HB3
  clear h hb
  have qPD_0 := PD_4.out.at_ 0 rfl
  have qPD_1 := PD_4.out.at_ 1 rfl
  have qPD_2 := PD_4.out.at_ 2 rfl
  have qPD_3 := PD_4.out.at_ 3 rfl
  have qPE_0 := PE_4.out.at_ 0 rfl
  have qPK_0 := PK_4.out.at_ 0 rfl
  have qPK_1 := PK_4.out.at_ 1 rfl
  go_wp2_with fail
  refine (gsz_Mail (l := (1048576 : Int) - (mD : Int)) (by omega) (by omega) HE_4.out).mono ?_
  intro e w5 h
  obtain ⟨rfl, hb⟩ := szC_elim h
  rw [HME.out, szR_yes (by omega)]
  clear qPD_0 qPD_1 qPD_2 qPD_3 qPE_0 qPK_0 qPK_1
  have PD_5 := Lib.hid (PD_4.out.call hb)
  have PE_5 := Lib.hid (PE_4.out.call hb)
  have PK_5 := Lib.hid (PK_4.out.call hb)
  have HD_5 := Lib.hid (gmv R_Config_ok HD_4.out hb)
  have HE_5 := Lib.hid (gmv R_Mail_ok HE_4.out hb)
  have HB5 := Lib.hid (HB4.out.trans ((hb).mono HB4.out.size))
  have HZ5 := Lib.hid ((hb).size)
  clear PD_4 PE_4 PK_4 HD_4 HE_4 HB4
  clear h hb
  have qPD_0 := PD_5.out.at_ 0 rfl
  have qPD_1 := PD_5.out.at_ 1 rfl
  have qPD_2 := PD_5.out.at_ 2 rfl
  have qPD_3 := PD_5.out.at_ 3 rfl
  have qPE_0 := PE_5.out.at_ 0 rfl
  have qPK_0 := PK_5.out.at_ 0 rfl
  have qPK_1 := PK_5.out.at_ 1 rfl
  clear hszD hszE
  clear qPD_0 qPD_1 qPD_2 qPD_3 qPE_0 qPK_0 qPK_1
  have HPL := Lib.hid (PK_5.out.lt)
  go_wp2_with fail
  refine wp_region_held_drew (S := (fun V => Below (w5).heap.size (w5) V)) (by kernel_rfl) ((Below.refl _ _).drew) (fun hHeld => ?_)
  refine tk 0 hHeld ?_ (hy := fun w hSw => by (try dsimp only at hSw); have k0 := (hSw.cell (p := ⟨W.heap.size, 0, none⟩) PD_5.out.lt).trans (PD_5.out.at_ 0 rfl); have k1 := (hSw.cell (p := ⟨W.heap.size, 1, none⟩) PD_5.out.lt).trans (PD_5.out.at_ 1 rfl); have k2 := (hSw.cell (p := ⟨W.heap.size, 2, none⟩) PD_5.out.lt).trans (PD_5.out.at_ 2 rfl); have k3 := (hSw.cell (p := ⟨W.heap.size, 3, none⟩) PD_5.out.lt).trans (PD_5.out.at_ 3 rfl); clear hSw; go_simp; try with_reducible rfl)
  refine tk 2 hHeld ?_ (hy := fun w hSw => by (try dsimp only at hSw); have k0 := (hSw.cell (p := ⟨(W.heap.size + 1), 0, none⟩) PE_5.out.lt).trans (PE_5.out.at_ 0 rfl); clear hSw; go_simp; try with_reducible rfl)
  refine tk 4 hHeld ?_ (hy := fun w hSw => by (try dsimp only at hSw); have k0 := (hSw.cell (p := ⟨(W.heap.size + 1 + 1), 0, none⟩) PK_5.out.lt).trans (PK_5.out.at_ 0 rfl); have k1 := (hSw.cell (p := ⟨(W.heap.size + 1 + 1), 1, none⟩) PK_5.out.lt).trans (PK_5.out.at_ 1 rfl); clear hSw; go_simp; try with_reducible rfl)
  refine rd1 1 (fun K hK => ?_)
  go_simp
  go_at_call 11
  refine (gto_Config HSZD.out (gmv R_Config_ok HD_5.out hHeld)).mono ?_
  intro e w501 h
  obtain ⟨us, rfl, hu, hb⟩ := newV_elim h
  obtain ⟨aD0501, cD0501, aD1501, cD1501, aD2501, cD2501, rfl, hu⟩ := owc_Config hu
  have ND := Lib.hid (owG_new hu)
  clear h hu
  refine hK.out _ _ (hHeld.trans (hb.mono hHeld.size)) (fun hHeld => ?_)
  clear hK K hb
  refine rd1 3 (fun K hK => ?_)
  go_simp
  go_at_call 12
  refine (gto_Mail HSZE.out (gmv R_Mail_ok HE_5.out hHeld)).mono ?_
  intro e w502 h
  obtain ⟨us, rfl, hu, hb⟩ := newV_elim h
  obtain ⟨aE0502, cE0502, rfl, hu⟩ := owc_Mail hu
  have ND := Lib.hid (ND.out.mv R_Config_ok hb)
  have NE := Lib.hid (owG_new hu)
  clear h hu
  refine hK.out _ _ (hHeld.trans (hb.mono hHeld.size)) (fun hHeld => ?_)
  clear hK K hb
  refine rd1 5 (fun K hK => ?_)
  go_simp
  go_at_call 13
  refine (to_Label (by simp only [R_Label, Pr, I, atom] <;> omega)).mono ?_
  intro e w503 h
  obtain ⟨us, rfl, hu, hb⟩ := newV_elim h
  obtain rfl := ow0_Label hu
  have ND := Lib.hid (ND.out.mv R_Config_ok hb)
  have NE := Lib.hid (NE.out.mv R_Mail_ok hb)
  clear h hu
  refine hK.out _ _ (hHeld.trans (hb.mono hHeld.size)) (fun hHeld => ?_)
  clear hK K hb
  refine rd1 6 (fun K hK => ?_)
  go_simp
  go_at_call 28
  refine (gmaudit_spec HBDD.out (ND.out.rd R_Config_ok) (NE.out.rd R_Mail_ok)).mono ?_
  intro e w504 h
  rw [HDD.out] at h
  obtain ⟨rfl, hb⟩ := h
  have h := hb
  clear h
  refine hK.out _ _ (hHeld.trans (hb.mono hHeld.size)) (fun hHeld => ?_)
  clear hK K hb
  refine tk 7 hHeld ?_
  refine rd0 ?_
  have HF := Lib.hid hHeld
  clear hHeld
  have hF := HF.out
  have PD_6 := Lib.hid (PD_5.out.call hF)
  have PE_6 := Lib.hid (PE_5.out.call hF)
  have PK_6 := Lib.hid (PK_5.out.call hF)
  have HD_6 := Lib.hid (gmv R_Config_ok HD_5.out hF)
  have HE_6 := Lib.hid (gmv R_Mail_ok HE_5.out hF)
  have HB6 := Lib.hid (HB5.out.trans ((hF).mono HB5.out.size))
  have HZ6 := Lib.hid ((hF).size)
  clear PD_5 PE_5 PK_5 HD_5 HE_5 HB5
  clear HF hF
  clear ND
  clear NE
  have qPD_0 := PD_6.out.at_ 0 rfl
  have qPD_1 := PD_6.out.at_ 1 rfl
  have qPD_2 := PD_6.out.at_ 2 rfl
  have qPD_3 := PD_6.out.at_ 3 rfl
  go_wp2_with fail
  refine (gto_Config HSZD.out HD_6.out).mono ?_
  intro e w7 h
  obtain ⟨us, rfl, hu, hb⟩ := newV_elim h
  obtain ⟨aD07, cD07, aD17, cD17, aD27, cD27, rfl, hu⟩ := owc_Config hu
  clear qPD_0 qPD_1 qPD_2 qPD_3
  have PD_7 := Lib.hid (PD_6.out.call hb)
  have PE_7 := Lib.hid (PE_6.out.call hb)
  have PK_7 := Lib.hid (PK_6.out.call hb)
  have HD_7 := Lib.hid (gmv R_Config_ok HD_6.out hb)
  have HE_7 := Lib.hid (gmv R_Mail_ok HE_6.out hb)
  have HB7 := Lib.hid (HB6.out.trans ((hb).mono HB6.out.size))
  have HZ7 := Lib.hid ((hb).size)
  clear PD_6 PE_6 PK_6 HD_6 HE_6 HB6
  have XD_7 := Lib.hid (owG_new hu)
  have HSD := Lib.hid (fun k (hk : Rg w504.heap.size w7.heap.size k) => hk)
  clear hu
  clear h hb
  have hbA : Below (w7).heap.size (w7) (w7.alloc (.cells #[.slice aD07 DL0.length cD07, .slice aD17 DL1.length cD17, .slice aD27 DL2.length cD27, .int .i64 Dx3] 44)) := (Below.refl _ _).alloc (Nat.le_refl _) _
  have PD_8 := Lib.hid (PD_7.out.call hbA)
  have PE_8 := Lib.hid (PE_7.out.call hbA)
  have PK_8 := Lib.hid (PK_7.out.call hbA)
  have HD_8 := Lib.hid (gmv R_Config_ok HD_7.out hbA)
  have HE_8 := Lib.hid (gmv R_Mail_ok HE_7.out hbA)
  have XD_8 := Lib.hid (XD_7.out.mv R_Config_ok hbA)
  have HB8 := Lib.hid (HB7.out.trans ((hbA).mono HB7.out.size))
  have HZ8 := Lib.hid ((hbA).size)
  clear PD_7 PE_7 PK_7 HD_7 HE_7 XD_7 HB7
  have BXD_8 := Blk.new (w7) 44 #[.slice aD07 DL0.length cD07, .slice aD17 DL1.length cD17, .slice aD27 DL2.length cD27, .int .i64 Dx3]
  have BXDh_8 := Lib.hid BXD_8
  clear BXD_8 hbA
  have HZ9 := Lib.hid ((show (w7.alloc (.cells #[.slice aD07 DL0.length cD07, .slice aD17 DL1.length cD17, .slice aD27 DL2.length cD27, .int .i64 Dx3] 44)).heap.size = w7.heap.size + 1 by simp))
  obtain ⟨wz8, hwz8⟩ : ∃ w, w = w7.alloc (.cells #[.slice aD07 DL0.length cD07, .slice aD17 DL1.length cD17, .slice aD27 DL2.length cD27, .int .i64 Dx3] 44) := ⟨_, rfl⟩
  rw [← hwz8] at PD_8 PE_8 PK_8 BXDh_8 HD_8 HE_8 XD_8 HB8 HZ8 HZ9
  have qPE_0 := PE_8.out.at_ 0 rfl
  have qPE_0_u := qPE_0
  rw [hwz8] at qPE_0_u
  go_wp2_with fail
  rw [← hwz8]
  clear hwz8
  refine (gto_Mail HSZE.out HE_8.out).mono ?_
  intro e w9 h
  obtain ⟨us, rfl, hu, hb⟩ := newV_elim h
  obtain ⟨aE09, cE09, rfl, hu⟩ := owc_Mail hu
  clear qPE_0 qPE_0_u
  have PD_9 := Lib.hid (PD_8.out.call hb)
  have PE_9 := Lib.hid (PE_8.out.call hb)
  have PK_9 := Lib.hid (PK_8.out.call hb)
  have BXD_9 := Lib.hid (BXDh_8.out.call hb)
  have HD_9 := Lib.hid (gmv R_Config_ok HD_8.out hb)
  have HE_9 := Lib.hid (gmv R_Mail_ok HE_8.out hb)
  have XD_9 := Lib.hid (XD_8.out.mv R_Config_ok hb)
  have HB9 := Lib.hid (HB8.out.trans ((hb).mono HB8.out.size))
  have HZ10 := Lib.hid ((hb).size)
  clear PD_8 PE_8 PK_8 BXDh_8 HD_8 HE_8 XD_8 HB8
  have XE_9 := Lib.hid (owG_new hu)
  have HSE := Lib.hid (fun k (hk : Rg wz8.heap.size w9.heap.size k) => hk)
  clear hu
  clear h hb
  have hbA : Below (w9).heap.size (w9) (w9.alloc (.cells #[.slice aE09 EL0.length cE09] 36)) := (Below.refl _ _).alloc (Nat.le_refl _) _
  have PD_10 := Lib.hid (PD_9.out.call hbA)
  have PE_10 := Lib.hid (PE_9.out.call hbA)
  have PK_10 := Lib.hid (PK_9.out.call hbA)
  have BXD_10 := Lib.hid (BXD_9.out.call hbA)
  have HD_10 := Lib.hid (gmv R_Config_ok HD_9.out hbA)
  have HE_10 := Lib.hid (gmv R_Mail_ok HE_9.out hbA)
  have XD_10 := Lib.hid (XD_9.out.mv R_Config_ok hbA)
  have XE_10 := Lib.hid (XE_9.out.mv R_Mail_ok hbA)
  have HB10 := Lib.hid (HB9.out.trans ((hbA).mono HB9.out.size))
  have HZ11 := Lib.hid ((hbA).size)
  clear PD_9 PE_9 PK_9 BXD_9 HD_9 HE_9 XD_9 XE_9 HB9
  have BXE_10 := Blk.new (w9) 36 #[.slice aE09 EL0.length cE09]
  have BXEh_10 := Lib.hid BXE_10
  clear BXE_10 hbA
  have HZ12 := Lib.hid ((show (w9.alloc (.cells #[.slice aE09 EL0.length cE09] 36)).heap.size = w9.heap.size + 1 by simp))
  obtain ⟨wz10, hwz10⟩ : ∃ w, w = w9.alloc (.cells #[.slice aE09 EL0.length cE09] 36) := ⟨_, rfl⟩
  rw [← hwz10] at PD_10 PE_10 PK_10 BXD_10 BXEh_10 HD_10 HE_10 XD_10 XE_10 HB10 HZ11 HZ12
  go_wp2_with fail
  rw [← hwz10]
  clear hwz10
  refine wp_region_held_drew (S := (fun V => Below (wz10).heap.size (wz10) V)) (by kernel_rfl) ((Below.refl _ _).drew) (fun hHeld => ?_)
  refine tk 0 hHeld ?_ (hy := fun w hSw => by (try dsimp only at hSw); have k0 := (hSw.cell (p := ⟨w7.heap.size, 0, none⟩) BXD_10.out.lt).trans (BXD_10.out.at_ 0 rfl); have k1 := (hSw.cell (p := ⟨w7.heap.size, 1, none⟩) BXD_10.out.lt).trans (BXD_10.out.at_ 1 rfl); have k2 := (hSw.cell (p := ⟨w7.heap.size, 2, none⟩) BXD_10.out.lt).trans (BXD_10.out.at_ 2 rfl); have k3 := (hSw.cell (p := ⟨w7.heap.size, 3, none⟩) BXD_10.out.lt).trans (BXD_10.out.at_ 3 rfl); clear hSw; go_simp; try with_reducible rfl)
  refine tk 1 hHeld ?_ (hy := fun w hSw => by (try dsimp only at hSw); have k0 := (hSw.cell (p := ⟨w9.heap.size, 0, none⟩) BXEh_10.out.lt).trans (BXEh_10.out.at_ 0 rfl); clear hSw; go_simp; try with_reducible rfl)
  refine tk 2 hHeld ?_ (hy := fun w hSw => by (try dsimp only at hSw); have k0 := (hSw.cell (p := ⟨(W.heap.size + 1 + 1), 0, none⟩) PK_10.out.lt).trans (PK_10.out.at_ 0 rfl); have k1 := (hSw.cell (p := ⟨(W.heap.size + 1 + 1), 1, none⟩) PK_10.out.lt).trans (PK_10.out.at_ 1 rfl); clear hSw; go_simp; try with_reducible rfl)
  refine rd1 3 (fun K hK => ?_)
  go_simp
  go_at_call 13
  refine (to_Label (by simp only [R_Label, Pr, I, atom] <;> omega)).mono ?_
  intro e w1001 h
  obtain ⟨us, rfl, hu, hb⟩ := newV_elim h
  obtain rfl := ow0_Label hu
  clear h hu
  refine hK.out _ _ (hHeld.trans (hb.mono hHeld.size)) (fun hHeld => ?_)
  clear hK K hb
  refine rd1 4 (fun K hK => ?_)
  go_simp
  go_at_call 29
  refine (gmaudit_impl HBDD.out (gmv R_Config_ok (XD_10.out.rd R_Config_ok) hHeld) (gmv R_Mail_ok (XE_10.out.rd R_Mail_ok) hHeld)).mono ?_
  intro e w1002 h
  rw [HDD.out] at h
  obtain ⟨rfl, hb⟩ := h
  have h := hb
  clear h
  refine hK.out _ _ (hHeld.trans (hb.mono hHeld.size)) (fun hHeld => ?_)
  clear hK K hb
  refine tk 5 hHeld ?_
  refine rd0 ?_
  have HF := Lib.hid hHeld
  clear hHeld
  have hF := HF.out
  have PD_11 := Lib.hid (PD_10.out.call hF)
  have PE_11 := Lib.hid (PE_10.out.call hF)
  have PK_11 := Lib.hid (PK_10.out.call hF)
  have BXD_11 := Lib.hid (BXD_10.out.call hF)
  have BXE_11 := Lib.hid (BXEh_10.out.call hF)
  have HD_11 := Lib.hid (gmv R_Config_ok HD_10.out hF)
  have HE_11 := Lib.hid (gmv R_Mail_ok HE_10.out hF)
  have XD_11 := Lib.hid (XD_10.out.mv R_Config_ok hF)
  have XE_11 := Lib.hid (XE_10.out.mv R_Mail_ok hF)
  have HB11 := Lib.hid (HB10.out.trans ((hF).mono HB10.out.size))
  have HZ13 := Lib.hid ((hF).size)
  clear PD_10 PE_10 PK_10 BXD_10 BXEh_10 HB10
  clear HF hF
  go_wp2_with fail
  refine wp_region_held_drew (S := (fun V => Below (w1002).heap.size (w1002) V)) (by kernel_rfl) ((Below.refl _ _).drew) (fun hHeld => ?_)
  refine tk 0 hHeld ?_ (hy := fun w hSw => by (try dsimp only at hSw); have k0 := (hSw.cell (p := ⟨w7.heap.size, 0, none⟩) BXD_11.out.lt).trans (BXD_11.out.at_ 0 rfl); have k1 := (hSw.cell (p := ⟨w7.heap.size, 1, none⟩) BXD_11.out.lt).trans (BXD_11.out.at_ 1 rfl); have k2 := (hSw.cell (p := ⟨w7.heap.size, 2, none⟩) BXD_11.out.lt).trans (BXD_11.out.at_ 2 rfl); have k3 := (hSw.cell (p := ⟨w7.heap.size, 3, none⟩) BXD_11.out.lt).trans (BXD_11.out.at_ 3 rfl); clear hSw; go_simp; try with_reducible rfl)
  refine tk 1 hHeld ?_ (hy := fun w hSw => by (try dsimp only at hSw); have k0 := (hSw.cell (p := ⟨W.heap.size, 0, none⟩) PD_11.out.lt).trans (PD_11.out.at_ 0 rfl); have k1 := (hSw.cell (p := ⟨W.heap.size, 1, none⟩) PD_11.out.lt).trans (PD_11.out.at_ 1 rfl); have k2 := (hSw.cell (p := ⟨W.heap.size, 2, none⟩) PD_11.out.lt).trans (PD_11.out.at_ 2 rfl); have k3 := (hSw.cell (p := ⟨W.heap.size, 3, none⟩) PD_11.out.lt).trans (PD_11.out.at_ 3 rfl); clear hSw; go_simp; try with_reducible rfl)
  refine rd1 2 (fun K hK => ?_)
  go_simp
  go_at_call 11
  refine (gto_Config HSZD.out (gmv R_Config_ok HD_11.out hHeld)).mono ?_
  intro e w1101 h
  obtain ⟨us, rfl, hu, hb⟩ := newV_elim h
  obtain ⟨aD01101, cD01101, aD11101, cD11101, aD21101, cD21101, rfl, hu⟩ := owc_Config hu
  have NZ := Lib.hid (owG_new hu)
  clear h hu
  refine hK.out _ _ (hHeld.trans (hb.mono hHeld.size)) (fun hHeld => ?_)
  clear hK K hb
  refine rd1 3 (fun K hK => ?_)
  go_simp
  go_at_call 16
  refine (geq_Config (gmv R_Config_ok (XD_11.out.rd R_Config_ok) hHeld) (NZ.out.rd R_Config_ok)).mono ?_
  intro e w1102 h
  obtain ⟨rfl, hb⟩ := isB_elim h
  clear h
  refine hK.out _ _ (hHeld.trans (hb.mono hHeld.size)) (fun hHeld => ?_)
  clear hK K hb
  refine tk 4 hHeld ?_
  refine rd0 ?_
  have HF := Lib.hid hHeld
  clear hHeld
  have hF := HF.out
  have PD_12 := Lib.hid (PD_11.out.call hF)
  have PE_12 := Lib.hid (PE_11.out.call hF)
  have PK_12 := Lib.hid (PK_11.out.call hF)
  have BXD_12 := Lib.hid (BXD_11.out.call hF)
  have BXE_12 := Lib.hid (BXE_11.out.call hF)
  have HD_12 := Lib.hid (gmv R_Config_ok HD_11.out hF)
  have HE_12 := Lib.hid (gmv R_Mail_ok HE_11.out hF)
  have XD_12 := Lib.hid (XD_11.out.mv R_Config_ok hF)
  have XE_12 := Lib.hid (XE_11.out.mv R_Mail_ok hF)
  have HB12 := Lib.hid (HB11.out.trans ((hF).mono HB11.out.size))
  have HZ14 := Lib.hid ((hF).size)
  clear PD_11 PE_11 PK_11 BXD_11 BXE_11 HD_11 HE_11 XD_11 XE_11 HB11
  clear HF hF NZ
  go_wp2_with fail
  refine wp_region_held_drew (S := (fun V => Below (w1102).heap.size (w1102) V)) (by kernel_rfl) ((Below.refl _ _).drew) (fun hHeld => ?_)
  refine tk 0 hHeld ?_ (hy := fun w hSw => by (try dsimp only at hSw); have k0 := (hSw.cell (p := ⟨w9.heap.size, 0, none⟩) BXE_12.out.lt).trans (BXE_12.out.at_ 0 rfl); clear hSw; go_simp; try with_reducible rfl)
  refine tk 1 hHeld ?_ (hy := fun w hSw => by (try dsimp only at hSw); have k0 := (hSw.cell (p := ⟨(W.heap.size + 1), 0, none⟩) PE_12.out.lt).trans (PE_12.out.at_ 0 rfl); clear hSw; go_simp; try with_reducible rfl)
  refine rd1 2 (fun K hK => ?_)
  go_simp
  go_at_call 12
  refine (gto_Mail HSZE.out (gmv R_Mail_ok HE_12.out hHeld)).mono ?_
  intro e w1201 h
  obtain ⟨us, rfl, hu, hb⟩ := newV_elim h
  obtain ⟨aE01201, cE01201, rfl, hu⟩ := owc_Mail hu
  have NZ := Lib.hid (owG_new hu)
  clear h hu
  refine hK.out _ _ (hHeld.trans (hb.mono hHeld.size)) (fun hHeld => ?_)
  clear hK K hb
  refine rd1 3 (fun K hK => ?_)
  go_simp
  go_at_call 17
  refine (geq_Mail (gmv R_Mail_ok (XE_12.out.rd R_Mail_ok) hHeld) (NZ.out.rd R_Mail_ok)).mono ?_
  intro e w1202 h
  obtain ⟨rfl, hb⟩ := isB_elim h
  clear h
  refine hK.out _ _ (hHeld.trans (hb.mono hHeld.size)) (fun hHeld => ?_)
  clear hK K hb
  refine tk 4 hHeld ?_
  refine rd0 ?_
  have HF := Lib.hid hHeld
  clear hHeld
  have hF := HF.out
  have PD_13 := Lib.hid (PD_12.out.call hF)
  have PE_13 := Lib.hid (PE_12.out.call hF)
  have PK_13 := Lib.hid (PK_12.out.call hF)
  have BXD_13 := Lib.hid (BXD_12.out.call hF)
  have BXE_13 := Lib.hid (BXE_12.out.call hF)
  have HD_13 := Lib.hid (gmv R_Config_ok HD_12.out hF)
  have HE_13 := Lib.hid (gmv R_Mail_ok HE_12.out hF)
  have XD_13 := Lib.hid (XD_12.out.mv R_Config_ok hF)
  have XE_13 := Lib.hid (XE_12.out.mv R_Mail_ok hF)
  have HB13 := Lib.hid (HB12.out.trans ((hF).mono HB12.out.size))
  have HZ15 := Lib.hid ((hF).size)
  clear PD_12 PE_12 PK_12 BXD_12 BXE_12 HD_12 HE_12 XD_12 XE_12 HB12
  clear HF hF NZ
  go_wp2
  go_ret
  exact ⟨rfl, HB13.out⟩
end Go.Proofs.YtlgflddljhldhaaGreat.RepC
end
