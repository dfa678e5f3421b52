/- Of this claim's texts the part 32: MlGLay MlW6. -/
import Derived.Test.YtlgflddljhldhaaGreatPL25
import Derived.Test.YtlgflddljhldhaaGreatPL29
import Derived.Test.YtlgflddljhldhaaGreatPL31
section
namespace Go.Proofs.YtlgflddljhldhaaGreat.RepC
open Go.RowKit RowC ValC SpanC KeptC CfC
set_option linter.unusedVariables false
set_option linter.unusedSimpArgs false
theorem gmlay_spec {d : D_Config} {m : D_Mail} {cs ds : List Value} {i x : Int} {W : World} (h : R_Config.rd W W.heap.size d cs) (k : R_Mail.rd W W.heap.size m ds) : Calls Tryz.prog 22 #[.agg cs.toArray, .agg ds.toArray, .int .i64 i, .int .i64 x] W (NewV R_MailOut (layV d m i x) W) := by
  obtain ⟨C, P, Q, hf⟩ := d
  obtain ⟨a0, c0, a1, c1, a2, c2, rfl, k0, k1, k2⟩ := rd_Config h
  obtain ⟨a3, c3, rfl, k3⟩ := rd_Mail k
  exact mlay_spec k0 k1 k2 k3
theorem gmlay_impl {d : D_Config} {m : D_Mail} {cs ds : List Value} {i x : Int} {W : World} (h : R_Config.rd W W.heap.size d cs) (k : R_Mail.rd W W.heap.size m ds) : Calls Tryz.prog 23 #[.agg cs.toArray, .agg ds.toArray, .int .i64 i, .int .i64 x] W (NewV R_MailOut (layV d m i x) W) := by
  obtain ⟨C, P, Q, hf⟩ := d
  obtain ⟨a0, c0, a1, c1, a2, c2, rfl, k0, k1, k2⟩ := rd_Config h
  obtain ⟨a3, c3, rfl, k3⟩ := rd_Mail k
  exact mlay_impl k0 k1 k2 k3
theorem set_small {d : D_Config} {m : D_Mail} {k : Nat} {b : D_Box} {y : D_Box} (h : mailB d m = true) (hb : m[k]? = some b) (h0 : y.1.length ≤ b.1.length + 1) (h1 : y.2.1.length ≤ b.2.1.length) (h2 : y.2.2.length ≤ b.2.2.length + 1) : R_MailOut.cv (m.set k y, 0) ≤ 1048576 := by
  have hm := mailB_iff.1 h
  refine out_small (by rw [List.length_set]; exact mail_len hm) fun x hx => ?_
  rcases List.mem_or_eq_of_mem_set hx with h3 | rfl
  · have h4 := right_box hm h3
    omega
  · have h4 := right_box hm (List.mem_of_getElem? hb)
    omega
theorem code_small (n : Int) : R_MailOut.cv ([], n) ≤ 1048576 := out_small (Nat.zero_le _) fun x hx => by cases hx
theorem lay_small {d : D_Config} {m : D_Mail} {i x : Int} {R : D_MailOut} (hd : layV d m i x = R) : R_MailOut.cv R ≤ 1048576 := by
  rw [← hd]
  unfold layV
  by_cases h : mailB d m = true
  · rw [if_pos h]
    by_cases h1 : 0 ≤ i ∧ i < (d.2.1.length : Int)
    · rw [if_pos h1]
      cases hb : m[i.toNat]? with
      | none => exact code_small 0
      | some b =>
        cases hp : d.2.1[i.toNat]? with
        | none => exact code_small 0
        | some p =>
          show R_MailOut.cv (if p.2.2 ≤ (b.1.length : Int) then ([], 8) else _) ≤ _
          by_cases h2 : p.2.2 ≤ (b.1.length : Int)
          · rw [if_pos h2]; exact code_small 8
          · rw [if_neg h2]
            exact set_small h hb (by show (b.1 ++ [x]).length ≤ _; simp) (Nat.le_refl _) (Nat.le_succ _)
    · rw [if_neg h1]; exact code_small 6
  · rw [if_neg h]; exact code_small 1
end Go.Proofs.YtlgflddljhldhaaGreat.RepC
end
section
namespace Go.Proofs.YtlgflddljhldhaaGreat.RepC
open Go.RowKit RowC ValC SpanC KeptC CfC
set_option linter.unusedVariables false
set_option linter.unusedSimpArgs false
set_option maxRecDepth 100000 in
set_option maxHeartbeats 4000000 in
theorem law_maillay {DL0 : List (List (D_Label))} {DL1 : List (D_Pair)} {DL2 : List (D_Quota)} {Dx3 : Int} {Da0 : Option Addr} {Dc0 : Nat} {Da1 : Option Addr} {Dc1 : Nat} {Da2 : Option Addr} {Dc2 : Nat} {EL0 : List (D_Box)} {Ea0 : Option Addr} {Ec0 : Nat} {N : Int} {K : Int} {W : World} (hD : R_Config.rd W W.heap.size (DL0, DL1, DL2, Dx3) [.slice Da0 DL0.length Dc0, .slice Da1 DL1.length Dc1, .slice Da2 DL2.length Dc2, .int .i64 Dx3]) (hE : R_Mail.rd W W.heap.size EL0 [.slice Ea0 EL0.length Ec0]) :
    Calls Tryz.prog 4 #[.agg #[.slice Da0 DL0.length Dc0, .slice Da1 DL1.length Dc1, .slice Da2 DL2.length Dc2, .int .i64 Dx3], .agg #[.slice Ea0 EL0.length Ec0], .int .i64 N, .int .i64 K] W fun e w' => e = .returned (.bool true) ∧ Below W.heap.size W w' := by
  have HD := Lib.hid hD
  have HD0 := Lib.hid hD
  clear hD
  have HE := Lib.hid hE
  have HE0 := Lib.hid hE
  clear hE
  have hbA : Below (W).heap.size (W) (W.alloc (.cells #[.slice Da0 DL0.length Dc0, .slice Da1 DL1.length Dc1, .slice Da2 DL2.length Dc2, .int .i64 Dx3] 26)) := (Below.refl _ _).alloc (Nat.le_refl _) _
  have HD_1 := Lib.hid (gmv R_Config_ok HD.out hbA)
  have HE_1 := Lib.hid (gmv R_Mail_ok HE.out hbA)
  have HB1 := Lib.hid (show Below W.heap.size W (W.alloc (.cells #[.slice Da0 DL0.length Dc0, .slice Da1 DL1.length Dc1, .slice Da2 DL2.length Dc2, .int .i64 Dx3] 26)) from hbA)
  have HZ1 := Lib.hid ((hbA).size)
  clear HD HE
  have PD_1 := Blk.new (W) 26 #[.slice Da0 DL0.length Dc0, .slice Da1 DL1.length Dc1, .slice Da2 DL2.length Dc2, .int .i64 Dx3]
  have PDh_1 := Lib.hid PD_1
  clear PD_1 hbA
  have hbA : Below (W.alloc (.cells #[.slice Da0 DL0.length Dc0, .slice Da1 DL1.length Dc1, .slice Da2 DL2.length Dc2, .int .i64 Dx3] 26)).heap.size (W.alloc (.cells #[.slice Da0 DL0.length Dc0, .slice Da1 DL1.length Dc1, .slice Da2 DL2.length Dc2, .int .i64 Dx3] 26)) ((W.alloc (.cells #[.slice Da0 DL0.length Dc0, .slice Da1 DL1.length Dc1, .slice Da2 DL2.length Dc2, .int .i64 Dx3] 26)).alloc (.cells #[.slice Ea0 EL0.length Ec0] 29)) := (Below.refl _ _).alloc (Nat.le_refl _) _
  have PD_2 := Lib.hid (PDh_1.out.call hbA)
  have HD_2 := Lib.hid (gmv R_Config_ok HD_1.out hbA)
  have HE_2 := Lib.hid (gmv R_Mail_ok HE_1.out hbA)
  have HB2 := Lib.hid (HB1.out.trans ((hbA).mono HB1.out.size))
  have HZ2 := Lib.hid ((hbA).size)
  clear PDh_1 HD_1 HE_1 HB1
  have PE_2 := Blk.new (W.alloc (.cells #[.slice Da0 DL0.length Dc0, .slice Da1 DL1.length Dc1, .slice Da2 DL2.length Dc2, .int .i64 Dx3] 26)) 29 #[.slice Ea0 EL0.length Ec0]
  have PEh_2 := Lib.hid PE_2
  clear PE_2 hbA
  have hq := PEh_2.out
  simp only [World.size_alloc] at hq
  clear PEh_2
  have PEh_2 := Lib.hid hq
  clear hq
  by_cases hszD : ((R_Config.sz (DL0, DL1, DL2, Dx3) : Nat) : Int) ≤ (1048576 : Int)
  rotate_left
  · skip
    go_enter Tryz.func4, Tryz.ntmps4
    have qPD_0 := PD_2.out.at_ 0 rfl
    have qPD_1 := PD_2.out.at_ 1 rfl
    have qPD_2 := PD_2.out.at_ 2 rfl
    have qPD_3 := PD_2.out.at_ 3 rfl
    have qPE_0 := PEh_2.out.at_ 0 rfl
    go_wp2_with fail
    refine (gsz_Config (l := (1048576 : Int)) (by omega) (by omega) HD_2.out).mono ?_
    intro e w3 h
    obtain ⟨rfl, hb⟩ := szC_elim h
    rw [szR_no (by omega)]
    clear qPD_0 qPD_1 qPD_2 qPD_3 qPE_0
    have PD_3 := Lib.hid (PD_2.out.call hb)
    have PE_3 := Lib.hid (PEh_2.out.call hb)
    have HD_3 := Lib.hid (gmv R_Config_ok HD_2.out hb)
    have HE_3 := Lib.hid (gmv R_Mail_ok HE_2.out hb)
    have HB3 := Lib.hid (HB2.out.trans ((hb).mono HB2.out.size))
    have HZ3 := Lib.hid ((hb).size)
    clear PD_2 PEh_2 HD_2 HE_2 HB2
    clear h hb
    go_wp2
    go_ret
    exact ⟨rfl, HB3.out⟩
  have hswD : R_Config.sz (DL0, DL1, DL2, Dx3) ≤ 1048576 := by omega
  have HSZD := Lib.hid hswD
  have HSAD := Lib.hid (cvs_Config hswD)
  clear hswD
  obtain ⟨mD, hmD⟩ : ∃ m : Nat, R_Config.sz (DL0, DL1, DL2, Dx3) = m := ⟨_, rfl⟩
  have HMD := Lib.hid hmD
  rw [hmD] at hszD
  clear hmD
  have hltD : decide ((1048576 : Int) - (mD : Int) < 0) = false := decide_eq_false (by omega)
  by_cases hszE : ((R_Mail.sz EL0 : Nat) : Int) ≤ (1048576 : Int) - (mD : Int)
  rotate_left
  · skip
    go_enter Tryz.func4, Tryz.ntmps4
    have qPD_0 := PD_2.out.at_ 0 rfl
    have qPD_1 := PD_2.out.at_ 1 rfl
    have qPD_2 := PD_2.out.at_ 2 rfl
    have qPD_3 := PD_2.out.at_ 3 rfl
    have qPE_0 := PEh_2.out.at_ 0 rfl
    go_wp2_with fail
    refine (gsz_Config (l := (1048576 : Int)) (by omega) (by omega) HD_2.out).mono ?_
    intro e w3 h
    obtain ⟨rfl, hb⟩ := szC_elim h
    rw [HMD.out, szR_yes (by omega)]
    clear qPD_0 qPD_1 qPD_2 qPD_3 qPE_0
    have PD_3 := Lib.hid (PD_2.out.call hb)
    have PE_3 := Lib.hid (PEh_2.out.call hb)
    have HD_3 := Lib.hid (gmv R_Config_ok HD_2.out hb)
    have HE_3 := Lib.hid (gmv R_Mail_ok HE_2.out hb)
    have HB3 := Lib.hid (HB2.out.trans ((hb).mono HB2.out.size))
    have HZ3 := Lib.hid ((hb).size)
    clear PD_2 PEh_2 HD_2 HE_2 HB2
    clear h hb
    have qPD_0 := PD_3.out.at_ 0 rfl
    have qPD_1 := PD_3.out.at_ 1 rfl
    have qPD_2 := PD_3.out.at_ 2 rfl
    have qPD_3 := PD_3.out.at_ 3 rfl
    have qPE_0 := PE_3.out.at_ 0 rfl
    go_wp2_with fail
    refine (gsz_Mail (l := (1048576 : Int) - (mD : Int)) (by omega) (by omega) HE_3.out).mono ?_
    intro e w4 h
    obtain ⟨rfl, hb⟩ := szC_elim h
    rw [szR_no (by omega)]
    clear qPD_0 qPD_1 qPD_2 qPD_3 qPE_0
    have PD_4 := Lib.hid (PD_3.out.call hb)
    have PE_4 := Lib.hid (PE_3.out.call hb)
    have HD_4 := Lib.hid (gmv R_Config_ok HD_3.out hb)
    have HE_4 := Lib.hid (gmv R_Mail_ok HE_3.out hb)
    have HB4 := Lib.hid (HB3.out.trans ((hb).mono HB3.out.size))
    have HZ4 := Lib.hid ((hb).size)
    clear PD_3 PE_3 HD_3 HE_3 HB3
    clear h hb
    go_wp2
    go_ret
    exact ⟨rfl, HB4.out⟩
  have hswE : R_Mail.sz EL0 ≤ 1048576 := by omega
  have HSZE := Lib.hid hswE
  have HSAE := Lib.hid (cvs_Mail hswE)
  clear hswE
  obtain ⟨mE, hmE⟩ : ∃ m : Nat, R_Mail.sz EL0 = m := ⟨_, rfl⟩
  have HME := Lib.hid hmE
  rw [hmE] at hszE
  clear hmE
  have hltE : decide ((1048576 : Int) - (mD : Int) - (mE : Int) < 0) = false := decide_eq_false (by omega)
  obtain ⟨⟨dL0, dx1⟩, hD⟩ : ∃ d, layV (DL0, DL1, DL2, Dx3) EL0 N K = d := ⟨_, rfl⟩
  have HDD := Lib.hid hD
  have HSM := Lib.hid (lay_small hD)
  clear hD
  go_enter Tryz.func4, Tryz.ntmps4
  have qPD_0 := PD_2.out.at_ 0 rfl
  have qPD_1 := PD_2.out.at_ 1 rfl
  have qPD_2 := PD_2.out.at_ 2 rfl
  have qPD_3 := PD_2.out.at_ 3 rfl
  have qPE_0 := PEh_2.out.at_ 0 rfl
  go_wp2_with fail
  refine (gsz_Config (l := (1048576 : Int)) (by omega) (by omega) HD_2.out).mono ?_
  intro e w3 h
  obtain ⟨rfl, hb⟩ := szC_elim h
  rw [HMD.out, szR_yes (by omega)]
  clear qPD_0 qPD_1 qPD_2 qPD_3 qPE_0
  have PD_3 := Lib.hid (PD_2.out.call hb)
  have PE_3 := Lib.hid (PEh_2.out.call hb)
  have HD_3 := Lib.hid (gmv R_Config_ok HD_2.out hb)
  have HE_3 := Lib.hid (gmv R_Mail_ok HE_2.out hb)
  have HB3 := Lib.hid (HB2.out.trans ((hb).mono HB2.out.size))
  have HZ3 := Lib.hid ((hb).size)
  clear PD_2 PEh_2 HD_2 HE_2 HB2
  clear h hb
  have qPD_0 := PD_3.out.at_ 0 rfl
  have qPD_1 := PD_3.out.at_ 1 rfl
  have qPD_2 := PD_3.out.at_ 2 rfl
  have qPD_3 := PD_3.out.at_ 3 rfl
  have qPE_0 := PE_3.out.at_ 0 rfl
  go_wp2_with fail
  refine (gsz_Mail (l := (1048576 : Int) - (mD : Int)) (by omega) (by omega) HE_3.out).mono ?_
  intro e w4 h
  obtain ⟨rfl, hb⟩ := szC_elim h
  rw [HME.out, szR_yes (by omega)]
  clear qPD_0 qPD_1 qPD_2 qPD_3 qPE_0
  have PD_4 := Lib.hid (PD_3.out.call hb)
  have PE_4 := Lib.hid (PE_3.out.call hb)
  have HD_4 := Lib.hid (gmv R_Config_ok HD_3.out hb)
  have HE_4 := Lib.hid (gmv R_Mail_ok HE_3.out hb)
  have HB4 := Lib.hid (HB3.out.trans ((hb).mono HB3.out.size))
  have HZ4 := Lib.hid ((hb).size)
  clear PD_3 PE_3 HD_3 HE_3 HB3
  clear h hb
  have qPD_0 := PD_4.out.at_ 0 rfl
  have qPD_1 := PD_4.out.at_ 1 rfl
  have qPD_2 := PD_4.out.at_ 2 rfl
  have qPD_3 := PD_4.out.at_ 3 rfl
  have qPE_0 := PE_4.out.at_ 0 rfl
  clear hszD hszE
  clear qPD_0 qPD_1 qPD_2 qPD_3 qPE_0
  have HPL := Lib.hid (PE_4.out.lt)
  go_upto_region 8 with fail
  go_cut [10] (fun s8 wx => ∃ (gw : Nat) (ra0w : Option Addr) (rc0w : Nat) (Sw : Nat → Prop), s8 = .pointer (some ⟨gw, 0, none⟩) ∧ Hid (Blk wx gw 38 #[.slice ra0w dL0.length rc0w, .int .i64 dx1]) ∧ Hid (OwG R_MailOut wx Sw (dL0, dx1) [.slice ra0w dL0.length rc0w, .int .i64 dx1]) ∧ Hid (∀ k, Sw k → w4.heap.size ≤ k ∧ k ≠ gw) ∧ Hid (w4.heap.size ≤ gw) ∧ Hid (Below w4.heap.size w4 wx))
  case first =>
    refine wp_region_held_drew (S := (fun V => Below w4.heap.size w4 V)) (by kernel_rfl) ((Below.refl _ _).drew) (fun hHeld => ?_)
    refine tk 0 hHeld ?_ (hy := fun w hSw => by (try dsimp only at hSw); have k0 := (hSw.cell (p := ⟨W.heap.size, 0, none⟩) PD_4.out.lt).trans (PD_4.out.at_ 0 rfl); have k1 := (hSw.cell (p := ⟨W.heap.size, 1, none⟩) PD_4.out.lt).trans (PD_4.out.at_ 1 rfl); have k2 := (hSw.cell (p := ⟨W.heap.size, 2, none⟩) PD_4.out.lt).trans (PD_4.out.at_ 2 rfl); have k3 := (hSw.cell (p := ⟨W.heap.size, 3, none⟩) PD_4.out.lt).trans (PD_4.out.at_ 3 rfl); clear hSw; go_simp; try with_reducible rfl)
    refine tk 2 hHeld ?_ (hy := fun w hSw => by (try dsimp only at hSw); have k0 := (hSw.cell (p := ⟨(W.heap.size + 1), 0, none⟩) PE_4.out.lt).trans (PE_4.out.at_ 0 rfl); clear hSw; go_simp; try with_reducible rfl)
    refine tk 4 hHeld ?_
    refine tk 5 hHeld ?_
    refine rd2 1 7 (fun K hK => ?_) (fun K hK => ?_)
    · skip
      go_simp
      go_at_call 11
      refine (gto_Config HSZD.out (gmv R_Config_ok HD_4.out hHeld)).mono ?_
      intro e v8_1 h
      obtain ⟨us, rfl, hu, hb⟩ := newV_elim h
      obtain ⟨aD0_8_1, cD0_8_1, aD1_8_1, cD1_8_1, aD2_8_1, cD2_8_1, rfl, hu⟩ := owc_Config hu
      have ND := Lib.hid (owG_new hu)
      clear h hu
      refine hK.out _ _ (hHeld.trans (hb.mono hHeld.size)) (fun hHeld => ?_)
      clear hK K hb
      refine rd2 3 7 (fun K hK => ?_) (fun K hK => ?_)
      · skip
        go_simp
        go_at_call 12
        refine (gto_Mail HSZE.out (gmv R_Mail_ok HE_4.out hHeld)).mono ?_
        intro e v8_2 h
        obtain ⟨us, rfl, hu, hb⟩ := newV_elim h
        obtain ⟨aE0_8_2, cE0_8_2, rfl, hu⟩ := owc_Mail hu
        have ND := Lib.hid (ND.out.mv R_Config_ok hb)
        have NE := Lib.hid (owG_new hu)
        clear h hu
        refine hK.out _ _ (hHeld.trans (hb.mono hHeld.size)) (fun hHeld => ?_)
        clear hK K hb
        refine rd2 6 7 (fun K hK => ?_) (fun K hK => ?_)
        · skip
          go_simp
          go_at_call 22
          refine (gmlay_spec (ND.out.rd R_Config_ok) (NE.out.rd R_Mail_ok)).mono ?_
          intro e v8_3 h
          rw [HDD.out] at h
          obtain ⟨us, rfl, hu, hb⟩ := newV_elim h
          obtain ⟨ra08_3, rc08_3, rfl, hu⟩ := owc_MailOut hu
          have hHeld0 := Lib.hid hHeld
          have OW := Lib.hid (owG_new hu)
          clear h hu ND NE
          refine hK.out _ _ (hHeld.trans (hb.mono hHeld.size)) (fun hHeld => ?_)
          clear hK K hb
          refine rd1 7 (fun K hK => ?_)
          go_simp
          have hb : Below (v8_3).heap.size (v8_3) (v8_3.alloc (.cells #[.slice none 0 0, .int .i64 0] 38)) := (Below.refl _ _).alloc (Nat.le_refl _) _
          have OW0 := OW
          have OW := Lib.hid (OW.out.mv R_MailOut_ok hb)
          have GB := Lib.hid (show Blk (v8_3.alloc (.cells #[.slice none 0 0, .int .i64 0] 38)) v8_3.heap.size 38 #[.slice none 0 0, .int .i64 0] from Blk.new (v8_3) 38 #[.slice none 0 0, .int .i64 0])
          have HGE := Lib.hid (show w4.heap.size ≤ v8_3.heap.size from hHeld.size)
          have HTB := Lib.hid (show ∀ k, Rg v8_2.heap.size v8_3.heap.size k → w4.heap.size ≤ k ∧ k ≠ v8_3.heap.size from fun k hk => ⟨Nat.le_trans hHeld0.out.size hk.1, by have := hk.2; omega⟩)
          have hPre := Lib.hid hHeld
          refine hK.out _ _ (hHeld.trans (hb.mono hHeld.size)) (fun hHeld => ?_)
          clear hK K hb
          refine rd1 8 (fun K hK => ?_)
          go_simp
          refine hK.out _ _ (hPre.out.alloc HGE.out (.cells #[.slice ra08_3 dL0.length rc08_3, .int .i64 dx1] 38)) (fun hHeld => ?_)
          clear hK K
          refine rd0 ?_
          go_wp2_with fail
          go_meet
          exact ⟨_, _, _, _, rfl, Lib.hid (Blk.new v8_3 38 #[.slice ra08_3 dL0.length rc08_3, .int .i64 dx1]), Lib.hid (OW0.out.mv R_MailOut_ok ((Below.refl _ _).alloc (Nat.le_refl _) (.cells #[.slice ra08_3 dL0.length rc08_3, .int .i64 dx1] 38))), HTB, HGE, Lib.hid hHeld⟩
        · skip
          go_simp
          have hb : Below (v8_2).heap.size (v8_2) (v8_2.alloc (.cells #[.slice none 0 0, .int .i64 0] 38)) := (Below.refl _ _).alloc (Nat.le_refl _) _
          have ND := Lib.hid (ND.out.mv R_Config_ok hb)
          have NE := Lib.hid (NE.out.mv R_Mail_ok hb)
          have GB := Lib.hid (show Blk (v8_2.alloc (.cells #[.slice none 0 0, .int .i64 0] 38)) v8_2.heap.size 38 #[.slice none 0 0, .int .i64 0] from Blk.new (v8_2) 38 #[.slice none 0 0, .int .i64 0])
          have HGE := Lib.hid (show w4.heap.size ≤ v8_2.heap.size from hHeld.size)
          refine hK.out _ _ (hHeld.trans (hb.mono hHeld.size)) (fun hHeld => ?_)
          clear hK K hb
          have GBl := Lib.hid (show v8_2.heap.size < (v8_2.alloc (.cells #[.slice none 0 0, .int .i64 0] 38)).heap.size from GB.out.lt)
          refine rd1 6 (fun K hK => ?_)
          go_simp
          go_at_call 22
          refine (gmlay_spec (ND.out.rd R_Config_ok) (NE.out.rd R_Mail_ok)).mono ?_
          intro e v8_4 h
          rw [HDD.out] at h
          obtain ⟨us, rfl, hu, hb⟩ := newV_elim h
          obtain ⟨ra08_4, rc08_4, rfl, hu⟩ := owc_MailOut hu
          have hHeld0 := Lib.hid hHeld
          have GB := Lib.hid (GB.out.call hb)
          have OW := Lib.hid (owG_new hu)
          have HTB := Lib.hid (show ∀ k, Rg (v8_2.alloc (.cells #[.slice none 0 0, .int .i64 0] 38)).heap.size v8_4.heap.size k → w4.heap.size ≤ k ∧ k ≠ v8_2.heap.size from fun k hk => ⟨Nat.le_trans hHeld.size hk.1, by have h1 := hk.1; have h2 := GBl.out; omega⟩)
          clear h hu ND NE
          refine hK.out _ _ (hHeld.trans (hb.mono hHeld.size)) (fun hHeld => ?_)
          clear hK K hb
          have GBl := Lib.hid (show v8_2.heap.size < v8_4.heap.size from GB.out.lt)
          refine rd1 8 (fun K hK => ?_)
          have q0 := GB.out.at_ 0 rfl
          have f0 := GB.out.soft 0
          have q1 := GB.out.at_ 1 rfl
          have f1 := GB.out.soft 1
          go_simp
          refine hK.out _ _ ((hHeld.setCell (p := ⟨v8_2.heap.size, 0, none⟩) (by exact HGE.out) (.slice ra08_4 dL0.length rc08_4)).setCell (p := ⟨v8_2.heap.size, 1, none⟩) (by exact HGE.out) (.int .i64 dx1)) (fun hHeld => ?_)
          clear hK K q0 f0 q1 f1
          refine rd0 ?_
          go_wp2_with fail
          go_meet
          exact ⟨_, _, _, _, rfl, Lib.hid (sets_MailOut GB.out), Lib.hid (OW.out.off R_MailOut_ok (soff_MailOut _ _ _ _) (fun k hk h2 => (HTB.out k hk).2 h2)), HTB, HGE, Lib.hid hHeld⟩
      · skip
        go_simp
        have hb : Below (v8_1).heap.size (v8_1) (v8_1.alloc (.cells #[.slice none 0 0, .int .i64 0] 38)) := (Below.refl _ _).alloc (Nat.le_refl _) _
        have ND := Lib.hid (ND.out.mv R_Config_ok hb)
        have GB := Lib.hid (show Blk (v8_1.alloc (.cells #[.slice none 0 0, .int .i64 0] 38)) v8_1.heap.size 38 #[.slice none 0 0, .int .i64 0] from Blk.new (v8_1) 38 #[.slice none 0 0, .int .i64 0])
        have HGE := Lib.hid (show w4.heap.size ≤ v8_1.heap.size from hHeld.size)
        refine hK.out _ _ (hHeld.trans (hb.mono hHeld.size)) (fun hHeld => ?_)
        clear hK K hb
        have GBl := Lib.hid (show v8_1.heap.size < (v8_1.alloc (.cells #[.slice none 0 0, .int .i64 0] 38)).heap.size from GB.out.lt)
        refine rd1 3 (fun K hK => ?_)
        go_simp
        go_at_call 12
        refine (gto_Mail HSZE.out (gmv R_Mail_ok HE_4.out hHeld)).mono ?_
        intro e v8_5 h
        obtain ⟨us, rfl, hu, hb⟩ := newV_elim h
        obtain ⟨aE0_8_5, cE0_8_5, rfl, hu⟩ := owc_Mail hu
        have ND := Lib.hid (ND.out.mv R_Config_ok hb)
        have GB := Lib.hid (GB.out.call hb)
        have NE := Lib.hid (owG_new hu)
        clear h hu
        refine hK.out _ _ (hHeld.trans (hb.mono hHeld.size)) (fun hHeld => ?_)
        clear hK K hb
        have GBl := Lib.hid (show v8_1.heap.size < v8_5.heap.size from GB.out.lt)
        refine rd1 6 (fun K hK => ?_)
        go_simp
        go_at_call 22
        refine (gmlay_spec (ND.out.rd R_Config_ok) (NE.out.rd R_Mail_ok)).mono ?_
        intro e v8_6 h
        rw [HDD.out] at h
        obtain ⟨us, rfl, hu, hb⟩ := newV_elim h
        obtain ⟨ra08_6, rc08_6, rfl, hu⟩ := owc_MailOut hu
        have hHeld0 := Lib.hid hHeld
        have GB := Lib.hid (GB.out.call hb)
        have OW := Lib.hid (owG_new hu)
        have HTB := Lib.hid (show ∀ k, Rg v8_5.heap.size v8_6.heap.size k → w4.heap.size ≤ k ∧ k ≠ v8_1.heap.size from fun k hk => ⟨Nat.le_trans hHeld.size hk.1, by have h1 := hk.1; have h2 := GBl.out; omega⟩)
        clear h hu ND NE
        refine hK.out _ _ (hHeld.trans (hb.mono hHeld.size)) (fun hHeld => ?_)
        clear hK K hb
        have GBl := Lib.hid (show v8_1.heap.size < v8_6.heap.size from GB.out.lt)
        refine rd1 8 (fun K hK => ?_)
        have q0 := GB.out.at_ 0 rfl
        have f0 := GB.out.soft 0
        have q1 := GB.out.at_ 1 rfl
        have f1 := GB.out.soft 1
        go_simp
        refine hK.out _ _ ((hHeld.setCell (p := ⟨v8_1.heap.size, 0, none⟩) (by exact HGE.out) (.slice ra08_6 dL0.length rc08_6)).setCell (p := ⟨v8_1.heap.size, 1, none⟩) (by exact HGE.out) (.int .i64 dx1)) (fun hHeld => ?_)
        clear hK K q0 f0 q1 f1
        refine rd0 ?_
        go_wp2_with fail
        go_meet
        exact ⟨_, _, _, _, rfl, Lib.hid (sets_MailOut GB.out), Lib.hid (OW.out.off R_MailOut_ok (soff_MailOut _ _ _ _) (fun k hk h2 => (HTB.out k hk).2 h2)), HTB, HGE, Lib.hid hHeld⟩
    · skip
      go_simp
      have hb : Below (w4.drew).heap.size (w4.drew) ((w4.drew).alloc (.cells #[.slice none 0 0, .int .i64 0] 38)) := (Below.refl _ _).alloc (Nat.le_refl _) _
      have GB := Lib.hid (show Blk ((w4.drew).alloc (.cells #[.slice none 0 0, .int .i64 0] 38)) w4.heap.size 38 #[.slice none 0 0, .int .i64 0] from Blk.new (w4.drew) 38 #[.slice none 0 0, .int .i64 0])
      have HGE := Lib.hid (show w4.heap.size ≤ w4.heap.size from hHeld.size)
      refine hK.out _ _ (hHeld.trans (hb.mono hHeld.size)) (fun hHeld => ?_)
      clear hK K hb
      have GBl := Lib.hid (show w4.heap.size < ((w4.drew).alloc (.cells #[.slice none 0 0, .int .i64 0] 38)).heap.size from GB.out.lt)
      refine rd1 1 (fun K hK => ?_)
      go_simp
      go_at_call 11
      refine (gto_Config HSZD.out (gmv R_Config_ok HD_4.out hHeld)).mono ?_
      intro e v8_7 h
      obtain ⟨us, rfl, hu, hb⟩ := newV_elim h
      obtain ⟨aD0_8_7, cD0_8_7, aD1_8_7, cD1_8_7, aD2_8_7, cD2_8_7, rfl, hu⟩ := owc_Config hu
      have GB := Lib.hid (GB.out.call hb)
      have ND := Lib.hid (owG_new hu)
      clear h hu
      refine hK.out _ _ (hHeld.trans (hb.mono hHeld.size)) (fun hHeld => ?_)
      clear hK K hb
      have GBl := Lib.hid (show w4.heap.size < v8_7.heap.size from GB.out.lt)
      refine rd1 3 (fun K hK => ?_)
      go_simp
      go_at_call 12
      refine (gto_Mail HSZE.out (gmv R_Mail_ok HE_4.out hHeld)).mono ?_
      intro e v8_8 h
      obtain ⟨us, rfl, hu, hb⟩ := newV_elim h
      obtain ⟨aE0_8_8, cE0_8_8, rfl, hu⟩ := owc_Mail hu
      have ND := Lib.hid (ND.out.mv R_Config_ok hb)
      have GB := Lib.hid (GB.out.call hb)
      have NE := Lib.hid (owG_new hu)
      clear h hu
      refine hK.out _ _ (hHeld.trans (hb.mono hHeld.size)) (fun hHeld => ?_)
      clear hK K hb
      have GBl := Lib.hid (show w4.heap.size < v8_8.heap.size from GB.out.lt)
      refine rd1 6 (fun K hK => ?_)
      go_simp
      go_at_call 22
      refine (gmlay_spec (ND.out.rd R_Config_ok) (NE.out.rd R_Mail_ok)).mono ?_
      intro e v8_9 h
      rw [HDD.out] at h
      obtain ⟨us, rfl, hu, hb⟩ := newV_elim h
      obtain ⟨ra08_9, rc08_9, rfl, hu⟩ := owc_MailOut hu
      have hHeld0 := Lib.hid hHeld
      have GB := Lib.hid (GB.out.call hb)
      have OW := Lib.hid (owG_new hu)
      have HTB := Lib.hid (show ∀ k, Rg v8_8.heap.size v8_9.heap.size k → w4.heap.size ≤ k ∧ k ≠ w4.heap.size from fun k hk => ⟨Nat.le_trans hHeld.size hk.1, by have h1 := hk.1; have h2 := GBl.out; omega⟩)
      clear h hu ND NE
      refine hK.out _ _ (hHeld.trans (hb.mono hHeld.size)) (fun hHeld => ?_)
      clear hK K hb
      have GBl := Lib.hid (show w4.heap.size < v8_9.heap.size from GB.out.lt)
      refine rd1 8 (fun K hK => ?_)
      have q0 := GB.out.at_ 0 rfl
      have f0 := GB.out.soft 0
      have q1 := GB.out.at_ 1 rfl
      have f1 := GB.out.soft 1
      go_simp
      refine hK.out _ _ ((hHeld.setCell (p := ⟨w4.heap.size, 0, none⟩) (by exact HGE.out) (.slice ra08_9 dL0.length rc08_9)).setCell (p := ⟨w4.heap.size, 1, none⟩) (by exact HGE.out) (.int .i64 dx1)) (fun hHeld => ?_)
      clear hK K q0 f0 q1 f1
      refine rd0 ?_
      go_wp2_with fail
      go_meet
      exact ⟨_, _, _, _, rfl, Lib.hid (sets_MailOut GB.out), Lib.hid (OW.out.off R_MailOut_ok (soff_MailOut _ _ _ _) (fun k hk h2 => (HTB.out k hk).2 h2)), HTB, HGE, Lib.hid hHeld⟩
  case rest =>
    obtain ⟨gw, ra0w, rc0w, Sw, rfl, HX8, HO8, HT8, HG8, hcb⟩ := hcut
    rename World => w5
    have hb := hcb.out
    have PD_5 := Lib.hid (PD_4.out.call hb)
    have PE_5 := Lib.hid (PE_4.out.call hb)
    have HD_5 := Lib.hid (gmv R_Config_ok HD_4.out hb)
    have HE_5 := Lib.hid (gmv R_Mail_ok HE_4.out hb)
    have HB5 := Lib.hid (HB4.out.trans ((hb).mono HB4.out.size))
    have HZ5 := Lib.hid ((hb).size)
    clear PD_4 PE_4 HD_4 HE_4 HB4
    clear hb hcb
    have Bw_5 := HX8
    have Yw_5 := HO8
    have HTw := HT8
    have HGw := HG8
    clear HX8 HO8 HT8 HG8
    have HSw := Lib.hid (fun k (hk : Sw k) => (⟨(HTw.out k hk).1, Yw_5.out.2 k hk⟩ : w4.heap.size ≤ k ∧ k < w5.heap.size))
    have HGLw := Lib.hid (show gw < w5.heap.size from Bw_5.out.lt)
    have qPD_0 := PD_5.out.at_ 0 rfl
    have qPD_1 := PD_5.out.at_ 1 rfl
    have qPD_2 := PD_5.out.at_ 2 rfl
    have qPD_3 := PD_5.out.at_ 3 rfl
    go_wp2_with fail
    refine (gto_Config HSZD.out HD_5.out).mono ?_
    intro e w6 h
    obtain ⟨us, rfl, hu, hb⟩ := newV_elim h
    obtain ⟨aD06, cD06, aD16, cD16, aD26, cD26, rfl, hu⟩ := owc_Config hu
    clear qPD_0 qPD_1 qPD_2 qPD_3
    have PD_6 := Lib.hid (PD_5.out.call hb)
    have PE_6 := Lib.hid (PE_5.out.call hb)
    have Bw_6 := Lib.hid (Bw_5.out.call hb)
    have HD_6 := Lib.hid (gmv R_Config_ok HD_5.out hb)
    have HE_6 := Lib.hid (gmv R_Mail_ok HE_5.out hb)
    have Yw_6 := Lib.hid (Yw_5.out.mv R_MailOut_ok hb)
    have HB6 := Lib.hid (HB5.out.trans ((hb).mono HB5.out.size))
    have HZ6 := Lib.hid ((hb).size)
    clear PD_5 PE_5 Bw_5 HD_5 HE_5 Yw_5 HB5
    have XD_6 := Lib.hid (owG_new hu)
    have HSD := Lib.hid (fun k (hk : Rg w5.heap.size w6.heap.size k) => hk)
    clear hu
    clear h hb
    have hbA : Below (w6).heap.size (w6) (w6.alloc (.cells #[.slice aD06 DL0.length cD06, .slice aD16 DL1.length cD16, .slice aD26 DL2.length cD26, .int .i64 Dx3] 44)) := (Below.refl _ _).alloc (Nat.le_refl _) _
    have PD_7 := Lib.hid (PD_6.out.call hbA)
    have PE_7 := Lib.hid (PE_6.out.call hbA)
    have Bw_7 := Lib.hid (Bw_6.out.call hbA)
    have HD_7 := Lib.hid (gmv R_Config_ok HD_6.out hbA)
    have HE_7 := Lib.hid (gmv R_Mail_ok HE_6.out hbA)
    have Yw_7 := Lib.hid (Yw_6.out.mv R_MailOut_ok hbA)
    have XD_7 := Lib.hid (XD_6.out.mv R_Config_ok hbA)
    have HB7 := Lib.hid (HB6.out.trans ((hbA).mono HB6.out.size))
    have HZ7 := Lib.hid ((hbA).size)
    clear PD_6 PE_6 Bw_6 HD_6 HE_6 Yw_6 XD_6 HB6
    have BXD_7 := Blk.new (w6) 44 #[.slice aD06 DL0.length cD06, .slice aD16 DL1.length cD16, .slice aD26 DL2.length cD26, .int .i64 Dx3]
    have BXDh_7 := Lib.hid BXD_7
    clear BXD_7 hbA
    have HZ8 := Lib.hid ((show (w6.alloc (.cells #[.slice aD06 DL0.length cD06, .slice aD16 DL1.length cD16, .slice aD26 DL2.length cD26, .int .i64 Dx3] 44)).heap.size = w6.heap.size + 1 by simp))
    obtain ⟨wz7, hwz7⟩ : ∃ w, w = w6.alloc (.cells #[.slice aD06 DL0.length cD06, .slice aD16 DL1.length cD16, .slice aD26 DL2.length cD26, .int .i64 Dx3] 44) := ⟨_, rfl⟩
    rw [← hwz7] at PD_7 PE_7 Bw_7 BXDh_7 HD_7 HE_7 Yw_7 XD_7 HB7 HZ7 HZ8
    have qPE_0 := PE_7.out.at_ 0 rfl
    have qPE_0_u := qPE_0
    rw [hwz7] at qPE_0_u
    go_wp2_with fail
    rw [← hwz7]
    clear hwz7
    refine (gto_Mail HSZE.out HE_7.out).mono ?_
    intro e w8 h
    obtain ⟨us, rfl, hu, hb⟩ := newV_elim h
    obtain ⟨aE08, cE08, rfl, hu⟩ := owc_Mail hu
    clear qPE_0 qPE_0_u
    have PD_8 := Lib.hid (PD_7.out.call hb)
    have PE_8 := Lib.hid (PE_7.out.call hb)
    have Bw_8 := Lib.hid (Bw_7.out.call hb)
    have BXD_8 := Lib.hid (BXDh_7.out.call hb)
    have HD_8 := Lib.hid (gmv R_Config_ok HD_7.out hb)
    have HE_8 := Lib.hid (gmv R_Mail_ok HE_7.out hb)
    have Yw_8 := Lib.hid (Yw_7.out.mv R_MailOut_ok hb)
    have XD_8 := Lib.hid (XD_7.out.mv R_Config_ok hb)
    have HB8 := Lib.hid (HB7.out.trans ((hb).mono HB7.out.size))
    have HZ9 := Lib.hid ((hb).size)
    clear PD_7 PE_7 Bw_7 BXDh_7 HD_7 HE_7 Yw_7 XD_7 HB7
    have XE_8 := Lib.hid (owG_new hu)
    have HSE := Lib.hid (fun k (hk : Rg wz7.heap.size w8.heap.size k) => hk)
    clear hu
    clear h hb
    have hbA : Below (w8).heap.size (w8) (w8.alloc (.cells #[.slice aE08 EL0.length cE08] 36)) := (Below.refl _ _).alloc (Nat.le_refl _) _
    have PD_9 := Lib.hid (PD_8.out.call hbA)
    have PE_9 := Lib.hid (PE_8.out.call hbA)
    have Bw_9 := Lib.hid (Bw_8.out.call hbA)
    have BXD_9 := Lib.hid (BXD_8.out.call hbA)
    have HD_9 := Lib.hid (gmv R_Config_ok HD_8.out hbA)
    have HE_9 := Lib.hid (gmv R_Mail_ok HE_8.out hbA)
    have Yw_9 := Lib.hid (Yw_8.out.mv R_MailOut_ok hbA)
    have XD_9 := Lib.hid (XD_8.out.mv R_Config_ok hbA)
    have XE_9 := Lib.hid (XE_8.out.mv R_Mail_ok hbA)
    have HB9 := Lib.hid (HB8.out.trans ((hbA).mono HB8.out.size))
    have HZ10 := Lib.hid ((hbA).size)
    clear PD_8 PE_8 Bw_8 BXD_8 HD_8 HE_8 Yw_8 XD_8 XE_8 HB8
    have BXE_9 := Blk.new (w8) 36 #[.slice aE08 EL0.length cE08]
    have BXEh_9 := Lib.hid BXE_9
    clear BXE_9 hbA
    have HZ11 := Lib.hid ((show (w8.alloc (.cells #[.slice aE08 EL0.length cE08] 36)).heap.size = w8.heap.size + 1 by simp))
    obtain ⟨wz9, hwz9⟩ : ∃ w, w = w8.alloc (.cells #[.slice aE08 EL0.length cE08] 36) := ⟨_, rfl⟩
    rw [← hwz9] at PD_9 PE_9 Bw_9 BXD_9 BXEh_9 HD_9 HE_9 Yw_9 XD_9 XE_9 HB9 HZ10 HZ11
    have qBXD_0 := BXD_9.out.at_ 0 rfl
    have qBXD_1 := BXD_9.out.at_ 1 rfl
    have qBXD_2 := BXD_9.out.at_ 2 rfl
    have qBXD_3 := BXD_9.out.at_ 3 rfl
    have qBXD_0_u := qBXD_0
    rw [hwz9] at qBXD_0_u
    have qBXD_1_u := qBXD_1
    rw [hwz9] at qBXD_1_u
    have qBXD_2_u := qBXD_2
    rw [hwz9] at qBXD_2_u
    have qBXD_3_u := qBXD_3
    rw [hwz9] at qBXD_3_u
    have qBXE_0 := BXEh_9.out.at_ 0 rfl
    have qBXE_0_u := qBXE_0
    rw [hwz9] at qBXE_0_u
    go_wp2_with fail
    rw [← hwz9]
    clear hwz9
    refine (gmlay_impl (XD_9.out.rd R_Config_ok) (XE_9.out.rd R_Mail_ok)).mono ?_
    intro e w10 h
    rw [HDD.out] at h
    obtain ⟨us, rfl, hu, hb⟩ := newV_elim h
    obtain ⟨ra0g, rc0g, rfl, hu⟩ := owc_MailOut hu
    clear qBXD_0 qBXD_1 qBXD_2 qBXD_3 qBXD_0_u qBXD_1_u qBXD_2_u qBXD_3_u qBXE_0 qBXE_0_u
    have PD_10 := Lib.hid (PD_9.out.call hb)
    have PE_10 := Lib.hid (PE_9.out.call hb)
    have Bw_10 := Lib.hid (Bw_9.out.call hb)
    have BXD_10 := Lib.hid (BXD_9.out.call hb)
    have BXE_10 := Lib.hid (BXEh_9.out.call hb)
    have HD_10 := Lib.hid (gmv R_Config_ok HD_9.out hb)
    have HE_10 := Lib.hid (gmv R_Mail_ok HE_9.out hb)
    have Yw_10 := Lib.hid (Yw_9.out.mv R_MailOut_ok hb)
    have XD_10 := Lib.hid (XD_9.out.mv R_Config_ok hb)
    have XE_10 := Lib.hid (XE_9.out.mv R_Mail_ok hb)
    have HB10 := Lib.hid (HB9.out.trans ((hb).mono HB9.out.size))
    have HZ12 := Lib.hid ((hb).size)
    clear PD_9 PE_9 Bw_9 BXD_9 BXEh_9 HD_9 HE_9 Yw_9 XD_9 XE_9 HB9
    have Yg_10 := Lib.hid (owG_new hu)
    have HSg := Lib.hid (fun k (hk : Rg wz9.heap.size w10.heap.size k) => hk)
    clear hu
    clear h hb
    have hbA : Below (w10).heap.size (w10) (w10.alloc (.cells #[.slice ra0g dL0.length rc0g, .int .i64 dx1] 38)) := (Below.refl _ _).alloc (Nat.le_refl _) _
    have PD_11 := Lib.hid (PD_10.out.call hbA)
    have PE_11 := Lib.hid (PE_10.out.call hbA)
    have Bw_11 := Lib.hid (Bw_10.out.call hbA)
    have BXD_11 := Lib.hid (BXD_10.out.call hbA)
    have BXE_11 := Lib.hid (BXE_10.out.call hbA)
    have HD_11 := Lib.hid (gmv R_Config_ok HD_10.out hbA)
    have HE_11 := Lib.hid (gmv R_Mail_ok HE_10.out hbA)
    have Yw_11 := Lib.hid (Yw_10.out.mv R_MailOut_ok hbA)
    have XD_11 := Lib.hid (XD_10.out.mv R_Config_ok hbA)
    have XE_11 := Lib.hid (XE_10.out.mv R_Mail_ok hbA)
    have Yg_11 := Lib.hid (Yg_10.out.mv R_MailOut_ok hbA)
    have HB11 := Lib.hid (HB10.out.trans ((hbA).mono HB10.out.size))
    have HZ13 := Lib.hid ((hbA).size)
    clear PD_10 PE_10 Bw_10 BXD_10 BXE_10 HB10
    have Bg_11 := Blk.new (w10) 38 #[.slice ra0g dL0.length rc0g, .int .i64 dx1]
    have Bgh_11 := Lib.hid Bg_11
    clear Bg_11 hbA
    have HZ14 := Lib.hid ((show (w10.alloc (.cells #[.slice ra0g dL0.length rc0g, .int .i64 dx1] 38)).heap.size = w10.heap.size + 1 by simp))
    obtain ⟨wz11, hwz11⟩ : ∃ w, w = w10.alloc (.cells #[.slice ra0g dL0.length rc0g, .int .i64 dx1] 38) := ⟨_, rfl⟩
    rw [← hwz11] at PD_11 PE_11 Bw_11 BXD_11 BXE_11 Bgh_11 HD_11 HE_11 Yw_11 XD_11 XE_11 Yg_11 HB11 HZ13 HZ14
    have qBg_0 := Bgh_11.out.at_ 0 rfl
    have qBg_1 := Bgh_11.out.at_ 1 rfl
    have qBw_0 := Bw_11.out.at_ 0 rfl
    have qBw_1 := Bw_11.out.at_ 1 rfl
    have qBg_0_u := qBg_0
    rw [hwz11] at qBg_0_u
    have qBg_1_u := qBg_1
    rw [hwz11] at qBg_1_u
    have qBw_0_u := qBw_0
    rw [hwz11] at qBw_0_u
    have qBw_1_u := qBw_1
    rw [hwz11] at qBw_1_u
    go_wp2_with fail
    rw [← hwz11]
    clear hwz11
    refine (geq_MailOut (Yg_11.out.rd R_MailOut_ok) (Yw_11.out.rd R_MailOut_ok)).mono ?_
    intro e w12 h
    obtain ⟨rfl, hb⟩ := isB_elim h
    clear qBg_0 qBg_1 qBw_0 qBw_1 qBg_0_u qBg_1_u qBw_0_u qBw_1_u
    have PD_12 := Lib.hid (PD_11.out.call hb)
    have PE_12 := Lib.hid (PE_11.out.call hb)
    have Bw_12 := Lib.hid (Bw_11.out.call hb)
    have BXD_12 := Lib.hid (BXD_11.out.call hb)
    have BXE_12 := Lib.hid (BXE_11.out.call hb)
    have Bg_12 := Lib.hid (Bgh_11.out.call hb)
    have HD_12 := Lib.hid (gmv R_Config_ok HD_11.out hb)
    have HE_12 := Lib.hid (gmv R_Mail_ok HE_11.out hb)
    have Yw_12 := Lib.hid (Yw_11.out.mv R_MailOut_ok hb)
    have XD_12 := Lib.hid (XD_11.out.mv R_Config_ok hb)
    have XE_12 := Lib.hid (XE_11.out.mv R_Mail_ok hb)
    have Yg_12 := Lib.hid (Yg_11.out.mv R_MailOut_ok hb)
    have HB12 := Lib.hid (HB11.out.trans ((hb).mono HB11.out.size))
    have HZ15 := Lib.hid ((hb).size)
    clear PD_11 PE_11 Bw_11 BXD_11 BXE_11 Bgh_11 HD_11 HE_11 Yw_11 XD_11 XE_11 Yg_11 HB11
    clear h hb
    go_wp2_with fail
    refine wp_region_held_drew (S := (fun V => Below (w12).heap.size (w12) V)) (by kernel_rfl) ((Below.refl _ _).drew) (fun hHeld => ?_)
    refine tk 0 hHeld ?_ (hy := fun w hSw => by (try dsimp only at hSw); have k0 := (hSw.cell (p := ⟨w6.heap.size, 0, none⟩) BXD_12.out.lt).trans (BXD_12.out.at_ 0 rfl); have k1 := (hSw.cell (p := ⟨w6.heap.size, 1, none⟩) BXD_12.out.lt).trans (BXD_12.out.at_ 1 rfl); have k2 := (hSw.cell (p := ⟨w6.heap.size, 2, none⟩) BXD_12.out.lt).trans (BXD_12.out.at_ 2 rfl); have k3 := (hSw.cell (p := ⟨w6.heap.size, 3, none⟩) BXD_12.out.lt).trans (BXD_12.out.at_ 3 rfl); clear hSw; go_simp; try with_reducible rfl)
    refine tk 1 hHeld ?_ (hy := fun w hSw => by (try dsimp only at hSw); have k0 := (hSw.cell (p := ⟨W.heap.size, 0, none⟩) PD_12.out.lt).trans (PD_12.out.at_ 0 rfl); have k1 := (hSw.cell (p := ⟨W.heap.size, 1, none⟩) PD_12.out.lt).trans (PD_12.out.at_ 1 rfl); have k2 := (hSw.cell (p := ⟨W.heap.size, 2, none⟩) PD_12.out.lt).trans (PD_12.out.at_ 2 rfl); have k3 := (hSw.cell (p := ⟨W.heap.size, 3, none⟩) PD_12.out.lt).trans (PD_12.out.at_ 3 rfl); clear hSw; go_simp; try with_reducible rfl)
    refine rd1 2 (fun K hK => ?_)
    go_simp
    go_at_call 11
    refine (gto_Config HSZD.out (gmv R_Config_ok HD_12.out hHeld)).mono ?_
    intro e w1201 h
    obtain ⟨us, rfl, hu, hb⟩ := newV_elim h
    obtain ⟨aD01201, cD01201, aD11201, cD11201, aD21201, cD21201, rfl, hu⟩ := owc_Config hu
    have NZ := Lib.hid (owG_new hu)
    clear h hu
    refine hK.out _ _ (hHeld.trans (hb.mono hHeld.size)) (fun hHeld => ?_)
    clear hK K hb
    refine rd1 3 (fun K hK => ?_)
    go_simp
    go_at_call 16
    refine (geq_Config (gmv R_Config_ok (XD_12.out.rd R_Config_ok) hHeld) (NZ.out.rd R_Config_ok)).mono ?_
    intro e w1202 h
    obtain ⟨rfl, hb⟩ := isB_elim h
    clear h
    refine hK.out _ _ (hHeld.trans (hb.mono hHeld.size)) (fun hHeld => ?_)
    clear hK K hb
    refine tk 4 hHeld ?_
    refine rd0 ?_
    have HF := Lib.hid hHeld
    clear hHeld
    have hF := HF.out
    have PD_13 := Lib.hid (PD_12.out.call hF)
    have PE_13 := Lib.hid (PE_12.out.call hF)
    have Bw_13 := Lib.hid (Bw_12.out.call hF)
    have BXD_13 := Lib.hid (BXD_12.out.call hF)
    have BXE_13 := Lib.hid (BXE_12.out.call hF)
    have Bg_13 := Lib.hid (Bg_12.out.call hF)
    have HD_13 := Lib.hid (gmv R_Config_ok HD_12.out hF)
    have HE_13 := Lib.hid (gmv R_Mail_ok HE_12.out hF)
    have Yw_13 := Lib.hid (Yw_12.out.mv R_MailOut_ok hF)
    have XD_13 := Lib.hid (XD_12.out.mv R_Config_ok hF)
    have XE_13 := Lib.hid (XE_12.out.mv R_Mail_ok hF)
    have Yg_13 := Lib.hid (Yg_12.out.mv R_MailOut_ok hF)
    have HB13 := Lib.hid (HB12.out.trans ((hF).mono HB12.out.size))
    have HZ16 := Lib.hid ((hF).size)
    clear PD_12 PE_12 Bw_12 BXD_12 BXE_12 Bg_12 HD_12 HE_12 Yw_12 XD_12 XE_12 Yg_12 HB12
    clear HF hF NZ
    go_wp2_with fail
    refine wp_region_held_drew (S := (fun V => Below (w1202).heap.size (w1202) V)) (by kernel_rfl) ((Below.refl _ _).drew) (fun hHeld => ?_)
    refine tk 0 hHeld ?_ (hy := fun w hSw => by (try dsimp only at hSw); have k0 := (hSw.cell (p := ⟨w8.heap.size, 0, none⟩) BXE_13.out.lt).trans (BXE_13.out.at_ 0 rfl); clear hSw; go_simp; try with_reducible rfl)
    refine tk 1 hHeld ?_ (hy := fun w hSw => by (try dsimp only at hSw); have k0 := (hSw.cell (p := ⟨(W.heap.size + 1), 0, none⟩) PE_13.out.lt).trans (PE_13.out.at_ 0 rfl); clear hSw; go_simp; try with_reducible rfl)
    refine rd1 2 (fun K hK => ?_)
    go_simp
    go_at_call 12
    refine (gto_Mail HSZE.out (gmv R_Mail_ok HE_13.out hHeld)).mono ?_
    intro e w1301 h
    obtain ⟨us, rfl, hu, hb⟩ := newV_elim h
    obtain ⟨aE01301, cE01301, rfl, hu⟩ := owc_Mail hu
    have NZ := Lib.hid (owG_new hu)
    clear h hu
    refine hK.out _ _ (hHeld.trans (hb.mono hHeld.size)) (fun hHeld => ?_)
    clear hK K hb
    refine rd1 3 (fun K hK => ?_)
    go_simp
    go_at_call 17
    refine (geq_Mail (gmv R_Mail_ok (XE_13.out.rd R_Mail_ok) hHeld) (NZ.out.rd R_Mail_ok)).mono ?_
    intro e w1302 h
    obtain ⟨rfl, hb⟩ := isB_elim h
    clear h
    refine hK.out _ _ (hHeld.trans (hb.mono hHeld.size)) (fun hHeld => ?_)
    clear hK K hb
    refine tk 4 hHeld ?_
    refine rd0 ?_
    have HF := Lib.hid hHeld
    clear hHeld
    have hF := HF.out
    have PD_14 := Lib.hid (PD_13.out.call hF)
    have PE_14 := Lib.hid (PE_13.out.call hF)
    have Bw_14 := Lib.hid (Bw_13.out.call hF)
    have BXD_14 := Lib.hid (BXD_13.out.call hF)
    have BXE_14 := Lib.hid (BXE_13.out.call hF)
    have Bg_14 := Lib.hid (Bg_13.out.call hF)
    have HD_14 := Lib.hid (gmv R_Config_ok HD_13.out hF)
    have HE_14 := Lib.hid (gmv R_Mail_ok HE_13.out hF)
    have Yw_14 := Lib.hid (Yw_13.out.mv R_MailOut_ok hF)
    have XD_14 := Lib.hid (XD_13.out.mv R_Config_ok hF)
    have XE_14 := Lib.hid (XE_13.out.mv R_Mail_ok hF)
    have Yg_14 := Lib.hid (Yg_13.out.mv R_MailOut_ok hF)
    have HB14 := Lib.hid (HB13.out.trans ((hF).mono HB13.out.size))
    have HZ17 := Lib.hid ((hF).size)
    clear PD_13 PE_13 Bw_13 BXD_13 BXE_13 Bg_13 HD_13 HE_13 Yw_13 XD_13 XE_13 Yg_13 HB13
    clear HF hF NZ
    have qBXD_0 := BXD_14.out.at_ 0 rfl
    have qBXD_1 := BXD_14.out.at_ 1 rfl
    have qBXD_2 := BXD_14.out.at_ 2 rfl
    have qBXD_3 := BXD_14.out.at_ 3 rfl
    go_wp2_with fail
    refine (gmark_Config (by omega) (by have h1 := HSAD.out; omega) XD_14.out.2 XD_14.out.1).mono ?_
    intro e wm0 h
    obtain ⟨dM0, y0, rfl, hmv, hzz, ho, hoff⟩ := markG_elim h
    clear qBXD_0 qBXD_1 qBXD_2 qBXD_3
    have HB15 := Lib.hid (HB14.out.trans (hoff.below HB14.out.size (fun k hk => by have zHZ3 := HZ3.out; have zHZ4 := HZ4.out; have zHZ5 := HZ5.out; have zHZ6 := HZ6.out; have zHZ7 := HZ7.out; have zHZ8 := HZ8.out; have zHZ9 := HZ9.out; have zHZ10 := HZ10.out; have zHZ11 := HZ11.out; have zHZ12 := HZ12.out; have zHZ13 := HZ13.out; have zHZ14 := HZ14.out; have zHZ15 := HZ15.out; have zHZ16 := HZ16.out; have zHZ17 := HZ17.out; have yHPL := HPL.out; have yHGLw := HGLw.out; have yHGw := HGw.out; have rD := HSD.out _ hk; try unfold Rg at rD; omega)))
    have PD_15 := Lib.hid (PD_14.out.off hoff PD_14.out.lt (fun hk => by have zHZ3 := HZ3.out; have zHZ4 := HZ4.out; have zHZ5 := HZ5.out; have zHZ6 := HZ6.out; have zHZ7 := HZ7.out; have zHZ8 := HZ8.out; have zHZ9 := HZ9.out; have zHZ10 := HZ10.out; have zHZ11 := HZ11.out; have zHZ12 := HZ12.out; have zHZ13 := HZ13.out; have zHZ14 := HZ14.out; have zHZ15 := HZ15.out; have zHZ16 := HZ16.out; have zHZ17 := HZ17.out; have yHPL := HPL.out; have yHGLw := HGLw.out; have yHGw := HGw.out; have rD := HSD.out _ hk; try unfold Rg at rD; omega))
    have PE_15 := Lib.hid (PE_14.out.off hoff PE_14.out.lt (fun hk => by have zHZ3 := HZ3.out; have zHZ4 := HZ4.out; have zHZ5 := HZ5.out; have zHZ6 := HZ6.out; have zHZ7 := HZ7.out; have zHZ8 := HZ8.out; have zHZ9 := HZ9.out; have zHZ10 := HZ10.out; have zHZ11 := HZ11.out; have zHZ12 := HZ12.out; have zHZ13 := HZ13.out; have zHZ14 := HZ14.out; have zHZ15 := HZ15.out; have zHZ16 := HZ16.out; have zHZ17 := HZ17.out; have yHPL := HPL.out; have yHGLw := HGLw.out; have yHGw := HGw.out; have rD := HSD.out _ hk; try unfold Rg at rD; omega))
    have Bw_15 := Lib.hid (Bw_14.out.off hoff Bw_14.out.lt (fun hk => by have zHZ3 := HZ3.out; have zHZ4 := HZ4.out; have zHZ5 := HZ5.out; have zHZ6 := HZ6.out; have zHZ7 := HZ7.out; have zHZ8 := HZ8.out; have zHZ9 := HZ9.out; have zHZ10 := HZ10.out; have zHZ11 := HZ11.out; have zHZ12 := HZ12.out; have zHZ13 := HZ13.out; have zHZ14 := HZ14.out; have zHZ15 := HZ15.out; have zHZ16 := HZ16.out; have zHZ17 := HZ17.out; have yHPL := HPL.out; have yHGLw := HGLw.out; have yHGw := HGw.out; have rD := HSD.out _ hk; try unfold Rg at rD; omega))
    have BXD_15 := Lib.hid (BXD_14.out.off hoff BXD_14.out.lt (fun hk => by have zHZ3 := HZ3.out; have zHZ4 := HZ4.out; have zHZ5 := HZ5.out; have zHZ6 := HZ6.out; have zHZ7 := HZ7.out; have zHZ8 := HZ8.out; have zHZ9 := HZ9.out; have zHZ10 := HZ10.out; have zHZ11 := HZ11.out; have zHZ12 := HZ12.out; have zHZ13 := HZ13.out; have zHZ14 := HZ14.out; have zHZ15 := HZ15.out; have zHZ16 := HZ16.out; have zHZ17 := HZ17.out; have yHPL := HPL.out; have yHGLw := HGLw.out; have yHGw := HGw.out; have rD := HSD.out _ hk; try unfold Rg at rD; omega))
    have BXE_15 := Lib.hid (BXE_14.out.off hoff BXE_14.out.lt (fun hk => by have zHZ3 := HZ3.out; have zHZ4 := HZ4.out; have zHZ5 := HZ5.out; have zHZ6 := HZ6.out; have zHZ7 := HZ7.out; have zHZ8 := HZ8.out; have zHZ9 := HZ9.out; have zHZ10 := HZ10.out; have zHZ11 := HZ11.out; have zHZ12 := HZ12.out; have zHZ13 := HZ13.out; have zHZ14 := HZ14.out; have zHZ15 := HZ15.out; have zHZ16 := HZ16.out; have zHZ17 := HZ17.out; have yHPL := HPL.out; have yHGLw := HGLw.out; have yHGw := HGw.out; have rD := HSD.out _ hk; try unfold Rg at rD; omega))
    have Bg_15 := Lib.hid (Bg_14.out.off hoff Bg_14.out.lt (fun hk => by have zHZ3 := HZ3.out; have zHZ4 := HZ4.out; have zHZ5 := HZ5.out; have zHZ6 := HZ6.out; have zHZ7 := HZ7.out; have zHZ8 := HZ8.out; have zHZ9 := HZ9.out; have zHZ10 := HZ10.out; have zHZ11 := HZ11.out; have zHZ12 := HZ12.out; have zHZ13 := HZ13.out; have zHZ14 := HZ14.out; have zHZ15 := HZ15.out; have zHZ16 := HZ16.out; have zHZ17 := HZ17.out; have yHPL := HPL.out; have yHGLw := HGLw.out; have yHGw := HGw.out; have rD := HSD.out _ hk; try unfold Rg at rD; omega))
    have HD_15 := Lib.hid (gmv R_Config_ok HD0.out HB15.out)
    have HE_15 := Lib.hid (gmv R_Mail_ok HE0.out HB15.out)
    have Yw_15 := Lib.hid (Yw_14.out.off R_MailOut_ok hoff (fun k hk hk2 => by have zHZ3 := HZ3.out; have zHZ4 := HZ4.out; have zHZ5 := HZ5.out; have zHZ6 := HZ6.out; have zHZ7 := HZ7.out; have zHZ8 := HZ8.out; have zHZ9 := HZ9.out; have zHZ10 := HZ10.out; have zHZ11 := HZ11.out; have zHZ12 := HZ12.out; have zHZ13 := HZ13.out; have zHZ14 := HZ14.out; have zHZ15 := HZ15.out; have zHZ16 := HZ16.out; have zHZ17 := HZ17.out; have yHPL := HPL.out; have yHGLw := HGLw.out; have yHGw := HGw.out; have rD := HSD.out k hk2; try unfold Rg at rD; have rw := HSw.out k hk; try unfold Rg at rw; omega))
    have XE_15 := Lib.hid (XE_14.out.off R_Mail_ok hoff (fun k hk hk2 => by have zHZ3 := HZ3.out; have zHZ4 := HZ4.out; have zHZ5 := HZ5.out; have zHZ6 := HZ6.out; have zHZ7 := HZ7.out; have zHZ8 := HZ8.out; have zHZ9 := HZ9.out; have zHZ10 := HZ10.out; have zHZ11 := HZ11.out; have zHZ12 := HZ12.out; have zHZ13 := HZ13.out; have zHZ14 := HZ14.out; have zHZ15 := HZ15.out; have zHZ16 := HZ16.out; have zHZ17 := HZ17.out; have yHPL := HPL.out; have yHGLw := HGLw.out; have yHGw := HGw.out; have rD := HSD.out k hk2; try unfold Rg at rD; have rE := HSE.out k hk; try unfold Rg at rE; omega))
    have Yg_15 := Lib.hid (Yg_14.out.off R_MailOut_ok hoff (fun k hk hk2 => by have zHZ3 := HZ3.out; have zHZ4 := HZ4.out; have zHZ5 := HZ5.out; have zHZ6 := HZ6.out; have zHZ7 := HZ7.out; have zHZ8 := HZ8.out; have zHZ9 := HZ9.out; have zHZ10 := HZ10.out; have zHZ11 := HZ11.out; have zHZ12 := HZ12.out; have zHZ13 := HZ13.out; have zHZ14 := HZ14.out; have zHZ15 := HZ15.out; have zHZ16 := HZ16.out; have zHZ17 := HZ17.out; have yHPL := HPL.out; have yHGLw := HGLw.out; have yHGw := HGw.out; have rD := HSD.out k hk2; try unfold Rg at rD; have rg := HSg.out k hk; try unfold Rg at rg; omega))
    have hyl0 : 0 ≤ y0 := by omega
    have hyu0 : y0 ≤ 20000000 := by have h1 := HSAD.out; omega
    have HZ18 := Lib.hid (hoff.size)
    clear h hmv hzz ho hoff
    have qBXE_0 := BXE_15.out.at_ 0 rfl
    go_wp2_with fail
    refine (gmark_Mail (by omega) (by have h1 := HSAE.out; omega) XE_15.out.2 XE_15.out.1).mono ?_
    intro e wm1 h
    obtain ⟨dM1, y1, rfl, hmv, hzz, ho, hoff⟩ := markG_elim h
    clear qBXE_0
    have HB16 := Lib.hid (HB15.out.trans (hoff.below HB15.out.size (fun k hk => by have zHZ3 := HZ3.out; have zHZ4 := HZ4.out; have zHZ5 := HZ5.out; have zHZ6 := HZ6.out; have zHZ7 := HZ7.out; have zHZ8 := HZ8.out; have zHZ9 := HZ9.out; have zHZ10 := HZ10.out; have zHZ11 := HZ11.out; have zHZ12 := HZ12.out; have zHZ13 := HZ13.out; have zHZ14 := HZ14.out; have zHZ15 := HZ15.out; have zHZ16 := HZ16.out; have zHZ17 := HZ17.out; have zHZ18 := HZ18.out; have yHPL := HPL.out; have yHGLw := HGLw.out; have yHGw := HGw.out; have rE := HSE.out _ hk; try unfold Rg at rE; omega)))
    have PD_16 := Lib.hid (PD_15.out.off hoff PD_15.out.lt (fun hk => by have zHZ3 := HZ3.out; have zHZ4 := HZ4.out; have zHZ5 := HZ5.out; have zHZ6 := HZ6.out; have zHZ7 := HZ7.out; have zHZ8 := HZ8.out; have zHZ9 := HZ9.out; have zHZ10 := HZ10.out; have zHZ11 := HZ11.out; have zHZ12 := HZ12.out; have zHZ13 := HZ13.out; have zHZ14 := HZ14.out; have zHZ15 := HZ15.out; have zHZ16 := HZ16.out; have zHZ17 := HZ17.out; have zHZ18 := HZ18.out; have yHPL := HPL.out; have yHGLw := HGLw.out; have yHGw := HGw.out; have rE := HSE.out _ hk; try unfold Rg at rE; omega))
    have PE_16 := Lib.hid (PE_15.out.off hoff PE_15.out.lt (fun hk => by have zHZ3 := HZ3.out; have zHZ4 := HZ4.out; have zHZ5 := HZ5.out; have zHZ6 := HZ6.out; have zHZ7 := HZ7.out; have zHZ8 := HZ8.out; have zHZ9 := HZ9.out; have zHZ10 := HZ10.out; have zHZ11 := HZ11.out; have zHZ12 := HZ12.out; have zHZ13 := HZ13.out; have zHZ14 := HZ14.out; have zHZ15 := HZ15.out; have zHZ16 := HZ16.out; have zHZ17 := HZ17.out; have zHZ18 := HZ18.out; have yHPL := HPL.out; have yHGLw := HGLw.out; have yHGw := HGw.out; have rE := HSE.out _ hk; try unfold Rg at rE; omega))
    have Bw_16 := Lib.hid (Bw_15.out.off hoff Bw_15.out.lt (fun hk => by have zHZ3 := HZ3.out; have zHZ4 := HZ4.out; have zHZ5 := HZ5.out; have zHZ6 := HZ6.out; have zHZ7 := HZ7.out; have zHZ8 := HZ8.out; have zHZ9 := HZ9.out; have zHZ10 := HZ10.out; have zHZ11 := HZ11.out; have zHZ12 := HZ12.out; have zHZ13 := HZ13.out; have zHZ14 := HZ14.out; have zHZ15 := HZ15.out; have zHZ16 := HZ16.out; have zHZ17 := HZ17.out; have zHZ18 := HZ18.out; have yHPL := HPL.out; have yHGLw := HGLw.out; have yHGw := HGw.out; have rE := HSE.out _ hk; try unfold Rg at rE; omega))
    have BXD_16 := Lib.hid (BXD_15.out.off hoff BXD_15.out.lt (fun hk => by have zHZ3 := HZ3.out; have zHZ4 := HZ4.out; have zHZ5 := HZ5.out; have zHZ6 := HZ6.out; have zHZ7 := HZ7.out; have zHZ8 := HZ8.out; have zHZ9 := HZ9.out; have zHZ10 := HZ10.out; have zHZ11 := HZ11.out; have zHZ12 := HZ12.out; have zHZ13 := HZ13.out; have zHZ14 := HZ14.out; have zHZ15 := HZ15.out; have zHZ16 := HZ16.out; have zHZ17 := HZ17.out; have zHZ18 := HZ18.out; have yHPL := HPL.out; have yHGLw := HGLw.out; have yHGw := HGw.out; have rE := HSE.out _ hk; try unfold Rg at rE; omega))
    have BXE_16 := Lib.hid (BXE_15.out.off hoff BXE_15.out.lt (fun hk => by have zHZ3 := HZ3.out; have zHZ4 := HZ4.out; have zHZ5 := HZ5.out; have zHZ6 := HZ6.out; have zHZ7 := HZ7.out; have zHZ8 := HZ8.out; have zHZ9 := HZ9.out; have zHZ10 := HZ10.out; have zHZ11 := HZ11.out; have zHZ12 := HZ12.out; have zHZ13 := HZ13.out; have zHZ14 := HZ14.out; have zHZ15 := HZ15.out; have zHZ16 := HZ16.out; have zHZ17 := HZ17.out; have zHZ18 := HZ18.out; have yHPL := HPL.out; have yHGLw := HGLw.out; have yHGw := HGw.out; have rE := HSE.out _ hk; try unfold Rg at rE; omega))
    have Bg_16 := Lib.hid (Bg_15.out.off hoff Bg_15.out.lt (fun hk => by have zHZ3 := HZ3.out; have zHZ4 := HZ4.out; have zHZ5 := HZ5.out; have zHZ6 := HZ6.out; have zHZ7 := HZ7.out; have zHZ8 := HZ8.out; have zHZ9 := HZ9.out; have zHZ10 := HZ10.out; have zHZ11 := HZ11.out; have zHZ12 := HZ12.out; have zHZ13 := HZ13.out; have zHZ14 := HZ14.out; have zHZ15 := HZ15.out; have zHZ16 := HZ16.out; have zHZ17 := HZ17.out; have zHZ18 := HZ18.out; have yHPL := HPL.out; have yHGLw := HGLw.out; have yHGw := HGw.out; have rE := HSE.out _ hk; try unfold Rg at rE; omega))
    have HD_16 := Lib.hid (gmv R_Config_ok HD0.out HB16.out)
    have HE_16 := Lib.hid (gmv R_Mail_ok HE0.out HB16.out)
    have Yw_16 := Lib.hid (Yw_15.out.off R_MailOut_ok hoff (fun k hk hk2 => by have zHZ3 := HZ3.out; have zHZ4 := HZ4.out; have zHZ5 := HZ5.out; have zHZ6 := HZ6.out; have zHZ7 := HZ7.out; have zHZ8 := HZ8.out; have zHZ9 := HZ9.out; have zHZ10 := HZ10.out; have zHZ11 := HZ11.out; have zHZ12 := HZ12.out; have zHZ13 := HZ13.out; have zHZ14 := HZ14.out; have zHZ15 := HZ15.out; have zHZ16 := HZ16.out; have zHZ17 := HZ17.out; have zHZ18 := HZ18.out; have yHPL := HPL.out; have yHGLw := HGLw.out; have yHGw := HGw.out; have rE := HSE.out k hk2; try unfold Rg at rE; have rw := HSw.out k hk; try unfold Rg at rw; omega))
    have Yg_16 := Lib.hid (Yg_15.out.off R_MailOut_ok hoff (fun k hk hk2 => by have zHZ3 := HZ3.out; have zHZ4 := HZ4.out; have zHZ5 := HZ5.out; have zHZ6 := HZ6.out; have zHZ7 := HZ7.out; have zHZ8 := HZ8.out; have zHZ9 := HZ9.out; have zHZ10 := HZ10.out; have zHZ11 := HZ11.out; have zHZ12 := HZ12.out; have zHZ13 := HZ13.out; have zHZ14 := HZ14.out; have zHZ15 := HZ15.out; have zHZ16 := HZ16.out; have zHZ17 := HZ17.out; have zHZ18 := HZ18.out; have yHPL := HPL.out; have yHGLw := HGLw.out; have yHGw := HGw.out; have rE := HSE.out k hk2; try unfold Rg at rE; have rg := HSg.out k hk; try unfold Rg at rg; omega))
    have hyl1 : 0 ≤ y1 := by omega
    have hyu1 : y1 ≤ 40000000 := by have h1 := HSAE.out; omega
    have hkn : decide (y1 < 0) = false := decide_eq_false (by omega)
    have HZ19 := Lib.hid (hoff.size)
    clear h hmv hzz ho hoff
    have qBg_0 := Bg_16.out.at_ 0 rfl
    have qBg_1 := Bg_16.out.at_ 1 rfl
    have qBw_0 := Bw_16.out.at_ 0 rfl
    have qBw_1 := Bw_16.out.at_ 1 rfl
    go_wp2_with fail
    refine (geq_MailOut (Yg_16.out.rd R_MailOut_ok) (Yw_16.out.rd R_MailOut_ok)).mono ?_
    intro e w17 h
    obtain ⟨rfl, hb⟩ := isB_elim h
    clear qBg_0 qBg_1 qBw_0 qBw_1
    have PD_17 := Lib.hid (PD_16.out.call hb)
    have PE_17 := Lib.hid (PE_16.out.call hb)
    have Bw_17 := Lib.hid (Bw_16.out.call hb)
    have BXD_17 := Lib.hid (BXD_16.out.call hb)
    have BXE_17 := Lib.hid (BXE_16.out.call hb)
    have Bg_17 := Lib.hid (Bg_16.out.call hb)
    have HD_17 := Lib.hid (gmv R_Config_ok HD_16.out hb)
    have HE_17 := Lib.hid (gmv R_Mail_ok HE_16.out hb)
    have Yw_17 := Lib.hid (Yw_16.out.mv R_MailOut_ok hb)
    have Yg_17 := Lib.hid (Yg_16.out.mv R_MailOut_ok hb)
    have HB17 := Lib.hid (HB16.out.trans ((hb).mono HB16.out.size))
    have HZ20 := Lib.hid ((hb).size)
    clear PD_16 PE_16 Bw_16 BXD_16 BXE_16 Bg_16 HD_16 HE_16 Yw_16 Yg_16 HB16
    clear h hb
    clear hkn
    have qBg_0 := Bg_17.out.at_ 0 rfl
    have qBg_1 := Bg_17.out.at_ 1 rfl
    go_wp2_with fail
    refine (gmark_MailOut (by omega) (by have h1 := HSM.out; omega) Yg_17.out.2 Yg_17.out.1).mono ?_
    intro e wn h
    obtain ⟨dN, zN, rfl, hmv, hzz, ho, hoff⟩ := markG_elim h
    clear qBg_0 qBg_1
    have HB18 := Lib.hid (HB17.out.trans (hoff.below HB17.out.size (fun k hk => by have zHZ3 := HZ3.out; have zHZ4 := HZ4.out; have zHZ5 := HZ5.out; have zHZ6 := HZ6.out; have zHZ7 := HZ7.out; have zHZ8 := HZ8.out; have zHZ9 := HZ9.out; have zHZ10 := HZ10.out; have zHZ11 := HZ11.out; have zHZ12 := HZ12.out; have zHZ13 := HZ13.out; have zHZ14 := HZ14.out; have zHZ15 := HZ15.out; have zHZ16 := HZ16.out; have zHZ17 := HZ17.out; have zHZ18 := HZ18.out; have zHZ19 := HZ19.out; have zHZ20 := HZ20.out; have yHPL := HPL.out; have yHGLw := HGLw.out; have yHGw := HGw.out; have rg := HSg.out _ hk; try unfold Rg at rg; omega)))
    have PD_18 := Lib.hid (PD_17.out.off hoff PD_17.out.lt (fun hk => by have zHZ3 := HZ3.out; have zHZ4 := HZ4.out; have zHZ5 := HZ5.out; have zHZ6 := HZ6.out; have zHZ7 := HZ7.out; have zHZ8 := HZ8.out; have zHZ9 := HZ9.out; have zHZ10 := HZ10.out; have zHZ11 := HZ11.out; have zHZ12 := HZ12.out; have zHZ13 := HZ13.out; have zHZ14 := HZ14.out; have zHZ15 := HZ15.out; have zHZ16 := HZ16.out; have zHZ17 := HZ17.out; have zHZ18 := HZ18.out; have zHZ19 := HZ19.out; have zHZ20 := HZ20.out; have yHPL := HPL.out; have yHGLw := HGLw.out; have yHGw := HGw.out; have rg := HSg.out _ hk; try unfold Rg at rg; omega))
    have PE_18 := Lib.hid (PE_17.out.off hoff PE_17.out.lt (fun hk => by have zHZ3 := HZ3.out; have zHZ4 := HZ4.out; have zHZ5 := HZ5.out; have zHZ6 := HZ6.out; have zHZ7 := HZ7.out; have zHZ8 := HZ8.out; have zHZ9 := HZ9.out; have zHZ10 := HZ10.out; have zHZ11 := HZ11.out; have zHZ12 := HZ12.out; have zHZ13 := HZ13.out; have zHZ14 := HZ14.out; have zHZ15 := HZ15.out; have zHZ16 := HZ16.out; have zHZ17 := HZ17.out; have zHZ18 := HZ18.out; have zHZ19 := HZ19.out; have zHZ20 := HZ20.out; have yHPL := HPL.out; have yHGLw := HGLw.out; have yHGw := HGw.out; have rg := HSg.out _ hk; try unfold Rg at rg; omega))
    have Bw_18 := Lib.hid (Bw_17.out.off hoff Bw_17.out.lt (fun hk => by have zHZ3 := HZ3.out; have zHZ4 := HZ4.out; have zHZ5 := HZ5.out; have zHZ6 := HZ6.out; have zHZ7 := HZ7.out; have zHZ8 := HZ8.out; have zHZ9 := HZ9.out; have zHZ10 := HZ10.out; have zHZ11 := HZ11.out; have zHZ12 := HZ12.out; have zHZ13 := HZ13.out; have zHZ14 := HZ14.out; have zHZ15 := HZ15.out; have zHZ16 := HZ16.out; have zHZ17 := HZ17.out; have zHZ18 := HZ18.out; have zHZ19 := HZ19.out; have zHZ20 := HZ20.out; have yHPL := HPL.out; have yHGLw := HGLw.out; have yHGw := HGw.out; have rg := HSg.out _ hk; try unfold Rg at rg; omega))
    have BXD_18 := Lib.hid (BXD_17.out.off hoff BXD_17.out.lt (fun hk => by have zHZ3 := HZ3.out; have zHZ4 := HZ4.out; have zHZ5 := HZ5.out; have zHZ6 := HZ6.out; have zHZ7 := HZ7.out; have zHZ8 := HZ8.out; have zHZ9 := HZ9.out; have zHZ10 := HZ10.out; have zHZ11 := HZ11.out; have zHZ12 := HZ12.out; have zHZ13 := HZ13.out; have zHZ14 := HZ14.out; have zHZ15 := HZ15.out; have zHZ16 := HZ16.out; have zHZ17 := HZ17.out; have zHZ18 := HZ18.out; have zHZ19 := HZ19.out; have zHZ20 := HZ20.out; have yHPL := HPL.out; have yHGLw := HGLw.out; have yHGw := HGw.out; have rg := HSg.out _ hk; try unfold Rg at rg; omega))
    have BXE_18 := Lib.hid (BXE_17.out.off hoff BXE_17.out.lt (fun hk => by have zHZ3 := HZ3.out; have zHZ4 := HZ4.out; have zHZ5 := HZ5.out; have zHZ6 := HZ6.out; have zHZ7 := HZ7.out; have zHZ8 := HZ8.out; have zHZ9 := HZ9.out; have zHZ10 := HZ10.out; have zHZ11 := HZ11.out; have zHZ12 := HZ12.out; have zHZ13 := HZ13.out; have zHZ14 := HZ14.out; have zHZ15 := HZ15.out; have zHZ16 := HZ16.out; have zHZ17 := HZ17.out; have zHZ18 := HZ18.out; have zHZ19 := HZ19.out; have zHZ20 := HZ20.out; have yHPL := HPL.out; have yHGLw := HGLw.out; have yHGw := HGw.out; have rg := HSg.out _ hk; try unfold Rg at rg; omega))
    have Bg_18 := Lib.hid (Bg_17.out.off hoff Bg_17.out.lt (fun hk => by have zHZ3 := HZ3.out; have zHZ4 := HZ4.out; have zHZ5 := HZ5.out; have zHZ6 := HZ6.out; have zHZ7 := HZ7.out; have zHZ8 := HZ8.out; have zHZ9 := HZ9.out; have zHZ10 := HZ10.out; have zHZ11 := HZ11.out; have zHZ12 := HZ12.out; have zHZ13 := HZ13.out; have zHZ14 := HZ14.out; have zHZ15 := HZ15.out; have zHZ16 := HZ16.out; have zHZ17 := HZ17.out; have zHZ18 := HZ18.out; have zHZ19 := HZ19.out; have zHZ20 := HZ20.out; have yHPL := HPL.out; have yHGLw := HGLw.out; have yHGw := HGw.out; have rg := HSg.out _ hk; try unfold Rg at rg; omega))
    have HD_18 := Lib.hid (gmv R_Config_ok HD0.out HB18.out)
    have HE_18 := Lib.hid (gmv R_Mail_ok HE0.out HB18.out)
    have Yw_18 := Lib.hid (Yw_17.out.off R_MailOut_ok hoff (fun k hk hk2 => by have zHZ3 := HZ3.out; have zHZ4 := HZ4.out; have zHZ5 := HZ5.out; have zHZ6 := HZ6.out; have zHZ7 := HZ7.out; have zHZ8 := HZ8.out; have zHZ9 := HZ9.out; have zHZ10 := HZ10.out; have zHZ11 := HZ11.out; have zHZ12 := HZ12.out; have zHZ13 := HZ13.out; have zHZ14 := HZ14.out; have zHZ15 := HZ15.out; have zHZ16 := HZ16.out; have zHZ17 := HZ17.out; have zHZ18 := HZ18.out; have zHZ19 := HZ19.out; have zHZ20 := HZ20.out; have yHPL := HPL.out; have yHGLw := HGLw.out; have yHGw := HGw.out; have rg := HSg.out k hk2; try unfold Rg at rg; have rw := HSw.out k hk; try unfold Rg at rw; omega))
    have Yg_18 := Lib.hid (show OwG R_MailOut wn _ dN _ from ⟨ho, fun k hk => Nat.lt_of_lt_of_le (Yg_17.out.2 k hk) hoff.size⟩)
    have HMV := Lib.hid hmv
    have hzn : decide (zN < 0) = false := decide_eq_false (by omega)
    have hze : (zN != zN) = false := by simp
    have hzb : zN ≤ 4611686018427387904 := by have := HSM.out; omega
    have HZ21 := Lib.hid (hoff.size)
    clear h hmv hzz ho hoff
    have qBg_0 := Bg_18.out.at_ 0 rfl
    have qBg_1 := Bg_18.out.at_ 1 rfl
    go_wp2_with fail
    refine (gheld_MailOut (by omega) hzb HMV.out (Yg_18.out.rd R_MailOut_ok)).mono ?_
    intro e w19 h
    obtain ⟨rfl, hb⟩ := heldC_elim h
    clear qBg_0 qBg_1
    have PD_19 := Lib.hid (PD_18.out.call hb)
    have PE_19 := Lib.hid (PE_18.out.call hb)
    have Bw_19 := Lib.hid (Bw_18.out.call hb)
    have BXD_19 := Lib.hid (BXD_18.out.call hb)
    have BXE_19 := Lib.hid (BXE_18.out.call hb)
    have Bg_19 := Lib.hid (Bg_18.out.call hb)
    have HD_19 := Lib.hid (gmv R_Config_ok HD_18.out hb)
    have HE_19 := Lib.hid (gmv R_Mail_ok HE_18.out hb)
    have Yw_19 := Lib.hid (Yw_18.out.mv R_MailOut_ok hb)
    have Yg_19 := Lib.hid (Yg_18.out.mv R_MailOut_ok hb)
    have HB19 := Lib.hid (HB18.out.trans ((hb).mono HB18.out.size))
    have HZ22 := Lib.hid ((hb).size)
    clear PD_18 PE_18 Bw_18 BXD_18 BXE_18 Bg_18 HD_18 HE_18 Yw_18 Yg_18 HB18
    clear h hb
    go_upto_region 31 with fail
    go_cut [17] (fun s8 wx => ∃ (gh : Nat) (ra0h : Option Addr) (rc0h : Nat) (Sh : Nat → Prop), s8 = .pointer (some ⟨gh, 0, none⟩) ∧ Hid (Blk wx gh 38 #[.slice ra0h dL0.length rc0h, .int .i64 dx1]) ∧ Hid (OwG R_MailOut wx Sh (dL0, dx1) [.slice ra0h dL0.length rc0h, .int .i64 dx1]) ∧ Hid (∀ k, Sh k → w19.heap.size ≤ k ∧ k ≠ gh) ∧ Hid (w19.heap.size ≤ gh) ∧ Hid (Below w19.heap.size w19 wx))
    case first =>
      refine wp_region_held_drew (S := (fun V => Below w19.heap.size w19 V)) (by kernel_rfl) ((Below.refl _ _).drew) (fun hHeld => ?_)
      refine tk 0 hHeld ?_ (hy := fun w hSw => by (try dsimp only at hSw); have k0 := (hSw.cell (p := ⟨W.heap.size, 0, none⟩) PD_19.out.lt).trans (PD_19.out.at_ 0 rfl); have k1 := (hSw.cell (p := ⟨W.heap.size, 1, none⟩) PD_19.out.lt).trans (PD_19.out.at_ 1 rfl); have k2 := (hSw.cell (p := ⟨W.heap.size, 2, none⟩) PD_19.out.lt).trans (PD_19.out.at_ 2 rfl); have k3 := (hSw.cell (p := ⟨W.heap.size, 3, none⟩) PD_19.out.lt).trans (PD_19.out.at_ 3 rfl); clear hSw; go_simp; try with_reducible rfl)
      refine tk 2 hHeld ?_ (hy := fun w hSw => by (try dsimp only at hSw); have k0 := (hSw.cell (p := ⟨(W.heap.size + 1), 0, none⟩) PE_19.out.lt).trans (PE_19.out.at_ 0 rfl); clear hSw; go_simp; try with_reducible rfl)
      refine tk 4 hHeld ?_
      refine tk 5 hHeld ?_
      refine rd2 1 7 (fun K hK => ?_) (fun K hK => ?_)
      · skip
        go_simp
        go_at_call 11
        refine (gto_Config HSZD.out (gmv R_Config_ok HD_19.out hHeld)).mono ?_
        intro e v31_1 h
        obtain ⟨us, rfl, hu, hb⟩ := newV_elim h
        obtain ⟨aD0_31_1, cD0_31_1, aD1_31_1, cD1_31_1, aD2_31_1, cD2_31_1, rfl, hu⟩ := owc_Config hu
        have ND := Lib.hid (owG_new hu)
        clear h hu
        refine hK.out _ _ (hHeld.trans (hb.mono hHeld.size)) (fun hHeld => ?_)
        clear hK K hb
        refine rd2 3 7 (fun K hK => ?_) (fun K hK => ?_)
        · skip
          go_simp
          go_at_call 12
          refine (gto_Mail HSZE.out (gmv R_Mail_ok HE_19.out hHeld)).mono ?_
          intro e v31_2 h
          obtain ⟨us, rfl, hu, hb⟩ := newV_elim h
          obtain ⟨aE0_31_2, cE0_31_2, rfl, hu⟩ := owc_Mail hu
          have ND := Lib.hid (ND.out.mv R_Config_ok hb)
          have NE := Lib.hid (owG_new hu)
          clear h hu
          refine hK.out _ _ (hHeld.trans (hb.mono hHeld.size)) (fun hHeld => ?_)
          clear hK K hb
          refine rd2 6 7 (fun K hK => ?_) (fun K hK => ?_)
          · skip
            go_simp
            go_at_call 23
            refine (gmlay_impl (ND.out.rd R_Config_ok) (NE.out.rd R_Mail_ok)).mono ?_
            intro e v31_3 h
            rw [HDD.out] at h
            obtain ⟨us, rfl, hu, hb⟩ := newV_elim h
            obtain ⟨ra031_3, rc031_3, rfl, hu⟩ := owc_MailOut hu
            have hHeld0 := Lib.hid hHeld
            have OW := Lib.hid (owG_new hu)
            clear h hu ND NE
            refine hK.out _ _ (hHeld.trans (hb.mono hHeld.size)) (fun hHeld => ?_)
            clear hK K hb
            refine rd1 7 (fun K hK => ?_)
            go_simp
            have hb : Below (v31_3).heap.size (v31_3) (v31_3.alloc (.cells #[.slice none 0 0, .int .i64 0] 38)) := (Below.refl _ _).alloc (Nat.le_refl _) _
            have OW0 := OW
            have OW := Lib.hid (OW.out.mv R_MailOut_ok hb)
            have GB := Lib.hid (show Blk (v31_3.alloc (.cells #[.slice none 0 0, .int .i64 0] 38)) v31_3.heap.size 38 #[.slice none 0 0, .int .i64 0] from Blk.new (v31_3) 38 #[.slice none 0 0, .int .i64 0])
            have HGE := Lib.hid (show w19.heap.size ≤ v31_3.heap.size from hHeld.size)
            have HTB := Lib.hid (show ∀ k, Rg v31_2.heap.size v31_3.heap.size k → w19.heap.size ≤ k ∧ k ≠ v31_3.heap.size from fun k hk => ⟨Nat.le_trans hHeld0.out.size hk.1, by have := hk.2; omega⟩)
            have hPre := Lib.hid hHeld
            refine hK.out _ _ (hHeld.trans (hb.mono hHeld.size)) (fun hHeld => ?_)
            clear hK K hb
            refine rd1 8 (fun K hK => ?_)
            go_simp
            refine hK.out _ _ (hPre.out.alloc HGE.out (.cells #[.slice ra031_3 dL0.length rc031_3, .int .i64 dx1] 38)) (fun hHeld => ?_)
            clear hK K
            refine rd0 ?_
            go_wp2_with fail
            go_meet
            exact ⟨_, _, _, _, rfl, Lib.hid (Blk.new v31_3 38 #[.slice ra031_3 dL0.length rc031_3, .int .i64 dx1]), Lib.hid (OW0.out.mv R_MailOut_ok ((Below.refl _ _).alloc (Nat.le_refl _) (.cells #[.slice ra031_3 dL0.length rc031_3, .int .i64 dx1] 38))), HTB, HGE, Lib.hid hHeld⟩
          · skip
            go_simp
            have hb : Below (v31_2).heap.size (v31_2) (v31_2.alloc (.cells #[.slice none 0 0, .int .i64 0] 38)) := (Below.refl _ _).alloc (Nat.le_refl _) _
            have ND := Lib.hid (ND.out.mv R_Config_ok hb)
            have NE := Lib.hid (NE.out.mv R_Mail_ok hb)
            have GB := Lib.hid (show Blk (v31_2.alloc (.cells #[.slice none 0 0, .int .i64 0] 38)) v31_2.heap.size 38 #[.slice none 0 0, .int .i64 0] from Blk.new (v31_2) 38 #[.slice none 0 0, .int .i64 0])
            have HGE := Lib.hid (show w19.heap.size ≤ v31_2.heap.size from hHeld.size)
            refine hK.out _ _ (hHeld.trans (hb.mono hHeld.size)) (fun hHeld => ?_)
            clear hK K hb
            have GBl := Lib.hid (show v31_2.heap.size < (v31_2.alloc (.cells #[.slice none 0 0, .int .i64 0] 38)).heap.size from GB.out.lt)
            refine rd1 6 (fun K hK => ?_)
            go_simp
            go_at_call 23
            refine (gmlay_impl (ND.out.rd R_Config_ok) (NE.out.rd R_Mail_ok)).mono ?_
            intro e v31_4 h
            rw [HDD.out] at h
            obtain ⟨us, rfl, hu, hb⟩ := newV_elim h
            obtain ⟨ra031_4, rc031_4, rfl, hu⟩ := owc_MailOut hu
            have hHeld0 := Lib.hid hHeld
            have GB := Lib.hid (GB.out.call hb)
            have OW := Lib.hid (owG_new hu)
            have HTB := Lib.hid (show ∀ k, Rg (v31_2.alloc (.cells #[.slice none 0 0, .int .i64 0] 38)).heap.size v31_4.heap.size k → w19.heap.size ≤ k ∧ k ≠ v31_2.heap.size from fun k hk => ⟨Nat.le_trans hHeld.size hk.1, by have h1 := hk.1; have h2 := GBl.out; omega⟩)
            clear h hu ND NE
            refine hK.out _ _ (hHeld.trans (hb.mono hHeld.size)) (fun hHeld => ?_)
            clear hK K hb
            have GBl := Lib.hid (show v31_2.heap.size < v31_4.heap.size from GB.out.lt)
            refine rd1 8 (fun K hK => ?_)
            have q0 := GB.out.at_ 0 rfl
            have f0 := GB.out.soft 0
            have q1 := GB.out.at_ 1 rfl
            have f1 := GB.out.soft 1
            go_simp
            refine hK.out _ _ ((hHeld.setCell (p := ⟨v31_2.heap.size, 0, none⟩) (by exact HGE.out) (.slice ra031_4 dL0.length rc031_4)).setCell (p := ⟨v31_2.heap.size, 1, none⟩) (by exact HGE.out) (.int .i64 dx1)) (fun hHeld => ?_)
            clear hK K q0 f0 q1 f1
            refine rd0 ?_
            go_wp2_with fail
            go_meet
            exact ⟨_, _, _, _, rfl, Lib.hid (sets_MailOut GB.out), Lib.hid (OW.out.off R_MailOut_ok (soff_MailOut _ _ _ _) (fun k hk h2 => (HTB.out k hk).2 h2)), HTB, HGE, Lib.hid hHeld⟩
        · skip
          go_simp
          have hb : Below (v31_1).heap.size (v31_1) (v31_1.alloc (.cells #[.slice none 0 0, .int .i64 0] 38)) := (Below.refl _ _).alloc (Nat.le_refl _) _
          have ND := Lib.hid (ND.out.mv R_Config_ok hb)
          have GB := Lib.hid (show Blk (v31_1.alloc (.cells #[.slice none 0 0, .int .i64 0] 38)) v31_1.heap.size 38 #[.slice none 0 0, .int .i64 0] from Blk.new (v31_1) 38 #[.slice none 0 0, .int .i64 0])
          have HGE := Lib.hid (show w19.heap.size ≤ v31_1.heap.size from hHeld.size)
          refine hK.out _ _ (hHeld.trans (hb.mono hHeld.size)) (fun hHeld => ?_)
          clear hK K hb
          have GBl := Lib.hid (show v31_1.heap.size < (v31_1.alloc (.cells #[.slice none 0 0, .int .i64 0] 38)).heap.size from GB.out.lt)
          refine rd1 3 (fun K hK => ?_)
          go_simp
          go_at_call 12
          refine (gto_Mail HSZE.out (gmv R_Mail_ok HE_19.out hHeld)).mono ?_
          intro e v31_5 h
          obtain ⟨us, rfl, hu, hb⟩ := newV_elim h
          obtain ⟨aE0_31_5, cE0_31_5, rfl, hu⟩ := owc_Mail hu
          have ND := Lib.hid (ND.out.mv R_Config_ok hb)
          have GB := Lib.hid (GB.out.call hb)
          have NE := Lib.hid (owG_new hu)
          clear h hu
          refine hK.out _ _ (hHeld.trans (hb.mono hHeld.size)) (fun hHeld => ?_)
          clear hK K hb
          have GBl := Lib.hid (show v31_1.heap.size < v31_5.heap.size from GB.out.lt)
          refine rd1 6 (fun K hK => ?_)
          go_simp
          go_at_call 23
          refine (gmlay_impl (ND.out.rd R_Config_ok) (NE.out.rd R_Mail_ok)).mono ?_
          intro e v31_6 h
          rw [HDD.out] at h
          obtain ⟨us, rfl, hu, hb⟩ := newV_elim h
          obtain ⟨ra031_6, rc031_6, rfl, hu⟩ := owc_MailOut hu
          have hHeld0 := Lib.hid hHeld
          have GB := Lib.hid (GB.out.call hb)
          have OW := Lib.hid (owG_new hu)
          have HTB := Lib.hid (show ∀ k, Rg v31_5.heap.size v31_6.heap.size k → w19.heap.size ≤ k ∧ k ≠ v31_1.heap.size from fun k hk => ⟨Nat.le_trans hHeld.size hk.1, by have h1 := hk.1; have h2 := GBl.out; omega⟩)
          clear h hu ND NE
          refine hK.out _ _ (hHeld.trans (hb.mono hHeld.size)) (fun hHeld => ?_)
          clear hK K hb
          have GBl := Lib.hid (show v31_1.heap.size < v31_6.heap.size from GB.out.lt)
          refine rd1 8 (fun K hK => ?_)
          have q0 := GB.out.at_ 0 rfl
          have f0 := GB.out.soft 0
          have q1 := GB.out.at_ 1 rfl
          have f1 := GB.out.soft 1
          go_simp
          refine hK.out _ _ ((hHeld.setCell (p := ⟨v31_1.heap.size, 0, none⟩) (by exact HGE.out) (.slice ra031_6 dL0.length rc031_6)).setCell (p := ⟨v31_1.heap.size, 1, none⟩) (by exact HGE.out) (.int .i64 dx1)) (fun hHeld => ?_)
          clear hK K q0 f0 q1 f1
          refine rd0 ?_
          go_wp2_with fail
          go_meet
          exact ⟨_, _, _, _, rfl, Lib.hid (sets_MailOut GB.out), Lib.hid (OW.out.off R_MailOut_ok (soff_MailOut _ _ _ _) (fun k hk h2 => (HTB.out k hk).2 h2)), HTB, HGE, Lib.hid hHeld⟩
      · skip
        go_simp
        have hb : Below (w19.drew).heap.size (w19.drew) ((w19.drew).alloc (.cells #[.slice none 0 0, .int .i64 0] 38)) := (Below.refl _ _).alloc (Nat.le_refl _) _
        have GB := Lib.hid (show Blk ((w19.drew).alloc (.cells #[.slice none 0 0, .int .i64 0] 38)) w19.heap.size 38 #[.slice none 0 0, .int .i64 0] from Blk.new (w19.drew) 38 #[.slice none 0 0, .int .i64 0])
        have HGE := Lib.hid (show w19.heap.size ≤ w19.heap.size from hHeld.size)
        refine hK.out _ _ (hHeld.trans (hb.mono hHeld.size)) (fun hHeld => ?_)
        clear hK K hb
        have GBl := Lib.hid (show w19.heap.size < ((w19.drew).alloc (.cells #[.slice none 0 0, .int .i64 0] 38)).heap.size from GB.out.lt)
        refine rd1 1 (fun K hK => ?_)
        go_simp
        go_at_call 11
        refine (gto_Config HSZD.out (gmv R_Config_ok HD_19.out hHeld)).mono ?_
        intro e v31_7 h
        obtain ⟨us, rfl, hu, hb⟩ := newV_elim h
        obtain ⟨aD0_31_7, cD0_31_7, aD1_31_7, cD1_31_7, aD2_31_7, cD2_31_7, rfl, hu⟩ := owc_Config hu
        have GB := Lib.hid (GB.out.call hb)
        have ND := Lib.hid (owG_new hu)
        clear h hu
        refine hK.out _ _ (hHeld.trans (hb.mono hHeld.size)) (fun hHeld => ?_)
        clear hK K hb
        have GBl := Lib.hid (show w19.heap.size < v31_7.heap.size from GB.out.lt)
        refine rd1 3 (fun K hK => ?_)
        go_simp
        go_at_call 12
        refine (gto_Mail HSZE.out (gmv R_Mail_ok HE_19.out hHeld)).mono ?_
        intro e v31_8 h
        obtain ⟨us, rfl, hu, hb⟩ := newV_elim h
        obtain ⟨aE0_31_8, cE0_31_8, rfl, hu⟩ := owc_Mail hu
        have ND := Lib.hid (ND.out.mv R_Config_ok hb)
        have GB := Lib.hid (GB.out.call hb)
        have NE := Lib.hid (owG_new hu)
        clear h hu
        refine hK.out _ _ (hHeld.trans (hb.mono hHeld.size)) (fun hHeld => ?_)
        clear hK K hb
        have GBl := Lib.hid (show w19.heap.size < v31_8.heap.size from GB.out.lt)
        refine rd1 6 (fun K hK => ?_)
        go_simp
        go_at_call 23
        refine (gmlay_impl (ND.out.rd R_Config_ok) (NE.out.rd R_Mail_ok)).mono ?_
        intro e v31_9 h
        rw [HDD.out] at h
        obtain ⟨us, rfl, hu, hb⟩ := newV_elim h
        obtain ⟨ra031_9, rc031_9, rfl, hu⟩ := owc_MailOut hu
        have hHeld0 := Lib.hid hHeld
        have GB := Lib.hid (GB.out.call hb)
        have OW := Lib.hid (owG_new hu)
        have HTB := Lib.hid (show ∀ k, Rg v31_8.heap.size v31_9.heap.size k → w19.heap.size ≤ k ∧ k ≠ w19.heap.size from fun k hk => ⟨Nat.le_trans hHeld.size hk.1, by have h1 := hk.1; have h2 := GBl.out; omega⟩)
        clear h hu ND NE
        refine hK.out _ _ (hHeld.trans (hb.mono hHeld.size)) (fun hHeld => ?_)
        clear hK K hb
        have GBl := Lib.hid (show w19.heap.size < v31_9.heap.size from GB.out.lt)
        refine rd1 8 (fun K hK => ?_)
        have q0 := GB.out.at_ 0 rfl
        have f0 := GB.out.soft 0
        have q1 := GB.out.at_ 1 rfl
        have f1 := GB.out.soft 1
        go_simp
        refine hK.out _ _ ((hHeld.setCell (p := ⟨w19.heap.size, 0, none⟩) (by exact HGE.out) (.slice ra031_9 dL0.length rc031_9)).setCell (p := ⟨w19.heap.size, 1, none⟩) (by exact HGE.out) (.int .i64 dx1)) (fun hHeld => ?_)
        clear hK K q0 f0 q1 f1
        refine rd0 ?_
        go_wp2_with fail
        go_meet
        exact ⟨_, _, _, _, rfl, Lib.hid (sets_MailOut GB.out), Lib.hid (OW.out.off R_MailOut_ok (soff_MailOut _ _ _ _) (fun k hk h2 => (HTB.out k hk).2 h2)), HTB, HGE, Lib.hid hHeld⟩
    case rest =>
      obtain ⟨gh, ra0h, rc0h, Sh, rfl, HX8, HO8, HT8, HG8, hcb⟩ := hcut
      rename World => w20
      have hb := hcb.out
      have PD_20 := Lib.hid (PD_19.out.call hb)
      have PE_20 := Lib.hid (PE_19.out.call hb)
      have Bw_20 := Lib.hid (Bw_19.out.call hb)
      have BXD_20 := Lib.hid (BXD_19.out.call hb)
      have BXE_20 := Lib.hid (BXE_19.out.call hb)
      have Bg_20 := Lib.hid (Bg_19.out.call hb)
      have HD_20 := Lib.hid (gmv R_Config_ok HD_19.out hb)
      have HE_20 := Lib.hid (gmv R_Mail_ok HE_19.out hb)
      have Yw_20 := Lib.hid (Yw_19.out.mv R_MailOut_ok hb)
      have Yg_20 := Lib.hid (Yg_19.out.mv R_MailOut_ok hb)
      have HB20 := Lib.hid (HB19.out.trans ((hb).mono HB19.out.size))
      have HZ23 := Lib.hid ((hb).size)
      clear PD_19 PE_19 Bw_19 BXD_19 BXE_19 Bg_19 HD_19 HE_19 Yw_19 Yg_19 HB19
      clear hb hcb
      have Bh_20 := HX8
      have Yh_20 := HO8
      have HTh := HT8
      have HGh := HG8
      clear HX8 HO8 HT8 HG8
      have HSh := Lib.hid (fun k (hk : Sh k) => (⟨(HTh.out k hk).1, Yh_20.out.2 k hk⟩ : w19.heap.size ≤ k ∧ k < w20.heap.size))
      have HGLh := Lib.hid (show gh < w20.heap.size from Bh_20.out.lt)
      have qBh_0 := Bh_20.out.at_ 0 rfl
      have qBh_1 := Bh_20.out.at_ 1 rfl
      have qBw_0 := Bw_20.out.at_ 0 rfl
      have qBw_1 := Bw_20.out.at_ 1 rfl
      go_wp2_with fail
      refine (geq_MailOut (Yh_20.out.rd R_MailOut_ok) (Yw_20.out.rd R_MailOut_ok)).mono ?_
      intro e w21 h
      obtain ⟨rfl, hb⟩ := isB_elim h
      clear qBh_0 qBh_1 qBw_0 qBw_1
      have PD_21 := Lib.hid (PD_20.out.call hb)
      have PE_21 := Lib.hid (PE_20.out.call hb)
      have Bw_21 := Lib.hid (Bw_20.out.call hb)
      have BXD_21 := Lib.hid (BXD_20.out.call hb)
      have BXE_21 := Lib.hid (BXE_20.out.call hb)
      have Bg_21 := Lib.hid (Bg_20.out.call hb)
      have Bh_21 := Lib.hid (Bh_20.out.call hb)
      have HD_21 := Lib.hid (gmv R_Config_ok HD_20.out hb)
      have HE_21 := Lib.hid (gmv R_Mail_ok HE_20.out hb)
      have Yw_21 := Lib.hid (Yw_20.out.mv R_MailOut_ok hb)
      have Yg_21 := Lib.hid (Yg_20.out.mv R_MailOut_ok hb)
      have Yh_21 := Lib.hid (Yh_20.out.mv R_MailOut_ok hb)
      have HB21 := Lib.hid (HB20.out.trans ((hb).mono HB20.out.size))
      have HZ24 := Lib.hid ((hb).size)
      clear PD_20 PE_20 Bw_20 BXD_20 BXE_20 Bg_20 Bh_20 HB20
      clear h hb
      have qBg_0 := Bg_21.out.at_ 0 rfl
      have qBg_1 := Bg_21.out.at_ 1 rfl
      go_wp2_with fail
      refine (gheld_MailOut (by omega) hzb HMV.out (Yg_21.out.rd R_MailOut_ok)).mono ?_
      intro e w22 h
      obtain ⟨rfl, hb⟩ := heldC_elim h
      clear qBg_0 qBg_1
      have PD_22 := Lib.hid (PD_21.out.call hb)
      have PE_22 := Lib.hid (PE_21.out.call hb)
      have Bw_22 := Lib.hid (Bw_21.out.call hb)
      have BXD_22 := Lib.hid (BXD_21.out.call hb)
      have BXE_22 := Lib.hid (BXE_21.out.call hb)
      have Bg_22 := Lib.hid (Bg_21.out.call hb)
      have Bh_22 := Lib.hid (Bh_21.out.call hb)
      have HD_22 := Lib.hid (gmv R_Config_ok HD_21.out hb)
      have HE_22 := Lib.hid (gmv R_Mail_ok HE_21.out hb)
      have Yw_22 := Lib.hid (Yw_21.out.mv R_MailOut_ok hb)
      have Yg_22 := Lib.hid (Yg_21.out.mv R_MailOut_ok hb)
      have Yh_22 := Lib.hid (Yh_21.out.mv R_MailOut_ok hb)
      have HB22 := Lib.hid (HB21.out.trans ((hb).mono HB21.out.size))
      have HZ25 := Lib.hid ((hb).size)
      clear PD_21 PE_21 Bw_21 BXD_21 BXE_21 Bg_21 Bh_21 HD_21 HE_21 Yw_21 Yg_21 Yh_21 HB21
      clear h hb
      go_wp2
      go_ret
      exact ⟨rfl, HB22.out⟩
end Go.Proofs.YtlgflddljhldhaaGreat.RepC
end
