/- Of this claim's texts the part 32: MlGSend MlW7. -/
import Derived.Test.YtlgflddljhldhaaGreatPN24
import Derived.Test.YtlgflddljhldhaaGreatPN29
import Derived.Test.YtlgflddljhldhaaGreatPN31
section
namespace Go.Proofs.YtlgflddljhldhaaGreat.RepC
open Go.RowKit RowC ValC SpanC KeptC CfC
set_option linter.unusedVariables false
set_option linter.unusedSimpArgs false
theorem gmsend_spec {d : D_Config} {m : D_Mail} {cs ds : List Value} {l0 s0 l1 s1 x now : Int} {W : World} (h : R_Config.rd W W.heap.size d cs) (k : R_Mail.rd W W.heap.size m ds) : Calls Tryz.prog 10 #[.agg cs.toArray, .agg ds.toArray, .agg #[.int .i64 l0, .int .i64 s0], .agg #[.int .i64 l1, .int .i64 s1], .int .i64 x, .int .i64 now] W (NewV R_MailOut (sendV d m (l0, s0) (l1, s1) x now) W) := by
  obtain ⟨C, P, Q, hf⟩ := d
  obtain ⟨a0, c0, a1, c1, a2, c2, rfl, k0, k1, k2⟩ := rd_Config h
  obtain ⟨a3, c3, rfl, k3⟩ := rd_Mail k
  exact msend_spec k0 k1 k2 k3
theorem gmsend_impl {d : D_Config} {m : D_Mail} {cs ds : List Value} {l0 s0 l1 s1 x now : Int} {W : World} (h : R_Config.rd W W.heap.size d cs) (k : R_Mail.rd W W.heap.size m ds) : Calls Tryz.prog 14 #[.agg cs.toArray, .agg ds.toArray, .agg #[.int .i64 l0, .int .i64 s0], .agg #[.int .i64 l1, .int .i64 s1], .int .i64 x, .int .i64 now] W (NewV R_MailOut (sendV d m (l0, s0) (l1, s1) x now) W) := by
  obtain ⟨C, P, Q, hf⟩ := d
  obtain ⟨a0, c0, a1, c1, a2, c2, rfl, k0, k1, k2⟩ := rd_Config h
  obtain ⟨a3, c3, rfl, k3⟩ := rd_Mail k
  exact msend_impl k0 k1 k2 k3
theorem send_small {d : D_Config} {m : D_Mail} {f t : D_Label} {x now : Int} {R : D_MailOut} (hd : sendV d m f t x now = R) : R_MailOut.cv R ≤ 1048576 := by
  rw [← hd]
  unfold sendV
  by_cases h : mailB d m = true ∧ isB now 0 999900 = true
  · rw [if_pos h]
    by_cases h1 : ixP d.2.1 f t < 0
    · rw [if_pos h1]; exact code_small 11
    · rw [if_neg h1]
      cases hb : m[(ixP d.2.1 f t).toNat]? with
      | none => exact code_small 0
      | some b =>
        cases hp : d.2.1[(ixP d.2.1 f t).toNat]? with
        | none => exact code_small 0
        | some p =>
          show R_MailOut.cv (if now < lastAt b.2.2 b.2.2.length then ([], 1) else _) ≤ _
          by_cases h2 : now < lastAt b.2.2 b.2.2.length
          · rw [if_pos h2]; exact code_small 1
          · rw [if_neg h2]
            by_cases h3 : p.2.2 ≤ (b.1.length : Int)
            · rw [if_pos h3]; exact code_small 8
            · rw [if_neg h3]
              by_cases h4 : 12 ≤ b.2.2.length
              · rw [if_pos h4]; exact code_small 9
              · rw [if_neg h4]
                exact set_small h.1 hb (by show (b.1 ++ [x]).length ≤ _; simp) (Nat.le_refl _) (by show (b.2.2 ++ [(now, x)]).length ≤ _; simp)
  · rw [if_neg h]; exact code_small 1
end Go.Proofs.YtlgflddljhldhaaGreat.RepC
end
section
namespace Go.Proofs.YtlgflddljhldhaaGreat.RepC
open Go.RowKit RowC ValC SpanC KeptC CfC
set_option linter.unusedVariables false
set_option linter.unusedSimpArgs false
set_option maxRecDepth 100000 in
set_option maxHeartbeats 4000000 in
theorem law_mailsend {DL0 : List (List (D_Label))} {DL1 : List (D_Pair)} {DL2 : List (D_Quota)} {Dx3 : Int} {Da0 : Option Addr} {Dc0 : Nat} {Da1 : Option Addr} {Dc1 : Nat} {Da2 : Option Addr} {Dc2 : Nat} {EL0 : List (D_Box)} {Ea0 : Option Addr} {Ec0 : Nat} {Fx0 : Int} {Fx1 : Int}  {Tx0 : Int} {Tx1 : Int}  {N : Int} {K : Int} {W : World} (hD : R_Config.rd W W.heap.size (DL0, DL1, DL2, Dx3) [.slice Da0 DL0.length Dc0, .slice Da1 DL1.length Dc1, .slice Da2 DL2.length Dc2, .int .i64 Dx3]) (hE : R_Mail.rd W W.heap.size EL0 [.slice Ea0 EL0.length Ec0]) :
    Calls Tryz.prog 3 #[.agg #[.slice Da0 DL0.length Dc0, .slice Da1 DL1.length Dc1, .slice Da2 DL2.length Dc2, .int .i64 Dx3], .agg #[.slice Ea0 EL0.length Ec0], .agg #[.int .i64 Fx0, .int .i64 Fx1], .agg #[.int .i64 Tx0, .int .i64 Tx1], .int .i64 N, .int .i64 K] W fun e w' => e = .returned (.bool true) ∧ Below W.heap.size W w' := by
  have HD := Lib.hid hD
  have HD0 := Lib.hid hD
  clear hD
  have HE := Lib.hid hE
  have HE0 := Lib.hid hE
  clear hE
  have hbA : Below (W).heap.size (W) (W.alloc (.cells #[.slice Da0 DL0.length Dc0, .slice Da1 DL1.length Dc1, .slice Da2 DL2.length Dc2, .int .i64 Dx3] 26)) := (Below.refl _ _).alloc (Nat.le_refl _) _
  have HD_1 := Lib.hid (gmv R_Config_ok HD.out hbA)
  have HE_1 := Lib.hid (gmv R_Mail_ok HE.out hbA)
  have HB1 := Lib.hid (show Below W.heap.size W (W.alloc (.cells #[.slice Da0 DL0.length Dc0, .slice Da1 DL1.length Dc1, .slice Da2 DL2.length Dc2, .int .i64 Dx3] 26)) from hbA)
  have HZ1 := Lib.hid ((hbA).size)
  clear HD HE
  have PD_1 := Blk.new (W) 26 #[.slice Da0 DL0.length Dc0, .slice Da1 DL1.length Dc1, .slice Da2 DL2.length Dc2, .int .i64 Dx3]
  have PDh_1 := Lib.hid PD_1
  clear PD_1 hbA
  have hbA : Below (W.alloc (.cells #[.slice Da0 DL0.length Dc0, .slice Da1 DL1.length Dc1, .slice Da2 DL2.length Dc2, .int .i64 Dx3] 26)).heap.size (W.alloc (.cells #[.slice Da0 DL0.length Dc0, .slice Da1 DL1.length Dc1, .slice Da2 DL2.length Dc2, .int .i64 Dx3] 26)) ((W.alloc (.cells #[.slice Da0 DL0.length Dc0, .slice Da1 DL1.length Dc1, .slice Da2 DL2.length Dc2, .int .i64 Dx3] 26)).alloc (.cells #[.slice Ea0 EL0.length Ec0] 29)) := (Below.refl _ _).alloc (Nat.le_refl _) _
  have PD_2 := Lib.hid (PDh_1.out.call hbA)
  have HD_2 := Lib.hid (gmv R_Config_ok HD_1.out hbA)
  have HE_2 := Lib.hid (gmv R_Mail_ok HE_1.out hbA)
  have HB2 := Lib.hid (HB1.out.trans ((hbA).mono HB1.out.size))
  have HZ2 := Lib.hid ((hbA).size)
  clear PDh_1 HD_1 HE_1 HB1
  have PE_2 := Blk.new (W.alloc (.cells #[.slice Da0 DL0.length Dc0, .slice Da1 DL1.length Dc1, .slice Da2 DL2.length Dc2, .int .i64 Dx3] 26)) 29 #[.slice Ea0 EL0.length Ec0]
  have PEh_2 := Lib.hid PE_2
  clear PE_2 hbA
  have hq := PEh_2.out
  simp only [World.size_alloc] at hq
  clear PEh_2
  have PEh_2 := Lib.hid hq
  clear hq
  have hbA : Below ((W.alloc (.cells #[.slice Da0 DL0.length Dc0, .slice Da1 DL1.length Dc1, .slice Da2 DL2.length Dc2, .int .i64 Dx3] 26)).alloc (.cells #[.slice Ea0 EL0.length Ec0] 29)).heap.size ((W.alloc (.cells #[.slice Da0 DL0.length Dc0, .slice Da1 DL1.length Dc1, .slice Da2 DL2.length Dc2, .int .i64 Dx3] 26)).alloc (.cells #[.slice Ea0 EL0.length Ec0] 29)) (((W.alloc (.cells #[.slice Da0 DL0.length Dc0, .slice Da1 DL1.length Dc1, .slice Da2 DL2.length Dc2, .int .i64 Dx3] 26)).alloc (.cells #[.slice Ea0 EL0.length Ec0] 29)).alloc (.cells #[.int .i64 Fx0, .int .i64 Fx1] 31)) := (Below.refl _ _).alloc (Nat.le_refl _) _
  have PD_3 := Lib.hid (PD_2.out.call hbA)
  have PE_3 := Lib.hid (PEh_2.out.call hbA)
  have HD_3 := Lib.hid (gmv R_Config_ok HD_2.out hbA)
  have HE_3 := Lib.hid (gmv R_Mail_ok HE_2.out hbA)
  have HB3 := Lib.hid (HB2.out.trans ((hbA).mono HB2.out.size))
  have HZ3 := Lib.hid ((hbA).size)
  clear PD_2 PEh_2 HD_2 HE_2 HB2
  have PF_3 := Blk.new ((W.alloc (.cells #[.slice Da0 DL0.length Dc0, .slice Da1 DL1.length Dc1, .slice Da2 DL2.length Dc2, .int .i64 Dx3] 26)).alloc (.cells #[.slice Ea0 EL0.length Ec0] 29)) 31 #[.int .i64 Fx0, .int .i64 Fx1]
  have PFh_3 := Lib.hid PF_3
  clear PF_3 hbA
  have hq := PFh_3.out
  simp only [World.size_alloc] at hq
  clear PFh_3
  have PFh_3 := Lib.hid hq
  clear hq
  have hbA : Below (((W.alloc (.cells #[.slice Da0 DL0.length Dc0, .slice Da1 DL1.length Dc1, .slice Da2 DL2.length Dc2, .int .i64 Dx3] 26)).alloc (.cells #[.slice Ea0 EL0.length Ec0] 29)).alloc (.cells #[.int .i64 Fx0, .int .i64 Fx1] 31)).heap.size (((W.alloc (.cells #[.slice Da0 DL0.length Dc0, .slice Da1 DL1.length Dc1, .slice Da2 DL2.length Dc2, .int .i64 Dx3] 26)).alloc (.cells #[.slice Ea0 EL0.length Ec0] 29)).alloc (.cells #[.int .i64 Fx0, .int .i64 Fx1] 31)) ((((W.alloc (.cells #[.slice Da0 DL0.length Dc0, .slice Da1 DL1.length Dc1, .slice Da2 DL2.length Dc2, .int .i64 Dx3] 26)).alloc (.cells #[.slice Ea0 EL0.length Ec0] 29)).alloc (.cells #[.int .i64 Fx0, .int .i64 Fx1] 31)).alloc (.cells #[.int .i64 Tx0, .int .i64 Tx1] 31)) := (Below.refl _ _).alloc (Nat.le_refl _) _
  have PD_4 := Lib.hid (PD_3.out.call hbA)
  have PE_4 := Lib.hid (PE_3.out.call hbA)
  have PF_4 := Lib.hid (PFh_3.out.call hbA)
  have HD_4 := Lib.hid (gmv R_Config_ok HD_3.out hbA)
  have HE_4 := Lib.hid (gmv R_Mail_ok HE_3.out hbA)
  have HB4 := Lib.hid (HB3.out.trans ((hbA).mono HB3.out.size))
  have HZ4 := Lib.hid ((hbA).size)
  clear PD_3 PE_3 PFh_3 HD_3 HE_3 HB3
  have PT_4 := Blk.new (((W.alloc (.cells #[.slice Da0 DL0.length Dc0, .slice Da1 DL1.length Dc1, .slice Da2 DL2.length Dc2, .int .i64 Dx3] 26)).alloc (.cells #[.slice Ea0 EL0.length Ec0] 29)).alloc (.cells #[.int .i64 Fx0, .int .i64 Fx1] 31)) 31 #[.int .i64 Tx0, .int .i64 Tx1]
  have PTh_4 := Lib.hid PT_4
  clear PT_4 hbA
  have hq := PTh_4.out
  simp only [World.size_alloc] at hq
  clear PTh_4
  have PTh_4 := Lib.hid hq
  clear hq
  by_cases hszD : ((R_Config.sz (DL0, DL1, DL2, Dx3) : Nat) : Int) ≤ (1048576 : Int)
  rotate_left
  · skip
    go_enter Tryz.func3, Tryz.ntmps3
    have qPD_0 := PD_4.out.at_ 0 rfl
    have qPD_1 := PD_4.out.at_ 1 rfl
    have qPD_2 := PD_4.out.at_ 2 rfl
    have qPD_3 := PD_4.out.at_ 3 rfl
    have qPE_0 := PE_4.out.at_ 0 rfl
    have qPF_0 := PF_4.out.at_ 0 rfl
    have qPF_1 := PF_4.out.at_ 1 rfl
    have qPT_0 := PTh_4.out.at_ 0 rfl
    have qPT_1 := PTh_4.out.at_ 1 rfl
    go_wp2_with fail
    refine (gsz_Config (l := (1048576 : Int)) (by omega) (by omega) HD_4.out).mono ?_
    intro e w5 h
    obtain ⟨rfl, hb⟩ := szC_elim h
    rw [szR_no (by omega)]
    clear qPD_0 qPD_1 qPD_2 qPD_3 qPE_0 qPF_0 qPF_1 qPT_0 qPT_1
    have PD_5 := Lib.hid (PD_4.out.call hb)
    have PE_5 := Lib.hid (PE_4.out.call hb)
    have PF_5 := Lib.hid (PF_4.out.call hb)
    have PT_5 := Lib.hid (PTh_4.out.call hb)
    have HD_5 := Lib.hid (gmv R_Config_ok HD_4.out hb)
    have HE_5 := Lib.hid (gmv R_Mail_ok HE_4.out hb)
    have HB5 := Lib.hid (HB4.out.trans ((hb).mono HB4.out.size))
    have HZ5 := Lib.hid ((hb).size)
    clear PD_4 PE_4 PF_4 PTh_4 HD_4 HE_4 HB4
    clear h hb
    go_wp2
    go_ret
    exact ⟨rfl, HB5.out⟩
  have hswD : R_Config.sz (DL0, DL1, DL2, Dx3) ≤ 1048576 := by omega
  have HSZD := Lib.hid hswD
  have HSAD := Lib.hid (cvs_Config hswD)
  clear hswD
  obtain ⟨mD, hmD⟩ : ∃ m : Nat, R_Config.sz (DL0, DL1, DL2, Dx3) = m := ⟨_, rfl⟩
  have HMD := Lib.hid hmD
  rw [hmD] at hszD
  clear hmD
  have hltD : decide ((1048576 : Int) - (mD : Int) < 0) = false := decide_eq_false (by omega)
  by_cases hszE : ((R_Mail.sz EL0 : Nat) : Int) ≤ (1048576 : Int) - (mD : Int)
  rotate_left
  · skip
    go_enter Tryz.func3, Tryz.ntmps3
    have qPD_0 := PD_4.out.at_ 0 rfl
    have qPD_1 := PD_4.out.at_ 1 rfl
    have qPD_2 := PD_4.out.at_ 2 rfl
    have qPD_3 := PD_4.out.at_ 3 rfl
    have qPE_0 := PE_4.out.at_ 0 rfl
    have qPF_0 := PF_4.out.at_ 0 rfl
    have qPF_1 := PF_4.out.at_ 1 rfl
    have qPT_0 := PTh_4.out.at_ 0 rfl
    have qPT_1 := PTh_4.out.at_ 1 rfl
    go_wp2_with fail
    refine (gsz_Config (l := (1048576 : Int)) (by omega) (by omega) HD_4.out).mono ?_
    intro e w5 h
    obtain ⟨rfl, hb⟩ := szC_elim h
    rw [HMD.out, szR_yes (by omega)]
    clear qPD_0 qPD_1 qPD_2 qPD_3 qPE_0 qPF_0 qPF_1 qPT_0 qPT_1
    have PD_5 := Lib.hid (PD_4.out.call hb)
    have PE_5 := Lib.hid (PE_4.out.call hb)
    have PF_5 := Lib.hid (PF_4.out.call hb)
    have PT_5 := Lib.hid (PTh_4.out.call hb)
    have HD_5 := Lib.hid (gmv R_Config_ok HD_4.out hb)
    have HE_5 := Lib.hid (gmv R_Mail_ok HE_4.out hb)
    have HB5 := Lib.hid (HB4.out.trans ((hb).mono HB4.out.size))
    have HZ5 := Lib.hid ((hb).size)
    clear PD_4 PE_4 PF_4 PTh_4 HD_4 HE_4 HB4
    clear h hb
    have qPD_0 := PD_5.out.at_ 0 rfl
    have qPD_1 := PD_5.out.at_ 1 rfl
    have qPD_2 := PD_5.out.at_ 2 rfl
    have qPD_3 := PD_5.out.at_ 3 rfl
    have qPE_0 := PE_5.out.at_ 0 rfl
    have qPF_0 := PF_5.out.at_ 0 rfl
    have qPF_1 := PF_5.out.at_ 1 rfl
    have qPT_0 := PT_5.out.at_ 0 rfl
    have qPT_1 := PT_5.out.at_ 1 rfl
    go_wp2_with fail
    refine (gsz_Mail (l := (1048576 : Int) - (mD : Int)) (by omega) (by omega) HE_5.out).mono ?_
    intro e w6 h
    obtain ⟨rfl, hb⟩ := szC_elim h
    rw [szR_no (by omega)]
    clear qPD_0 qPD_1 qPD_2 qPD_3 qPE_0 qPF_0 qPF_1 qPT_0 qPT_1
    have PD_6 := Lib.hid (PD_5.out.call hb)
    have PE_6 := Lib.hid (PE_5.out.call hb)
    have PF_6 := Lib.hid (PF_5.out.call hb)
    have PT_6 := Lib.hid (PT_5.out.call hb)
    have HD_6 := Lib.hid (gmv R_Config_ok HD_5.out hb)
    have HE_6 := Lib.hid (gmv R_Mail_ok HE_5.out hb)
    have HB6 := Lib.hid (HB5.out.trans ((hb).mono HB5.out.size))
    have HZ6 := Lib.hid ((hb).size)
    clear PD_5 PE_5 PF_5 PT_5 HD_5 HE_5 HB5
    clear h hb
    go_wp2
    go_ret
    exact ⟨rfl, HB6.out⟩
  have hswE : R_Mail.sz EL0 ≤ 1048576 := by omega
  have HSZE := Lib.hid hswE
  have HSAE := Lib.hid (cvs_Mail hswE)
  clear hswE
  obtain ⟨mE, hmE⟩ : ∃ m : Nat, R_Mail.sz EL0 = m := ⟨_, rfl⟩
  have HME := Lib.hid hmE
  rw [hmE] at hszE
  clear hmE
  have hltE : decide ((1048576 : Int) - (mD : Int) - (mE : Int) < 0) = false := decide_eq_false (by omega)
  obtain ⟨⟨dL0, dx1⟩, hD⟩ : ∃ d, sendV (DL0, DL1, DL2, Dx3) EL0 (Fx0, Fx1) (Tx0, Tx1) N K = d := ⟨_, rfl⟩
  have HDD := Lib.hid hD
  have HSM := Lib.hid (send_small hD)
  clear hD
  go_enter Tryz.func3, Tryz.ntmps3
  have qPD_0 := PD_4.out.at_ 0 rfl
  have qPD_1 := PD_4.out.at_ 1 rfl
  have qPD_2 := PD_4.out.at_ 2 rfl
  have qPD_3 := PD_4.out.at_ 3 rfl
  have qPE_0 := PE_4.out.at_ 0 rfl
  have qPF_0 := PF_4.out.at_ 0 rfl
  have qPF_1 := PF_4.out.at_ 1 rfl
  have qPT_0 := PTh_4.out.at_ 0 rfl
  have qPT_1 := PTh_4.out.at_ 1 rfl
  go_wp2_with fail
  refine (gsz_Config (l := (1048576 : Int)) (by omega) (by omega) HD_4.out).mono ?_
  intro e w5 h
  obtain ⟨rfl, hb⟩ := szC_elim h
  rw [HMD.out, szR_yes (by omega)]
  clear qPD_0 qPD_1 qPD_2 qPD_3 qPE_0 qPF_0 qPF_1 qPT_0 qPT_1
  have PD_5 := Lib.hid (PD_4.out.call hb)
  have PE_5 := Lib.hid (PE_4.out.call hb)
  have PF_5 := Lib.hid (PF_4.out.call hb)
  have PT_5 := Lib.hid (PTh_4.out.call hb)
  have HD_5 := Lib.hid (gmv R_Config_ok HD_4.out hb)
  have HE_5 := Lib.hid (gmv R_Mail_ok HE_4.out hb)
  have HB5 := Lib.hid (HB4.out.trans ((hb).mono HB4.out.size))
  have HZ5 := Lib.hid ((hb).size)
  clear PD_4 PE_4 PF_4 PTh_4 HD_4 HE_4 HB4
  clear h hb
  have qPD_0 := PD_5.out.at_ 0 rfl
  have qPD_1 := PD_5.out.at_ 1 rfl
  have qPD_2 := PD_5.out.at_ 2 rfl
  have qPD_3 := PD_5.out.at_ 3 rfl
  have qPE_0 := PE_5.out.at_ 0 rfl
  have qPF_0 := PF_5.out.at_ 0 rfl
  have qPF_1 := PF_5.out.at_ 1 rfl
  have qPT_0 := PT_5.out.at_ 0 rfl
  have qPT_1 := PT_5.out.at_ 1 rfl
  go_wp2_with fail
  refine (gsz_Mail (l := (1048576 : Int) - (mD : Int)) (by omega) (by omega) HE_5.out).mono ?_
  intro e w6 h
  obtain ⟨rfl, hb⟩ := szC_elim h
  rw [HME.out, szR_yes (by omega)]
  clear qPD_0 qPD_1 qPD_2 qPD_3 qPE_0 qPF_0 qPF_1 qPT_0 qPT_1
  have PD_6 := Lib.hid (PD_5.out.call hb)
  have PE_6 := Lib.hid (PE_5.out.call hb)
  have PF_6 := Lib.hid (PF_5.out.call hb)
  have PT_6 := Lib.hid (PT_5.out.call hb)
  have HD_6 := Lib.hid (gmv R_Config_ok HD_5.out hb)
  have HE_6 := Lib.hid (gmv R_Mail_ok HE_5.out hb)
  have HB6 := Lib.hid (HB5.out.trans ((hb).mono HB5.out.size))
  have HZ6 := Lib.hid ((hb).size)
  clear PD_5 PE_5 PF_5 PT_5 HD_5 HE_5 HB5
  clear h hb
  have qPD_0 := PD_6.out.at_ 0 rfl
  have qPD_1 := PD_6.out.at_ 1 rfl
  have qPD_2 := PD_6.out.at_ 2 rfl
  have qPD_3 := PD_6.out.at_ 3 rfl
  have qPE_0 := PE_6.out.at_ 0 rfl
  have qPF_0 := PF_6.out.at_ 0 rfl
  have qPF_1 := PF_6.out.at_ 1 rfl
  have qPT_0 := PT_6.out.at_ 0 rfl
  have qPT_1 := PT_6.out.at_ 1 rfl
  clear hszD hszE
  clear qPD_0 qPD_1 qPD_2 qPD_3 qPE_0 qPF_0 qPF_1 qPT_0 qPT_1
  have HPL := Lib.hid (PT_6.out.lt)
  go_upto_region 8 with fail
  go_cut [14] (fun s8 wx => ∃ (gw : Nat) (ra0w : Option Addr) (rc0w : Nat) (Sw : Nat → Prop), s8 = .pointer (some ⟨gw, 0, none⟩) ∧ Hid (Blk wx gw 38 #[.slice ra0w dL0.length rc0w, .int .i64 dx1]) ∧ Hid (OwG R_MailOut wx Sw (dL0, dx1) [.slice ra0w dL0.length rc0w, .int .i64 dx1]) ∧ Hid (∀ k, Sw k → w6.heap.size ≤ k ∧ k ≠ gw) ∧ Hid (w6.heap.size ≤ gw) ∧ Hid (Below w6.heap.size w6 wx))
  case first =>
    refine wp_region_held_drew (S := (fun V => Below w6.heap.size w6 V)) (by kernel_rfl) ((Below.refl _ _).drew) (fun hHeld => ?_)
    refine tk 0 hHeld ?_ (hy := fun w hSw => by (try dsimp only at hSw); have k0 := (hSw.cell (p := ⟨W.heap.size, 0, none⟩) PD_6.out.lt).trans (PD_6.out.at_ 0 rfl); have k1 := (hSw.cell (p := ⟨W.heap.size, 1, none⟩) PD_6.out.lt).trans (PD_6.out.at_ 1 rfl); have k2 := (hSw.cell (p := ⟨W.heap.size, 2, none⟩) PD_6.out.lt).trans (PD_6.out.at_ 2 rfl); have k3 := (hSw.cell (p := ⟨W.heap.size, 3, none⟩) PD_6.out.lt).trans (PD_6.out.at_ 3 rfl); clear hSw; go_simp; try with_reducible rfl)
    refine tk 2 hHeld ?_ (hy := fun w hSw => by (try dsimp only at hSw); have k0 := (hSw.cell (p := ⟨(W.heap.size + 1), 0, none⟩) PE_6.out.lt).trans (PE_6.out.at_ 0 rfl); clear hSw; go_simp; try with_reducible rfl)
    refine tk 4 hHeld ?_ (hy := fun w hSw => by (try dsimp only at hSw); have k0 := (hSw.cell (p := ⟨(W.heap.size + 1 + 1), 0, none⟩) PF_6.out.lt).trans (PF_6.out.at_ 0 rfl); have k1 := (hSw.cell (p := ⟨(W.heap.size + 1 + 1), 1, none⟩) PF_6.out.lt).trans (PF_6.out.at_ 1 rfl); clear hSw; go_simp; try with_reducible rfl)
    refine tk 6 hHeld ?_ (hy := fun w hSw => by (try dsimp only at hSw); have k0 := (hSw.cell (p := ⟨(W.heap.size + 1 + 1 + 1), 0, none⟩) PT_6.out.lt).trans (PT_6.out.at_ 0 rfl); have k1 := (hSw.cell (p := ⟨(W.heap.size + 1 + 1 + 1), 1, none⟩) PT_6.out.lt).trans (PT_6.out.at_ 1 rfl); clear hSw; go_simp; try with_reducible rfl)
    refine tk 8 hHeld ?_
    refine tk 9 hHeld ?_
    refine rd2 1 11 (fun K hK => ?_) (fun K hK => ?_)
    · skip
      go_simp
      go_at_call 11
      refine (gto_Config HSZD.out (gmv R_Config_ok HD_6.out hHeld)).mono ?_
      intro e v8_1 h
      obtain ⟨us, rfl, hu, hb⟩ := newV_elim h
      obtain ⟨aD0_8_1, cD0_8_1, aD1_8_1, cD1_8_1, aD2_8_1, cD2_8_1, rfl, hu⟩ := owc_Config hu
      have ND := Lib.hid (owG_new hu)
      clear h hu
      refine hK.out _ _ (hHeld.trans (hb.mono hHeld.size)) (fun hHeld => ?_)
      clear hK K hb
      refine rd2 3 11 (fun K hK => ?_) (fun K hK => ?_)
      · skip
        go_simp
        go_at_call 12
        refine (gto_Mail HSZE.out (gmv R_Mail_ok HE_6.out hHeld)).mono ?_
        intro e v8_2 h
        obtain ⟨us, rfl, hu, hb⟩ := newV_elim h
        obtain ⟨aE0_8_2, cE0_8_2, rfl, hu⟩ := owc_Mail hu
        have ND := Lib.hid (ND.out.mv R_Config_ok hb)
        have NE := Lib.hid (owG_new hu)
        clear h hu
        refine hK.out _ _ (hHeld.trans (hb.mono hHeld.size)) (fun hHeld => ?_)
        clear hK K hb
        refine rd2 5 11 (fun K hK => ?_) (fun K hK => ?_)
        · skip
          go_simp
          go_at_call 13
          refine (to_Label (by simp only [R_Label, Pr, I, atom] <;> omega)).mono ?_
          intro e v8_3 h
          obtain ⟨us, rfl, hu, hb⟩ := newV_elim h
          obtain rfl := ow0_Label hu
          have ND := Lib.hid (ND.out.mv R_Config_ok hb)
          have NE := Lib.hid (NE.out.mv R_Mail_ok hb)
          clear h hu
          refine hK.out _ _ (hHeld.trans (hb.mono hHeld.size)) (fun hHeld => ?_)
          clear hK K hb
          refine rd2 7 11 (fun K hK => ?_) (fun K hK => ?_)
          · skip
            go_simp
            go_at_call 13
            refine (to_Label (by simp only [R_Label, Pr, I, atom] <;> omega)).mono ?_
            intro e v8_4 h
            obtain ⟨us, rfl, hu, hb⟩ := newV_elim h
            obtain rfl := ow0_Label hu
            have ND := Lib.hid (ND.out.mv R_Config_ok hb)
            have NE := Lib.hid (NE.out.mv R_Mail_ok hb)
            clear h hu
            refine hK.out _ _ (hHeld.trans (hb.mono hHeld.size)) (fun hHeld => ?_)
            clear hK K hb
            refine rd2 10 11 (fun K hK => ?_) (fun K hK => ?_)
            · skip
              go_simp
              go_at_call 10
              refine (gmsend_spec (ND.out.rd R_Config_ok) (NE.out.rd R_Mail_ok)).mono ?_
              intro e v8_5 h
              rw [HDD.out] at h
              obtain ⟨us, rfl, hu, hb⟩ := newV_elim h
              obtain ⟨ra08_5, rc08_5, rfl, hu⟩ := owc_MailOut hu
              have hHeld0 := Lib.hid hHeld
              have OW := Lib.hid (owG_new hu)
              clear h hu ND NE
              refine hK.out _ _ (hHeld.trans (hb.mono hHeld.size)) (fun hHeld => ?_)
              clear hK K hb
              refine rd1 11 (fun K hK => ?_)
              go_simp
              have hb : Below (v8_5).heap.size (v8_5) (v8_5.alloc (.cells #[.slice none 0 0, .int .i64 0] 38)) := (Below.refl _ _).alloc (Nat.le_refl _) _
              have OW0 := OW
              have OW := Lib.hid (OW.out.mv R_MailOut_ok hb)
              have GB := Lib.hid (show Blk (v8_5.alloc (.cells #[.slice none 0 0, .int .i64 0] 38)) v8_5.heap.size 38 #[.slice none 0 0, .int .i64 0] from Blk.new (v8_5) 38 #[.slice none 0 0, .int .i64 0])
              have HGE := Lib.hid (show w6.heap.size ≤ v8_5.heap.size from hHeld.size)
              have HTB := Lib.hid (show ∀ k, Rg v8_4.heap.size v8_5.heap.size k → w6.heap.size ≤ k ∧ k ≠ v8_5.heap.size from fun k hk => ⟨Nat.le_trans hHeld0.out.size hk.1, by have := hk.2; omega⟩)
              have hPre := Lib.hid hHeld
              refine hK.out _ _ (hHeld.trans (hb.mono hHeld.size)) (fun hHeld => ?_)
              clear hK K hb
              refine rd1 12 (fun K hK => ?_)
              go_simp
              refine hK.out _ _ (hPre.out.alloc HGE.out (.cells #[.slice ra08_5 dL0.length rc08_5, .int .i64 dx1] 38)) (fun hHeld => ?_)
              clear hK K
              refine rd0 ?_
              go_wp2_with fail
              go_meet
              exact ⟨_, _, _, _, rfl, Lib.hid (Blk.new v8_5 38 #[.slice ra08_5 dL0.length rc08_5, .int .i64 dx1]), Lib.hid (OW0.out.mv R_MailOut_ok ((Below.refl _ _).alloc (Nat.le_refl _) (.cells #[.slice ra08_5 dL0.length rc08_5, .int .i64 dx1] 38))), HTB, HGE, Lib.hid hHeld⟩
            · skip
              go_simp
              have hb : Below (v8_4).heap.size (v8_4) (v8_4.alloc (.cells #[.slice none 0 0, .int .i64 0] 38)) := (Below.refl _ _).alloc (Nat.le_refl _) _
              have ND := Lib.hid (ND.out.mv R_Config_ok hb)
              have NE := Lib.hid (NE.out.mv R_Mail_ok hb)
              have GB := Lib.hid (show Blk (v8_4.alloc (.cells #[.slice none 0 0, .int .i64 0] 38)) v8_4.heap.size 38 #[.slice none 0 0, .int .i64 0] from Blk.new (v8_4) 38 #[.slice none 0 0, .int .i64 0])
              have HGE := Lib.hid (show w6.heap.size ≤ v8_4.heap.size from hHeld.size)
              refine hK.out _ _ (hHeld.trans (hb.mono hHeld.size)) (fun hHeld => ?_)
              clear hK K hb
              have GBl := Lib.hid (show v8_4.heap.size < (v8_4.alloc (.cells #[.slice none 0 0, .int .i64 0] 38)).heap.size from GB.out.lt)
              refine rd1 10 (fun K hK => ?_)
              go_simp
              go_at_call 10
              refine (gmsend_spec (ND.out.rd R_Config_ok) (NE.out.rd R_Mail_ok)).mono ?_
              intro e v8_6 h
              rw [HDD.out] at h
              obtain ⟨us, rfl, hu, hb⟩ := newV_elim h
              obtain ⟨ra08_6, rc08_6, rfl, hu⟩ := owc_MailOut hu
              have hHeld0 := Lib.hid hHeld
              have GB := Lib.hid (GB.out.call hb)
              have OW := Lib.hid (owG_new hu)
              have HTB := Lib.hid (show ∀ k, Rg (v8_4.alloc (.cells #[.slice none 0 0, .int .i64 0] 38)).heap.size v8_6.heap.size k → w6.heap.size ≤ k ∧ k ≠ v8_4.heap.size from fun k hk => ⟨Nat.le_trans hHeld.size hk.1, by have h1 := hk.1; have h2 := GBl.out; omega⟩)
              clear h hu ND NE
              refine hK.out _ _ (hHeld.trans (hb.mono hHeld.size)) (fun hHeld => ?_)
              clear hK K hb
              have GBl := Lib.hid (show v8_4.heap.size < v8_6.heap.size from GB.out.lt)
              refine rd1 12 (fun K hK => ?_)
              have q0 := GB.out.at_ 0 rfl
              have f0 := GB.out.soft 0
              have q1 := GB.out.at_ 1 rfl
              have f1 := GB.out.soft 1
              go_simp
              refine hK.out _ _ ((hHeld.setCell (p := ⟨v8_4.heap.size, 0, none⟩) (by exact HGE.out) (.slice ra08_6 dL0.length rc08_6)).setCell (p := ⟨v8_4.heap.size, 1, none⟩) (by exact HGE.out) (.int .i64 dx1)) (fun hHeld => ?_)
              clear hK K q0 f0 q1 f1
              refine rd0 ?_
              go_wp2_with fail
              go_meet
              exact ⟨_, _, _, _, rfl, Lib.hid (sets_MailOut GB.out), Lib.hid (OW.out.off R_MailOut_ok (soff_MailOut _ _ _ _) (fun k hk h2 => (HTB.out k hk).2 h2)), HTB, HGE, Lib.hid hHeld⟩
          · skip
            go_simp
            have hb : Below (v8_3).heap.size (v8_3) (v8_3.alloc (.cells #[.slice none 0 0, .int .i64 0] 38)) := (Below.refl _ _).alloc (Nat.le_refl _) _
            have ND := Lib.hid (ND.out.mv R_Config_ok hb)
            have NE := Lib.hid (NE.out.mv R_Mail_ok hb)
            have GB := Lib.hid (show Blk (v8_3.alloc (.cells #[.slice none 0 0, .int .i64 0] 38)) v8_3.heap.size 38 #[.slice none 0 0, .int .i64 0] from Blk.new (v8_3) 38 #[.slice none 0 0, .int .i64 0])
            have HGE := Lib.hid (show w6.heap.size ≤ v8_3.heap.size from hHeld.size)
            refine hK.out _ _ (hHeld.trans (hb.mono hHeld.size)) (fun hHeld => ?_)
            clear hK K hb
            have GBl := Lib.hid (show v8_3.heap.size < (v8_3.alloc (.cells #[.slice none 0 0, .int .i64 0] 38)).heap.size from GB.out.lt)
            refine rd1 7 (fun K hK => ?_)
            go_simp
            go_at_call 13
            refine (to_Label (by simp only [R_Label, Pr, I, atom] <;> omega)).mono ?_
            intro e v8_7 h
            obtain ⟨us, rfl, hu, hb⟩ := newV_elim h
            obtain rfl := ow0_Label hu
            have ND := Lib.hid (ND.out.mv R_Config_ok hb)
            have NE := Lib.hid (NE.out.mv R_Mail_ok hb)
            have GB := Lib.hid (GB.out.call hb)
            clear h hu
            refine hK.out _ _ (hHeld.trans (hb.mono hHeld.size)) (fun hHeld => ?_)
            clear hK K hb
            have GBl := Lib.hid (show v8_3.heap.size < v8_7.heap.size from GB.out.lt)
            refine rd1 10 (fun K hK => ?_)
            go_simp
            go_at_call 10
            refine (gmsend_spec (ND.out.rd R_Config_ok) (NE.out.rd R_Mail_ok)).mono ?_
            intro e v8_8 h
            rw [HDD.out] at h
            obtain ⟨us, rfl, hu, hb⟩ := newV_elim h
            obtain ⟨ra08_8, rc08_8, rfl, hu⟩ := owc_MailOut hu
            have hHeld0 := Lib.hid hHeld
            have GB := Lib.hid (GB.out.call hb)
            have OW := Lib.hid (owG_new hu)
            have HTB := Lib.hid (show ∀ k, Rg v8_7.heap.size v8_8.heap.size k → w6.heap.size ≤ k ∧ k ≠ v8_3.heap.size from fun k hk => ⟨Nat.le_trans hHeld.size hk.1, by have h1 := hk.1; have h2 := GBl.out; omega⟩)
            clear h hu ND NE
            refine hK.out _ _ (hHeld.trans (hb.mono hHeld.size)) (fun hHeld => ?_)
            clear hK K hb
            have GBl := Lib.hid (show v8_3.heap.size < v8_8.heap.size from GB.out.lt)
            refine rd1 12 (fun K hK => ?_)
            have q0 := GB.out.at_ 0 rfl
            have f0 := GB.out.soft 0
            have q1 := GB.out.at_ 1 rfl
            have f1 := GB.out.soft 1
            go_simp
            refine hK.out _ _ ((hHeld.setCell (p := ⟨v8_3.heap.size, 0, none⟩) (by exact HGE.out) (.slice ra08_8 dL0.length rc08_8)).setCell (p := ⟨v8_3.heap.size, 1, none⟩) (by exact HGE.out) (.int .i64 dx1)) (fun hHeld => ?_)
            clear hK K q0 f0 q1 f1
            refine rd0 ?_
            go_wp2_with fail
            go_meet
            exact ⟨_, _, _, _, rfl, Lib.hid (sets_MailOut GB.out), Lib.hid (OW.out.off R_MailOut_ok (soff_MailOut _ _ _ _) (fun k hk h2 => (HTB.out k hk).2 h2)), HTB, HGE, Lib.hid hHeld⟩
        · skip
          go_simp
          have hb : Below (v8_2).heap.size (v8_2) (v8_2.alloc (.cells #[.slice none 0 0, .int .i64 0] 38)) := (Below.refl _ _).alloc (Nat.le_refl _) _
          have ND := Lib.hid (ND.out.mv R_Config_ok hb)
          have NE := Lib.hid (NE.out.mv R_Mail_ok hb)
          have GB := Lib.hid (show Blk (v8_2.alloc (.cells #[.slice none 0 0, .int .i64 0] 38)) v8_2.heap.size 38 #[.slice none 0 0, .int .i64 0] from Blk.new (v8_2) 38 #[.slice none 0 0, .int .i64 0])
          have HGE := Lib.hid (show w6.heap.size ≤ v8_2.heap.size from hHeld.size)
          refine hK.out _ _ (hHeld.trans (hb.mono hHeld.size)) (fun hHeld => ?_)
          clear hK K hb
          have GBl := Lib.hid (show v8_2.heap.size < (v8_2.alloc (.cells #[.slice none 0 0, .int .i64 0] 38)).heap.size from GB.out.lt)
          refine rd1 5 (fun K hK => ?_)
          go_simp
          go_at_call 13
          refine (to_Label (by simp only [R_Label, Pr, I, atom] <;> omega)).mono ?_
          intro e v8_9 h
          obtain ⟨us, rfl, hu, hb⟩ := newV_elim h
          obtain rfl := ow0_Label hu
          have ND := Lib.hid (ND.out.mv R_Config_ok hb)
          have NE := Lib.hid (NE.out.mv R_Mail_ok hb)
          have GB := Lib.hid (GB.out.call hb)
          clear h hu
          refine hK.out _ _ (hHeld.trans (hb.mono hHeld.size)) (fun hHeld => ?_)
          clear hK K hb
          have GBl := Lib.hid (show v8_2.heap.size < v8_9.heap.size from GB.out.lt)
          refine rd1 7 (fun K hK => ?_)
          go_simp
          go_at_call 13
          refine (to_Label (by simp only [R_Label, Pr, I, atom] <;> omega)).mono ?_
          intro e v8_10 h
          obtain ⟨us, rfl, hu, hb⟩ := newV_elim h
          obtain rfl := ow0_Label hu
          have ND := Lib.hid (ND.out.mv R_Config_ok hb)
          have NE := Lib.hid (NE.out.mv R_Mail_ok hb)
          have GB := Lib.hid (GB.out.call hb)
          clear h hu
          refine hK.out _ _ (hHeld.trans (hb.mono hHeld.size)) (fun hHeld => ?_)
          clear hK K hb
          have GBl := Lib.hid (show v8_2.heap.size < v8_10.heap.size from GB.out.lt)
          refine rd1 10 (fun K hK => ?_)
          go_simp
          go_at_call 10
          refine (gmsend_spec (ND.out.rd R_Config_ok) (NE.out.rd R_Mail_ok)).mono ?_
          intro e v8_11 h
          rw [HDD.out] at h
          obtain ⟨us, rfl, hu, hb⟩ := newV_elim h
          obtain ⟨ra08_11, rc08_11, rfl, hu⟩ := owc_MailOut hu
          have hHeld0 := Lib.hid hHeld
          have GB := Lib.hid (GB.out.call hb)
          have OW := Lib.hid (owG_new hu)
          have HTB := Lib.hid (show ∀ k, Rg v8_10.heap.size v8_11.heap.size k → w6.heap.size ≤ k ∧ k ≠ v8_2.heap.size from fun k hk => ⟨Nat.le_trans hHeld.size hk.1, by have h1 := hk.1; have h2 := GBl.out; omega⟩)
          clear h hu ND NE
          refine hK.out _ _ (hHeld.trans (hb.mono hHeld.size)) (fun hHeld => ?_)
          clear hK K hb
          have GBl := Lib.hid (show v8_2.heap.size < v8_11.heap.size from GB.out.lt)
          refine rd1 12 (fun K hK => ?_)
          have q0 := GB.out.at_ 0 rfl
          have f0 := GB.out.soft 0
          have q1 := GB.out.at_ 1 rfl
          have f1 := GB.out.soft 1
          go_simp
          refine hK.out _ _ ((hHeld.setCell (p := ⟨v8_2.heap.size, 0, none⟩) (by exact HGE.out) (.slice ra08_11 dL0.length rc08_11)).setCell (p := ⟨v8_2.heap.size, 1, none⟩) (by exact HGE.out) (.int .i64 dx1)) (fun hHeld => ?_)
          clear hK K q0 f0 q1 f1
          refine rd0 ?_
          go_wp2_with fail
          go_meet
          exact ⟨_, _, _, _, rfl, Lib.hid (sets_MailOut GB.out), Lib.hid (OW.out.off R_MailOut_ok (soff_MailOut _ _ _ _) (fun k hk h2 => (HTB.out k hk).2 h2)), HTB, HGE, Lib.hid hHeld⟩
      · skip
        go_simp
        have hb : Below (v8_1).heap.size (v8_1) (v8_1.alloc (.cells #[.slice none 0 0, .int .i64 0] 38)) := (Below.refl _ _).alloc (Nat.le_refl _) _
        have ND := Lib.hid (ND.out.mv R_Config_ok hb)
        have GB := Lib.hid (show Blk (v8_1.alloc (.cells #[.slice none 0 0, .int .i64 0] 38)) v8_1.heap.size 38 #[.slice none 0 0, .int .i64 0] from Blk.new (v8_1) 38 #[.slice none 0 0, .int .i64 0])
        have HGE := Lib.hid (show w6.heap.size ≤ v8_1.heap.size from hHeld.size)
        refine hK.out _ _ (hHeld.trans (hb.mono hHeld.size)) (fun hHeld => ?_)
        clear hK K hb
        have GBl := Lib.hid (show v8_1.heap.size < (v8_1.alloc (.cells #[.slice none 0 0, .int .i64 0] 38)).heap.size from GB.out.lt)
        refine rd1 3 (fun K hK => ?_)
        go_simp
        go_at_call 12
        refine (gto_Mail HSZE.out (gmv R_Mail_ok HE_6.out hHeld)).mono ?_
        intro e v8_12 h
        obtain ⟨us, rfl, hu, hb⟩ := newV_elim h
        obtain ⟨aE0_8_12, cE0_8_12, rfl, hu⟩ := owc_Mail hu
        have ND := Lib.hid (ND.out.mv R_Config_ok hb)
        have GB := Lib.hid (GB.out.call hb)
        have NE := Lib.hid (owG_new hu)
        clear h hu
        refine hK.out _ _ (hHeld.trans (hb.mono hHeld.size)) (fun hHeld => ?_)
        clear hK K hb
        have GBl := Lib.hid (show v8_1.heap.size < v8_12.heap.size from GB.out.lt)
        refine rd1 5 (fun K hK => ?_)
        go_simp
        go_at_call 13
        refine (to_Label (by simp only [R_Label, Pr, I, atom] <;> omega)).mono ?_
        intro e v8_13 h
        obtain ⟨us, rfl, hu, hb⟩ := newV_elim h
        obtain rfl := ow0_Label hu
        have ND := Lib.hid (ND.out.mv R_Config_ok hb)
        have NE := Lib.hid (NE.out.mv R_Mail_ok hb)
        have GB := Lib.hid (GB.out.call hb)
        clear h hu
        refine hK.out _ _ (hHeld.trans (hb.mono hHeld.size)) (fun hHeld => ?_)
        clear hK K hb
        have GBl := Lib.hid (show v8_1.heap.size < v8_13.heap.size from GB.out.lt)
        refine rd1 7 (fun K hK => ?_)
        go_simp
        go_at_call 13
        refine (to_Label (by simp only [R_Label, Pr, I, atom] <;> omega)).mono ?_
        intro e v8_14 h
        obtain ⟨us, rfl, hu, hb⟩ := newV_elim h
        obtain rfl := ow0_Label hu
        have ND := Lib.hid (ND.out.mv R_Config_ok hb)
        have NE := Lib.hid (NE.out.mv R_Mail_ok hb)
        have GB := Lib.hid (GB.out.call hb)
        clear h hu
        refine hK.out _ _ (hHeld.trans (hb.mono hHeld.size)) (fun hHeld => ?_)
        clear hK K hb
        have GBl := Lib.hid (show v8_1.heap.size < v8_14.heap.size from GB.out.lt)
        refine rd1 10 (fun K hK => ?_)
        go_simp
        go_at_call 10
        refine (gmsend_spec (ND.out.rd R_Config_ok) (NE.out.rd R_Mail_ok)).mono ?_
        intro e v8_15 h
        rw [HDD.out] at h
        obtain ⟨us, rfl, hu, hb⟩ := newV_elim h
        obtain ⟨ra08_15, rc08_15, rfl, hu⟩ := owc_MailOut hu
        have hHeld0 := Lib.hid hHeld
        have GB := Lib.hid (GB.out.call hb)
        have OW := Lib.hid (owG_new hu)
        have HTB := Lib.hid (show ∀ k, Rg v8_14.heap.size v8_15.heap.size k → w6.heap.size ≤ k ∧ k ≠ v8_1.heap.size from fun k hk => ⟨Nat.le_trans hHeld.size hk.1, by have h1 := hk.1; have h2 := GBl.out; omega⟩)
        clear h hu ND NE
        refine hK.out _ _ (hHeld.trans (hb.mono hHeld.size)) (fun hHeld => ?_)
        clear hK K hb
        have GBl := Lib.hid (show v8_1.heap.size < v8_15.heap.size from GB.out.lt)
        refine rd1 12 (fun K hK => ?_)
        have q0 := GB.out.at_ 0 rfl
        have f0 := GB.out.soft 0
        have q1 := GB.out.at_ 1 rfl
        have f1 := GB.out.soft 1
        go_simp
        refine hK.out _ _ ((hHeld.setCell (p := ⟨v8_1.heap.size, 0, none⟩) (by exact HGE.out) (.slice ra08_15 dL0.length rc08_15)).setCell (p := ⟨v8_1.heap.size, 1, none⟩) (by exact HGE.out) (.int .i64 dx1)) (fun hHeld => ?_)
        clear hK K q0 f0 q1 f1
        refine rd0 ?_
        go_wp2_with fail
        go_meet
        exact ⟨_, _, _, _, rfl, Lib.hid (sets_MailOut GB.out), Lib.hid (OW.out.off R_MailOut_ok (soff_MailOut _ _ _ _) (fun k hk h2 => (HTB.out k hk).2 h2)), HTB, HGE, Lib.hid hHeld⟩
    · skip
      go_simp
      have hb : Below (w6.drew).heap.size (w6.drew) ((w6.drew).alloc (.cells #[.slice none 0 0, .int .i64 0] 38)) := (Below.refl _ _).alloc (Nat.le_refl _) _
      have GB := Lib.hid (show Blk ((w6.drew).alloc (.cells #[.slice none 0 0, .int .i64 0] 38)) w6.heap.size 38 #[.slice none 0 0, .int .i64 0] from Blk.new (w6.drew) 38 #[.slice none 0 0, .int .i64 0])
      have HGE := Lib.hid (show w6.heap.size ≤ w6.heap.size from hHeld.size)
      refine hK.out _ _ (hHeld.trans (hb.mono hHeld.size)) (fun hHeld => ?_)
      clear hK K hb
      have GBl := Lib.hid (show w6.heap.size < ((w6.drew).alloc (.cells #[.slice none 0 0, .int .i64 0] 38)).heap.size from GB.out.lt)
      refine rd1 1 (fun K hK => ?_)
      go_simp
      go_at_call 11
      refine (gto_Config HSZD.out (gmv R_Config_ok HD_6.out hHeld)).mono ?_
      intro e v8_16 h
      obtain ⟨us, rfl, hu, hb⟩ := newV_elim h
      obtain ⟨aD0_8_16, cD0_8_16, aD1_8_16, cD1_8_16, aD2_8_16, cD2_8_16, rfl, hu⟩ := owc_Config hu
      have GB := Lib.hid (GB.out.call hb)
      have ND := Lib.hid (owG_new hu)
      clear h hu
      refine hK.out _ _ (hHeld.trans (hb.mono hHeld.size)) (fun hHeld => ?_)
      clear hK K hb
      have GBl := Lib.hid (show w6.heap.size < v8_16.heap.size from GB.out.lt)
      refine rd1 3 (fun K hK => ?_)
      go_simp
      go_at_call 12
      refine (gto_Mail HSZE.out (gmv R_Mail_ok HE_6.out hHeld)).mono ?_
      intro e v8_17 h
      obtain ⟨us, rfl, hu, hb⟩ := newV_elim h
      obtain ⟨aE0_8_17, cE0_8_17, rfl, hu⟩ := owc_Mail hu
      have ND := Lib.hid (ND.out.mv R_Config_ok hb)
      have GB := Lib.hid (GB.out.call hb)
      have NE := Lib.hid (owG_new hu)
      clear h hu
      refine hK.out _ _ (hHeld.trans (hb.mono hHeld.size)) (fun hHeld => ?_)
      clear hK K hb
      have GBl := Lib.hid (show w6.heap.size < v8_17.heap.size from GB.out.lt)
      refine rd1 5 (fun K hK => ?_)
      go_simp
      go_at_call 13
      refine (to_Label (by simp only [R_Label, Pr, I, atom] <;> omega)).mono ?_
      intro e v8_18 h
      obtain ⟨us, rfl, hu, hb⟩ := newV_elim h
      obtain rfl := ow0_Label hu
      have ND := Lib.hid (ND.out.mv R_Config_ok hb)
      have NE := Lib.hid (NE.out.mv R_Mail_ok hb)
      have GB := Lib.hid (GB.out.call hb)
      clear h hu
      refine hK.out _ _ (hHeld.trans (hb.mono hHeld.size)) (fun hHeld => ?_)
      clear hK K hb
      have GBl := Lib.hid (show w6.heap.size < v8_18.heap.size from GB.out.lt)
      refine rd1 7 (fun K hK => ?_)
      go_simp
      go_at_call 13
      refine (to_Label (by simp only [R_Label, Pr, I, atom] <;> omega)).mono ?_
      intro e v8_19 h
      obtain ⟨us, rfl, hu, hb⟩ := newV_elim h
      obtain rfl := ow0_Label hu
      have ND := Lib.hid (ND.out.mv R_Config_ok hb)
      have NE := Lib.hid (NE.out.mv R_Mail_ok hb)
      have GB := Lib.hid (GB.out.call hb)
      clear h hu
      refine hK.out _ _ (hHeld.trans (hb.mono hHeld.size)) (fun hHeld => ?_)
      clear hK K hb
      have GBl := Lib.hid (show w6.heap.size < v8_19.heap.size from GB.out.lt)
      refine rd1 10 (fun K hK => ?_)
      go_simp
      go_at_call 10
      refine (gmsend_spec (ND.out.rd R_Config_ok) (NE.out.rd R_Mail_ok)).mono ?_
      intro e v8_20 h
      rw [HDD.out] at h
      obtain ⟨us, rfl, hu, hb⟩ := newV_elim h
      obtain ⟨ra08_20, rc08_20, rfl, hu⟩ := owc_MailOut hu
      have hHeld0 := Lib.hid hHeld
      have GB := Lib.hid (GB.out.call hb)
      have OW := Lib.hid (owG_new hu)
      have HTB := Lib.hid (show ∀ k, Rg v8_19.heap.size v8_20.heap.size k → w6.heap.size ≤ k ∧ k ≠ w6.heap.size from fun k hk => ⟨Nat.le_trans hHeld.size hk.1, by have h1 := hk.1; have h2 := GBl.out; omega⟩)
      clear h hu ND NE
      refine hK.out _ _ (hHeld.trans (hb.mono hHeld.size)) (fun hHeld => ?_)
      clear hK K hb
      have GBl := Lib.hid (show w6.heap.size < v8_20.heap.size from GB.out.lt)
      refine rd1 12 (fun K hK => ?_)
      have q0 := GB.out.at_ 0 rfl
      have f0 := GB.out.soft 0
      have q1 := GB.out.at_ 1 rfl
      have f1 := GB.out.soft 1
      go_simp
      refine hK.out _ _ ((hHeld.setCell (p := ⟨w6.heap.size, 0, none⟩) (by exact HGE.out) (.slice ra08_20 dL0.length rc08_20)).setCell (p := ⟨w6.heap.size, 1, none⟩) (by exact HGE.out) (.int .i64 dx1)) (fun hHeld => ?_)
      clear hK K q0 f0 q1 f1
      refine rd0 ?_
      go_wp2_with fail
      go_meet
      exact ⟨_, _, _, _, rfl, Lib.hid (sets_MailOut GB.out), Lib.hid (OW.out.off R_MailOut_ok (soff_MailOut _ _ _ _) (fun k hk h2 => (HTB.out k hk).2 h2)), HTB, HGE, Lib.hid hHeld⟩
  case rest =>
    obtain ⟨gw, ra0w, rc0w, Sw, rfl, HX8, HO8, HT8, HG8, hcb⟩ := hcut
    rename World => w7
    have hb := hcb.out
    have PD_7 := Lib.hid (PD_6.out.call hb)
    have PE_7 := Lib.hid (PE_6.out.call hb)
    have PF_7 := Lib.hid (PF_6.out.call hb)
    have PT_7 := Lib.hid (PT_6.out.call hb)
    have HD_7 := Lib.hid (gmv R_Config_ok HD_6.out hb)
    have HE_7 := Lib.hid (gmv R_Mail_ok HE_6.out hb)
    have HB7 := Lib.hid (HB6.out.trans ((hb).mono HB6.out.size))
    have HZ7 := Lib.hid ((hb).size)
    clear PD_6 PE_6 PF_6 PT_6 HD_6 HE_6 HB6
    clear hb hcb
    have Bw_7 := HX8
    have Yw_7 := HO8
    have HTw := HT8
    have HGw := HG8
    clear HX8 HO8 HT8 HG8
    have HSw := Lib.hid (fun k (hk : Sw k) => (⟨(HTw.out k hk).1, Yw_7.out.2 k hk⟩ : w6.heap.size ≤ k ∧ k < w7.heap.size))
    have HGLw := Lib.hid (show gw < w7.heap.size from Bw_7.out.lt)
    have qPD_0 := PD_7.out.at_ 0 rfl
    have qPD_1 := PD_7.out.at_ 1 rfl
    have qPD_2 := PD_7.out.at_ 2 rfl
    have qPD_3 := PD_7.out.at_ 3 rfl
    go_wp2_with fail
    refine (gto_Config HSZD.out HD_7.out).mono ?_
    intro e w8 h
    obtain ⟨us, rfl, hu, hb⟩ := newV_elim h
    obtain ⟨aD08, cD08, aD18, cD18, aD28, cD28, rfl, hu⟩ := owc_Config hu
    clear qPD_0 qPD_1 qPD_2 qPD_3
    have PD_8 := Lib.hid (PD_7.out.call hb)
    have PE_8 := Lib.hid (PE_7.out.call hb)
    have PF_8 := Lib.hid (PF_7.out.call hb)
    have PT_8 := Lib.hid (PT_7.out.call hb)
    have Bw_8 := Lib.hid (Bw_7.out.call hb)
    have HD_8 := Lib.hid (gmv R_Config_ok HD_7.out hb)
    have HE_8 := Lib.hid (gmv R_Mail_ok HE_7.out hb)
    have Yw_8 := Lib.hid (Yw_7.out.mv R_MailOut_ok hb)
    have HB8 := Lib.hid (HB7.out.trans ((hb).mono HB7.out.size))
    have HZ8 := Lib.hid ((hb).size)
    clear PD_7 PE_7 PF_7 PT_7 Bw_7 HD_7 HE_7 Yw_7 HB7
    have XD_8 := Lib.hid (owG_new hu)
    have HSD := Lib.hid (fun k (hk : Rg w7.heap.size w8.heap.size k) => hk)
    clear hu
    clear h hb
    have hbA : Below (w8).heap.size (w8) (w8.alloc (.cells #[.slice aD08 DL0.length cD08, .slice aD18 DL1.length cD18, .slice aD28 DL2.length cD28, .int .i64 Dx3] 44)) := (Below.refl _ _).alloc (Nat.le_refl _) _
    have PD_9 := Lib.hid (PD_8.out.call hbA)
    have PE_9 := Lib.hid (PE_8.out.call hbA)
    have PF_9 := Lib.hid (PF_8.out.call hbA)
    have PT_9 := Lib.hid (PT_8.out.call hbA)
    have Bw_9 := Lib.hid (Bw_8.out.call hbA)
    have HD_9 := Lib.hid (gmv R_Config_ok HD_8.out hbA)
    have HE_9 := Lib.hid (gmv R_Mail_ok HE_8.out hbA)
    have Yw_9 := Lib.hid (Yw_8.out.mv R_MailOut_ok hbA)
    have XD_9 := Lib.hid (XD_8.out.mv R_Config_ok hbA)
    have HB9 := Lib.hid (HB8.out.trans ((hbA).mono HB8.out.size))
    have HZ9 := Lib.hid ((hbA).size)
    clear PD_8 PE_8 PF_8 PT_8 Bw_8 HD_8 HE_8 Yw_8 XD_8 HB8
    have BXD_9 := Blk.new (w8) 44 #[.slice aD08 DL0.length cD08, .slice aD18 DL1.length cD18, .slice aD28 DL2.length cD28, .int .i64 Dx3]
    have BXDh_9 := Lib.hid BXD_9
    clear BXD_9 hbA
    have HZ10 := Lib.hid ((show (w8.alloc (.cells #[.slice aD08 DL0.length cD08, .slice aD18 DL1.length cD18, .slice aD28 DL2.length cD28, .int .i64 Dx3] 44)).heap.size = w8.heap.size + 1 by simp))
    obtain ⟨wz9, hwz9⟩ : ∃ w, w = w8.alloc (.cells #[.slice aD08 DL0.length cD08, .slice aD18 DL1.length cD18, .slice aD28 DL2.length cD28, .int .i64 Dx3] 44) := ⟨_, rfl⟩
    rw [← hwz9] at PD_9 PE_9 PF_9 PT_9 Bw_9 BXDh_9 HD_9 HE_9 Yw_9 XD_9 HB9 HZ9 HZ10
    have qPE_0 := PE_9.out.at_ 0 rfl
    have qPE_0_u := qPE_0
    rw [hwz9] at qPE_0_u
    go_wp2_with fail
    rw [← hwz9]
    clear hwz9
    refine (gto_Mail HSZE.out HE_9.out).mono ?_
    intro e w10 h
    obtain ⟨us, rfl, hu, hb⟩ := newV_elim h
    obtain ⟨aE010, cE010, rfl, hu⟩ := owc_Mail hu
    clear qPE_0 qPE_0_u
    have PD_10 := Lib.hid (PD_9.out.call hb)
    have PE_10 := Lib.hid (PE_9.out.call hb)
    have PF_10 := Lib.hid (PF_9.out.call hb)
    have PT_10 := Lib.hid (PT_9.out.call hb)
    have Bw_10 := Lib.hid (Bw_9.out.call hb)
    have BXD_10 := Lib.hid (BXDh_9.out.call hb)
    have HD_10 := Lib.hid (gmv R_Config_ok HD_9.out hb)
    have HE_10 := Lib.hid (gmv R_Mail_ok HE_9.out hb)
    have Yw_10 := Lib.hid (Yw_9.out.mv R_MailOut_ok hb)
    have XD_10 := Lib.hid (XD_9.out.mv R_Config_ok hb)
    have HB10 := Lib.hid (HB9.out.trans ((hb).mono HB9.out.size))
    have HZ11 := Lib.hid ((hb).size)
    clear PD_9 PE_9 PF_9 PT_9 Bw_9 BXDh_9 HD_9 HE_9 Yw_9 XD_9 HB9
    have XE_10 := Lib.hid (owG_new hu)
    have HSE := Lib.hid (fun k (hk : Rg wz9.heap.size w10.heap.size k) => hk)
    clear hu
    clear h hb
    have hbA : Below (w10).heap.size (w10) (w10.alloc (.cells #[.slice aE010 EL0.length cE010] 36)) := (Below.refl _ _).alloc (Nat.le_refl _) _
    have PD_11 := Lib.hid (PD_10.out.call hbA)
    have PE_11 := Lib.hid (PE_10.out.call hbA)
    have PF_11 := Lib.hid (PF_10.out.call hbA)
    have PT_11 := Lib.hid (PT_10.out.call hbA)
    have Bw_11 := Lib.hid (Bw_10.out.call hbA)
    have BXD_11 := Lib.hid (BXD_10.out.call hbA)
    have HD_11 := Lib.hid (gmv R_Config_ok HD_10.out hbA)
    have HE_11 := Lib.hid (gmv R_Mail_ok HE_10.out hbA)
    have Yw_11 := Lib.hid (Yw_10.out.mv R_MailOut_ok hbA)
    have XD_11 := Lib.hid (XD_10.out.mv R_Config_ok hbA)
    have XE_11 := Lib.hid (XE_10.out.mv R_Mail_ok hbA)
    have HB11 := Lib.hid (HB10.out.trans ((hbA).mono HB10.out.size))
    have HZ12 := Lib.hid ((hbA).size)
    clear PD_10 PE_10 PF_10 PT_10 Bw_10 BXD_10 HB10
    have BXE_11 := Blk.new (w10) 36 #[.slice aE010 EL0.length cE010]
    have BXEh_11 := Lib.hid BXE_11
    clear BXE_11 hbA
    have HZ13 := Lib.hid ((show (w10.alloc (.cells #[.slice aE010 EL0.length cE010] 36)).heap.size = w10.heap.size + 1 by simp))
    obtain ⟨wz11, hwz11⟩ : ∃ w, w = w10.alloc (.cells #[.slice aE010 EL0.length cE010] 36) := ⟨_, rfl⟩
    rw [← hwz11] at PD_11 PE_11 PF_11 PT_11 Bw_11 BXD_11 BXEh_11 HD_11 HE_11 Yw_11 XD_11 XE_11 HB11 HZ12 HZ13
    go_wp2_with fail
    rw [← hwz11]
    clear hwz11
    go_upto_region 11 with fail
    go_cut [17] (fun s8 wx => ∃ (gg : Nat) (ra0g : Option Addr) (rc0g : Nat) (Sg : Nat → Prop), s8 = .pointer (some ⟨gg, 0, none⟩) ∧ Hid (Blk wx gg 38 #[.slice ra0g dL0.length rc0g, .int .i64 dx1]) ∧ Hid (OwG R_MailOut wx Sg (dL0, dx1) [.slice ra0g dL0.length rc0g, .int .i64 dx1]) ∧ Hid (∀ k, Sg k → wz11.heap.size ≤ k ∧ k ≠ gg) ∧ Hid (wz11.heap.size ≤ gg) ∧ Hid (Below wz11.heap.size wz11 wx))
    case first =>
      refine wp_region_held_drew (S := (fun V => Below wz11.heap.size wz11 V)) (by kernel_rfl) ((Below.refl _ _).drew) (fun hHeld => ?_)
      refine tk 0 hHeld ?_ (hy := fun w hSw => by (try dsimp only at hSw); have k0 := (hSw.cell (p := ⟨w8.heap.size, 0, none⟩) BXD_11.out.lt).trans (BXD_11.out.at_ 0 rfl); have k1 := (hSw.cell (p := ⟨w8.heap.size, 1, none⟩) BXD_11.out.lt).trans (BXD_11.out.at_ 1 rfl); have k2 := (hSw.cell (p := ⟨w8.heap.size, 2, none⟩) BXD_11.out.lt).trans (BXD_11.out.at_ 2 rfl); have k3 := (hSw.cell (p := ⟨w8.heap.size, 3, none⟩) BXD_11.out.lt).trans (BXD_11.out.at_ 3 rfl); clear hSw; go_simp; try with_reducible rfl)
      refine tk 1 hHeld ?_ (hy := fun w hSw => by (try dsimp only at hSw); have k0 := (hSw.cell (p := ⟨w10.heap.size, 0, none⟩) BXEh_11.out.lt).trans (BXEh_11.out.at_ 0 rfl); clear hSw; go_simp; try with_reducible rfl)
      refine tk 2 hHeld ?_ (hy := fun w hSw => by (try dsimp only at hSw); have k0 := (hSw.cell (p := ⟨(W.heap.size + 1 + 1), 0, none⟩) PF_11.out.lt).trans (PF_11.out.at_ 0 rfl); have k1 := (hSw.cell (p := ⟨(W.heap.size + 1 + 1), 1, none⟩) PF_11.out.lt).trans (PF_11.out.at_ 1 rfl); clear hSw; go_simp; try with_reducible rfl)
      refine tk 4 hHeld ?_ (hy := fun w hSw => by (try dsimp only at hSw); have k0 := (hSw.cell (p := ⟨(W.heap.size + 1 + 1 + 1), 0, none⟩) PT_11.out.lt).trans (PT_11.out.at_ 0 rfl); have k1 := (hSw.cell (p := ⟨(W.heap.size + 1 + 1 + 1), 1, none⟩) PT_11.out.lt).trans (PT_11.out.at_ 1 rfl); clear hSw; go_simp; try with_reducible rfl)
      refine tk 6 hHeld ?_
      refine tk 7 hHeld ?_
      refine rd2 3 9 (fun K hK => ?_) (fun K hK => ?_)
      · skip
        go_simp
        go_at_call 13
        refine (to_Label (by simp only [R_Label, Pr, I, atom] <;> omega)).mono ?_
        intro e v11_1 h
        obtain ⟨us, rfl, hu, hb⟩ := newV_elim h
        obtain rfl := ow0_Label hu
        clear h hu
        refine hK.out _ _ (hHeld.trans (hb.mono hHeld.size)) (fun hHeld => ?_)
        clear hK K hb
        refine rd2 5 9 (fun K hK => ?_) (fun K hK => ?_)
        · skip
          go_simp
          go_at_call 13
          refine (to_Label (by simp only [R_Label, Pr, I, atom] <;> omega)).mono ?_
          intro e v11_2 h
          obtain ⟨us, rfl, hu, hb⟩ := newV_elim h
          obtain rfl := ow0_Label hu
          clear h hu
          refine hK.out _ _ (hHeld.trans (hb.mono hHeld.size)) (fun hHeld => ?_)
          clear hK K hb
          refine rd2 8 9 (fun K hK => ?_) (fun K hK => ?_)
          · skip
            go_simp
            go_at_call 14
            refine (gmsend_impl (gmv R_Config_ok (XD_11.out.rd R_Config_ok) hHeld) (gmv R_Mail_ok (XE_11.out.rd R_Mail_ok) hHeld)).mono ?_
            intro e v11_3 h
            rw [HDD.out] at h
            obtain ⟨us, rfl, hu, hb⟩ := newV_elim h
            obtain ⟨ra011_3, rc011_3, rfl, hu⟩ := owc_MailOut hu
            have hHeld0 := Lib.hid hHeld
            have OW := Lib.hid (owG_new hu)
            clear h hu
            refine hK.out _ _ (hHeld.trans (hb.mono hHeld.size)) (fun hHeld => ?_)
            clear hK K hb
            refine rd1 9 (fun K hK => ?_)
            go_simp
            have hb : Below (v11_3).heap.size (v11_3) (v11_3.alloc (.cells #[.slice none 0 0, .int .i64 0] 38)) := (Below.refl _ _).alloc (Nat.le_refl _) _
            have OW0 := OW
            have OW := Lib.hid (OW.out.mv R_MailOut_ok hb)
            have GB := Lib.hid (show Blk (v11_3.alloc (.cells #[.slice none 0 0, .int .i64 0] 38)) v11_3.heap.size 38 #[.slice none 0 0, .int .i64 0] from Blk.new (v11_3) 38 #[.slice none 0 0, .int .i64 0])
            have HGE := Lib.hid (show wz11.heap.size ≤ v11_3.heap.size from hHeld.size)
            have HTB := Lib.hid (show ∀ k, Rg v11_2.heap.size v11_3.heap.size k → wz11.heap.size ≤ k ∧ k ≠ v11_3.heap.size from fun k hk => ⟨Nat.le_trans hHeld0.out.size hk.1, by have := hk.2; omega⟩)
            have hPre := Lib.hid hHeld
            refine hK.out _ _ (hHeld.trans (hb.mono hHeld.size)) (fun hHeld => ?_)
            clear hK K hb
            refine rd1 10 (fun K hK => ?_)
            go_simp
            refine hK.out _ _ (hPre.out.alloc HGE.out (.cells #[.slice ra011_3 dL0.length rc011_3, .int .i64 dx1] 38)) (fun hHeld => ?_)
            clear hK K
            refine rd0 ?_
            go_wp2_with fail
            go_meet
            exact ⟨_, _, _, _, rfl, Lib.hid (Blk.new v11_3 38 #[.slice ra011_3 dL0.length rc011_3, .int .i64 dx1]), Lib.hid (OW0.out.mv R_MailOut_ok ((Below.refl _ _).alloc (Nat.le_refl _) (.cells #[.slice ra011_3 dL0.length rc011_3, .int .i64 dx1] 38))), HTB, HGE, Lib.hid hHeld⟩
          · skip
            go_simp
            have hb : Below (v11_2).heap.size (v11_2) (v11_2.alloc (.cells #[.slice none 0 0, .int .i64 0] 38)) := (Below.refl _ _).alloc (Nat.le_refl _) _
            have GB := Lib.hid (show Blk (v11_2.alloc (.cells #[.slice none 0 0, .int .i64 0] 38)) v11_2.heap.size 38 #[.slice none 0 0, .int .i64 0] from Blk.new (v11_2) 38 #[.slice none 0 0, .int .i64 0])
            have HGE := Lib.hid (show wz11.heap.size ≤ v11_2.heap.size from hHeld.size)
            refine hK.out _ _ (hHeld.trans (hb.mono hHeld.size)) (fun hHeld => ?_)
            clear hK K hb
            have GBl := Lib.hid (show v11_2.heap.size < (v11_2.alloc (.cells #[.slice none 0 0, .int .i64 0] 38)).heap.size from GB.out.lt)
            refine rd1 8 (fun K hK => ?_)
            go_simp
            go_at_call 14
            refine (gmsend_impl (gmv R_Config_ok (XD_11.out.rd R_Config_ok) hHeld) (gmv R_Mail_ok (XE_11.out.rd R_Mail_ok) hHeld)).mono ?_
            intro e v11_4 h
            rw [HDD.out] at h
            obtain ⟨us, rfl, hu, hb⟩ := newV_elim h
            obtain ⟨ra011_4, rc011_4, rfl, hu⟩ := owc_MailOut hu
            have hHeld0 := Lib.hid hHeld
            have GB := Lib.hid (GB.out.call hb)
            have OW := Lib.hid (owG_new hu)
            have HTB := Lib.hid (show ∀ k, Rg (v11_2.alloc (.cells #[.slice none 0 0, .int .i64 0] 38)).heap.size v11_4.heap.size k → wz11.heap.size ≤ k ∧ k ≠ v11_2.heap.size from fun k hk => ⟨Nat.le_trans hHeld.size hk.1, by have h1 := hk.1; have h2 := GBl.out; omega⟩)
            clear h hu
            refine hK.out _ _ (hHeld.trans (hb.mono hHeld.size)) (fun hHeld => ?_)
            clear hK K hb
            have GBl := Lib.hid (show v11_2.heap.size < v11_4.heap.size from GB.out.lt)
            refine rd1 10 (fun K hK => ?_)
            have q0 := GB.out.at_ 0 rfl
            have f0 := GB.out.soft 0
            have q1 := GB.out.at_ 1 rfl
            have f1 := GB.out.soft 1
            go_simp
            refine hK.out _ _ ((hHeld.setCell (p := ⟨v11_2.heap.size, 0, none⟩) (by exact HGE.out) (.slice ra011_4 dL0.length rc011_4)).setCell (p := ⟨v11_2.heap.size, 1, none⟩) (by exact HGE.out) (.int .i64 dx1)) (fun hHeld => ?_)
            clear hK K q0 f0 q1 f1
            refine rd0 ?_
            go_wp2_with fail
            go_meet
            exact ⟨_, _, _, _, rfl, Lib.hid (sets_MailOut GB.out), Lib.hid (OW.out.off R_MailOut_ok (soff_MailOut _ _ _ _) (fun k hk h2 => (HTB.out k hk).2 h2)), HTB, HGE, Lib.hid hHeld⟩
        · skip
          go_simp
          have hb : Below (v11_1).heap.size (v11_1) (v11_1.alloc (.cells #[.slice none 0 0, .int .i64 0] 38)) := (Below.refl _ _).alloc (Nat.le_refl _) _
          have GB := Lib.hid (show Blk (v11_1.alloc (.cells #[.slice none 0 0, .int .i64 0] 38)) v11_1.heap.size 38 #[.slice none 0 0, .int .i64 0] from Blk.new (v11_1) 38 #[.slice none 0 0, .int .i64 0])
          have HGE := Lib.hid (show wz11.heap.size ≤ v11_1.heap.size from hHeld.size)
          refine hK.out _ _ (hHeld.trans (hb.mono hHeld.size)) (fun hHeld => ?_)
          clear hK K hb
          have GBl := Lib.hid (show v11_1.heap.size < (v11_1.alloc (.cells #[.slice none 0 0, .int .i64 0] 38)).heap.size from GB.out.lt)
          refine rd1 5 (fun K hK => ?_)
          go_simp
          go_at_call 13
          refine (to_Label (by simp only [R_Label, Pr, I, atom] <;> omega)).mono ?_
          intro e v11_5 h
          obtain ⟨us, rfl, hu, hb⟩ := newV_elim h
          obtain rfl := ow0_Label hu
          have GB := Lib.hid (GB.out.call hb)
          clear h hu
          refine hK.out _ _ (hHeld.trans (hb.mono hHeld.size)) (fun hHeld => ?_)
          clear hK K hb
          have GBl := Lib.hid (show v11_1.heap.size < v11_5.heap.size from GB.out.lt)
          refine rd1 8 (fun K hK => ?_)
          go_simp
          go_at_call 14
          refine (gmsend_impl (gmv R_Config_ok (XD_11.out.rd R_Config_ok) hHeld) (gmv R_Mail_ok (XE_11.out.rd R_Mail_ok) hHeld)).mono ?_
          intro e v11_6 h
          rw [HDD.out] at h
          obtain ⟨us, rfl, hu, hb⟩ := newV_elim h
          obtain ⟨ra011_6, rc011_6, rfl, hu⟩ := owc_MailOut hu
          have hHeld0 := Lib.hid hHeld
          have GB := Lib.hid (GB.out.call hb)
          have OW := Lib.hid (owG_new hu)
          have HTB := Lib.hid (show ∀ k, Rg v11_5.heap.size v11_6.heap.size k → wz11.heap.size ≤ k ∧ k ≠ v11_1.heap.size from fun k hk => ⟨Nat.le_trans hHeld.size hk.1, by have h1 := hk.1; have h2 := GBl.out; omega⟩)
          clear h hu
          refine hK.out _ _ (hHeld.trans (hb.mono hHeld.size)) (fun hHeld => ?_)
          clear hK K hb
          have GBl := Lib.hid (show v11_1.heap.size < v11_6.heap.size from GB.out.lt)
          refine rd1 10 (fun K hK => ?_)
          have q0 := GB.out.at_ 0 rfl
          have f0 := GB.out.soft 0
          have q1 := GB.out.at_ 1 rfl
          have f1 := GB.out.soft 1
          go_simp
          refine hK.out _ _ ((hHeld.setCell (p := ⟨v11_1.heap.size, 0, none⟩) (by exact HGE.out) (.slice ra011_6 dL0.length rc011_6)).setCell (p := ⟨v11_1.heap.size, 1, none⟩) (by exact HGE.out) (.int .i64 dx1)) (fun hHeld => ?_)
          clear hK K q0 f0 q1 f1
          refine rd0 ?_
          go_wp2_with fail
          go_meet
          exact ⟨_, _, _, _, rfl, Lib.hid (sets_MailOut GB.out), Lib.hid (OW.out.off R_MailOut_ok (soff_MailOut _ _ _ _) (fun k hk h2 => (HTB.out k hk).2 h2)), HTB, HGE, Lib.hid hHeld⟩
      · skip
        go_simp
        have hb : Below (wz11.drew).heap.size (wz11.drew) ((wz11.drew).alloc (.cells #[.slice none 0 0, .int .i64 0] 38)) := (Below.refl _ _).alloc (Nat.le_refl _) _
        have GB := Lib.hid (show Blk ((wz11.drew).alloc (.cells #[.slice none 0 0, .int .i64 0] 38)) wz11.heap.size 38 #[.slice none 0 0, .int .i64 0] from Blk.new (wz11.drew) 38 #[.slice none 0 0, .int .i64 0])
        have HGE := Lib.hid (show wz11.heap.size ≤ wz11.heap.size from hHeld.size)
        refine hK.out _ _ (hHeld.trans (hb.mono hHeld.size)) (fun hHeld => ?_)
        clear hK K hb
        have GBl := Lib.hid (show wz11.heap.size < ((wz11.drew).alloc (.cells #[.slice none 0 0, .int .i64 0] 38)).heap.size from GB.out.lt)
        refine rd1 3 (fun K hK => ?_)
        go_simp
        go_at_call 13
        refine (to_Label (by simp only [R_Label, Pr, I, atom] <;> omega)).mono ?_
        intro e v11_7 h
        obtain ⟨us, rfl, hu, hb⟩ := newV_elim h
        obtain rfl := ow0_Label hu
        have GB := Lib.hid (GB.out.call hb)
        clear h hu
        refine hK.out _ _ (hHeld.trans (hb.mono hHeld.size)) (fun hHeld => ?_)
        clear hK K hb
        have GBl := Lib.hid (show wz11.heap.size < v11_7.heap.size from GB.out.lt)
        refine rd1 5 (fun K hK => ?_)
        go_simp
        go_at_call 13
        refine (to_Label (by simp only [R_Label, Pr, I, atom] <;> omega)).mono ?_
        intro e v11_8 h
        obtain ⟨us, rfl, hu, hb⟩ := newV_elim h
        obtain rfl := ow0_Label hu
        have GB := Lib.hid (GB.out.call hb)
        clear h hu
        refine hK.out _ _ (hHeld.trans (hb.mono hHeld.size)) (fun hHeld => ?_)
        clear hK K hb
        have GBl := Lib.hid (show wz11.heap.size < v11_8.heap.size from GB.out.lt)
        refine rd1 8 (fun K hK => ?_)
        go_simp
        go_at_call 14
        refine (gmsend_impl (gmv R_Config_ok (XD_11.out.rd R_Config_ok) hHeld) (gmv R_Mail_ok (XE_11.out.rd R_Mail_ok) hHeld)).mono ?_
        intro e v11_9 h
        rw [HDD.out] at h
        obtain ⟨us, rfl, hu, hb⟩ := newV_elim h
        obtain ⟨ra011_9, rc011_9, rfl, hu⟩ := owc_MailOut hu
        have hHeld0 := Lib.hid hHeld
        have GB := Lib.hid (GB.out.call hb)
        have OW := Lib.hid (owG_new hu)
        have HTB := Lib.hid (show ∀ k, Rg v11_8.heap.size v11_9.heap.size k → wz11.heap.size ≤ k ∧ k ≠ wz11.heap.size from fun k hk => ⟨Nat.le_trans hHeld.size hk.1, by have h1 := hk.1; have h2 := GBl.out; omega⟩)
        clear h hu
        refine hK.out _ _ (hHeld.trans (hb.mono hHeld.size)) (fun hHeld => ?_)
        clear hK K hb
        have GBl := Lib.hid (show wz11.heap.size < v11_9.heap.size from GB.out.lt)
        refine rd1 10 (fun K hK => ?_)
        have q0 := GB.out.at_ 0 rfl
        have f0 := GB.out.soft 0
        have q1 := GB.out.at_ 1 rfl
        have f1 := GB.out.soft 1
        go_simp
        refine hK.out _ _ ((hHeld.setCell (p := ⟨wz11.heap.size, 0, none⟩) (by exact HGE.out) (.slice ra011_9 dL0.length rc011_9)).setCell (p := ⟨wz11.heap.size, 1, none⟩) (by exact HGE.out) (.int .i64 dx1)) (fun hHeld => ?_)
        clear hK K q0 f0 q1 f1
        refine rd0 ?_
        go_wp2_with fail
        go_meet
        exact ⟨_, _, _, _, rfl, Lib.hid (sets_MailOut GB.out), Lib.hid (OW.out.off R_MailOut_ok (soff_MailOut _ _ _ _) (fun k hk h2 => (HTB.out k hk).2 h2)), HTB, HGE, Lib.hid hHeld⟩
    case rest =>
      obtain ⟨gg, ra0g, rc0g, Sg, rfl, HX8, HO8, HT8, HG8, hcb⟩ := hcut
      rename World => w12
      have hb := hcb.out
      have PD_12 := Lib.hid (PD_11.out.call hb)
      have PE_12 := Lib.hid (PE_11.out.call hb)
      have PF_12 := Lib.hid (PF_11.out.call hb)
      have PT_12 := Lib.hid (PT_11.out.call hb)
      have Bw_12 := Lib.hid (Bw_11.out.call hb)
      have BXD_12 := Lib.hid (BXD_11.out.call hb)
      have BXE_12 := Lib.hid (BXEh_11.out.call hb)
      have HD_12 := Lib.hid (gmv R_Config_ok HD_11.out hb)
      have HE_12 := Lib.hid (gmv R_Mail_ok HE_11.out hb)
      have Yw_12 := Lib.hid (Yw_11.out.mv R_MailOut_ok hb)
      have XD_12 := Lib.hid (XD_11.out.mv R_Config_ok hb)
      have XE_12 := Lib.hid (XE_11.out.mv R_Mail_ok hb)
      have HB12 := Lib.hid (HB11.out.trans ((hb).mono HB11.out.size))
      have HZ14 := Lib.hid ((hb).size)
      clear PD_11 PE_11 PF_11 PT_11 Bw_11 BXD_11 BXEh_11 HD_11 HE_11 Yw_11 XD_11 XE_11 HB11
      clear hb hcb
      have Bg_12 := HX8
      have Yg_12 := HO8
      have HTg := HT8
      have HGg := HG8
      clear HX8 HO8 HT8 HG8
      have HSg := Lib.hid (fun k (hk : Sg k) => (⟨(HTg.out k hk).1, Yg_12.out.2 k hk⟩ : wz11.heap.size ≤ k ∧ k < w12.heap.size))
      have HGLg := Lib.hid (show gg < w12.heap.size from Bg_12.out.lt)
      have qBg_0 := Bg_12.out.at_ 0 rfl
      have qBg_1 := Bg_12.out.at_ 1 rfl
      have qBw_0 := Bw_12.out.at_ 0 rfl
      have qBw_1 := Bw_12.out.at_ 1 rfl
      go_wp2_with fail
      refine (geq_MailOut (Yg_12.out.rd R_MailOut_ok) (Yw_12.out.rd R_MailOut_ok)).mono ?_
      intro e w13 h
      obtain ⟨rfl, hb⟩ := isB_elim h
      clear qBg_0 qBg_1 qBw_0 qBw_1
      have PD_13 := Lib.hid (PD_12.out.call hb)
      have PE_13 := Lib.hid (PE_12.out.call hb)
      have PF_13 := Lib.hid (PF_12.out.call hb)
      have PT_13 := Lib.hid (PT_12.out.call hb)
      have Bw_13 := Lib.hid (Bw_12.out.call hb)
      have BXD_13 := Lib.hid (BXD_12.out.call hb)
      have BXE_13 := Lib.hid (BXE_12.out.call hb)
      have Bg_13 := Lib.hid (Bg_12.out.call hb)
      have HD_13 := Lib.hid (gmv R_Config_ok HD_12.out hb)
      have HE_13 := Lib.hid (gmv R_Mail_ok HE_12.out hb)
      have Yw_13 := Lib.hid (Yw_12.out.mv R_MailOut_ok hb)
      have XD_13 := Lib.hid (XD_12.out.mv R_Config_ok hb)
      have XE_13 := Lib.hid (XE_12.out.mv R_Mail_ok hb)
      have Yg_13 := Lib.hid (Yg_12.out.mv R_MailOut_ok hb)
      have HB13 := Lib.hid (HB12.out.trans ((hb).mono HB12.out.size))
      have HZ15 := Lib.hid ((hb).size)
      clear PD_12 PE_12 PF_12 PT_12 Bw_12 BXD_12 BXE_12 Bg_12 HD_12 HE_12 Yw_12 XD_12 XE_12 Yg_12 HB12
      clear h hb
      go_wp2_with fail
      refine wp_region_held_drew (S := (fun V => Below (w13).heap.size (w13) V)) (by kernel_rfl) ((Below.refl _ _).drew) (fun hHeld => ?_)
      refine tk 0 hHeld ?_ (hy := fun w hSw => by (try dsimp only at hSw); have k0 := (hSw.cell (p := ⟨w8.heap.size, 0, none⟩) BXD_13.out.lt).trans (BXD_13.out.at_ 0 rfl); have k1 := (hSw.cell (p := ⟨w8.heap.size, 1, none⟩) BXD_13.out.lt).trans (BXD_13.out.at_ 1 rfl); have k2 := (hSw.cell (p := ⟨w8.heap.size, 2, none⟩) BXD_13.out.lt).trans (BXD_13.out.at_ 2 rfl); have k3 := (hSw.cell (p := ⟨w8.heap.size, 3, none⟩) BXD_13.out.lt).trans (BXD_13.out.at_ 3 rfl); clear hSw; go_simp; try with_reducible rfl)
      refine tk 1 hHeld ?_ (hy := fun w hSw => by (try dsimp only at hSw); have k0 := (hSw.cell (p := ⟨W.heap.size, 0, none⟩) PD_13.out.lt).trans (PD_13.out.at_ 0 rfl); have k1 := (hSw.cell (p := ⟨W.heap.size, 1, none⟩) PD_13.out.lt).trans (PD_13.out.at_ 1 rfl); have k2 := (hSw.cell (p := ⟨W.heap.size, 2, none⟩) PD_13.out.lt).trans (PD_13.out.at_ 2 rfl); have k3 := (hSw.cell (p := ⟨W.heap.size, 3, none⟩) PD_13.out.lt).trans (PD_13.out.at_ 3 rfl); clear hSw; go_simp; try with_reducible rfl)
      refine rd1 2 (fun K hK => ?_)
      go_simp
      go_at_call 11
      refine (gto_Config HSZD.out (gmv R_Config_ok HD_13.out hHeld)).mono ?_
      intro e w1301 h
      obtain ⟨us, rfl, hu, hb⟩ := newV_elim h
      obtain ⟨aD01301, cD01301, aD11301, cD11301, aD21301, cD21301, rfl, hu⟩ := owc_Config hu
      have NZ := Lib.hid (owG_new hu)
      clear h hu
      refine hK.out _ _ (hHeld.trans (hb.mono hHeld.size)) (fun hHeld => ?_)
      clear hK K hb
      refine rd1 3 (fun K hK => ?_)
      go_simp
      go_at_call 16
      refine (geq_Config (gmv R_Config_ok (XD_13.out.rd R_Config_ok) hHeld) (NZ.out.rd R_Config_ok)).mono ?_
      intro e w1302 h
      obtain ⟨rfl, hb⟩ := isB_elim h
      clear h
      refine hK.out _ _ (hHeld.trans (hb.mono hHeld.size)) (fun hHeld => ?_)
      clear hK K hb
      refine tk 4 hHeld ?_
      refine rd0 ?_
      have HF := Lib.hid hHeld
      clear hHeld
      have hF := HF.out
      have PD_14 := Lib.hid (PD_13.out.call hF)
      have PE_14 := Lib.hid (PE_13.out.call hF)
      have PF_14 := Lib.hid (PF_13.out.call hF)
      have PT_14 := Lib.hid (PT_13.out.call hF)
      have Bw_14 := Lib.hid (Bw_13.out.call hF)
      have BXD_14 := Lib.hid (BXD_13.out.call hF)
      have BXE_14 := Lib.hid (BXE_13.out.call hF)
      have Bg_14 := Lib.hid (Bg_13.out.call hF)
      have HD_14 := Lib.hid (gmv R_Config_ok HD_13.out hF)
      have HE_14 := Lib.hid (gmv R_Mail_ok HE_13.out hF)
      have Yw_14 := Lib.hid (Yw_13.out.mv R_MailOut_ok hF)
      have XD_14 := Lib.hid (XD_13.out.mv R_Config_ok hF)
      have XE_14 := Lib.hid (XE_13.out.mv R_Mail_ok hF)
      have Yg_14 := Lib.hid (Yg_13.out.mv R_MailOut_ok hF)
      have HB14 := Lib.hid (HB13.out.trans ((hF).mono HB13.out.size))
      have HZ16 := Lib.hid ((hF).size)
      clear PD_13 PE_13 PF_13 PT_13 Bw_13 BXD_13 BXE_13 Bg_13 HD_13 HE_13 Yw_13 XD_13 XE_13 Yg_13 HB13
      clear HF hF NZ
      go_wp2_with fail
      refine wp_region_held_drew (S := (fun V => Below (w1302).heap.size (w1302) V)) (by kernel_rfl) ((Below.refl _ _).drew) (fun hHeld => ?_)
      refine tk 0 hHeld ?_ (hy := fun w hSw => by (try dsimp only at hSw); have k0 := (hSw.cell (p := ⟨w10.heap.size, 0, none⟩) BXE_14.out.lt).trans (BXE_14.out.at_ 0 rfl); clear hSw; go_simp; try with_reducible rfl)
      refine tk 1 hHeld ?_ (hy := fun w hSw => by (try dsimp only at hSw); have k0 := (hSw.cell (p := ⟨(W.heap.size + 1), 0, none⟩) PE_14.out.lt).trans (PE_14.out.at_ 0 rfl); clear hSw; go_simp; try with_reducible rfl)
      refine rd1 2 (fun K hK => ?_)
      go_simp
      go_at_call 12
      refine (gto_Mail HSZE.out (gmv R_Mail_ok HE_14.out hHeld)).mono ?_
      intro e w1401 h
      obtain ⟨us, rfl, hu, hb⟩ := newV_elim h
      obtain ⟨aE01401, cE01401, rfl, hu⟩ := owc_Mail hu
      have NZ := Lib.hid (owG_new hu)
      clear h hu
      refine hK.out _ _ (hHeld.trans (hb.mono hHeld.size)) (fun hHeld => ?_)
      clear hK K hb
      refine rd1 3 (fun K hK => ?_)
      go_simp
      go_at_call 17
      refine (geq_Mail (gmv R_Mail_ok (XE_14.out.rd R_Mail_ok) hHeld) (NZ.out.rd R_Mail_ok)).mono ?_
      intro e w1402 h
      obtain ⟨rfl, hb⟩ := isB_elim h
      clear h
      refine hK.out _ _ (hHeld.trans (hb.mono hHeld.size)) (fun hHeld => ?_)
      clear hK K hb
      refine tk 4 hHeld ?_
      refine rd0 ?_
      have HF := Lib.hid hHeld
      clear hHeld
      have hF := HF.out
      have PD_15 := Lib.hid (PD_14.out.call hF)
      have PE_15 := Lib.hid (PE_14.out.call hF)
      have PF_15 := Lib.hid (PF_14.out.call hF)
      have PT_15 := Lib.hid (PT_14.out.call hF)
      have Bw_15 := Lib.hid (Bw_14.out.call hF)
      have BXD_15 := Lib.hid (BXD_14.out.call hF)
      have BXE_15 := Lib.hid (BXE_14.out.call hF)
      have Bg_15 := Lib.hid (Bg_14.out.call hF)
      have HD_15 := Lib.hid (gmv R_Config_ok HD_14.out hF)
      have HE_15 := Lib.hid (gmv R_Mail_ok HE_14.out hF)
      have Yw_15 := Lib.hid (Yw_14.out.mv R_MailOut_ok hF)
      have XD_15 := Lib.hid (XD_14.out.mv R_Config_ok hF)
      have XE_15 := Lib.hid (XE_14.out.mv R_Mail_ok hF)
      have Yg_15 := Lib.hid (Yg_14.out.mv R_MailOut_ok hF)
      have HB15 := Lib.hid (HB14.out.trans ((hF).mono HB14.out.size))
      have HZ17 := Lib.hid ((hF).size)
      clear PD_14 PE_14 PF_14 PT_14 Bw_14 BXD_14 BXE_14 Bg_14 HD_14 HE_14 Yw_14 XD_14 XE_14 Yg_14 HB14
      clear HF hF NZ
      have qBXD_0 := BXD_15.out.at_ 0 rfl
      have qBXD_1 := BXD_15.out.at_ 1 rfl
      have qBXD_2 := BXD_15.out.at_ 2 rfl
      have qBXD_3 := BXD_15.out.at_ 3 rfl
      go_wp2_with fail
      refine (gmark_Config (by omega) (by have h1 := HSAD.out; omega) XD_15.out.2 XD_15.out.1).mono ?_
      intro e wm0 h
      obtain ⟨dM0, y0, rfl, hmv, hzz, ho, hoff⟩ := markG_elim h
      clear qBXD_0 qBXD_1 qBXD_2 qBXD_3
      have HB16 := Lib.hid (HB15.out.trans (hoff.below HB15.out.size (fun k hk => by have zHZ5 := HZ5.out; have zHZ6 := HZ6.out; have zHZ7 := HZ7.out; have zHZ8 := HZ8.out; have zHZ9 := HZ9.out; have zHZ10 := HZ10.out; have zHZ11 := HZ11.out; have zHZ12 := HZ12.out; have zHZ13 := HZ13.out; have zHZ14 := HZ14.out; have zHZ15 := HZ15.out; have zHZ16 := HZ16.out; have zHZ17 := HZ17.out; have yHPL := HPL.out; have yHGLw := HGLw.out; have yHGw := HGw.out; have yHGLg := HGLg.out; have yHGg := HGg.out; have rD := HSD.out _ hk; try unfold Rg at rD; omega)))
      have PD_16 := Lib.hid (PD_15.out.off hoff PD_15.out.lt (fun hk => by have zHZ5 := HZ5.out; have zHZ6 := HZ6.out; have zHZ7 := HZ7.out; have zHZ8 := HZ8.out; have zHZ9 := HZ9.out; have zHZ10 := HZ10.out; have zHZ11 := HZ11.out; have zHZ12 := HZ12.out; have zHZ13 := HZ13.out; have zHZ14 := HZ14.out; have zHZ15 := HZ15.out; have zHZ16 := HZ16.out; have zHZ17 := HZ17.out; have yHPL := HPL.out; have yHGLw := HGLw.out; have yHGw := HGw.out; have yHGLg := HGLg.out; have yHGg := HGg.out; have rD := HSD.out _ hk; try unfold Rg at rD; omega))
      have PE_16 := Lib.hid (PE_15.out.off hoff PE_15.out.lt (fun hk => by have zHZ5 := HZ5.out; have zHZ6 := HZ6.out; have zHZ7 := HZ7.out; have zHZ8 := HZ8.out; have zHZ9 := HZ9.out; have zHZ10 := HZ10.out; have zHZ11 := HZ11.out; have zHZ12 := HZ12.out; have zHZ13 := HZ13.out; have zHZ14 := HZ14.out; have zHZ15 := HZ15.out; have zHZ16 := HZ16.out; have zHZ17 := HZ17.out; have yHPL := HPL.out; have yHGLw := HGLw.out; have yHGw := HGw.out; have yHGLg := HGLg.out; have yHGg := HGg.out; have rD := HSD.out _ hk; try unfold Rg at rD; omega))
      have PF_16 := Lib.hid (PF_15.out.off hoff PF_15.out.lt (fun hk => by have zHZ5 := HZ5.out; have zHZ6 := HZ6.out; have zHZ7 := HZ7.out; have zHZ8 := HZ8.out; have zHZ9 := HZ9.out; have zHZ10 := HZ10.out; have zHZ11 := HZ11.out; have zHZ12 := HZ12.out; have zHZ13 := HZ13.out; have zHZ14 := HZ14.out; have zHZ15 := HZ15.out; have zHZ16 := HZ16.out; have zHZ17 := HZ17.out; have yHPL := HPL.out; have yHGLw := HGLw.out; have yHGw := HGw.out; have yHGLg := HGLg.out; have yHGg := HGg.out; have rD := HSD.out _ hk; try unfold Rg at rD; omega))
      have PT_16 := Lib.hid (PT_15.out.off hoff PT_15.out.lt (fun hk => by have zHZ5 := HZ5.out; have zHZ6 := HZ6.out; have zHZ7 := HZ7.out; have zHZ8 := HZ8.out; have zHZ9 := HZ9.out; have zHZ10 := HZ10.out; have zHZ11 := HZ11.out; have zHZ12 := HZ12.out; have zHZ13 := HZ13.out; have zHZ14 := HZ14.out; have zHZ15 := HZ15.out; have zHZ16 := HZ16.out; have zHZ17 := HZ17.out; have yHPL := HPL.out; have yHGLw := HGLw.out; have yHGw := HGw.out; have yHGLg := HGLg.out; have yHGg := HGg.out; have rD := HSD.out _ hk; try unfold Rg at rD; omega))
      have Bw_16 := Lib.hid (Bw_15.out.off hoff Bw_15.out.lt (fun hk => by have zHZ5 := HZ5.out; have zHZ6 := HZ6.out; have zHZ7 := HZ7.out; have zHZ8 := HZ8.out; have zHZ9 := HZ9.out; have zHZ10 := HZ10.out; have zHZ11 := HZ11.out; have zHZ12 := HZ12.out; have zHZ13 := HZ13.out; have zHZ14 := HZ14.out; have zHZ15 := HZ15.out; have zHZ16 := HZ16.out; have zHZ17 := HZ17.out; have yHPL := HPL.out; have yHGLw := HGLw.out; have yHGw := HGw.out; have yHGLg := HGLg.out; have yHGg := HGg.out; have rD := HSD.out _ hk; try unfold Rg at rD; omega))
      have BXD_16 := Lib.hid (BXD_15.out.off hoff BXD_15.out.lt (fun hk => by have zHZ5 := HZ5.out; have zHZ6 := HZ6.out; have zHZ7 := HZ7.out; have zHZ8 := HZ8.out; have zHZ9 := HZ9.out; have zHZ10 := HZ10.out; have zHZ11 := HZ11.out; have zHZ12 := HZ12.out; have zHZ13 := HZ13.out; have zHZ14 := HZ14.out; have zHZ15 := HZ15.out; have zHZ16 := HZ16.out; have zHZ17 := HZ17.out; have yHPL := HPL.out; have yHGLw := HGLw.out; have yHGw := HGw.out; have yHGLg := HGLg.out; have yHGg := HGg.out; have rD := HSD.out _ hk; try unfold Rg at rD; omega))
      have BXE_16 := Lib.hid (BXE_15.out.off hoff BXE_15.out.lt (fun hk => by have zHZ5 := HZ5.out; have zHZ6 := HZ6.out; have zHZ7 := HZ7.out; have zHZ8 := HZ8.out; have zHZ9 := HZ9.out; have zHZ10 := HZ10.out; have zHZ11 := HZ11.out; have zHZ12 := HZ12.out; have zHZ13 := HZ13.out; have zHZ14 := HZ14.out; have zHZ15 := HZ15.out; have zHZ16 := HZ16.out; have zHZ17 := HZ17.out; have yHPL := HPL.out; have yHGLw := HGLw.out; have yHGw := HGw.out; have yHGLg := HGLg.out; have yHGg := HGg.out; have rD := HSD.out _ hk; try unfold Rg at rD; omega))
      have Bg_16 := Lib.hid (Bg_15.out.off hoff Bg_15.out.lt (fun hk => by have zHZ5 := HZ5.out; have zHZ6 := HZ6.out; have zHZ7 := HZ7.out; have zHZ8 := HZ8.out; have zHZ9 := HZ9.out; have zHZ10 := HZ10.out; have zHZ11 := HZ11.out; have zHZ12 := HZ12.out; have zHZ13 := HZ13.out; have zHZ14 := HZ14.out; have zHZ15 := HZ15.out; have zHZ16 := HZ16.out; have zHZ17 := HZ17.out; have yHPL := HPL.out; have yHGLw := HGLw.out; have yHGw := HGw.out; have yHGLg := HGLg.out; have yHGg := HGg.out; have rD := HSD.out _ hk; try unfold Rg at rD; omega))
      have HD_16 := Lib.hid (gmv R_Config_ok HD0.out HB16.out)
      have HE_16 := Lib.hid (gmv R_Mail_ok HE0.out HB16.out)
      have Yw_16 := Lib.hid (Yw_15.out.off R_MailOut_ok hoff (fun k hk hk2 => by have zHZ5 := HZ5.out; have zHZ6 := HZ6.out; have zHZ7 := HZ7.out; have zHZ8 := HZ8.out; have zHZ9 := HZ9.out; have zHZ10 := HZ10.out; have zHZ11 := HZ11.out; have zHZ12 := HZ12.out; have zHZ13 := HZ13.out; have zHZ14 := HZ14.out; have zHZ15 := HZ15.out; have zHZ16 := HZ16.out; have zHZ17 := HZ17.out; have yHPL := HPL.out; have yHGLw := HGLw.out; have yHGw := HGw.out; have yHGLg := HGLg.out; have yHGg := HGg.out; have rD := HSD.out k hk2; try unfold Rg at rD; have rw := HSw.out k hk; try unfold Rg at rw; omega))
      have XE_16 := Lib.hid (XE_15.out.off R_Mail_ok hoff (fun k hk hk2 => by have zHZ5 := HZ5.out; have zHZ6 := HZ6.out; have zHZ7 := HZ7.out; have zHZ8 := HZ8.out; have zHZ9 := HZ9.out; have zHZ10 := HZ10.out; have zHZ11 := HZ11.out; have zHZ12 := HZ12.out; have zHZ13 := HZ13.out; have zHZ14 := HZ14.out; have zHZ15 := HZ15.out; have zHZ16 := HZ16.out; have zHZ17 := HZ17.out; have yHPL := HPL.out; have yHGLw := HGLw.out; have yHGw := HGw.out; have yHGLg := HGLg.out; have yHGg := HGg.out; have rD := HSD.out k hk2; try unfold Rg at rD; have rE := HSE.out k hk; try unfold Rg at rE; omega))
      have Yg_16 := Lib.hid (Yg_15.out.off R_MailOut_ok hoff (fun k hk hk2 => by have zHZ5 := HZ5.out; have zHZ6 := HZ6.out; have zHZ7 := HZ7.out; have zHZ8 := HZ8.out; have zHZ9 := HZ9.out; have zHZ10 := HZ10.out; have zHZ11 := HZ11.out; have zHZ12 := HZ12.out; have zHZ13 := HZ13.out; have zHZ14 := HZ14.out; have zHZ15 := HZ15.out; have zHZ16 := HZ16.out; have zHZ17 := HZ17.out; have yHPL := HPL.out; have yHGLw := HGLw.out; have yHGw := HGw.out; have yHGLg := HGLg.out; have yHGg := HGg.out; have rD := HSD.out k hk2; try unfold Rg at rD; have rg := HSg.out k hk; try unfold Rg at rg; omega))
      have hyl0 : 0 ≤ y0 := by omega
      have hyu0 : y0 ≤ 20000000 := by have h1 := HSAD.out; omega
      have HZ18 := Lib.hid (hoff.size)
      clear h hmv hzz ho hoff
      have qBXE_0 := BXE_16.out.at_ 0 rfl
      go_wp2_with fail
      refine (gmark_Mail (by omega) (by have h1 := HSAE.out; omega) XE_16.out.2 XE_16.out.1).mono ?_
      intro e wm1 h
      obtain ⟨dM1, y1, rfl, hmv, hzz, ho, hoff⟩ := markG_elim h
      clear qBXE_0
      have HB17 := Lib.hid (HB16.out.trans (hoff.below HB16.out.size (fun k hk => by have zHZ5 := HZ5.out; have zHZ6 := HZ6.out; have zHZ7 := HZ7.out; have zHZ8 := HZ8.out; have zHZ9 := HZ9.out; have zHZ10 := HZ10.out; have zHZ11 := HZ11.out; have zHZ12 := HZ12.out; have zHZ13 := HZ13.out; have zHZ14 := HZ14.out; have zHZ15 := HZ15.out; have zHZ16 := HZ16.out; have zHZ17 := HZ17.out; have zHZ18 := HZ18.out; have yHPL := HPL.out; have yHGLw := HGLw.out; have yHGw := HGw.out; have yHGLg := HGLg.out; have yHGg := HGg.out; have rE := HSE.out _ hk; try unfold Rg at rE; omega)))
      have PD_17 := Lib.hid (PD_16.out.off hoff PD_16.out.lt (fun hk => by have zHZ5 := HZ5.out; have zHZ6 := HZ6.out; have zHZ7 := HZ7.out; have zHZ8 := HZ8.out; have zHZ9 := HZ9.out; have zHZ10 := HZ10.out; have zHZ11 := HZ11.out; have zHZ12 := HZ12.out; have zHZ13 := HZ13.out; have zHZ14 := HZ14.out; have zHZ15 := HZ15.out; have zHZ16 := HZ16.out; have zHZ17 := HZ17.out; have zHZ18 := HZ18.out; have yHPL := HPL.out; have yHGLw := HGLw.out; have yHGw := HGw.out; have yHGLg := HGLg.out; have yHGg := HGg.out; have rE := HSE.out _ hk; try unfold Rg at rE; omega))
      have PE_17 := Lib.hid (PE_16.out.off hoff PE_16.out.lt (fun hk => by have zHZ5 := HZ5.out; have zHZ6 := HZ6.out; have zHZ7 := HZ7.out; have zHZ8 := HZ8.out; have zHZ9 := HZ9.out; have zHZ10 := HZ10.out; have zHZ11 := HZ11.out; have zHZ12 := HZ12.out; have zHZ13 := HZ13.out; have zHZ14 := HZ14.out; have zHZ15 := HZ15.out; have zHZ16 := HZ16.out; have zHZ17 := HZ17.out; have zHZ18 := HZ18.out; have yHPL := HPL.out; have yHGLw := HGLw.out; have yHGw := HGw.out; have yHGLg := HGLg.out; have yHGg := HGg.out; have rE := HSE.out _ hk; try unfold Rg at rE; omega))
      have PF_17 := Lib.hid (PF_16.out.off hoff PF_16.out.lt (fun hk => by have zHZ5 := HZ5.out; have zHZ6 := HZ6.out; have zHZ7 := HZ7.out; have zHZ8 := HZ8.out; have zHZ9 := HZ9.out; have zHZ10 := HZ10.out; have zHZ11 := HZ11.out; have zHZ12 := HZ12.out; have zHZ13 := HZ13.out; have zHZ14 := HZ14.out; have zHZ15 := HZ15.out; have zHZ16 := HZ16.out; have zHZ17 := HZ17.out; have zHZ18 := HZ18.out; have yHPL := HPL.out; have yHGLw := HGLw.out; have yHGw := HGw.out; have yHGLg := HGLg.out; have yHGg := HGg.out; have rE := HSE.out _ hk; try unfold Rg at rE; omega))
      have PT_17 := Lib.hid (PT_16.out.off hoff PT_16.out.lt (fun hk => by have zHZ5 := HZ5.out; have zHZ6 := HZ6.out; have zHZ7 := HZ7.out; have zHZ8 := HZ8.out; have zHZ9 := HZ9.out; have zHZ10 := HZ10.out; have zHZ11 := HZ11.out; have zHZ12 := HZ12.out; have zHZ13 := HZ13.out; have zHZ14 := HZ14.out; have zHZ15 := HZ15.out; have zHZ16 := HZ16.out; have zHZ17 := HZ17.out; have zHZ18 := HZ18.out; have yHPL := HPL.out; have yHGLw := HGLw.out; have yHGw := HGw.out; have yHGLg := HGLg.out; have yHGg := HGg.out; have rE := HSE.out _ hk; try unfold Rg at rE; omega))
      have Bw_17 := Lib.hid (Bw_16.out.off hoff Bw_16.out.lt (fun hk => by have zHZ5 := HZ5.out; have zHZ6 := HZ6.out; have zHZ7 := HZ7.out; have zHZ8 := HZ8.out; have zHZ9 := HZ9.out; have zHZ10 := HZ10.out; have zHZ11 := HZ11.out; have zHZ12 := HZ12.out; have zHZ13 := HZ13.out; have zHZ14 := HZ14.out; have zHZ15 := HZ15.out; have zHZ16 := HZ16.out; have zHZ17 := HZ17.out; have zHZ18 := HZ18.out; have yHPL := HPL.out; have yHGLw := HGLw.out; have yHGw := HGw.out; have yHGLg := HGLg.out; have yHGg := HGg.out; have rE := HSE.out _ hk; try unfold Rg at rE; omega))
      have BXD_17 := Lib.hid (BXD_16.out.off hoff BXD_16.out.lt (fun hk => by have zHZ5 := HZ5.out; have zHZ6 := HZ6.out; have zHZ7 := HZ7.out; have zHZ8 := HZ8.out; have zHZ9 := HZ9.out; have zHZ10 := HZ10.out; have zHZ11 := HZ11.out; have zHZ12 := HZ12.out; have zHZ13 := HZ13.out; have zHZ14 := HZ14.out; have zHZ15 := HZ15.out; have zHZ16 := HZ16.out; have zHZ17 := HZ17.out; have zHZ18 := HZ18.out; have yHPL := HPL.out; have yHGLw := HGLw.out; have yHGw := HGw.out; have yHGLg := HGLg.out; have yHGg := HGg.out; have rE := HSE.out _ hk; try unfold Rg at rE; omega))
      have BXE_17 := Lib.hid (BXE_16.out.off hoff BXE_16.out.lt (fun hk => by have zHZ5 := HZ5.out; have zHZ6 := HZ6.out; have zHZ7 := HZ7.out; have zHZ8 := HZ8.out; have zHZ9 := HZ9.out; have zHZ10 := HZ10.out; have zHZ11 := HZ11.out; have zHZ12 := HZ12.out; have zHZ13 := HZ13.out; have zHZ14 := HZ14.out; have zHZ15 := HZ15.out; have zHZ16 := HZ16.out; have zHZ17 := HZ17.out; have zHZ18 := HZ18.out; have yHPL := HPL.out; have yHGLw := HGLw.out; have yHGw := HGw.out; have yHGLg := HGLg.out; have yHGg := HGg.out; have rE := HSE.out _ hk; try unfold Rg at rE; omega))
      have Bg_17 := Lib.hid (Bg_16.out.off hoff Bg_16.out.lt (fun hk => by have zHZ5 := HZ5.out; have zHZ6 := HZ6.out; have zHZ7 := HZ7.out; have zHZ8 := HZ8.out; have zHZ9 := HZ9.out; have zHZ10 := HZ10.out; have zHZ11 := HZ11.out; have zHZ12 := HZ12.out; have zHZ13 := HZ13.out; have zHZ14 := HZ14.out; have zHZ15 := HZ15.out; have zHZ16 := HZ16.out; have zHZ17 := HZ17.out; have zHZ18 := HZ18.out; have yHPL := HPL.out; have yHGLw := HGLw.out; have yHGw := HGw.out; have yHGLg := HGLg.out; have yHGg := HGg.out; have rE := HSE.out _ hk; try unfold Rg at rE; omega))
      have HD_17 := Lib.hid (gmv R_Config_ok HD0.out HB17.out)
      have HE_17 := Lib.hid (gmv R_Mail_ok HE0.out HB17.out)
      have Yw_17 := Lib.hid (Yw_16.out.off R_MailOut_ok hoff (fun k hk hk2 => by have zHZ5 := HZ5.out; have zHZ6 := HZ6.out; have zHZ7 := HZ7.out; have zHZ8 := HZ8.out; have zHZ9 := HZ9.out; have zHZ10 := HZ10.out; have zHZ11 := HZ11.out; have zHZ12 := HZ12.out; have zHZ13 := HZ13.out; have zHZ14 := HZ14.out; have zHZ15 := HZ15.out; have zHZ16 := HZ16.out; have zHZ17 := HZ17.out; have zHZ18 := HZ18.out; have yHPL := HPL.out; have yHGLw := HGLw.out; have yHGw := HGw.out; have yHGLg := HGLg.out; have yHGg := HGg.out; have rE := HSE.out k hk2; try unfold Rg at rE; have rw := HSw.out k hk; try unfold Rg at rw; omega))
      have Yg_17 := Lib.hid (Yg_16.out.off R_MailOut_ok hoff (fun k hk hk2 => by have zHZ5 := HZ5.out; have zHZ6 := HZ6.out; have zHZ7 := HZ7.out; have zHZ8 := HZ8.out; have zHZ9 := HZ9.out; have zHZ10 := HZ10.out; have zHZ11 := HZ11.out; have zHZ12 := HZ12.out; have zHZ13 := HZ13.out; have zHZ14 := HZ14.out; have zHZ15 := HZ15.out; have zHZ16 := HZ16.out; have zHZ17 := HZ17.out; have zHZ18 := HZ18.out; have yHPL := HPL.out; have yHGLw := HGLw.out; have yHGw := HGw.out; have yHGLg := HGLg.out; have yHGg := HGg.out; have rE := HSE.out k hk2; try unfold Rg at rE; have rg := HSg.out k hk; try unfold Rg at rg; omega))
      have hyl1 : 0 ≤ y1 := by omega
      have hyu1 : y1 ≤ 40000000 := by have h1 := HSAE.out; omega
      have hkn : decide (y1 < 0) = false := decide_eq_false (by omega)
      have HZ19 := Lib.hid (hoff.size)
      clear h hmv hzz ho hoff
      have qBg_0 := Bg_17.out.at_ 0 rfl
      have qBg_1 := Bg_17.out.at_ 1 rfl
      have qBw_0 := Bw_17.out.at_ 0 rfl
      have qBw_1 := Bw_17.out.at_ 1 rfl
      go_wp2_with fail
      refine (geq_MailOut (Yg_17.out.rd R_MailOut_ok) (Yw_17.out.rd R_MailOut_ok)).mono ?_
      intro e w18 h
      obtain ⟨rfl, hb⟩ := isB_elim h
      clear qBg_0 qBg_1 qBw_0 qBw_1
      have PD_18 := Lib.hid (PD_17.out.call hb)
      have PE_18 := Lib.hid (PE_17.out.call hb)
      have PF_18 := Lib.hid (PF_17.out.call hb)
      have PT_18 := Lib.hid (PT_17.out.call hb)
      have Bw_18 := Lib.hid (Bw_17.out.call hb)
      have BXD_18 := Lib.hid (BXD_17.out.call hb)
      have BXE_18 := Lib.hid (BXE_17.out.call hb)
      have Bg_18 := Lib.hid (Bg_17.out.call hb)
      have HD_18 := Lib.hid (gmv R_Config_ok HD_17.out hb)
      have HE_18 := Lib.hid (gmv R_Mail_ok HE_17.out hb)
      have Yw_18 := Lib.hid (Yw_17.out.mv R_MailOut_ok hb)
      have Yg_18 := Lib.hid (Yg_17.out.mv R_MailOut_ok hb)
      have HB18 := Lib.hid (HB17.out.trans ((hb).mono HB17.out.size))
      have HZ20 := Lib.hid ((hb).size)
      clear PD_17 PE_17 PF_17 PT_17 Bw_17 BXD_17 BXE_17 Bg_17 HD_17 HE_17 Yw_17 Yg_17 HB17
      clear h hb
      clear hkn
      have qBg_0 := Bg_18.out.at_ 0 rfl
      have qBg_1 := Bg_18.out.at_ 1 rfl
      go_wp2_with fail
      refine (gmark_MailOut (by omega) (by have h1 := HSM.out; omega) Yg_18.out.2 Yg_18.out.1).mono ?_
      intro e wn h
      obtain ⟨dN, zN, rfl, hmv, hzz, ho, hoff⟩ := markG_elim h
      clear qBg_0 qBg_1
      have HB19 := Lib.hid (HB18.out.trans (hoff.below HB18.out.size (fun k hk => by have zHZ5 := HZ5.out; have zHZ6 := HZ6.out; have zHZ7 := HZ7.out; have zHZ8 := HZ8.out; have zHZ9 := HZ9.out; have zHZ10 := HZ10.out; have zHZ11 := HZ11.out; have zHZ12 := HZ12.out; have zHZ13 := HZ13.out; have zHZ14 := HZ14.out; have zHZ15 := HZ15.out; have zHZ16 := HZ16.out; have zHZ17 := HZ17.out; have zHZ18 := HZ18.out; have zHZ19 := HZ19.out; have zHZ20 := HZ20.out; have yHPL := HPL.out; have yHGLw := HGLw.out; have yHGw := HGw.out; have yHGLg := HGLg.out; have yHGg := HGg.out; have rg := HSg.out _ hk; try unfold Rg at rg; omega)))
      have PD_19 := Lib.hid (PD_18.out.off hoff PD_18.out.lt (fun hk => by have zHZ5 := HZ5.out; have zHZ6 := HZ6.out; have zHZ7 := HZ7.out; have zHZ8 := HZ8.out; have zHZ9 := HZ9.out; have zHZ10 := HZ10.out; have zHZ11 := HZ11.out; have zHZ12 := HZ12.out; have zHZ13 := HZ13.out; have zHZ14 := HZ14.out; have zHZ15 := HZ15.out; have zHZ16 := HZ16.out; have zHZ17 := HZ17.out; have zHZ18 := HZ18.out; have zHZ19 := HZ19.out; have zHZ20 := HZ20.out; have yHPL := HPL.out; have yHGLw := HGLw.out; have yHGw := HGw.out; have yHGLg := HGLg.out; have yHGg := HGg.out; have rg := HSg.out _ hk; try unfold Rg at rg; omega))
      have PE_19 := Lib.hid (PE_18.out.off hoff PE_18.out.lt (fun hk => by have zHZ5 := HZ5.out; have zHZ6 := HZ6.out; have zHZ7 := HZ7.out; have zHZ8 := HZ8.out; have zHZ9 := HZ9.out; have zHZ10 := HZ10.out; have zHZ11 := HZ11.out; have zHZ12 := HZ12.out; have zHZ13 := HZ13.out; have zHZ14 := HZ14.out; have zHZ15 := HZ15.out; have zHZ16 := HZ16.out; have zHZ17 := HZ17.out; have zHZ18 := HZ18.out; have zHZ19 := HZ19.out; have zHZ20 := HZ20.out; have yHPL := HPL.out; have yHGLw := HGLw.out; have yHGw := HGw.out; have yHGLg := HGLg.out; have yHGg := HGg.out; have rg := HSg.out _ hk; try unfold Rg at rg; omega))
      have PF_19 := Lib.hid (PF_18.out.off hoff PF_18.out.lt (fun hk => by have zHZ5 := HZ5.out; have zHZ6 := HZ6.out; have zHZ7 := HZ7.out; have zHZ8 := HZ8.out; have zHZ9 := HZ9.out; have zHZ10 := HZ10.out; have zHZ11 := HZ11.out; have zHZ12 := HZ12.out; have zHZ13 := HZ13.out; have zHZ14 := HZ14.out; have zHZ15 := HZ15.out; have zHZ16 := HZ16.out; have zHZ17 := HZ17.out; have zHZ18 := HZ18.out; have zHZ19 := HZ19.out; have zHZ20 := HZ20.out; have yHPL := HPL.out; have yHGLw := HGLw.out; have yHGw := HGw.out; have yHGLg := HGLg.out; have yHGg := HGg.out; have rg := HSg.out _ hk; try unfold Rg at rg; omega))
      have PT_19 := Lib.hid (PT_18.out.off hoff PT_18.out.lt (fun hk => by have zHZ5 := HZ5.out; have zHZ6 := HZ6.out; have zHZ7 := HZ7.out; have zHZ8 := HZ8.out; have zHZ9 := HZ9.out; have zHZ10 := HZ10.out; have zHZ11 := HZ11.out; have zHZ12 := HZ12.out; have zHZ13 := HZ13.out; have zHZ14 := HZ14.out; have zHZ15 := HZ15.out; have zHZ16 := HZ16.out; have zHZ17 := HZ17.out; have zHZ18 := HZ18.out; have zHZ19 := HZ19.out; have zHZ20 := HZ20.out; have yHPL := HPL.out; have yHGLw := HGLw.out; have yHGw := HGw.out; have yHGLg := HGLg.out; have yHGg := HGg.out; have rg := HSg.out _ hk; try unfold Rg at rg; omega))
      have Bw_19 := Lib.hid (Bw_18.out.off hoff Bw_18.out.lt (fun hk => by have zHZ5 := HZ5.out; have zHZ6 := HZ6.out; have zHZ7 := HZ7.out; have zHZ8 := HZ8.out; have zHZ9 := HZ9.out; have zHZ10 := HZ10.out; have zHZ11 := HZ11.out; have zHZ12 := HZ12.out; have zHZ13 := HZ13.out; have zHZ14 := HZ14.out; have zHZ15 := HZ15.out; have zHZ16 := HZ16.out; have zHZ17 := HZ17.out; have zHZ18 := HZ18.out; have zHZ19 := HZ19.out; have zHZ20 := HZ20.out; have yHPL := HPL.out; have yHGLw := HGLw.out; have yHGw := HGw.out; have yHGLg := HGLg.out; have yHGg := HGg.out; have rg := HSg.out _ hk; try unfold Rg at rg; omega))
      have BXD_19 := Lib.hid (BXD_18.out.off hoff BXD_18.out.lt (fun hk => by have zHZ5 := HZ5.out; have zHZ6 := HZ6.out; have zHZ7 := HZ7.out; have zHZ8 := HZ8.out; have zHZ9 := HZ9.out; have zHZ10 := HZ10.out; have zHZ11 := HZ11.out; have zHZ12 := HZ12.out; have zHZ13 := HZ13.out; have zHZ14 := HZ14.out; have zHZ15 := HZ15.out; have zHZ16 := HZ16.out; have zHZ17 := HZ17.out; have zHZ18 := HZ18.out; have zHZ19 := HZ19.out; have zHZ20 := HZ20.out; have yHPL := HPL.out; have yHGLw := HGLw.out; have yHGw := HGw.out; have yHGLg := HGLg.out; have yHGg := HGg.out; have rg := HSg.out _ hk; try unfold Rg at rg; omega))
      have BXE_19 := Lib.hid (BXE_18.out.off hoff BXE_18.out.lt (fun hk => by have zHZ5 := HZ5.out; have zHZ6 := HZ6.out; have zHZ7 := HZ7.out; have zHZ8 := HZ8.out; have zHZ9 := HZ9.out; have zHZ10 := HZ10.out; have zHZ11 := HZ11.out; have zHZ12 := HZ12.out; have zHZ13 := HZ13.out; have zHZ14 := HZ14.out; have zHZ15 := HZ15.out; have zHZ16 := HZ16.out; have zHZ17 := HZ17.out; have zHZ18 := HZ18.out; have zHZ19 := HZ19.out; have zHZ20 := HZ20.out; have yHPL := HPL.out; have yHGLw := HGLw.out; have yHGw := HGw.out; have yHGLg := HGLg.out; have yHGg := HGg.out; have rg := HSg.out _ hk; try unfold Rg at rg; omega))
      have Bg_19 := Lib.hid (Bg_18.out.off hoff Bg_18.out.lt (fun hk => by exact (HTg.out _ hk).2 rfl))
      have HD_19 := Lib.hid (gmv R_Config_ok HD0.out HB19.out)
      have HE_19 := Lib.hid (gmv R_Mail_ok HE0.out HB19.out)
      have Yw_19 := Lib.hid (Yw_18.out.off R_MailOut_ok hoff (fun k hk hk2 => by have zHZ5 := HZ5.out; have zHZ6 := HZ6.out; have zHZ7 := HZ7.out; have zHZ8 := HZ8.out; have zHZ9 := HZ9.out; have zHZ10 := HZ10.out; have zHZ11 := HZ11.out; have zHZ12 := HZ12.out; have zHZ13 := HZ13.out; have zHZ14 := HZ14.out; have zHZ15 := HZ15.out; have zHZ16 := HZ16.out; have zHZ17 := HZ17.out; have zHZ18 := HZ18.out; have zHZ19 := HZ19.out; have zHZ20 := HZ20.out; have yHPL := HPL.out; have yHGLw := HGLw.out; have yHGw := HGw.out; have yHGLg := HGLg.out; have yHGg := HGg.out; have rg := HSg.out k hk2; try unfold Rg at rg; have rw := HSw.out k hk; try unfold Rg at rw; omega))
      have Yg_19 := Lib.hid (show OwG R_MailOut wn _ dN _ from ⟨ho, fun k hk => Nat.lt_of_lt_of_le (Yg_18.out.2 k hk) hoff.size⟩)
      have HMV := Lib.hid hmv
      have hzn : decide (zN < 0) = false := decide_eq_false (by omega)
      have hze : (zN != zN) = false := by simp
      have hzb : zN ≤ 4611686018427387904 := by have := HSM.out; omega
      have HZ21 := Lib.hid (hoff.size)
      clear h hmv hzz ho hoff
      have qBg_0 := Bg_19.out.at_ 0 rfl
      have qBg_1 := Bg_19.out.at_ 1 rfl
      go_wp2_with fail
      refine (gheld_MailOut (by omega) hzb HMV.out (Yg_19.out.rd R_MailOut_ok)).mono ?_
      intro e w20 h
      obtain ⟨rfl, hb⟩ := heldC_elim h
      clear qBg_0 qBg_1
      have PD_20 := Lib.hid (PD_19.out.call hb)
      have PE_20 := Lib.hid (PE_19.out.call hb)
      have PF_20 := Lib.hid (PF_19.out.call hb)
      have PT_20 := Lib.hid (PT_19.out.call hb)
      have Bw_20 := Lib.hid (Bw_19.out.call hb)
      have BXD_20 := Lib.hid (BXD_19.out.call hb)
      have BXE_20 := Lib.hid (BXE_19.out.call hb)
      have Bg_20 := Lib.hid (Bg_19.out.call hb)
      have HD_20 := Lib.hid (gmv R_Config_ok HD_19.out hb)
      have HE_20 := Lib.hid (gmv R_Mail_ok HE_19.out hb)
      have Yw_20 := Lib.hid (Yw_19.out.mv R_MailOut_ok hb)
      have Yg_20 := Lib.hid (Yg_19.out.mv R_MailOut_ok hb)
      have HB20 := Lib.hid (HB19.out.trans ((hb).mono HB19.out.size))
      have HZ22 := Lib.hid ((hb).size)
      clear PD_19 PE_19 PF_19 PT_19 Bw_19 BXD_19 BXE_19 Bg_19 HD_19 HE_19 Yw_19 Yg_19 HB19
      clear h hb
      go_upto_region 31 with fail
      go_cut [21] (fun s8 wx => ∃ (gh : Nat) (ra0h : Option Addr) (rc0h : Nat) (Sh : Nat → Prop), s8 = .pointer (some ⟨gh, 0, none⟩) ∧ Hid (Blk wx gh 38 #[.slice ra0h dL0.length rc0h, .int .i64 dx1]) ∧ Hid (OwG R_MailOut wx Sh (dL0, dx1) [.slice ra0h dL0.length rc0h, .int .i64 dx1]) ∧ Hid (∀ k, Sh k → w20.heap.size ≤ k ∧ k ≠ gh) ∧ Hid (w20.heap.size ≤ gh) ∧ Hid (Below w20.heap.size w20 wx))
      case first =>
        refine wp_region_held_drew (S := (fun V => Below w20.heap.size w20 V)) (by kernel_rfl) ((Below.refl _ _).drew) (fun hHeld => ?_)
        refine tk 0 hHeld ?_ (hy := fun w hSw => by (try dsimp only at hSw); have k0 := (hSw.cell (p := ⟨W.heap.size, 0, none⟩) PD_20.out.lt).trans (PD_20.out.at_ 0 rfl); have k1 := (hSw.cell (p := ⟨W.heap.size, 1, none⟩) PD_20.out.lt).trans (PD_20.out.at_ 1 rfl); have k2 := (hSw.cell (p := ⟨W.heap.size, 2, none⟩) PD_20.out.lt).trans (PD_20.out.at_ 2 rfl); have k3 := (hSw.cell (p := ⟨W.heap.size, 3, none⟩) PD_20.out.lt).trans (PD_20.out.at_ 3 rfl); clear hSw; go_simp; try with_reducible rfl)
        refine tk 2 hHeld ?_ (hy := fun w hSw => by (try dsimp only at hSw); have k0 := (hSw.cell (p := ⟨(W.heap.size + 1), 0, none⟩) PE_20.out.lt).trans (PE_20.out.at_ 0 rfl); clear hSw; go_simp; try with_reducible rfl)
        refine tk 4 hHeld ?_ (hy := fun w hSw => by (try dsimp only at hSw); have k0 := (hSw.cell (p := ⟨(W.heap.size + 1 + 1), 0, none⟩) PF_20.out.lt).trans (PF_20.out.at_ 0 rfl); have k1 := (hSw.cell (p := ⟨(W.heap.size + 1 + 1), 1, none⟩) PF_20.out.lt).trans (PF_20.out.at_ 1 rfl); clear hSw; go_simp; try with_reducible rfl)
        refine tk 6 hHeld ?_ (hy := fun w hSw => by (try dsimp only at hSw); have k0 := (hSw.cell (p := ⟨(W.heap.size + 1 + 1 + 1), 0, none⟩) PT_20.out.lt).trans (PT_20.out.at_ 0 rfl); have k1 := (hSw.cell (p := ⟨(W.heap.size + 1 + 1 + 1), 1, none⟩) PT_20.out.lt).trans (PT_20.out.at_ 1 rfl); clear hSw; go_simp; try with_reducible rfl)
        refine tk 8 hHeld ?_
        refine tk 9 hHeld ?_
        refine rd2 1 11 (fun K hK => ?_) (fun K hK => ?_)
        · skip
          go_simp
          go_at_call 11
          refine (gto_Config HSZD.out (gmv R_Config_ok HD_20.out hHeld)).mono ?_
          intro e v31_1 h
          obtain ⟨us, rfl, hu, hb⟩ := newV_elim h
          obtain ⟨aD0_31_1, cD0_31_1, aD1_31_1, cD1_31_1, aD2_31_1, cD2_31_1, rfl, hu⟩ := owc_Config hu
          have ND := Lib.hid (owG_new hu)
          clear h hu
          refine hK.out _ _ (hHeld.trans (hb.mono hHeld.size)) (fun hHeld => ?_)
          clear hK K hb
          refine rd2 3 11 (fun K hK => ?_) (fun K hK => ?_)
          · skip
            go_simp
            go_at_call 12
            refine (gto_Mail HSZE.out (gmv R_Mail_ok HE_20.out hHeld)).mono ?_
            intro e v31_2 h
            obtain ⟨us, rfl, hu, hb⟩ := newV_elim h
            obtain ⟨aE0_31_2, cE0_31_2, rfl, hu⟩ := owc_Mail hu
            have ND := Lib.hid (ND.out.mv R_Config_ok hb)
            have NE := Lib.hid (owG_new hu)
            clear h hu
            refine hK.out _ _ (hHeld.trans (hb.mono hHeld.size)) (fun hHeld => ?_)
            clear hK K hb
            refine rd2 5 11 (fun K hK => ?_) (fun K hK => ?_)
            · skip
              go_simp
              go_at_call 13
              refine (to_Label (by simp only [R_Label, Pr, I, atom] <;> omega)).mono ?_
              intro e v31_3 h
              obtain ⟨us, rfl, hu, hb⟩ := newV_elim h
              obtain rfl := ow0_Label hu
              have ND := Lib.hid (ND.out.mv R_Config_ok hb)
              have NE := Lib.hid (NE.out.mv R_Mail_ok hb)
              clear h hu
              refine hK.out _ _ (hHeld.trans (hb.mono hHeld.size)) (fun hHeld => ?_)
              clear hK K hb
              refine rd2 7 11 (fun K hK => ?_) (fun K hK => ?_)
              · skip
                go_simp
                go_at_call 13
                refine (to_Label (by simp only [R_Label, Pr, I, atom] <;> omega)).mono ?_
                intro e v31_4 h
                obtain ⟨us, rfl, hu, hb⟩ := newV_elim h
                obtain rfl := ow0_Label hu
                have ND := Lib.hid (ND.out.mv R_Config_ok hb)
                have NE := Lib.hid (NE.out.mv R_Mail_ok hb)
                clear h hu
                refine hK.out _ _ (hHeld.trans (hb.mono hHeld.size)) (fun hHeld => ?_)
                clear hK K hb
                refine rd2 10 11 (fun K hK => ?_) (fun K hK => ?_)
                · skip
                  go_simp
                  go_at_call 14
                  refine (gmsend_impl (ND.out.rd R_Config_ok) (NE.out.rd R_Mail_ok)).mono ?_
                  intro e v31_5 h
                  rw [HDD.out] at h
                  obtain ⟨us, rfl, hu, hb⟩ := newV_elim h
                  obtain ⟨ra031_5, rc031_5, rfl, hu⟩ := owc_MailOut hu
                  have hHeld0 := Lib.hid hHeld
                  have OW := Lib.hid (owG_new hu)
                  clear h hu ND NE
                  refine hK.out _ _ (hHeld.trans (hb.mono hHeld.size)) (fun hHeld => ?_)
                  clear hK K hb
                  refine rd1 11 (fun K hK => ?_)
                  go_simp
                  have hb : Below (v31_5).heap.size (v31_5) (v31_5.alloc (.cells #[.slice none 0 0, .int .i64 0] 38)) := (Below.refl _ _).alloc (Nat.le_refl _) _
                  have OW0 := OW
                  have OW := Lib.hid (OW.out.mv R_MailOut_ok hb)
                  have GB := Lib.hid (show Blk (v31_5.alloc (.cells #[.slice none 0 0, .int .i64 0] 38)) v31_5.heap.size 38 #[.slice none 0 0, .int .i64 0] from Blk.new (v31_5) 38 #[.slice none 0 0, .int .i64 0])
                  have HGE := Lib.hid (show w20.heap.size ≤ v31_5.heap.size from hHeld.size)
                  have HTB := Lib.hid (show ∀ k, Rg v31_4.heap.size v31_5.heap.size k → w20.heap.size ≤ k ∧ k ≠ v31_5.heap.size from fun k hk => ⟨Nat.le_trans hHeld0.out.size hk.1, by have := hk.2; omega⟩)
                  have hPre := Lib.hid hHeld
                  refine hK.out _ _ (hHeld.trans (hb.mono hHeld.size)) (fun hHeld => ?_)
                  clear hK K hb
                  refine rd1 12 (fun K hK => ?_)
                  go_simp
                  refine hK.out _ _ (hPre.out.alloc HGE.out (.cells #[.slice ra031_5 dL0.length rc031_5, .int .i64 dx1] 38)) (fun hHeld => ?_)
                  clear hK K
                  refine rd0 ?_
                  go_wp2_with fail
                  go_meet
                  exact ⟨_, _, _, _, rfl, Lib.hid (Blk.new v31_5 38 #[.slice ra031_5 dL0.length rc031_5, .int .i64 dx1]), Lib.hid (OW0.out.mv R_MailOut_ok ((Below.refl _ _).alloc (Nat.le_refl _) (.cells #[.slice ra031_5 dL0.length rc031_5, .int .i64 dx1] 38))), HTB, HGE, Lib.hid hHeld⟩
                · skip
                  go_simp
                  have hb : Below (v31_4).heap.size (v31_4) (v31_4.alloc (.cells #[.slice none 0 0, .int .i64 0] 38)) := (Below.refl _ _).alloc (Nat.le_refl _) _
                  have ND := Lib.hid (ND.out.mv R_Config_ok hb)
                  have NE := Lib.hid (NE.out.mv R_Mail_ok hb)
                  have GB := Lib.hid (show Blk (v31_4.alloc (.cells #[.slice none 0 0, .int .i64 0] 38)) v31_4.heap.size 38 #[.slice none 0 0, .int .i64 0] from Blk.new (v31_4) 38 #[.slice none 0 0, .int .i64 0])
                  have HGE := Lib.hid (show w20.heap.size ≤ v31_4.heap.size from hHeld.size)
                  refine hK.out _ _ (hHeld.trans (hb.mono hHeld.size)) (fun hHeld => ?_)
                  clear hK K hb
                  have GBl := Lib.hid (show v31_4.heap.size < (v31_4.alloc (.cells #[.slice none 0 0, .int .i64 0] 38)).heap.size from GB.out.lt)
                  refine rd1 10 (fun K hK => ?_)
                  go_simp
                  go_at_call 14
                  refine (gmsend_impl (ND.out.rd R_Config_ok) (NE.out.rd R_Mail_ok)).mono ?_
                  intro e v31_6 h
                  rw [HDD.out] at h
                  obtain ⟨us, rfl, hu, hb⟩ := newV_elim h
                  obtain ⟨ra031_6, rc031_6, rfl, hu⟩ := owc_MailOut hu
                  have hHeld0 := Lib.hid hHeld
                  have GB := Lib.hid (GB.out.call hb)
                  have OW := Lib.hid (owG_new hu)
                  have HTB := Lib.hid (show ∀ k, Rg (v31_4.alloc (.cells #[.slice none 0 0, .int .i64 0] 38)).heap.size v31_6.heap.size k → w20.heap.size ≤ k ∧ k ≠ v31_4.heap.size from fun k hk => ⟨Nat.le_trans hHeld.size hk.1, by have h1 := hk.1; have h2 := GBl.out; omega⟩)
                  clear h hu ND NE
                  refine hK.out _ _ (hHeld.trans (hb.mono hHeld.size)) (fun hHeld => ?_)
                  clear hK K hb
                  have GBl := Lib.hid (show v31_4.heap.size < v31_6.heap.size from GB.out.lt)
                  refine rd1 12 (fun K hK => ?_)
                  have q0 := GB.out.at_ 0 rfl
                  have f0 := GB.out.soft 0
                  have q1 := GB.out.at_ 1 rfl
                  have f1 := GB.out.soft 1
                  go_simp
                  refine hK.out _ _ ((hHeld.setCell (p := ⟨v31_4.heap.size, 0, none⟩) (by exact HGE.out) (.slice ra031_6 dL0.length rc031_6)).setCell (p := ⟨v31_4.heap.size, 1, none⟩) (by exact HGE.out) (.int .i64 dx1)) (fun hHeld => ?_)
                  clear hK K q0 f0 q1 f1
                  refine rd0 ?_
                  go_wp2_with fail
                  go_meet
                  exact ⟨_, _, _, _, rfl, Lib.hid (sets_MailOut GB.out), Lib.hid (OW.out.off R_MailOut_ok (soff_MailOut _ _ _ _) (fun k hk h2 => (HTB.out k hk).2 h2)), HTB, HGE, Lib.hid hHeld⟩
              · skip
                go_simp
                have hb : Below (v31_3).heap.size (v31_3) (v31_3.alloc (.cells #[.slice none 0 0, .int .i64 0] 38)) := (Below.refl _ _).alloc (Nat.le_refl _) _
                have ND := Lib.hid (ND.out.mv R_Config_ok hb)
                have NE := Lib.hid (NE.out.mv R_Mail_ok hb)
                have GB := Lib.hid (show Blk (v31_3.alloc (.cells #[.slice none 0 0, .int .i64 0] 38)) v31_3.heap.size 38 #[.slice none 0 0, .int .i64 0] from Blk.new (v31_3) 38 #[.slice none 0 0, .int .i64 0])
                have HGE := Lib.hid (show w20.heap.size ≤ v31_3.heap.size from hHeld.size)
                refine hK.out _ _ (hHeld.trans (hb.mono hHeld.size)) (fun hHeld => ?_)
                clear hK K hb
                have GBl := Lib.hid (show v31_3.heap.size < (v31_3.alloc (.cells #[.slice none 0 0, .int .i64 0] 38)).heap.size from GB.out.lt)
                refine rd1 7 (fun K hK => ?_)
                go_simp
                go_at_call 13
                refine (to_Label (by simp only [R_Label, Pr, I, atom] <;> omega)).mono ?_
                intro e v31_7 h
                obtain ⟨us, rfl, hu, hb⟩ := newV_elim h
                obtain rfl := ow0_Label hu
                have ND := Lib.hid (ND.out.mv R_Config_ok hb)
                have NE := Lib.hid (NE.out.mv R_Mail_ok hb)
                have GB := Lib.hid (GB.out.call hb)
                clear h hu
                refine hK.out _ _ (hHeld.trans (hb.mono hHeld.size)) (fun hHeld => ?_)
                clear hK K hb
                have GBl := Lib.hid (show v31_3.heap.size < v31_7.heap.size from GB.out.lt)
                refine rd1 10 (fun K hK => ?_)
                go_simp
                go_at_call 14
                refine (gmsend_impl (ND.out.rd R_Config_ok) (NE.out.rd R_Mail_ok)).mono ?_
                intro e v31_8 h
                rw [HDD.out] at h
                obtain ⟨us, rfl, hu, hb⟩ := newV_elim h
                obtain ⟨ra031_8, rc031_8, rfl, hu⟩ := owc_MailOut hu
                have hHeld0 := Lib.hid hHeld
                have GB := Lib.hid (GB.out.call hb)
                have OW := Lib.hid (owG_new hu)
                have HTB := Lib.hid (show ∀ k, Rg v31_7.heap.size v31_8.heap.size k → w20.heap.size ≤ k ∧ k ≠ v31_3.heap.size from fun k hk => ⟨Nat.le_trans hHeld.size hk.1, by have h1 := hk.1; have h2 := GBl.out; omega⟩)
                clear h hu ND NE
                refine hK.out _ _ (hHeld.trans (hb.mono hHeld.size)) (fun hHeld => ?_)
                clear hK K hb
                have GBl := Lib.hid (show v31_3.heap.size < v31_8.heap.size from GB.out.lt)
                refine rd1 12 (fun K hK => ?_)
                have q0 := GB.out.at_ 0 rfl
                have f0 := GB.out.soft 0
                have q1 := GB.out.at_ 1 rfl
                have f1 := GB.out.soft 1
                go_simp
                refine hK.out _ _ ((hHeld.setCell (p := ⟨v31_3.heap.size, 0, none⟩) (by exact HGE.out) (.slice ra031_8 dL0.length rc031_8)).setCell (p := ⟨v31_3.heap.size, 1, none⟩) (by exact HGE.out) (.int .i64 dx1)) (fun hHeld => ?_)
                clear hK K q0 f0 q1 f1
                refine rd0 ?_
                go_wp2_with fail
                go_meet
                exact ⟨_, _, _, _, rfl, Lib.hid (sets_MailOut GB.out), Lib.hid (OW.out.off R_MailOut_ok (soff_MailOut _ _ _ _) (fun k hk h2 => (HTB.out k hk).2 h2)), HTB, HGE, Lib.hid hHeld⟩
            · skip
              go_simp
              have hb : Below (v31_2).heap.size (v31_2) (v31_2.alloc (.cells #[.slice none 0 0, .int .i64 0] 38)) := (Below.refl _ _).alloc (Nat.le_refl _) _
              have ND := Lib.hid (ND.out.mv R_Config_ok hb)
              have NE := Lib.hid (NE.out.mv R_Mail_ok hb)
              have GB := Lib.hid (show Blk (v31_2.alloc (.cells #[.slice none 0 0, .int .i64 0] 38)) v31_2.heap.size 38 #[.slice none 0 0, .int .i64 0] from Blk.new (v31_2) 38 #[.slice none 0 0, .int .i64 0])
              have HGE := Lib.hid (show w20.heap.size ≤ v31_2.heap.size from hHeld.size)
              refine hK.out _ _ (hHeld.trans (hb.mono hHeld.size)) (fun hHeld => ?_)
              clear hK K hb
              have GBl := Lib.hid (show v31_2.heap.size < (v31_2.alloc (.cells #[.slice none 0 0, .int .i64 0] 38)).heap.size from GB.out.lt)
              refine rd1 5 (fun K hK => ?_)
              go_simp
              go_at_call 13
              refine (to_Label (by simp only [R_Label, Pr, I, atom] <;> omega)).mono ?_
              intro e v31_9 h
              obtain ⟨us, rfl, hu, hb⟩ := newV_elim h
              obtain rfl := ow0_Label hu
              have ND := Lib.hid (ND.out.mv R_Config_ok hb)
              have NE := Lib.hid (NE.out.mv R_Mail_ok hb)
              have GB := Lib.hid (GB.out.call hb)
              clear h hu
              refine hK.out _ _ (hHeld.trans (hb.mono hHeld.size)) (fun hHeld => ?_)
              clear hK K hb
              have GBl := Lib.hid (show v31_2.heap.size < v31_9.heap.size from GB.out.lt)
              refine rd1 7 (fun K hK => ?_)
              go_simp
              go_at_call 13
              refine (to_Label (by simp only [R_Label, Pr, I, atom] <;> omega)).mono ?_
              intro e v31_10 h
              obtain ⟨us, rfl, hu, hb⟩ := newV_elim h
              obtain rfl := ow0_Label hu
              have ND := Lib.hid (ND.out.mv R_Config_ok hb)
              have NE := Lib.hid (NE.out.mv R_Mail_ok hb)
              have GB := Lib.hid (GB.out.call hb)
              clear h hu
              refine hK.out _ _ (hHeld.trans (hb.mono hHeld.size)) (fun hHeld => ?_)
              clear hK K hb
              have GBl := Lib.hid (show v31_2.heap.size < v31_10.heap.size from GB.out.lt)
              refine rd1 10 (fun K hK => ?_)
              go_simp
              go_at_call 14
              refine (gmsend_impl (ND.out.rd R_Config_ok) (NE.out.rd R_Mail_ok)).mono ?_
              intro e v31_11 h
              rw [HDD.out] at h
              obtain ⟨us, rfl, hu, hb⟩ := newV_elim h
              obtain ⟨ra031_11, rc031_11, rfl, hu⟩ := owc_MailOut hu
              have hHeld0 := Lib.hid hHeld
              have GB := Lib.hid (GB.out.call hb)
              have OW := Lib.hid (owG_new hu)
              have HTB := Lib.hid (show ∀ k, Rg v31_10.heap.size v31_11.heap.size k → w20.heap.size ≤ k ∧ k ≠ v31_2.heap.size from fun k hk => ⟨Nat.le_trans hHeld.size hk.1, by have h1 := hk.1; have h2 := GBl.out; omega⟩)
              clear h hu ND NE
              refine hK.out _ _ (hHeld.trans (hb.mono hHeld.size)) (fun hHeld => ?_)
              clear hK K hb
              have GBl := Lib.hid (show v31_2.heap.size < v31_11.heap.size from GB.out.lt)
              refine rd1 12 (fun K hK => ?_)
              have q0 := GB.out.at_ 0 rfl
              have f0 := GB.out.soft 0
              have q1 := GB.out.at_ 1 rfl
              have f1 := GB.out.soft 1
              go_simp
              refine hK.out _ _ ((hHeld.setCell (p := ⟨v31_2.heap.size, 0, none⟩) (by exact HGE.out) (.slice ra031_11 dL0.length rc031_11)).setCell (p := ⟨v31_2.heap.size, 1, none⟩) (by exact HGE.out) (.int .i64 dx1)) (fun hHeld => ?_)
              clear hK K q0 f0 q1 f1
              refine rd0 ?_
              go_wp2_with fail
              go_meet
              exact ⟨_, _, _, _, rfl, Lib.hid (sets_MailOut GB.out), Lib.hid (OW.out.off R_MailOut_ok (soff_MailOut _ _ _ _) (fun k hk h2 => (HTB.out k hk).2 h2)), HTB, HGE, Lib.hid hHeld⟩
          · skip
            go_simp
            have hb : Below (v31_1).heap.size (v31_1) (v31_1.alloc (.cells #[.slice none 0 0, .int .i64 0] 38)) := (Below.refl _ _).alloc (Nat.le_refl _) _
            have ND := Lib.hid (ND.out.mv R_Config_ok hb)
            have GB := Lib.hid (show Blk (v31_1.alloc (.cells #[.slice none 0 0, .int .i64 0] 38)) v31_1.heap.size 38 #[.slice none 0 0, .int .i64 0] from Blk.new (v31_1) 38 #[.slice none 0 0, .int .i64 0])
            have HGE := Lib.hid (show w20.heap.size ≤ v31_1.heap.size from hHeld.size)
            refine hK.out _ _ (hHeld.trans (hb.mono hHeld.size)) (fun hHeld => ?_)
            clear hK K hb
            have GBl := Lib.hid (show v31_1.heap.size < (v31_1.alloc (.cells #[.slice none 0 0, .int .i64 0] 38)).heap.size from GB.out.lt)
            refine rd1 3 (fun K hK => ?_)
            go_simp
            go_at_call 12
            refine (gto_Mail HSZE.out (gmv R_Mail_ok HE_20.out hHeld)).mono ?_
            intro e v31_12 h
            obtain ⟨us, rfl, hu, hb⟩ := newV_elim h
            obtain ⟨aE0_31_12, cE0_31_12, rfl, hu⟩ := owc_Mail hu
            have ND := Lib.hid (ND.out.mv R_Config_ok hb)
            have GB := Lib.hid (GB.out.call hb)
            have NE := Lib.hid (owG_new hu)
            clear h hu
            refine hK.out _ _ (hHeld.trans (hb.mono hHeld.size)) (fun hHeld => ?_)
            clear hK K hb
            have GBl := Lib.hid (show v31_1.heap.size < v31_12.heap.size from GB.out.lt)
            refine rd1 5 (fun K hK => ?_)
            go_simp
            go_at_call 13
            refine (to_Label (by simp only [R_Label, Pr, I, atom] <;> omega)).mono ?_
            intro e v31_13 h
            obtain ⟨us, rfl, hu, hb⟩ := newV_elim h
            obtain rfl := ow0_Label hu
            have ND := Lib.hid (ND.out.mv R_Config_ok hb)
            have NE := Lib.hid (NE.out.mv R_Mail_ok hb)
            have GB := Lib.hid (GB.out.call hb)
            clear h hu
            refine hK.out _ _ (hHeld.trans (hb.mono hHeld.size)) (fun hHeld => ?_)
            clear hK K hb
            have GBl := Lib.hid (show v31_1.heap.size < v31_13.heap.size from GB.out.lt)
            refine rd1 7 (fun K hK => ?_)
            go_simp
            go_at_call 13
            refine (to_Label (by simp only [R_Label, Pr, I, atom] <;> omega)).mono ?_
            intro e v31_14 h
            obtain ⟨us, rfl, hu, hb⟩ := newV_elim h
            obtain rfl := ow0_Label hu
            have ND := Lib.hid (ND.out.mv R_Config_ok hb)
            have NE := Lib.hid (NE.out.mv R_Mail_ok hb)
            have GB := Lib.hid (GB.out.call hb)
            clear h hu
            refine hK.out _ _ (hHeld.trans (hb.mono hHeld.size)) (fun hHeld => ?_)
            clear hK K hb
            have GBl := Lib.hid (show v31_1.heap.size < v31_14.heap.size from GB.out.lt)
            refine rd1 10 (fun K hK => ?_)
            go_simp
            go_at_call 14
            refine (gmsend_impl (ND.out.rd R_Config_ok) (NE.out.rd R_Mail_ok)).mono ?_
            intro e v31_15 h
            rw [HDD.out] at h
            obtain ⟨us, rfl, hu, hb⟩ := newV_elim h
            obtain ⟨ra031_15, rc031_15, rfl, hu⟩ := owc_MailOut hu
            have hHeld0 := Lib.hid hHeld
            have GB := Lib.hid (GB.out.call hb)
            have OW := Lib.hid (owG_new hu)
            have HTB := Lib.hid (show ∀ k, Rg v31_14.heap.size v31_15.heap.size k → w20.heap.size ≤ k ∧ k ≠ v31_1.heap.size from fun k hk => ⟨Nat.le_trans hHeld.size hk.1, by have h1 := hk.1; have h2 := GBl.out; omega⟩)
            clear h hu ND NE
            refine hK.out _ _ (hHeld.trans (hb.mono hHeld.size)) (fun hHeld => ?_)
            clear hK K hb
            have GBl := Lib.hid (show v31_1.heap.size < v31_15.heap.size from GB.out.lt)
            refine rd1 12 (fun K hK => ?_)
            have q0 := GB.out.at_ 0 rfl
            have f0 := GB.out.soft 0
            have q1 := GB.out.at_ 1 rfl
            have f1 := GB.out.soft 1
            go_simp
            refine hK.out _ _ ((hHeld.setCell (p := ⟨v31_1.heap.size, 0, none⟩) (by exact HGE.out) (.slice ra031_15 dL0.length rc031_15)).setCell (p := ⟨v31_1.heap.size, 1, none⟩) (by exact HGE.out) (.int .i64 dx1)) (fun hHeld => ?_)
            clear hK K q0 f0 q1 f1
            refine rd0 ?_
            go_wp2_with fail
            go_meet
            exact ⟨_, _, _, _, rfl, Lib.hid (sets_MailOut GB.out), Lib.hid (OW.out.off R_MailOut_ok (soff_MailOut _ _ _ _) (fun k hk h2 => (HTB.out k hk).2 h2)), HTB, HGE, Lib.hid hHeld⟩
        · skip
          go_simp
          have hb : Below (w20.drew).heap.size (w20.drew) ((w20.drew).alloc (.cells #[.slice none 0 0, .int .i64 0] 38)) := (Below.refl _ _).alloc (Nat.le_refl _) _
          have GB := Lib.hid (show Blk ((w20.drew).alloc (.cells #[.slice none 0 0, .int .i64 0] 38)) w20.heap.size 38 #[.slice none 0 0, .int .i64 0] from Blk.new (w20.drew) 38 #[.slice none 0 0, .int .i64 0])
          have HGE := Lib.hid (show w20.heap.size ≤ w20.heap.size from hHeld.size)
          refine hK.out _ _ (hHeld.trans (hb.mono hHeld.size)) (fun hHeld => ?_)
          clear hK K hb
          have GBl := Lib.hid (show w20.heap.size < ((w20.drew).alloc (.cells #[.slice none 0 0, .int .i64 0] 38)).heap.size from GB.out.lt)
          refine rd1 1 (fun K hK => ?_)
          go_simp
          go_at_call 11
          refine (gto_Config HSZD.out (gmv R_Config_ok HD_20.out hHeld)).mono ?_
          intro e v31_16 h
          obtain ⟨us, rfl, hu, hb⟩ := newV_elim h
          obtain ⟨aD0_31_16, cD0_31_16, aD1_31_16, cD1_31_16, aD2_31_16, cD2_31_16, rfl, hu⟩ := owc_Config hu
          have GB := Lib.hid (GB.out.call hb)
          have ND := Lib.hid (owG_new hu)
          clear h hu
          refine hK.out _ _ (hHeld.trans (hb.mono hHeld.size)) (fun hHeld => ?_)
          clear hK K hb
          have GBl := Lib.hid (show w20.heap.size < v31_16.heap.size from GB.out.lt)
          refine rd1 3 (fun K hK => ?_)
          go_simp
          go_at_call 12
          refine (gto_Mail HSZE.out (gmv R_Mail_ok HE_20.out hHeld)).mono ?_
          intro e v31_17 h
          obtain ⟨us, rfl, hu, hb⟩ := newV_elim h
          obtain ⟨aE0_31_17, cE0_31_17, rfl, hu⟩ := owc_Mail hu
          have ND := Lib.hid (ND.out.mv R_Config_ok hb)
          have GB := Lib.hid (GB.out.call hb)
          have NE := Lib.hid (owG_new hu)
          clear h hu
          refine hK.out _ _ (hHeld.trans (hb.mono hHeld.size)) (fun hHeld => ?_)
          clear hK K hb
          have GBl := Lib.hid (show w20.heap.size < v31_17.heap.size from GB.out.lt)
          refine rd1 5 (fun K hK => ?_)
          go_simp
          go_at_call 13
          refine (to_Label (by simp only [R_Label, Pr, I, atom] <;> omega)).mono ?_
          intro e v31_18 h
          obtain ⟨us, rfl, hu, hb⟩ := newV_elim h
          obtain rfl := ow0_Label hu
          have ND := Lib.hid (ND.out.mv R_Config_ok hb)
          have NE := Lib.hid (NE.out.mv R_Mail_ok hb)
          have GB := Lib.hid (GB.out.call hb)
          clear h hu
          refine hK.out _ _ (hHeld.trans (hb.mono hHeld.size)) (fun hHeld => ?_)
          clear hK K hb
          have GBl := Lib.hid (show w20.heap.size < v31_18.heap.size from GB.out.lt)
          refine rd1 7 (fun K hK => ?_)
          go_simp
          go_at_call 13
          refine (to_Label (by simp only [R_Label, Pr, I, atom] <;> omega)).mono ?_
          intro e v31_19 h
          obtain ⟨us, rfl, hu, hb⟩ := newV_elim h
          obtain rfl := ow0_Label hu
          have ND := Lib.hid (ND.out.mv R_Config_ok hb)
          have NE := Lib.hid (NE.out.mv R_Mail_ok hb)
          have GB := Lib.hid (GB.out.call hb)
          clear h hu
          refine hK.out _ _ (hHeld.trans (hb.mono hHeld.size)) (fun hHeld => ?_)
          clear hK K hb
          have GBl := Lib.hid (show w20.heap.size < v31_19.heap.size from GB.out.lt)
          refine rd1 10 (fun K hK => ?_)
          go_simp
          go_at_call 14
          refine (gmsend_impl (ND.out.rd R_Config_ok) (NE.out.rd R_Mail_ok)).mono ?_
          intro e v31_20 h
          rw [HDD.out] at h
          obtain ⟨us, rfl, hu, hb⟩ := newV_elim h
          obtain ⟨ra031_20, rc031_20, rfl, hu⟩ := owc_MailOut hu
          have hHeld0 := Lib.hid hHeld
          have GB := Lib.hid (GB.out.call hb)
          have OW := Lib.hid (owG_new hu)
          have HTB := Lib.hid (show ∀ k, Rg v31_19.heap.size v31_20.heap.size k → w20.heap.size ≤ k ∧ k ≠ w20.heap.size from fun k hk => ⟨Nat.le_trans hHeld.size hk.1, by have h1 := hk.1; have h2 := GBl.out; omega⟩)
          clear h hu ND NE
          refine hK.out _ _ (hHeld.trans (hb.mono hHeld.size)) (fun hHeld => ?_)
          clear hK K hb
          have GBl := Lib.hid (show w20.heap.size < v31_20.heap.size from GB.out.lt)
          refine rd1 12 (fun K hK => ?_)
          have q0 := GB.out.at_ 0 rfl
          have f0 := GB.out.soft 0
          have q1 := GB.out.at_ 1 rfl
          have f1 := GB.out.soft 1
          go_simp
          refine hK.out _ _ ((hHeld.setCell (p := ⟨w20.heap.size, 0, none⟩) (by exact HGE.out) (.slice ra031_20 dL0.length rc031_20)).setCell (p := ⟨w20.heap.size, 1, none⟩) (by exact HGE.out) (.int .i64 dx1)) (fun hHeld => ?_)
          clear hK K q0 f0 q1 f1
          refine rd0 ?_
          go_wp2_with fail
          go_meet
          exact ⟨_, _, _, _, rfl, Lib.hid (sets_MailOut GB.out), Lib.hid (OW.out.off R_MailOut_ok (soff_MailOut _ _ _ _) (fun k hk h2 => (HTB.out k hk).2 h2)), HTB, HGE, Lib.hid hHeld⟩
      case rest =>
        obtain ⟨gh, ra0h, rc0h, Sh, rfl, HX8, HO8, HT8, HG8, hcb⟩ := hcut
        rename World => w21
        have hb := hcb.out
        have PD_21 := Lib.hid (PD_20.out.call hb)
        have PE_21 := Lib.hid (PE_20.out.call hb)
        have PF_21 := Lib.hid (PF_20.out.call hb)
        have PT_21 := Lib.hid (PT_20.out.call hb)
        have Bw_21 := Lib.hid (Bw_20.out.call hb)
        have BXD_21 := Lib.hid (BXD_20.out.call hb)
        have BXE_21 := Lib.hid (BXE_20.out.call hb)
        have Bg_21 := Lib.hid (Bg_20.out.call hb)
        have HD_21 := Lib.hid (gmv R_Config_ok HD_20.out hb)
        have HE_21 := Lib.hid (gmv R_Mail_ok HE_20.out hb)
        have Yw_21 := Lib.hid (Yw_20.out.mv R_MailOut_ok hb)
        have Yg_21 := Lib.hid (Yg_20.out.mv R_MailOut_ok hb)
        have HB21 := Lib.hid (HB20.out.trans ((hb).mono HB20.out.size))
        have HZ23 := Lib.hid ((hb).size)
        clear PD_20 PE_20 PF_20 PT_20 Bw_20 BXD_20 BXE_20 Bg_20 HB20
        clear hb hcb
        have Bh_21 := HX8
        have Yh_21 := HO8
        have HTh := HT8
        have HGh := HG8
        clear HX8 HO8 HT8 HG8
        have HSh := Lib.hid (fun k (hk : Sh k) => (⟨(HTh.out k hk).1, Yh_21.out.2 k hk⟩ : w20.heap.size ≤ k ∧ k < w21.heap.size))
        have HGLh := Lib.hid (show gh < w21.heap.size from Bh_21.out.lt)
        have qBh_0 := Bh_21.out.at_ 0 rfl
        have qBh_1 := Bh_21.out.at_ 1 rfl
        have qBw_0 := Bw_21.out.at_ 0 rfl
        have qBw_1 := Bw_21.out.at_ 1 rfl
        go_wp2_with fail
        refine (geq_MailOut (Yh_21.out.rd R_MailOut_ok) (Yw_21.out.rd R_MailOut_ok)).mono ?_
        intro e w22 h
        obtain ⟨rfl, hb⟩ := isB_elim h
        clear qBh_0 qBh_1 qBw_0 qBw_1
        have PD_22 := Lib.hid (PD_21.out.call hb)
        have PE_22 := Lib.hid (PE_21.out.call hb)
        have PF_22 := Lib.hid (PF_21.out.call hb)
        have PT_22 := Lib.hid (PT_21.out.call hb)
        have Bw_22 := Lib.hid (Bw_21.out.call hb)
        have BXD_22 := Lib.hid (BXD_21.out.call hb)
        have BXE_22 := Lib.hid (BXE_21.out.call hb)
        have Bg_22 := Lib.hid (Bg_21.out.call hb)
        have Bh_22 := Lib.hid (Bh_21.out.call hb)
        have HD_22 := Lib.hid (gmv R_Config_ok HD_21.out hb)
        have HE_22 := Lib.hid (gmv R_Mail_ok HE_21.out hb)
        have Yw_22 := Lib.hid (Yw_21.out.mv R_MailOut_ok hb)
        have Yg_22 := Lib.hid (Yg_21.out.mv R_MailOut_ok hb)
        have Yh_22 := Lib.hid (Yh_21.out.mv R_MailOut_ok hb)
        have HB22 := Lib.hid (HB21.out.trans ((hb).mono HB21.out.size))
        have HZ24 := Lib.hid ((hb).size)
        clear PD_21 PE_21 PF_21 PT_21 Bw_21 BXD_21 BXE_21 Bg_21 Bh_21 HD_21 HE_21 Yw_21 Yg_21 Yh_21 HB21
        clear h hb
        have qBg_0 := Bg_22.out.at_ 0 rfl
        have qBg_1 := Bg_22.out.at_ 1 rfl
        go_wp2_with fail
        refine (gheld_MailOut (by omega) hzb HMV.out (Yg_22.out.rd R_MailOut_ok)).mono ?_
        intro e w23 h
        obtain ⟨rfl, hb⟩ := heldC_elim h
        clear qBg_0 qBg_1
        have PD_23 := Lib.hid (PD_22.out.call hb)
        have PE_23 := Lib.hid (PE_22.out.call hb)
        have PF_23 := Lib.hid (PF_22.out.call hb)
        have PT_23 := Lib.hid (PT_22.out.call hb)
        have Bw_23 := Lib.hid (Bw_22.out.call hb)
        have BXD_23 := Lib.hid (BXD_22.out.call hb)
        have BXE_23 := Lib.hid (BXE_22.out.call hb)
        have Bg_23 := Lib.hid (Bg_22.out.call hb)
        have Bh_23 := Lib.hid (Bh_22.out.call hb)
        have HD_23 := Lib.hid (gmv R_Config_ok HD_22.out hb)
        have HE_23 := Lib.hid (gmv R_Mail_ok HE_22.out hb)
        have Yw_23 := Lib.hid (Yw_22.out.mv R_MailOut_ok hb)
        have Yg_23 := Lib.hid (Yg_22.out.mv R_MailOut_ok hb)
        have Yh_23 := Lib.hid (Yh_22.out.mv R_MailOut_ok hb)
        have HB23 := Lib.hid (HB22.out.trans ((hb).mono HB22.out.size))
        have HZ25 := Lib.hid ((hb).size)
        clear PD_22 PE_22 PF_22 PT_22 Bw_22 BXD_22 BXE_22 Bg_22 Bh_22 HD_22 HE_22 Yw_22 Yg_22 Yh_22 HB22
        clear h hb
        go_wp2
        go_ret
        exact ⟨rfl, HB23.out⟩
end Go.Proofs.YtlgflddljhldhaaGreat.RepC
end
