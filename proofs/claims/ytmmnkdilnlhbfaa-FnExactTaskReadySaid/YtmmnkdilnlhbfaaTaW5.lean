/- The law on TaskReady, out of the contracts. -/
import Derived.Test.YtmmnkdilnlhbfaaTk
import Derived.Test.YtmmnkdilnlhbfaaTk
import Derived.Test.YtmmnkdilnlhbfaaTaGz
namespace Go.Proofs.Ytmmnkdilnlhbfaa.RepC
open Go.RowKit RowC ValC SpanC KeptC
set_option linter.unusedVariables false
set_option linter.unusedSimpArgs false

set_option maxRecDepth 100000 in
set_option maxHeartbeats 4000000 in
theorem law_taskready {L : List (D_Task)} {La : Option Addr} {Lc : Nat} {Tx0 : Int} {Tx1 : Int} {Tx2 : Int} {Tx3 : ByteArray} {Tx4 : Int} {Tx5 : Int} {Tx6 : Int} {Tx7 : Int} {Tx8 : Int} {Tx9 : Int} {Tx10 : Int} {Tx11 : Int} {Tx12 : Int} {TL0 : List (Int)} {Ta0 : Option Addr} {Tc0 : Nat} {W : World} (hL : (Sl R_Task).rd W W.heap.size L [.slice La L.length Lc]) (hT : R_Task.rd W W.heap.size ((Tx0, Tx1), Tx2, Tx3, Tx4, Tx5, Tx6, (Tx7, Tx8), Tx9, Tx10, Tx11, Tx12, TL0) [.int .i64 Tx0, .int .i64 Tx1, .int .i64 Tx2, .string Tx3, .int .i64 Tx4, .int .i64 Tx5, .int .i64 Tx6, .int .i64 Tx7, .int .i64 Tx8, .int .i64 Tx9, .int .i64 Tx10, .int .i64 Tx11, .int .i64 Tx12, .slice Ta0 TL0.length Tc0]) :
    Calls Try.prog 8 #[.slice La L.length Lc, .agg #[.int .i64 Tx0, .int .i64 Tx1, .int .i64 Tx2, .string Tx3, .int .i64 Tx4, .int .i64 Tx5, .int .i64 Tx6, .int .i64 Tx7, .int .i64 Tx8, .int .i64 Tx9, .int .i64 Tx10, .int .i64 Tx11, .int .i64 Tx12, .slice Ta0 TL0.length Tc0]] W fun e w' => e = .returned (.bool true) ∧ Below W.heap.size W w' := by
  have HL := Lib.hid hL
  have HL0 := Lib.hid hL
  clear hL
  have HT := Lib.hid hT
  have HT0 := Lib.hid hT
  clear hT
  have hbA : Below (W).heap.size (W) (W.alloc (.cells #[.int .i64 Tx0, .int .i64 Tx1, .int .i64 Tx2, .string Tx3, .int .i64 Tx4, .int .i64 Tx5, .int .i64 Tx6, .int .i64 Tx7, .int .i64 Tx8, .int .i64 Tx9, .int .i64 Tx10, .int .i64 Tx11, .int .i64 Tx12, .slice Ta0 TL0.length Tc0] 63)) := (Below.refl _ _).alloc (Nat.le_refl _) _
  have HL_1 := Lib.hid (gmv (Sl_ok R_Task_ok) HL.out hbA)
  have HT_1 := Lib.hid (gmv R_Task_ok HT.out hbA)
  have HB1 := Lib.hid (show Below W.heap.size W (W.alloc (.cells #[.int .i64 Tx0, .int .i64 Tx1, .int .i64 Tx2, .string Tx3, .int .i64 Tx4, .int .i64 Tx5, .int .i64 Tx6, .int .i64 Tx7, .int .i64 Tx8, .int .i64 Tx9, .int .i64 Tx10, .int .i64 Tx11, .int .i64 Tx12, .slice Ta0 TL0.length Tc0] 63)) from hbA)
  have HZ1 := Lib.hid ((hbA).size)
  clear HL HT
  have PT_1 := Blk.new (W) 63 #[.int .i64 Tx0, .int .i64 Tx1, .int .i64 Tx2, .string Tx3, .int .i64 Tx4, .int .i64 Tx5, .int .i64 Tx6, .int .i64 Tx7, .int .i64 Tx8, .int .i64 Tx9, .int .i64 Tx10, .int .i64 Tx11, .int .i64 Tx12, .slice Ta0 TL0.length Tc0]
  have PTh_1 := Lib.hid PT_1
  clear PT_1 hbA
  by_cases hszL : (((Sl R_Task).sz L : Nat) : Int) ≤ (1048576 : Int)
  rotate_left
  · skip
    go_enter Try.func8, Try.ntmps8
    have qPT_0 := PTh_1.out.at_ 0 rfl
    have qPT_1 := PTh_1.out.at_ 1 rfl
    have qPT_2 := PTh_1.out.at_ 2 rfl
    have qPT_3 := PTh_1.out.at_ 3 rfl
    have qPT_4 := PTh_1.out.at_ 4 rfl
    have qPT_5 := PTh_1.out.at_ 5 rfl
    have qPT_6 := PTh_1.out.at_ 6 rfl
    have qPT_7 := PTh_1.out.at_ 7 rfl
    have qPT_8 := PTh_1.out.at_ 8 rfl
    have qPT_9 := PTh_1.out.at_ 9 rfl
    have qPT_10 := PTh_1.out.at_ 10 rfl
    have qPT_11 := PTh_1.out.at_ 11 rfl
    have qPT_12 := PTh_1.out.at_ 12 rfl
    have qPT_13 := PTh_1.out.at_ 13 rfl
    go_wp2_with fail
    refine (gsz_TaskS (l := (1048576 : Int)) (by omega) (by omega) HL_1.out).mono ?_
    intro e w2 h
    obtain ⟨rfl, hb⟩ := szC_elim h
    rw [szR_no (by omega)]
    clear qPT_0 qPT_1 qPT_2 qPT_3 qPT_4 qPT_5 qPT_6 qPT_7 qPT_8 qPT_9 qPT_10 qPT_11 qPT_12 qPT_13
    have PT_2 := Lib.hid (PTh_1.out.call hb)
    have HL_2 := Lib.hid (gmv (Sl_ok R_Task_ok) HL_1.out hb)
    have HT_2 := Lib.hid (gmv R_Task_ok HT_1.out hb)
    have HB2 := Lib.hid (HB1.out.trans ((hb).mono HB1.out.size))
    have HZ2 := Lib.hid ((hb).size)
    clear PTh_1 HL_1 HT_1 HB1
    clear h hb
    go_wp2
    go_ret
    exact ⟨rfl, HB2.out⟩
  have hswL : (Sl R_Task).sz L ≤ 1048576 := by omega
  have HSZL := Lib.hid hswL
  have HSAL := Lib.hid (cvs_TaskS hswL)
  clear hswL
  obtain ⟨mL, hmL⟩ : ∃ m : Nat, (Sl R_Task).sz L = m := ⟨_, rfl⟩
  have HML := Lib.hid hmL
  rw [hmL] at hszL
  clear hmL
  have hltL : decide ((1048576 : Int) - (mL : Int) < 0) = false := decide_eq_false (by omega)
  by_cases hszT : ((R_Task.sz ((Tx0, Tx1), Tx2, Tx3, Tx4, Tx5, Tx6, (Tx7, Tx8), Tx9, Tx10, Tx11, Tx12, TL0) : Nat) : Int) ≤ (1048576 : Int) - (mL : Int)
  rotate_left
  · skip
    go_enter Try.func8, Try.ntmps8
    have qPT_0 := PTh_1.out.at_ 0 rfl
    have qPT_1 := PTh_1.out.at_ 1 rfl
    have qPT_2 := PTh_1.out.at_ 2 rfl
    have qPT_3 := PTh_1.out.at_ 3 rfl
    have qPT_4 := PTh_1.out.at_ 4 rfl
    have qPT_5 := PTh_1.out.at_ 5 rfl
    have qPT_6 := PTh_1.out.at_ 6 rfl
    have qPT_7 := PTh_1.out.at_ 7 rfl
    have qPT_8 := PTh_1.out.at_ 8 rfl
    have qPT_9 := PTh_1.out.at_ 9 rfl
    have qPT_10 := PTh_1.out.at_ 10 rfl
    have qPT_11 := PTh_1.out.at_ 11 rfl
    have qPT_12 := PTh_1.out.at_ 12 rfl
    have qPT_13 := PTh_1.out.at_ 13 rfl
    go_wp2_with fail
    refine (gsz_TaskS (l := (1048576 : Int)) (by omega) (by omega) HL_1.out).mono ?_
    intro e w2 h
    obtain ⟨rfl, hb⟩ := szC_elim h
    rw [HML.out, szR_yes (by omega)]
    clear qPT_0 qPT_1 qPT_2 qPT_3 qPT_4 qPT_5 qPT_6 qPT_7 qPT_8 qPT_9 qPT_10 qPT_11 qPT_12 qPT_13
    have PT_2 := Lib.hid (PTh_1.out.call hb)
    have HL_2 := Lib.hid (gmv (Sl_ok R_Task_ok) HL_1.out hb)
    have HT_2 := Lib.hid (gmv R_Task_ok HT_1.out hb)
    have HB2 := Lib.hid (HB1.out.trans ((hb).mono HB1.out.size))
    have HZ2 := Lib.hid ((hb).size)
    clear PTh_1 HL_1 HT_1 HB1
    clear h hb
    have qPT_0 := PT_2.out.at_ 0 rfl
    have qPT_1 := PT_2.out.at_ 1 rfl
    have qPT_2 := PT_2.out.at_ 2 rfl
    have qPT_3 := PT_2.out.at_ 3 rfl
    have qPT_4 := PT_2.out.at_ 4 rfl
    have qPT_5 := PT_2.out.at_ 5 rfl
    have qPT_6 := PT_2.out.at_ 6 rfl
    have qPT_7 := PT_2.out.at_ 7 rfl
    have qPT_8 := PT_2.out.at_ 8 rfl
    have qPT_9 := PT_2.out.at_ 9 rfl
    have qPT_10 := PT_2.out.at_ 10 rfl
    have qPT_11 := PT_2.out.at_ 11 rfl
    have qPT_12 := PT_2.out.at_ 12 rfl
    have qPT_13 := PT_2.out.at_ 13 rfl
    go_wp2_with fail
    refine (gsz_Task (l := (1048576 : Int) - (mL : Int)) (by omega) (by omega) HT_2.out).mono ?_
    intro e w3 h
    obtain ⟨rfl, hb⟩ := szC_elim h
    rw [szR_no (by omega)]
    clear qPT_0 qPT_1 qPT_2 qPT_3 qPT_4 qPT_5 qPT_6 qPT_7 qPT_8 qPT_9 qPT_10 qPT_11 qPT_12 qPT_13
    have PT_3 := Lib.hid (PT_2.out.call hb)
    have HL_3 := Lib.hid (gmv (Sl_ok R_Task_ok) HL_2.out hb)
    have HT_3 := Lib.hid (gmv R_Task_ok HT_2.out hb)
    have HB3 := Lib.hid (HB2.out.trans ((hb).mono HB2.out.size))
    have HZ3 := Lib.hid ((hb).size)
    clear PT_2 HL_2 HT_2 HB2
    clear h hb
    go_wp2
    go_ret
    exact ⟨rfl, HB3.out⟩
  have hswT : R_Task.sz ((Tx0, Tx1), Tx2, Tx3, Tx4, Tx5, Tx6, (Tx7, Tx8), Tx9, Tx10, Tx11, Tx12, TL0) ≤ 1048576 := by omega
  have HSZT := Lib.hid hswT
  have HSAT := Lib.hid (cvs_Task hswT)
  clear hswT
  obtain ⟨mT, hmT⟩ : ∃ m : Nat, R_Task.sz ((Tx0, Tx1), Tx2, Tx3, Tx4, Tx5, Tx6, (Tx7, Tx8), Tx9, Tx10, Tx11, Tx12, TL0) = m := ⟨_, rfl⟩
  have HMT := Lib.hid hmT
  rw [hmT] at hszT
  clear hmT
  have hltT : decide ((1048576 : Int) - (mL : Int) - (mT : Int) < 0) = false := decide_eq_false (by omega)
  obtain ⟨dR, hD⟩ : ∃ d, readyB L ((Tx0, Tx1), Tx2, Tx3, Tx4, Tx5, Tx6, (Tx7, Tx8), Tx9, Tx10, Tx11, Tx12, TL0) = d := ⟨_, rfl⟩
  have HDD := Lib.hid hD
  clear hD
  go_enter Try.func8, Try.ntmps8
  have qPT_0 := PTh_1.out.at_ 0 rfl
  have qPT_1 := PTh_1.out.at_ 1 rfl
  have qPT_2 := PTh_1.out.at_ 2 rfl
  have qPT_3 := PTh_1.out.at_ 3 rfl
  have qPT_4 := PTh_1.out.at_ 4 rfl
  have qPT_5 := PTh_1.out.at_ 5 rfl
  have qPT_6 := PTh_1.out.at_ 6 rfl
  have qPT_7 := PTh_1.out.at_ 7 rfl
  have qPT_8 := PTh_1.out.at_ 8 rfl
  have qPT_9 := PTh_1.out.at_ 9 rfl
  have qPT_10 := PTh_1.out.at_ 10 rfl
  have qPT_11 := PTh_1.out.at_ 11 rfl
  have qPT_12 := PTh_1.out.at_ 12 rfl
  have qPT_13 := PTh_1.out.at_ 13 rfl
  go_wp2_with fail
  refine (gsz_TaskS (l := (1048576 : Int)) (by omega) (by omega) HL_1.out).mono ?_
  intro e w2 h
  obtain ⟨rfl, hb⟩ := szC_elim h
  rw [HML.out, szR_yes (by omega)]
  clear qPT_0 qPT_1 qPT_2 qPT_3 qPT_4 qPT_5 qPT_6 qPT_7 qPT_8 qPT_9 qPT_10 qPT_11 qPT_12 qPT_13
  have PT_2 := Lib.hid (PTh_1.out.call hb)
  have HL_2 := Lib.hid (gmv (Sl_ok R_Task_ok) HL_1.out hb)
  have HT_2 := Lib.hid (gmv R_Task_ok HT_1.out hb)
  have HB2 := Lib.hid (HB1.out.trans ((hb).mono HB1.out.size))
  have HZ2 := Lib.hid ((hb).size)
  clear PTh_1 HL_1 HT_1 HB1
  clear h hb
  have qPT_0 := PT_2.out.at_ 0 rfl
  have qPT_1 := PT_2.out.at_ 1 rfl
  have qPT_2 := PT_2.out.at_ 2 rfl
  have qPT_3 := PT_2.out.at_ 3 rfl
  have qPT_4 := PT_2.out.at_ 4 rfl
  have qPT_5 := PT_2.out.at_ 5 rfl
  have qPT_6 := PT_2.out.at_ 6 rfl
  have qPT_7 := PT_2.out.at_ 7 rfl
  have qPT_8 := PT_2.out.at_ 8 rfl
  have qPT_9 := PT_2.out.at_ 9 rfl
  have qPT_10 := PT_2.out.at_ 10 rfl
  have qPT_11 := PT_2.out.at_ 11 rfl
  have qPT_12 := PT_2.out.at_ 12 rfl
  have qPT_13 := PT_2.out.at_ 13 rfl
  go_wp2_with fail
  refine (gsz_Task (l := (1048576 : Int) - (mL : Int)) (by omega) (by omega) HT_2.out).mono ?_
  intro e w3 h
  obtain ⟨rfl, hb⟩ := szC_elim h
  rw [HMT.out, szR_yes (by omega)]
  clear qPT_0 qPT_1 qPT_2 qPT_3 qPT_4 qPT_5 qPT_6 qPT_7 qPT_8 qPT_9 qPT_10 qPT_11 qPT_12 qPT_13
  have PT_3 := Lib.hid (PT_2.out.call hb)
  have HL_3 := Lib.hid (gmv (Sl_ok R_Task_ok) HL_2.out hb)
  have HT_3 := Lib.hid (gmv R_Task_ok HT_2.out hb)
  have HB3 := Lib.hid (HB2.out.trans ((hb).mono HB2.out.size))
  have HZ3 := Lib.hid ((hb).size)
  clear PT_2 HL_2 HT_2 HB2
  clear h hb
  have qPT_0 := PT_3.out.at_ 0 rfl
  have qPT_1 := PT_3.out.at_ 1 rfl
  have qPT_2 := PT_3.out.at_ 2 rfl
  have qPT_3 := PT_3.out.at_ 3 rfl
  have qPT_4 := PT_3.out.at_ 4 rfl
  have qPT_5 := PT_3.out.at_ 5 rfl
  have qPT_6 := PT_3.out.at_ 6 rfl
  have qPT_7 := PT_3.out.at_ 7 rfl
  have qPT_8 := PT_3.out.at_ 8 rfl
  have qPT_9 := PT_3.out.at_ 9 rfl
  have qPT_10 := PT_3.out.at_ 10 rfl
  have qPT_11 := PT_3.out.at_ 11 rfl
  have qPT_12 := PT_3.out.at_ 12 rfl
  have qPT_13 := PT_3.out.at_ 13 rfl
  clear hszL hszT
  clear qPT_0 qPT_1 qPT_2 qPT_3 qPT_4 qPT_5 qPT_6 qPT_7 qPT_8 qPT_9 qPT_10 qPT_11 qPT_12 qPT_13
  have hbb : (dR != dR) = false := by cases dR <;> rfl
  go_wp2_with fail
  refine wp_region_held_drew (S := (fun V => Below (w3).heap.size (w3) V)) (by kernel_rfl) ((Below.refl _ _).drew) (fun hHeld => ?_)
  refine tk 0 hHeld ?_
  refine tk 2 hHeld ?_ (hy := fun w hSw => by (try dsimp only at hSw); have k0 := (hSw.cell (p := ⟨W.heap.size, 0, none⟩) PT_3.out.lt).trans (PT_3.out.at_ 0 rfl); have k1 := (hSw.cell (p := ⟨W.heap.size, 1, none⟩) PT_3.out.lt).trans (PT_3.out.at_ 1 rfl); have k2 := (hSw.cell (p := ⟨W.heap.size, 2, none⟩) PT_3.out.lt).trans (PT_3.out.at_ 2 rfl); have k3 := (hSw.cell (p := ⟨W.heap.size, 3, none⟩) PT_3.out.lt).trans (PT_3.out.at_ 3 rfl); have k4 := (hSw.cell (p := ⟨W.heap.size, 4, none⟩) PT_3.out.lt).trans (PT_3.out.at_ 4 rfl); have k5 := (hSw.cell (p := ⟨W.heap.size, 5, none⟩) PT_3.out.lt).trans (PT_3.out.at_ 5 rfl); have k6 := (hSw.cell (p := ⟨W.heap.size, 6, none⟩) PT_3.out.lt).trans (PT_3.out.at_ 6 rfl); have k7 := (hSw.cell (p := ⟨W.heap.size, 7, none⟩) PT_3.out.lt).trans (PT_3.out.at_ 7 rfl); have k8 := (hSw.cell (p := ⟨W.heap.size, 8, none⟩) PT_3.out.lt).trans (PT_3.out.at_ 8 rfl); have k9 := (hSw.cell (p := ⟨W.heap.size, 9, none⟩) PT_3.out.lt).trans (PT_3.out.at_ 9 rfl); have k10 := (hSw.cell (p := ⟨W.heap.size, 10, none⟩) PT_3.out.lt).trans (PT_3.out.at_ 10 rfl); have k11 := (hSw.cell (p := ⟨W.heap.size, 11, none⟩) PT_3.out.lt).trans (PT_3.out.at_ 11 rfl); have k12 := (hSw.cell (p := ⟨W.heap.size, 12, none⟩) PT_3.out.lt).trans (PT_3.out.at_ 12 rfl); have k13 := (hSw.cell (p := ⟨W.heap.size, 13, none⟩) PT_3.out.lt).trans (PT_3.out.at_ 13 rfl); clear hSw; go_simp; try with_reducible rfl)
  refine rd1 1 (fun K hK => ?_)
  go_simp
  go_at_call 23
  refine (gto_TaskS HSZL.out (gmv (Sl_ok R_Task_ok) HL_3.out hHeld)).mono ?_
  intro e w301 h
  obtain ⟨aL301, cL301, rfl, hu, hb⟩ := newS_elim2 h
  have NL := Lib.hid (owG_new hu)
  clear h hu
  refine hK.out _ _ (hHeld.trans (hb.mono hHeld.size)) (fun hHeld => ?_)
  clear hK K hb
  refine rd1 3 (fun K hK => ?_)
  go_simp
  go_at_call 36
  refine (gto_Task HSZT.out (gmv R_Task_ok HT_3.out hHeld)).mono ?_
  intro e w302 h
  obtain ⟨us, rfl, hu, hb⟩ := newV_elim h
  obtain ⟨aT0302, cT0302, rfl, hu⟩ := owc_Task hu
  have NL := Lib.hid (NL.out.mv (Sl_ok R_Task_ok) hb)
  have NT := Lib.hid (owG_new hu)
  clear h hu
  refine hK.out _ _ (hHeld.trans (hb.mono hHeld.size)) (fun hHeld => ?_)
  clear hK K hb
  refine rd1 4 (fun K hK => ?_)
  go_simp
  go_at_call 35
  refine (gready_spec (NL.out.rd (Sl_ok R_Task_ok)) (NT.out.rd R_Task_ok)).mono ?_
  intro e w303 h
  rw [HDD.out] at h
  obtain ⟨rfl, hb⟩ := isB_elim h
  clear h
  refine hK.out _ _ (hHeld.trans (hb.mono hHeld.size)) (fun hHeld => ?_)
  clear hK K hb
  refine tk 5 hHeld ?_
  refine rd0 ?_
  have HF := Lib.hid hHeld
  clear hHeld
  have hF := HF.out
  have PT_4 := Lib.hid (PT_3.out.call hF)
  have HL_4 := Lib.hid (gmv (Sl_ok R_Task_ok) HL_3.out hF)
  have HT_4 := Lib.hid (gmv R_Task_ok HT_3.out hF)
  have HB4 := Lib.hid (HB3.out.trans ((hF).mono HB3.out.size))
  have HZ4 := Lib.hid ((hF).size)
  clear PT_3 HL_3 HT_3 HB3
  clear HF hF
  clear NL
  clear NT
  go_wp2_with fail
  refine (gto_TaskS HSZL.out HL_4.out).mono ?_
  intro e w5 h
  obtain ⟨aL5, cL5, rfl, hu, hb⟩ := newS_elim2 h
  have PT_5 := Lib.hid (PT_4.out.call hb)
  have HL_5 := Lib.hid (gmv (Sl_ok R_Task_ok) HL_4.out hb)
  have HT_5 := Lib.hid (gmv R_Task_ok HT_4.out hb)
  have HB5 := Lib.hid (HB4.out.trans ((hb).mono HB4.out.size))
  have HZ5 := Lib.hid ((hb).size)
  clear PT_4 HL_4 HT_4 HB4
  have XL_5 := Lib.hid (owG_new hu)
  clear hu
  clear h hb
  have qPT_0 := PT_5.out.at_ 0 rfl
  have qPT_1 := PT_5.out.at_ 1 rfl
  have qPT_2 := PT_5.out.at_ 2 rfl
  have qPT_3 := PT_5.out.at_ 3 rfl
  have qPT_4 := PT_5.out.at_ 4 rfl
  have qPT_5 := PT_5.out.at_ 5 rfl
  have qPT_6 := PT_5.out.at_ 6 rfl
  have qPT_7 := PT_5.out.at_ 7 rfl
  have qPT_8 := PT_5.out.at_ 8 rfl
  have qPT_9 := PT_5.out.at_ 9 rfl
  have qPT_10 := PT_5.out.at_ 10 rfl
  have qPT_11 := PT_5.out.at_ 11 rfl
  have qPT_12 := PT_5.out.at_ 12 rfl
  have qPT_13 := PT_5.out.at_ 13 rfl
  go_wp2_with fail
  refine (gto_Task HSZT.out HT_5.out).mono ?_
  intro e w6 h
  obtain ⟨us, rfl, hu, hb⟩ := newV_elim h
  obtain ⟨aT06, cT06, rfl, hu⟩ := owc_Task hu
  clear qPT_0 qPT_1 qPT_2 qPT_3 qPT_4 qPT_5 qPT_6 qPT_7 qPT_8 qPT_9 qPT_10 qPT_11 qPT_12 qPT_13
  have PT_6 := Lib.hid (PT_5.out.call hb)
  have HL_6 := Lib.hid (gmv (Sl_ok R_Task_ok) HL_5.out hb)
  have HT_6 := Lib.hid (gmv R_Task_ok HT_5.out hb)
  have XL_6 := Lib.hid (XL_5.out.mv (Sl_ok R_Task_ok) hb)
  have HB6 := Lib.hid (HB5.out.trans ((hb).mono HB5.out.size))
  have HZ6 := Lib.hid ((hb).size)
  clear PT_5 HL_5 HT_5 XL_5 HB5
  have XT_6 := Lib.hid (owG_new hu)
  clear hu
  clear h hb
  have hbA : Below (w6).heap.size (w6) (w6.alloc (.cells #[.int .i64 Tx0, .int .i64 Tx1, .int .i64 Tx2, .string Tx3, .int .i64 Tx4, .int .i64 Tx5, .int .i64 Tx6, .int .i64 Tx7, .int .i64 Tx8, .int .i64 Tx9, .int .i64 Tx10, .int .i64 Tx11, .int .i64 Tx12, .slice aT06 TL0.length cT06] 54)) := (Below.refl _ _).alloc (Nat.le_refl _) _
  have PT_7 := Lib.hid (PT_6.out.call hbA)
  have HL_7 := Lib.hid (gmv (Sl_ok R_Task_ok) HL_6.out hbA)
  have HT_7 := Lib.hid (gmv R_Task_ok HT_6.out hbA)
  have XL_7 := Lib.hid (XL_6.out.mv (Sl_ok R_Task_ok) hbA)
  have XT_7 := Lib.hid (XT_6.out.mv R_Task_ok hbA)
  have HB7 := Lib.hid (HB6.out.trans ((hbA).mono HB6.out.size))
  have HZ7 := Lib.hid ((hbA).size)
  clear PT_6 HL_6 HT_6 XL_6 XT_6 HB6
  have BXT_7 := Blk.new (w6) 54 #[.int .i64 Tx0, .int .i64 Tx1, .int .i64 Tx2, .string Tx3, .int .i64 Tx4, .int .i64 Tx5, .int .i64 Tx6, .int .i64 Tx7, .int .i64 Tx8, .int .i64 Tx9, .int .i64 Tx10, .int .i64 Tx11, .int .i64 Tx12, .slice aT06 TL0.length cT06]
  have BXTh_7 := Lib.hid BXT_7
  clear BXT_7 hbA
  have HZ8 := Lib.hid ((show (w6.alloc (.cells #[.int .i64 Tx0, .int .i64 Tx1, .int .i64 Tx2, .string Tx3, .int .i64 Tx4, .int .i64 Tx5, .int .i64 Tx6, .int .i64 Tx7, .int .i64 Tx8, .int .i64 Tx9, .int .i64 Tx10, .int .i64 Tx11, .int .i64 Tx12, .slice aT06 TL0.length cT06] 54)).heap.size = w6.heap.size + 1 by simp))
  obtain ⟨wz7, hwz7⟩ : ∃ w, w = w6.alloc (.cells #[.int .i64 Tx0, .int .i64 Tx1, .int .i64 Tx2, .string Tx3, .int .i64 Tx4, .int .i64 Tx5, .int .i64 Tx6, .int .i64 Tx7, .int .i64 Tx8, .int .i64 Tx9, .int .i64 Tx10, .int .i64 Tx11, .int .i64 Tx12, .slice aT06 TL0.length cT06] 54) := ⟨_, rfl⟩
  rw [← hwz7] at PT_7 BXTh_7 HL_7 HT_7 XL_7 XT_7 HB7 HZ7 HZ8
  have qBXT_0 := BXTh_7.out.at_ 0 rfl
  have qBXT_1 := BXTh_7.out.at_ 1 rfl
  have qBXT_2 := BXTh_7.out.at_ 2 rfl
  have qBXT_3 := BXTh_7.out.at_ 3 rfl
  have qBXT_4 := BXTh_7.out.at_ 4 rfl
  have qBXT_5 := BXTh_7.out.at_ 5 rfl
  have qBXT_6 := BXTh_7.out.at_ 6 rfl
  have qBXT_7 := BXTh_7.out.at_ 7 rfl
  have qBXT_8 := BXTh_7.out.at_ 8 rfl
  have qBXT_9 := BXTh_7.out.at_ 9 rfl
  have qBXT_10 := BXTh_7.out.at_ 10 rfl
  have qBXT_11 := BXTh_7.out.at_ 11 rfl
  have qBXT_12 := BXTh_7.out.at_ 12 rfl
  have qBXT_13 := BXTh_7.out.at_ 13 rfl
  have qBXT_0_u := qBXT_0
  rw [hwz7] at qBXT_0_u
  have qBXT_1_u := qBXT_1
  rw [hwz7] at qBXT_1_u
  have qBXT_2_u := qBXT_2
  rw [hwz7] at qBXT_2_u
  have qBXT_3_u := qBXT_3
  rw [hwz7] at qBXT_3_u
  have qBXT_4_u := qBXT_4
  rw [hwz7] at qBXT_4_u
  have qBXT_5_u := qBXT_5
  rw [hwz7] at qBXT_5_u
  have qBXT_6_u := qBXT_6
  rw [hwz7] at qBXT_6_u
  have qBXT_7_u := qBXT_7
  rw [hwz7] at qBXT_7_u
  have qBXT_8_u := qBXT_8
  rw [hwz7] at qBXT_8_u
  have qBXT_9_u := qBXT_9
  rw [hwz7] at qBXT_9_u
  have qBXT_10_u := qBXT_10
  rw [hwz7] at qBXT_10_u
  have qBXT_11_u := qBXT_11
  rw [hwz7] at qBXT_11_u
  have qBXT_12_u := qBXT_12
  rw [hwz7] at qBXT_12_u
  have qBXT_13_u := qBXT_13
  rw [hwz7] at qBXT_13_u
  go_wp2_with fail
  rw [← hwz7]
  clear hwz7
  refine (gready_impl (XL_7.out.rd (Sl_ok R_Task_ok)) (XT_7.out.rd R_Task_ok)).mono ?_
  intro e w8 h
  rw [HDD.out] at h
  obtain ⟨rfl, hb⟩ := isB_elim h
  clear qBXT_0 qBXT_1 qBXT_2 qBXT_3 qBXT_4 qBXT_5 qBXT_6 qBXT_7 qBXT_8 qBXT_9 qBXT_10 qBXT_11 qBXT_12 qBXT_13 qBXT_0_u qBXT_1_u qBXT_2_u qBXT_3_u qBXT_4_u qBXT_5_u qBXT_6_u qBXT_7_u qBXT_8_u qBXT_9_u qBXT_10_u qBXT_11_u qBXT_12_u qBXT_13_u
  have PT_8 := Lib.hid (PT_7.out.call hb)
  have BXT_8 := Lib.hid (BXTh_7.out.call hb)
  have HL_8 := Lib.hid (gmv (Sl_ok R_Task_ok) HL_7.out hb)
  have HT_8 := Lib.hid (gmv R_Task_ok HT_7.out hb)
  have XL_8 := Lib.hid (XL_7.out.mv (Sl_ok R_Task_ok) hb)
  have XT_8 := Lib.hid (XT_7.out.mv R_Task_ok hb)
  have HB8 := Lib.hid (HB7.out.trans ((hb).mono HB7.out.size))
  have HZ9 := Lib.hid ((hb).size)
  clear PT_7 BXTh_7 HL_7 HT_7 XL_7 XT_7 HB7
  clear h hb
  go_wp2_with fail
  refine (gto_TaskS HSZL.out HL_8.out).mono ?_
  intro e w9 h
  obtain ⟨aL9, cL9, rfl, hu, hb⟩ := newS_elim2 h
  have PT_9 := Lib.hid (PT_8.out.call hb)
  have BXT_9 := Lib.hid (BXT_8.out.call hb)
  have HL_9 := Lib.hid (gmv (Sl_ok R_Task_ok) HL_8.out hb)
  have HT_9 := Lib.hid (gmv R_Task_ok HT_8.out hb)
  have XL_9 := Lib.hid (XL_8.out.mv (Sl_ok R_Task_ok) hb)
  have XT_9 := Lib.hid (XT_8.out.mv R_Task_ok hb)
  have HB9 := Lib.hid (HB8.out.trans ((hb).mono HB8.out.size))
  have HZ10 := Lib.hid ((hb).size)
  clear PT_8 BXT_8 HL_8 HT_8 XL_8 XT_8 HB8
  have NL_9 := Lib.hid (owG_new hu)
  clear hu
  clear h hb
  go_wp2_with fail
  refine (geq_TaskS (XL_9.out.rd (Sl_ok R_Task_ok)) (NL_9.out.rd (Sl_ok R_Task_ok))).mono ?_
  intro e w10 h
  obtain ⟨rfl, hb⟩ := isB_elim h
  have PT_10 := Lib.hid (PT_9.out.call hb)
  have BXT_10 := Lib.hid (BXT_9.out.call hb)
  have HL_10 := Lib.hid (gmv (Sl_ok R_Task_ok) HL_9.out hb)
  have HT_10 := Lib.hid (gmv R_Task_ok HT_9.out hb)
  have XL_10 := Lib.hid (XL_9.out.mv (Sl_ok R_Task_ok) hb)
  have XT_10 := Lib.hid (XT_9.out.mv R_Task_ok hb)
  have NL_10 := Lib.hid (NL_9.out.mv (Sl_ok R_Task_ok) hb)
  have HB10 := Lib.hid (HB9.out.trans ((hb).mono HB9.out.size))
  have HZ11 := Lib.hid ((hb).size)
  clear PT_9 BXT_9 HL_9 HT_9 XL_9 XT_9 NL_9 HB9
  clear h hb
  clear NL_10
  go_wp2_with fail
  refine wp_region_held_drew (S := (fun V => Below (w10).heap.size (w10) V)) (by kernel_rfl) ((Below.refl _ _).drew) (fun hHeld => ?_)
  refine tk 0 hHeld ?_ (hy := fun w hSw => by (try dsimp only at hSw); have k0 := (hSw.cell (p := ⟨w6.heap.size, 0, none⟩) BXT_10.out.lt).trans (BXT_10.out.at_ 0 rfl); have k1 := (hSw.cell (p := ⟨w6.heap.size, 1, none⟩) BXT_10.out.lt).trans (BXT_10.out.at_ 1 rfl); have k2 := (hSw.cell (p := ⟨w6.heap.size, 2, none⟩) BXT_10.out.lt).trans (BXT_10.out.at_ 2 rfl); have k3 := (hSw.cell (p := ⟨w6.heap.size, 3, none⟩) BXT_10.out.lt).trans (BXT_10.out.at_ 3 rfl); have k4 := (hSw.cell (p := ⟨w6.heap.size, 4, none⟩) BXT_10.out.lt).trans (BXT_10.out.at_ 4 rfl); have k5 := (hSw.cell (p := ⟨w6.heap.size, 5, none⟩) BXT_10.out.lt).trans (BXT_10.out.at_ 5 rfl); have k6 := (hSw.cell (p := ⟨w6.heap.size, 6, none⟩) BXT_10.out.lt).trans (BXT_10.out.at_ 6 rfl); have k7 := (hSw.cell (p := ⟨w6.heap.size, 7, none⟩) BXT_10.out.lt).trans (BXT_10.out.at_ 7 rfl); have k8 := (hSw.cell (p := ⟨w6.heap.size, 8, none⟩) BXT_10.out.lt).trans (BXT_10.out.at_ 8 rfl); have k9 := (hSw.cell (p := ⟨w6.heap.size, 9, none⟩) BXT_10.out.lt).trans (BXT_10.out.at_ 9 rfl); have k10 := (hSw.cell (p := ⟨w6.heap.size, 10, none⟩) BXT_10.out.lt).trans (BXT_10.out.at_ 10 rfl); have k11 := (hSw.cell (p := ⟨w6.heap.size, 11, none⟩) BXT_10.out.lt).trans (BXT_10.out.at_ 11 rfl); have k12 := (hSw.cell (p := ⟨w6.heap.size, 12, none⟩) BXT_10.out.lt).trans (BXT_10.out.at_ 12 rfl); have k13 := (hSw.cell (p := ⟨w6.heap.size, 13, none⟩) BXT_10.out.lt).trans (BXT_10.out.at_ 13 rfl); clear hSw; go_simp; try with_reducible rfl)
  refine tk 1 hHeld ?_ (hy := fun w hSw => by (try dsimp only at hSw); have k0 := (hSw.cell (p := ⟨W.heap.size, 0, none⟩) PT_10.out.lt).trans (PT_10.out.at_ 0 rfl); have k1 := (hSw.cell (p := ⟨W.heap.size, 1, none⟩) PT_10.out.lt).trans (PT_10.out.at_ 1 rfl); have k2 := (hSw.cell (p := ⟨W.heap.size, 2, none⟩) PT_10.out.lt).trans (PT_10.out.at_ 2 rfl); have k3 := (hSw.cell (p := ⟨W.heap.size, 3, none⟩) PT_10.out.lt).trans (PT_10.out.at_ 3 rfl); have k4 := (hSw.cell (p := ⟨W.heap.size, 4, none⟩) PT_10.out.lt).trans (PT_10.out.at_ 4 rfl); have k5 := (hSw.cell (p := ⟨W.heap.size, 5, none⟩) PT_10.out.lt).trans (PT_10.out.at_ 5 rfl); have k6 := (hSw.cell (p := ⟨W.heap.size, 6, none⟩) PT_10.out.lt).trans (PT_10.out.at_ 6 rfl); have k7 := (hSw.cell (p := ⟨W.heap.size, 7, none⟩) PT_10.out.lt).trans (PT_10.out.at_ 7 rfl); have k8 := (hSw.cell (p := ⟨W.heap.size, 8, none⟩) PT_10.out.lt).trans (PT_10.out.at_ 8 rfl); have k9 := (hSw.cell (p := ⟨W.heap.size, 9, none⟩) PT_10.out.lt).trans (PT_10.out.at_ 9 rfl); have k10 := (hSw.cell (p := ⟨W.heap.size, 10, none⟩) PT_10.out.lt).trans (PT_10.out.at_ 10 rfl); have k11 := (hSw.cell (p := ⟨W.heap.size, 11, none⟩) PT_10.out.lt).trans (PT_10.out.at_ 11 rfl); have k12 := (hSw.cell (p := ⟨W.heap.size, 12, none⟩) PT_10.out.lt).trans (PT_10.out.at_ 12 rfl); have k13 := (hSw.cell (p := ⟨W.heap.size, 13, none⟩) PT_10.out.lt).trans (PT_10.out.at_ 13 rfl); clear hSw; go_simp; try with_reducible rfl)
  refine rd1 2 (fun K hK => ?_)
  go_simp
  go_at_call 36
  refine (gto_Task HSZT.out (gmv R_Task_ok HT_10.out hHeld)).mono ?_
  intro e w1001 h
  obtain ⟨us, rfl, hu, hb⟩ := newV_elim h
  obtain ⟨aT01001, cT01001, rfl, hu⟩ := owc_Task hu
  have NZ := Lib.hid (owG_new hu)
  clear h hu
  refine hK.out _ _ (hHeld.trans (hb.mono hHeld.size)) (fun hHeld => ?_)
  clear hK K hb
  refine rd1 3 (fun K hK => ?_)
  go_simp
  go_at_call 28
  refine (geq_Task (gmv R_Task_ok (XT_10.out.rd R_Task_ok) hHeld) (NZ.out.rd R_Task_ok)).mono ?_
  intro e w1002 h
  obtain ⟨rfl, hb⟩ := isB_elim h
  clear h
  refine hK.out _ _ (hHeld.trans (hb.mono hHeld.size)) (fun hHeld => ?_)
  clear hK K hb
  refine tk 4 hHeld ?_
  refine rd0 ?_
  have HF := Lib.hid hHeld
  clear hHeld
  have hF := HF.out
  have PT_11 := Lib.hid (PT_10.out.call hF)
  have BXT_11 := Lib.hid (BXT_10.out.call hF)
  have HL_11 := Lib.hid (gmv (Sl_ok R_Task_ok) HL_10.out hF)
  have HT_11 := Lib.hid (gmv R_Task_ok HT_10.out hF)
  have XL_11 := Lib.hid (XL_10.out.mv (Sl_ok R_Task_ok) hF)
  have XT_11 := Lib.hid (XT_10.out.mv R_Task_ok hF)
  have HB11 := Lib.hid (HB10.out.trans ((hF).mono HB10.out.size))
  have HZ12 := Lib.hid ((hF).size)
  clear PT_10 BXT_10 HB10
  clear HF hF NZ
  go_wp2
  go_ret
  exact ⟨rfl, HB11.out⟩
end Go.Proofs.Ytmmnkdilnlhbfaa.RepC
