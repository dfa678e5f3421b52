/- The law on TasksRight, out of the contracts. -/
import Derived.Test.YtkghodbbgehcoaaTaGw
namespace Go.Proofs.Ytkghodbbgehcoaa.RepC
open Go.RowKit RowC ValC SpanC KeptC
set_option linter.unusedVariables false
set_option linter.unusedSimpArgs false

set_option maxRecDepth 100000 in
set_option maxHeartbeats 4000000 in
theorem law_tasksright {L : List (D_Task)} {La : Option Addr} {Lc : Nat} {W : World} (hL : (Sl R_Task).rd W W.heap.size L [.slice La L.length Lc]) :
    Calls Try.prog 5 #[.slice La L.length Lc] W fun e w' => e = .returned (.bool true) ∧ Below W.heap.size W w' := by
  have HL := Lib.hid hL
  have HL0 := Lib.hid hL
  clear hL
  by_cases hsz : (Sl R_Task).sz L ≤ 1048576
  rotate_left
  · skip
    go_enter Try.func5, Try.ntmps5
    go_wp2_with fail
    refine (gsz_TaskS (by omega) (by omega) HL.out).mono ?_
    intro e w1 h
    obtain ⟨rfl, hb⟩ := szC_elim h
    rw [szR_no (by omega)]
    have HL_1 := Lib.hid (gmv (Sl_ok R_Task_ok) HL.out hb)
    have HB1 := Lib.hid (show Below W.heap.size W (w1) from hb)
    have HZ1 := Lib.hid ((hb).size)
    clear HL
    clear h hb
    go_wp2
    go_ret
    exact ⟨rfl, HB1.out⟩
  have HSZL := Lib.hid hsz
  have HSAL := Lib.hid (cvs_TaskS hsz)
  obtain ⟨m, hm⟩ : ∃ m : Nat, (Sl R_Task).sz L = m := ⟨_, rfl⟩
  have HM := Lib.hid hm
  rw [hm] at hsz
  clear hm
  have hlt1 : decide ((1048576 : Int) - (m : Int) < 0) = false := decide_eq_false (by omega)
  obtain ⟨dR, hD⟩ : ∃ d, tasksB L = d := ⟨_, rfl⟩
  have HDD := Lib.hid hD
  clear hD
  go_enter Try.func5, Try.ntmps5
  go_wp2_with fail
  refine (gsz_TaskS (by omega) (by omega) HL.out).mono ?_
  intro e w1 h
  obtain ⟨rfl, hb⟩ := szC_elim h
  rw [HM.out, szR_yes (by omega)]
  have HL_1 := Lib.hid (gmv (Sl_ok R_Task_ok) HL.out hb)
  have HB1 := Lib.hid (show Below W.heap.size W (w1) from hb)
  have HZ1 := Lib.hid ((hb).size)
  clear HL
  clear hsz
  clear h hb
  have hbb : (dR != dR) = false := by cases dR <;> rfl
  go_wp2_with fail
  refine (gto_TaskS HSZL.out HL_1.out).mono ?_
  intro e w2 h
  obtain ⟨aL2, cL2, rfl, hu, hb⟩ := newS_elim2 h
  have HL_2 := Lib.hid (gmv (Sl_ok R_Task_ok) HL_1.out hb)
  have HB2 := Lib.hid (HB1.out.trans ((hb).mono HB1.out.size))
  have HZ2 := Lib.hid ((hb).size)
  clear HL_1 HB1
  have NL_2 := Lib.hid (owG_new hu)
  clear hu
  clear h hb
  go_wp2_with fail
  refine (gtasks_spec (NL_2.out.rd (Sl_ok R_Task_ok))).mono ?_
  intro e w3 h
  rw [HDD.out] at h
  obtain ⟨rfl, hb⟩ := isB_elim h
  have HL_3 := Lib.hid (gmv (Sl_ok R_Task_ok) HL_2.out hb)
  have NL_3 := Lib.hid (NL_2.out.mv (Sl_ok R_Task_ok) hb)
  have HB3 := Lib.hid (HB2.out.trans ((hb).mono HB2.out.size))
  have HZ3 := Lib.hid ((hb).size)
  clear HL_2 NL_2 HB2
  clear h hb
  clear NL_3
  go_wp2_with fail
  refine (gto_TaskS HSZL.out HL_3.out).mono ?_
  intro e w4 h
  obtain ⟨aL4, cL4, rfl, hu, hb⟩ := newS_elim2 h
  have HL_4 := Lib.hid (gmv (Sl_ok R_Task_ok) HL_3.out hb)
  have HB4 := Lib.hid (HB3.out.trans ((hb).mono HB3.out.size))
  have HZ4 := Lib.hid ((hb).size)
  clear HL_3 HB3
  have X_4 := Lib.hid (owG_new hu)
  have HSX := Lib.hid (fun k (hk : Rg w3.heap.size w4.heap.size k) => hk)
  clear hu
  clear h hb
  go_wp2_with fail
  refine (gtasks_impl (X_4.out.rd (Sl_ok R_Task_ok))).mono ?_
  intro e w5 h
  rw [HDD.out] at h
  obtain ⟨rfl, hb⟩ := isB_elim h
  have HL_5 := Lib.hid (gmv (Sl_ok R_Task_ok) HL_4.out hb)
  have X_5 := Lib.hid (X_4.out.mv (Sl_ok R_Task_ok) hb)
  have HB5 := Lib.hid (HB4.out.trans ((hb).mono HB4.out.size))
  have HZ5 := Lib.hid ((hb).size)
  clear HL_4 X_4 HB4
  clear h hb
  go_wp2_with fail
  refine (gto_TaskS HSZL.out HL_5.out).mono ?_
  intro e w6 h
  obtain ⟨aL6, cL6, rfl, hu, hb⟩ := newS_elim2 h
  have HL_6 := Lib.hid (gmv (Sl_ok R_Task_ok) HL_5.out hb)
  have X_6 := Lib.hid (X_5.out.mv (Sl_ok R_Task_ok) hb)
  have HB6 := Lib.hid (HB5.out.trans ((hb).mono HB5.out.size))
  have HZ6 := Lib.hid ((hb).size)
  clear HL_5 X_5 HB5
  have NL_6 := Lib.hid (owG_new hu)
  clear hu
  clear h hb
  go_wp2_with fail
  refine (geq_TaskS (X_6.out.rd (Sl_ok R_Task_ok)) (NL_6.out.rd (Sl_ok R_Task_ok))).mono ?_
  intro e w7 h
  obtain ⟨rfl, hb⟩ := isB_elim h
  have HL_7 := Lib.hid (gmv (Sl_ok R_Task_ok) HL_6.out hb)
  have X_7 := Lib.hid (X_6.out.mv (Sl_ok R_Task_ok) hb)
  have NL_7 := Lib.hid (NL_6.out.mv (Sl_ok R_Task_ok) hb)
  have HB7 := Lib.hid (HB6.out.trans ((hb).mono HB6.out.size))
  have HZ7 := Lib.hid ((hb).size)
  clear HL_6 X_6 NL_6 HB6
  clear h hb
  clear NL_7
  go_wp2
  go_ret
  exact ⟨rfl, HB7.out⟩
end Go.Proofs.Ytkghodbbgehcoaa.RepC
