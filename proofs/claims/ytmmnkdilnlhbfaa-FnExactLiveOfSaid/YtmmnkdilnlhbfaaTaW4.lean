/- The law on LiveOf, out of the contracts. -/
import Derived.Test.YtmmnkdilnlhbfaaTk
import Derived.Test.YtmmnkdilnlhbfaaTk
import Derived.Test.YtmmnkdilnlhbfaaTaGy
namespace Go.Proofs.Ytmmnkdilnlhbfaa.RepC
open Go.RowKit RowC ValC SpanC KeptC
set_option linter.unusedVariables false
set_option linter.unusedSimpArgs false

set_option maxRecDepth 100000 in
set_option maxHeartbeats 4000000 in
theorem law_liveof {L : List (D_Task)} {La : Option Addr} {Lc : Nat} {Xx0 : Int} {Xx1 : Int}  {W : World} (hL : (Sl R_Task).rd W W.heap.size L [.slice La L.length Lc]) :
    Calls Try.prog 7 #[.slice La L.length Lc, .agg #[.int .i64 Xx0, .int .i64 Xx1]] W fun e w' => e = .returned (.bool true) ∧ Below W.heap.size W w' := by
  have HL := Lib.hid hL
  have HL0 := Lib.hid hL
  clear hL
  have hbA : Below (W).heap.size (W) (W.alloc (.cells #[.int .i64 Xx0, .int .i64 Xx1] 28)) := (Below.refl _ _).alloc (Nat.le_refl _) _
  have HL_1 := Lib.hid (gmv (Sl_ok R_Task_ok) HL.out hbA)
  have HB1 := Lib.hid (show Below W.heap.size W (W.alloc (.cells #[.int .i64 Xx0, .int .i64 Xx1] 28)) from hbA)
  have HZ1 := Lib.hid ((hbA).size)
  clear HL
  have PX_1 := Blk.new (W) 28 #[.int .i64 Xx0, .int .i64 Xx1]
  have PXh_1 := Lib.hid PX_1
  clear PX_1 hbA
  by_cases hsz : (Sl R_Task).sz L ≤ 1048576
  rotate_left
  · skip
    go_enter Try.func7, Try.ntmps7
    have qPX_0 := PXh_1.out.at_ 0 rfl
    have qPX_1 := PXh_1.out.at_ 1 rfl
    go_wp2_with fail
    refine (gsz_TaskS (by omega) (by omega) HL_1.out).mono ?_
    intro e w2 h
    obtain ⟨rfl, hb⟩ := szC_elim h
    rw [szR_no (by omega)]
    clear qPX_0 qPX_1
    have PX_2 := Lib.hid (PXh_1.out.call hb)
    have HL_2 := Lib.hid (gmv (Sl_ok R_Task_ok) HL_1.out hb)
    have HB2 := Lib.hid (HB1.out.trans ((hb).mono HB1.out.size))
    have HZ2 := Lib.hid ((hb).size)
    clear PXh_1 HL_1 HB1
    clear h hb
    go_wp2
    go_ret
    exact ⟨rfl, HB2.out⟩
  have HSZL := Lib.hid hsz
  have HSAL := Lib.hid (cvs_TaskS hsz)
  obtain ⟨m, hm⟩ : ∃ m : Nat, (Sl R_Task).sz L = m := ⟨_, rfl⟩
  have HM := Lib.hid hm
  rw [hm] at hsz
  clear hm
  have hlt1 : decide ((1048576 : Int) - (m : Int) < 0) = false := decide_eq_false (by omega)
  obtain ⟨dR, hD⟩ : ∃ d, liveOf L (Xx0, Xx1) = d := ⟨_, rfl⟩
  have HDD := Lib.hid hD
  clear hD
  go_enter Try.func7, Try.ntmps7
  have qPX_0 := PXh_1.out.at_ 0 rfl
  have qPX_1 := PXh_1.out.at_ 1 rfl
  go_wp2_with fail
  refine (gsz_TaskS (by omega) (by omega) HL_1.out).mono ?_
  intro e w2 h
  obtain ⟨rfl, hb⟩ := szC_elim h
  rw [HM.out, szR_yes (by omega)]
  clear qPX_0 qPX_1
  have PX_2 := Lib.hid (PXh_1.out.call hb)
  have HL_2 := Lib.hid (gmv (Sl_ok R_Task_ok) HL_1.out hb)
  have HB2 := Lib.hid (HB1.out.trans ((hb).mono HB1.out.size))
  have HZ2 := Lib.hid ((hb).size)
  clear PXh_1 HL_1 HB1
  clear hsz
  clear h hb
  have HPL := Lib.hid (PX_2.out.lt)
  have hbb : (dR != dR) = false := by simp
  go_wp2_with fail
  refine wp_region_held_drew (S := (fun V => Below (w2).heap.size (w2) V)) (by kernel_rfl) ((Below.refl _ _).drew) (fun hHeld => ?_)
  refine tk 0 hHeld ?_
  refine tk 2 hHeld ?_ (hy := fun w hSw => by (try dsimp only at hSw); have k0 := (hSw.cell (p := ⟨W.heap.size, 0, none⟩) PX_2.out.lt).trans (PX_2.out.at_ 0 rfl); have k1 := (hSw.cell (p := ⟨W.heap.size, 1, none⟩) PX_2.out.lt).trans (PX_2.out.at_ 1 rfl); clear hSw; go_simp; try with_reducible rfl)
  refine rd1 1 (fun K hK => ?_)
  go_simp
  go_at_call 23
  refine (gto_TaskS HSZL.out (gmv (Sl_ok R_Task_ok) HL_2.out hHeld)).mono ?_
  intro e w201 h
  obtain ⟨aL201, cL201, rfl, hu, hb⟩ := newS_elim2 h
  have NL := Lib.hid (owG_new hu)
  clear h hu
  refine hK.out _ _ (hHeld.trans (hb.mono hHeld.size)) (fun hHeld => ?_)
  clear hK K hb
  refine rd1 3 (fun K hK => ?_)
  go_simp
  go_at_call 12
  refine (to_Label (by simp only [R_Label, Pr, I, atom] <;> omega)).mono ?_
  intro e w202 h
  obtain ⟨us, rfl, hu, hb⟩ := newV_elim h
  obtain rfl := ow0_Label hu
  have NL := Lib.hid (NL.out.mv (Sl_ok R_Task_ok) hb)
  clear h hu
  refine hK.out _ _ (hHeld.trans (hb.mono hHeld.size)) (fun hHeld => ?_)
  clear hK K hb
  refine rd1 4 (fun K hK => ?_)
  go_simp
  go_at_call 32
  refine (glive_spec (NL.out.rd (Sl_ok R_Task_ok))).mono ?_
  intro e w203 h
  rw [HDD.out] at h
  obtain ⟨rfl, hb⟩ := isI_elim h
  clear h
  refine hK.out _ _ (hHeld.trans (hb.mono hHeld.size)) (fun hHeld => ?_)
  clear hK K hb
  refine tk 5 hHeld ?_
  refine rd0 ?_
  have HF := Lib.hid hHeld
  clear hHeld
  have hF := HF.out
  have PX_3 := Lib.hid (PX_2.out.call hF)
  have HL_3 := Lib.hid (gmv (Sl_ok R_Task_ok) HL_2.out hF)
  have HB3 := Lib.hid (HB2.out.trans ((hF).mono HB2.out.size))
  have HZ3 := Lib.hid ((hF).size)
  clear PX_2 HL_2 HB2
  clear HF hF
  clear NL
  go_wp2_with fail
  refine (gto_TaskS HSZL.out HL_3.out).mono ?_
  intro e w4 h
  obtain ⟨aL4, cL4, rfl, hu, hb⟩ := newS_elim2 h
  have PX_4 := Lib.hid (PX_3.out.call hb)
  have HL_4 := Lib.hid (gmv (Sl_ok R_Task_ok) HL_3.out hb)
  have HB4 := Lib.hid (HB3.out.trans ((hb).mono HB3.out.size))
  have HZ4 := Lib.hid ((hb).size)
  clear PX_3 HL_3 HB3
  have X_4 := Lib.hid (owG_new hu)
  have HSX := Lib.hid (fun k (hk : Rg w203.heap.size w4.heap.size k) => hk)
  clear hu
  clear h hb
  have qPX_0 := PX_4.out.at_ 0 rfl
  have qPX_1 := PX_4.out.at_ 1 rfl
  go_wp2_with fail
  refine (to_Label (by simp only [R_Label, Pr, I, atom] <;> omega)).mono ?_
  intro e w5 h
  obtain ⟨us, rfl, hu, hb⟩ := newV_elim h
  obtain rfl := ow0_Label hu
  clear qPX_0 qPX_1
  have PX_5 := Lib.hid (PX_4.out.call hb)
  have HL_5 := Lib.hid (gmv (Sl_ok R_Task_ok) HL_4.out hb)
  have X_5 := Lib.hid (X_4.out.mv (Sl_ok R_Task_ok) hb)
  have HB5 := Lib.hid (HB4.out.trans ((hb).mono HB4.out.size))
  have HZ5 := Lib.hid ((hb).size)
  clear PX_4 HL_4 X_4 HB4
  clear h hb
  go_wp2_with fail
  refine (glive_impl (X_5.out.rd (Sl_ok R_Task_ok))).mono ?_
  intro e w6 h
  rw [HDD.out] at h
  obtain ⟨rfl, hb⟩ := isI_elim h
  have PX_6 := Lib.hid (PX_5.out.call hb)
  have HL_6 := Lib.hid (gmv (Sl_ok R_Task_ok) HL_5.out hb)
  have X_6 := Lib.hid (X_5.out.mv (Sl_ok R_Task_ok) hb)
  have HB6 := Lib.hid (HB5.out.trans ((hb).mono HB5.out.size))
  have HZ6 := Lib.hid ((hb).size)
  clear PX_5 HL_5 X_5 HB5
  clear h hb
  go_wp2_with fail
  refine (gto_TaskS HSZL.out HL_6.out).mono ?_
  intro e w7 h
  obtain ⟨aL7, cL7, rfl, hu, hb⟩ := newS_elim2 h
  have PX_7 := Lib.hid (PX_6.out.call hb)
  have HL_7 := Lib.hid (gmv (Sl_ok R_Task_ok) HL_6.out hb)
  have X_7 := Lib.hid (X_6.out.mv (Sl_ok R_Task_ok) hb)
  have HB7 := Lib.hid (HB6.out.trans ((hb).mono HB6.out.size))
  have HZ7 := Lib.hid ((hb).size)
  clear PX_6 HL_6 X_6 HB6
  have NL_7 := Lib.hid (owG_new hu)
  clear hu
  clear h hb
  go_wp2_with fail
  refine (geq_TaskS (X_7.out.rd (Sl_ok R_Task_ok)) (NL_7.out.rd (Sl_ok R_Task_ok))).mono ?_
  intro e w8 h
  obtain ⟨rfl, hb⟩ := isB_elim h
  have PX_8 := Lib.hid (PX_7.out.call hb)
  have HL_8 := Lib.hid (gmv (Sl_ok R_Task_ok) HL_7.out hb)
  have X_8 := Lib.hid (X_7.out.mv (Sl_ok R_Task_ok) hb)
  have NL_8 := Lib.hid (NL_7.out.mv (Sl_ok R_Task_ok) hb)
  have HB8 := Lib.hid (HB7.out.trans ((hb).mono HB7.out.size))
  have HZ8 := Lib.hid ((hb).size)
  clear PX_7 HL_7 X_7 NL_7 HB7
  clear h hb
  clear NL_8
  go_wp2
  go_ret
  exact ⟨rfl, HB8.out⟩
end Go.Proofs.Ytmmnkdilnlhbfaa.RepC
