/- The law on UsesHalf, out of the contracts. -/
import Derived.Test.YtjhcphmehlihcaaUsGh
namespace Go.Proofs.Ytjhcphmehlihcaa.RepC
open Go.RowKit RowC ValC SpanC KeptC
set_option linter.unusedVariables false
set_option linter.unusedSimpArgs false

set_option maxRecDepth 100000 in
set_option maxHeartbeats 4000000 in
theorem law_useshalf {L : List (D_Use)} {La : Option Addr} {Lc : Nat} {W : World} (hL : (Sl R_Use).rd W W.heap.size L [.slice La L.length Lc]) :
    Calls Try.prog 8 #[.slice La L.length Lc] W fun e w' => e = .returned (.bool true) ∧ Below W.heap.size W w' := by
  have HL := Lib.hid hL
  have HL0 := Lib.hid hL
  clear hL
  by_cases hsz : (Sl R_Use).sz L ≤ 1048576
  rotate_left
  · skip
    go_enter Try.func8, Try.ntmps8
    go_wp2_with fail
    refine (gsz_UseS (by omega) (by omega) HL.out).mono ?_
    intro e w1 h
    obtain ⟨rfl, hb⟩ := szC_elim h
    rw [szR_no (by omega)]
    have HL_1 := Lib.hid (gmv (Sl_ok R_Use_ok) HL.out hb)
    have HB1 := Lib.hid (show Below W.heap.size W (w1) from hb)
    have HZ1 := Lib.hid ((hb).size)
    clear HL
    clear h hb
    go_wp2
    go_ret
    exact ⟨rfl, HB1.out⟩
  have HSZL := Lib.hid hsz
  have HSAL := Lib.hid (cvs_UseS hsz)
  obtain ⟨m, hm⟩ : ∃ m : Nat, (Sl R_Use).sz L = m := ⟨_, rfl⟩
  have HM := Lib.hid hm
  rw [hm] at hsz
  clear hm
  have hlt1 : decide ((1048576 : Int) - (m : Int) < 0) = false := decide_eq_false (by omega)
  obtain ⟨dR, hD⟩ : ∃ d, halfV L = d := ⟨_, rfl⟩
  have HDD := Lib.hid hD
  have HSM := Lib.hid ((fun _ => half_small) HSZL.out hD)
  clear hD
  go_enter Try.func8, Try.ntmps8
  go_wp2_with fail
  refine (gsz_UseS (by omega) (by omega) HL.out).mono ?_
  intro e w1 h
  obtain ⟨rfl, hb⟩ := szC_elim h
  rw [HM.out, szR_yes (by omega)]
  have HL_1 := Lib.hid (gmv (Sl_ok R_Use_ok) HL.out hb)
  have HB1 := Lib.hid (show Below W.heap.size W (w1) from hb)
  have HZ1 := Lib.hid ((hb).size)
  clear HL
  clear hsz
  clear h hb
  go_wp2_with fail
  refine (gto_UseS HSZL.out HL_1.out).mono ?_
  intro e w2 h
  obtain ⟨aL2, cL2, rfl, hu, hb⟩ := newS_elim2 h
  have HL_2 := Lib.hid (gmv (Sl_ok R_Use_ok) HL_1.out hb)
  have HB2 := Lib.hid (HB1.out.trans ((hb).mono HB1.out.size))
  have HZ2 := Lib.hid ((hb).size)
  clear HL_1 HB1
  have NL_2 := Lib.hid (owG_new hu)
  clear hu
  clear h hb
  go_wp2_with fail
  refine (guh_spec (NL_2.out.rd (Sl_ok R_Use_ok))).mono ?_
  intro e w3 h
  rw [HDD.out] at h
  obtain ⟨raw, rcw, rfl, hu, hb⟩ := newS_elim2 h
  have HL_3 := Lib.hid (gmv (Sl_ok R_Use_ok) HL_2.out hb)
  have NL_3 := Lib.hid (NL_2.out.mv (Sl_ok R_Use_ok) hb)
  have HB3 := Lib.hid (HB2.out.trans ((hb).mono HB2.out.size))
  have HZ3 := Lib.hid ((hb).size)
  clear HL_2 NL_2 HB2
  have Yw_3 := Lib.hid (owG_new hu)
  have HSw := Lib.hid (fun k (hk : Rg w2.heap.size w3.heap.size k) => hk)
  clear hu
  clear h hb
  clear NL_3
  go_wp2_with fail
  refine (gto_UseS HSZL.out HL_3.out).mono ?_
  intro e w4 h
  obtain ⟨aL4, cL4, rfl, hu, hb⟩ := newS_elim2 h
  have HL_4 := Lib.hid (gmv (Sl_ok R_Use_ok) HL_3.out hb)
  have Yw_4 := Lib.hid (Yw_3.out.mv (Sl_ok R_Use_ok) hb)
  have HB4 := Lib.hid (HB3.out.trans ((hb).mono HB3.out.size))
  have HZ4 := Lib.hid ((hb).size)
  clear HL_3 Yw_3 HB3
  have X_4 := Lib.hid (owG_new hu)
  have HSX := Lib.hid (fun k (hk : Rg w3.heap.size w4.heap.size k) => hk)
  clear hu
  clear h hb
  go_wp2_with fail
  refine (guh_impl (X_4.out.rd (Sl_ok R_Use_ok))).mono ?_
  intro e w5 h
  rw [HDD.out] at h
  obtain ⟨rag, rcg, rfl, hu, hb⟩ := newS_elim2 h
  have HL_5 := Lib.hid (gmv (Sl_ok R_Use_ok) HL_4.out hb)
  have Yw_5 := Lib.hid (Yw_4.out.mv (Sl_ok R_Use_ok) hb)
  have X_5 := Lib.hid (X_4.out.mv (Sl_ok R_Use_ok) hb)
  have HB5 := Lib.hid (HB4.out.trans ((hb).mono HB4.out.size))
  have HZ5 := Lib.hid ((hb).size)
  clear HL_4 Yw_4 X_4 HB4
  have Yg_5 := Lib.hid (owG_new hu)
  have HSg := Lib.hid (fun k (hk : Rg w4.heap.size w5.heap.size k) => hk)
  clear hu
  clear h hb
  go_wp2_with fail
  refine (geq_UseS (Yg_5.out.rd (Sl_ok R_Use_ok)) (Yw_5.out.rd (Sl_ok R_Use_ok))).mono ?_
  intro e w6 h
  obtain ⟨rfl, hb⟩ := isB_elim h
  have HL_6 := Lib.hid (gmv (Sl_ok R_Use_ok) HL_5.out hb)
  have Yw_6 := Lib.hid (Yw_5.out.mv (Sl_ok R_Use_ok) hb)
  have X_6 := Lib.hid (X_5.out.mv (Sl_ok R_Use_ok) hb)
  have Yg_6 := Lib.hid (Yg_5.out.mv (Sl_ok R_Use_ok) hb)
  have HB6 := Lib.hid (HB5.out.trans ((hb).mono HB5.out.size))
  have HZ6 := Lib.hid ((hb).size)
  clear HL_5 Yw_5 X_5 Yg_5 HB5
  clear h hb
  go_wp2_with fail
  refine (gto_UseS HSZL.out HL_6.out).mono ?_
  intro e w7 h
  obtain ⟨aL7, cL7, rfl, hu, hb⟩ := newS_elim2 h
  have HL_7 := Lib.hid (gmv (Sl_ok R_Use_ok) HL_6.out hb)
  have Yw_7 := Lib.hid (Yw_6.out.mv (Sl_ok R_Use_ok) hb)
  have X_7 := Lib.hid (X_6.out.mv (Sl_ok R_Use_ok) hb)
  have Yg_7 := Lib.hid (Yg_6.out.mv (Sl_ok R_Use_ok) hb)
  have HB7 := Lib.hid (HB6.out.trans ((hb).mono HB6.out.size))
  have HZ7 := Lib.hid ((hb).size)
  clear HL_6 Yw_6 X_6 Yg_6 HB6
  have NL_7 := Lib.hid (owG_new hu)
  clear hu
  clear h hb
  go_wp2_with fail
  refine (geq_UseS (X_7.out.rd (Sl_ok R_Use_ok)) (NL_7.out.rd (Sl_ok R_Use_ok))).mono ?_
  intro e w8 h
  obtain ⟨rfl, hb⟩ := isB_elim h
  have HL_8 := Lib.hid (gmv (Sl_ok R_Use_ok) HL_7.out hb)
  have Yw_8 := Lib.hid (Yw_7.out.mv (Sl_ok R_Use_ok) hb)
  have X_8 := Lib.hid (X_7.out.mv (Sl_ok R_Use_ok) hb)
  have Yg_8 := Lib.hid (Yg_7.out.mv (Sl_ok R_Use_ok) hb)
  have NL_8 := Lib.hid (NL_7.out.mv (Sl_ok R_Use_ok) hb)
  have HB8 := Lib.hid (HB7.out.trans ((hb).mono HB7.out.size))
  have HZ8 := Lib.hid ((hb).size)
  clear HL_7 Yw_7 X_7 Yg_7 NL_7 HB7
  clear h hb
  clear NL_8
  go_wp2_with fail
  refine (gmark_UseS (by omega) (by have h1 := HSAL.out; omega) X_8.out.2 X_8.out.1).mono ?_
  intro e wm h
  obtain ⟨dM, y1, rfl, hmv, hzz, ho, hoff⟩ := markG_elim h
  have HB9 := Lib.hid (HB8.out.trans (hoff.below HB8.out.size (fun k hk => by have zHZ1 := HZ1.out; have zHZ2 := HZ2.out; have zHZ3 := HZ3.out; have zHZ4 := HZ4.out; have zHZ5 := HZ5.out; have zHZ6 := HZ6.out; have zHZ7 := HZ7.out; have zHZ8 := HZ8.out; have rX := HSX.out _ hk; try unfold Rg at rX; omega)))
  have HL_9 := Lib.hid (gmv (Sl_ok R_Use_ok) HL0.out HB9.out)
  have Yw_9 := Lib.hid (Yw_8.out.off (Sl_ok R_Use_ok) hoff (fun k hk hk2 => by have zHZ1 := HZ1.out; have zHZ2 := HZ2.out; have zHZ3 := HZ3.out; have zHZ4 := HZ4.out; have zHZ5 := HZ5.out; have zHZ6 := HZ6.out; have zHZ7 := HZ7.out; have zHZ8 := HZ8.out; have rX := HSX.out k hk2; try unfold Rg at rX; have rw := HSw.out k hk; try unfold Rg at rw; omega))
  have Yg_9 := Lib.hid (Yg_8.out.off (Sl_ok R_Use_ok) hoff (fun k hk hk2 => by have zHZ1 := HZ1.out; have zHZ2 := HZ2.out; have zHZ3 := HZ3.out; have zHZ4 := HZ4.out; have zHZ5 := HZ5.out; have zHZ6 := HZ6.out; have zHZ7 := HZ7.out; have zHZ8 := HZ8.out; have rX := HSX.out k hk2; try unfold Rg at rX; have rg := HSg.out k hk; try unfold Rg at rg; omega))
  have hkn : decide (y1 < 0) = false := decide_eq_false (by omega)
  have HZ9 := Lib.hid (hoff.size)
  clear h hmv hzz ho hoff
  go_wp2_with fail
  refine (geq_UseS (Yg_9.out.rd (Sl_ok R_Use_ok)) (Yw_9.out.rd (Sl_ok R_Use_ok))).mono ?_
  intro e w10 h
  obtain ⟨rfl, hb⟩ := isB_elim h
  have HL_10 := Lib.hid (gmv (Sl_ok R_Use_ok) HL_9.out hb)
  have Yw_10 := Lib.hid (Yw_9.out.mv (Sl_ok R_Use_ok) hb)
  have Yg_10 := Lib.hid (Yg_9.out.mv (Sl_ok R_Use_ok) hb)
  have HB10 := Lib.hid (HB9.out.trans ((hb).mono HB9.out.size))
  have HZ10 := Lib.hid ((hb).size)
  clear HL_9 Yw_9 Yg_9 HB9
  clear h hb
  clear hkn
  go_wp2_with fail
  refine (gmark_UseS (by omega) (by have h1 := HSM.out; omega) Yg_10.out.2 Yg_10.out.1).mono ?_
  intro e wn h
  obtain ⟨dN, zN, rfl, hmv, hzz, ho, hoff⟩ := markG_elim h
  have HB11 := Lib.hid (HB10.out.trans (hoff.below HB10.out.size (fun k hk => by have zHZ1 := HZ1.out; have zHZ2 := HZ2.out; have zHZ3 := HZ3.out; have zHZ4 := HZ4.out; have zHZ5 := HZ5.out; have zHZ6 := HZ6.out; have zHZ7 := HZ7.out; have zHZ8 := HZ8.out; have zHZ9 := HZ9.out; have zHZ10 := HZ10.out; have rg := HSg.out _ hk; try unfold Rg at rg; omega)))
  have HL_11 := Lib.hid (gmv (Sl_ok R_Use_ok) HL0.out HB11.out)
  have Yw_11 := Lib.hid (Yw_10.out.off (Sl_ok R_Use_ok) hoff (fun k hk hk2 => by have zHZ1 := HZ1.out; have zHZ2 := HZ2.out; have zHZ3 := HZ3.out; have zHZ4 := HZ4.out; have zHZ5 := HZ5.out; have zHZ6 := HZ6.out; have zHZ7 := HZ7.out; have zHZ8 := HZ8.out; have zHZ9 := HZ9.out; have zHZ10 := HZ10.out; have rg := HSg.out k hk2; try unfold Rg at rg; have rw := HSw.out k hk; try unfold Rg at rw; omega))
  have Yg_11 := Lib.hid (show OwG (Sl R_Use) wn _ dN _ from ⟨ho, fun k hk => Nat.lt_of_lt_of_le (Yg_10.out.2 k hk) hoff.size⟩)
  have HMV := Lib.hid hmv
  have hzn : decide (zN < 0) = false := decide_eq_false (by omega)
  have hze : (zN != zN) = false := by simp
  have hzb : zN ≤ 4611686018427387904 := by have := HSM.out; omega
  have HZ11 := Lib.hid (hoff.size)
  clear h hmv hzz ho hoff
  go_wp2_with fail
  refine (gheld_UseS (by omega) hzb HMV.out (Yg_11.out.rd (Sl_ok R_Use_ok))).mono ?_
  intro e w12 h
  obtain ⟨rfl, hb⟩ := heldC_elim h
  have HL_12 := Lib.hid (gmv (Sl_ok R_Use_ok) HL_11.out hb)
  have Yw_12 := Lib.hid (Yw_11.out.mv (Sl_ok R_Use_ok) hb)
  have Yg_12 := Lib.hid (Yg_11.out.mv (Sl_ok R_Use_ok) hb)
  have HB12 := Lib.hid (HB11.out.trans ((hb).mono HB11.out.size))
  have HZ12 := Lib.hid ((hb).size)
  clear HL_11 Yw_11 Yg_11 HB11
  clear h hb
  go_wp2_with fail
  refine (gto_UseS HSZL.out HL_12.out).mono ?_
  intro e w13 h
  obtain ⟨aL13, cL13, rfl, hu, hb⟩ := newS_elim2 h
  have HL_13 := Lib.hid (gmv (Sl_ok R_Use_ok) HL_12.out hb)
  have Yw_13 := Lib.hid (Yw_12.out.mv (Sl_ok R_Use_ok) hb)
  have Yg_13 := Lib.hid (Yg_12.out.mv (Sl_ok R_Use_ok) hb)
  have HB13 := Lib.hid (HB12.out.trans ((hb).mono HB12.out.size))
  have HZ13 := Lib.hid ((hb).size)
  clear HL_12 Yw_12 Yg_12 HB12
  have NL_13 := Lib.hid (owG_new hu)
  clear hu
  clear h hb
  go_wp2_with fail
  refine (guh_impl (NL_13.out.rd (Sl_ok R_Use_ok))).mono ?_
  intro e w14 h
  rw [HDD.out] at h
  obtain ⟨rah, rch, rfl, hu, hb⟩ := newS_elim2 h
  have HL_14 := Lib.hid (gmv (Sl_ok R_Use_ok) HL_13.out hb)
  have Yw_14 := Lib.hid (Yw_13.out.mv (Sl_ok R_Use_ok) hb)
  have Yg_14 := Lib.hid (Yg_13.out.mv (Sl_ok R_Use_ok) hb)
  have NL_14 := Lib.hid (NL_13.out.mv (Sl_ok R_Use_ok) hb)
  have HB14 := Lib.hid (HB13.out.trans ((hb).mono HB13.out.size))
  have HZ14 := Lib.hid ((hb).size)
  clear HL_13 Yw_13 Yg_13 NL_13 HB13
  have Yh_14 := Lib.hid (owG_new hu)
  have HSh := Lib.hid (fun k (hk : Rg w13.heap.size w14.heap.size k) => hk)
  clear hu
  clear h hb
  clear NL_14
  go_wp2_with fail
  refine (geq_UseS (Yh_14.out.rd (Sl_ok R_Use_ok)) (Yw_14.out.rd (Sl_ok R_Use_ok))).mono ?_
  intro e w15 h
  obtain ⟨rfl, hb⟩ := isB_elim h
  have HL_15 := Lib.hid (gmv (Sl_ok R_Use_ok) HL_14.out hb)
  have Yw_15 := Lib.hid (Yw_14.out.mv (Sl_ok R_Use_ok) hb)
  have Yg_15 := Lib.hid (Yg_14.out.mv (Sl_ok R_Use_ok) hb)
  have Yh_15 := Lib.hid (Yh_14.out.mv (Sl_ok R_Use_ok) hb)
  have HB15 := Lib.hid (HB14.out.trans ((hb).mono HB14.out.size))
  have HZ15 := Lib.hid ((hb).size)
  clear HL_14 Yw_14 Yg_14 Yh_14 HB14
  clear h hb
  go_wp2_with fail
  refine (gheld_UseS (by omega) hzb HMV.out (Yg_15.out.rd (Sl_ok R_Use_ok))).mono ?_
  intro e w16 h
  obtain ⟨rfl, hb⟩ := heldC_elim h
  have HL_16 := Lib.hid (gmv (Sl_ok R_Use_ok) HL_15.out hb)
  have Yw_16 := Lib.hid (Yw_15.out.mv (Sl_ok R_Use_ok) hb)
  have Yg_16 := Lib.hid (Yg_15.out.mv (Sl_ok R_Use_ok) hb)
  have Yh_16 := Lib.hid (Yh_15.out.mv (Sl_ok R_Use_ok) hb)
  have HB16 := Lib.hid (HB15.out.trans ((hb).mono HB15.out.size))
  have HZ16 := Lib.hid ((hb).size)
  clear HL_15 Yw_15 Yg_15 Yh_15 HB15
  clear h hb
  go_wp2
  go_ret
  exact ⟨rfl, HB16.out⟩
end Go.Proofs.Ytjhcphmehlihcaa.RepC
