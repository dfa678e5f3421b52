/- The law on UseAdd, out of the contracts. -/
import Derived.Test.YtjhcphmehlihcaaTk
import Derived.Test.YtjhcphmehlihcaaTk
import Derived.Test.YtjhcphmehlihcaaUsGa
namespace Go.Proofs.Ytjhcphmehlihcaa.RepC
open Go.RowKit RowC ValC SpanC KeptC
set_option linter.unusedVariables false
set_option linter.unusedSimpArgs false

set_option maxRecDepth 100000 in
set_option maxHeartbeats 4000000 in
theorem law_useadd {L : List (D_Use)} {La : Option Addr} {Lc : Nat} {Xx0 : Int} {Xx1 : Int}  {S : ByteArray} {N : Int} {W : World} (hL : (Sl R_Use).rd W W.heap.size L [.slice La L.length Lc]) (hss : S.size ≤ maxLen) (hwa : WfA ((Xx0, Xx1), S)) :
    Calls Try.prog 7 #[.slice La L.length Lc, .agg #[.int .i64 Xx0, .int .i64 Xx1], .string S, .int .i64 N] W fun e w' => e = .returned (.bool true) ∧ Below W.heap.size W w' := by
  have HSS := Lib.hid hss
  have HWA := Lib.hid hwa
  clear hwa
  unfold maxLen at hss
  have HL := Lib.hid hL
  have HL0 := Lib.hid hL
  clear hL
  have hbA : Below (W).heap.size (W) (W.alloc (.cells #[.int .i64 Xx0, .int .i64 Xx1] 44)) := (Below.refl _ _).alloc (Nat.le_refl _) _
  have HL_1 := Lib.hid (gmv (Sl_ok R_Use_ok) HL.out hbA)
  have HB1 := Lib.hid (show Below W.heap.size W (W.alloc (.cells #[.int .i64 Xx0, .int .i64 Xx1] 44)) from hbA)
  have HZ1 := Lib.hid ((hbA).size)
  clear HL
  have PX_1 := Blk.new (W) 44 #[.int .i64 Xx0, .int .i64 Xx1]
  have PXh_1 := Lib.hid PX_1
  clear PX_1 hbA
  by_cases hstS : S.size ≤ 1048576
  rotate_left
  · have hsd : decide ((1048576 : Int) < (S.size : Int)) = true := decide_eq_true (by omega)
    go_enter Try.func7, Try.ntmps7
    go_wp2
    go_ret
    exact ⟨rfl, by first | exact Below.refl _ _ | exact (Below.refl _ _).alloc (Nat.le_refl _) _⟩
  have hsdS : decide ((1048576 : Int) < (S.size : Int)) = false := decide_eq_false (by omega)
  by_cases hsz : (Sl R_Use).sz L ≤ 1048576
  rotate_left
  · skip
    go_enter Try.func7, Try.ntmps7
    have qPX_0 := PXh_1.out.at_ 0 rfl
    have qPX_1 := PXh_1.out.at_ 1 rfl
    go_wp2_with fail
    refine (gsz_UseS (by omega) (by omega) HL_1.out).mono ?_
    intro e w2 h
    obtain ⟨rfl, hb⟩ := szC_elim h
    rw [szR_no (by omega)]
    clear qPX_0 qPX_1
    have PX_2 := Lib.hid (PXh_1.out.call hb)
    have HL_2 := Lib.hid (gmv (Sl_ok R_Use_ok) HL_1.out hb)
    have HB2 := Lib.hid (HB1.out.trans ((hb).mono HB1.out.size))
    have HZ2 := Lib.hid ((hb).size)
    clear PXh_1 HL_1 HB1
    clear h hb
    go_wp2
    go_ret
    exact ⟨rfl, HB2.out⟩
  have HSZL := Lib.hid hsz
  have HSAL := Lib.hid (cvs_UseS hsz)
  obtain ⟨m, hm⟩ : ∃ m : Nat, (Sl R_Use).sz L = m := ⟨_, rfl⟩
  have HM := Lib.hid hm
  rw [hm] at hsz
  clear hm
  have hlt1 : decide ((1048576 : Int) - (m : Int) < 0) = false := decide_eq_false (by omega)
  obtain ⟨dR, hD⟩ : ∃ d, addV L ((Xx0, Xx1), S) N = d := ⟨_, rfl⟩
  have HDD := Lib.hid hD
  have HSM := Lib.hid ((fun _ => add_small) HSZL.out hD)
  clear hD
  go_enter Try.func7, Try.ntmps7
  have qPX_0 := PXh_1.out.at_ 0 rfl
  have qPX_1 := PXh_1.out.at_ 1 rfl
  go_wp2_with fail
  refine (gsz_UseS (by omega) (by omega) HL_1.out).mono ?_
  intro e w2 h
  obtain ⟨rfl, hb⟩ := szC_elim h
  rw [HM.out, szR_yes (by omega)]
  clear qPX_0 qPX_1
  have PX_2 := Lib.hid (PXh_1.out.call hb)
  have HL_2 := Lib.hid (gmv (Sl_ok R_Use_ok) HL_1.out hb)
  have HB2 := Lib.hid (HB1.out.trans ((hb).mono HB1.out.size))
  have HZ2 := Lib.hid ((hb).size)
  clear PXh_1 HL_1 HB1
  clear hsz
  clear h hb
  have HPL := Lib.hid (PX_2.out.lt)
  go_wp2_with fail
  refine wp_region_held_drew (S := (fun V => Below (w2).heap.size (w2) V)) (by kernel_rfl) ((Below.refl _ _).drew) (fun hHeld => ?_)
  refine tk 0 hHeld ?_
  refine tk 2 hHeld ?_ (hy := fun w hSw => by (try dsimp only at hSw); have k0 := (hSw.cell (p := ⟨W.heap.size, 0, none⟩) PX_2.out.lt).trans (PX_2.out.at_ 0 rfl); have k1 := (hSw.cell (p := ⟨W.heap.size, 1, none⟩) PX_2.out.lt).trans (PX_2.out.at_ 1 rfl); clear hSw; go_simp; try with_reducible rfl)
  refine tk 4 hHeld ?_
  refine tk 5 hHeld ?_
  refine rd1 1 (fun K hK => ?_)
  go_simp
  go_at_call 26
  refine (gto_UseS HSZL.out (gmv (Sl_ok R_Use_ok) HL_2.out hHeld)).mono ?_
  intro e w201 h
  obtain ⟨aL201, cL201, rfl, hu, hb⟩ := newS_elim2 h
  have NL := Lib.hid (owG_new hu)
  clear h hu
  refine hK.out _ _ (hHeld.trans (hb.mono hHeld.size)) (fun hHeld => ?_)
  clear hK K hb
  refine rd1 3 (fun K hK => ?_)
  go_simp
  go_at_call 28
  refine (to_Label (by simp only [R_Label, Pr, I, atom] <;> omega)).mono ?_
  intro e w202 h
  obtain ⟨us, rfl, hu, hb⟩ := newV_elim h
  obtain rfl := ow0_Label hu
  have NL := Lib.hid (NL.out.mv (Sl_ok R_Use_ok) hb)
  clear h hu
  refine hK.out _ _ (hHeld.trans (hb.mono hHeld.size)) (fun hHeld => ?_)
  clear hK K hb
  refine rd1 6 (fun K hK => ?_)
  go_simp
  go_at_call 13
  refine (gua_spec (NL.out.rd (Sl_ok R_Use_ok)) HSS.out).mono ?_
  intro e w203 h
  rw [HDD.out] at h
  obtain ⟨raw, rcw, rfl, hu, hb⟩ := newS_elim2 h
  have Yw := Lib.hid (owG_new hu)
  have HSw := Lib.hid (fun k (hk : Rg w202.heap.size w203.heap.size k) => (⟨Nat.le_trans hHeld.size hk.1, hk.2⟩ : w2.heap.size ≤ k ∧ k < w203.heap.size))
  clear h hu
  refine hK.out _ _ (hHeld.trans (hb.mono hHeld.size)) (fun hHeld => ?_)
  clear hK K hb
  refine tk 7 hHeld ?_
  refine rd0 ?_
  have HF := Lib.hid hHeld
  clear hHeld
  have hF := HF.out
  have PX_3 := Lib.hid (PX_2.out.call hF)
  have HL_3 := Lib.hid (gmv (Sl_ok R_Use_ok) HL_2.out hF)
  have HB3 := Lib.hid (HB2.out.trans ((hF).mono HB2.out.size))
  have HZ3 := Lib.hid ((hF).size)
  clear PX_2 HL_2 HB2
  clear HF hF
  clear NL
  go_wp2_with fail
  refine (gto_UseS HSZL.out HL_3.out).mono ?_
  intro e w4 h
  obtain ⟨aL4, cL4, rfl, hu, hb⟩ := newS_elim2 h
  have PX_4 := Lib.hid (PX_3.out.call hb)
  have HL_4 := Lib.hid (gmv (Sl_ok R_Use_ok) HL_3.out hb)
  have Yw_4 := Lib.hid (Yw.out.mv (Sl_ok R_Use_ok) hb)
  have HB4 := Lib.hid (HB3.out.trans ((hb).mono HB3.out.size))
  have HZ4 := Lib.hid ((hb).size)
  clear PX_3 HL_3 Yw HB3
  have X_4 := Lib.hid (owG_new hu)
  have HSX := Lib.hid (fun k (hk : Rg w203.heap.size w4.heap.size k) => hk)
  clear hu
  clear h hb
  have qPX_0 := PX_4.out.at_ 0 rfl
  have qPX_1 := PX_4.out.at_ 1 rfl
  go_wp2_with fail
  refine (to_Label (by simp only [R_Label, Pr, I, atom] <;> omega)).mono ?_
  intro e w5 h
  obtain ⟨us, rfl, hu, hb⟩ := newV_elim h
  obtain rfl := ow0_Label hu
  clear qPX_0 qPX_1
  have PX_5 := Lib.hid (PX_4.out.call hb)
  have HL_5 := Lib.hid (gmv (Sl_ok R_Use_ok) HL_4.out hb)
  have Yw_5 := Lib.hid (Yw_4.out.mv (Sl_ok R_Use_ok) hb)
  have X_5 := Lib.hid (X_4.out.mv (Sl_ok R_Use_ok) hb)
  have HB5 := Lib.hid (HB4.out.trans ((hb).mono HB4.out.size))
  have HZ5 := Lib.hid ((hb).size)
  clear PX_4 HL_4 Yw_4 X_4 HB4
  clear h hb
  go_wp2_with fail
  refine (gua_impl (X_5.out.rd (Sl_ok R_Use_ok)) HSZL.out HWA.out).mono ?_
  intro e w6 h
  rw [HDD.out] at h
  obtain ⟨rag, rcg, rfl, hu, hb⟩ := newS_elim2 h
  have PX_6 := Lib.hid (PX_5.out.call hb)
  have HL_6 := Lib.hid (gmv (Sl_ok R_Use_ok) HL_5.out hb)
  have Yw_6 := Lib.hid (Yw_5.out.mv (Sl_ok R_Use_ok) hb)
  have X_6 := Lib.hid (X_5.out.mv (Sl_ok R_Use_ok) hb)
  have HB6 := Lib.hid (HB5.out.trans ((hb).mono HB5.out.size))
  have HZ6 := Lib.hid ((hb).size)
  clear PX_5 HL_5 Yw_5 X_5 HB5
  have Yg_6 := Lib.hid (owG_new hu)
  have HSg := Lib.hid (fun k (hk : Rg w5.heap.size w6.heap.size k) => hk)
  clear hu
  clear h hb
  go_wp2_with fail
  refine (geq_UseS (Yg_6.out.rd (Sl_ok R_Use_ok)) (Yw_6.out.rd (Sl_ok R_Use_ok))).mono ?_
  intro e w7 h
  obtain ⟨rfl, hb⟩ := isB_elim h
  have PX_7 := Lib.hid (PX_6.out.call hb)
  have HL_7 := Lib.hid (gmv (Sl_ok R_Use_ok) HL_6.out hb)
  have Yw_7 := Lib.hid (Yw_6.out.mv (Sl_ok R_Use_ok) hb)
  have X_7 := Lib.hid (X_6.out.mv (Sl_ok R_Use_ok) hb)
  have Yg_7 := Lib.hid (Yg_6.out.mv (Sl_ok R_Use_ok) hb)
  have HB7 := Lib.hid (HB6.out.trans ((hb).mono HB6.out.size))
  have HZ7 := Lib.hid ((hb).size)
  clear PX_6 HL_6 Yw_6 X_6 Yg_6 HB6
  clear h hb
  go_wp2_with fail
  refine (gto_UseS HSZL.out HL_7.out).mono ?_
  intro e w8 h
  obtain ⟨aL8, cL8, rfl, hu, hb⟩ := newS_elim2 h
  have PX_8 := Lib.hid (PX_7.out.call hb)
  have HL_8 := Lib.hid (gmv (Sl_ok R_Use_ok) HL_7.out hb)
  have Yw_8 := Lib.hid (Yw_7.out.mv (Sl_ok R_Use_ok) hb)
  have X_8 := Lib.hid (X_7.out.mv (Sl_ok R_Use_ok) hb)
  have Yg_8 := Lib.hid (Yg_7.out.mv (Sl_ok R_Use_ok) hb)
  have HB8 := Lib.hid (HB7.out.trans ((hb).mono HB7.out.size))
  have HZ8 := Lib.hid ((hb).size)
  clear PX_7 HL_7 Yw_7 X_7 Yg_7 HB7
  have NL_8 := Lib.hid (owG_new hu)
  clear hu
  clear h hb
  go_wp2_with fail
  refine (geq_UseS (X_8.out.rd (Sl_ok R_Use_ok)) (NL_8.out.rd (Sl_ok R_Use_ok))).mono ?_
  intro e w9 h
  obtain ⟨rfl, hb⟩ := isB_elim h
  have PX_9 := Lib.hid (PX_8.out.call hb)
  have HL_9 := Lib.hid (gmv (Sl_ok R_Use_ok) HL_8.out hb)
  have Yw_9 := Lib.hid (Yw_8.out.mv (Sl_ok R_Use_ok) hb)
  have X_9 := Lib.hid (X_8.out.mv (Sl_ok R_Use_ok) hb)
  have Yg_9 := Lib.hid (Yg_8.out.mv (Sl_ok R_Use_ok) hb)
  have NL_9 := Lib.hid (NL_8.out.mv (Sl_ok R_Use_ok) hb)
  have HB9 := Lib.hid (HB8.out.trans ((hb).mono HB8.out.size))
  have HZ9 := Lib.hid ((hb).size)
  clear PX_8 HL_8 Yw_8 X_8 Yg_8 NL_8 HB8
  clear h hb
  clear NL_9
  go_wp2_with fail
  refine (gmark_UseS (by omega) (by have h1 := HSAL.out; omega) X_9.out.2 X_9.out.1).mono ?_
  intro e wm h
  obtain ⟨dM, y1, rfl, hmv, hzz, ho, hoff⟩ := markG_elim h
  have HB10 := Lib.hid (HB9.out.trans (hoff.below HB9.out.size (fun k hk => by have zHZ2 := HZ2.out; have zHZ3 := HZ3.out; have zHZ4 := HZ4.out; have zHZ5 := HZ5.out; have zHZ6 := HZ6.out; have zHZ7 := HZ7.out; have zHZ8 := HZ8.out; have zHZ9 := HZ9.out; have yHPL := HPL.out; have rX := HSX.out _ hk; try unfold Rg at rX; omega)))
  have PX_10 := Lib.hid (PX_9.out.off hoff PX_9.out.lt (fun hk => by have zHZ2 := HZ2.out; have zHZ3 := HZ3.out; have zHZ4 := HZ4.out; have zHZ5 := HZ5.out; have zHZ6 := HZ6.out; have zHZ7 := HZ7.out; have zHZ8 := HZ8.out; have zHZ9 := HZ9.out; have yHPL := HPL.out; have rX := HSX.out _ hk; try unfold Rg at rX; omega))
  have HL_10 := Lib.hid (gmv (Sl_ok R_Use_ok) HL0.out HB10.out)
  have Yw_10 := Lib.hid (Yw_9.out.off (Sl_ok R_Use_ok) hoff (fun k hk hk2 => by have zHZ2 := HZ2.out; have zHZ3 := HZ3.out; have zHZ4 := HZ4.out; have zHZ5 := HZ5.out; have zHZ6 := HZ6.out; have zHZ7 := HZ7.out; have zHZ8 := HZ8.out; have zHZ9 := HZ9.out; have yHPL := HPL.out; have rX := HSX.out k hk2; try unfold Rg at rX; have rw := HSw.out k hk; try unfold Rg at rw; omega))
  have Yg_10 := Lib.hid (Yg_9.out.off (Sl_ok R_Use_ok) hoff (fun k hk hk2 => by have zHZ2 := HZ2.out; have zHZ3 := HZ3.out; have zHZ4 := HZ4.out; have zHZ5 := HZ5.out; have zHZ6 := HZ6.out; have zHZ7 := HZ7.out; have zHZ8 := HZ8.out; have zHZ9 := HZ9.out; have yHPL := HPL.out; have rX := HSX.out k hk2; try unfold Rg at rX; have rg := HSg.out k hk; try unfold Rg at rg; omega))
  have hkn : decide (y1 < 0) = false := decide_eq_false (by omega)
  have HZ10 := Lib.hid (hoff.size)
  clear h hmv hzz ho hoff
  go_wp2_with fail
  refine (geq_UseS (Yg_10.out.rd (Sl_ok R_Use_ok)) (Yw_10.out.rd (Sl_ok R_Use_ok))).mono ?_
  intro e w11 h
  obtain ⟨rfl, hb⟩ := isB_elim h
  have PX_11 := Lib.hid (PX_10.out.call hb)
  have HL_11 := Lib.hid (gmv (Sl_ok R_Use_ok) HL_10.out hb)
  have Yw_11 := Lib.hid (Yw_10.out.mv (Sl_ok R_Use_ok) hb)
  have Yg_11 := Lib.hid (Yg_10.out.mv (Sl_ok R_Use_ok) hb)
  have HB11 := Lib.hid (HB10.out.trans ((hb).mono HB10.out.size))
  have HZ11 := Lib.hid ((hb).size)
  clear PX_10 HB10
  clear h hb
  clear hkn
  go_wp2_with fail
  refine (gmark_UseS (by omega) (by have h1 := HSM.out; omega) Yg_11.out.2 Yg_11.out.1).mono ?_
  intro e wn h
  obtain ⟨dN, zN, rfl, hmv, hzz, ho, hoff⟩ := markG_elim h
  have HB12 := Lib.hid (HB11.out.trans (hoff.below HB11.out.size (fun k hk => by have zHZ2 := HZ2.out; have zHZ3 := HZ3.out; have zHZ4 := HZ4.out; have zHZ5 := HZ5.out; have zHZ6 := HZ6.out; have zHZ7 := HZ7.out; have zHZ8 := HZ8.out; have zHZ9 := HZ9.out; have zHZ10 := HZ10.out; have zHZ11 := HZ11.out; have yHPL := HPL.out; have rg := HSg.out _ hk; try unfold Rg at rg; omega)))
  have PX_12 := Lib.hid (PX_11.out.off hoff PX_11.out.lt (fun hk => by have zHZ2 := HZ2.out; have zHZ3 := HZ3.out; have zHZ4 := HZ4.out; have zHZ5 := HZ5.out; have zHZ6 := HZ6.out; have zHZ7 := HZ7.out; have zHZ8 := HZ8.out; have zHZ9 := HZ9.out; have zHZ10 := HZ10.out; have zHZ11 := HZ11.out; have yHPL := HPL.out; have rg := HSg.out _ hk; try unfold Rg at rg; omega))
  have HL_12 := Lib.hid (gmv (Sl_ok R_Use_ok) HL0.out HB12.out)
  have Yw_12 := Lib.hid (Yw_11.out.off (Sl_ok R_Use_ok) hoff (fun k hk hk2 => by have zHZ2 := HZ2.out; have zHZ3 := HZ3.out; have zHZ4 := HZ4.out; have zHZ5 := HZ5.out; have zHZ6 := HZ6.out; have zHZ7 := HZ7.out; have zHZ8 := HZ8.out; have zHZ9 := HZ9.out; have zHZ10 := HZ10.out; have zHZ11 := HZ11.out; have yHPL := HPL.out; have rg := HSg.out k hk2; try unfold Rg at rg; have rw := HSw.out k hk; try unfold Rg at rw; omega))
  have Yg_12 := Lib.hid (show OwG (Sl R_Use) wn _ dN _ from ⟨ho, fun k hk => Nat.lt_of_lt_of_le (Yg_11.out.2 k hk) hoff.size⟩)
  have HMV := Lib.hid hmv
  have hzn : decide (zN < 0) = false := decide_eq_false (by omega)
  have hze : (zN != zN) = false := by simp
  have hzb : zN ≤ 4611686018427387904 := by have := HSM.out; omega
  have HZ12 := Lib.hid (hoff.size)
  clear h hmv hzz ho hoff
  go_wp2_with fail
  refine (gheld_UseS (by omega) hzb HMV.out (Yg_12.out.rd (Sl_ok R_Use_ok))).mono ?_
  intro e w13 h
  obtain ⟨rfl, hb⟩ := heldC_elim h
  have PX_13 := Lib.hid (PX_12.out.call hb)
  have HL_13 := Lib.hid (gmv (Sl_ok R_Use_ok) HL_12.out hb)
  have Yw_13 := Lib.hid (Yw_12.out.mv (Sl_ok R_Use_ok) hb)
  have Yg_13 := Lib.hid (Yg_12.out.mv (Sl_ok R_Use_ok) hb)
  have HB13 := Lib.hid (HB12.out.trans ((hb).mono HB12.out.size))
  have HZ13 := Lib.hid ((hb).size)
  clear PX_12 HL_12 Yw_12 Yg_12 HB12
  clear h hb
  go_wp2_with fail
  refine wp_region_held_drew (S := (fun V => Below (w13).heap.size (w13) V)) (by kernel_rfl) ((Below.refl _ _).drew) (fun hHeld => ?_)
  refine tk 0 hHeld ?_
  refine tk 2 hHeld ?_ (hy := fun w hSw => by (try dsimp only at hSw); have k0 := (hSw.cell (p := ⟨W.heap.size, 0, none⟩) PX_13.out.lt).trans (PX_13.out.at_ 0 rfl); have k1 := (hSw.cell (p := ⟨W.heap.size, 1, none⟩) PX_13.out.lt).trans (PX_13.out.at_ 1 rfl); clear hSw; go_simp; try with_reducible rfl)
  refine tk 4 hHeld ?_
  refine tk 5 hHeld ?_
  refine rd1 1 (fun K hK => ?_)
  go_simp
  go_at_call 26
  refine (gto_UseS HSZL.out (gmv (Sl_ok R_Use_ok) HL_13.out hHeld)).mono ?_
  intro e w1301 h
  obtain ⟨aL1301, cL1301, rfl, hu, hb⟩ := newS_elim2 h
  have NL := Lib.hid (owG_new hu)
  clear h hu
  refine hK.out _ _ (hHeld.trans (hb.mono hHeld.size)) (fun hHeld => ?_)
  clear hK K hb
  refine rd1 3 (fun K hK => ?_)
  go_simp
  go_at_call 28
  refine (to_Label (by simp only [R_Label, Pr, I, atom] <;> omega)).mono ?_
  intro e w1302 h
  obtain ⟨us, rfl, hu, hb⟩ := newV_elim h
  obtain rfl := ow0_Label hu
  have NL := Lib.hid (NL.out.mv (Sl_ok R_Use_ok) hb)
  clear h hu
  refine hK.out _ _ (hHeld.trans (hb.mono hHeld.size)) (fun hHeld => ?_)
  clear hK K hb
  refine rd1 6 (fun K hK => ?_)
  go_simp
  go_at_call 11
  refine (gua_impl (NL.out.rd (Sl_ok R_Use_ok)) HSZL.out HWA.out).mono ?_
  intro e w1303 h
  rw [HDD.out] at h
  obtain ⟨rah, rch, rfl, hu, hb⟩ := newS_elim2 h
  have Yh := Lib.hid (owG_new hu)
  have HSh := Lib.hid (fun k (hk : Rg w1302.heap.size w1303.heap.size k) => (⟨Nat.le_trans hHeld.size hk.1, hk.2⟩ : w13.heap.size ≤ k ∧ k < w1303.heap.size))
  clear h hu
  refine hK.out _ _ (hHeld.trans (hb.mono hHeld.size)) (fun hHeld => ?_)
  clear hK K hb
  refine tk 7 hHeld ?_
  refine rd0 ?_
  have HF := Lib.hid hHeld
  clear hHeld
  have hF := HF.out
  have PX_14 := Lib.hid (PX_13.out.call hF)
  have HL_14 := Lib.hid (gmv (Sl_ok R_Use_ok) HL_13.out hF)
  have Yw_14 := Lib.hid (Yw_13.out.mv (Sl_ok R_Use_ok) hF)
  have Yg_14 := Lib.hid (Yg_13.out.mv (Sl_ok R_Use_ok) hF)
  have HB14 := Lib.hid (HB13.out.trans ((hF).mono HB13.out.size))
  have HZ14 := Lib.hid ((hF).size)
  clear PX_13 HL_13 Yw_13 Yg_13 HB13
  clear HF hF
  clear NL
  go_wp2_with fail
  refine (geq_UseS (Yh.out.rd (Sl_ok R_Use_ok)) (Yw_14.out.rd (Sl_ok R_Use_ok))).mono ?_
  intro e w15 h
  obtain ⟨rfl, hb⟩ := isB_elim h
  have PX_15 := Lib.hid (PX_14.out.call hb)
  have HL_15 := Lib.hid (gmv (Sl_ok R_Use_ok) HL_14.out hb)
  have Yw_15 := Lib.hid (Yw_14.out.mv (Sl_ok R_Use_ok) hb)
  have Yg_15 := Lib.hid (Yg_14.out.mv (Sl_ok R_Use_ok) hb)
  have Yh_15 := Lib.hid (Yh.out.mv (Sl_ok R_Use_ok) hb)
  have HB15 := Lib.hid (HB14.out.trans ((hb).mono HB14.out.size))
  have HZ15 := Lib.hid ((hb).size)
  clear PX_14 HL_14 Yw_14 Yg_14 Yh HB14
  clear h hb
  go_wp2_with fail
  refine (gheld_UseS (by omega) hzb HMV.out (Yg_15.out.rd (Sl_ok R_Use_ok))).mono ?_
  intro e w16 h
  obtain ⟨rfl, hb⟩ := heldC_elim h
  have PX_16 := Lib.hid (PX_15.out.call hb)
  have HL_16 := Lib.hid (gmv (Sl_ok R_Use_ok) HL_15.out hb)
  have Yw_16 := Lib.hid (Yw_15.out.mv (Sl_ok R_Use_ok) hb)
  have Yg_16 := Lib.hid (Yg_15.out.mv (Sl_ok R_Use_ok) hb)
  have Yh_16 := Lib.hid (Yh_15.out.mv (Sl_ok R_Use_ok) hb)
  have HB16 := Lib.hid (HB15.out.trans ((hb).mono HB15.out.size))
  have HZ16 := Lib.hid ((hb).size)
  clear PX_15 HL_15 Yw_15 Yg_15 Yh_15 HB15
  clear h hb
  go_wp2
  go_ret
  exact ⟨rfl, HB16.out⟩
end Go.Proofs.Ytjhcphmehlihcaa.RepC
