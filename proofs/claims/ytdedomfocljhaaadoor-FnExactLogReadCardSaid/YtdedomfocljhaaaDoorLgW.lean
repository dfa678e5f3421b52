/- The law on LogRead, out of the contracts. -/
import Derived.Test.YtdedomfocljhaaaDoorLgGv
namespace Go.Proofs.YtdedomfocljhaaaDoor.RepC
open Go.RowKit RowC ValC SpanC KeptC
set_option linter.unusedVariables false
set_option linter.unusedSimpArgs false

set_option maxRecDepth 100000 in
set_option maxHeartbeats 4000000 in
theorem law_logread {S : ByteArray} {W : World} (hS : S.size ≤ maxLen) (hDo : GetC.Door W) :
    Calls Tryd.prog 4 #[.string S] W fun e w' => e = .returned (.bool true) ∧ Below W.heap.size W w' := by
  have HSS := Lib.hid hS
  have HDOOR := Lib.hid hDo
  have HDZ := Lib.hid hDo.lt
  unfold maxLen at hS
  clear hDo
  by_cases hstS : S.size ≤ 1048576
  rotate_left
  · have hsd : decide ((1048576 : Int) < (S.size : Int)) = true := decide_eq_true (by omega)
    go_enter Tryd.func4, Tryd.ntmps4
    go_wp2
    go_ret
    exact ⟨rfl, by first | exact Below.refl _ _ | exact (Below.refl _ _).alloc (Nat.le_refl _) _⟩
  have hsdS : decide ((1048576 : Int) < (S.size : Int)) = false := decide_eq_false (by omega)
  obtain ⟨⟨dL0, dx1, dx2⟩, hD⟩ : ∃ d, FrC.logR S = d := ⟨_, rfl⟩
  have HDD := Lib.hid hD
  have HSM := Lib.hid (log_small hD)
  clear hD
  go_enter Tryd.func4, Tryd.ntmps4
  go_wp2_with fail
  refine (FrC.log_s S _ HSS.out).mono ?_
  intro e w1 h
  rw [HDD.out] at h
  obtain ⟨us, rfl, hu, hb⟩ := newV_elim h
  obtain ⟨ra0w, rc0w, rfl, hu⟩ := owc_LogOut hu
  have HB1 := Lib.hid (show Below W.heap.size W (w1) from hb)
  have HZ1 := Lib.hid ((hb).size)
  have Yw_1 := Lib.hid (owG_new hu)
  have HSw := Lib.hid (fun k (hk : Rg W.heap.size w1.heap.size k) => hk)
  clear hu
  clear h hb
  have hbA : Below (w1).heap.size (w1) (w1.alloc (.cells #[.slice ra0w dL0.length rc0w, .int .i64 dx1, .int .i64 dx2] 31)) := (Below.refl _ _).alloc (Nat.le_refl _) _
  have Yw_2 := Lib.hid (Yw_1.out.mv R_LogOut_ok hbA)
  have HB2 := Lib.hid (HB1.out.trans ((hbA).mono HB1.out.size))
  have HZ2 := Lib.hid ((hbA).size)
  clear Yw_1 HB1
  have Bw_2 := Blk.new (w1) 31 #[.slice ra0w dL0.length rc0w, .int .i64 dx1, .int .i64 dx2]
  have Bwh_2 := Lib.hid Bw_2
  clear Bw_2 hbA
  have HZ3 := Lib.hid ((show (w1.alloc (.cells #[.slice ra0w dL0.length rc0w, .int .i64 dx1, .int .i64 dx2] 31)).heap.size = w1.heap.size + 1 by simp))
  obtain ⟨wz2, hwz2⟩ : ∃ w, w = w1.alloc (.cells #[.slice ra0w dL0.length rc0w, .int .i64 dx1, .int .i64 dx2] 31) := ⟨_, rfl⟩
  rw [← hwz2] at Bwh_2 Yw_2 HB2 HZ2 HZ3
  go_wp2_with fail
  rw [← hwz2]
  clear hwz2
  refine (FrC.log_i S _ HSS.out (HDOOR.out.below HB2.out HDZ.out)).mono ?_
  intro e w3 h
  rw [HDD.out] at h
  obtain ⟨us, rfl, hu, hb⟩ := newV_elim h
  obtain ⟨ra0g, rc0g, rfl, hu⟩ := owc_LogOut hu
  have Bw_3 := Lib.hid (Bwh_2.out.call hb)
  have Yw_3 := Lib.hid (Yw_2.out.mv R_LogOut_ok hb)
  have HB3 := Lib.hid (HB2.out.trans ((hb).mono HB2.out.size))
  have HZ4 := Lib.hid ((hb).size)
  clear Bwh_2 Yw_2 HB2
  have Yg_3 := Lib.hid (owG_new hu)
  have HSg := Lib.hid (fun k (hk : Rg wz2.heap.size w3.heap.size k) => hk)
  clear hu
  clear h hb
  have hbA : Below (w3).heap.size (w3) (w3.alloc (.cells #[.slice ra0g dL0.length rc0g, .int .i64 dx1, .int .i64 dx2] 31)) := (Below.refl _ _).alloc (Nat.le_refl _) _
  have Bw_4 := Lib.hid (Bw_3.out.call hbA)
  have Yw_4 := Lib.hid (Yw_3.out.mv R_LogOut_ok hbA)
  have Yg_4 := Lib.hid (Yg_3.out.mv R_LogOut_ok hbA)
  have HB4 := Lib.hid (HB3.out.trans ((hbA).mono HB3.out.size))
  have HZ5 := Lib.hid ((hbA).size)
  clear Bw_3 Yw_3 Yg_3 HB3
  have Bg_4 := Blk.new (w3) 31 #[.slice ra0g dL0.length rc0g, .int .i64 dx1, .int .i64 dx2]
  have Bgh_4 := Lib.hid Bg_4
  clear Bg_4 hbA
  have HZ6 := Lib.hid ((show (w3.alloc (.cells #[.slice ra0g dL0.length rc0g, .int .i64 dx1, .int .i64 dx2] 31)).heap.size = w3.heap.size + 1 by simp))
  obtain ⟨wz4, hwz4⟩ : ∃ w, w = w3.alloc (.cells #[.slice ra0g dL0.length rc0g, .int .i64 dx1, .int .i64 dx2] 31) := ⟨_, rfl⟩
  rw [← hwz4] at Bw_4 Bgh_4 Yw_4 Yg_4 HB4 HZ5 HZ6
  have qBg_0 := Bgh_4.out.at_ 0 rfl
  have qBg_1 := Bgh_4.out.at_ 1 rfl
  have qBg_2 := Bgh_4.out.at_ 2 rfl
  have qBw_0 := Bw_4.out.at_ 0 rfl
  have qBw_1 := Bw_4.out.at_ 1 rfl
  have qBw_2 := Bw_4.out.at_ 2 rfl
  have qBg_0_u := qBg_0
  rw [hwz4] at qBg_0_u
  have qBg_1_u := qBg_1
  rw [hwz4] at qBg_1_u
  have qBg_2_u := qBg_2
  rw [hwz4] at qBg_2_u
  have qBw_0_u := qBw_0
  rw [hwz4] at qBw_0_u
  have qBw_1_u := qBw_1
  rw [hwz4] at qBw_1_u
  have qBw_2_u := qBw_2
  rw [hwz4] at qBw_2_u
  go_wp2_with fail
  rw [← hwz4]
  clear hwz4
  refine (geq_LogOut (Yg_4.out.rd R_LogOut_ok) (Yw_4.out.rd R_LogOut_ok)).mono ?_
  intro e w5 h
  obtain ⟨rfl, hb⟩ := isB_elim h
  clear qBg_0 qBg_1 qBg_2 qBw_0 qBw_1 qBw_2 qBg_0_u qBg_1_u qBg_2_u qBw_0_u qBw_1_u qBw_2_u
  have Bw_5 := Lib.hid (Bw_4.out.call hb)
  have Bg_5 := Lib.hid (Bgh_4.out.call hb)
  have Yw_5 := Lib.hid (Yw_4.out.mv R_LogOut_ok hb)
  have Yg_5 := Lib.hid (Yg_4.out.mv R_LogOut_ok hb)
  have HB5 := Lib.hid (HB4.out.trans ((hb).mono HB4.out.size))
  have HZ7 := Lib.hid ((hb).size)
  clear Bw_4 Bgh_4 Yw_4 Yg_4 HB4
  clear h hb
  have qBg_0 := Bg_5.out.at_ 0 rfl
  have qBg_1 := Bg_5.out.at_ 1 rfl
  have qBg_2 := Bg_5.out.at_ 2 rfl
  go_wp2_with fail
  refine (gmark_LogOut (by omega) (by have h1 := HSM.out; omega) Yg_5.out.2 Yg_5.out.1).mono ?_
  intro e wn h
  obtain ⟨dN, zN, rfl, hmv, hzz, ho, hoff⟩ := markG_elim h
  clear qBg_0 qBg_1 qBg_2
  have HB6 := Lib.hid (HB5.out.trans (hoff.below HB5.out.size (fun k hk => by have zHZ1 := HZ1.out; have zHZ2 := HZ2.out; have zHZ3 := HZ3.out; have zHZ4 := HZ4.out; have zHZ5 := HZ5.out; have zHZ6 := HZ6.out; have zHZ7 := HZ7.out; have rg := HSg.out _ hk; try unfold Rg at rg; omega)))
  have Bw_6 := Lib.hid (Bw_5.out.off hoff Bw_5.out.lt (fun hk => by have zHZ1 := HZ1.out; have zHZ2 := HZ2.out; have zHZ3 := HZ3.out; have zHZ4 := HZ4.out; have zHZ5 := HZ5.out; have zHZ6 := HZ6.out; have zHZ7 := HZ7.out; have rg := HSg.out _ hk; try unfold Rg at rg; omega))
  have Bg_6 := Lib.hid (Bg_5.out.off hoff Bg_5.out.lt (fun hk => by have zHZ1 := HZ1.out; have zHZ2 := HZ2.out; have zHZ3 := HZ3.out; have zHZ4 := HZ4.out; have zHZ5 := HZ5.out; have zHZ6 := HZ6.out; have zHZ7 := HZ7.out; have rg := HSg.out _ hk; try unfold Rg at rg; omega))
  have Yw_6 := Lib.hid (Yw_5.out.off R_LogOut_ok hoff (fun k hk hk2 => by have zHZ1 := HZ1.out; have zHZ2 := HZ2.out; have zHZ3 := HZ3.out; have zHZ4 := HZ4.out; have zHZ5 := HZ5.out; have zHZ6 := HZ6.out; have zHZ7 := HZ7.out; have rg := HSg.out k hk2; try unfold Rg at rg; have rw := HSw.out k hk; try unfold Rg at rw; omega))
  have Yg_6 := Lib.hid (show OwG R_LogOut wn _ dN _ from ⟨ho, fun k hk => Nat.lt_of_lt_of_le (Yg_5.out.2 k hk) hoff.size⟩)
  have HMV := Lib.hid hmv
  have hzn : decide (zN < 0) = false := decide_eq_false (by omega)
  have hze : (zN != zN) = false := by simp
  have hzb : zN ≤ 4611686018427387904 := by have := HSM.out; omega
  have HZ8 := Lib.hid (hoff.size)
  clear h hmv hzz ho hoff
  have qBg_0 := Bg_6.out.at_ 0 rfl
  have qBg_1 := Bg_6.out.at_ 1 rfl
  have qBg_2 := Bg_6.out.at_ 2 rfl
  go_wp2_with fail
  refine (gheld_LogOut (by omega) hzb HMV.out (Yg_6.out.rd R_LogOut_ok)).mono ?_
  intro e w7 h
  obtain ⟨rfl, hb⟩ := heldC_elim h
  clear qBg_0 qBg_1 qBg_2
  have Bw_7 := Lib.hid (Bw_6.out.call hb)
  have Bg_7 := Lib.hid (Bg_6.out.call hb)
  have Yw_7 := Lib.hid (Yw_6.out.mv R_LogOut_ok hb)
  have Yg_7 := Lib.hid (Yg_6.out.mv R_LogOut_ok hb)
  have HB7 := Lib.hid (HB6.out.trans ((hb).mono HB6.out.size))
  have HZ9 := Lib.hid ((hb).size)
  clear Bw_6 Bg_6 Yw_6 Yg_6 HB6
  clear h hb
  go_wp2_with fail
  refine (FrC.log_i S _ HSS.out (HDOOR.out.below HB7.out HDZ.out)).mono ?_
  intro e w8 h
  rw [HDD.out] at h
  obtain ⟨us, rfl, hu, hb⟩ := newV_elim h
  obtain ⟨ra0h, rc0h, rfl, hu⟩ := owc_LogOut hu
  have Bw_8 := Lib.hid (Bw_7.out.call hb)
  have Bg_8 := Lib.hid (Bg_7.out.call hb)
  have Yw_8 := Lib.hid (Yw_7.out.mv R_LogOut_ok hb)
  have Yg_8 := Lib.hid (Yg_7.out.mv R_LogOut_ok hb)
  have HB8 := Lib.hid (HB7.out.trans ((hb).mono HB7.out.size))
  have HZ10 := Lib.hid ((hb).size)
  clear Bw_7 Bg_7 Yw_7 Yg_7 HB7
  have Yh_8 := Lib.hid (owG_new hu)
  have HSh := Lib.hid (fun k (hk : Rg w7.heap.size w8.heap.size k) => hk)
  clear hu
  clear h hb
  have hbA : Below (w8).heap.size (w8) (w8.alloc (.cells #[.slice ra0h dL0.length rc0h, .int .i64 dx1, .int .i64 dx2] 31)) := (Below.refl _ _).alloc (Nat.le_refl _) _
  have Bw_9 := Lib.hid (Bw_8.out.call hbA)
  have Bg_9 := Lib.hid (Bg_8.out.call hbA)
  have Yw_9 := Lib.hid (Yw_8.out.mv R_LogOut_ok hbA)
  have Yg_9 := Lib.hid (Yg_8.out.mv R_LogOut_ok hbA)
  have Yh_9 := Lib.hid (Yh_8.out.mv R_LogOut_ok hbA)
  have HB9 := Lib.hid (HB8.out.trans ((hbA).mono HB8.out.size))
  have HZ11 := Lib.hid ((hbA).size)
  clear Bw_8 Bg_8 Yw_8 Yg_8 Yh_8 HB8
  have Bh_9 := Blk.new (w8) 31 #[.slice ra0h dL0.length rc0h, .int .i64 dx1, .int .i64 dx2]
  have Bhh_9 := Lib.hid Bh_9
  clear Bh_9 hbA
  have HZ12 := Lib.hid ((show (w8.alloc (.cells #[.slice ra0h dL0.length rc0h, .int .i64 dx1, .int .i64 dx2] 31)).heap.size = w8.heap.size + 1 by simp))
  obtain ⟨wz9, hwz9⟩ : ∃ w, w = w8.alloc (.cells #[.slice ra0h dL0.length rc0h, .int .i64 dx1, .int .i64 dx2] 31) := ⟨_, rfl⟩
  rw [← hwz9] at Bw_9 Bg_9 Bhh_9 Yw_9 Yg_9 Yh_9 HB9 HZ11 HZ12
  have qBh_0 := Bhh_9.out.at_ 0 rfl
  have qBh_1 := Bhh_9.out.at_ 1 rfl
  have qBh_2 := Bhh_9.out.at_ 2 rfl
  have qBw_0 := Bw_9.out.at_ 0 rfl
  have qBw_1 := Bw_9.out.at_ 1 rfl
  have qBw_2 := Bw_9.out.at_ 2 rfl
  have qBh_0_u := qBh_0
  rw [hwz9] at qBh_0_u
  have qBh_1_u := qBh_1
  rw [hwz9] at qBh_1_u
  have qBh_2_u := qBh_2
  rw [hwz9] at qBh_2_u
  have qBw_0_u := qBw_0
  rw [hwz9] at qBw_0_u
  have qBw_1_u := qBw_1
  rw [hwz9] at qBw_1_u
  have qBw_2_u := qBw_2
  rw [hwz9] at qBw_2_u
  go_wp2_with fail
  rw [← hwz9]
  clear hwz9
  refine (geq_LogOut (Yh_9.out.rd R_LogOut_ok) (Yw_9.out.rd R_LogOut_ok)).mono ?_
  intro e w10 h
  obtain ⟨rfl, hb⟩ := isB_elim h
  clear qBh_0 qBh_1 qBh_2 qBw_0 qBw_1 qBw_2 qBh_0_u qBh_1_u qBh_2_u qBw_0_u qBw_1_u qBw_2_u
  have Bw_10 := Lib.hid (Bw_9.out.call hb)
  have Bg_10 := Lib.hid (Bg_9.out.call hb)
  have Bh_10 := Lib.hid (Bhh_9.out.call hb)
  have Yw_10 := Lib.hid (Yw_9.out.mv R_LogOut_ok hb)
  have Yg_10 := Lib.hid (Yg_9.out.mv R_LogOut_ok hb)
  have Yh_10 := Lib.hid (Yh_9.out.mv R_LogOut_ok hb)
  have HB10 := Lib.hid (HB9.out.trans ((hb).mono HB9.out.size))
  have HZ13 := Lib.hid ((hb).size)
  clear Bw_9 Bg_9 Bhh_9 Yw_9 Yg_9 Yh_9 HB9
  clear h hb
  have qBg_0 := Bg_10.out.at_ 0 rfl
  have qBg_1 := Bg_10.out.at_ 1 rfl
  have qBg_2 := Bg_10.out.at_ 2 rfl
  go_wp2_with fail
  refine (gheld_LogOut (by omega) hzb HMV.out (Yg_10.out.rd R_LogOut_ok)).mono ?_
  intro e w11 h
  obtain ⟨rfl, hb⟩ := heldC_elim h
  clear qBg_0 qBg_1 qBg_2
  have Bw_11 := Lib.hid (Bw_10.out.call hb)
  have Bg_11 := Lib.hid (Bg_10.out.call hb)
  have Bh_11 := Lib.hid (Bh_10.out.call hb)
  have Yw_11 := Lib.hid (Yw_10.out.mv R_LogOut_ok hb)
  have Yg_11 := Lib.hid (Yg_10.out.mv R_LogOut_ok hb)
  have Yh_11 := Lib.hid (Yh_10.out.mv R_LogOut_ok hb)
  have HB11 := Lib.hid (HB10.out.trans ((hb).mono HB10.out.size))
  have HZ14 := Lib.hid ((hb).size)
  clear Bw_10 Bg_10 Bh_10 HB10
  clear h hb
  go_wp2
  go_ret
  exact ⟨rfl, HB11.out⟩
end Go.Proofs.YtdedomfocljhaaaDoor.RepC
