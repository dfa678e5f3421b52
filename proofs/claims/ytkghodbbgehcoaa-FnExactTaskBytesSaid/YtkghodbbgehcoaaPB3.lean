/- Of this claim's texts the part 3: TaW6. -/
import Derived.Test.YtkghodbbgehcoaaPB2
section
namespace Go.Proofs.Ytkghodbbgehcoaa.RepC
open Go.RowKit RowC ValC SpanC KeptC
set_option linter.unusedVariables false
set_option linter.unusedSimpArgs false
set_option maxRecDepth 100000 in
set_option maxHeartbeats 4000000 in
theorem law_taskbytes {Tx0 : Int} {Tx1 : Int} {Tx2 : Int} {Tx3 : ByteArray} {Tx4 : Int} {Tx5 : Int} {Tx6 : Int} {Tx7 : Int} {Tx8 : Int} {Tx9 : Int} {Tx10 : Int} {Tx11 : Int} {Tx12 : Int} {TL0 : List (Int)} {Ta0 : Option Addr} {Tc0 : Nat} {W : World} (hT : R_Task.rd W W.heap.size ((Tx0, Tx1), Tx2, Tx3, Tx4, Tx5, Tx6, (Tx7, Tx8), Tx9, Tx10, Tx11, Tx12, TL0) [.int .i64 Tx0, .int .i64 Tx1, .int .i64 Tx2, .string Tx3, .int .i64 Tx4, .int .i64 Tx5, .int .i64 Tx6, .int .i64 Tx7, .int .i64 Tx8, .int .i64 Tx9, .int .i64 Tx10, .int .i64 Tx11, .int .i64 Tx12, .slice Ta0 TL0.length Tc0]) :
    Calls Try.prog 10 #[.agg #[.int .i64 Tx0, .int .i64 Tx1, .int .i64 Tx2, .string Tx3, .int .i64 Tx4, .int .i64 Tx5, .int .i64 Tx6, .int .i64 Tx7, .int .i64 Tx8, .int .i64 Tx9, .int .i64 Tx10, .int .i64 Tx11, .int .i64 Tx12, .slice Ta0 TL0.length Tc0]] W fun e w' => e = .returned (.bool true) ∧ Below W.heap.size W w' := by
  have HT := Lib.hid hT
  have HT0 := Lib.hid hT
  clear hT
  have hbA : Below (W).heap.size (W) (W.alloc (.cells #[.int .i64 Tx0, .int .i64 Tx1, .int .i64 Tx2, .string Tx3, .int .i64 Tx4, .int .i64 Tx5, .int .i64 Tx6, .int .i64 Tx7, .int .i64 Tx8, .int .i64 Tx9, .int .i64 Tx10, .int .i64 Tx11, .int .i64 Tx12, .slice Ta0 TL0.length Tc0] 39)) := (Below.refl _ _).alloc (Nat.le_refl _) _
  have HT_1 := Lib.hid (gmv R_Task_ok HT.out hbA)
  have HB1 := Lib.hid (show Below W.heap.size W (W.alloc (.cells #[.int .i64 Tx0, .int .i64 Tx1, .int .i64 Tx2, .string Tx3, .int .i64 Tx4, .int .i64 Tx5, .int .i64 Tx6, .int .i64 Tx7, .int .i64 Tx8, .int .i64 Tx9, .int .i64 Tx10, .int .i64 Tx11, .int .i64 Tx12, .slice Ta0 TL0.length Tc0] 39)) from hbA)
  have HZ1 := Lib.hid ((hbA).size)
  clear HT
  have PT_1 := Blk.new (W) 39 #[.int .i64 Tx0, .int .i64 Tx1, .int .i64 Tx2, .string Tx3, .int .i64 Tx4, .int .i64 Tx5, .int .i64 Tx6, .int .i64 Tx7, .int .i64 Tx8, .int .i64 Tx9, .int .i64 Tx10, .int .i64 Tx11, .int .i64 Tx12, .slice Ta0 TL0.length Tc0]
  have PTh_1 := Lib.hid PT_1
  clear PT_1 hbA
  by_cases hsz : R_Task.sz ((Tx0, Tx1), Tx2, Tx3, Tx4, Tx5, Tx6, (Tx7, Tx8), Tx9, Tx10, Tx11, Tx12, TL0) ≤ 1048576
  rotate_left
  · skip
    go_enter Try.func10, Try.ntmps10
    have qPT_0 := PTh_1.out.at_ 0 rfl
    have qPT_1 := PTh_1.out.at_ 1 rfl
    have qPT_2 := PTh_1.out.at_ 2 rfl
    have qPT_3 := PTh_1.out.at_ 3 rfl
    have qPT_4 := PTh_1.out.at_ 4 rfl
    have qPT_5 := PTh_1.out.at_ 5 rfl
    have qPT_6 := PTh_1.out.at_ 6 rfl
    have qPT_7 := PTh_1.out.at_ 7 rfl
    have qPT_8 := PTh_1.out.at_ 8 rfl
    have qPT_9 := PTh_1.out.at_ 9 rfl
    have qPT_10 := PTh_1.out.at_ 10 rfl
    have qPT_11 := PTh_1.out.at_ 11 rfl
    have qPT_12 := PTh_1.out.at_ 12 rfl
    have qPT_13 := PTh_1.out.at_ 13 rfl
    go_wp2_with fail
    refine (gsz_Task (by omega) (by omega) HT_1.out).mono ?_
    intro e w2 h
    obtain ⟨rfl, hb⟩ := szC_elim h
    rw [szR_no (by omega)]
    clear qPT_0 qPT_1 qPT_2 qPT_3 qPT_4 qPT_5 qPT_6 qPT_7 qPT_8 qPT_9 qPT_10 qPT_11 qPT_12 qPT_13
    have PT_2 := Lib.hid (PTh_1.out.call hb)
    have HT_2 := Lib.hid (gmv R_Task_ok HT_1.out hb)
    have HB2 := Lib.hid (HB1.out.trans ((hb).mono HB1.out.size))
    have HZ2 := Lib.hid ((hb).size)
    clear PTh_1 HT_1 HB1
    clear h hb
    go_wp2
    go_ret
    exact ⟨rfl, HB2.out⟩
  have HSZT := Lib.hid hsz
  have HSAT := Lib.hid (cvs_Task hsz)
  obtain ⟨m, hm⟩ : ∃ m : Nat, R_Task.sz ((Tx0, Tx1), Tx2, Tx3, Tx4, Tx5, Tx6, (Tx7, Tx8), Tx9, Tx10, Tx11, Tx12, TL0) = m := ⟨_, rfl⟩
  have HM := Lib.hid hm
  rw [hm] at hsz
  clear hm
  have hlt1 : decide ((1048576 : Int) - (m : Int) < 0) = false := decide_eq_false (by omega)
  obtain ⟨dR, hD⟩ : ∃ d, bytesT ((Tx0, Tx1), Tx2, Tx3, Tx4, Tx5, Tx6, (Tx7, Tx8), Tx9, Tx10, Tx11, Tx12, TL0) = d := ⟨_, rfl⟩
  have HDD := Lib.hid hD
  clear hD
  go_enter Try.func10, Try.ntmps10
  have qPT_0 := PTh_1.out.at_ 0 rfl
  have qPT_1 := PTh_1.out.at_ 1 rfl
  have qPT_2 := PTh_1.out.at_ 2 rfl
  have qPT_3 := PTh_1.out.at_ 3 rfl
  have qPT_4 := PTh_1.out.at_ 4 rfl
  have qPT_5 := PTh_1.out.at_ 5 rfl
  have qPT_6 := PTh_1.out.at_ 6 rfl
  have qPT_7 := PTh_1.out.at_ 7 rfl
  have qPT_8 := PTh_1.out.at_ 8 rfl
  have qPT_9 := PTh_1.out.at_ 9 rfl
  have qPT_10 := PTh_1.out.at_ 10 rfl
  have qPT_11 := PTh_1.out.at_ 11 rfl
  have qPT_12 := PTh_1.out.at_ 12 rfl
  have qPT_13 := PTh_1.out.at_ 13 rfl
  go_wp2_with fail
  refine (gsz_Task (by omega) (by omega) HT_1.out).mono ?_
  intro e w2 h
  obtain ⟨rfl, hb⟩ := szC_elim h
  rw [HM.out, szR_yes (by omega)]
  clear qPT_0 qPT_1 qPT_2 qPT_3 qPT_4 qPT_5 qPT_6 qPT_7 qPT_8 qPT_9 qPT_10 qPT_11 qPT_12 qPT_13
  have PT_2 := Lib.hid (PTh_1.out.call hb)
  have HT_2 := Lib.hid (gmv R_Task_ok HT_1.out hb)
  have HB2 := Lib.hid (HB1.out.trans ((hb).mono HB1.out.size))
  have HZ2 := Lib.hid ((hb).size)
  clear PTh_1 HT_1 HB1
  clear hsz
  clear h hb
  have HPL := Lib.hid (PT_2.out.lt)
  have qPT_0 := PT_2.out.at_ 0 rfl
  have qPT_1 := PT_2.out.at_ 1 rfl
  have qPT_2 := PT_2.out.at_ 2 rfl
  have qPT_3 := PT_2.out.at_ 3 rfl
  have qPT_4 := PT_2.out.at_ 4 rfl
  have qPT_5 := PT_2.out.at_ 5 rfl
  have qPT_6 := PT_2.out.at_ 6 rfl
  have qPT_7 := PT_2.out.at_ 7 rfl
  have qPT_8 := PT_2.out.at_ 8 rfl
  have qPT_9 := PT_2.out.at_ 9 rfl
  have qPT_10 := PT_2.out.at_ 10 rfl
  have qPT_11 := PT_2.out.at_ 11 rfl
  have qPT_12 := PT_2.out.at_ 12 rfl
  have qPT_13 := PT_2.out.at_ 13 rfl
  go_wp2_with fail
  refine (gto_Task HSZT.out HT_2.out).mono ?_
  intro e w3 h
  obtain ⟨us, rfl, hu, hb⟩ := newV_elim h
  obtain ⟨aT03, cT03, rfl, hu⟩ := owc_Task hu
  clear qPT_0 qPT_1 qPT_2 qPT_3 qPT_4 qPT_5 qPT_6 qPT_7 qPT_8 qPT_9 qPT_10 qPT_11 qPT_12 qPT_13
  have PT_3 := Lib.hid (PT_2.out.call hb)
  have HT_3 := Lib.hid (gmv R_Task_ok HT_2.out hb)
  have HB3 := Lib.hid (HB2.out.trans ((hb).mono HB2.out.size))
  have HZ3 := Lib.hid ((hb).size)
  clear PT_2 HT_2 HB2
  have NT_3 := Lib.hid (owG_new hu)
  clear hu
  clear h hb
  go_wp2_with fail
  refine (gbytes_spec (NT_3.out.rd R_Task_ok)).mono ?_
  intro e w4 h
  rw [HDD.out] at h
  obtain ⟨rfl, hb⟩ := h
  have h := hb
  have PT_4 := Lib.hid (PT_3.out.call hb)
  have HT_4 := Lib.hid (gmv R_Task_ok HT_3.out hb)
  have NT_4 := Lib.hid (NT_3.out.mv R_Task_ok hb)
  have HB4 := Lib.hid (HB3.out.trans ((hb).mono HB3.out.size))
  have HZ4 := Lib.hid ((hb).size)
  clear PT_3 HT_3 NT_3 HB3
  clear h hb
  clear NT_4
  have qPT_0 := PT_4.out.at_ 0 rfl
  have qPT_1 := PT_4.out.at_ 1 rfl
  have qPT_2 := PT_4.out.at_ 2 rfl
  have qPT_3 := PT_4.out.at_ 3 rfl
  have qPT_4 := PT_4.out.at_ 4 rfl
  have qPT_5 := PT_4.out.at_ 5 rfl
  have qPT_6 := PT_4.out.at_ 6 rfl
  have qPT_7 := PT_4.out.at_ 7 rfl
  have qPT_8 := PT_4.out.at_ 8 rfl
  have qPT_9 := PT_4.out.at_ 9 rfl
  have qPT_10 := PT_4.out.at_ 10 rfl
  have qPT_11 := PT_4.out.at_ 11 rfl
  have qPT_12 := PT_4.out.at_ 12 rfl
  have qPT_13 := PT_4.out.at_ 13 rfl
  go_wp2_with fail
  refine (gto_Task HSZT.out HT_4.out).mono ?_
  intro e w5 h
  obtain ⟨us, rfl, hu, hb⟩ := newV_elim h
  obtain ⟨aT05, cT05, rfl, hu⟩ := owc_Task hu
  clear qPT_0 qPT_1 qPT_2 qPT_3 qPT_4 qPT_5 qPT_6 qPT_7 qPT_8 qPT_9 qPT_10 qPT_11 qPT_12 qPT_13
  have PT_5 := Lib.hid (PT_4.out.call hb)
  have HT_5 := Lib.hid (gmv R_Task_ok HT_4.out hb)
  have HB5 := Lib.hid (HB4.out.trans ((hb).mono HB4.out.size))
  have HZ5 := Lib.hid ((hb).size)
  clear PT_4 HT_4 HB4
  have X_5 := Lib.hid (owG_new hu)
  have HSX := Lib.hid (fun k (hk : Rg w4.heap.size w5.heap.size k) => hk)
  clear hu
  clear h hb
  have hbA : Below (w5).heap.size (w5) (w5.alloc (.cells #[.int .i64 Tx0, .int .i64 Tx1, .int .i64 Tx2, .string Tx3, .int .i64 Tx4, .int .i64 Tx5, .int .i64 Tx6, .int .i64 Tx7, .int .i64 Tx8, .int .i64 Tx9, .int .i64 Tx10, .int .i64 Tx11, .int .i64 Tx12, .slice aT05 TL0.length cT05] 43)) := (Below.refl _ _).alloc (Nat.le_refl _) _
  have PT_6 := Lib.hid (PT_5.out.call hbA)
  have HT_6 := Lib.hid (gmv R_Task_ok HT_5.out hbA)
  have X_6 := Lib.hid (X_5.out.mv R_Task_ok hbA)
  have HB6 := Lib.hid (HB5.out.trans ((hbA).mono HB5.out.size))
  have HZ6 := Lib.hid ((hbA).size)
  clear PT_5 HT_5 X_5 HB5
  have BX_6 := Blk.new (w5) 43 #[.int .i64 Tx0, .int .i64 Tx1, .int .i64 Tx2, .string Tx3, .int .i64 Tx4, .int .i64 Tx5, .int .i64 Tx6, .int .i64 Tx7, .int .i64 Tx8, .int .i64 Tx9, .int .i64 Tx10, .int .i64 Tx11, .int .i64 Tx12, .slice aT05 TL0.length cT05]
  have BXh_6 := Lib.hid BX_6
  clear BX_6 hbA
  have HZ7 := Lib.hid ((show (w5.alloc (.cells #[.int .i64 Tx0, .int .i64 Tx1, .int .i64 Tx2, .string Tx3, .int .i64 Tx4, .int .i64 Tx5, .int .i64 Tx6, .int .i64 Tx7, .int .i64 Tx8, .int .i64 Tx9, .int .i64 Tx10, .int .i64 Tx11, .int .i64 Tx12, .slice aT05 TL0.length cT05] 43)).heap.size = w5.heap.size + 1 by simp))
  obtain ⟨wz6, hwz6⟩ : ∃ w, w = w5.alloc (.cells #[.int .i64 Tx0, .int .i64 Tx1, .int .i64 Tx2, .string Tx3, .int .i64 Tx4, .int .i64 Tx5, .int .i64 Tx6, .int .i64 Tx7, .int .i64 Tx8, .int .i64 Tx9, .int .i64 Tx10, .int .i64 Tx11, .int .i64 Tx12, .slice aT05 TL0.length cT05] 43) := ⟨_, rfl⟩
  rw [← hwz6] at PT_6 BXh_6 HT_6 X_6 HB6 HZ6 HZ7
  have qBX_0 := BXh_6.out.at_ 0 rfl
  have qBX_1 := BXh_6.out.at_ 1 rfl
  have qBX_2 := BXh_6.out.at_ 2 rfl
  have qBX_3 := BXh_6.out.at_ 3 rfl
  have qBX_4 := BXh_6.out.at_ 4 rfl
  have qBX_5 := BXh_6.out.at_ 5 rfl
  have qBX_6 := BXh_6.out.at_ 6 rfl
  have qBX_7 := BXh_6.out.at_ 7 rfl
  have qBX_8 := BXh_6.out.at_ 8 rfl
  have qBX_9 := BXh_6.out.at_ 9 rfl
  have qBX_10 := BXh_6.out.at_ 10 rfl
  have qBX_11 := BXh_6.out.at_ 11 rfl
  have qBX_12 := BXh_6.out.at_ 12 rfl
  have qBX_13 := BXh_6.out.at_ 13 rfl
  have qBX_0_u := qBX_0
  rw [hwz6] at qBX_0_u
  have qBX_1_u := qBX_1
  rw [hwz6] at qBX_1_u
  have qBX_2_u := qBX_2
  rw [hwz6] at qBX_2_u
  have qBX_3_u := qBX_3
  rw [hwz6] at qBX_3_u
  have qBX_4_u := qBX_4
  rw [hwz6] at qBX_4_u
  have qBX_5_u := qBX_5
  rw [hwz6] at qBX_5_u
  have qBX_6_u := qBX_6
  rw [hwz6] at qBX_6_u
  have qBX_7_u := qBX_7
  rw [hwz6] at qBX_7_u
  have qBX_8_u := qBX_8
  rw [hwz6] at qBX_8_u
  have qBX_9_u := qBX_9
  rw [hwz6] at qBX_9_u
  have qBX_10_u := qBX_10
  rw [hwz6] at qBX_10_u
  have qBX_11_u := qBX_11
  rw [hwz6] at qBX_11_u
  have qBX_12_u := qBX_12
  rw [hwz6] at qBX_12_u
  have qBX_13_u := qBX_13
  rw [hwz6] at qBX_13_u
  go_wp2_with fail
  rw [← hwz6]
  clear hwz6
  refine (gbytes_impl (X_6.out.rd R_Task_ok)).mono ?_
  intro e w7 h
  rw [HDD.out] at h
  obtain ⟨rfl, hb⟩ := h
  have h := hb
  clear qBX_0 qBX_1 qBX_2 qBX_3 qBX_4 qBX_5 qBX_6 qBX_7 qBX_8 qBX_9 qBX_10 qBX_11 qBX_12 qBX_13 qBX_0_u qBX_1_u qBX_2_u qBX_3_u qBX_4_u qBX_5_u qBX_6_u qBX_7_u qBX_8_u qBX_9_u qBX_10_u qBX_11_u qBX_12_u qBX_13_u
  have PT_7 := Lib.hid (PT_6.out.call hb)
  have BX_7 := Lib.hid (BXh_6.out.call hb)
  have HT_7 := Lib.hid (gmv R_Task_ok HT_6.out hb)
  have X_7 := Lib.hid (X_6.out.mv R_Task_ok hb)
  have HB7 := Lib.hid (HB6.out.trans ((hb).mono HB6.out.size))
  have HZ8 := Lib.hid ((hb).size)
  clear PT_6 BXh_6 HT_6 X_6 HB6
  clear h hb
  go_wp2_with fail
  refine wp_region_held_drew (S := (fun V => Below (w7).heap.size (w7) V)) (by kernel_rfl) ((Below.refl _ _).drew) (fun hHeld => ?_)
  refine tk 0 hHeld ?_ (hy := fun w hSw => by (try dsimp only at hSw); have k0 := (hSw.cell (p := ⟨w5.heap.size, 0, none⟩) BX_7.out.lt).trans (BX_7.out.at_ 0 rfl); have k1 := (hSw.cell (p := ⟨w5.heap.size, 1, none⟩) BX_7.out.lt).trans (BX_7.out.at_ 1 rfl); have k2 := (hSw.cell (p := ⟨w5.heap.size, 2, none⟩) BX_7.out.lt).trans (BX_7.out.at_ 2 rfl); have k3 := (hSw.cell (p := ⟨w5.heap.size, 3, none⟩) BX_7.out.lt).trans (BX_7.out.at_ 3 rfl); have k4 := (hSw.cell (p := ⟨w5.heap.size, 4, none⟩) BX_7.out.lt).trans (BX_7.out.at_ 4 rfl); have k5 := (hSw.cell (p := ⟨w5.heap.size, 5, none⟩) BX_7.out.lt).trans (BX_7.out.at_ 5 rfl); have k6 := (hSw.cell (p := ⟨w5.heap.size, 6, none⟩) BX_7.out.lt).trans (BX_7.out.at_ 6 rfl); have k7 := (hSw.cell (p := ⟨w5.heap.size, 7, none⟩) BX_7.out.lt).trans (BX_7.out.at_ 7 rfl); have k8 := (hSw.cell (p := ⟨w5.heap.size, 8, none⟩) BX_7.out.lt).trans (BX_7.out.at_ 8 rfl); have k9 := (hSw.cell (p := ⟨w5.heap.size, 9, none⟩) BX_7.out.lt).trans (BX_7.out.at_ 9 rfl); have k10 := (hSw.cell (p := ⟨w5.heap.size, 10, none⟩) BX_7.out.lt).trans (BX_7.out.at_ 10 rfl); have k11 := (hSw.cell (p := ⟨w5.heap.size, 11, none⟩) BX_7.out.lt).trans (BX_7.out.at_ 11 rfl); have k12 := (hSw.cell (p := ⟨w5.heap.size, 12, none⟩) BX_7.out.lt).trans (BX_7.out.at_ 12 rfl); have k13 := (hSw.cell (p := ⟨w5.heap.size, 13, none⟩) BX_7.out.lt).trans (BX_7.out.at_ 13 rfl); clear hSw; go_simp; try with_reducible rfl)
  refine tk 1 hHeld ?_ (hy := fun w hSw => by (try dsimp only at hSw); have k0 := (hSw.cell (p := ⟨W.heap.size, 0, none⟩) PT_7.out.lt).trans (PT_7.out.at_ 0 rfl); have k1 := (hSw.cell (p := ⟨W.heap.size, 1, none⟩) PT_7.out.lt).trans (PT_7.out.at_ 1 rfl); have k2 := (hSw.cell (p := ⟨W.heap.size, 2, none⟩) PT_7.out.lt).trans (PT_7.out.at_ 2 rfl); have k3 := (hSw.cell (p := ⟨W.heap.size, 3, none⟩) PT_7.out.lt).trans (PT_7.out.at_ 3 rfl); have k4 := (hSw.cell (p := ⟨W.heap.size, 4, none⟩) PT_7.out.lt).trans (PT_7.out.at_ 4 rfl); have k5 := (hSw.cell (p := ⟨W.heap.size, 5, none⟩) PT_7.out.lt).trans (PT_7.out.at_ 5 rfl); have k6 := (hSw.cell (p := ⟨W.heap.size, 6, none⟩) PT_7.out.lt).trans (PT_7.out.at_ 6 rfl); have k7 := (hSw.cell (p := ⟨W.heap.size, 7, none⟩) PT_7.out.lt).trans (PT_7.out.at_ 7 rfl); have k8 := (hSw.cell (p := ⟨W.heap.size, 8, none⟩) PT_7.out.lt).trans (PT_7.out.at_ 8 rfl); have k9 := (hSw.cell (p := ⟨W.heap.size, 9, none⟩) PT_7.out.lt).trans (PT_7.out.at_ 9 rfl); have k10 := (hSw.cell (p := ⟨W.heap.size, 10, none⟩) PT_7.out.lt).trans (PT_7.out.at_ 10 rfl); have k11 := (hSw.cell (p := ⟨W.heap.size, 11, none⟩) PT_7.out.lt).trans (PT_7.out.at_ 11 rfl); have k12 := (hSw.cell (p := ⟨W.heap.size, 12, none⟩) PT_7.out.lt).trans (PT_7.out.at_ 12 rfl); have k13 := (hSw.cell (p := ⟨W.heap.size, 13, none⟩) PT_7.out.lt).trans (PT_7.out.at_ 13 rfl); clear hSw; go_simp; try with_reducible rfl)
  refine rd1 2 (fun K hK => ?_)
  go_simp
  go_at_call 25
  refine (gto_Task HSZT.out (gmv R_Task_ok HT_7.out hHeld)).mono ?_
  intro e w701 h
  obtain ⟨us, rfl, hu, hb⟩ := newV_elim h
  obtain ⟨aT0701, cT0701, rfl, hu⟩ := owc_Task hu
  have NZ := Lib.hid (owG_new hu)
  clear h hu
  refine hK.out _ _ (hHeld.trans (hb.mono hHeld.size)) (fun hHeld => ?_)
  clear hK K hb
  refine rd1 3 (fun K hK => ?_)
  go_simp
  go_at_call 27
  refine (geq_Task (gmv R_Task_ok (X_7.out.rd R_Task_ok) hHeld) (NZ.out.rd R_Task_ok)).mono ?_
  intro e w702 h
  obtain ⟨rfl, hb⟩ := isB_elim h
  clear h
  refine hK.out _ _ (hHeld.trans (hb.mono hHeld.size)) (fun hHeld => ?_)
  clear hK K hb
  refine tk 4 hHeld ?_
  refine rd0 ?_
  have HF := Lib.hid hHeld
  clear hHeld
  have hF := HF.out
  have PT_8 := Lib.hid (PT_7.out.call hF)
  have BX_8 := Lib.hid (BX_7.out.call hF)
  have HT_8 := Lib.hid (gmv R_Task_ok HT_7.out hF)
  have X_8 := Lib.hid (X_7.out.mv R_Task_ok hF)
  have HB8 := Lib.hid (HB7.out.trans ((hF).mono HB7.out.size))
  have HZ9 := Lib.hid ((hF).size)
  clear PT_7 BX_7 HT_7 X_7 HB7
  clear HF hF NZ
  go_wp2
  go_ret
  exact ⟨rfl, HB8.out⟩
end Go.Proofs.Ytkghodbbgehcoaa.RepC
end
