/- Of this claim's texts the part 43: YvGv YaW4. -/
import Derived.Test.YtelhmacfljffhabGreatPV0
import Derived.Test.YtelhmacfljffhabGreatPV1
import Derived.Test.YtelhmacfljffhabGreatPV2
import Derived.Test.YtelhmacfljffhabGreatPV3
import Derived.Test.YtelhmacfljffhabGreatPV4
import Derived.Test.YtelhmacfljffhabGreatPV5
import Derived.Test.YtelhmacfljffhabGreatPV6
import Derived.Test.YtelhmacfljffhabGreatPV7
import Derived.Test.YtelhmacfljffhabGreatPV8
import Derived.Test.YtelhmacfljffhabGreatPV9
import Derived.Test.YtelhmacfljffhabGreatPV10
import Derived.Test.YtelhmacfljffhabGreatPV11
import Derived.Test.YtelhmacfljffhabGreatPV12
import Derived.Test.YtelhmacfljffhabGreatPV13
import Derived.Test.YtelhmacfljffhabGreatPV14
import Derived.Test.YtelhmacfljffhabGreatPV15
import Derived.Test.YtelhmacfljffhabGreatPV16
import Derived.Test.YtelhmacfljffhabGreatPV17
import Derived.Test.YtelhmacfljffhabGreatPV18
import Derived.Test.YtelhmacfljffhabGreatPV19
import Derived.Test.YtelhmacfljffhabGreatPV20
import Derived.Test.YtelhmacfljffhabGreatPV21
import Derived.Test.YtelhmacfljffhabGreatPV22
import Derived.Test.YtelhmacfljffhabGreatPV23
import Derived.Test.YtelhmacfljffhabGreatPV24
import Derived.Test.YtelhmacfljffhabGreatPV25
import Derived.Test.YtelhmacfljffhabGreatPV26
import Derived.Test.YtelhmacfljffhabGreatPV27
import Derived.Test.YtelhmacfljffhabGreatPV28
import Derived.Test.YtelhmacfljffhabGreatPV29
import Derived.Test.YtelhmacfljffhabGreatPV30
import Derived.Test.YtelhmacfljffhabGreatPV31
import Derived.Test.YtelhmacfljffhabGreatPV32
import Derived.Test.YtelhmacfljffhabGreatPV33
import Derived.Test.YtelhmacfljffhabGreatPV34
import Derived.Test.YtelhmacfljffhabGreatPV35
import Derived.Test.YtelhmacfljffhabGreatPV36
import Derived.Test.YtelhmacfljffhabGreatPV37
import Derived.Test.YtelhmacfljffhabGreatPV38
import Derived.Test.YtelhmacfljffhabGreatPV39
import Derived.Test.YtelhmacfljffhabGreatPV40
import Derived.Test.YtelhmacfljffhabGreatPV41
import Derived.Test.YtelhmacfljffhabGreatPV42
section
namespace Go.Proofs.YtelhmacfljffhabGreat.RepC
open Go.RowKit RowC ValC SpanC KeptC NameC CfC
set_option linter.unusedVariables false
set_option linter.unusedSimpArgs false
theorem gview_spec {y : D_Yard} {cs : List Value} {l s : Int} {W : World} (h : R_Yard.rd W W.heap.size y cs) : Calls Tryz.prog 5 #[.agg cs.toArray, .agg #[.int .i64 l, .int .i64 s]] W fun e w' => e = .returned (.string (viewV y (l, s))) ∧ Below W.heap.size W w' := by
  obtain ⟨⟨C, P, Q, hf⟩, N, T, U, now⟩ := y
  obtain ⟨a0, c0, a1, c1, a2, c2, a3, c3, a4, c4, a5, c5, rfl, k0, k1, k2, k3, k4, k5⟩ := rd_Yard h
  exact view_spec k0 k1 k2 k3 k4 k5
theorem gview_impl {y : D_Yard} {cs : List Value} {l s : Int} {W : World} (h : R_Yard.rd W W.heap.size y cs) : Calls Tryz.prog 8 #[.agg cs.toArray, .agg #[.int .i64 l, .int .i64 s]] W fun e w' => e = .returned (.string (viewV y (l, s))) ∧ Below W.heap.size W w' := by
  obtain ⟨⟨C, P, Q, hf⟩, N, T, U, now⟩ := y
  obtain ⟨a0, c0, a1, c1, a2, c2, a3, c3, a4, c4, a5, c5, rfl, k0, k1, k2, k3, k4, k5⟩ := rd_Yard h
  exact view_impl k0 k1 k2 k3 k4 k5
end Go.Proofs.YtelhmacfljffhabGreat.RepC
end
section
namespace Go.Proofs.YtelhmacfljffhabGreat.RepC
open Go.RowKit RowC ValC SpanC KeptC
set_option linter.unusedVariables false
set_option linter.unusedSimpArgs false
set_option maxRecDepth 100000 in
set_option maxHeartbeats 4000000 in
theorem law_yardview {YL0 : List (List (D_Label))} {YL1 : List (D_Pair)} {YL2 : List (D_Quota)} {Yx3 : Int} {YL3 : List (D_Node)} {YL4 : List (D_Task)} {YL5 : List (D_Use)} {Yx7 : Int} {Ya0 : Option Addr} {Yc0 : Nat} {Ya1 : Option Addr} {Yc1 : Nat} {Ya2 : Option Addr} {Yc2 : Nat} {Ya3 : Option Addr} {Yc3 : Nat} {Ya4 : Option Addr} {Yc4 : Nat} {Ya5 : Option Addr} {Yc5 : Nat} {Xx0 : Int} {Xx1 : Int}  {W : World} (hY : R_Yard.rd W W.heap.size ((YL0, YL1, YL2, Yx3), YL3, YL4, YL5, Yx7) [.slice Ya0 YL0.length Yc0, .slice Ya1 YL1.length Yc1, .slice Ya2 YL2.length Yc2, .int .i64 Yx3, .slice Ya3 YL3.length Yc3, .slice Ya4 YL4.length Yc4, .slice Ya5 YL5.length Yc5, .int .i64 Yx7]) :
    Calls Tryz.prog 3 #[.agg #[.slice Ya0 YL0.length Yc0, .slice Ya1 YL1.length Yc1, .slice Ya2 YL2.length Yc2, .int .i64 Yx3, .slice Ya3 YL3.length Yc3, .slice Ya4 YL4.length Yc4, .slice Ya5 YL5.length Yc5, .int .i64 Yx7], .agg #[.int .i64 Xx0, .int .i64 Xx1]] W fun e w' => e = .returned (.bool true) ∧ Below W.heap.size W w' := by
  have HY := Lib.hid hY
  have HY0 := Lib.hid hY
  clear hY
  have hbA : Below (W).heap.size (W) (W.alloc (.cells #[.slice Ya0 YL0.length Yc0, .slice Ya1 YL1.length Yc1, .slice Ya2 YL2.length Yc2, .int .i64 Yx3, .slice Ya3 YL3.length Yc3, .slice Ya4 YL4.length Yc4, .slice Ya5 YL5.length Yc5, .int .i64 Yx7] 31)) := (Below.refl _ _).alloc (Nat.le_refl _) _
  have HY_1 := Lib.hid (gmv R_Yard_ok HY.out hbA)
  have HB1 := Lib.hid (show Below W.heap.size W (W.alloc (.cells #[.slice Ya0 YL0.length Yc0, .slice Ya1 YL1.length Yc1, .slice Ya2 YL2.length Yc2, .int .i64 Yx3, .slice Ya3 YL3.length Yc3, .slice Ya4 YL4.length Yc4, .slice Ya5 YL5.length Yc5, .int .i64 Yx7] 31)) from hbA)
  have HZ1 := Lib.hid ((hbA).size)
  clear HY
  have PY_1 := Blk.new (W) 31 #[.slice Ya0 YL0.length Yc0, .slice Ya1 YL1.length Yc1, .slice Ya2 YL2.length Yc2, .int .i64 Yx3, .slice Ya3 YL3.length Yc3, .slice Ya4 YL4.length Yc4, .slice Ya5 YL5.length Yc5, .int .i64 Yx7]
  have PYh_1 := Lib.hid PY_1
  clear PY_1 hbA
  have hbA : Below (W.alloc (.cells #[.slice Ya0 YL0.length Yc0, .slice Ya1 YL1.length Yc1, .slice Ya2 YL2.length Yc2, .int .i64 Yx3, .slice Ya3 YL3.length Yc3, .slice Ya4 YL4.length Yc4, .slice Ya5 YL5.length Yc5, .int .i64 Yx7] 31)).heap.size (W.alloc (.cells #[.slice Ya0 YL0.length Yc0, .slice Ya1 YL1.length Yc1, .slice Ya2 YL2.length Yc2, .int .i64 Yx3, .slice Ya3 YL3.length Yc3, .slice Ya4 YL4.length Yc4, .slice Ya5 YL5.length Yc5, .int .i64 Yx7] 31)) ((W.alloc (.cells #[.slice Ya0 YL0.length Yc0, .slice Ya1 YL1.length Yc1, .slice Ya2 YL2.length Yc2, .int .i64 Yx3, .slice Ya3 YL3.length Yc3, .slice Ya4 YL4.length Yc4, .slice Ya5 YL5.length Yc5, .int .i64 Yx7] 31)).alloc (.cells #[.int .i64 Xx0, .int .i64 Xx1] 33)) := (Below.refl _ _).alloc (Nat.le_refl _) _
  have PY_2 := Lib.hid (PYh_1.out.call hbA)
  have HY_2 := Lib.hid (gmv R_Yard_ok HY_1.out hbA)
  have HB2 := Lib.hid (HB1.out.trans ((hbA).mono HB1.out.size))
  have HZ2 := Lib.hid ((hbA).size)
  clear PYh_1 HY_1 HB1
  have PX_2 := Blk.new (W.alloc (.cells #[.slice Ya0 YL0.length Yc0, .slice Ya1 YL1.length Yc1, .slice Ya2 YL2.length Yc2, .int .i64 Yx3, .slice Ya3 YL3.length Yc3, .slice Ya4 YL4.length Yc4, .slice Ya5 YL5.length Yc5, .int .i64 Yx7] 31)) 33 #[.int .i64 Xx0, .int .i64 Xx1]
  have PXh_2 := Lib.hid PX_2
  clear PX_2 hbA
  have hq := PXh_2.out
  simp only [World.size_alloc] at hq
  clear PXh_2
  have PXh_2 := Lib.hid hq
  clear hq
  by_cases hsz : R_Yard.sz ((YL0, YL1, YL2, Yx3), YL3, YL4, YL5, Yx7) ≤ 1048576
  rotate_left
  · skip
    go_enter Tryz.func3, Tryz.ntmps3
    have qPY_0 := PY_2.out.at_ 0 rfl
    have qPY_1 := PY_2.out.at_ 1 rfl
    have qPY_2 := PY_2.out.at_ 2 rfl
    have qPY_3 := PY_2.out.at_ 3 rfl
    have qPY_4 := PY_2.out.at_ 4 rfl
    have qPY_5 := PY_2.out.at_ 5 rfl
    have qPY_6 := PY_2.out.at_ 6 rfl
    have qPY_7 := PY_2.out.at_ 7 rfl
    have qPX_0 := PXh_2.out.at_ 0 rfl
    have qPX_1 := PXh_2.out.at_ 1 rfl
    go_wp2_with fail
    refine (gsz_Yard (by omega) (by omega) HY_2.out).mono ?_
    intro e w3 h
    obtain ⟨rfl, hb⟩ := szC_elim h
    rw [szR_no (by omega)]
    clear qPY_0 qPY_1 qPY_2 qPY_3 qPY_4 qPY_5 qPY_6 qPY_7 qPX_0 qPX_1
    have PY_3 := Lib.hid (PY_2.out.call hb)
    have PX_3 := Lib.hid (PXh_2.out.call hb)
    have HY_3 := Lib.hid (gmv R_Yard_ok HY_2.out hb)
    have HB3 := Lib.hid (HB2.out.trans ((hb).mono HB2.out.size))
    have HZ3 := Lib.hid ((hb).size)
    clear PY_2 PXh_2 HY_2 HB2
    clear h hb
    go_wp2
    go_ret
    exact ⟨rfl, HB3.out⟩
  have HSZY := Lib.hid hsz
  have HSAY := Lib.hid (hsz)
  obtain ⟨m, hm⟩ : ∃ m : Nat, R_Yard.sz ((YL0, YL1, YL2, Yx3), YL3, YL4, YL5, Yx7) = m := ⟨_, rfl⟩
  have HM := Lib.hid hm
  rw [hm] at hsz
  clear hm
  have hlt1 : decide ((1048576 : Int) - (m : Int) < 0) = false := decide_eq_false (by omega)
  obtain ⟨dR, hD⟩ : ∃ d, viewV ((YL0, YL1, YL2, Yx3), YL3, YL4, YL5, Yx7) (Xx0, Xx1) = d := ⟨_, rfl⟩
  have HDD := Lib.hid hD
  clear hD
  go_enter Tryz.func3, Tryz.ntmps3
  have qPY_0 := PY_2.out.at_ 0 rfl
  have qPY_1 := PY_2.out.at_ 1 rfl
  have qPY_2 := PY_2.out.at_ 2 rfl
  have qPY_3 := PY_2.out.at_ 3 rfl
  have qPY_4 := PY_2.out.at_ 4 rfl
  have qPY_5 := PY_2.out.at_ 5 rfl
  have qPY_6 := PY_2.out.at_ 6 rfl
  have qPY_7 := PY_2.out.at_ 7 rfl
  have qPX_0 := PXh_2.out.at_ 0 rfl
  have qPX_1 := PXh_2.out.at_ 1 rfl
  go_wp2_with fail
  refine (gsz_Yard (by omega) (by omega) HY_2.out).mono ?_
  intro e w3 h
  obtain ⟨rfl, hb⟩ := szC_elim h
  rw [HM.out, szR_yes (by omega)]
  clear qPY_0 qPY_1 qPY_2 qPY_3 qPY_4 qPY_5 qPY_6 qPY_7 qPX_0 qPX_1
  have PY_3 := Lib.hid (PY_2.out.call hb)
  have PX_3 := Lib.hid (PXh_2.out.call hb)
  have HY_3 := Lib.hid (gmv R_Yard_ok HY_2.out hb)
  have HB3 := Lib.hid (HB2.out.trans ((hb).mono HB2.out.size))
  have HZ3 := Lib.hid ((hb).size)
  clear PY_2 PXh_2 HY_2 HB2
  clear hsz
  clear h hb
  have HPL := Lib.hid (PX_3.out.lt)
  go_wp2_with fail
  refine wp_region_held_drew (S := (fun V => Below (w3).heap.size (w3) V)) (by kernel_rfl) ((Below.refl _ _).drew) (fun hHeld => ?_)
  refine tk 0 hHeld ?_ (hy := fun w hSw => by (try dsimp only at hSw); have k0 := (hSw.cell (p := ⟨W.heap.size, 0, none⟩) PY_3.out.lt).trans (PY_3.out.at_ 0 rfl); have k1 := (hSw.cell (p := ⟨W.heap.size, 1, none⟩) PY_3.out.lt).trans (PY_3.out.at_ 1 rfl); have k2 := (hSw.cell (p := ⟨W.heap.size, 2, none⟩) PY_3.out.lt).trans (PY_3.out.at_ 2 rfl); have k3 := (hSw.cell (p := ⟨W.heap.size, 3, none⟩) PY_3.out.lt).trans (PY_3.out.at_ 3 rfl); have k4 := (hSw.cell (p := ⟨W.heap.size, 4, none⟩) PY_3.out.lt).trans (PY_3.out.at_ 4 rfl); have k5 := (hSw.cell (p := ⟨W.heap.size, 5, none⟩) PY_3.out.lt).trans (PY_3.out.at_ 5 rfl); have k6 := (hSw.cell (p := ⟨W.heap.size, 6, none⟩) PY_3.out.lt).trans (PY_3.out.at_ 6 rfl); have k7 := (hSw.cell (p := ⟨W.heap.size, 7, none⟩) PY_3.out.lt).trans (PY_3.out.at_ 7 rfl); clear hSw; go_simp; try with_reducible rfl)
  refine tk 2 hHeld ?_ (hy := fun w hSw => by (try dsimp only at hSw); have k0 := (hSw.cell (p := ⟨(W.heap.size + 1), 0, none⟩) PX_3.out.lt).trans (PX_3.out.at_ 0 rfl); have k1 := (hSw.cell (p := ⟨(W.heap.size + 1), 1, none⟩) PX_3.out.lt).trans (PX_3.out.at_ 1 rfl); clear hSw; go_simp; try with_reducible rfl)
  refine rd1 1 (fun K hK => ?_)
  go_simp
  go_at_call 6
  refine (gto_Yard HSZY.out (gmv R_Yard_ok HY_3.out hHeld)).mono ?_
  intro e w301 h
  obtain ⟨us, rfl, hu, hb⟩ := newV_elim h
  obtain ⟨aY0301, cY0301, aY1301, cY1301, aY2301, cY2301, aY3301, cY3301, aY4301, cY4301, aY5301, cY5301, rfl, hu⟩ := owc_Yard hu
  have NY := Lib.hid (owG_new hu)
  clear h hu
  refine hK.out _ _ (hHeld.trans (hb.mono hHeld.size)) (fun hHeld => ?_)
  clear hK K hb
  refine rd1 3 (fun K hK => ?_)
  go_simp
  go_at_call 7
  refine (to_Label (by simp only [R_Label, Pr, I, atom] <;> omega)).mono ?_
  intro e w302 h
  obtain ⟨us, rfl, hu, hb⟩ := newV_elim h
  obtain rfl := ow0_Label hu
  have NY := Lib.hid (NY.out.mv R_Yard_ok hb)
  clear h hu
  refine hK.out _ _ (hHeld.trans (hb.mono hHeld.size)) (fun hHeld => ?_)
  clear hK K hb
  refine rd1 4 (fun K hK => ?_)
  go_simp
  go_at_call 5
  refine (gview_spec (NY.out.rd R_Yard_ok)).mono ?_
  intro e w303 h
  rw [HDD.out] at h
  obtain ⟨rfl, hb⟩ := h
  have h := hb
  clear h
  refine hK.out _ _ (hHeld.trans (hb.mono hHeld.size)) (fun hHeld => ?_)
  clear hK K hb
  refine tk 5 hHeld ?_
  refine rd0 ?_
  have HF := Lib.hid hHeld
  clear hHeld
  have hF := HF.out
  have PY_4 := Lib.hid (PY_3.out.call hF)
  have PX_4 := Lib.hid (PX_3.out.call hF)
  have HY_4 := Lib.hid (gmv R_Yard_ok HY_3.out hF)
  have HB4 := Lib.hid (HB3.out.trans ((hF).mono HB3.out.size))
  have HZ4 := Lib.hid ((hF).size)
  clear PY_3 PX_3 HY_3 HB3
  clear HF hF
  clear NY
  have qPY_0 := PY_4.out.at_ 0 rfl
  have qPY_1 := PY_4.out.at_ 1 rfl
  have qPY_2 := PY_4.out.at_ 2 rfl
  have qPY_3 := PY_4.out.at_ 3 rfl
  have qPY_4 := PY_4.out.at_ 4 rfl
  have qPY_5 := PY_4.out.at_ 5 rfl
  have qPY_6 := PY_4.out.at_ 6 rfl
  have qPY_7 := PY_4.out.at_ 7 rfl
  go_wp2_with fail
  refine (gto_Yard HSZY.out HY_4.out).mono ?_
  intro e w5 h
  obtain ⟨us, rfl, hu, hb⟩ := newV_elim h
  obtain ⟨aY05, cY05, aY15, cY15, aY25, cY25, aY35, cY35, aY45, cY45, aY55, cY55, rfl, hu⟩ := owc_Yard hu
  clear qPY_0 qPY_1 qPY_2 qPY_3 qPY_4 qPY_5 qPY_6 qPY_7
  have PY_5 := Lib.hid (PY_4.out.call hb)
  have PX_5 := Lib.hid (PX_4.out.call hb)
  have HY_5 := Lib.hid (gmv R_Yard_ok HY_4.out hb)
  have HB5 := Lib.hid (HB4.out.trans ((hb).mono HB4.out.size))
  have HZ5 := Lib.hid ((hb).size)
  clear PY_4 PX_4 HY_4 HB4
  have X_5 := Lib.hid (owG_new hu)
  have HSX := Lib.hid (fun k (hk : Rg w303.heap.size w5.heap.size k) => hk)
  clear hu
  clear h hb
  have hbA : Below (w5).heap.size (w5) (w5.alloc (.cells #[.slice aY05 YL0.length cY05, .slice aY15 YL1.length cY15, .slice aY25 YL2.length cY25, .int .i64 Yx3, .slice aY35 YL3.length cY35, .slice aY45 YL4.length cY45, .slice aY55 YL5.length cY55, .int .i64 Yx7] 45)) := (Below.refl _ _).alloc (Nat.le_refl _) _
  have PY_6 := Lib.hid (PY_5.out.call hbA)
  have PX_6 := Lib.hid (PX_5.out.call hbA)
  have HY_6 := Lib.hid (gmv R_Yard_ok HY_5.out hbA)
  have X_6 := Lib.hid (X_5.out.mv R_Yard_ok hbA)
  have HB6 := Lib.hid (HB5.out.trans ((hbA).mono HB5.out.size))
  have HZ6 := Lib.hid ((hbA).size)
  clear PY_5 PX_5 HY_5 X_5 HB5
  have BX_6 := Blk.new (w5) 45 #[.slice aY05 YL0.length cY05, .slice aY15 YL1.length cY15, .slice aY25 YL2.length cY25, .int .i64 Yx3, .slice aY35 YL3.length cY35, .slice aY45 YL4.length cY45, .slice aY55 YL5.length cY55, .int .i64 Yx7]
  have BXh_6 := Lib.hid BX_6
  clear BX_6 hbA
  have HZ7 := Lib.hid ((show (w5.alloc (.cells #[.slice aY05 YL0.length cY05, .slice aY15 YL1.length cY15, .slice aY25 YL2.length cY25, .int .i64 Yx3, .slice aY35 YL3.length cY35, .slice aY45 YL4.length cY45, .slice aY55 YL5.length cY55, .int .i64 Yx7] 45)).heap.size = w5.heap.size + 1 by simp))
  obtain ⟨wz6, hwz6⟩ : ∃ w, w = w5.alloc (.cells #[.slice aY05 YL0.length cY05, .slice aY15 YL1.length cY15, .slice aY25 YL2.length cY25, .int .i64 Yx3, .slice aY35 YL3.length cY35, .slice aY45 YL4.length cY45, .slice aY55 YL5.length cY55, .int .i64 Yx7] 45) := ⟨_, rfl⟩
  rw [← hwz6] at PY_6 PX_6 BXh_6 HY_6 X_6 HB6 HZ6 HZ7
  go_wp2_with fail
  rw [← hwz6]
  clear hwz6
  refine wp_region_held_drew (S := (fun V => Below (wz6).heap.size (wz6) V)) (by kernel_rfl) ((Below.refl _ _).drew) (fun hHeld => ?_)
  refine tk 0 hHeld ?_ (hy := fun w hSw => by (try dsimp only at hSw); have k0 := (hSw.cell (p := ⟨w5.heap.size, 0, none⟩) BXh_6.out.lt).trans (BXh_6.out.at_ 0 rfl); have k1 := (hSw.cell (p := ⟨w5.heap.size, 1, none⟩) BXh_6.out.lt).trans (BXh_6.out.at_ 1 rfl); have k2 := (hSw.cell (p := ⟨w5.heap.size, 2, none⟩) BXh_6.out.lt).trans (BXh_6.out.at_ 2 rfl); have k3 := (hSw.cell (p := ⟨w5.heap.size, 3, none⟩) BXh_6.out.lt).trans (BXh_6.out.at_ 3 rfl); have k4 := (hSw.cell (p := ⟨w5.heap.size, 4, none⟩) BXh_6.out.lt).trans (BXh_6.out.at_ 4 rfl); have k5 := (hSw.cell (p := ⟨w5.heap.size, 5, none⟩) BXh_6.out.lt).trans (BXh_6.out.at_ 5 rfl); have k6 := (hSw.cell (p := ⟨w5.heap.size, 6, none⟩) BXh_6.out.lt).trans (BXh_6.out.at_ 6 rfl); have k7 := (hSw.cell (p := ⟨w5.heap.size, 7, none⟩) BXh_6.out.lt).trans (BXh_6.out.at_ 7 rfl); clear hSw; go_simp; try with_reducible rfl)
  refine tk 1 hHeld ?_ (hy := fun w hSw => by (try dsimp only at hSw); have k0 := (hSw.cell (p := ⟨(W.heap.size + 1), 0, none⟩) PX_6.out.lt).trans (PX_6.out.at_ 0 rfl); have k1 := (hSw.cell (p := ⟨(W.heap.size + 1), 1, none⟩) PX_6.out.lt).trans (PX_6.out.at_ 1 rfl); clear hSw; go_simp; try with_reducible rfl)
  refine rd1 2 (fun K hK => ?_)
  go_simp
  go_at_call 7
  refine (to_Label (by simp only [R_Label, Pr, I, atom] <;> omega)).mono ?_
  intro e w601 h
  obtain ⟨us, rfl, hu, hb⟩ := newV_elim h
  obtain rfl := ow0_Label hu
  clear h hu
  refine hK.out _ _ (hHeld.trans (hb.mono hHeld.size)) (fun hHeld => ?_)
  clear hK K hb
  refine rd1 3 (fun K hK => ?_)
  go_simp
  go_at_call 8
  refine (gview_impl (gmv R_Yard_ok (X_6.out.rd R_Yard_ok) hHeld)).mono ?_
  intro e w602 h
  rw [HDD.out] at h
  obtain ⟨rfl, hb⟩ := h
  have h := hb
  clear h
  refine hK.out _ _ (hHeld.trans (hb.mono hHeld.size)) (fun hHeld => ?_)
  clear hK K hb
  refine tk 4 hHeld ?_
  refine rd0 ?_
  have HF := Lib.hid hHeld
  clear hHeld
  have hF := HF.out
  have PY_7 := Lib.hid (PY_6.out.call hF)
  have PX_7 := Lib.hid (PX_6.out.call hF)
  have BX_7 := Lib.hid (BXh_6.out.call hF)
  have HY_7 := Lib.hid (gmv R_Yard_ok HY_6.out hF)
  have X_7 := Lib.hid (X_6.out.mv R_Yard_ok hF)
  have HB7 := Lib.hid (HB6.out.trans ((hF).mono HB6.out.size))
  have HZ8 := Lib.hid ((hF).size)
  clear PY_6 PX_6 BXh_6 HY_6 X_6 HB6
  clear HF hF
  go_wp2_with fail
  refine wp_region_held_drew (S := (fun V => Below (w602).heap.size (w602) V)) (by kernel_rfl) ((Below.refl _ _).drew) (fun hHeld => ?_)
  refine tk 0 hHeld ?_ (hy := fun w hSw => by (try dsimp only at hSw); have k0 := (hSw.cell (p := ⟨w5.heap.size, 0, none⟩) BX_7.out.lt).trans (BX_7.out.at_ 0 rfl); have k1 := (hSw.cell (p := ⟨w5.heap.size, 1, none⟩) BX_7.out.lt).trans (BX_7.out.at_ 1 rfl); have k2 := (hSw.cell (p := ⟨w5.heap.size, 2, none⟩) BX_7.out.lt).trans (BX_7.out.at_ 2 rfl); have k3 := (hSw.cell (p := ⟨w5.heap.size, 3, none⟩) BX_7.out.lt).trans (BX_7.out.at_ 3 rfl); have k4 := (hSw.cell (p := ⟨w5.heap.size, 4, none⟩) BX_7.out.lt).trans (BX_7.out.at_ 4 rfl); have k5 := (hSw.cell (p := ⟨w5.heap.size, 5, none⟩) BX_7.out.lt).trans (BX_7.out.at_ 5 rfl); have k6 := (hSw.cell (p := ⟨w5.heap.size, 6, none⟩) BX_7.out.lt).trans (BX_7.out.at_ 6 rfl); have k7 := (hSw.cell (p := ⟨w5.heap.size, 7, none⟩) BX_7.out.lt).trans (BX_7.out.at_ 7 rfl); clear hSw; go_simp; try with_reducible rfl)
  refine tk 1 hHeld ?_ (hy := fun w hSw => by (try dsimp only at hSw); have k0 := (hSw.cell (p := ⟨W.heap.size, 0, none⟩) PY_7.out.lt).trans (PY_7.out.at_ 0 rfl); have k1 := (hSw.cell (p := ⟨W.heap.size, 1, none⟩) PY_7.out.lt).trans (PY_7.out.at_ 1 rfl); have k2 := (hSw.cell (p := ⟨W.heap.size, 2, none⟩) PY_7.out.lt).trans (PY_7.out.at_ 2 rfl); have k3 := (hSw.cell (p := ⟨W.heap.size, 3, none⟩) PY_7.out.lt).trans (PY_7.out.at_ 3 rfl); have k4 := (hSw.cell (p := ⟨W.heap.size, 4, none⟩) PY_7.out.lt).trans (PY_7.out.at_ 4 rfl); have k5 := (hSw.cell (p := ⟨W.heap.size, 5, none⟩) PY_7.out.lt).trans (PY_7.out.at_ 5 rfl); have k6 := (hSw.cell (p := ⟨W.heap.size, 6, none⟩) PY_7.out.lt).trans (PY_7.out.at_ 6 rfl); have k7 := (hSw.cell (p := ⟨W.heap.size, 7, none⟩) PY_7.out.lt).trans (PY_7.out.at_ 7 rfl); clear hSw; go_simp; try with_reducible rfl)
  refine rd1 2 (fun K hK => ?_)
  go_simp
  go_at_call 6
  refine (gto_Yard HSZY.out (gmv R_Yard_ok HY_7.out hHeld)).mono ?_
  intro e w701 h
  obtain ⟨us, rfl, hu, hb⟩ := newV_elim h
  obtain ⟨aY0701, cY0701, aY1701, cY1701, aY2701, cY2701, aY3701, cY3701, aY4701, cY4701, aY5701, cY5701, rfl, hu⟩ := owc_Yard hu
  have NZ := Lib.hid (owG_new hu)
  clear h hu
  refine hK.out _ _ (hHeld.trans (hb.mono hHeld.size)) (fun hHeld => ?_)
  clear hK K hb
  refine rd1 3 (fun K hK => ?_)
  go_simp
  go_at_call 9
  refine (geq_Yard (gmv R_Yard_ok (X_7.out.rd R_Yard_ok) hHeld) (NZ.out.rd R_Yard_ok)).mono ?_
  intro e w702 h
  obtain ⟨rfl, hb⟩ := isB_elim h
  clear h
  refine hK.out _ _ (hHeld.trans (hb.mono hHeld.size)) (fun hHeld => ?_)
  clear hK K hb
  refine tk 4 hHeld ?_
  refine rd0 ?_
  have HF := Lib.hid hHeld
  clear hHeld
  have hF := HF.out
  have PY_8 := Lib.hid (PY_7.out.call hF)
  have PX_8 := Lib.hid (PX_7.out.call hF)
  have BX_8 := Lib.hid (BX_7.out.call hF)
  have HY_8 := Lib.hid (gmv R_Yard_ok HY_7.out hF)
  have X_8 := Lib.hid (X_7.out.mv R_Yard_ok hF)
  have HB8 := Lib.hid (HB7.out.trans ((hF).mono HB7.out.size))
  have HZ9 := Lib.hid ((hF).size)
  clear PY_7 PX_7 BX_7 HY_7 X_7 HB7
  clear HF hF NZ
  go_wp2
  go_ret
  exact ⟨rfl, HB8.out⟩
end Go.Proofs.YtelhmacfljffhabGreat.RepC
end
