/- TaskOf of both sides: contracts. -/
import Derived.Test.YtkghodbbgehcoaaTaC1
import Derived.Test.YtkghodbbgehcoaaTaR4
namespace Go.Proofs.Ytkghodbbgehcoaa.RepC
open Go.RowKit RowC ValC SpanC KeptC NameC
set_option linter.unusedVariables false
set_option linter.unusedSimpArgs false

def zeroT : D_Task := ((0, 0), 0, ⟨#[]⟩, 0, 0, 0, (0, 0), 0, 0, 0, 0, [])
/-- the task with that key in a right list, or none -/
noncomputable def taskOf (L : List D_Task) (a : D_Label × Int) : D_Task := if tasksB L = true ∧ 0 ≤ atT L a then (L[(atT L a).toNat]?).getD zeroT else zeroT
theorem taskOf_not {L : List D_Task} {a : D_Label × Int} (h : tasksB L = false) : taskOf L a = zeroT := if_neg fun h2 => by rw [h] at h2; exact absurd h2.1 (by decide)
theorem taskOf_none {L : List D_Task} {a : D_Label × Int} (h : atT L a = -1) : taskOf L a = zeroT := if_neg fun h2 => by rw [h] at h2; exact absurd h2.2 (by decide)
theorem taskOf_hit {L : List D_Task} {a : D_Label × Int} {k : Nat} {x : D_Task} (h : tasksB L = true) (hk : atT L a = (k : Int)) (hx : L[k]? = some x) : taskOf L a = x := by
  unfold taskOf
  rw [if_pos ⟨h, by omega⟩, hk, Int.toNat_natCast, hx]
  rfl
theorem newT_zero {w w' : World} (hb : Below w.heap.size w w') : NewV R_Task zeroT w (.returned (.agg #[.int .i64 0, .int .i64 0, .int .i64 0, .string ⟨#[]⟩, .int .i64 0, .int .i64 0, .int .i64 0, .int .i64 0, .int .i64 0, .int .i64 0, .int .i64 0, .int .i64 0, .int .i64 0, .slice none 0 0])) w' :=
  ⟨[.int .i64 0, .int .i64 0, .int .i64 0, .string ⟨#[]⟩, .int .i64 0, .int .i64 0, .int .i64 0, .int .i64 0, .int .i64 0, .int .i64 0, .int .i64 0, .int .i64 0, .int .i64 0, .slice none 0 0], rfl, mkow_Task (T0 := fun _ => False) (L0 := []) (fun k h => h.elim) ⟨Nat.le_refl _, Nat.zero_le _, fun h => absurd h (Nat.lt_irrefl _)⟩ (by decide), hb⟩
theorem sz_in {L : List D_Task} {k : Nat} {x : D_Task} (hsz : (Sl R_Task).sz L ≤ 1048576) (hx : L[k]? = some x) : (tOwner x).size ≤ 1048576 ∧ (tNodes x).length ≤ 1048576 := by
  have h1 := sz_at (f := R_Task.sz) hx hsz
  rw [sz_task] at h1
  omega
set_option maxRecDepth 100000 in
set_option maxHeartbeats 3200000 in
theorem taskof_spec {L : List D_Task} {a : Option Addr} {cap : Nat} {l s id : Int} {W : World} (hsz : (Sl R_Task).sz L ≤ 1048576) (h : RdSl R_Task W W.heap.size L a cap) :
    Calls Try.prog 33 #[.slice a L.length cap, .agg #[.int .i64 l, .int .i64 s], .int .i64 id] W (NewV R_Task (taskOf L ((l, s), id)) W) := by
  have hn : L.length ≤ 1048576 := Nat.le_trans (Nat.le_add_right _ _) hsz
  have HSZ := Lib.hid hsz
  have H := Lib.hid h
  clear h hsz
  have hbA : Below (W).heap.size (W) (W.alloc (.cells #[.int .i64 l, .int .i64 s] 25)) := (Below.refl _ _).alloc (Nat.le_refl _) _
  have H_1 := Lib.hid (rdt_mv R_Task_ok H.out hbA)
  have HB1 := Lib.hid (show Below W.heap.size W (W.alloc (.cells #[.int .i64 l, .int .i64 s] 25)) from hbA)
  clear H
  have P_1 := Blk.new (W) 25 #[.int .i64 l, .int .i64 s]
  have Ph_1 := Lib.hid P_1
  clear P_1 hbA
  have hbA : Below (W.alloc (.cells #[.int .i64 l, .int .i64 s] 25)).heap.size (W.alloc (.cells #[.int .i64 l, .int .i64 s] 25)) ((W.alloc (.cells #[.int .i64 l, .int .i64 s] 25)).alloc (.cells #[.int .i64 0, .int .i64 0, .int .i64 0, .string ⟨#[]⟩, .int .i64 0, .int .i64 0, .int .i64 0, .int .i64 0, .int .i64 0, .int .i64 0, .int .i64 0, .int .i64 0, .int .i64 0, .slice none 0 0] 43)) := (Below.refl _ _).alloc (Nat.le_refl _) _
  have P_2 := Lib.hid (Ph_1.out.call hbA)
  have H_2 := Lib.hid (rdt_mv R_Task_ok H_1.out hbA)
  have HB2 := Lib.hid (HB1.out.trans ((hbA).mono HB1.out.size))
  clear Ph_1 H_1 HB1
  have R_2 := Blk.new (W.alloc (.cells #[.int .i64 l, .int .i64 s] 25)) 43 #[.int .i64 0, .int .i64 0, .int .i64 0, .string ⟨#[]⟩, .int .i64 0, .int .i64 0, .int .i64 0, .int .i64 0, .int .i64 0, .int .i64 0, .int .i64 0, .int .i64 0, .int .i64 0, .slice none 0 0]
  have Rh_2 := Lib.hid R_2
  clear R_2 hbA
  have hR := Rh_2.out
  simp only [World.size_alloc] at hR
  have Rs := Lib.hid hR
  clear hR Rh_2
  go_enter Try.func33, Try.ntmps33
  go_wp2_with fail
  refine (tasks_spec (H_2.out)).mono ?_
  intro e w3 h
  obtain ⟨rfl, hb⟩ := isB_elim h
  have P_3 := Lib.hid (P_2.out.call hb)
  have R_3 := Lib.hid (Rs.out.call hb)
  have H_3 := Lib.hid (rdt_mv R_Task_ok H_2.out hb)
  have HB3 := Lib.hid (HB2.out.trans ((hb).mono HB2.out.size))
  clear P_2 Rs H_2 HB2
  clear h hb
  cases hq : tasksB L with
  | false =>
    have HQ := Lib.hid hq
    clear hq
    have HZ := Lib.hid (show taskOf L ((l, s), id) = zeroT from taskOf_not HQ.out)
    have qR_0 := R_3.out.at_ 0 rfl
    have qR_1 := R_3.out.at_ 1 rfl
    have qR_2 := R_3.out.at_ 2 rfl
    have qR_3 := R_3.out.at_ 3 rfl
    have qR_4 := R_3.out.at_ 4 rfl
    have qR_5 := R_3.out.at_ 5 rfl
    have qR_6 := R_3.out.at_ 6 rfl
    have qR_7 := R_3.out.at_ 7 rfl
    have qR_8 := R_3.out.at_ 8 rfl
    have qR_9 := R_3.out.at_ 9 rfl
    have qR_10 := R_3.out.at_ 10 rfl
    have qR_11 := R_3.out.at_ 11 rfl
    have qR_12 := R_3.out.at_ 12 rfl
    have qR_13 := R_3.out.at_ 13 rfl
    have sR_0 := R_3.out.soft 0
    have sR_1 := R_3.out.soft 1
    have sR_2 := R_3.out.soft 2
    have sR_3 := R_3.out.soft 3
    have sR_4 := R_3.out.soft 4
    have sR_5 := R_3.out.soft 5
    have sR_6 := R_3.out.soft 6
    have sR_7 := R_3.out.soft 7
    have sR_8 := R_3.out.soft 8
    have sR_9 := R_3.out.soft 9
    have sR_10 := R_3.out.soft 10
    have sR_11 := R_3.out.soft 11
    have sR_12 := R_3.out.soft 12
    have sR_13 := R_3.out.soft 13
    go_wp2
    rw [HZ.out]
    refine bodyPost_ret (v := .agg #[.int .i64 0, .int .i64 0, .int .i64 0, .string ⟨#[]⟩, .int .i64 0, .int .i64 0, .int .i64 0, .int .i64 0, .int .i64 0, .int .i64 0, .int .i64 0, .int .i64 0, .int .i64 0, .slice none 0 0]) (by simp [results, Try.results33, go_sem, *]) rfl (newT_zero ((((((((((((((HB3.out.setCell (p := ⟨W.heap.size + 1, 0, none⟩) (by show W.heap.size ≤ W.heap.size + 1; omega) (.int .i64 0)).setCell (p := ⟨W.heap.size + 1, 1, none⟩) (by show W.heap.size ≤ W.heap.size + 1; omega) (.int .i64 0)).setCell (p := ⟨W.heap.size + 1, 2, none⟩) (by show W.heap.size ≤ W.heap.size + 1; omega) (.int .i64 0)).setCell (p := ⟨W.heap.size + 1, 3, none⟩) (by show W.heap.size ≤ W.heap.size + 1; omega) (.string ⟨#[]⟩)).setCell (p := ⟨W.heap.size + 1, 4, none⟩) (by show W.heap.size ≤ W.heap.size + 1; omega) (.int .i64 0)).setCell (p := ⟨W.heap.size + 1, 5, none⟩) (by show W.heap.size ≤ W.heap.size + 1; omega) (.int .i64 0)).setCell (p := ⟨W.heap.size + 1, 6, none⟩) (by show W.heap.size ≤ W.heap.size + 1; omega) (.int .i64 0)).setCell (p := ⟨W.heap.size + 1, 7, none⟩) (by show W.heap.size ≤ W.heap.size + 1; omega) (.int .i64 0)).setCell (p := ⟨W.heap.size + 1, 8, none⟩) (by show W.heap.size ≤ W.heap.size + 1; omega) (.int .i64 0)).setCell (p := ⟨W.heap.size + 1, 9, none⟩) (by show W.heap.size ≤ W.heap.size + 1; omega) (.int .i64 0)).setCell (p := ⟨W.heap.size + 1, 10, none⟩) (by show W.heap.size ≤ W.heap.size + 1; omega) (.int .i64 0)).setCell (p := ⟨W.heap.size + 1, 11, none⟩) (by show W.heap.size ≤ W.heap.size + 1; omega) (.int .i64 0)).setCell (p := ⟨W.heap.size + 1, 12, none⟩) (by show W.heap.size ≤ W.heap.size + 1; omega) (.int .i64 0)).setCell (p := ⟨W.heap.size + 1, 13, none⟩) (by show W.heap.size ≤ W.heap.size + 1; omega) (.slice none 0 0)))
  | true =>
    have HQ := Lib.hid hq
    have HTR := Lib.hid (tasksB_iff.1 hq)
    clear hq
    have qP_0 := P_3.out.at_ 0 rfl
    have qP_1 := P_3.out.at_ 1 rfl
    go_wp2_with fail
    refine (at_spec rfl (H_3.out)).mono ?_
    intro e w4 h
    obtain ⟨rfl, hb⟩ := h
    have h := hb
    clear qP_0 qP_1
    have P_4 := Lib.hid (P_3.out.call hb)
    have R_4 := Lib.hid (R_3.out.call hb)
    have H_4 := Lib.hid (rdt_mv R_Task_ok H_3.out hb)
    have HB4 := Lib.hid (HB3.out.trans ((hb).mono HB3.out.size))
    clear P_3 R_3 H_3 HB3
    clear h hb
    rcases atT_cases L ((l, s), id) with ⟨hc, _⟩ | ⟨k, x, hc, hx, _, _⟩
    · rw [hc]
      have hng : decide ((-1 : Int) < 0) = true := rfl
      have HC := Lib.hid hc
      clear hc
      have HZ := Lib.hid (show taskOf L ((l, s), id) = zeroT from taskOf_none HC.out)
      have qR_0 := R_4.out.at_ 0 rfl
      have qR_1 := R_4.out.at_ 1 rfl
      have qR_2 := R_4.out.at_ 2 rfl
      have qR_3 := R_4.out.at_ 3 rfl
      have qR_4 := R_4.out.at_ 4 rfl
      have qR_5 := R_4.out.at_ 5 rfl
      have qR_6 := R_4.out.at_ 6 rfl
      have qR_7 := R_4.out.at_ 7 rfl
      have qR_8 := R_4.out.at_ 8 rfl
      have qR_9 := R_4.out.at_ 9 rfl
      have qR_10 := R_4.out.at_ 10 rfl
      have qR_11 := R_4.out.at_ 11 rfl
      have qR_12 := R_4.out.at_ 12 rfl
      have qR_13 := R_4.out.at_ 13 rfl
      have sR_0 := R_4.out.soft 0
      have sR_1 := R_4.out.soft 1
      have sR_2 := R_4.out.soft 2
      have sR_3 := R_4.out.soft 3
      have sR_4 := R_4.out.soft 4
      have sR_5 := R_4.out.soft 5
      have sR_6 := R_4.out.soft 6
      have sR_7 := R_4.out.soft 7
      have sR_8 := R_4.out.soft 8
      have sR_9 := R_4.out.soft 9
      have sR_10 := R_4.out.soft 10
      have sR_11 := R_4.out.soft 11
      have sR_12 := R_4.out.soft 12
      have sR_13 := R_4.out.soft 13
      go_wp2
      rw [HZ.out]
      refine bodyPost_ret (v := .agg #[.int .i64 0, .int .i64 0, .int .i64 0, .string ⟨#[]⟩, .int .i64 0, .int .i64 0, .int .i64 0, .int .i64 0, .int .i64 0, .int .i64 0, .int .i64 0, .int .i64 0, .int .i64 0, .slice none 0 0]) (by simp [results, Try.results33, go_sem, *]) rfl (newT_zero ((((((((((((((HB4.out.setCell (p := ⟨W.heap.size + 1, 0, none⟩) (by show W.heap.size ≤ W.heap.size + 1; omega) (.int .i64 0)).setCell (p := ⟨W.heap.size + 1, 1, none⟩) (by show W.heap.size ≤ W.heap.size + 1; omega) (.int .i64 0)).setCell (p := ⟨W.heap.size + 1, 2, none⟩) (by show W.heap.size ≤ W.heap.size + 1; omega) (.int .i64 0)).setCell (p := ⟨W.heap.size + 1, 3, none⟩) (by show W.heap.size ≤ W.heap.size + 1; omega) (.string ⟨#[]⟩)).setCell (p := ⟨W.heap.size + 1, 4, none⟩) (by show W.heap.size ≤ W.heap.size + 1; omega) (.int .i64 0)).setCell (p := ⟨W.heap.size + 1, 5, none⟩) (by show W.heap.size ≤ W.heap.size + 1; omega) (.int .i64 0)).setCell (p := ⟨W.heap.size + 1, 6, none⟩) (by show W.heap.size ≤ W.heap.size + 1; omega) (.int .i64 0)).setCell (p := ⟨W.heap.size + 1, 7, none⟩) (by show W.heap.size ≤ W.heap.size + 1; omega) (.int .i64 0)).setCell (p := ⟨W.heap.size + 1, 8, none⟩) (by show W.heap.size ≤ W.heap.size + 1; omega) (.int .i64 0)).setCell (p := ⟨W.heap.size + 1, 9, none⟩) (by show W.heap.size ≤ W.heap.size + 1; omega) (.int .i64 0)).setCell (p := ⟨W.heap.size + 1, 10, none⟩) (by show W.heap.size ≤ W.heap.size + 1; omega) (.int .i64 0)).setCell (p := ⟨W.heap.size + 1, 11, none⟩) (by show W.heap.size ≤ W.heap.size + 1; omega) (.int .i64 0)).setCell (p := ⟨W.heap.size + 1, 12, none⟩) (by show W.heap.size ≤ W.heap.size + 1; omega) (.int .i64 0)).setCell (p := ⟨W.heap.size + 1, 13, none⟩) (by show W.heap.size ≤ W.heap.size + 1; omega) (.slice none 0 0)))
    · rw [hc]
      have hng : decide ((k : Int) < 0) = false := decide_eq_false (by omega)
      have hil := (List.getElem?_eq_some_iff.1 hx).1
      have HZ := Lib.hid (taskOf_hit HQ.out hc hx)
      have HI := Lib.hid hx
      have HSI := sz_in HSZ.out hx
      clear hc hx
      obtain ⟨⟨x0, x1⟩, x2, x3, x4, x5, x6, ⟨x7, x8⟩, x9, x10, x11, x12, L0⟩ := x
      obtain ⟨g, o, us, rfl, hg, hu, hr⟩ := (H_4.out).at_ HI.out
      obtain ⟨a0, c0, rfl, k_L0, b_x3⟩ := rd_Task hr
      have e0 : w4.cell? ⟨g, o + k * 14, none⟩ = some (.int .i64 x0) := by simpa [size_TaskS, Nat.add_assoc] using hu 0 _ rfl
      have e1 : w4.cell? ⟨g, o + k * 14 + 1, none⟩ = some (.int .i64 x1) := by simpa [size_TaskS, Nat.add_assoc] using hu 1 _ rfl
      have e2 : w4.cell? ⟨g, o + k * 14 + 2, none⟩ = some (.int .i64 x2) := by simpa [size_TaskS, Nat.add_assoc] using hu 2 _ rfl
      have e3 : w4.cell? ⟨g, o + k * 14 + 3, none⟩ = some (.string x3) := by simpa [size_TaskS, Nat.add_assoc] using hu 3 _ rfl
      have e4 : w4.cell? ⟨g, o + k * 14 + 4, none⟩ = some (.int .i64 x4) := by simpa [size_TaskS, Nat.add_assoc] using hu 4 _ rfl
      have e5 : w4.cell? ⟨g, o + k * 14 + 5, none⟩ = some (.int .i64 x5) := by simpa [size_TaskS, Nat.add_assoc] using hu 5 _ rfl
      have e6 : w4.cell? ⟨g, o + k * 14 + 6, none⟩ = some (.int .i64 x6) := by simpa [size_TaskS, Nat.add_assoc] using hu 6 _ rfl
      have e7 : w4.cell? ⟨g, o + k * 14 + 7, none⟩ = some (.int .i64 x7) := by simpa [size_TaskS, Nat.add_assoc] using hu 7 _ rfl
      have e8 : w4.cell? ⟨g, o + k * 14 + 8, none⟩ = some (.int .i64 x8) := by simpa [size_TaskS, Nat.add_assoc] using hu 8 _ rfl
      have e9 : w4.cell? ⟨g, o + k * 14 + 9, none⟩ = some (.int .i64 x9) := by simpa [size_TaskS, Nat.add_assoc] using hu 9 _ rfl
      have e10 : w4.cell? ⟨g, o + k * 14 + 10, none⟩ = some (.int .i64 x10) := by simpa [size_TaskS, Nat.add_assoc] using hu 10 _ rfl
      have e11 : w4.cell? ⟨g, o + k * 14 + 11, none⟩ = some (.int .i64 x11) := by simpa [size_TaskS, Nat.add_assoc] using hu 11 _ rfl
      have e12 : w4.cell? ⟨g, o + k * 14 + 12, none⟩ = some (.int .i64 x12) := by simpa [size_TaskS, Nat.add_assoc] using hu 12 _ rfl
      have e13 : w4.cell? ⟨g, o + k * 14 + 13, none⟩ = some (.slice a0 L0.length c0) := by simpa [size_TaskS, Nat.add_assoc] using hu 13 _ rfl
      have hi0 : (0 : Int) ≤ (k : Int) := Int.natCast_nonneg _
      have hi1 : (k : Int) < (L.length : Int) := by omega
      have HK := Lib.hid k_L0
      have HL0 := Lib.hid (show L0.length ≤ 1048576 from HSI.2)
      have HL3 := Lib.hid (b_x3)
      have HX3 := Lib.hid b_x3
      clear hu hr k_L0 HSI
      have hlo : W.heap.size + 2 ≤ w4.heap.size := by have := R_4.out.lt; omega
      go_wp2_with fail
      refine (copyT_spec HL3.out HL0.out HK.out).mono ?_
      intro e w5 h
      obtain ⟨us, rfl, hu, hb⟩ := newV_elim h
      obtain ⟨a5, c5, T5, rfl, hT, ho, _⟩ := ow_Task hu
      have P_5 := Lib.hid (P_4.out.call hb)
      have R_5 := Lib.hid (R_4.out.call hb)
      have H_5 := Lib.hid (rdt_mv R_Task_ok H_4.out hb)
      have HB5 := Lib.hid (HB4.out.trans ((hb).mono HB4.out.size))
      clear P_4 R_4 H_4 HB4
      have HT := Lib.hid hT
      have HO := Lib.hid ho
      clear hu hT ho e0 e1 e2 e3 e4 e5 e6 e7 e8 e9 e10 e11 e12 e13
      clear h hb
      have qR_0 := R_5.out.at_ 0 rfl
      have qR_1 := R_5.out.at_ 1 rfl
      have qR_2 := R_5.out.at_ 2 rfl
      have qR_3 := R_5.out.at_ 3 rfl
      have qR_4 := R_5.out.at_ 4 rfl
      have qR_5 := R_5.out.at_ 5 rfl
      have qR_6 := R_5.out.at_ 6 rfl
      have qR_7 := R_5.out.at_ 7 rfl
      have qR_8 := R_5.out.at_ 8 rfl
      have qR_9 := R_5.out.at_ 9 rfl
      have qR_10 := R_5.out.at_ 10 rfl
      have qR_11 := R_5.out.at_ 11 rfl
      have qR_12 := R_5.out.at_ 12 rfl
      have qR_13 := R_5.out.at_ 13 rfl
      have sR_0 := R_5.out.soft 0
      have sR_1 := R_5.out.soft 1
      have sR_2 := R_5.out.soft 2
      have sR_3 := R_5.out.soft 3
      have sR_4 := R_5.out.soft 4
      have sR_5 := R_5.out.soft 5
      have sR_6 := R_5.out.soft 6
      have sR_7 := R_5.out.soft 7
      have sR_8 := R_5.out.soft 8
      have sR_9 := R_5.out.soft 9
      have sR_10 := R_5.out.soft 10
      have sR_11 := R_5.out.soft 11
      have sR_12 := R_5.out.soft 12
      have sR_13 := R_5.out.soft 13
      have hzz := HB5.out.size
      go_wp2
      rw [HZ.out]
      refine bodyPost_ret (v := .agg #[.int .i64 x0, .int .i64 x1, .int .i64 x2, .string x3, .int .i64 x4, .int .i64 x5, .int .i64 x6, .int .i64 x7, .int .i64 x8, .int .i64 x9, .int .i64 x10, .int .i64 x11, .int .i64 x12, .slice a5 L0.length c5]) (by simp [results, Try.results33, go_sem, *]) rfl ⟨[.int .i64 x0, .int .i64 x1, .int .i64 x2, .string x3, .int .i64 x4, .int .i64 x5, .int .i64 x6, .int .i64 x7, .int .i64 x8, .int .i64 x9, .int .i64 x10, .int .i64 x11, .int .i64 x12, .slice a5 L0.length c5], rfl, ?_, ((((((((((((((HB5.out.setCell (p := ⟨W.heap.size + 1, 0, none⟩) (by show W.heap.size ≤ W.heap.size + 1; omega) (.int .i64 x0)).setCell (p := ⟨W.heap.size + 1, 1, none⟩) (by show W.heap.size ≤ W.heap.size + 1; omega) (.int .i64 x1)).setCell (p := ⟨W.heap.size + 1, 2, none⟩) (by show W.heap.size ≤ W.heap.size + 1; omega) (.int .i64 x2)).setCell (p := ⟨W.heap.size + 1, 3, none⟩) (by show W.heap.size ≤ W.heap.size + 1; omega) (.string x3)).setCell (p := ⟨W.heap.size + 1, 4, none⟩) (by show W.heap.size ≤ W.heap.size + 1; omega) (.int .i64 x4)).setCell (p := ⟨W.heap.size + 1, 5, none⟩) (by show W.heap.size ≤ W.heap.size + 1; omega) (.int .i64 x5)).setCell (p := ⟨W.heap.size + 1, 6, none⟩) (by show W.heap.size ≤ W.heap.size + 1; omega) (.int .i64 x6)).setCell (p := ⟨W.heap.size + 1, 7, none⟩) (by show W.heap.size ≤ W.heap.size + 1; omega) (.int .i64 x7)).setCell (p := ⟨W.heap.size + 1, 8, none⟩) (by show W.heap.size ≤ W.heap.size + 1; omega) (.int .i64 x8)).setCell (p := ⟨W.heap.size + 1, 9, none⟩) (by show W.heap.size ≤ W.heap.size + 1; omega) (.int .i64 x9)).setCell (p := ⟨W.heap.size + 1, 10, none⟩) (by show W.heap.size ≤ W.heap.size + 1; omega) (.int .i64 x10)).setCell (p := ⟨W.heap.size + 1, 11, none⟩) (by show W.heap.size ≤ W.heap.size + 1; omega) (.int .i64 x11)).setCell (p := ⟨W.heap.size + 1, 12, none⟩) (by show W.heap.size ≤ W.heap.size + 1; omega) (.int .i64 x12)).setCell (p := ⟨W.heap.size + 1, 13, none⟩) (by show W.heap.size ≤ W.heap.size + 1; omega) (.slice a5 L0.length c5))⟩
      have hoff := (((((((((((((((Off.refl (fun x => x < W.heap.size + 2) w5).setCell (p := ⟨W.heap.size + 1, 0, none⟩) (by show W.heap.size + 1 < W.heap.size + 2; omega) (.int .i64 x0)).setCell (p := ⟨W.heap.size + 1, 1, none⟩) (by show W.heap.size + 1 < W.heap.size + 2; omega) (.int .i64 x1)).setCell (p := ⟨W.heap.size + 1, 2, none⟩) (by show W.heap.size + 1 < W.heap.size + 2; omega) (.int .i64 x2)).setCell (p := ⟨W.heap.size + 1, 3, none⟩) (by show W.heap.size + 1 < W.heap.size + 2; omega) (.string x3)).setCell (p := ⟨W.heap.size + 1, 4, none⟩) (by show W.heap.size + 1 < W.heap.size + 2; omega) (.int .i64 x4)).setCell (p := ⟨W.heap.size + 1, 5, none⟩) (by show W.heap.size + 1 < W.heap.size + 2; omega) (.int .i64 x5)).setCell (p := ⟨W.heap.size + 1, 6, none⟩) (by show W.heap.size + 1 < W.heap.size + 2; omega) (.int .i64 x6)).setCell (p := ⟨W.heap.size + 1, 7, none⟩) (by show W.heap.size + 1 < W.heap.size + 2; omega) (.int .i64 x7)).setCell (p := ⟨W.heap.size + 1, 8, none⟩) (by show W.heap.size + 1 < W.heap.size + 2; omega) (.int .i64 x8)).setCell (p := ⟨W.heap.size + 1, 9, none⟩) (by show W.heap.size + 1 < W.heap.size + 2; omega) (.int .i64 x9)).setCell (p := ⟨W.heap.size + 1, 10, none⟩) (by show W.heap.size + 1 < W.heap.size + 2; omega) (.int .i64 x10)).setCell (p := ⟨W.heap.size + 1, 11, none⟩) (by show W.heap.size + 1 < W.heap.size + 2; omega) (.int .i64 x11)).setCell (p := ⟨W.heap.size + 1, 12, none⟩) (by show W.heap.size + 1 < W.heap.size + 2; omega) (.int .i64 x12)).setCell (p := ⟨W.heap.size + 1, 13, none⟩) (by show W.heap.size + 1 < W.heap.size + 2; omega) (.slice a5 L0.length c5))
      have hsz := hoff.size
      exact mkow_Task (fun k hk => ⟨by have := (HT.out k hk).1; omega, by have := (HT.out k hk).2; omega⟩) (HO.out.keep I_ok (fun k hk => hoff.block k (HT.out k hk).2 (by have := (HT.out k hk).1; omega))) HX3.out
set_option maxRecDepth 100000 in
set_option maxHeartbeats 3200000 in
theorem taskof_impl {L : List D_Task} {a : Option Addr} {cap : Nat} {l s id : Int} {W : World} (hsz : (Sl R_Task).sz L ≤ 1048576) (h : RdSl R_Task W W.heap.size L a cap) :
    Calls Try.prog 35 #[.slice a L.length cap, .agg #[.int .i64 l, .int .i64 s], .int .i64 id] W (NewV R_Task (taskOf L ((l, s), id)) W) := by
  have hn : L.length ≤ 1048576 := Nat.le_trans (Nat.le_add_right _ _) hsz
  have HSZ := Lib.hid hsz
  have H := Lib.hid h
  clear h hsz
  have hbA : Below (W).heap.size (W) (W.alloc (.cells #[.int .i64 l, .int .i64 s] 25)) := (Below.refl _ _).alloc (Nat.le_refl _) _
  have H_1 := Lib.hid (rdt_mv R_Task_ok H.out hbA)
  have HB1 := Lib.hid (show Below W.heap.size W (W.alloc (.cells #[.int .i64 l, .int .i64 s] 25)) from hbA)
  clear H
  have P_1 := Blk.new (W) 25 #[.int .i64 l, .int .i64 s]
  have Ph_1 := Lib.hid P_1
  clear P_1 hbA
  have hbA : Below (W.alloc (.cells #[.int .i64 l, .int .i64 s] 25)).heap.size (W.alloc (.cells #[.int .i64 l, .int .i64 s] 25)) ((W.alloc (.cells #[.int .i64 l, .int .i64 s] 25)).alloc (.cells #[.int .i64 0, .int .i64 0, .int .i64 0, .string ⟨#[]⟩, .int .i64 0, .int .i64 0, .int .i64 0, .int .i64 0, .int .i64 0, .int .i64 0, .int .i64 0, .int .i64 0, .int .i64 0, .slice none 0 0] 43)) := (Below.refl _ _).alloc (Nat.le_refl _) _
  have P_2 := Lib.hid (Ph_1.out.call hbA)
  have H_2 := Lib.hid (rdt_mv R_Task_ok H_1.out hbA)
  have HB2 := Lib.hid (HB1.out.trans ((hbA).mono HB1.out.size))
  clear Ph_1 H_1 HB1
  have R_2 := Blk.new (W.alloc (.cells #[.int .i64 l, .int .i64 s] 25)) 43 #[.int .i64 0, .int .i64 0, .int .i64 0, .string ⟨#[]⟩, .int .i64 0, .int .i64 0, .int .i64 0, .int .i64 0, .int .i64 0, .int .i64 0, .int .i64 0, .int .i64 0, .int .i64 0, .slice none 0 0]
  have Rh_2 := Lib.hid R_2
  clear R_2 hbA
  have hR := Rh_2.out
  simp only [World.size_alloc] at hR
  have Rs := Lib.hid hR
  clear hR Rh_2
  go_enter Try.func35, Try.ntmps35
  go_wp2_with fail
  refine (tasks_impl (H_2.out)).mono ?_
  intro e w3 h
  obtain ⟨rfl, hb⟩ := isB_elim h
  have P_3 := Lib.hid (P_2.out.call hb)
  have R_3 := Lib.hid (Rs.out.call hb)
  have H_3 := Lib.hid (rdt_mv R_Task_ok H_2.out hb)
  have HB3 := Lib.hid (HB2.out.trans ((hb).mono HB2.out.size))
  clear P_2 Rs H_2 HB2
  clear h hb
  cases hq : tasksB L with
  | false =>
    have HQ := Lib.hid hq
    clear hq
    have HZ := Lib.hid (show taskOf L ((l, s), id) = zeroT from taskOf_not HQ.out)
    have qR_0 := R_3.out.at_ 0 rfl
    have qR_1 := R_3.out.at_ 1 rfl
    have qR_2 := R_3.out.at_ 2 rfl
    have qR_3 := R_3.out.at_ 3 rfl
    have qR_4 := R_3.out.at_ 4 rfl
    have qR_5 := R_3.out.at_ 5 rfl
    have qR_6 := R_3.out.at_ 6 rfl
    have qR_7 := R_3.out.at_ 7 rfl
    have qR_8 := R_3.out.at_ 8 rfl
    have qR_9 := R_3.out.at_ 9 rfl
    have qR_10 := R_3.out.at_ 10 rfl
    have qR_11 := R_3.out.at_ 11 rfl
    have qR_12 := R_3.out.at_ 12 rfl
    have qR_13 := R_3.out.at_ 13 rfl
    have sR_0 := R_3.out.soft 0
    have sR_1 := R_3.out.soft 1
    have sR_2 := R_3.out.soft 2
    have sR_3 := R_3.out.soft 3
    have sR_4 := R_3.out.soft 4
    have sR_5 := R_3.out.soft 5
    have sR_6 := R_3.out.soft 6
    have sR_7 := R_3.out.soft 7
    have sR_8 := R_3.out.soft 8
    have sR_9 := R_3.out.soft 9
    have sR_10 := R_3.out.soft 10
    have sR_11 := R_3.out.soft 11
    have sR_12 := R_3.out.soft 12
    have sR_13 := R_3.out.soft 13
    go_wp2
    rw [HZ.out]
    refine bodyPost_ret (v := .agg #[.int .i64 0, .int .i64 0, .int .i64 0, .string ⟨#[]⟩, .int .i64 0, .int .i64 0, .int .i64 0, .int .i64 0, .int .i64 0, .int .i64 0, .int .i64 0, .int .i64 0, .int .i64 0, .slice none 0 0]) (by simp [results, Try.results35, go_sem, *]) rfl (newT_zero ((((((((((((((HB3.out.setCell (p := ⟨W.heap.size + 1, 0, none⟩) (by show W.heap.size ≤ W.heap.size + 1; omega) (.int .i64 0)).setCell (p := ⟨W.heap.size + 1, 1, none⟩) (by show W.heap.size ≤ W.heap.size + 1; omega) (.int .i64 0)).setCell (p := ⟨W.heap.size + 1, 2, none⟩) (by show W.heap.size ≤ W.heap.size + 1; omega) (.int .i64 0)).setCell (p := ⟨W.heap.size + 1, 3, none⟩) (by show W.heap.size ≤ W.heap.size + 1; omega) (.string ⟨#[]⟩)).setCell (p := ⟨W.heap.size + 1, 4, none⟩) (by show W.heap.size ≤ W.heap.size + 1; omega) (.int .i64 0)).setCell (p := ⟨W.heap.size + 1, 5, none⟩) (by show W.heap.size ≤ W.heap.size + 1; omega) (.int .i64 0)).setCell (p := ⟨W.heap.size + 1, 6, none⟩) (by show W.heap.size ≤ W.heap.size + 1; omega) (.int .i64 0)).setCell (p := ⟨W.heap.size + 1, 7, none⟩) (by show W.heap.size ≤ W.heap.size + 1; omega) (.int .i64 0)).setCell (p := ⟨W.heap.size + 1, 8, none⟩) (by show W.heap.size ≤ W.heap.size + 1; omega) (.int .i64 0)).setCell (p := ⟨W.heap.size + 1, 9, none⟩) (by show W.heap.size ≤ W.heap.size + 1; omega) (.int .i64 0)).setCell (p := ⟨W.heap.size + 1, 10, none⟩) (by show W.heap.size ≤ W.heap.size + 1; omega) (.int .i64 0)).setCell (p := ⟨W.heap.size + 1, 11, none⟩) (by show W.heap.size ≤ W.heap.size + 1; omega) (.int .i64 0)).setCell (p := ⟨W.heap.size + 1, 12, none⟩) (by show W.heap.size ≤ W.heap.size + 1; omega) (.int .i64 0)).setCell (p := ⟨W.heap.size + 1, 13, none⟩) (by show W.heap.size ≤ W.heap.size + 1; omega) (.slice none 0 0)))
  | true =>
    have HQ := Lib.hid hq
    have HTR := Lib.hid (tasksB_iff.1 hq)
    clear hq
    have qP_0 := P_3.out.at_ 0 rfl
    have qP_1 := P_3.out.at_ 1 rfl
    go_wp2_with fail
    refine (taskat_n rfl hn (tasksR_inc HTR.out) (H_3.out)).mono ?_
    intro e w4 h
    obtain ⟨rfl, hb⟩ := h
    have h := hb
    clear qP_0 qP_1
    have P_4 := Lib.hid (P_3.out.call hb)
    have R_4 := Lib.hid (R_3.out.call hb)
    have H_4 := Lib.hid (rdt_mv R_Task_ok H_3.out hb)
    have HB4 := Lib.hid (HB3.out.trans ((hb).mono HB3.out.size))
    clear P_3 R_3 H_3 HB3
    clear h hb
    rcases atT_cases L ((l, s), id) with ⟨hc, _⟩ | ⟨k, x, hc, hx, _, _⟩
    · rw [hc]
      have hng : decide ((-1 : Int) < 0) = true := rfl
      have HC := Lib.hid hc
      clear hc
      have HZ := Lib.hid (show taskOf L ((l, s), id) = zeroT from taskOf_none HC.out)
      have qR_0 := R_4.out.at_ 0 rfl
      have qR_1 := R_4.out.at_ 1 rfl
      have qR_2 := R_4.out.at_ 2 rfl
      have qR_3 := R_4.out.at_ 3 rfl
      have qR_4 := R_4.out.at_ 4 rfl
      have qR_5 := R_4.out.at_ 5 rfl
      have qR_6 := R_4.out.at_ 6 rfl
      have qR_7 := R_4.out.at_ 7 rfl
      have qR_8 := R_4.out.at_ 8 rfl
      have qR_9 := R_4.out.at_ 9 rfl
      have qR_10 := R_4.out.at_ 10 rfl
      have qR_11 := R_4.out.at_ 11 rfl
      have qR_12 := R_4.out.at_ 12 rfl
      have qR_13 := R_4.out.at_ 13 rfl
      have sR_0 := R_4.out.soft 0
      have sR_1 := R_4.out.soft 1
      have sR_2 := R_4.out.soft 2
      have sR_3 := R_4.out.soft 3
      have sR_4 := R_4.out.soft 4
      have sR_5 := R_4.out.soft 5
      have sR_6 := R_4.out.soft 6
      have sR_7 := R_4.out.soft 7
      have sR_8 := R_4.out.soft 8
      have sR_9 := R_4.out.soft 9
      have sR_10 := R_4.out.soft 10
      have sR_11 := R_4.out.soft 11
      have sR_12 := R_4.out.soft 12
      have sR_13 := R_4.out.soft 13
      go_wp2
      rw [HZ.out]
      refine bodyPost_ret (v := .agg #[.int .i64 0, .int .i64 0, .int .i64 0, .string ⟨#[]⟩, .int .i64 0, .int .i64 0, .int .i64 0, .int .i64 0, .int .i64 0, .int .i64 0, .int .i64 0, .int .i64 0, .int .i64 0, .slice none 0 0]) (by simp [results, Try.results35, go_sem, *]) rfl (newT_zero ((((((((((((((HB4.out.setCell (p := ⟨W.heap.size + 1, 0, none⟩) (by show W.heap.size ≤ W.heap.size + 1; omega) (.int .i64 0)).setCell (p := ⟨W.heap.size + 1, 1, none⟩) (by show W.heap.size ≤ W.heap.size + 1; omega) (.int .i64 0)).setCell (p := ⟨W.heap.size + 1, 2, none⟩) (by show W.heap.size ≤ W.heap.size + 1; omega) (.int .i64 0)).setCell (p := ⟨W.heap.size + 1, 3, none⟩) (by show W.heap.size ≤ W.heap.size + 1; omega) (.string ⟨#[]⟩)).setCell (p := ⟨W.heap.size + 1, 4, none⟩) (by show W.heap.size ≤ W.heap.size + 1; omega) (.int .i64 0)).setCell (p := ⟨W.heap.size + 1, 5, none⟩) (by show W.heap.size ≤ W.heap.size + 1; omega) (.int .i64 0)).setCell (p := ⟨W.heap.size + 1, 6, none⟩) (by show W.heap.size ≤ W.heap.size + 1; omega) (.int .i64 0)).setCell (p := ⟨W.heap.size + 1, 7, none⟩) (by show W.heap.size ≤ W.heap.size + 1; omega) (.int .i64 0)).setCell (p := ⟨W.heap.size + 1, 8, none⟩) (by show W.heap.size ≤ W.heap.size + 1; omega) (.int .i64 0)).setCell (p := ⟨W.heap.size + 1, 9, none⟩) (by show W.heap.size ≤ W.heap.size + 1; omega) (.int .i64 0)).setCell (p := ⟨W.heap.size + 1, 10, none⟩) (by show W.heap.size ≤ W.heap.size + 1; omega) (.int .i64 0)).setCell (p := ⟨W.heap.size + 1, 11, none⟩) (by show W.heap.size ≤ W.heap.size + 1; omega) (.int .i64 0)).setCell (p := ⟨W.heap.size + 1, 12, none⟩) (by show W.heap.size ≤ W.heap.size + 1; omega) (.int .i64 0)).setCell (p := ⟨W.heap.size + 1, 13, none⟩) (by show W.heap.size ≤ W.heap.size + 1; omega) (.slice none 0 0)))
    · rw [hc]
      have hng : decide ((k : Int) < 0) = false := decide_eq_false (by omega)
      have hil := (List.getElem?_eq_some_iff.1 hx).1
      have HZ := Lib.hid (taskOf_hit HQ.out hc hx)
      have HI := Lib.hid hx
      have HSI := sz_in HSZ.out hx
      clear hc hx
      obtain ⟨⟨x0, x1⟩, x2, x3, x4, x5, x6, ⟨x7, x8⟩, x9, x10, x11, x12, L0⟩ := x
      obtain ⟨g, o, us, rfl, hg, hu, hr⟩ := (H_4.out).at_ HI.out
      obtain ⟨a0, c0, rfl, k_L0, b_x3⟩ := rd_Task hr
      have e0 : w4.cell? ⟨g, o + k * 14, none⟩ = some (.int .i64 x0) := by simpa [size_TaskS, Nat.add_assoc] using hu 0 _ rfl
      have e1 : w4.cell? ⟨g, o + k * 14 + 1, none⟩ = some (.int .i64 x1) := by simpa [size_TaskS, Nat.add_assoc] using hu 1 _ rfl
      have e2 : w4.cell? ⟨g, o + k * 14 + 2, none⟩ = some (.int .i64 x2) := by simpa [size_TaskS, Nat.add_assoc] using hu 2 _ rfl
      have e3 : w4.cell? ⟨g, o + k * 14 + 3, none⟩ = some (.string x3) := by simpa [size_TaskS, Nat.add_assoc] using hu 3 _ rfl
      have e4 : w4.cell? ⟨g, o + k * 14 + 4, none⟩ = some (.int .i64 x4) := by simpa [size_TaskS, Nat.add_assoc] using hu 4 _ rfl
      have e5 : w4.cell? ⟨g, o + k * 14 + 5, none⟩ = some (.int .i64 x5) := by simpa [size_TaskS, Nat.add_assoc] using hu 5 _ rfl
      have e6 : w4.cell? ⟨g, o + k * 14 + 6, none⟩ = some (.int .i64 x6) := by simpa [size_TaskS, Nat.add_assoc] using hu 6 _ rfl
      have e7 : w4.cell? ⟨g, o + k * 14 + 7, none⟩ = some (.int .i64 x7) := by simpa [size_TaskS, Nat.add_assoc] using hu 7 _ rfl
      have e8 : w4.cell? ⟨g, o + k * 14 + 8, none⟩ = some (.int .i64 x8) := by simpa [size_TaskS, Nat.add_assoc] using hu 8 _ rfl
      have e9 : w4.cell? ⟨g, o + k * 14 + 9, none⟩ = some (.int .i64 x9) := by simpa [size_TaskS, Nat.add_assoc] using hu 9 _ rfl
      have e10 : w4.cell? ⟨g, o + k * 14 + 10, none⟩ = some (.int .i64 x10) := by simpa [size_TaskS, Nat.add_assoc] using hu 10 _ rfl
      have e11 : w4.cell? ⟨g, o + k * 14 + 11, none⟩ = some (.int .i64 x11) := by simpa [size_TaskS, Nat.add_assoc] using hu 11 _ rfl
      have e12 : w4.cell? ⟨g, o + k * 14 + 12, none⟩ = some (.int .i64 x12) := by simpa [size_TaskS, Nat.add_assoc] using hu 12 _ rfl
      have e13 : w4.cell? ⟨g, o + k * 14 + 13, none⟩ = some (.slice a0 L0.length c0) := by simpa [size_TaskS, Nat.add_assoc] using hu 13 _ rfl
      have hi0 : (0 : Int) ≤ (k : Int) := Int.natCast_nonneg _
      have hi1 : (k : Int) < (L.length : Int) := by omega
      have HK := Lib.hid k_L0
      have HL0 := Lib.hid (show L0.length ≤ 1048576 from HSI.2)
      have HL3 := Lib.hid (show x3.size ≤ 1048576 from HSI.1)
      have HX3 := Lib.hid b_x3
      clear hu hr k_L0 HSI
      have hlo : W.heap.size + 2 ≤ w4.heap.size := by have := R_4.out.lt; omega
      go_wp2_with fail
      refine (copyT_impl HL3.out HL0.out HK.out).mono ?_
      intro e w5 h
      obtain ⟨us, rfl, hu, hb⟩ := newV_elim h
      obtain ⟨a5, c5, T5, rfl, hT, ho, _⟩ := ow_Task hu
      have P_5 := Lib.hid (P_4.out.call hb)
      have R_5 := Lib.hid (R_4.out.call hb)
      have H_5 := Lib.hid (rdt_mv R_Task_ok H_4.out hb)
      have HB5 := Lib.hid (HB4.out.trans ((hb).mono HB4.out.size))
      clear P_4 R_4 H_4 HB4
      have HT := Lib.hid hT
      have HO := Lib.hid ho
      clear hu hT ho e0 e1 e2 e3 e4 e5 e6 e7 e8 e9 e10 e11 e12 e13
      clear h hb
      have qR_0 := R_5.out.at_ 0 rfl
      have qR_1 := R_5.out.at_ 1 rfl
      have qR_2 := R_5.out.at_ 2 rfl
      have qR_3 := R_5.out.at_ 3 rfl
      have qR_4 := R_5.out.at_ 4 rfl
      have qR_5 := R_5.out.at_ 5 rfl
      have qR_6 := R_5.out.at_ 6 rfl
      have qR_7 := R_5.out.at_ 7 rfl
      have qR_8 := R_5.out.at_ 8 rfl
      have qR_9 := R_5.out.at_ 9 rfl
      have qR_10 := R_5.out.at_ 10 rfl
      have qR_11 := R_5.out.at_ 11 rfl
      have qR_12 := R_5.out.at_ 12 rfl
      have qR_13 := R_5.out.at_ 13 rfl
      have sR_0 := R_5.out.soft 0
      have sR_1 := R_5.out.soft 1
      have sR_2 := R_5.out.soft 2
      have sR_3 := R_5.out.soft 3
      have sR_4 := R_5.out.soft 4
      have sR_5 := R_5.out.soft 5
      have sR_6 := R_5.out.soft 6
      have sR_7 := R_5.out.soft 7
      have sR_8 := R_5.out.soft 8
      have sR_9 := R_5.out.soft 9
      have sR_10 := R_5.out.soft 10
      have sR_11 := R_5.out.soft 11
      have sR_12 := R_5.out.soft 12
      have sR_13 := R_5.out.soft 13
      have hzz := HB5.out.size
      go_wp2
      rw [HZ.out]
      refine bodyPost_ret (v := .agg #[.int .i64 x0, .int .i64 x1, .int .i64 x2, .string x3, .int .i64 x4, .int .i64 x5, .int .i64 x6, .int .i64 x7, .int .i64 x8, .int .i64 x9, .int .i64 x10, .int .i64 x11, .int .i64 x12, .slice a5 L0.length c5]) (by simp [results, Try.results35, go_sem, *]) rfl ⟨[.int .i64 x0, .int .i64 x1, .int .i64 x2, .string x3, .int .i64 x4, .int .i64 x5, .int .i64 x6, .int .i64 x7, .int .i64 x8, .int .i64 x9, .int .i64 x10, .int .i64 x11, .int .i64 x12, .slice a5 L0.length c5], rfl, ?_, ((((((((((((((HB5.out.setCell (p := ⟨W.heap.size + 1, 0, none⟩) (by show W.heap.size ≤ W.heap.size + 1; omega) (.int .i64 x0)).setCell (p := ⟨W.heap.size + 1, 1, none⟩) (by show W.heap.size ≤ W.heap.size + 1; omega) (.int .i64 x1)).setCell (p := ⟨W.heap.size + 1, 2, none⟩) (by show W.heap.size ≤ W.heap.size + 1; omega) (.int .i64 x2)).setCell (p := ⟨W.heap.size + 1, 3, none⟩) (by show W.heap.size ≤ W.heap.size + 1; omega) (.string x3)).setCell (p := ⟨W.heap.size + 1, 4, none⟩) (by show W.heap.size ≤ W.heap.size + 1; omega) (.int .i64 x4)).setCell (p := ⟨W.heap.size + 1, 5, none⟩) (by show W.heap.size ≤ W.heap.size + 1; omega) (.int .i64 x5)).setCell (p := ⟨W.heap.size + 1, 6, none⟩) (by show W.heap.size ≤ W.heap.size + 1; omega) (.int .i64 x6)).setCell (p := ⟨W.heap.size + 1, 7, none⟩) (by show W.heap.size ≤ W.heap.size + 1; omega) (.int .i64 x7)).setCell (p := ⟨W.heap.size + 1, 8, none⟩) (by show W.heap.size ≤ W.heap.size + 1; omega) (.int .i64 x8)).setCell (p := ⟨W.heap.size + 1, 9, none⟩) (by show W.heap.size ≤ W.heap.size + 1; omega) (.int .i64 x9)).setCell (p := ⟨W.heap.size + 1, 10, none⟩) (by show W.heap.size ≤ W.heap.size + 1; omega) (.int .i64 x10)).setCell (p := ⟨W.heap.size + 1, 11, none⟩) (by show W.heap.size ≤ W.heap.size + 1; omega) (.int .i64 x11)).setCell (p := ⟨W.heap.size + 1, 12, none⟩) (by show W.heap.size ≤ W.heap.size + 1; omega) (.int .i64 x12)).setCell (p := ⟨W.heap.size + 1, 13, none⟩) (by show W.heap.size ≤ W.heap.size + 1; omega) (.slice a5 L0.length c5))⟩
      have hoff := (((((((((((((((Off.refl (fun x => x < W.heap.size + 2) w5).setCell (p := ⟨W.heap.size + 1, 0, none⟩) (by show W.heap.size + 1 < W.heap.size + 2; omega) (.int .i64 x0)).setCell (p := ⟨W.heap.size + 1, 1, none⟩) (by show W.heap.size + 1 < W.heap.size + 2; omega) (.int .i64 x1)).setCell (p := ⟨W.heap.size + 1, 2, none⟩) (by show W.heap.size + 1 < W.heap.size + 2; omega) (.int .i64 x2)).setCell (p := ⟨W.heap.size + 1, 3, none⟩) (by show W.heap.size + 1 < W.heap.size + 2; omega) (.string x3)).setCell (p := ⟨W.heap.size + 1, 4, none⟩) (by show W.heap.size + 1 < W.heap.size + 2; omega) (.int .i64 x4)).setCell (p := ⟨W.heap.size + 1, 5, none⟩) (by show W.heap.size + 1 < W.heap.size + 2; omega) (.int .i64 x5)).setCell (p := ⟨W.heap.size + 1, 6, none⟩) (by show W.heap.size + 1 < W.heap.size + 2; omega) (.int .i64 x6)).setCell (p := ⟨W.heap.size + 1, 7, none⟩) (by show W.heap.size + 1 < W.heap.size + 2; omega) (.int .i64 x7)).setCell (p := ⟨W.heap.size + 1, 8, none⟩) (by show W.heap.size + 1 < W.heap.size + 2; omega) (.int .i64 x8)).setCell (p := ⟨W.heap.size + 1, 9, none⟩) (by show W.heap.size + 1 < W.heap.size + 2; omega) (.int .i64 x9)).setCell (p := ⟨W.heap.size + 1, 10, none⟩) (by show W.heap.size + 1 < W.heap.size + 2; omega) (.int .i64 x10)).setCell (p := ⟨W.heap.size + 1, 11, none⟩) (by show W.heap.size + 1 < W.heap.size + 2; omega) (.int .i64 x11)).setCell (p := ⟨W.heap.size + 1, 12, none⟩) (by show W.heap.size + 1 < W.heap.size + 2; omega) (.int .i64 x12)).setCell (p := ⟨W.heap.size + 1, 13, none⟩) (by show W.heap.size + 1 < W.heap.size + 2; omega) (.slice a5 L0.length c5))
      have hsz := hoff.size
      exact mkow_Task (fun k hk => ⟨by have := (HT.out k hk).1; omega, by have := (HT.out k hk).2; omega⟩) (HO.out.keep I_ok (fun k hk => hoff.block k (HT.out k hk).2 (by have := (HT.out k hk).1; omega))) HX3.out
end Go.Proofs.Ytkghodbbgehcoaa.RepC
