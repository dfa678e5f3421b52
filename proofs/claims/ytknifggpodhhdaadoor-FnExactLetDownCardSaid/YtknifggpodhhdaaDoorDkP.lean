/- NextTime and LetDown of the program: contracts. -/
import Derived.Test.YtknifggpodhhdaaDoorDkN
import Derived.Test.YtknifggpodhhdaaDoorSent
import Derived.Test.YtknifggpodhhdaaDoorLetG
namespace Go.Proofs.YtknifggpodhhdaaDoor.RepC
open SenC IsC Go.RowKit RowC ValC SpanC KeptC
set_option linter.unusedVariables false
set_option linter.unusedSimpArgs false

set_option maxRecDepth 100000 in
theorem refusal_1 {W : World} {a1 a2 a3 a4 : Addr} (h : Sent W a1 a2 a3 a4) : Calls Tryd.prog 84 #[.iface 166 (.pointer (some a1))] W fun e w' => e = .returned (.int .i64 1) ∧ Below W.heap.size W w' := by
  obtain ⟨c1, t1, hb1⟩ := h.b1
  obtain ⟨c2, t2, hb2⟩ := h.b2
  obtain ⟨c3, t3, hb3⟩ := h.b3
  obtain ⟨c4, t4, hb4⟩ := h.b4
  have v2 := h.v2
  have v3 := h.v3
  have v4 := h.v4
  go_enter Tryd.func84, Tryd.ntmps84
  go_wp2_with fail
  refine (is_other a1 a2 c1 c2 t1 t2 _ h.n12 hb1 hb2).mono ?_
  rintro e w' ⟨rfl, rfl⟩
  go_wp2_with fail
  refine (is_other a1 a3 c1 c3 t1 t3 _ h.n13 hb1 hb3).mono ?_
  rintro e w' ⟨rfl, rfl⟩
  go_wp2_with fail
  refine (is_other a1 a4 c1 c4 t1 t4 _ h.n14 hb1 hb4).mono ?_
  rintro e w' ⟨rfl, rfl⟩
  go_wp2
  go_ret
  exact ⟨rfl, Below.refl _ _⟩
set_option maxRecDepth 100000 in
theorem refusal_2 {W : World} {a1 a2 a3 a4 : Addr} (h : Sent W a1 a2 a3 a4) : Calls Tryd.prog 84 #[.iface 166 (.pointer (some a2))] W fun e w' => e = .returned (.int .i64 11) ∧ Below W.heap.size W w' := by
  obtain ⟨c1, t1, hb1⟩ := h.b1
  obtain ⟨c2, t2, hb2⟩ := h.b2
  obtain ⟨c3, t3, hb3⟩ := h.b3
  obtain ⟨c4, t4, hb4⟩ := h.b4
  have v2 := h.v2
  have v3 := h.v3
  have v4 := h.v4
  go_enter Tryd.func84, Tryd.ntmps84
  go_wp2_with fail
  refine (is_same a2 _).mono ?_
  rintro e w' ⟨rfl, rfl⟩
  go_wp2
  go_ret
  exact ⟨rfl, Below.refl _ _⟩
set_option maxRecDepth 100000 in
theorem refusal_3 {W : World} {a1 a2 a3 a4 : Addr} (h : Sent W a1 a2 a3 a4) : Calls Tryd.prog 84 #[.iface 166 (.pointer (some a3))] W fun e w' => e = .returned (.int .i64 8) ∧ Below W.heap.size W w' := by
  obtain ⟨c1, t1, hb1⟩ := h.b1
  obtain ⟨c2, t2, hb2⟩ := h.b2
  obtain ⟨c3, t3, hb3⟩ := h.b3
  obtain ⟨c4, t4, hb4⟩ := h.b4
  have v2 := h.v2
  have v3 := h.v3
  have v4 := h.v4
  go_enter Tryd.func84, Tryd.ntmps84
  go_wp2_with fail
  refine (is_other a3 a2 c3 c2 t3 t2 _ h.n23.symm hb3 hb2).mono ?_
  rintro e w' ⟨rfl, rfl⟩
  go_wp2_with fail
  refine (is_same a3 _).mono ?_
  rintro e w' ⟨rfl, rfl⟩
  go_wp2
  go_ret
  exact ⟨rfl, Below.refl _ _⟩
set_option maxRecDepth 100000 in
theorem refusal_4 {W : World} {a1 a2 a3 a4 : Addr} (h : Sent W a1 a2 a3 a4) : Calls Tryd.prog 84 #[.iface 166 (.pointer (some a4))] W fun e w' => e = .returned (.int .i64 9) ∧ Below W.heap.size W w' := by
  obtain ⟨c1, t1, hb1⟩ := h.b1
  obtain ⟨c2, t2, hb2⟩ := h.b2
  obtain ⟨c3, t3, hb3⟩ := h.b3
  obtain ⟨c4, t4, hb4⟩ := h.b4
  have v2 := h.v2
  have v3 := h.v3
  have v4 := h.v4
  go_enter Tryd.func84, Tryd.ntmps84
  go_wp2_with fail
  refine (is_other a4 a2 c4 c2 t4 t2 _ h.n24.symm hb4 hb2).mono ?_
  rintro e w' ⟨rfl, rfl⟩
  go_wp2_with fail
  refine (is_other a4 a3 c4 c3 t4 t3 _ h.n34.symm hb4 hb3).mono ?_
  rintro e w' ⟨rfl, rfl⟩
  go_wp2_with fail
  refine (is_same a4 _).mono ?_
  rintro e w' ⟨rfl, rfl⟩
  go_wp2
  go_ret
  exact ⟨rfl, Below.refl _ _⟩
set_option maxRecDepth 100000 in
set_option maxHeartbeats 1600000 in
theorem step_1 {W : World} {a1 a2 a3 a4 : Addr} (h : Sent W a1 a2 a3 a4) : Calls Tryd.prog 63 #[.agg #[.slice none 0 0, .slice none 0 0, .slice none 0 0, .int .i64 0, .int .i64 0], .iface 166 (.pointer (some a1))] W (NewV R_DeskStep (zeroD, 1) W) := by
  obtain ⟨hb0, hd0, hr0⟩ := bx2 W #[.slice none 0 0, .slice none 0 0, .slice none 0 0, .int .i64 0, .int .i64 0] #[.slice none 0 0, .slice none 0 0, .slice none 0 0, .int .i64 0, .int .i64 0, .int .i64 0] 42 46
  obtain ⟨w0, hw0⟩ : ∃ w, w = (W.alloc (.cells #[.slice none 0 0, .slice none 0 0, .slice none 0 0, .int .i64 0, .int .i64 0] 42)).alloc (.cells #[.slice none 0 0, .slice none 0 0, .slice none 0 0, .int .i64 0, .int .i64 0, .int .i64 0] 46) := ⟨_, rfl⟩
  rw [← hw0] at hb0 hd0 hr0
  have HB0 := Lib.hid hb0
  have HR0 := Lib.hid hr0
  have HS0 := Lib.hid (h.mv hb0)
  have hz0 := hb0.size
  clear hb0 hd0 hr0
  go_enter Tryd.func63, Tryd.ntmps63
  go_wp2_with fail
  rw [← hw0]
  clear hw0
  refine (refusal_1 HS0.out).mono ?_
  rintro e w1 ⟨rfl, hb⟩
  have HB1 := Lib.hid (HB0.out.trans (hb.mono hz0))
  have HR1 := Lib.hid (HR0.out.call hb)
  have qHR1_0 := HR1.out.at_ 0 rfl
  have qHR1_1 := HR1.out.at_ 1 rfl
  have qHR1_2 := HR1.out.at_ 2 rfl
  have qHR1_3 := HR1.out.at_ 3 rfl
  have qHR1_4 := HR1.out.at_ 4 rfl
  have qHR1_5 := HR1.out.at_ 5 rfl
  have sHR1_0 := HR1.out.soft 0
  have sHR1_1 := HR1.out.soft 1
  have sHR1_2 := HR1.out.soft 2
  have sHR1_3 := HR1.out.soft 3
  have sHR1_4 := HR1.out.soft 4
  have sHR1_5 := HR1.out.soft 5
  clear hb
  go_wp2
  refine bodyPost_ret (v := .agg #[.slice none 0 0, .slice none 0 0, .slice none 0 0, .int .i64 0, .int .i64 0, .int .i64 1]) (by simp [results, Tryd.results63, go_sem, *]) rfl ?_
  exact ⟨_, rfl, step_ow 1, ((((((HB1.out.setCell (p := ⟨W.heap.size + 1, 0, none⟩) (by show W.heap.size ≤ W.heap.size + 1; omega) (.slice none 0 0)).setCell (p := ⟨W.heap.size + 1, 1, none⟩) (by show W.heap.size ≤ W.heap.size + 1; omega) (.slice none 0 0)).setCell (p := ⟨W.heap.size + 1, 2, none⟩) (by show W.heap.size ≤ W.heap.size + 1; omega) (.slice none 0 0)).setCell (p := ⟨W.heap.size + 1, 3, none⟩) (by show W.heap.size ≤ W.heap.size + 1; omega) (.int .i64 0)).setCell (p := ⟨W.heap.size + 1, 4, none⟩) (by show W.heap.size ≤ W.heap.size + 1; omega) (.int .i64 0)).setCell (p := ⟨W.heap.size + 1, 5, none⟩) (by show W.heap.size ≤ W.heap.size + 1; omega) (.int .i64 1))⟩
set_option maxRecDepth 100000 in
set_option maxHeartbeats 1600000 in
theorem step_2 {W : World} {a1 a2 a3 a4 : Addr} (h : Sent W a1 a2 a3 a4) : Calls Tryd.prog 63 #[.agg #[.slice none 0 0, .slice none 0 0, .slice none 0 0, .int .i64 0, .int .i64 0], .iface 166 (.pointer (some a2))] W (NewV R_DeskStep (zeroD, 11) W) := by
  obtain ⟨hb0, hd0, hr0⟩ := bx2 W #[.slice none 0 0, .slice none 0 0, .slice none 0 0, .int .i64 0, .int .i64 0] #[.slice none 0 0, .slice none 0 0, .slice none 0 0, .int .i64 0, .int .i64 0, .int .i64 0] 42 46
  obtain ⟨w0, hw0⟩ : ∃ w, w = (W.alloc (.cells #[.slice none 0 0, .slice none 0 0, .slice none 0 0, .int .i64 0, .int .i64 0] 42)).alloc (.cells #[.slice none 0 0, .slice none 0 0, .slice none 0 0, .int .i64 0, .int .i64 0, .int .i64 0] 46) := ⟨_, rfl⟩
  rw [← hw0] at hb0 hd0 hr0
  have HB0 := Lib.hid hb0
  have HR0 := Lib.hid hr0
  have HS0 := Lib.hid (h.mv hb0)
  have hz0 := hb0.size
  clear hb0 hd0 hr0
  go_enter Tryd.func63, Tryd.ntmps63
  go_wp2_with fail
  rw [← hw0]
  clear hw0
  refine (refusal_2 HS0.out).mono ?_
  rintro e w1 ⟨rfl, hb⟩
  have HB1 := Lib.hid (HB0.out.trans (hb.mono hz0))
  have HR1 := Lib.hid (HR0.out.call hb)
  have qHR1_0 := HR1.out.at_ 0 rfl
  have qHR1_1 := HR1.out.at_ 1 rfl
  have qHR1_2 := HR1.out.at_ 2 rfl
  have qHR1_3 := HR1.out.at_ 3 rfl
  have qHR1_4 := HR1.out.at_ 4 rfl
  have qHR1_5 := HR1.out.at_ 5 rfl
  have sHR1_0 := HR1.out.soft 0
  have sHR1_1 := HR1.out.soft 1
  have sHR1_2 := HR1.out.soft 2
  have sHR1_3 := HR1.out.soft 3
  have sHR1_4 := HR1.out.soft 4
  have sHR1_5 := HR1.out.soft 5
  clear hb
  go_wp2
  refine bodyPost_ret (v := .agg #[.slice none 0 0, .slice none 0 0, .slice none 0 0, .int .i64 0, .int .i64 0, .int .i64 11]) (by simp [results, Tryd.results63, go_sem, *]) rfl ?_
  exact ⟨_, rfl, step_ow 11, ((((((HB1.out.setCell (p := ⟨W.heap.size + 1, 0, none⟩) (by show W.heap.size ≤ W.heap.size + 1; omega) (.slice none 0 0)).setCell (p := ⟨W.heap.size + 1, 1, none⟩) (by show W.heap.size ≤ W.heap.size + 1; omega) (.slice none 0 0)).setCell (p := ⟨W.heap.size + 1, 2, none⟩) (by show W.heap.size ≤ W.heap.size + 1; omega) (.slice none 0 0)).setCell (p := ⟨W.heap.size + 1, 3, none⟩) (by show W.heap.size ≤ W.heap.size + 1; omega) (.int .i64 0)).setCell (p := ⟨W.heap.size + 1, 4, none⟩) (by show W.heap.size ≤ W.heap.size + 1; omega) (.int .i64 0)).setCell (p := ⟨W.heap.size + 1, 5, none⟩) (by show W.heap.size ≤ W.heap.size + 1; omega) (.int .i64 11))⟩
set_option maxRecDepth 100000 in
set_option maxHeartbeats 1600000 in
theorem step_3 {W : World} {a1 a2 a3 a4 : Addr} (h : Sent W a1 a2 a3 a4) : Calls Tryd.prog 63 #[.agg #[.slice none 0 0, .slice none 0 0, .slice none 0 0, .int .i64 0, .int .i64 0], .iface 166 (.pointer (some a3))] W (NewV R_DeskStep (zeroD, 8) W) := by
  obtain ⟨hb0, hd0, hr0⟩ := bx2 W #[.slice none 0 0, .slice none 0 0, .slice none 0 0, .int .i64 0, .int .i64 0] #[.slice none 0 0, .slice none 0 0, .slice none 0 0, .int .i64 0, .int .i64 0, .int .i64 0] 42 46
  obtain ⟨w0, hw0⟩ : ∃ w, w = (W.alloc (.cells #[.slice none 0 0, .slice none 0 0, .slice none 0 0, .int .i64 0, .int .i64 0] 42)).alloc (.cells #[.slice none 0 0, .slice none 0 0, .slice none 0 0, .int .i64 0, .int .i64 0, .int .i64 0] 46) := ⟨_, rfl⟩
  rw [← hw0] at hb0 hd0 hr0
  have HB0 := Lib.hid hb0
  have HR0 := Lib.hid hr0
  have HS0 := Lib.hid (h.mv hb0)
  have hz0 := hb0.size
  clear hb0 hd0 hr0
  go_enter Tryd.func63, Tryd.ntmps63
  go_wp2_with fail
  rw [← hw0]
  clear hw0
  refine (refusal_3 HS0.out).mono ?_
  rintro e w1 ⟨rfl, hb⟩
  have HB1 := Lib.hid (HB0.out.trans (hb.mono hz0))
  have HR1 := Lib.hid (HR0.out.call hb)
  have qHR1_0 := HR1.out.at_ 0 rfl
  have qHR1_1 := HR1.out.at_ 1 rfl
  have qHR1_2 := HR1.out.at_ 2 rfl
  have qHR1_3 := HR1.out.at_ 3 rfl
  have qHR1_4 := HR1.out.at_ 4 rfl
  have qHR1_5 := HR1.out.at_ 5 rfl
  have sHR1_0 := HR1.out.soft 0
  have sHR1_1 := HR1.out.soft 1
  have sHR1_2 := HR1.out.soft 2
  have sHR1_3 := HR1.out.soft 3
  have sHR1_4 := HR1.out.soft 4
  have sHR1_5 := HR1.out.soft 5
  clear hb
  go_wp2
  refine bodyPost_ret (v := .agg #[.slice none 0 0, .slice none 0 0, .slice none 0 0, .int .i64 0, .int .i64 0, .int .i64 8]) (by simp [results, Tryd.results63, go_sem, *]) rfl ?_
  exact ⟨_, rfl, step_ow 8, ((((((HB1.out.setCell (p := ⟨W.heap.size + 1, 0, none⟩) (by show W.heap.size ≤ W.heap.size + 1; omega) (.slice none 0 0)).setCell (p := ⟨W.heap.size + 1, 1, none⟩) (by show W.heap.size ≤ W.heap.size + 1; omega) (.slice none 0 0)).setCell (p := ⟨W.heap.size + 1, 2, none⟩) (by show W.heap.size ≤ W.heap.size + 1; omega) (.slice none 0 0)).setCell (p := ⟨W.heap.size + 1, 3, none⟩) (by show W.heap.size ≤ W.heap.size + 1; omega) (.int .i64 0)).setCell (p := ⟨W.heap.size + 1, 4, none⟩) (by show W.heap.size ≤ W.heap.size + 1; omega) (.int .i64 0)).setCell (p := ⟨W.heap.size + 1, 5, none⟩) (by show W.heap.size ≤ W.heap.size + 1; omega) (.int .i64 8))⟩
set_option maxRecDepth 100000 in
set_option maxHeartbeats 1600000 in
theorem step_4 {W : World} {a1 a2 a3 a4 : Addr} (h : Sent W a1 a2 a3 a4) : Calls Tryd.prog 63 #[.agg #[.slice none 0 0, .slice none 0 0, .slice none 0 0, .int .i64 0, .int .i64 0], .iface 166 (.pointer (some a4))] W (NewV R_DeskStep (zeroD, 9) W) := by
  obtain ⟨hb0, hd0, hr0⟩ := bx2 W #[.slice none 0 0, .slice none 0 0, .slice none 0 0, .int .i64 0, .int .i64 0] #[.slice none 0 0, .slice none 0 0, .slice none 0 0, .int .i64 0, .int .i64 0, .int .i64 0] 42 46
  obtain ⟨w0, hw0⟩ : ∃ w, w = (W.alloc (.cells #[.slice none 0 0, .slice none 0 0, .slice none 0 0, .int .i64 0, .int .i64 0] 42)).alloc (.cells #[.slice none 0 0, .slice none 0 0, .slice none 0 0, .int .i64 0, .int .i64 0, .int .i64 0] 46) := ⟨_, rfl⟩
  rw [← hw0] at hb0 hd0 hr0
  have HB0 := Lib.hid hb0
  have HR0 := Lib.hid hr0
  have HS0 := Lib.hid (h.mv hb0)
  have hz0 := hb0.size
  clear hb0 hd0 hr0
  go_enter Tryd.func63, Tryd.ntmps63
  go_wp2_with fail
  rw [← hw0]
  clear hw0
  refine (refusal_4 HS0.out).mono ?_
  rintro e w1 ⟨rfl, hb⟩
  have HB1 := Lib.hid (HB0.out.trans (hb.mono hz0))
  have HR1 := Lib.hid (HR0.out.call hb)
  have qHR1_0 := HR1.out.at_ 0 rfl
  have qHR1_1 := HR1.out.at_ 1 rfl
  have qHR1_2 := HR1.out.at_ 2 rfl
  have qHR1_3 := HR1.out.at_ 3 rfl
  have qHR1_4 := HR1.out.at_ 4 rfl
  have qHR1_5 := HR1.out.at_ 5 rfl
  have sHR1_0 := HR1.out.soft 0
  have sHR1_1 := HR1.out.soft 1
  have sHR1_2 := HR1.out.soft 2
  have sHR1_3 := HR1.out.soft 3
  have sHR1_4 := HR1.out.soft 4
  have sHR1_5 := HR1.out.soft 5
  clear hb
  go_wp2
  refine bodyPost_ret (v := .agg #[.slice none 0 0, .slice none 0 0, .slice none 0 0, .int .i64 0, .int .i64 0, .int .i64 9]) (by simp [results, Tryd.results63, go_sem, *]) rfl ?_
  exact ⟨_, rfl, step_ow 9, ((((((HB1.out.setCell (p := ⟨W.heap.size + 1, 0, none⟩) (by show W.heap.size ≤ W.heap.size + 1; omega) (.slice none 0 0)).setCell (p := ⟨W.heap.size + 1, 1, none⟩) (by show W.heap.size ≤ W.heap.size + 1; omega) (.slice none 0 0)).setCell (p := ⟨W.heap.size + 1, 2, none⟩) (by show W.heap.size ≤ W.heap.size + 1; omega) (.slice none 0 0)).setCell (p := ⟨W.heap.size + 1, 3, none⟩) (by show W.heap.size ≤ W.heap.size + 1; omega) (.int .i64 0)).setCell (p := ⟨W.heap.size + 1, 4, none⟩) (by show W.heap.size ≤ W.heap.size + 1; omega) (.int .i64 0)).setCell (p := ⟨W.heap.size + 1, 5, none⟩) (by show W.heap.size ≤ W.heap.size + 1; omega) (.int .i64 9))⟩
set_option maxRecDepth 100000 in
set_option maxHeartbeats 1600000 in
theorem step_ok {P B A : List D_Letter} {pa ba aa : Option Addr} {pc bc ac : Nat} {u n : Int} {W : World} {S : Nat → Prop} (hD : R_Desk.ow W S (P, B, A, u, n) [.slice pa P.length pc, .slice ba B.length bc, .slice aa A.length ac, .int .i64 u, .int .i64 n]) (hS : ∀ k, S k → k < W.heap.size) : Calls Tryd.prog 63 #[.agg #[.slice pa P.length pc, .slice ba B.length bc, .slice aa A.length ac, .int .i64 u, .int .i64 n], .nilIface] W fun e w' => ∃ us : List Value, e = .returned (.agg us.toArray) ∧ R_DeskStep.ow w' S ((P, B, A, u, n), 0) us ∧ Below W.heap.size W w' := by
  obtain ⟨hb0, hd0, hr0⟩ := bx2 W #[.slice pa P.length pc, .slice ba B.length bc, .slice aa A.length ac, .int .i64 u, .int .i64 n] #[.slice none 0 0, .slice none 0 0, .slice none 0 0, .int .i64 0, .int .i64 0, .int .i64 0] 42 46
  obtain ⟨w0, hw0⟩ : ∃ w, w = (W.alloc (.cells #[.slice pa P.length pc, .slice ba B.length bc, .slice aa A.length ac, .int .i64 u, .int .i64 n] 42)).alloc (.cells #[.slice none 0 0, .slice none 0 0, .slice none 0 0, .int .i64 0, .int .i64 0, .int .i64 0] 46) := ⟨_, rfl⟩
  have HB0 := Lib.hid (show Below W.heap.size W w0 from hw0 ▸ hb0)
  have HR0 := Lib.hid hr0
  have HDB := Lib.hid hd0
  have qHR0_0 := HR0.out.at_ 0 rfl
  have qHR0_1 := HR0.out.at_ 1 rfl
  have qHR0_2 := HR0.out.at_ 2 rfl
  have qHR0_3 := HR0.out.at_ 3 rfl
  have qHR0_4 := HR0.out.at_ 4 rfl
  have qHR0_5 := HR0.out.at_ 5 rfl
  have sHR0_0 := HR0.out.soft 0
  have sHR0_1 := HR0.out.soft 1
  have sHR0_2 := HR0.out.soft 2
  have sHR0_3 := HR0.out.soft 3
  have sHR0_4 := HR0.out.soft 4
  have sHR0_5 := HR0.out.soft 5
  have qHDB_0 := HDB.out.at_ 0 rfl
  have qHDB_1 := HDB.out.at_ 1 rfl
  have qHDB_2 := HDB.out.at_ 2 rfl
  have qHDB_3 := HDB.out.at_ 3 rfl
  have qHDB_4 := HDB.out.at_ 4 rfl
  clear hb0 hd0 hr0
  have HD := Lib.hid hD
  have HS := Lib.hid hS
  clear hD hS
  go_enter Tryd.func63, Tryd.ntmps63
  go_wp2
  refine bodyPost_ret (v := .agg #[.slice pa P.length pc, .slice ba B.length bc, .slice aa A.length ac, .int .i64 u, .int .i64 n, .int .i64 0]) (by simp [results, Tryd.results63, go_sem, *]) rfl ?_
  clear hw0
  have hbb := (bx2 W #[.slice pa P.length pc, .slice ba B.length bc, .slice aa A.length ac, .int .i64 u, .int .i64 n] #[.slice pa P.length pc, .slice ba B.length bc, .slice aa A.length ac, .int .i64 u, .int .i64 n, .int .i64 0] 42 46).1
  refine ⟨[.slice pa P.length pc, .slice ba B.length bc, .slice aa A.length ac, .int .i64 u, .int .i64 n, .int .i64 0], rfl, ?_, hbb⟩
  exact ⟨[.slice pa P.length pc, .slice ba B.length bc, .slice aa A.length ac, .int .i64 u, .int .i64 n], [.int .i64 0], S, fun _ => False, rfl, fun k h => h, fun k h => h.elim, fun k _ h => h, R_Desk_ok.ow_keep HD.out fun k hk => hbb.block k (HS.out k hk), rfl⟩
set_option maxRecDepth 100000 in
set_option maxHeartbeats 1600000 in
theorem next_1 {P B A : List D_Letter} {pa ba aa : Option Addr} {pc bc ac : Nat} {u n : Int} {W : World} {a1 a2 a3 a4 : Addr} (h : Sent W a1 a2 a3 a4) (hP : RdSl R_Letter W W.heap.size P pa pc) (hB : RdSl R_Letter W W.heap.size B ba bc) (hA : RdSl R_Letter W W.heap.size A aa ac) (hN : ¬ DeskR P B A u n) : Calls Tryd.prog 65 #[.agg #[.slice pa P.length pc, .slice ba B.length bc, .slice aa A.length ac, .int .i64 u, .int .i64 n]] W fun e w' => e = .returned (.tuple #[.agg #[.slice none 0 0, .slice none 0 0, .slice none 0 0, .int .i64 0, .int .i64 0], .iface 166 (.pointer (some a1))]) ∧ Below W.heap.size W w' := by
  obtain ⟨hb0, hd0, hr0⟩ := bx2 W #[.slice pa P.length pc, .slice ba B.length bc, .slice aa A.length ac, .int .i64 u, .int .i64 n] #[.slice none 0 0, .slice none 0 0, .slice none 0 0, .int .i64 0, .int .i64 0] 42 42
  obtain ⟨w0, hw0⟩ : ∃ w, w = (W.alloc (.cells #[.slice pa P.length pc, .slice ba B.length bc, .slice aa A.length ac, .int .i64 u, .int .i64 n] 42)).alloc (.cells #[.slice none 0 0, .slice none 0 0, .slice none 0 0, .int .i64 0, .int .i64 0] 42) := ⟨_, rfl⟩
  rw [← hw0] at hb0 hd0 hr0
  have HB0 := Lib.hid hb0
  have HR0 := Lib.hid hr0
  have HD0 := Lib.hid hd0
  have HS0 := Lib.hid (h.mv hb0)
  have HPw := Lib.hid (gmvS hP hb0)
  have HBw := Lib.hid (gmvS hB hb0)
  have HAw := Lib.hid (gmvS hA hb0)
  have hz0 := hb0.size
  clear hb0 hd0 hr0 hP hB hA
  go_enter Tryd.func65, Tryd.ntmps65
  go_wp2_with fail
  rw [← hw0]
  clear hw0
  refine ((box_impl HPw.out HBw.out HAw.out).mono (fun _ _ => resB_at (b := false) (by simp [hN]))).mono ?_
  rintro e w1 ⟨rfl, hb⟩
  have HB1 := Lib.hid (HB0.out.trans (hb.mono hz0))
  have HR1 := Lib.hid (show Blk w1.drew (W.heap.size + 1) 42 #[.slice none 0 0, .slice none 0 0, .slice none 0 0, .int .i64 0, .int .i64 0] from (show Blk w1 (W.heap.size + 1) 42 #[.slice none 0 0, .slice none 0 0, .slice none 0 0, .int .i64 0, .int .i64 0] from HR0.out.call hb))
  have HD1 := Lib.hid (HD0.out.call hb)
  have v1 := (HS0.out.mv hb).v1
  have hgv := Nat.lt_succ_of_lt (World.block_lt_of_cell? W _ h.v1)
  have qHD1_0 := HD1.out.at_ 0 rfl
  have qHD1_1 := HD1.out.at_ 1 rfl
  have qHD1_2 := HD1.out.at_ 2 rfl
  have qHD1_3 := HD1.out.at_ 3 rfl
  have qHD1_4 := HD1.out.at_ 4 rfl
  clear hb
  go_wp2_with fail
  refine wp_region_held_drew (S := (fun V => Below (W.heap.size + 1) w1 V)) (by kernel_rfl) ((Below.refl _ _).drew) (fun hHeld => ?_)
  obtain ⟨wd, hwd⟩ : ∃ w, w = w1.drew := ⟨_, rfl⟩
  rw [← hwd] at hHeld HR1
  rw [← hwd]
  clear hwd
  (refine wpAnyH_take (i := 0) (v := ?hv73) rfl (by kernel_rfl) (by kernel_rfl) (by kernel_rfl) (fun _ _ _ h => h) (Or.inl ⟨by kernel_rfl, ?hy73⟩) hHeld ?hr73; case hy73 => (intro w hSw; (try dsimp only at hSw); go_simp; try with_reducible rfl))
  simp only [Act.put, List.getElem_toArray, List.getElem_cons_succ, List.getElem_cons_zero, List.setIfInBounds_toArray, List.set_cons_zero, List.set_cons_succ]
  refine wpAnyH_ready (rs := [1, 2]) (by kernel_rfl) (by simp) ?_
  refine AllReadyH.cons rfl (fun K hK => ?_) (AllReadyH.cons rfl (fun K hK => ?_) (AllReadyH.nil))
  · skip
    have k0 := (hHeld.cell (p := ⟨1, 0, none⟩) hgv).trans v1
    go_simp
    refine hK.out _ _ hHeld (fun hHeld => ?_)
    clear k0
    clear hK K
    try simp only [Act.put, List.getElem_toArray, List.getElem_cons_succ, List.getElem_cons_zero, List.setIfInBounds_toArray, List.set_cons_zero, List.set_cons_succ]
    refine wpAnyH_ready (rs := [2]) (by kernel_rfl) (by simp) ?_
    refine AllReadyH.cons rfl (fun K hK => ?_) (AllReadyH.nil)
    have qHR1_0 := HR1.out.at_ 0 rfl
    have qHR1_1 := HR1.out.at_ 1 rfl
    have qHR1_2 := HR1.out.at_ 2 rfl
    have qHR1_3 := HR1.out.at_ 3 rfl
    have qHR1_4 := HR1.out.at_ 4 rfl
    have sHR1_0 := HR1.out.soft 0
    have sHR1_1 := HR1.out.soft 1
    have sHR1_2 := HR1.out.soft 2
    have sHR1_3 := HR1.out.soft 3
    have sHR1_4 := HR1.out.soft 4
    go_simp
    refine hK.out _ _ (((((hHeld.setCell (p := ⟨W.heap.size + 1, 0, none⟩) (Nat.le_refl _) (.slice none 0 0)).setCell (p := ⟨W.heap.size + 1, 1, none⟩) (Nat.le_refl _) (.slice none 0 0)).setCell (p := ⟨W.heap.size + 1, 2, none⟩) (Nat.le_refl _) (.slice none 0 0)).setCell (p := ⟨W.heap.size + 1, 3, none⟩) (Nat.le_refl _) (.int .i64 0)).setCell (p := ⟨W.heap.size + 1, 4, none⟩) (Nat.le_refl _) (.int .i64 0)) (fun hHeld => ?_)
    clear qHR1_0 sHR1_0 qHR1_1 sHR1_1 qHR1_2 sHR1_2 qHR1_3 sHR1_3 qHR1_4 sHR1_4
    clear hK K
    try simp only [Act.put, List.getElem_toArray, List.getElem_cons_succ, List.getElem_cons_zero, List.setIfInBounds_toArray, List.set_cons_zero, List.set_cons_succ]
    (refine wpAnyH_take (i := 3) (v := ?hv74) rfl (by kernel_rfl) (by kernel_rfl) (by kernel_rfl) (fun _ _ _ h => h) (Or.inl ⟨by kernel_rfl, ?hy74⟩) hHeld ?hr74; case hy74 => (intro w hSw; (try dsimp only at hSw); go_simp; try with_reducible rfl))
    simp only [Act.put, List.getElem_toArray, List.getElem_cons_succ, List.getElem_cons_zero, List.setIfInBounds_toArray, List.set_cons_zero, List.set_cons_succ]
    refine wpAnyH_done (by kernel_rfl) ?_ _
    have HF := Lib.hid hHeld
    clear hHeld
    have qHR1_0 := HR1.out.at_ 0 rfl
    have qHR1_1 := HR1.out.at_ 1 rfl
    have qHR1_2 := HR1.out.at_ 2 rfl
    have qHR1_3 := HR1.out.at_ 3 rfl
    have qHR1_4 := HR1.out.at_ 4 rfl
    go_wp2
    refine bodyPost_ret (v := .tuple #[.agg #[.slice none 0 0, .slice none 0 0, .slice none 0 0, .int .i64 0, .int .i64 0], .iface 166 (.pointer (some a1))]) (by simp [results, Tryd.results65, go_sem, *]) rfl ?_
    exact ⟨rfl, HB1.out.trans (HF.out.mono (Nat.le_succ _))⟩
  · skip
    have qHR1_0 := HR1.out.at_ 0 rfl
    have qHR1_1 := HR1.out.at_ 1 rfl
    have qHR1_2 := HR1.out.at_ 2 rfl
    have qHR1_3 := HR1.out.at_ 3 rfl
    have qHR1_4 := HR1.out.at_ 4 rfl
    have sHR1_0 := HR1.out.soft 0
    have sHR1_1 := HR1.out.soft 1
    have sHR1_2 := HR1.out.soft 2
    have sHR1_3 := HR1.out.soft 3
    have sHR1_4 := HR1.out.soft 4
    go_simp
    refine hK.out _ _ (((((hHeld.setCell (p := ⟨W.heap.size + 1, 0, none⟩) (Nat.le_refl _) (.slice none 0 0)).setCell (p := ⟨W.heap.size + 1, 1, none⟩) (Nat.le_refl _) (.slice none 0 0)).setCell (p := ⟨W.heap.size + 1, 2, none⟩) (Nat.le_refl _) (.slice none 0 0)).setCell (p := ⟨W.heap.size + 1, 3, none⟩) (Nat.le_refl _) (.int .i64 0)).setCell (p := ⟨W.heap.size + 1, 4, none⟩) (Nat.le_refl _) (.int .i64 0)) (fun hHeld => ?_)
    clear qHR1_0 sHR1_0 qHR1_1 sHR1_1 qHR1_2 sHR1_2 qHR1_3 sHR1_3 qHR1_4 sHR1_4
    clear hK K
    try simp only [Act.put, List.getElem_toArray, List.getElem_cons_succ, List.getElem_cons_zero, List.setIfInBounds_toArray, List.set_cons_zero, List.set_cons_succ]
    refine wpAnyH_ready (rs := [1]) (by kernel_rfl) (by simp) ?_
    refine AllReadyH.cons rfl (fun K hK => ?_) (AllReadyH.nil)
    have k0 := (hHeld.cell (p := ⟨1, 0, none⟩) hgv).trans v1
    go_simp
    refine hK.out _ _ hHeld (fun hHeld => ?_)
    clear k0
    clear hK K
    try simp only [Act.put, List.getElem_toArray, List.getElem_cons_succ, List.getElem_cons_zero, List.setIfInBounds_toArray, List.set_cons_zero, List.set_cons_succ]
    (refine wpAnyH_take (i := 3) (v := ?hv75) rfl (by kernel_rfl) (by kernel_rfl) (by kernel_rfl) (fun _ _ _ h => h) (Or.inl ⟨by kernel_rfl, ?hy75⟩) hHeld ?hr75; case hy75 => (intro w hSw; (try dsimp only at hSw); go_simp; try with_reducible rfl))
    simp only [Act.put, List.getElem_toArray, List.getElem_cons_succ, List.getElem_cons_zero, List.setIfInBounds_toArray, List.set_cons_zero, List.set_cons_succ]
    refine wpAnyH_done (by kernel_rfl) ?_ _
    have HF := Lib.hid hHeld
    clear hHeld
    have qHR1_0 := HR1.out.at_ 0 rfl
    have qHR1_1 := HR1.out.at_ 1 rfl
    have qHR1_2 := HR1.out.at_ 2 rfl
    have qHR1_3 := HR1.out.at_ 3 rfl
    have qHR1_4 := HR1.out.at_ 4 rfl
    go_wp2
    refine bodyPost_ret (v := .tuple #[.agg #[.slice none 0 0, .slice none 0 0, .slice none 0 0, .int .i64 0, .int .i64 0], .iface 166 (.pointer (some a1))]) (by simp [results, Tryd.results65, go_sem, *]) rfl ?_
    exact ⟨rfl, HB1.out.trans (HF.out.mono (Nat.le_succ _))⟩
set_option maxRecDepth 100000 in
set_option maxHeartbeats 1600000 in
theorem next_4 {P B A : List D_Letter} {pa ba aa : Option Addr} {pc bc ac : Nat} {u : Int} {W : World} {a1 a2 a3 a4 : Addr} (h : Sent W a1 a2 a3 a4) (hP : RdSl R_Letter W W.heap.size P pa pc) (hB : RdSl R_Letter W W.heap.size B ba bc) (hA : RdSl R_Letter W W.heap.size A aa ac) (hY : DeskR P B A u 999900) : Calls Tryd.prog 65 #[.agg #[.slice pa P.length pc, .slice ba B.length bc, .slice aa A.length ac, .int .i64 u, .int .i64 999900]] W fun e w' => e = .returned (.tuple #[.agg #[.slice none 0 0, .slice none 0 0, .slice none 0 0, .int .i64 0, .int .i64 0], .iface 166 (.pointer (some a4))]) ∧ Below W.heap.size W w' := by
  obtain ⟨hb0, hd0, hr0⟩ := bx2 W #[.slice pa P.length pc, .slice ba B.length bc, .slice aa A.length ac, .int .i64 u, .int .i64 999900] #[.slice none 0 0, .slice none 0 0, .slice none 0 0, .int .i64 0, .int .i64 0] 42 42
  obtain ⟨w0, hw0⟩ : ∃ w, w = (W.alloc (.cells #[.slice pa P.length pc, .slice ba B.length bc, .slice aa A.length ac, .int .i64 u, .int .i64 999900] 42)).alloc (.cells #[.slice none 0 0, .slice none 0 0, .slice none 0 0, .int .i64 0, .int .i64 0] 42) := ⟨_, rfl⟩
  rw [← hw0] at hb0 hd0 hr0
  have HB0 := Lib.hid hb0
  have HR0 := Lib.hid hr0
  have HD0 := Lib.hid hd0
  have HS0 := Lib.hid (h.mv hb0)
  have HPw := Lib.hid (gmvS hP hb0)
  have HBw := Lib.hid (gmvS hB hb0)
  have HAw := Lib.hid (gmvS hA hb0)
  have hz0 := hb0.size
  clear hb0 hd0 hr0 hP hB hA
  go_enter Tryd.func65, Tryd.ntmps65
  go_wp2_with fail
  rw [← hw0]
  clear hw0
  refine ((box_impl HPw.out HBw.out HAw.out).mono (fun _ _ => resB_at (b := true) (by simp [hY]))).mono ?_
  rintro e w1 ⟨rfl, hb⟩
  have HB1 := Lib.hid (HB0.out.trans (hb.mono hz0))
  have HR1 := Lib.hid (show Blk w1.drew (W.heap.size + 1) 42 #[.slice none 0 0, .slice none 0 0, .slice none 0 0, .int .i64 0, .int .i64 0] from (show Blk w1 (W.heap.size + 1) 42 #[.slice none 0 0, .slice none 0 0, .slice none 0 0, .int .i64 0, .int .i64 0] from HR0.out.call hb))
  have HD1 := Lib.hid (HD0.out.call hb)
  have v4 := (HS0.out.mv hb).v4
  have hgv := Nat.lt_succ_of_lt (World.block_lt_of_cell? W _ h.v4)
  have qHD1_0 := HD1.out.at_ 0 rfl
  have qHD1_1 := HD1.out.at_ 1 rfl
  have qHD1_2 := HD1.out.at_ 2 rfl
  have qHD1_3 := HD1.out.at_ 3 rfl
  have qHD1_4 := HD1.out.at_ 4 rfl
  clear hb
  go_wp2_with fail
  refine wp_region_held_drew (S := (fun V => Below (W.heap.size + 1) w1 V)) (by kernel_rfl) ((Below.refl _ _).drew) (fun hHeld => ?_)
  obtain ⟨wd, hwd⟩ : ∃ w, w = w1.drew := ⟨_, rfl⟩
  rw [← hwd] at hHeld HR1
  rw [← hwd]
  clear hwd
  (refine wpAnyH_take (i := 0) (v := ?hv76) rfl (by kernel_rfl) (by kernel_rfl) (by kernel_rfl) (fun _ _ _ h => h) (Or.inl ⟨by kernel_rfl, ?hy76⟩) hHeld ?hr76; case hy76 => (intro w hSw; (try dsimp only at hSw); go_simp; try with_reducible rfl))
  simp only [Act.put, List.getElem_toArray, List.getElem_cons_succ, List.getElem_cons_zero, List.setIfInBounds_toArray, List.set_cons_zero, List.set_cons_succ]
  refine wpAnyH_ready (rs := [1, 2]) (by kernel_rfl) (by simp) ?_
  refine AllReadyH.cons rfl (fun K hK => ?_) (AllReadyH.cons rfl (fun K hK => ?_) (AllReadyH.nil))
  · skip
    have k0 := (hHeld.cell (p := ⟨4, 0, none⟩) hgv).trans v4
    go_simp
    refine hK.out _ _ hHeld (fun hHeld => ?_)
    clear k0
    clear hK K
    try simp only [Act.put, List.getElem_toArray, List.getElem_cons_succ, List.getElem_cons_zero, List.setIfInBounds_toArray, List.set_cons_zero, List.set_cons_succ]
    refine wpAnyH_ready (rs := [2]) (by kernel_rfl) (by simp) ?_
    refine AllReadyH.cons rfl (fun K hK => ?_) (AllReadyH.nil)
    have qHR1_0 := HR1.out.at_ 0 rfl
    have qHR1_1 := HR1.out.at_ 1 rfl
    have qHR1_2 := HR1.out.at_ 2 rfl
    have qHR1_3 := HR1.out.at_ 3 rfl
    have qHR1_4 := HR1.out.at_ 4 rfl
    have sHR1_0 := HR1.out.soft 0
    have sHR1_1 := HR1.out.soft 1
    have sHR1_2 := HR1.out.soft 2
    have sHR1_3 := HR1.out.soft 3
    have sHR1_4 := HR1.out.soft 4
    go_simp
    refine hK.out _ _ (((((hHeld.setCell (p := ⟨W.heap.size + 1, 0, none⟩) (Nat.le_refl _) (.slice none 0 0)).setCell (p := ⟨W.heap.size + 1, 1, none⟩) (Nat.le_refl _) (.slice none 0 0)).setCell (p := ⟨W.heap.size + 1, 2, none⟩) (Nat.le_refl _) (.slice none 0 0)).setCell (p := ⟨W.heap.size + 1, 3, none⟩) (Nat.le_refl _) (.int .i64 0)).setCell (p := ⟨W.heap.size + 1, 4, none⟩) (Nat.le_refl _) (.int .i64 0)) (fun hHeld => ?_)
    clear qHR1_0 sHR1_0 qHR1_1 sHR1_1 qHR1_2 sHR1_2 qHR1_3 sHR1_3 qHR1_4 sHR1_4
    clear hK K
    try simp only [Act.put, List.getElem_toArray, List.getElem_cons_succ, List.getElem_cons_zero, List.setIfInBounds_toArray, List.set_cons_zero, List.set_cons_succ]
    (refine wpAnyH_take (i := 3) (v := ?hv77) rfl (by kernel_rfl) (by kernel_rfl) (by kernel_rfl) (fun _ _ _ h => h) (Or.inl ⟨by kernel_rfl, ?hy77⟩) hHeld ?hr77; case hy77 => (intro w hSw; (try dsimp only at hSw); go_simp; try with_reducible rfl))
    simp only [Act.put, List.getElem_toArray, List.getElem_cons_succ, List.getElem_cons_zero, List.setIfInBounds_toArray, List.set_cons_zero, List.set_cons_succ]
    refine wpAnyH_done (by kernel_rfl) ?_ _
    have HF := Lib.hid hHeld
    clear hHeld
    have qHR1_0 := HR1.out.at_ 0 rfl
    have qHR1_1 := HR1.out.at_ 1 rfl
    have qHR1_2 := HR1.out.at_ 2 rfl
    have qHR1_3 := HR1.out.at_ 3 rfl
    have qHR1_4 := HR1.out.at_ 4 rfl
    go_wp2
    refine bodyPost_ret (v := .tuple #[.agg #[.slice none 0 0, .slice none 0 0, .slice none 0 0, .int .i64 0, .int .i64 0], .iface 166 (.pointer (some a4))]) (by simp [results, Tryd.results65, go_sem, *]) rfl ?_
    exact ⟨rfl, HB1.out.trans (HF.out.mono (Nat.le_succ _))⟩
  · skip
    have qHR1_0 := HR1.out.at_ 0 rfl
    have qHR1_1 := HR1.out.at_ 1 rfl
    have qHR1_2 := HR1.out.at_ 2 rfl
    have qHR1_3 := HR1.out.at_ 3 rfl
    have qHR1_4 := HR1.out.at_ 4 rfl
    have sHR1_0 := HR1.out.soft 0
    have sHR1_1 := HR1.out.soft 1
    have sHR1_2 := HR1.out.soft 2
    have sHR1_3 := HR1.out.soft 3
    have sHR1_4 := HR1.out.soft 4
    go_simp
    refine hK.out _ _ (((((hHeld.setCell (p := ⟨W.heap.size + 1, 0, none⟩) (Nat.le_refl _) (.slice none 0 0)).setCell (p := ⟨W.heap.size + 1, 1, none⟩) (Nat.le_refl _) (.slice none 0 0)).setCell (p := ⟨W.heap.size + 1, 2, none⟩) (Nat.le_refl _) (.slice none 0 0)).setCell (p := ⟨W.heap.size + 1, 3, none⟩) (Nat.le_refl _) (.int .i64 0)).setCell (p := ⟨W.heap.size + 1, 4, none⟩) (Nat.le_refl _) (.int .i64 0)) (fun hHeld => ?_)
    clear qHR1_0 sHR1_0 qHR1_1 sHR1_1 qHR1_2 sHR1_2 qHR1_3 sHR1_3 qHR1_4 sHR1_4
    clear hK K
    try simp only [Act.put, List.getElem_toArray, List.getElem_cons_succ, List.getElem_cons_zero, List.setIfInBounds_toArray, List.set_cons_zero, List.set_cons_succ]
    refine wpAnyH_ready (rs := [1]) (by kernel_rfl) (by simp) ?_
    refine AllReadyH.cons rfl (fun K hK => ?_) (AllReadyH.nil)
    have k0 := (hHeld.cell (p := ⟨4, 0, none⟩) hgv).trans v4
    go_simp
    refine hK.out _ _ hHeld (fun hHeld => ?_)
    clear k0
    clear hK K
    try simp only [Act.put, List.getElem_toArray, List.getElem_cons_succ, List.getElem_cons_zero, List.setIfInBounds_toArray, List.set_cons_zero, List.set_cons_succ]
    (refine wpAnyH_take (i := 3) (v := ?hv78) rfl (by kernel_rfl) (by kernel_rfl) (by kernel_rfl) (fun _ _ _ h => h) (Or.inl ⟨by kernel_rfl, ?hy78⟩) hHeld ?hr78; case hy78 => (intro w hSw; (try dsimp only at hSw); go_simp; try with_reducible rfl))
    simp only [Act.put, List.getElem_toArray, List.getElem_cons_succ, List.getElem_cons_zero, List.setIfInBounds_toArray, List.set_cons_zero, List.set_cons_succ]
    refine wpAnyH_done (by kernel_rfl) ?_ _
    have HF := Lib.hid hHeld
    clear hHeld
    have qHR1_0 := HR1.out.at_ 0 rfl
    have qHR1_1 := HR1.out.at_ 1 rfl
    have qHR1_2 := HR1.out.at_ 2 rfl
    have qHR1_3 := HR1.out.at_ 3 rfl
    have qHR1_4 := HR1.out.at_ 4 rfl
    go_wp2
    refine bodyPost_ret (v := .tuple #[.agg #[.slice none 0 0, .slice none 0 0, .slice none 0 0, .int .i64 0, .int .i64 0], .iface 166 (.pointer (some a4))]) (by simp [results, Tryd.results65, go_sem, *]) rfl ?_
    exact ⟨rfl, HB1.out.trans (HF.out.mono (Nat.le_succ _))⟩
end Go.Proofs.YtknifggpodhhdaaDoor.RepC
