/- Ahead of the model: a contract. -/
import Derived.Test.YtfmgjkmlnaeagaaJobR
namespace Go.Proofs.Ytfmgjkmlnaeagaa.RepC
open Go.RowKit RowC ValC SpanC KeptC
set_option linter.unusedVariables false
set_option linter.unusedSimpArgs false

def AheadP (x0 x1 x2 x5 y0 y1 y2 y5 : Int) : Prop := x0 < y0 ∨ (x0 = y0 ∧ (x1 < y1 ∨ (x1 = y1 ∧ (y5 < x5 ∨ (x5 = y5 ∧ x2 < y2)))))
set_option maxRecDepth 100000 in
set_option maxHeartbeats 3200000 in
theorem ahead_l04 {x0 x1 x2 x3 x4 x5 x6 x7 y0 y1 y2 y3 y4 y5 y6 y7 : Int} {L M : List Int} {a b : Option Addr} {c d : Nat} {W : World} : Calls Try.prog 45 #[.agg #[.int .i64 x0, .int .i64 x1, .int .i64 x2, .int .i64 x3, .int .i64 x4, .int .i64 x5, .int .i64 x6, .int .i64 x7, .slice a L.length c], .agg #[.int .i64 y0, .int .i64 y1, .int .i64 y2, .int .i64 y3, .int .i64 y4, .int .i64 y5, .int .i64 y6, .int .i64 y7, .slice b M.length d]] W (ResB (AheadP x0 x1 x2 x5 y0 y1 y2 y5) W) := by
  by_cases ex0 : x0 = y0
  rotate_left
  · have gx0 : (x0 != y0) = true := bne_iff_ne.2 ex0
    by_cases hf : x0 < y0
    · have HV := Lib.hid (show AheadP x0 x1 x2 x5 y0 y1 y2 y5 from by unfold AheadP; omega)
      have hf' : decide (x0 < y0) = true := decide_eq_true hf
      clear hf
      go_enter Try.func45, Try.ntmps45
      go_wp2
      go_ret
      exact resB_yes HV.out (((Below.refl _ _).alloc (Nat.le_refl _) _).alloc (by simp) _)
    · have HV := Lib.hid (show ¬ AheadP x0 x1 x2 x5 y0 y1 y2 y5 from by unfold AheadP; omega)
      have hf' : decide (x0 < y0) = false := decide_eq_false hf
      clear hf
      go_enter Try.func45, Try.ntmps45
      go_wp2
      go_ret
      exact resB_no HV.out (((Below.refl _ _).alloc (Nat.le_refl _) _).alloc (by simp) _)
  have gx0 : (x0 != y0) = false := by simp [ex0]
  by_cases ex1 : x1 = y1
  rotate_left
  · have gx1 : (x1 != y1) = true := bne_iff_ne.2 ex1
    by_cases hf : x1 < y1
    · have HV := Lib.hid (show AheadP x0 x1 x2 x5 y0 y1 y2 y5 from by unfold AheadP; omega)
      have hf' : decide (x1 < y1) = true := decide_eq_true hf
      clear hf
      go_enter Try.func45, Try.ntmps45
      go_wp2
      go_ret
      exact resB_yes HV.out (((Below.refl _ _).alloc (Nat.le_refl _) _).alloc (by simp) _)
    · have HV := Lib.hid (show ¬ AheadP x0 x1 x2 x5 y0 y1 y2 y5 from by unfold AheadP; omega)
      have hf' : decide (x1 < y1) = false := decide_eq_false hf
      clear hf
      go_enter Try.func45, Try.ntmps45
      go_wp2
      go_ret
      exact resB_no HV.out (((Below.refl _ _).alloc (Nat.le_refl _) _).alloc (by simp) _)
  have gx1 : (x1 != y1) = false := by simp [ex1]
  by_cases ex5 : x5 = y5
  rotate_left
  · have gx5 : (x5 != y5) = true := bne_iff_ne.2 ex5
    by_cases hf : y5 < x5
    · have HV := Lib.hid (show AheadP x0 x1 x2 x5 y0 y1 y2 y5 from by unfold AheadP; omega)
      have hf' : decide (y5 < x5) = true := decide_eq_true hf
      clear hf
      go_enter Try.func45, Try.ntmps45
      go_wp2
      go_ret
      exact resB_yes HV.out (((Below.refl _ _).alloc (Nat.le_refl _) _).alloc (by simp) _)
    · have HV := Lib.hid (show ¬ AheadP x0 x1 x2 x5 y0 y1 y2 y5 from by unfold AheadP; omega)
      have hf' : decide (y5 < x5) = false := decide_eq_false hf
      clear hf
      go_enter Try.func45, Try.ntmps45
      go_wp2
      go_ret
      exact resB_no HV.out (((Below.refl _ _).alloc (Nat.le_refl _) _).alloc (by simp) _)
  have gx5 : (x5 != y5) = false := by simp [ex5]
  by_cases hf : x2 < y2
  · have HV := Lib.hid (show AheadP x0 x1 x2 x5 y0 y1 y2 y5 from by unfold AheadP; omega)
    have hf' : decide (x2 < y2) = true := decide_eq_true hf
    clear hf
    go_enter Try.func45, Try.ntmps45
    go_wp2
    go_ret
    exact resB_yes HV.out (((Below.refl _ _).alloc (Nat.le_refl _) _).alloc (by simp) _)
  · have HV := Lib.hid (show ¬ AheadP x0 x1 x2 x5 y0 y1 y2 y5 from by unfold AheadP; omega)
    have hf' : decide (x2 < y2) = false := decide_eq_false hf
    clear hf
    go_enter Try.func45, Try.ntmps45
    go_wp2
    go_ret
    exact resB_no HV.out (((Below.refl _ _).alloc (Nat.le_refl _) _).alloc (by simp) _)
set_option maxRecDepth 100000 in
set_option maxHeartbeats 3200000 in
theorem ahead_spec {x0 x1 x2 x3 x4 x5 x6 x7 y0 y1 y2 y3 y4 y5 y6 y7 : Int} {L M : List Int} {a b : Option Addr} {c d : Nat} {W : World} (h : RdSl I W W.heap.size L a c) (h' : RdSl I W W.heap.size M b d) : Calls Try.prog 23 #[.agg #[.int .i64 x0, .int .i64 x1, .int .i64 x2, .int .i64 x3, .int .i64 x4, .int .i64 x5, .int .i64 x6, .int .i64 x7, .slice a L.length c], .agg #[.int .i64 y0, .int .i64 y1, .int .i64 y2, .int .i64 y3, .int .i64 y4, .int .i64 y5, .int .i64 y6, .int .i64 y7, .slice b M.length d]] W (ResB (JobR x0 x1 x2 x3 x4 x5 x6 x7 L ∧ JobR y0 y1 y2 y3 y4 y5 y6 y7 M ∧ AheadP x0 x1 x2 x5 y0 y1 y2 y5) W) := by
  have H := Lib.hid h
  have H' := Lib.hid h'
  clear h h'
  have HB0 := Lib.hid (show Below W.heap.size W ((W.alloc (.cells #[.int .i64 x0, .int .i64 x1, .int .i64 x2, .int .i64 x3, .int .i64 x4, .int .i64 x5, .int .i64 x6, .int .i64 x7, .slice a L.length c] 31)).alloc (.cells #[.int .i64 y0, .int .i64 y1, .int .i64 y2, .int .i64 y3, .int .i64 y4, .int .i64 y5, .int .i64 y6, .int .i64 y7, .slice b M.length d] 31)) from ((Below.refl _ _).alloc (Nat.le_refl _) _).alloc (by simp) _)
  have hP := (Blk.new W 31 #[.int .i64 x0, .int .i64 x1, .int .i64 x2, .int .i64 x3, .int .i64 x4, .int .i64 x5, .int .i64 x6, .int .i64 x7, .slice a L.length c]).alloc (.cells #[.int .i64 y0, .int .i64 y1, .int .i64 y2, .int .i64 y3, .int .i64 y4, .int .i64 y5, .int .i64 y6, .int .i64 y7, .slice b M.length d] 31)
  have hQ := Blk.new (W.alloc (.cells #[.int .i64 x0, .int .i64 x1, .int .i64 x2, .int .i64 x3, .int .i64 x4, .int .i64 x5, .int .i64 x6, .int .i64 x7, .slice a L.length c] 31)) 31 #[.int .i64 y0, .int .i64 y1, .int .i64 y2, .int .i64 y3, .int .i64 y4, .int .i64 y5, .int .i64 y6, .int .i64 y7, .slice b M.length d]
  simp only [World.size_alloc] at hP hQ
  have HP0 := Lib.hid hP
  have HQ0 := Lib.hid hQ
  have hz0 : W.heap.size ≤ ((W.alloc (.cells #[.int .i64 x0, .int .i64 x1, .int .i64 x2, .int .i64 x3, .int .i64 x4, .int .i64 x5, .int .i64 x6, .int .i64 x7, .slice a L.length c] 31)).alloc (.cells #[.int .i64 y0, .int .i64 y1, .int .i64 y2, .int .i64 y3, .int .i64 y4, .int .i64 y5, .int .i64 y6, .int .i64 y7, .slice b M.length d] 31)).heap.size := HB0.out.size
  clear hP hQ
  go_enter Try.func23, Try.ntmps23
  go_wp2_with fail
  refine (jobright_spec ((H.out.below I_ok HB0.out).more I_ok hz0)).mono ?_
  intro e w1 h
  obtain ⟨r1, rfl, hb, hw⟩ := resB_elim h
  have HR1 := Lib.hid hb
  have HP1 := Lib.hid (HP0.out.call hw)
  have HQ1 := Lib.hid (HQ0.out.call hw)
  have HB1 := Lib.hid (HB0.out.trans (hw.mono hz0))
  have hz1 : W.heap.size ≤ w1.heap.size := HB1.out.size
  clear h hb hw
  have p1_0 := HP1.out.at_ 0 rfl
  have q1_0 := HQ1.out.at_ 0 rfl
  have p1_1 := HP1.out.at_ 1 rfl
  have q1_1 := HQ1.out.at_ 1 rfl
  have p1_2 := HP1.out.at_ 2 rfl
  have q1_2 := HQ1.out.at_ 2 rfl
  have p1_3 := HP1.out.at_ 3 rfl
  have q1_3 := HQ1.out.at_ 3 rfl
  have p1_4 := HP1.out.at_ 4 rfl
  have q1_4 := HQ1.out.at_ 4 rfl
  have p1_5 := HP1.out.at_ 5 rfl
  have q1_5 := HQ1.out.at_ 5 rfl
  have p1_6 := HP1.out.at_ 6 rfl
  have q1_6 := HQ1.out.at_ 6 rfl
  have p1_7 := HP1.out.at_ 7 rfl
  have q1_7 := HQ1.out.at_ 7 rfl
  have p1_8 := HP1.out.at_ 8 rfl
  have q1_8 := HQ1.out.at_ 8 rfl
  cases r1 with
  | false =>
    have HV := Lib.hid (show ¬ (JobR x0 x1 x2 x3 x4 x5 x6 x7 L ∧ JobR y0 y1 y2 y3 y4 y5 y6 y7 M ∧ AheadP x0 x1 x2 x5 y0 y1 y2 y5) from fun h => by have := HR1.out.2 h.1; cases this)
    go_wp2
    go_ret
    exact resB_no HV.out HB1.out
  | true =>
    go_wp2_with fail
    refine (jobright_spec ((H'.out.below I_ok HB1.out).more I_ok hz1)).mono ?_
    intro e w2 h
    obtain ⟨r2, rfl, hb, hw⟩ := resB_elim h
    have HR2 := Lib.hid hb
    have HP2 := Lib.hid (HP1.out.call hw)
    have HQ2 := Lib.hid (HQ1.out.call hw)
    have HB2 := Lib.hid (HB1.out.trans (hw.mono hz1))
    have hz2 : W.heap.size ≤ w2.heap.size := HB2.out.size
    clear h hb hw
    have p2_0 := HP2.out.at_ 0 rfl
    have q2_0 := HQ2.out.at_ 0 rfl
    have p2_1 := HP2.out.at_ 1 rfl
    have q2_1 := HQ2.out.at_ 1 rfl
    have p2_2 := HP2.out.at_ 2 rfl
    have q2_2 := HQ2.out.at_ 2 rfl
    have p2_3 := HP2.out.at_ 3 rfl
    have q2_3 := HQ2.out.at_ 3 rfl
    have p2_4 := HP2.out.at_ 4 rfl
    have q2_4 := HQ2.out.at_ 4 rfl
    have p2_5 := HP2.out.at_ 5 rfl
    have q2_5 := HQ2.out.at_ 5 rfl
    have p2_6 := HP2.out.at_ 6 rfl
    have q2_6 := HQ2.out.at_ 6 rfl
    have p2_7 := HP2.out.at_ 7 rfl
    have q2_7 := HQ2.out.at_ 7 rfl
    have p2_8 := HP2.out.at_ 8 rfl
    have q2_8 := HQ2.out.at_ 8 rfl
    clear p1_0 q1_0 p1_1 q1_1 p1_2 q1_2 p1_3 q1_3 p1_4 q1_4 p1_5 q1_5 p1_6 q1_6 p1_7 q1_7 p1_8 q1_8
    cases r2 with
    | false =>
      have HV := Lib.hid (show ¬ (JobR x0 x1 x2 x3 x4 x5 x6 x7 L ∧ JobR y0 y1 y2 y3 y4 y5 y6 y7 M ∧ AheadP x0 x1 x2 x5 y0 y1 y2 y5) from fun h => by have := HR2.out.2 h.2.1; cases this)
      go_wp2
      go_ret
      exact resB_no HV.out HB2.out
    | true =>
      go_wp2_with fail
      refine ahead_l04.mono ?_
      intro e w3 h
      obtain ⟨r3, rfl, hb, hw⟩ := resB_elim h
      have HB3 := Lib.hid (HB2.out.trans (hw.mono hz2))
      have HV := Lib.hid (show (r3 = true ↔ (JobR x0 x1 x2 x3 x4 x5 x6 x7 L ∧ JobR y0 y1 y2 y3 y4 y5 y6 y7 M ∧ AheadP x0 x1 x2 x5 y0 y1 y2 y5)) from hb.trans ⟨fun h => ⟨HR1.out.1 (by first | trivial | rfl), HR2.out.1 (by first | trivial | rfl), h⟩, fun h => h.2.2⟩)
      clear h hb hw
      go_wp2
      go_ret
      exact ⟨r3, rfl, HV.out, HB3.out⟩
end Go.Proofs.Ytfmgjkmlnaeagaa.RepC
