/- EntryRight, in the program and in its model: contracts. -/
import Derived.Test.YtdimpopkkjpddaaDoorLab
import Derived.Test.YtdimpopkkjpddaaDoorKept
import Derived.Test.YtdimpopkkjpddaaDoorRowO
import Derived.Test.YtdimpopkkjpddaaDoorVals
import Derived.Test.YtdimpopkkjpddaaDoorRep
import Derived.Test.YtdimpopkkjpddaaDoorRep2
import Derived.Test.YtdimpopkkjpddaaDoorRep3
namespace Go.Proofs.YtdimpopkkjpddaaDoor.EnC
open Go.RowKit KeptC LabC RepC
set_option linter.unusedVariables false
set_option linter.unusedSimpArgs false

def kindB (x0 x1 x2 x3 x4 x5 : Int) : Bool := x0 == 1 || ((x0 == 2 && x5 == 0) || (x0 == 3 && (x1 == 0 && (x2 == 0 && (x3 == 0 && (x4 == 0 && x5 == 0))))))
def entB (x0 x1 x2 x3 x4 x5 : Int) : Bool := rB x1 x2 && (LabC.isB x3 0 100 && (LabC.isB x4 0 100 && (LabC.isB x5 0 100 && kindB x0 x1 x2 x3 x4 x5)))
theorem kind_1 {x1 x2 x3 x4 x5 : Int} : kindB 1 x1 x2 x3 x4 x5 = true := by simp [kindB]
theorem kind_2 {x1 x2 x3 x4 x5 : Int} : kindB 2 x1 x2 x3 x4 x5 = (x5 == 0) := by simp [kindB]
theorem kind_3 {x1 x2 x3 x4 x5 : Int} : kindB 3 x1 x2 x3 x4 x5 = (x1 == 0 && (x2 == 0 && (x3 == 0 && (x4 == 0 && x5 == 0)))) := by simp [kindB]
theorem kind_no {x0 x1 x2 x3 x4 x5 : Int} (h1 : ¬ x0 = 1) (h2 : ¬ x0 = 2) (h3 : ¬ x0 = 3) : kindB x0 x1 x2 x3 x4 x5 = false := by simp [kindB, h1, h2, h3]
theorem adv_run (x1 x2 x3 x4 x5 : Int) (w : World) : (binOp .eql 25 (.agg #[.int .i64 3, .int .i64 x1, .int .i64 x2, .int .i64 x3, .int .i64 x4, .int .i64 x5]) (.agg #[.int .i64 3, .int .i64 0, .int .i64 0, .int .i64 0, .int .i64 0, .int .i64 0])).run Tryd.prog w = .ok (.bool (x1 == 0 && (x2 == 0 && (x3 == 0 && (x4 == 0 && x5 == 0))))) w := by
  go_simp
  repeat' split
  all_goals simp_all
theorem adv_at {x1 x2 x3 x4 x5 : Int} {q : Bool} (h : (x1 == 0 && (x2 == 0 && (x3 == 0 && (x4 == 0 && x5 == 0)))) = q) (w : World) : (binOp .eql 25 (.agg #[.int .i64 3, .int .i64 x1, .int .i64 x2, .int .i64 x3, .int .i64 x4, .int .i64 x5]) (.agg #[.int .i64 3, .int .i64 0, .int .i64 0, .int .i64 0, .int .i64 0, .int .i64 0])).run Tryd.prog w = .ok (.bool q) w := h ▸ adv_run x1 x2 x3 x4 x5 w
theorem labS (l s : Int) {b : Bool} (hb : rB l s = b) (w : World) :
    Calls Tryd.prog 41 #[.agg #[.int .i64 l, .int .i64 s]] w fun e w' => e = .returned (.bool b) ∧ Below w.heap.size w w' := by
  subst hb
  exact (LabC.right_spec l s w).mono fun _ _ ⟨h1, h2⟩ => ⟨h1, by rw [← h2]; exact (Below.refl _ _).alloc (Nat.le_refl _) _⟩
theorem labI (l s : Int) {b : Bool} (hb : rB l s = b) (w : World) :
    Calls Tryd.prog 40 #[.agg #[.int .i64 l, .int .i64 s]] w fun e w' => e = .returned (.bool b) ∧ Below w.heap.size w w' := by
  subst hb
  exact (LabC.right_impl l s w).mono fun _ _ ⟨h1, h2⟩ => ⟨h1, by rw [← h2]; exact (Below.refl _ _).alloc (Nat.le_refl _) _⟩
theorem within_b (n lo hi : Int) (w : World) : Calls Tryd.prog 93 #[.int .i64 n, .int .i64 lo, .int .i64 hi] w fun e w' => e = .returned (.bool (LabC.isB n lo hi)) ∧ w = w' := by
  unfold LabC.isB
  by_cases h1 : lo ≤ n
  · have d1 : decide (lo ≤ n) = true := decide_eq_true h1
    have d1' : decide (n ≥ lo) = true := decide_eq_true h1
    go_enter Tryd.func93, Tryd.ntmps93
    go_wp2
    go_ret
    exact ⟨by simp [d1], rfl⟩
  · have d1 : decide (lo ≤ n) = false := decide_eq_false h1
    have d1' : decide (n ≥ lo) = false := decide_eq_false h1
    go_enter Tryd.func93, Tryd.ntmps93
    go_wp2
    go_ret
    exact ⟨by simp [d1], rfl⟩
theorem numS (n : Int) {b : Bool} (hb : LabC.isB n 0 100 = b) (w : World) : Calls Tryd.prog 97 #[.int .i64 n] w fun e w' => e = .returned (.bool b) ∧ w = w' := by
  subst hb
  go_enter Tryd.func97, Tryd.ntmps97
  go_wp2_with (go_at_call 57; refine (is_any _ _ _ _).mono ?_; rintro e w' ⟨rfl, rfl⟩)
  go_ret
  exact ⟨rfl, rfl⟩
theorem numI (n : Int) {b : Bool} (hb : LabC.isB n 0 100 = b) (w : World) : Calls Tryd.prog 85 #[.int .i64 n] w fun e w' => e = .returned (.bool b) ∧ w = w' := by
  subst hb
  go_enter Tryd.func85, Tryd.ntmps85
  go_wp2_with (go_at_call 93; refine (within_b _ _ _ _).mono ?_; rintro e w' ⟨rfl, rfl⟩)
  go_ret
  exact ⟨rfl, rfl⟩

set_option maxRecDepth 100000 in
set_option maxHeartbeats 1600000 in
theorem entright_spec (x0 x1 x2 x3 x4 x5 : Int) (W : World) :
    Calls Tryd.prog 80 #[.agg #[.int .i64 x0, .int .i64 x1, .int .i64 x2, .int .i64 x3, .int .i64 x4, .int .i64 x5]] W fun e w' => e = .returned (.bool (entB x0 x1 x2 x3 x4 x5)) ∧ Below W.heap.size W w' := by
  obtain ⟨b0, h0⟩ : ∃ b, rB x1 x2 = b := ⟨_, rfl⟩
  obtain ⟨b1, h1⟩ : ∃ b, LabC.isB x3 0 100 = b := ⟨_, rfl⟩
  obtain ⟨b2, h2⟩ : ∃ b, LabC.isB x4 0 100 = b := ⟨_, rfl⟩
  obtain ⟨b3, h3⟩ : ∃ b, LabC.isB x5 0 100 = b := ⟨_, rfl⟩
  obtain ⟨v, hv⟩ : ∃ v, entB x0 x1 x2 x3 x4 x5 = v := ⟨_, rfl⟩
  rw [hv]
  have HV : Hid ((b0 && (b1 && (b2 && (b3 && kindB x0 x1 x2 x3 x4 x5)))) = v) := Lib.hid (by rw [← h0, ← h1, ← h2, ← h3]; exact hv)
  have H0 := Lib.hid h0
  have H1 := Lib.hid h1
  have H2 := Lib.hid h2
  have H3 := Lib.hid h3
  clear h0 h1 h2 h3 hv
  have HB0 := Lib.hid (show Below W.heap.size W (W.alloc (.cells #[.int .i64 x0, .int .i64 x1, .int .i64 x2, .int .i64 x3, .int .i64 x4, .int .i64 x5] 25)) from (Below.refl _ _).alloc (Nat.le_refl _) _)
  have HP0 := Lib.hid (Blk.new W 25 #[.int .i64 x0, .int .i64 x1, .int .i64 x2, .int .i64 x3, .int .i64 x4, .int .i64 x5])
  have hz0 : W.heap.size ≤ (W.alloc (.cells #[.int .i64 x0, .int .i64 x1, .int .i64 x2, .int .i64 x3, .int .i64 x4, .int .i64 x5] 25)).heap.size := HB0.out.size
  go_enter Tryd.func80, Tryd.ntmps80
  go_wp2_with fail
  refine (labS x1 x2 H0.out _).mono ?_
  rintro e w1 ⟨rfl, hb⟩
  have HP1 := Lib.hid (HP0.out.call hb)
  have HB1 := Lib.hid (HB0.out.trans (hb.mono hz0))
  have hz1 : W.heap.size ≤ w1.heap.size := HB1.out.size
  clear hb
  have p0 := HP1.out.at_ 0 rfl
  have p1 := HP1.out.at_ 1 rfl
  have p2 := HP1.out.at_ 2 rfl
  have p3 := HP1.out.at_ 3 rfl
  have p4 := HP1.out.at_ 4 rfl
  have p5 := HP1.out.at_ 5 rfl
  clear HP0 HB0
  cases b0 with
  | false =>
    have hV := HV.out
    simp at hV
    subst hV
    go_wp2
    go_ret
    exact ⟨rfl, by first | exact HB1.out | exact HB1.out.alloc hz1 _⟩
  | true =>
    go_wp2_with fail
    refine (numS _ H1.out _).mono ?_
    rintro e w2 ⟨rfl, rfl⟩
    cases b1 with
    | false =>
      have hV := HV.out
      simp at hV
      subst hV
      go_wp2
      go_ret
      exact ⟨rfl, by first | exact HB1.out | exact HB1.out.alloc hz1 _⟩
    | true =>
      go_wp2_with fail
      refine (numS _ H2.out _).mono ?_
      rintro e w2 ⟨rfl, rfl⟩
      cases b2 with
      | false =>
        have hV := HV.out
        simp at hV
        subst hV
        go_wp2
        go_ret
        exact ⟨rfl, by first | exact HB1.out | exact HB1.out.alloc hz1 _⟩
      | true =>
        go_wp2_with fail
        refine (numS _ H3.out _).mono ?_
        rintro e w2 ⟨rfl, rfl⟩
        cases b3 with
        | false =>
          have hV := HV.out
          simp at hV
          subst hV
          go_wp2
          go_ret
          exact ⟨rfl, by first | exact HB1.out | exact HB1.out.alloc hz1 _⟩
        | true =>
          have hV := HV.out
          simp only [Bool.true_and] at hV
          clear HV
          by_cases k1 : x0 = 1
          · subst k1
            rw [kind_1] at hV
            subst hV
            go_wp2
            go_ret
            exact ⟨rfl, HB1.out⟩
          by_cases k2 : x0 = 2
          · subst k2
            rw [kind_2] at hV
            have HV := Lib.hid hV
            clear hV k1
            go_wp2
            go_ret
            have hV := HV.out
            subst hV
            exact ⟨rfl, HB1.out⟩
          by_cases k3 : x0 = 3
          · subst k3
            rw [kind_3] at hV
            have hq := adv_at hV
            clear hV k1 k2
            go_wp2
            go_ret
            exact ⟨rfl, by first | exact HB1.out | exact HB1.out.alloc hz1 _⟩
          rw [kind_no k1 k2 k3] at hV
          subst hV
          have g1 : (x0 == 1) = false := beq_eq_false_iff_ne.2 k1
          have g2 : (x0 == 2) = false := beq_eq_false_iff_ne.2 k2
          have g3 : (x0 == 3) = false := beq_eq_false_iff_ne.2 k3
          clear k1 k2 k3
          go_wp2
          go_ret
          exact ⟨rfl, HB1.out⟩

set_option maxRecDepth 100000 in
set_option maxHeartbeats 1600000 in
theorem entright_impl (x0 x1 x2 x3 x4 x5 : Int) (W : World) :
    Calls Tryd.prog 47 #[.agg #[.int .i64 x0, .int .i64 x1, .int .i64 x2, .int .i64 x3, .int .i64 x4, .int .i64 x5]] W fun e w' => e = .returned (.bool (entB x0 x1 x2 x3 x4 x5)) ∧ Below W.heap.size W w' := by
  obtain ⟨b0, h0⟩ : ∃ b, rB x1 x2 = b := ⟨_, rfl⟩
  obtain ⟨b1, h1⟩ : ∃ b, LabC.isB x3 0 100 = b := ⟨_, rfl⟩
  obtain ⟨b2, h2⟩ : ∃ b, LabC.isB x4 0 100 = b := ⟨_, rfl⟩
  obtain ⟨b3, h3⟩ : ∃ b, LabC.isB x5 0 100 = b := ⟨_, rfl⟩
  obtain ⟨v, hv⟩ : ∃ v, entB x0 x1 x2 x3 x4 x5 = v := ⟨_, rfl⟩
  rw [hv]
  have HV : Hid ((b0 && (b1 && (b2 && (b3 && kindB x0 x1 x2 x3 x4 x5)))) = v) := Lib.hid (by rw [← h0, ← h1, ← h2, ← h3]; exact hv)
  have H0 := Lib.hid h0
  have H1 := Lib.hid h1
  have H2 := Lib.hid h2
  have H3 := Lib.hid h3
  clear h0 h1 h2 h3 hv
  have HB0 := Lib.hid (show Below W.heap.size W (W.alloc (.cells #[.int .i64 x0, .int .i64 x1, .int .i64 x2, .int .i64 x3, .int .i64 x4, .int .i64 x5] 25)) from (Below.refl _ _).alloc (Nat.le_refl _) _)
  have HP0 := Lib.hid (Blk.new W 25 #[.int .i64 x0, .int .i64 x1, .int .i64 x2, .int .i64 x3, .int .i64 x4, .int .i64 x5])
  have hz0 : W.heap.size ≤ (W.alloc (.cells #[.int .i64 x0, .int .i64 x1, .int .i64 x2, .int .i64 x3, .int .i64 x4, .int .i64 x5] 25)).heap.size := HB0.out.size
  go_enter Tryd.func47, Tryd.ntmps47
  go_wp2_with fail
  refine (labI x1 x2 H0.out _).mono ?_
  rintro e w1 ⟨rfl, hb⟩
  have HP1 := Lib.hid (HP0.out.call hb)
  have HB1 := Lib.hid (HB0.out.trans (hb.mono hz0))
  have hz1 : W.heap.size ≤ w1.heap.size := HB1.out.size
  clear hb
  have p0 := HP1.out.at_ 0 rfl
  have p1 := HP1.out.at_ 1 rfl
  have p2 := HP1.out.at_ 2 rfl
  have p3 := HP1.out.at_ 3 rfl
  have p4 := HP1.out.at_ 4 rfl
  have p5 := HP1.out.at_ 5 rfl
  clear HP0 HB0
  cases b0 with
  | false =>
    have hV := HV.out
    simp at hV
    subst hV
    go_wp2
    go_ret
    exact ⟨rfl, by first | exact HB1.out | exact HB1.out.alloc hz1 _⟩
  | true =>
    go_wp2_with fail
    refine (numI _ H1.out _).mono ?_
    rintro e w2 ⟨rfl, rfl⟩
    cases b1 with
    | false =>
      have hV := HV.out
      simp at hV
      subst hV
      go_wp2
      go_ret
      exact ⟨rfl, by first | exact HB1.out | exact HB1.out.alloc hz1 _⟩
    | true =>
      go_wp2_with fail
      refine (numI _ H2.out _).mono ?_
      rintro e w2 ⟨rfl, rfl⟩
      cases b2 with
      | false =>
        have hV := HV.out
        simp at hV
        subst hV
        go_wp2
        go_ret
        exact ⟨rfl, by first | exact HB1.out | exact HB1.out.alloc hz1 _⟩
      | true =>
        go_wp2_with fail
        refine (numI _ H3.out _).mono ?_
        rintro e w2 ⟨rfl, rfl⟩
        cases b3 with
        | false =>
          have hV := HV.out
          simp at hV
          subst hV
          go_wp2
          go_ret
          exact ⟨rfl, by first | exact HB1.out | exact HB1.out.alloc hz1 _⟩
        | true =>
          have hV := HV.out
          simp only [Bool.true_and] at hV
          clear HV
          by_cases k1 : x0 = 1
          · subst k1
            rw [kind_1] at hV
            subst hV
            go_wp2
            go_ret
            exact ⟨rfl, HB1.out⟩
          by_cases k2 : x0 = 2
          · subst k2
            rw [kind_2] at hV
            have HV := Lib.hid hV
            clear hV k1
            go_wp2
            go_ret
            have hV := HV.out
            subst hV
            exact ⟨rfl, HB1.out⟩
          by_cases k3 : x0 = 3
          · subst k3
            rw [kind_3] at hV
            have hq := adv_at hV
            clear hV k1 k2
            go_wp2
            go_ret
            exact ⟨rfl, by first | exact HB1.out | exact HB1.out.alloc hz1 _⟩
          rw [kind_no k1 k2 k3] at hV
          subst hV
          have g1 : (x0 == 1) = false := beq_eq_false_iff_ne.2 k1
          have g2 : (x0 == 2) = false := beq_eq_false_iff_ne.2 k2
          have g3 : (x0 == 3) = false := beq_eq_false_iff_ne.2 k3
          clear k1 k2 k3
          go_wp2
          go_ret
          exact ⟨rfl, HB1.out⟩
end Go.Proofs.YtdimpopkkjpddaaDoor.EnC
