/- WishRight of both sides: contracts. -/
import Derived.Test.YtelhmacfljffhaaYwP
import Derived.Test.YtelhmacfljffhaaTaR2
namespace Go.Proofs.Ytelhmacfljffhaa.RepC
open Go.RowKit RowC ValC SpanC KeptC NameC
set_option linter.unusedVariables false
set_option linter.unusedSimpArgs false

set_option maxRecDepth 100000 in
set_option maxHeartbeats 1600000 in
theorem wishR_spec {x0 : ByteArray} {x1 x2 x3 x4 x5 x6 x7 : Int} {W : World} (b_x0 : x0.size ≤ maxLen) : Calls Try.prog 5 #[.agg #[.string x0, .int .i64 x1, .int .i64 x2, .int .i64 x3, .int .i64 x4, .int .i64 x5, .int .i64 x6, .int .i64 x7]] W (ResB (WishR (x0, x1, x2, x3, (x4, x5), x6, x7)) W) := by
  have HX0 := Lib.hid b_x0
  unfold maxLen at b_x0
  obtain ⟨b0, h0⟩ : ∃ b, nameB x0 = b := ⟨_, rfl⟩
  have H0 := Lib.hid h0
  clear h0
  obtain ⟨b1, h1⟩ : ∃ b, isB x1 1 6 = b := ⟨_, rfl⟩
  have H1 := Lib.hid h1
  clear h1
  obtain ⟨b2, h2⟩ : ∃ b, isB x2 1 20 = b := ⟨_, rfl⟩
  have H2 := Lib.hid h2
  clear h2
  obtain ⟨b3, h3⟩ : ∃ b, isB x3 0 9 = b := ⟨_, rfl⟩
  have H3 := Lib.hid h3
  clear h3
  obtain ⟨b4, h4⟩ : ∃ b, isB x7 1 4 = b := ⟨_, rfl⟩
  have H4 := Lib.hid h4
  clear h4
  obtain ⟨b5, h5⟩ : ∃ b, isB x6 1 12 = b := ⟨_, rfl⟩
  have H5 := Lib.hid h5
  clear h5
  obtain ⟨b6, h6⟩ : ∃ b, LabC.rB x4 x5 = b := ⟨_, rfl⟩
  have H6 := Lib.hid h6
  clear h6
  have HB0 := Lib.hid (show Below W.heap.size W (W.alloc (.cells #[.string x0, .int .i64 x1, .int .i64 x2, .int .i64 x3, .int .i64 x4, .int .i64 x5, .int .i64 x6, .int .i64 x7] 30)) from (Below.refl _ _).alloc (Nat.le_refl _) _)
  have HP0 := Lib.hid (Blk.new W 30 #[.string x0, .int .i64 x1, .int .i64 x2, .int .i64 x3, .int .i64 x4, .int .i64 x5, .int .i64 x6, .int .i64 x7])
  go_enter Try.func5, Try.ntmps5
  go_wp2_with fail
  refine (nameS_at HX0.out H0.out _).mono ?_
  rintro e w2 ⟨rfl, rfl⟩
  cases b0 with
  | false =>
    have HV := Lib.hid (show ¬ WishR (x0, x1, x2, x3, (x4, x5), x6, x7) from fun h => by have h2 := h.1; rw [H0.out] at h2; cases h2)
    go_wp2
    go_ret
    exact resB_no HV.out HB0.out
  | true =>
    go_wp2_with fail
    refine (isS_at _ _ _ H1.out _).mono ?_
    rintro e w2 ⟨rfl, rfl⟩
    cases b1 with
    | false =>
      have HV := Lib.hid (show ¬ WishR (x0, x1, x2, x3, (x4, x5), x6, x7) from fun h => by have h2 := h.2.1; rw [H1.out] at h2; cases h2)
      go_wp2
      go_ret
      exact resB_no HV.out HB0.out
    | true =>
      go_wp2_with fail
      refine (isS_at _ _ _ H2.out _).mono ?_
      rintro e w2 ⟨rfl, rfl⟩
      cases b2 with
      | false =>
        have HV := Lib.hid (show ¬ WishR (x0, x1, x2, x3, (x4, x5), x6, x7) from fun h => by have h2 := h.2.2.1; rw [H2.out] at h2; cases h2)
        go_wp2
        go_ret
        exact resB_no HV.out HB0.out
      | true =>
        go_wp2_with fail
        refine (isS_at _ _ _ H3.out _).mono ?_
        rintro e w2 ⟨rfl, rfl⟩
        cases b3 with
        | false =>
          have HV := Lib.hid (show ¬ WishR (x0, x1, x2, x3, (x4, x5), x6, x7) from fun h => by have h2 := h.2.2.2.1; rw [H3.out] at h2; cases h2)
          go_wp2
          go_ret
          exact resB_no HV.out HB0.out
        | true =>
          go_wp2_with fail
          refine (isS_at _ _ _ H4.out _).mono ?_
          rintro e w2 ⟨rfl, rfl⟩
          cases b4 with
          | false =>
            have HV := Lib.hid (show ¬ WishR (x0, x1, x2, x3, (x4, x5), x6, x7) from fun h => by have h2 := h.2.2.2.2.1; rw [H4.out] at h2; cases h2)
            go_wp2
            go_ret
            exact resB_no HV.out HB0.out
          | true =>
            by_cases h9 : x6 = 0
            · have h9' : (x6 == 0) = true := beq_iff_eq.2 h9
              have h9n : (x6 != 0) = false := by simp [h9]
              obtain ⟨q, hq⟩ : ∃ q, decide (((x4, x5) : Int × Int) = (0, 0)) = q := ⟨_, rfl⟩
              have hqq := eql_lab x4 x5 0 0 q hq
              have HQ := Lib.hid hq
              have H9 := Lib.hid h9
              clear hq h9
              cases q with
              | false =>
                have HV := Lib.hid (show ¬ WishR (x0, x1, x2, x3, (x4, x5), x6, x7) from fun h => by have h2 := h.2.2.2.2.2.1 H9.out; exact of_decide_eq_false HQ.out (by rw [h2.1, h2.2]))
                go_wp2
                go_ret
                exact resB_no HV.out HB0.out
              | true =>
                have HV := Lib.hid (show WishR (x0, x1, x2, x3, (x4, x5), x6, x7) from ⟨H0.out, H1.out, H2.out, H3.out, H4.out, fun _ => by have h2 := of_decide_eq_true HQ.out; simpa using h2, fun h => absurd H9.out h⟩)
                go_wp2
                go_ret
                exact resB_yes HV.out HB0.out
            · have h9' : (x6 == 0) = false := beq_eq_false_iff_ne.2 h9
              have h9n : (x6 != 0) = true := by simp [h9]
              have H9 := Lib.hid h9
              clear h9
              go_wp2_with fail
              refine (isS_at _ _ _ H5.out _).mono ?_
              rintro e w2 ⟨rfl, rfl⟩
              cases b5 with
              | false =>
                have HV := Lib.hid (show ¬ WishR (x0, x1, x2, x3, (x4, x5), x6, x7) from fun h => by have h2 := (h.2.2.2.2.2.2 H9.out).1; rw [H5.out] at h2; cases h2)
                go_wp2
                go_ret
                exact resB_no HV.out HB0.out
              | true =>
                go_wp2_with fail
                refine (labS_at _ _ H6.out _).mono ?_
                rintro e w3 ⟨rfl, hb⟩
                have HB3 := Lib.hid (HB0.out.trans (hb.mono HB0.out.size))
                clear hb
                cases b6 with
                | false =>
                  have HV := Lib.hid (show ¬ WishR (x0, x1, x2, x3, (x4, x5), x6, x7) from fun h => by have h2 := (h.2.2.2.2.2.2 H9.out).2; rw [H6.out] at h2; cases h2)
                  go_wp2
                  go_ret
                  exact resB_no HV.out HB3.out
                | true =>
                  have HV := Lib.hid (show WishR (x0, x1, x2, x3, (x4, x5), x6, x7) from ⟨H0.out, H1.out, H2.out, H3.out, H4.out, fun h => absurd h H9.out, fun _ => ⟨H5.out, H6.out⟩⟩)
                  go_wp2
                  go_ret
                  exact resB_yes HV.out HB3.out
set_option maxRecDepth 100000 in
set_option maxHeartbeats 1600000 in
theorem wdep_impl {x0 : ByteArray} {x1 x2 x3 x4 x5 x6 x7 : Int} {W : World} (b_x0 : x0.size ≤ maxLen) : Calls Try.prog 14 #[.agg #[.string x0, .int .i64 x1, .int .i64 x2, .int .i64 x3, .int .i64 x4, .int .i64 x5, .int .i64 x6, .int .i64 x7]] W (ResB (((x6 = 0 → x4 = 0 ∧ x5 = 0) ∧ (x6 ≠ 0 → isB x6 1 12 = true ∧ LabC.rB x4 x5 = true))) W) := by
  have HX0 := Lib.hid b_x0
  unfold maxLen at b_x0
  obtain ⟨b5, h5⟩ : ∃ b, isB x6 1 12 = b := ⟨_, rfl⟩
  have H5 := Lib.hid h5
  clear h5
  obtain ⟨b6, h6⟩ : ∃ b, LabC.rB x4 x5 = b := ⟨_, rfl⟩
  have H6 := Lib.hid h6
  clear h6
  have HB0 := Lib.hid (show Below W.heap.size W (W.alloc (.cells #[.string x0, .int .i64 x1, .int .i64 x2, .int .i64 x3, .int .i64 x4, .int .i64 x5, .int .i64 x6, .int .i64 x7] 30)) from (Below.refl _ _).alloc (Nat.le_refl _) _)
  have HP0 := Lib.hid (Blk.new W 30 #[.string x0, .int .i64 x1, .int .i64 x2, .int .i64 x3, .int .i64 x4, .int .i64 x5, .int .i64 x6, .int .i64 x7])
  go_enter Try.func14, Try.ntmps14
  by_cases h9 : x6 = 0
  · have h9' : (x6 == 0) = true := beq_iff_eq.2 h9
    have h9n : (x6 != 0) = false := by simp [h9]
    obtain ⟨q, hq⟩ : ∃ q, decide (((x4, x5) : Int × Int) = (0, 0)) = q := ⟨_, rfl⟩
    have hqq := eql_lab x4 x5 0 0 q hq
    have HQ := Lib.hid hq
    have H9 := Lib.hid h9
    clear hq h9
    cases q with
    | false =>
      have HV := Lib.hid (show ¬ ((x6 = 0 → x4 = 0 ∧ x5 = 0) ∧ (x6 ≠ 0 → isB x6 1 12 = true ∧ LabC.rB x4 x5 = true)) from fun h => by have h2 := h.1 H9.out; exact of_decide_eq_false HQ.out (by rw [h2.1, h2.2]))
      go_wp2
      go_ret
      exact resB_no HV.out HB0.out
    | true =>
      have HV := Lib.hid (show ((x6 = 0 → x4 = 0 ∧ x5 = 0) ∧ (x6 ≠ 0 → isB x6 1 12 = true ∧ LabC.rB x4 x5 = true)) from ⟨fun _ => by have h2 := of_decide_eq_true HQ.out; simpa using h2, fun h => absurd H9.out h⟩)
      go_wp2
      go_ret
      exact resB_yes HV.out HB0.out
  · have h9' : (x6 == 0) = false := beq_eq_false_iff_ne.2 h9
    have h9n : (x6 != 0) = true := by simp [h9]
    have H9 := Lib.hid h9
    clear h9
    go_wp2_with fail
    refine (tid_at _ H5.out _).mono ?_
    rintro e w2 ⟨rfl, rfl⟩
    cases b5 with
    | false =>
      have HV := Lib.hid (show ¬ ((x6 = 0 → x4 = 0 ∧ x5 = 0) ∧ (x6 ≠ 0 → isB x6 1 12 = true ∧ LabC.rB x4 x5 = true)) from fun h => by have h2 := (h.2 H9.out).1; rw [H5.out] at h2; cases h2)
      go_wp2
      go_ret
      exact resB_no HV.out HB0.out
    | true =>
      go_wp2_with fail
      refine (labi_below _ _ H6.out _).mono ?_
      rintro e w3 ⟨rfl, hb⟩
      have HB3 := Lib.hid (HB0.out.trans (hb.mono HB0.out.size))
      clear hb
      cases b6 with
      | false =>
        have HV := Lib.hid (show ¬ ((x6 = 0 → x4 = 0 ∧ x5 = 0) ∧ (x6 ≠ 0 → isB x6 1 12 = true ∧ LabC.rB x4 x5 = true)) from fun h => by have h2 := (h.2 H9.out).2; rw [H6.out] at h2; cases h2)
        go_wp2
        go_ret
        exact resB_no HV.out HB3.out
      | true =>
        have HV := Lib.hid (show ((x6 = 0 → x4 = 0 ∧ x5 = 0) ∧ (x6 ≠ 0 → isB x6 1 12 = true ∧ LabC.rB x4 x5 = true)) from ⟨fun h => absurd h H9.out, fun _ => ⟨H5.out, H6.out⟩⟩)
        go_wp2
        go_ret
        exact resB_yes HV.out HB3.out
set_option maxRecDepth 100000 in
set_option maxHeartbeats 1600000 in
theorem wishR_impl {x0 : ByteArray} {x1 x2 x3 x4 x5 x6 x7 : Int} {W : World} (b_x0 : x0.size ≤ maxLen) : Calls Try.prog 7 #[.agg #[.string x0, .int .i64 x1, .int .i64 x2, .int .i64 x3, .int .i64 x4, .int .i64 x5, .int .i64 x6, .int .i64 x7]] W (ResB (WishR (x0, x1, x2, x3, (x4, x5), x6, x7)) W) := by
  have HX0 := Lib.hid b_x0
  unfold maxLen at b_x0
  obtain ⟨b0, h0⟩ : ∃ b, nameB x0 = b := ⟨_, rfl⟩
  have H0 := Lib.hid h0
  clear h0
  obtain ⟨b1, h1⟩ : ∃ b, isB x1 1 6 = b := ⟨_, rfl⟩
  have H1 := Lib.hid h1
  clear h1
  obtain ⟨b2, h2⟩ : ∃ b, isB x2 1 20 = b := ⟨_, rfl⟩
  have H2 := Lib.hid h2
  clear h2
  obtain ⟨b3, h3⟩ : ∃ b, isB x3 0 9 = b := ⟨_, rfl⟩
  have H3 := Lib.hid h3
  clear h3
  obtain ⟨b4, h4⟩ : ∃ b, isB x7 1 4 = b := ⟨_, rfl⟩
  have H4 := Lib.hid h4
  clear h4
  have HB0 := Lib.hid (show Below W.heap.size W (W.alloc (.cells #[.string x0, .int .i64 x1, .int .i64 x2, .int .i64 x3, .int .i64 x4, .int .i64 x5, .int .i64 x6, .int .i64 x7] 30)) from (Below.refl _ _).alloc (Nat.le_refl _) _)
  have HP0 := Lib.hid (Blk.new W 30 #[.string x0, .int .i64 x1, .int .i64 x2, .int .i64 x3, .int .i64 x4, .int .i64 x5, .int .i64 x6, .int .i64 x7])
  go_enter Try.func7, Try.ntmps7
  go_wp2_with fail
  refine (nameI_at HX0.out H0.out _).mono ?_
  rintro e w2 ⟨rfl, rfl⟩
  cases b0 with
  | false =>
    have HV := Lib.hid (show ¬ WishR (x0, x1, x2, x3, (x4, x5), x6, x7) from fun h => by have h2 := h.1; rw [H0.out] at h2; cases h2)
    go_wp2
    go_ret
    exact resB_no HV.out HB0.out
  | true =>
    obtain ⟨bw, hbw⟩ : ∃ b, (isB x1 1 6 && (isB x2 1 20 && isB x3 0 9)) = b := ⟨_, rfl⟩
    have HBW := Lib.hid (show bw = true ↔ (isB x1 1 6 = true ∧ isB x2 1 20 = true ∧ isB x3 0 9 = true) from by rw [← hbw]; simp only [Bool.and_eq_true])
    have HWI := Lib.hid (fun V => wish_impl hbw V)
    clear hbw
    go_wp2_with fail
    refine (HWI.out _).mono ?_
    rintro e w2 ⟨rfl, rfl⟩
    cases bw with
    | false =>
      have HV := Lib.hid (show ¬ WishR (x0, x1, x2, x3, (x4, x5), x6, x7) from fun h => by have h2 := HBW.out.2 ⟨h.2.1, h.2.2.1, h.2.2.2.1⟩; cases h2)
      go_wp2
      go_ret
      exact resB_no HV.out HB0.out
    | true =>
      have HW3 := Lib.hid (HBW.out.1 rfl)
      have HLT := HB0.out.size
      go_wp2_with fail
      refine (wdep_impl HX0.out).mono ?_
      intro e w1 h
      obtain ⟨c, rfl, hc, hb⟩ := resB_elim h
      have HC := Lib.hid hc
      have HB1 := Lib.hid (HB0.out.trans (hb.mono HB0.out.size))
      have HP1 := Lib.hid (HP0.out.call hb)
      clear h hc hb
      have p7 := HP1.out.at_ 7 rfl
      cases c with
      | false =>
        have HV := Lib.hid (show ¬ WishR (x0, x1, x2, x3, (x4, x5), x6, x7) from fun h => by have h2 := HC.out.2 ⟨h.2.2.2.2.2.1, h.2.2.2.2.2.2⟩; cases h2)
        go_wp2
        go_ret
        exact resB_no HV.out HB1.out
      | true =>
        have HD := Lib.hid (HC.out.1 rfl)
        go_wp2_with fail
        refine (wi_at _ _ _ H4.out _).mono ?_
        rintro e w2 ⟨rfl, rfl⟩
        have HV := Lib.hid (show b4 = true ↔ WishR (x0, x1, x2, x3, (x4, x5), x6, x7) from ⟨fun h => ⟨H0.out, HW3.out.1, HW3.out.2.1, HW3.out.2.2, by rw [H4.out]; exact h, HD.out.1, HD.out.2⟩, fun h => by have h2 := h.2.2.2.2.1; rw [H4.out] at h2; exact h2⟩)
        go_wp2
        go_ret
        exact ⟨b4, rfl, HV.out, HB1.out⟩
theorem gwish_spec {x : D_Wish} {cs : List Value} {W : World} (h : R_Wish.rd W W.heap.size x cs) : Calls Try.prog 5 #[.agg cs.toArray] W (IsB (wishB x) W) := by
  obtain ⟨x0, x1, x2, x3, ⟨x4, x5⟩, x6, x7⟩ := x
  obtain ⟨rfl, b⟩ := rd_Wish h
  exact (wishR_spec b).mono fun e w' h => resB_is wishB_iff h
theorem gwish_impl {x : D_Wish} {cs : List Value} {W : World} (h : R_Wish.rd W W.heap.size x cs) : Calls Try.prog 7 #[.agg cs.toArray] W (IsB (wishB x) W) := by
  obtain ⟨x0, x1, x2, x3, ⟨x4, x5⟩, x6, x7⟩ := x
  obtain ⟨rfl, b⟩ := rd_Wish h
  exact (wishR_impl b).mono fun e w' h => resB_is wishB_iff h
end Go.Proofs.Ytelhmacfljffhaa.RepC
