/- TaskRight of the model: a contract. -/
import Derived.Test.YtmmnkdilnlhbfaaTaP
namespace Go.Proofs.Ytmmnkdilnlhbfaa.RepC
open Go.RowKit RowC ValC SpanC KeptC NameC
set_option linter.unusedVariables false
set_option linter.unusedSimpArgs false

theorem isS_at (n lo hi : Int) {b : Bool} (hb : isB n lo hi = b) (w : World) :
    Calls Try.prog 76 #[.int .i64 n, .int .i64 lo, .int .i64 hi] w fun e w' => e = .returned (.bool b) ∧ w = w' := by
  subst hb
  exact is_spec n lo hi w
theorem timeS_at (n : Int) {b : Bool} (hb : isB n 0 1000000 = b) (w : World) :
    Calls Try.prog 98 #[.int .i64 n] w fun e w' => e = .returned (.bool b) ∧ w = w' := by
  subst hb
  exact time_spec n w
theorem nowS_at (n : Int) {b : Bool} (hb : isB n 0 999900 = b) (w : World) :
    Calls Try.prog 96 #[.int .i64 n] w fun e w' => e = .returned (.bool b) ∧ w = w' := by
  subst hb
  go_enter Try.func96, Try.ntmps96
  go_wp2_with (go_at_call 76; refine (is_spec _ _ _ _).mono ?_; rintro e w' ⟨rfl, rfl⟩)
  go_ret
  exact ⟨rfl, rfl⟩
theorem res_nameX {s : ByteArray} {w w' : World} {e : Ending} (h : NameC.Res (NameP s) w e w') : e = .returned (.bool (nameB s)) ∧ w = w' := by
  obtain ⟨b, rfl, hb, rfl⟩ := h
  have : b = nameB s := by
    cases b <;> cases hn : nameB s
    · rfl
    · exact absurd (hb.2 (nameB_iff.1 hn)) (by decide)
    · exact absurd (nameB_iff.2 (hb.1 rfl)) (by rw [hn]; decide)
    · rfl
  exact ⟨by rw [this], rfl⟩
theorem nameS_at {s : ByteArray} {b : Bool} (hs : s.size ≤ maxLen) (hb : nameB s = b) (w : World) : Calls Try.prog 95 #[.string s] w fun e w' => e = .returned (.bool b) ∧ w = w' := by
  subst hb
  exact (spec_any s w hs).mono fun _ _ h => res_nameX h
theorem nameI_at {s : ByteArray} {b : Bool} (hs : s.size ≤ maxLen) (hb : nameB s = b) (w : World) : Calls Try.prog 102 #[.string s] w fun e w' => e = .returned (.bool b) ∧ w = w' := by
  subst hb
  exact (impl_any s w hs).mono fun _ _ h => res_nameX h
theorem labS_at (l s : Int) {b : Bool} (hb : LabC.rB l s = b) (w : World) :
    Calls Try.prog 94 #[.agg #[.int .i64 l, .int .i64 s]] w fun e w' => e = .returned (.bool b) ∧ Below w.heap.size w w' := by
  subst hb
  exact (LabC.right_spec l s w).mono fun _ _ ⟨h1, h2⟩ => ⟨h1, by rw [← h2]; exact (Below.refl _ _).alloc (Nat.le_refl _) _⟩
theorem belS_at (l s m t : Int) {b : Bool} (hb : LabC.belowB l s m t = b) (w : World) :
    Calls Try.prog 97 #[.agg #[.int .i64 l, .int .i64 s], .agg #[.int .i64 m, .int .i64 t]] w fun e w' => e = .returned (.bool b) ∧ Below w.heap.size w w' := by
  subst hb
  exact LabC.below_spec l s m t w
theorem belI_at (l s m t : Int) {b : Bool} (hb : LabC.belowB l s m t = b) (w : World) :
    Calls Try.prog 120 #[.agg #[.int .i64 l, .int .i64 s], .agg #[.int .i64 m, .int .i64 t]] w fun e w' => e = .returned (.bool b) ∧ Below w.heap.size w w' := by
  subst hb
  exact LabC.below_impl l s m t w

set_option maxRecDepth 100000 in
set_option maxHeartbeats 6400000 in
theorem taskP_spec {x0 x1 x2 : Int} {x3 : ByteArray} {x4 x5 x6 x7 x8 x9 x10 x11 x12 : Int} {L : List Int} {a : Option Addr} {c : Nat} {W : World} (b_x3 : x3.size ≤ maxLen) (h : RdSl I W W.heap.size L a c) : Calls Try.prog 58 #[.agg #[.int .i64 x0, .int .i64 x1, .int .i64 x2, .string x3, .int .i64 x4, .int .i64 x5, .int .i64 x6, .int .i64 x7, .int .i64 x8, .int .i64 x9, .int .i64 x10, .int .i64 x11, .int .i64 x12, .slice a L.length c]] W (ResB (TaskR ((x0, x1), x2, x3, x4, x5, x6, (x7, x8), x9, x10, x11, x12, L)) W) := by
  have hn : L.length ≤ 9223372036854775807 := by have h1 := h.1; have h2 := h.2.1; unfold maxLen at h2; omega
  have H := Lib.hid h
  clear h
  have HX3 := Lib.hid b_x3
  unfold maxLen at b_x3
  obtain ⟨b0, h0⟩ : ∃ b, LabC.rB x0 x1 = b := ⟨_, rfl⟩
  have H0 := Lib.hid h0
  clear h0
  obtain ⟨b1, h1⟩ : ∃ b, isB x2 1 12 = b := ⟨_, rfl⟩
  have H1 := Lib.hid h1
  clear h1
  obtain ⟨b2, h2⟩ : ∃ b, nameB x3 = b := ⟨_, rfl⟩
  have H2 := Lib.hid h2
  clear h2
  obtain ⟨b3, h3⟩ : ∃ b, isB x4 1 6 = b := ⟨_, rfl⟩
  have H3 := Lib.hid h3
  clear h3
  obtain ⟨b4, h4⟩ : ∃ b, isB x5 1 20 = b := ⟨_, rfl⟩
  have H4 := Lib.hid h4
  clear h4
  obtain ⟨b5, h5⟩ : ∃ b, isB x6 0 9 = b := ⟨_, rfl⟩
  have H5 := Lib.hid h5
  clear h5
  obtain ⟨b6, h6⟩ : ∃ b, isB x10 0 999900 = b := ⟨_, rfl⟩
  have H6 := Lib.hid h6
  clear h6
  obtain ⟨b7, h7⟩ : ∃ b, isB x11 1 6 = b := ⟨_, rfl⟩
  have H7 := Lib.hid h7
  clear h7
  obtain ⟨b8, h8⟩ : ∃ b, isB x9 1 12 = b := ⟨_, rfl⟩
  have H8 := Lib.hid h8
  clear h8
  obtain ⟨b9, h9⟩ : ∃ b, LabC.belowB x7 x8 x0 x1 = b := ⟨_, rfl⟩
  have HBB := Lib.hid h9
  clear h9
  obtain ⟨b10, h10⟩ : ∃ b, isB x12 0 1000000 = b := ⟨_, rfl⟩
  have H10 := Lib.hid h10
  clear h10
  have HB0 := Lib.hid (show Below W.heap.size W (W.alloc (.cells #[.int .i64 x0, .int .i64 x1, .int .i64 x2, .string x3, .int .i64 x4, .int .i64 x5, .int .i64 x6, .int .i64 x7, .int .i64 x8, .int .i64 x9, .int .i64 x10, .int .i64 x11, .int .i64 x12, .slice a L.length c] 54)) from (Below.refl _ _).alloc (Nat.le_refl _) _)
  have HP0 := Lib.hid (Blk.new W 54 #[.int .i64 x0, .int .i64 x1, .int .i64 x2, .string x3, .int .i64 x4, .int .i64 x5, .int .i64 x6, .int .i64 x7, .int .i64 x8, .int .i64 x9, .int .i64 x10, .int .i64 x11, .int .i64 x12, .slice a L.length c])
  have hz0 : W.heap.size ≤ (W.alloc (.cells #[.int .i64 x0, .int .i64 x1, .int .i64 x2, .string x3, .int .i64 x4, .int .i64 x5, .int .i64 x6, .int .i64 x7, .int .i64 x8, .int .i64 x9, .int .i64 x10, .int .i64 x11, .int .i64 x12, .slice a L.length c] 54)).heap.size := HB0.out.size
  go_enter Try.func58, Try.ntmps58
  go_wp2_with fail
  refine (labS_at x0 x1 H0.out _).mono ?_
  rintro e w1 ⟨rfl, hb⟩
  have HP1 := Lib.hid (HP0.out.call hb)
  have HB1 := Lib.hid (HB0.out.trans (hb.mono hz0))
  have hz1 : W.heap.size ≤ w1.heap.size := HB1.out.size
  clear hb
  have p0 := HP1.out.at_ 0 rfl
  have p1 := HP1.out.at_ 1 rfl
  have p2 := HP1.out.at_ 2 rfl
  have p3 := HP1.out.at_ 3 rfl
  have p4 := HP1.out.at_ 4 rfl
  have p5 := HP1.out.at_ 5 rfl
  have p6 := HP1.out.at_ 6 rfl
  have p7 := HP1.out.at_ 7 rfl
  have p8 := HP1.out.at_ 8 rfl
  have p9 := HP1.out.at_ 9 rfl
  have p10 := HP1.out.at_ 10 rfl
  have p11 := HP1.out.at_ 11 rfl
  have p12 := HP1.out.at_ 12 rfl
  have p13 := HP1.out.at_ 13 rfl
  clear HP0 HB0
  cases b0 with
  | false =>
    have HV := Lib.hid (show ¬ TaskR ((x0, x1), x2, x3, x4, x5, x6, (x7, x8), x9, x10, x11, x12, L) from fun h => by have h2 := h.1; rw [H0.out] at h2; cases h2)
    go_wp2
    go_ret
    exact resB_no HV.out HB1.out
  | true =>
    go_wp2_with fail
    refine (isS_at _ _ _ H1.out _).mono ?_
    rintro e w2 ⟨rfl, rfl⟩
    cases b1 with
    | false =>
      have HV := Lib.hid (show ¬ TaskR ((x0, x1), x2, x3, x4, x5, x6, (x7, x8), x9, x10, x11, x12, L) from fun h => by have h2 := h.2.1; rw [H1.out] at h2; cases h2)
      go_wp2
      go_ret
      exact resB_no HV.out HB1.out
    | true =>
      go_wp2_with fail
      refine (nameS_at HX3.out H2.out _).mono ?_
      rintro e w2 ⟨rfl, rfl⟩
      cases b2 with
      | false =>
        have HV := Lib.hid (show ¬ TaskR ((x0, x1), x2, x3, x4, x5, x6, (x7, x8), x9, x10, x11, x12, L) from fun h => by have h2 := h.2.2.1; rw [H2.out] at h2; cases h2)
        go_wp2
        go_ret
        exact resB_no HV.out HB1.out
      | true =>
        go_wp2_with fail
        refine (isS_at _ _ _ H3.out _).mono ?_
        rintro e w2 ⟨rfl, rfl⟩
        cases b3 with
        | false =>
          have HV := Lib.hid (show ¬ TaskR ((x0, x1), x2, x3, x4, x5, x6, (x7, x8), x9, x10, x11, x12, L) from fun h => by have h2 := h.2.2.2.1; rw [H3.out] at h2; cases h2)
          go_wp2
          go_ret
          exact resB_no HV.out HB1.out
        | true =>
          go_wp2_with fail
          refine (isS_at _ _ _ H4.out _).mono ?_
          rintro e w2 ⟨rfl, rfl⟩
          cases b4 with
          | false =>
            have HV := Lib.hid (show ¬ TaskR ((x0, x1), x2, x3, x4, x5, x6, (x7, x8), x9, x10, x11, x12, L) from fun h => by have h2 := h.2.2.2.2.1; rw [H4.out] at h2; cases h2)
            go_wp2
            go_ret
            exact resB_no HV.out HB1.out
          | true =>
            go_wp2_with fail
            refine (isS_at _ _ _ H5.out _).mono ?_
            rintro e w2 ⟨rfl, rfl⟩
            cases b5 with
            | false =>
              have HV := Lib.hid (show ¬ TaskR ((x0, x1), x2, x3, x4, x5, x6, (x7, x8), x9, x10, x11, x12, L) from fun h => by have h2 := h.2.2.2.2.2.1; rw [H5.out] at h2; cases h2)
              go_wp2
              go_ret
              exact resB_no HV.out HB1.out
            | true =>
              go_wp2_with fail
              refine (nowS_at _ H6.out _).mono ?_
              rintro e w2 ⟨rfl, rfl⟩
              cases b6 with
              | false =>
                have HV := Lib.hid (show ¬ TaskR ((x0, x1), x2, x3, x4, x5, x6, (x7, x8), x9, x10, x11, x12, L) from fun h => by have h2 := h.2.2.2.2.2.2.1; rw [H6.out] at h2; cases h2)
                go_wp2
                go_ret
                exact resB_no HV.out HB1.out
              | true =>
                go_wp2_with fail
                refine (isS_at _ _ _ H7.out _).mono ?_
                rintro e w2 ⟨rfl, rfl⟩
                cases b7 with
                | false =>
                  have HV := Lib.hid (show ¬ TaskR ((x0, x1), x2, x3, x4, x5, x6, (x7, x8), x9, x10, x11, x12, L) from fun h => by have h2 := h.2.2.2.2.2.2.2.1; rw [H7.out] at h2; cases h2)
                  go_wp2
                  go_ret
                  exact resB_no HV.out HB1.out
                | true =>
                  by_cases h9 : x9 = 0
                  · have h9' : (x9 == 0) = true := beq_iff_eq.2 h9
                    have h9n : (x9 != 0) = false := by simp [h9]
                    obtain ⟨q, hq⟩ : ∃ q, decide (((x7, x8) : Int × Int) = (0, 0)) = q := ⟨_, rfl⟩
                    have hqq := neq_lab x7 x8 0 0 q hq
                    have HQ := Lib.hid hq
                    have H9 := Lib.hid h9
                    clear hq h9
                    cases q with
                    | false =>
                      have HV := Lib.hid (show ¬ TaskR ((x0, x1), x2, x3, x4, x5, x6, (x7, x8), x9, x10, x11, x12, L) from fun h => by have h2 := h.2.2.2.2.2.2.2.2.1.1 H9.out; exact of_decide_eq_false HQ.out (by rw [h2.1, h2.2]))
                      go_wp2
                      go_ret
                      exact resB_no HV.out HB1.out
                    | true =>
                      have HD := Lib.hid (show DepR x0 x1 x2 x7 x8 x9 from ⟨fun _ => by have h2 := of_decide_eq_true HQ.out; simpa using h2, fun h => absurd H9.out h⟩)
                      by_cases h2 : x11 = 2
                      · have h2' : (x11 == 2) = true := beq_iff_eq.2 h2
                        have HS := Lib.hid (show Has x11 L from Or.inl h2)
                        go_wp2_with fail
                        refine (timeS_at _ H10.out _).mono ?_
                        rintro e w9 ⟨rfl, rfl⟩
                        cases b10 with
                        | false =>
                          have HV := Lib.hid (show ¬ TaskR ((x0, x1), x2, x3, x4, x5, x6, (x7, x8), x9, x10, x11, x12, L) from fun h => by have h2 := (h.2.2.2.2.2.2.2.2.2.1 HS.out).1; rw [H10.out] at h2; cases h2)
                          go_wp2
                          go_ret
                          exact resB_no HV.out HB1.out
                        | true =>
                          by_cases hl : (L.length : Int) = x4
                          · have hl' : ((L.length : Int) == x4) = true := beq_iff_eq.2 hl
                            have HL := Lib.hid hl
                            clear hl
                            go_wp2_with fail
                            refine (nodes_spec ((H.out.below I_ok HB1.out).more I_ok hz1)).mono ?_
                            intro e w3 h
                            obtain ⟨b, rfl, hb, hw⟩ := resB_elim h
                            have HB := Lib.hid (HB1.out.trans (hw.mono hz1))
                            have HV := Lib.hid (show (b = true ↔ TaskR ((x0, x1), x2, x3, x4, x5, x6, (x7, x8), x9, x10, x11, x12, L)) from hb.trans ⟨fun hN => ⟨H0.out, H1.out, H2.out, H3.out, H4.out, H5.out, H6.out, H7.out, HD.out, fun _ => ⟨H10.out, HL.out, hN⟩, fun h => absurd HS.out h⟩, fun h => (h.2.2.2.2.2.2.2.2.2.1 HS.out).2.2⟩)
                            clear h hb hw
                            go_wp2
                            go_ret
                            exact ⟨b, rfl, HV.out, HB.out⟩
                          · have hl' : ((L.length : Int) == x4) = false := beq_eq_false_iff_ne.2 hl
                            have HV := Lib.hid (show ¬ TaskR ((x0, x1), x2, x3, x4, x5, x6, (x7, x8), x9, x10, x11, x12, L) from fun h => hl (h.2.2.2.2.2.2.2.2.2.1 HS.out).2.1)
                            go_wp2
                            go_ret
                            exact resB_no HV.out HB1.out
                      · have h2' : (x11 == 2) = false := beq_eq_false_iff_ne.2 h2
                        by_cases h1 : x11 = 1
                        · have h1' : (x11 == 1) = true := beq_iff_eq.2 h1
                          by_cases hp : 0 < L.length
                          · have hp' : decide ((0 : Int) < (L.length : Int)) = true := decide_eq_true (by omega)
                            have HS := Lib.hid (show Has x11 L from Or.inr ⟨h1, hp⟩)
                            go_wp2_with fail
                            refine (timeS_at _ H10.out _).mono ?_
                            rintro e w9 ⟨rfl, rfl⟩
                            cases b10 with
                            | false =>
                              have HV := Lib.hid (show ¬ TaskR ((x0, x1), x2, x3, x4, x5, x6, (x7, x8), x9, x10, x11, x12, L) from fun h => by have h2 := (h.2.2.2.2.2.2.2.2.2.1 HS.out).1; rw [H10.out] at h2; cases h2)
                              go_wp2
                              go_ret
                              exact resB_no HV.out HB1.out
                            | true =>
                              by_cases hl : (L.length : Int) = x4
                              · have hl' : ((L.length : Int) == x4) = true := beq_iff_eq.2 hl
                                have HL := Lib.hid hl
                                clear hl
                                go_wp2_with fail
                                refine (nodes_spec ((H.out.below I_ok HB1.out).more I_ok hz1)).mono ?_
                                intro e w3 h
                                obtain ⟨b, rfl, hb, hw⟩ := resB_elim h
                                have HB := Lib.hid (HB1.out.trans (hw.mono hz1))
                                have HV := Lib.hid (show (b = true ↔ TaskR ((x0, x1), x2, x3, x4, x5, x6, (x7, x8), x9, x10, x11, x12, L)) from hb.trans ⟨fun hN => ⟨H0.out, H1.out, H2.out, H3.out, H4.out, H5.out, H6.out, H7.out, HD.out, fun _ => ⟨H10.out, HL.out, hN⟩, fun h => absurd HS.out h⟩, fun h => (h.2.2.2.2.2.2.2.2.2.1 HS.out).2.2⟩)
                                clear h hb hw
                                go_wp2
                                go_ret
                                exact ⟨b, rfl, HV.out, HB.out⟩
                              · have hl' : ((L.length : Int) == x4) = false := beq_eq_false_iff_ne.2 hl
                                have HV := Lib.hid (show ¬ TaskR ((x0, x1), x2, x3, x4, x5, x6, (x7, x8), x9, x10, x11, x12, L) from fun h => hl (h.2.2.2.2.2.2.2.2.2.1 HS.out).2.1)
                                go_wp2
                                go_ret
                                exact resB_no HV.out HB1.out
                          · have hp' : decide ((0 : Int) < (L.length : Int)) = false := decide_eq_false (by omega)
                            have HS := Lib.hid (show ¬ Has x11 L from fun h => h.elim h2 (fun h => hp h.2))
                            by_cases h7 : x12 = 0
                            · have h7' : (x12 == 0) = true := beq_iff_eq.2 h7
                              have H12 := Lib.hid h7
                              clear h7
                              obtain rfl : L = [] := List.eq_nil_of_length_eq_zero (by omega)
                              clear hp hp' hn
                              have HV := Lib.hid (show TaskR ((x0, x1), x2, x3, x4, x5, x6, (x7, x8), x9, x10, x11, x12, []) from ⟨H0.out, H1.out, H2.out, H3.out, H4.out, H5.out, H6.out, H7.out, HD.out, fun h => absurd h HS.out, fun _ => ⟨H12.out, rfl⟩⟩)
                              go_wp2
                              go_ret
                              exact resB_yes HV.out HB1.out
                            · have h7' : (x12 == 0) = false := beq_eq_false_iff_ne.2 h7
                              have HV := Lib.hid (show ¬ TaskR ((x0, x1), x2, x3, x4, x5, x6, (x7, x8), x9, x10, x11, x12, L) from fun h => h7 (h.2.2.2.2.2.2.2.2.2.2 HS.out).1)
                              go_wp2
                              go_ret
                              exact resB_no HV.out HB1.out
                        · have h1' : (x11 == 1) = false := beq_eq_false_iff_ne.2 h1
                          have HS := Lib.hid (show ¬ Has x11 L from fun h => h.elim h2 (fun h => h1 h.1))
                          by_cases h7 : x12 = 0
                          · have h7' : (x12 == 0) = true := beq_iff_eq.2 h7
                            have H12 := Lib.hid h7
                            clear h7
                            by_cases hl : L.length = 0
                            · have hl' : ((L.length : Int) == 0) = true := beq_iff_eq.2 (by omega)
                              have HL := Lib.hid hl
                              clear hl
                              have HV := Lib.hid (show TaskR ((x0, x1), x2, x3, x4, x5, x6, (x7, x8), x9, x10, x11, x12, L) from ⟨H0.out, H1.out, H2.out, H3.out, H4.out, H5.out, H6.out, H7.out, HD.out, fun h => absurd h HS.out, fun _ => ⟨H12.out, HL.out⟩⟩)
                              go_wp2
                              go_ret
                              exact resB_yes HV.out HB1.out
                            · have hl' : ((L.length : Int) == 0) = false := beq_eq_false_iff_ne.2 (by omega)
                              have HV := Lib.hid (show ¬ TaskR ((x0, x1), x2, x3, x4, x5, x6, (x7, x8), x9, x10, x11, x12, L) from fun h => hl (h.2.2.2.2.2.2.2.2.2.2 HS.out).2)
                              go_wp2
                              go_ret
                              exact resB_no HV.out HB1.out
                          · have h7' : (x12 == 0) = false := beq_eq_false_iff_ne.2 h7
                            have HV := Lib.hid (show ¬ TaskR ((x0, x1), x2, x3, x4, x5, x6, (x7, x8), x9, x10, x11, x12, L) from fun h => h7 (h.2.2.2.2.2.2.2.2.2.2 HS.out).1)
                            go_wp2
                            go_ret
                            exact resB_no HV.out HB1.out
                  · have h9' : (x9 == 0) = false := beq_eq_false_iff_ne.2 h9
                    have h9n : (x9 != 0) = true := by simp [h9]
                    have H9 := Lib.hid h9
                    clear h9
                    go_wp2_with fail
                    refine (isS_at _ _ _ H8.out _).mono ?_
                    rintro e w2 ⟨rfl, rfl⟩
                    cases b8 with
                    | false =>
                      have HV := Lib.hid (show ¬ TaskR ((x0, x1), x2, x3, x4, x5, x6, (x7, x8), x9, x10, x11, x12, L) from fun h => by have h2 := (h.2.2.2.2.2.2.2.2.1.2 H9.out).1; rw [H8.out] at h2; cases h2)
                      go_wp2
                      go_ret
                      exact resB_no HV.out HB1.out
                    | true =>
                      go_wp2_with fail
                      refine (belS_at _ _ _ _ HBB.out _).mono ?_
                      rintro e w2 ⟨rfl, hb⟩
                      have HP2 := Lib.hid (HP1.out.call hb)
                      have HB2 := Lib.hid (HB1.out.trans (hb.mono hz1))
                      have hz2 : W.heap.size ≤ w2.heap.size := HB2.out.size
                      clear hb
                      clear p0 p1 p2 p3 p4 p5 p6 p7 p8 p9 p10 p11 p12 p13
                      have p0 := HP2.out.at_ 0 rfl
                      have p1 := HP2.out.at_ 1 rfl
                      have p2 := HP2.out.at_ 2 rfl
                      have p3 := HP2.out.at_ 3 rfl
                      have p4 := HP2.out.at_ 4 rfl
                      have p5 := HP2.out.at_ 5 rfl
                      have p6 := HP2.out.at_ 6 rfl
                      have p7 := HP2.out.at_ 7 rfl
                      have p8 := HP2.out.at_ 8 rfl
                      have p9 := HP2.out.at_ 9 rfl
                      have p10 := HP2.out.at_ 10 rfl
                      have p11 := HP2.out.at_ 11 rfl
                      have p12 := HP2.out.at_ 12 rfl
                      have p13 := HP2.out.at_ 13 rfl
                      cases b9 with
                      | false =>
                        have HV := Lib.hid (show ¬ TaskR ((x0, x1), x2, x3, x4, x5, x6, (x7, x8), x9, x10, x11, x12, L) from fun h => by have h2 := (h.2.2.2.2.2.2.2.2.1.2 H9.out).2.1; rw [HBB.out] at h2; cases h2)
                        go_wp2
                        go_ret
                        exact resB_no HV.out HB2.out
                      | true =>
                        obtain ⟨q, hq⟩ : ∃ q, decide (((x7, x8) : Int × Int) = (x0, x1)) = q := ⟨_, rfl⟩
                        have hqq := eql_lab x7 x8 x0 x1 q hq
                        have HQ := Lib.hid hq
                        clear hq
                        cases q with
                        | false =>
                          have HD := Lib.hid (show DepR x0 x1 x2 x7 x8 x9 from ⟨fun h => absurd h H9.out, fun _ => ⟨H8.out, HBB.out, fun h => of_decide_eq_false HQ.out (by rw [h.1.1, h.1.2])⟩⟩)
                          by_cases h2 : x11 = 2
                          · have h2' : (x11 == 2) = true := beq_iff_eq.2 h2
                            have HS := Lib.hid (show Has x11 L from Or.inl h2)
                            go_wp2_with fail
                            refine (timeS_at _ H10.out _).mono ?_
                            rintro e w9 ⟨rfl, rfl⟩
                            cases b10 with
                            | false =>
                              have HV := Lib.hid (show ¬ TaskR ((x0, x1), x2, x3, x4, x5, x6, (x7, x8), x9, x10, x11, x12, L) from fun h => by have h2 := (h.2.2.2.2.2.2.2.2.2.1 HS.out).1; rw [H10.out] at h2; cases h2)
                              go_wp2
                              go_ret
                              exact resB_no HV.out HB2.out
                            | true =>
                              by_cases hl : (L.length : Int) = x4
                              · have hl' : ((L.length : Int) == x4) = true := beq_iff_eq.2 hl
                                have HL := Lib.hid hl
                                clear hl
                                go_wp2_with fail
                                refine (nodes_spec ((H.out.below I_ok HB2.out).more I_ok hz2)).mono ?_
                                intro e w3 h
                                obtain ⟨b, rfl, hb, hw⟩ := resB_elim h
                                have HB := Lib.hid (HB2.out.trans (hw.mono hz2))
                                have HV := Lib.hid (show (b = true ↔ TaskR ((x0, x1), x2, x3, x4, x5, x6, (x7, x8), x9, x10, x11, x12, L)) from hb.trans ⟨fun hN => ⟨H0.out, H1.out, H2.out, H3.out, H4.out, H5.out, H6.out, H7.out, HD.out, fun _ => ⟨H10.out, HL.out, hN⟩, fun h => absurd HS.out h⟩, fun h => (h.2.2.2.2.2.2.2.2.2.1 HS.out).2.2⟩)
                                clear h hb hw
                                go_wp2
                                go_ret
                                exact ⟨b, rfl, HV.out, HB.out⟩
                              · have hl' : ((L.length : Int) == x4) = false := beq_eq_false_iff_ne.2 hl
                                have HV := Lib.hid (show ¬ TaskR ((x0, x1), x2, x3, x4, x5, x6, (x7, x8), x9, x10, x11, x12, L) from fun h => hl (h.2.2.2.2.2.2.2.2.2.1 HS.out).2.1)
                                go_wp2
                                go_ret
                                exact resB_no HV.out HB2.out
                          · have h2' : (x11 == 2) = false := beq_eq_false_iff_ne.2 h2
                            by_cases h1 : x11 = 1
                            · have h1' : (x11 == 1) = true := beq_iff_eq.2 h1
                              by_cases hp : 0 < L.length
                              · have hp' : decide ((0 : Int) < (L.length : Int)) = true := decide_eq_true (by omega)
                                have HS := Lib.hid (show Has x11 L from Or.inr ⟨h1, hp⟩)
                                go_wp2_with fail
                                refine (timeS_at _ H10.out _).mono ?_
                                rintro e w9 ⟨rfl, rfl⟩
                                cases b10 with
                                | false =>
                                  have HV := Lib.hid (show ¬ TaskR ((x0, x1), x2, x3, x4, x5, x6, (x7, x8), x9, x10, x11, x12, L) from fun h => by have h2 := (h.2.2.2.2.2.2.2.2.2.1 HS.out).1; rw [H10.out] at h2; cases h2)
                                  go_wp2
                                  go_ret
                                  exact resB_no HV.out HB2.out
                                | true =>
                                  by_cases hl : (L.length : Int) = x4
                                  · have hl' : ((L.length : Int) == x4) = true := beq_iff_eq.2 hl
                                    have HL := Lib.hid hl
                                    clear hl
                                    go_wp2_with fail
                                    refine (nodes_spec ((H.out.below I_ok HB2.out).more I_ok hz2)).mono ?_
                                    intro e w3 h
                                    obtain ⟨b, rfl, hb, hw⟩ := resB_elim h
                                    have HB := Lib.hid (HB2.out.trans (hw.mono hz2))
                                    have HV := Lib.hid (show (b = true ↔ TaskR ((x0, x1), x2, x3, x4, x5, x6, (x7, x8), x9, x10, x11, x12, L)) from hb.trans ⟨fun hN => ⟨H0.out, H1.out, H2.out, H3.out, H4.out, H5.out, H6.out, H7.out, HD.out, fun _ => ⟨H10.out, HL.out, hN⟩, fun h => absurd HS.out h⟩, fun h => (h.2.2.2.2.2.2.2.2.2.1 HS.out).2.2⟩)
                                    clear h hb hw
                                    go_wp2
                                    go_ret
                                    exact ⟨b, rfl, HV.out, HB.out⟩
                                  · have hl' : ((L.length : Int) == x4) = false := beq_eq_false_iff_ne.2 hl
                                    have HV := Lib.hid (show ¬ TaskR ((x0, x1), x2, x3, x4, x5, x6, (x7, x8), x9, x10, x11, x12, L) from fun h => hl (h.2.2.2.2.2.2.2.2.2.1 HS.out).2.1)
                                    go_wp2
                                    go_ret
                                    exact resB_no HV.out HB2.out
                              · have hp' : decide ((0 : Int) < (L.length : Int)) = false := decide_eq_false (by omega)
                                have HS := Lib.hid (show ¬ Has x11 L from fun h => h.elim h2 (fun h => hp h.2))
                                by_cases h7 : x12 = 0
                                · have h7' : (x12 == 0) = true := beq_iff_eq.2 h7
                                  have H12 := Lib.hid h7
                                  clear h7
                                  obtain rfl : L = [] := List.eq_nil_of_length_eq_zero (by omega)
                                  clear hp hp' hn
                                  have HV := Lib.hid (show TaskR ((x0, x1), x2, x3, x4, x5, x6, (x7, x8), x9, x10, x11, x12, []) from ⟨H0.out, H1.out, H2.out, H3.out, H4.out, H5.out, H6.out, H7.out, HD.out, fun h => absurd h HS.out, fun _ => ⟨H12.out, rfl⟩⟩)
                                  go_wp2
                                  go_ret
                                  exact resB_yes HV.out HB2.out
                                · have h7' : (x12 == 0) = false := beq_eq_false_iff_ne.2 h7
                                  have HV := Lib.hid (show ¬ TaskR ((x0, x1), x2, x3, x4, x5, x6, (x7, x8), x9, x10, x11, x12, L) from fun h => h7 (h.2.2.2.2.2.2.2.2.2.2 HS.out).1)
                                  go_wp2
                                  go_ret
                                  exact resB_no HV.out HB2.out
                            · have h1' : (x11 == 1) = false := beq_eq_false_iff_ne.2 h1
                              have HS := Lib.hid (show ¬ Has x11 L from fun h => h.elim h2 (fun h => h1 h.1))
                              by_cases h7 : x12 = 0
                              · have h7' : (x12 == 0) = true := beq_iff_eq.2 h7
                                have H12 := Lib.hid h7
                                clear h7
                                by_cases hl : L.length = 0
                                · have hl' : ((L.length : Int) == 0) = true := beq_iff_eq.2 (by omega)
                                  have HL := Lib.hid hl
                                  clear hl
                                  have HV := Lib.hid (show TaskR ((x0, x1), x2, x3, x4, x5, x6, (x7, x8), x9, x10, x11, x12, L) from ⟨H0.out, H1.out, H2.out, H3.out, H4.out, H5.out, H6.out, H7.out, HD.out, fun h => absurd h HS.out, fun _ => ⟨H12.out, HL.out⟩⟩)
                                  go_wp2
                                  go_ret
                                  exact resB_yes HV.out HB2.out
                                · have hl' : ((L.length : Int) == 0) = false := beq_eq_false_iff_ne.2 (by omega)
                                  have HV := Lib.hid (show ¬ TaskR ((x0, x1), x2, x3, x4, x5, x6, (x7, x8), x9, x10, x11, x12, L) from fun h => hl (h.2.2.2.2.2.2.2.2.2.2 HS.out).2)
                                  go_wp2
                                  go_ret
                                  exact resB_no HV.out HB2.out
                              · have h7' : (x12 == 0) = false := beq_eq_false_iff_ne.2 h7
                                have HV := Lib.hid (show ¬ TaskR ((x0, x1), x2, x3, x4, x5, x6, (x7, x8), x9, x10, x11, x12, L) from fun h => h7 (h.2.2.2.2.2.2.2.2.2.2 HS.out).1)
                                go_wp2
                                go_ret
                                exact resB_no HV.out HB2.out
                        | true =>
                          by_cases hle : x2 ≤ x9
                          · have hle' : decide (x2 ≤ x9) = true := decide_eq_true hle
                            have HV := Lib.hid (show ¬ TaskR ((x0, x1), x2, x3, x4, x5, x6, (x7, x8), x9, x10, x11, x12, L) from fun h => (h.2.2.2.2.2.2.2.2.1.2 H9.out).2.2 ⟨by have h2 := of_decide_eq_true HQ.out; simpa using h2, hle⟩)
                            go_wp2
                            go_ret
                            exact resB_no HV.out HB2.out
                          · have hle' : decide (x2 ≤ x9) = false := decide_eq_false hle
                            have HD := Lib.hid (show DepR x0 x1 x2 x7 x8 x9 from ⟨fun h => absurd h H9.out, fun _ => ⟨H8.out, HBB.out, fun h => hle h.2⟩⟩)
                            by_cases h2 : x11 = 2
                            · have h2' : (x11 == 2) = true := beq_iff_eq.2 h2
                              have HS := Lib.hid (show Has x11 L from Or.inl h2)
                              go_wp2_with fail
                              refine (timeS_at _ H10.out _).mono ?_
                              rintro e w9 ⟨rfl, rfl⟩
                              cases b10 with
                              | false =>
                                have HV := Lib.hid (show ¬ TaskR ((x0, x1), x2, x3, x4, x5, x6, (x7, x8), x9, x10, x11, x12, L) from fun h => by have h2 := (h.2.2.2.2.2.2.2.2.2.1 HS.out).1; rw [H10.out] at h2; cases h2)
                                go_wp2
                                go_ret
                                exact resB_no HV.out HB2.out
                              | true =>
                                by_cases hl : (L.length : Int) = x4
                                · have hl' : ((L.length : Int) == x4) = true := beq_iff_eq.2 hl
                                  have HL := Lib.hid hl
                                  clear hl
                                  go_wp2_with fail
                                  refine (nodes_spec ((H.out.below I_ok HB2.out).more I_ok hz2)).mono ?_
                                  intro e w3 h
                                  obtain ⟨b, rfl, hb, hw⟩ := resB_elim h
                                  have HB := Lib.hid (HB2.out.trans (hw.mono hz2))
                                  have HV := Lib.hid (show (b = true ↔ TaskR ((x0, x1), x2, x3, x4, x5, x6, (x7, x8), x9, x10, x11, x12, L)) from hb.trans ⟨fun hN => ⟨H0.out, H1.out, H2.out, H3.out, H4.out, H5.out, H6.out, H7.out, HD.out, fun _ => ⟨H10.out, HL.out, hN⟩, fun h => absurd HS.out h⟩, fun h => (h.2.2.2.2.2.2.2.2.2.1 HS.out).2.2⟩)
                                  clear h hb hw
                                  go_wp2
                                  go_ret
                                  exact ⟨b, rfl, HV.out, HB.out⟩
                                · have hl' : ((L.length : Int) == x4) = false := beq_eq_false_iff_ne.2 hl
                                  have HV := Lib.hid (show ¬ TaskR ((x0, x1), x2, x3, x4, x5, x6, (x7, x8), x9, x10, x11, x12, L) from fun h => hl (h.2.2.2.2.2.2.2.2.2.1 HS.out).2.1)
                                  go_wp2
                                  go_ret
                                  exact resB_no HV.out HB2.out
                            · have h2' : (x11 == 2) = false := beq_eq_false_iff_ne.2 h2
                              by_cases h1 : x11 = 1
                              · have h1' : (x11 == 1) = true := beq_iff_eq.2 h1
                                by_cases hp : 0 < L.length
                                · have hp' : decide ((0 : Int) < (L.length : Int)) = true := decide_eq_true (by omega)
                                  have HS := Lib.hid (show Has x11 L from Or.inr ⟨h1, hp⟩)
                                  go_wp2_with fail
                                  refine (timeS_at _ H10.out _).mono ?_
                                  rintro e w9 ⟨rfl, rfl⟩
                                  cases b10 with
                                  | false =>
                                    have HV := Lib.hid (show ¬ TaskR ((x0, x1), x2, x3, x4, x5, x6, (x7, x8), x9, x10, x11, x12, L) from fun h => by have h2 := (h.2.2.2.2.2.2.2.2.2.1 HS.out).1; rw [H10.out] at h2; cases h2)
                                    go_wp2
                                    go_ret
                                    exact resB_no HV.out HB2.out
                                  | true =>
                                    by_cases hl : (L.length : Int) = x4
                                    · have hl' : ((L.length : Int) == x4) = true := beq_iff_eq.2 hl
                                      have HL := Lib.hid hl
                                      clear hl
                                      go_wp2_with fail
                                      refine (nodes_spec ((H.out.below I_ok HB2.out).more I_ok hz2)).mono ?_
                                      intro e w3 h
                                      obtain ⟨b, rfl, hb, hw⟩ := resB_elim h
                                      have HB := Lib.hid (HB2.out.trans (hw.mono hz2))
                                      have HV := Lib.hid (show (b = true ↔ TaskR ((x0, x1), x2, x3, x4, x5, x6, (x7, x8), x9, x10, x11, x12, L)) from hb.trans ⟨fun hN => ⟨H0.out, H1.out, H2.out, H3.out, H4.out, H5.out, H6.out, H7.out, HD.out, fun _ => ⟨H10.out, HL.out, hN⟩, fun h => absurd HS.out h⟩, fun h => (h.2.2.2.2.2.2.2.2.2.1 HS.out).2.2⟩)
                                      clear h hb hw
                                      go_wp2
                                      go_ret
                                      exact ⟨b, rfl, HV.out, HB.out⟩
                                    · have hl' : ((L.length : Int) == x4) = false := beq_eq_false_iff_ne.2 hl
                                      have HV := Lib.hid (show ¬ TaskR ((x0, x1), x2, x3, x4, x5, x6, (x7, x8), x9, x10, x11, x12, L) from fun h => hl (h.2.2.2.2.2.2.2.2.2.1 HS.out).2.1)
                                      go_wp2
                                      go_ret
                                      exact resB_no HV.out HB2.out
                                · have hp' : decide ((0 : Int) < (L.length : Int)) = false := decide_eq_false (by omega)
                                  have HS := Lib.hid (show ¬ Has x11 L from fun h => h.elim h2 (fun h => hp h.2))
                                  by_cases h7 : x12 = 0
                                  · have h7' : (x12 == 0) = true := beq_iff_eq.2 h7
                                    have H12 := Lib.hid h7
                                    clear h7
                                    obtain rfl : L = [] := List.eq_nil_of_length_eq_zero (by omega)
                                    clear hp hp' hn
                                    have HV := Lib.hid (show TaskR ((x0, x1), x2, x3, x4, x5, x6, (x7, x8), x9, x10, x11, x12, []) from ⟨H0.out, H1.out, H2.out, H3.out, H4.out, H5.out, H6.out, H7.out, HD.out, fun h => absurd h HS.out, fun _ => ⟨H12.out, rfl⟩⟩)
                                    go_wp2
                                    go_ret
                                    exact resB_yes HV.out HB2.out
                                  · have h7' : (x12 == 0) = false := beq_eq_false_iff_ne.2 h7
                                    have HV := Lib.hid (show ¬ TaskR ((x0, x1), x2, x3, x4, x5, x6, (x7, x8), x9, x10, x11, x12, L) from fun h => h7 (h.2.2.2.2.2.2.2.2.2.2 HS.out).1)
                                    go_wp2
                                    go_ret
                                    exact resB_no HV.out HB2.out
                              · have h1' : (x11 == 1) = false := beq_eq_false_iff_ne.2 h1
                                have HS := Lib.hid (show ¬ Has x11 L from fun h => h.elim h2 (fun h => h1 h.1))
                                by_cases h7 : x12 = 0
                                · have h7' : (x12 == 0) = true := beq_iff_eq.2 h7
                                  have H12 := Lib.hid h7
                                  clear h7
                                  by_cases hl : L.length = 0
                                  · have hl' : ((L.length : Int) == 0) = true := beq_iff_eq.2 (by omega)
                                    have HL := Lib.hid hl
                                    clear hl
                                    have HV := Lib.hid (show TaskR ((x0, x1), x2, x3, x4, x5, x6, (x7, x8), x9, x10, x11, x12, L) from ⟨H0.out, H1.out, H2.out, H3.out, H4.out, H5.out, H6.out, H7.out, HD.out, fun h => absurd h HS.out, fun _ => ⟨H12.out, HL.out⟩⟩)
                                    go_wp2
                                    go_ret
                                    exact resB_yes HV.out HB2.out
                                  · have hl' : ((L.length : Int) == 0) = false := beq_eq_false_iff_ne.2 (by omega)
                                    have HV := Lib.hid (show ¬ TaskR ((x0, x1), x2, x3, x4, x5, x6, (x7, x8), x9, x10, x11, x12, L) from fun h => hl (h.2.2.2.2.2.2.2.2.2.2 HS.out).2)
                                    go_wp2
                                    go_ret
                                    exact resB_no HV.out HB2.out
                                · have h7' : (x12 == 0) = false := beq_eq_false_iff_ne.2 h7
                                  have HV := Lib.hid (show ¬ TaskR ((x0, x1), x2, x3, x4, x5, x6, (x7, x8), x9, x10, x11, x12, L) from fun h => h7 (h.2.2.2.2.2.2.2.2.2.2 HS.out).1)
                                  go_wp2
                                  go_ret
                                  exact resB_no HV.out HB2.out
end Go.Proofs.Ytmmnkdilnlhbfaa.RepC
