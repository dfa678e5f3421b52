/- JobRight of the model: a contract. -/
import Derived.Test.YtfmgjkmlnaeagaaJobT
import Derived.Test.YtfmgjkmlnaeagaaJobN
import Derived.Test.YtfmgjkmlnaeagaaLab
namespace Go.Proofs.Ytfmgjkmlnaeagaa.RepC
open Go.RowKit RowC ValC SpanC KeptC
set_option linter.unusedVariables false
set_option linter.unusedSimpArgs false

/-- a right job -/
def JobR (x0 x1 x2 x3 x4 x5 x6 x7 : Int) (L : List Int) : Prop := LabC.rB x0 x1 = true ∧ isB x2 1 3 = true ∧ isB x3 1 6 = true ∧ isB x4 1 20 = true ∧ isB x5 0 9 = true ∧ isB x6 1 4 = true ∧ (x6 = 2 → isB x7 0 1000000 = true ∧ (L.length : Int) = x3 ∧ NodesR L) ∧ (x6 ≠ 2 → x7 = 0 ∧ L.length = 0)
theorem is_at (n lo hi : Int) {b : Bool} (hb : isB n lo hi = b) (w : World) :
    Calls Try.prog 27 #[.int .i64 n, .int .i64 lo, .int .i64 hi] w fun e w' => e = .returned (.bool b) ∧ w = w' := by
  subst hb
  exact is_spec n lo hi w
theorem time_at (n : Int) {b : Bool} (hb : isB n 0 1000000 = b) (w : World) :
    Calls Try.prog 28 #[.int .i64 n] w fun e w' => e = .returned (.bool b) ∧ w = w' := by
  subst hb
  exact time_spec n w
theorem lab_below (l s : Int) {b : Bool} (hb : LabC.rB l s = b) (w : World) :
    Calls Try.prog 26 #[.agg #[.int .i64 l, .int .i64 s]] w fun e w' => e = .returned (.bool b) ∧ Below w.heap.size w w' := by
  subst hb
  exact (LabC.right_spec l s w).mono fun _ _ ⟨h1, h2⟩ => ⟨h1, by rw [← h2]; exact (Below.refl _ _).alloc (Nat.le_refl _) _⟩

set_option maxRecDepth 100000 in
set_option maxHeartbeats 3200000 in
theorem jobright_spec {x0 x1 x2 x3 x4 x5 x6 x7 : Int} {L : List Int} {a : Option Addr} {c : Nat} {W : World} (h : RdSl I W W.heap.size L a c) :
    Calls Try.prog 8 #[.agg #[.int .i64 x0, .int .i64 x1, .int .i64 x2, .int .i64 x3, .int .i64 x4, .int .i64 x5, .int .i64 x6, .int .i64 x7, .slice a L.length c]] W (ResB (JobR x0 x1 x2 x3 x4 x5 x6 x7 L) W) := by
  have hn : L.length ≤ 9223372036854775807 := by have h1 := h.1; have h2 := h.2.1; unfold maxLen at h2; omega
  have H := Lib.hid h
  clear h
  obtain ⟨b0, h0⟩ : ∃ b, LabC.rB x0 x1 = b := ⟨_, rfl⟩
  obtain ⟨b1, h1⟩ : ∃ b, isB x2 1 3 = b := ⟨_, rfl⟩
  obtain ⟨b2, h2⟩ : ∃ b, isB x3 1 6 = b := ⟨_, rfl⟩
  obtain ⟨b3, h3⟩ : ∃ b, isB x4 1 20 = b := ⟨_, rfl⟩
  obtain ⟨b4, h4⟩ : ∃ b, isB x5 0 9 = b := ⟨_, rfl⟩
  obtain ⟨b5, h5⟩ : ∃ b, isB x6 1 4 = b := ⟨_, rfl⟩
  obtain ⟨b6, h6⟩ : ∃ b, isB x7 0 1000000 = b := ⟨_, rfl⟩
  have H0 := Lib.hid h0
  have H1 := Lib.hid h1
  have H2 := Lib.hid h2
  have H3 := Lib.hid h3
  have H4 := Lib.hid h4
  have H5 := Lib.hid h5
  have H6 := Lib.hid h6
  clear h0 h1 h2 h3 h4 h5 h6
  have HB0 := Lib.hid (show Below W.heap.size W (W.alloc (.cells #[.int .i64 x0, .int .i64 x1, .int .i64 x2, .int .i64 x3, .int .i64 x4, .int .i64 x5, .int .i64 x6, .int .i64 x7, .slice a L.length c] 31)) from (Below.refl _ _).alloc (Nat.le_refl _) _)
  have HP0 := Lib.hid (Blk.new W 31 #[.int .i64 x0, .int .i64 x1, .int .i64 x2, .int .i64 x3, .int .i64 x4, .int .i64 x5, .int .i64 x6, .int .i64 x7, .slice a L.length c])
  have hz0 : W.heap.size ≤ (W.alloc (.cells #[.int .i64 x0, .int .i64 x1, .int .i64 x2, .int .i64 x3, .int .i64 x4, .int .i64 x5, .int .i64 x6, .int .i64 x7, .slice a L.length c] 31)).heap.size := HB0.out.size
  go_enter Try.func8, Try.ntmps8
  go_wp2_with fail
  refine (lab_below x0 x1 H0.out _).mono ?_
  rintro e w1 ⟨rfl, hb⟩
  have HP1 := Lib.hid (HP0.out.call hb)
  have HB1 := Lib.hid (HB0.out.trans (hb.mono hz0))
  have hz1 : W.heap.size ≤ w1.heap.size := HB1.out.size
  clear hb
  have p0 := HP1.out.at_ 0 rfl
  have p1 := HP1.out.at_ 1 rfl
  have p2 := HP1.out.at_ 2 rfl
  have p3 := HP1.out.at_ 3 rfl
  have p4 := HP1.out.at_ 4 rfl
  have p5 := HP1.out.at_ 5 rfl
  have p6 := HP1.out.at_ 6 rfl
  have p7 := HP1.out.at_ 7 rfl
  have p8 := HP1.out.at_ 8 rfl
  clear HP0 HB0
  cases b0 with
  | false =>
    have HV := Lib.hid (show ¬ JobR x0 x1 x2 x3 x4 x5 x6 x7 L from fun h => by have h2 := h.1; rw [H0.out] at h2; cases h2)
    go_wp2
    go_ret
    exact resB_no HV.out HB1.out
  | true =>
    go_wp2_with fail
    refine (is_at _ _ _ H1.out _).mono ?_
    rintro e w2 ⟨rfl, rfl⟩
    cases b1 with
    | false =>
      have HV := Lib.hid (show ¬ JobR x0 x1 x2 x3 x4 x5 x6 x7 L from fun h => by have h2 := h.2.1; rw [H1.out] at h2; cases h2)
      go_wp2
      go_ret
      exact resB_no HV.out HB1.out
    | true =>
      go_wp2_with fail
      refine (is_at _ _ _ H2.out _).mono ?_
      rintro e w2 ⟨rfl, rfl⟩
      cases b2 with
      | false =>
        have HV := Lib.hid (show ¬ JobR x0 x1 x2 x3 x4 x5 x6 x7 L from fun h => by have h2 := h.2.2.1; rw [H2.out] at h2; cases h2)
        go_wp2
        go_ret
        exact resB_no HV.out HB1.out
      | true =>
        go_wp2_with fail
        refine (is_at _ _ _ H3.out _).mono ?_
        rintro e w2 ⟨rfl, rfl⟩
        cases b3 with
        | false =>
          have HV := Lib.hid (show ¬ JobR x0 x1 x2 x3 x4 x5 x6 x7 L from fun h => by have h2 := h.2.2.2.1; rw [H3.out] at h2; cases h2)
          go_wp2
          go_ret
          exact resB_no HV.out HB1.out
        | true =>
          go_wp2_with fail
          refine (is_at _ _ _ H4.out _).mono ?_
          rintro e w2 ⟨rfl, rfl⟩
          cases b4 with
          | false =>
            have HV := Lib.hid (show ¬ JobR x0 x1 x2 x3 x4 x5 x6 x7 L from fun h => by have h2 := h.2.2.2.2.1; rw [H4.out] at h2; cases h2)
            go_wp2
            go_ret
            exact resB_no HV.out HB1.out
          | true =>
            go_wp2_with fail
            refine (is_at _ _ _ H5.out _).mono ?_
            rintro e w2 ⟨rfl, rfl⟩
            cases b5 with
            | false =>
              have HV := Lib.hid (show ¬ JobR x0 x1 x2 x3 x4 x5 x6 x7 L from fun h => by have h2 := h.2.2.2.2.2.1; rw [H5.out] at h2; cases h2)
              go_wp2
              go_ret
              exact resB_no HV.out HB1.out
            | true =>
              by_cases hs : x6 = 2
              · have hs' : (x6 == 2) = true := beq_iff_eq.2 hs
                have HS := Lib.hid hs
                clear hs
                go_wp2_with fail
                refine (time_at _ H6.out _).mono ?_
                rintro e w2 ⟨rfl, rfl⟩
                cases b6 with
                | false =>
                  have HV := Lib.hid (show ¬ JobR x0 x1 x2 x3 x4 x5 x6 x7 L from fun h => by have h2 := (h.2.2.2.2.2.2.1 HS.out).1; rw [H6.out] at h2; cases h2)
                  go_wp2
                  go_ret
                  exact resB_no HV.out HB1.out
                | true =>
                  by_cases hl : (L.length : Int) = x3
                  · have hl' : ((L.length : Int) == x3) = true := beq_iff_eq.2 hl
                    have HL := Lib.hid hl
                    clear hl
                    go_wp2_with fail
                    refine (nodes_spec ((H.out.below I_ok HB1.out).more I_ok hz1)).mono ?_
                    intro e w3 h
                    obtain ⟨b, rfl, hb, hw⟩ := resB_elim h
                    have HB := Lib.hid (HB1.out.trans (hw.mono hz1))
                    have HV := Lib.hid (show (b = true ↔ JobR x0 x1 x2 x3 x4 x5 x6 x7 L) from hb.trans ⟨fun hN => ⟨H0.out, H1.out, H2.out, H3.out, H4.out, H5.out, fun _ => ⟨H6.out, HL.out, hN⟩, fun h => absurd HS.out h⟩, fun h => (h.2.2.2.2.2.2.1 HS.out).2.2⟩)
                    clear h hb hw
                    go_wp2
                    go_ret
                    exact ⟨b, rfl, HV.out, HB.out⟩
                  · have hl' : ((L.length : Int) == x3) = false := beq_eq_false_iff_ne.2 hl
                    have HV := Lib.hid (show ¬ JobR x0 x1 x2 x3 x4 x5 x6 x7 L from fun h => hl (h.2.2.2.2.2.2.1 HS.out).2.1)
                    go_wp2
                    go_ret
                    exact resB_no HV.out HB1.out
              · have hs' : (x6 == 2) = false := beq_eq_false_iff_ne.2 hs
                have HS := Lib.hid hs
                by_cases h7 : x7 = 0
                · have h7' : (x7 == 0) = true := beq_iff_eq.2 h7
                  have H7 := Lib.hid h7
                  clear h7
                  by_cases hl : L.length = 0
                  · have hl' : ((L.length : Int) == 0) = true := beq_iff_eq.2 (by omega)
                    have HL := Lib.hid hl
                    clear hl
                    have HV := Lib.hid (show JobR x0 x1 x2 x3 x4 x5 x6 x7 L from ⟨H0.out, H1.out, H2.out, H3.out, H4.out, H5.out, fun h => absurd h HS.out, fun _ => ⟨H7.out, HL.out⟩⟩)
                    go_wp2
                    go_ret
                    exact resB_yes HV.out HB1.out
                  · have hl' : ((L.length : Int) == 0) = false := beq_eq_false_iff_ne.2 (by omega)
                    have HV := Lib.hid (show ¬ JobR x0 x1 x2 x3 x4 x5 x6 x7 L from fun h => hl (h.2.2.2.2.2.2.2 HS.out).2)
                    go_wp2
                    go_ret
                    exact resB_no HV.out HB1.out
                · have h7' : (x7 == 0) = false := beq_eq_false_iff_ne.2 h7
                  have HV := Lib.hid (show ¬ JobR x0 x1 x2 x3 x4 x5 x6 x7 L from fun h => h7 (h.2.2.2.2.2.2.2 HS.out).1)
                  go_wp2
                  go_ret
                  exact resB_no HV.out HB1.out
end Go.Proofs.Ytfmgjkmlnaeagaa.RepC
