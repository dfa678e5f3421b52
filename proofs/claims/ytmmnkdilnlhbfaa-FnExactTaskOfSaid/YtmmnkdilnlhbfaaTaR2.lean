/- TaskRight of the program: a contract. -/
import Derived.Test.YtmmnkdilnlhbfaaTaR1
import Derived.Test.YtmmnkdilnlhbfaaJobI0
namespace Go.Proofs.Ytmmnkdilnlhbfaa.RepC
open Go.RowKit RowC ValC SpanC KeptC NameC
set_option linter.unusedVariables false
set_option linter.unusedSimpArgs false

theorem tid_at (n : Int) {b : Bool} (hb : isB n 1 12 = b) (w : World) :
    Calls Try.prog 101 #[.int .i64 n] w fun e w' => e = .returned (.bool b) ∧ w = w' := by
  subst hb
  go_enter Try.func101, Try.ntmps101
  go_wp2_with (go_at_call 87; refine (is_impl _ _ _ _).mono ?_; rintro e w' ⟨rfl, rfl⟩)
  go_ret
  exact ⟨rfl, rfl⟩
theorem nowI_at (n : Int) {b : Bool} (hb : isB n 0 999900 = b) (w : World) :
    Calls Try.prog 105 #[.int .i64 n] w fun e w' => e = .returned (.bool b) ∧ w = w' := by
  subst hb
  go_enter Try.func105, Try.ntmps105
  go_wp2_with (go_at_call 87; refine (is_impl _ _ _ _).mono ?_; rintro e w' ⟨rfl, rfl⟩)
  go_ret
  exact ⟨rfl, rfl⟩
def nopB (start : Int) (L : List Int) : Bool := decide (start = 0) && decide (L.length = 0)
theorem nopB_iff {start : Int} {L : List Int} : nopB start L = true ↔ NoP start L := by simp [nopB, NoP]
theorem nop_at (start : Int) {L : List Int} {a : Option Addr} {c : Nat} {b : Bool} (hb : nopB start L = b) (hn : L.length ≤ 9223372036854775807) (w : World) :
    Calls Try.prog 125 #[.int .i64 start, .slice a L.length c] w fun e w' => e = .returned (.bool b) ∧ w = w' := by
  subst hb
  by_cases h1 : start = 0
  · have h1' : (start == 0) = true := beq_iff_eq.2 h1
    by_cases h2 : L.length = 0
    · have h2' : ((L.length : Int) == 0) = true := beq_iff_eq.2 (by omega)
      have HE := Lib.hid (show nopB start L = true from nopB_iff.2 ⟨h1, h2⟩)
      clear h1 h2
      go_enter Try.func125, Try.ntmps125
      go_wp2
      go_ret
      exact ⟨by rw [HE.out]; rfl, rfl⟩
    · have h2' : ((L.length : Int) == 0) = false := beq_eq_false_iff_ne.2 (by omega)
      have HE := Lib.hid (show nopB start L = false from by rw [Bool.eq_false_iff, ne_eq, nopB_iff]; exact fun h => h2 h.2)
      clear h1
      go_enter Try.func125, Try.ntmps125
      go_wp2
      go_ret
      exact ⟨by rw [HE.out]; rfl, rfl⟩
  · have h1' : (start == 0) = false := beq_eq_false_iff_ne.2 h1
    have HE := Lib.hid (show nopB start L = false from by rw [Bool.eq_false_iff, ne_eq, nopB_iff]; exact fun h => h1 h.1)
    go_enter Try.func125, Try.ntmps125
    go_wp2
    go_ret
    exact ⟨by rw [HE.out]; rfl, rfl⟩
set_option maxRecDepth 100000 in
set_option maxHeartbeats 1600000 in
theorem place_impl (need start : Int) {L : List Int} {a : Option Addr} {c : Nat} {W : World} (h : RdSl I W W.heap.size L a c) :
    Calls Try.prog 124 #[.int .i64 need, .int .i64 start, .slice a L.length c] W (ResB (PlR need start L) W) := by
  have hn : L.length ≤ 9223372036854775807 := by have h1 := h.1; have h2 := h.2.1; unfold maxLen at h2; omega
  have H := Lib.hid h
  clear h
  obtain ⟨b, hb⟩ : ∃ b, isB start 0 1000000 = b := ⟨_, rfl⟩
  have HB := Lib.hid hb
  clear hb
  go_enter Try.func124, Try.ntmps124
  go_wp2_with fail
  refine (ti_at _ HB.out _).mono ?_
  rintro e w2 ⟨rfl, rfl⟩
  cases b with
  | false =>
    have HV := Lib.hid (show ¬ PlR need start L from fun h => by have h2 := h.1; rw [HB.out] at h2; cases h2)
    go_wp2
    go_ret
    exact resB_no HV.out (Below.refl _ _)
  | true =>
    by_cases hl : (L.length : Int) = need
    · have hl' : ((L.length : Int) == need) = true := beq_iff_eq.2 hl
      have HL := Lib.hid hl
      clear hl
      go_wp2_with fail
      refine (nodes_impl H.out).mono ?_
      intro e w3 h
      obtain ⟨b, rfl, hb, hw⟩ := resB_elim h
      have HV := Lib.hid (show (b = true ↔ PlR need start L) from hb.trans ⟨fun hN => ⟨HB.out, HL.out, hN⟩, fun h => h.2.2⟩)
      have HW := Lib.hid hw
      clear h hb hw
      go_wp2
      go_ret
      exact ⟨b, rfl, HV.out, HW.out⟩
    · have hl' : ((L.length : Int) == need) = false := beq_eq_false_iff_ne.2 hl
      have HV := Lib.hid (show ¬ PlR need start L from fun h => hl h.2.1)
      go_wp2
      go_ret
      exact resB_no HV.out (Below.refl _ _)
set_option maxRecDepth 100000 in
set_option maxHeartbeats 3200000 in
theorem dep_impl {x0 x1 x2 : Int} {x3 : ByteArray} {x4 x5 x6 x7 x8 x9 x10 x11 x12 : Int} {L : List Int} {a : Option Addr} {c : Nat} {W : World} : Calls Try.prog 104 #[.agg #[.int .i64 x0, .int .i64 x1, .int .i64 x2, .string x3, .int .i64 x4, .int .i64 x5, .int .i64 x6, .int .i64 x7, .int .i64 x8, .int .i64 x9, .int .i64 x10, .int .i64 x11, .int .i64 x12, .slice a L.length c]] W (ResB (DepR x0 x1 x2 x7 x8 x9) W) := by
  have HB0 := Lib.hid (show Below W.heap.size W (W.alloc (.cells #[.int .i64 x0, .int .i64 x1, .int .i64 x2, .string x3, .int .i64 x4, .int .i64 x5, .int .i64 x6, .int .i64 x7, .int .i64 x8, .int .i64 x9, .int .i64 x10, .int .i64 x11, .int .i64 x12, .slice a L.length c] 54)) from (Below.refl _ _).alloc (Nat.le_refl _) _)
  have HP0 := Lib.hid (Blk.new W 54 #[.int .i64 x0, .int .i64 x1, .int .i64 x2, .string x3, .int .i64 x4, .int .i64 x5, .int .i64 x6, .int .i64 x7, .int .i64 x8, .int .i64 x9, .int .i64 x10, .int .i64 x11, .int .i64 x12, .slice a L.length c])
  have hz0 : W.heap.size ≤ (W.alloc (.cells #[.int .i64 x0, .int .i64 x1, .int .i64 x2, .string x3, .int .i64 x4, .int .i64 x5, .int .i64 x6, .int .i64 x7, .int .i64 x8, .int .i64 x9, .int .i64 x10, .int .i64 x11, .int .i64 x12, .slice a L.length c] 54)).heap.size := HB0.out.size
  obtain ⟨b8, h8⟩ : ∃ b, isB x9 1 12 = b := ⟨_, rfl⟩
  obtain ⟨b9, hh⟩ : ∃ b, LabC.belowB x7 x8 x0 x1 = b := ⟨_, rfl⟩
  have H8 := Lib.hid h8
  have HBB := Lib.hid hh
  clear h8 hh
  by_cases h9 : x9 = 0
  · have h9' : (x9 == 0) = true := beq_iff_eq.2 h9
    obtain ⟨q, hq⟩ : ∃ q, decide (((x7, x8) : Int × Int) = (0, 0)) = q := ⟨_, rfl⟩
    have hqq := eql_lab x7 x8 0 0 q hq
    have HQ := Lib.hid hq
    have H9 := Lib.hid h9
    clear hq h9
    cases q with
    | false =>
      have HV := Lib.hid (show ¬ DepR x0 x1 x2 x7 x8 x9 from fun h => by have h2 := h.1 H9.out; exact of_decide_eq_false HQ.out (by rw [h2.1, h2.2]))
      go_enter Try.func104, Try.ntmps104
      go_wp2
      go_ret
      exact resB_no HV.out HB0.out
    | true =>
      have HV := Lib.hid (show DepR x0 x1 x2 x7 x8 x9 from ⟨fun _ => by have h2 := of_decide_eq_true HQ.out; simpa using h2, fun h => absurd H9.out h⟩)
      go_enter Try.func104, Try.ntmps104
      go_wp2
      go_ret
      exact resB_yes HV.out HB0.out
  · have h9' : (x9 == 0) = false := beq_eq_false_iff_ne.2 h9
    have H9 := Lib.hid h9
    clear h9
    go_enter Try.func104, Try.ntmps104
    go_wp2_with fail
    refine (tid_at _ H8.out _).mono ?_
    rintro e w2 ⟨rfl, rfl⟩
    cases b8 with
    | false =>
      have HV := Lib.hid (show ¬ DepR x0 x1 x2 x7 x8 x9 from fun h => by have h2 := (h.2 H9.out).1; rw [H8.out] at h2; cases h2)
      go_wp2
      go_ret
      exact resB_no HV.out HB0.out
    | true =>
      go_wp2_with fail
      refine (belI_at _ _ _ _ HBB.out _).mono ?_
      rintro e w1 ⟨rfl, hb⟩
      have HP1 := Lib.hid (HP0.out.call hb)
      have HB1 := Lib.hid (HB0.out.trans (hb.mono hz0))
      have hz1 : W.heap.size ≤ w1.heap.size := HB1.out.size
      clear hb
      have p0 := HP1.out.at_ 0 rfl
      have p1 := HP1.out.at_ 1 rfl
      have p2 := HP1.out.at_ 2 rfl
      have p3 := HP1.out.at_ 3 rfl
      have p4 := HP1.out.at_ 4 rfl
      have p5 := HP1.out.at_ 5 rfl
      have p6 := HP1.out.at_ 6 rfl
      have p7 := HP1.out.at_ 7 rfl
      have p8 := HP1.out.at_ 8 rfl
      have p9 := HP1.out.at_ 9 rfl
      have p10 := HP1.out.at_ 10 rfl
      have p11 := HP1.out.at_ 11 rfl
      have p12 := HP1.out.at_ 12 rfl
      have p13 := HP1.out.at_ 13 rfl
      cases b9 with
      | false =>
        have HV := Lib.hid (show ¬ DepR x0 x1 x2 x7 x8 x9 from fun h => by have h2 := (h.2 H9.out).2.1; rw [HBB.out] at h2; cases h2)
        go_wp2
        go_ret
        exact resB_no HV.out HB1.out
      | true =>
        obtain ⟨q, hq⟩ : ∃ q, decide (((x7, x8) : Int × Int) = (x0, x1)) = q := ⟨_, rfl⟩
        have hqq := neq_lab x7 x8 x0 x1 q hq
        have HQ := Lib.hid hq
        clear hq
        cases q with
        | false =>
          have HV := Lib.hid (show DepR x0 x1 x2 x7 x8 x9 from ⟨fun h => absurd h H9.out, fun _ => ⟨H8.out, HBB.out, fun h => of_decide_eq_false HQ.out (by rw [h.1.1, h.1.2])⟩⟩)
          go_wp2
          go_ret
          exact resB_yes HV.out HB1.out
        | true =>
          by_cases hle : x9 < x2
          · have hle' : decide (x9 < x2) = true := decide_eq_true hle
            have HV := Lib.hid (show DepR x0 x1 x2 x7 x8 x9 from ⟨fun h => absurd h H9.out, fun _ => ⟨H8.out, HBB.out, fun h => by have := h.2; omega⟩⟩)
            go_wp2
            go_ret
            exact resB_yes HV.out HB1.out
          · have hle' : decide (x9 < x2) = false := decide_eq_false hle
            have HV := Lib.hid (show ¬ DepR x0 x1 x2 x7 x8 x9 from fun h => (h.2 H9.out).2.2 ⟨by have h2 := of_decide_eq_true HQ.out; simpa using h2, by omega⟩)
            go_wp2
            go_ret
            exact resB_no HV.out HB1.out
set_option maxRecDepth 100000 in
set_option maxHeartbeats 3200000 in
theorem stateT_impl {x0 x1 x2 : Int} {x3 : ByteArray} {x4 x5 x6 x7 x8 x9 x10 x11 x12 : Int} {L : List Int} {a : Option Addr} {c : Nat} {W : World} (h14 : isB x4 1 6 = true) (h : RdSl I W W.heap.size L a c) : Calls Try.prog 106 #[.agg #[.int .i64 x0, .int .i64 x1, .int .i64 x2, .string x3, .int .i64 x4, .int .i64 x5, .int .i64 x6, .int .i64 x7, .int .i64 x8, .int .i64 x9, .int .i64 x10, .int .i64 x11, .int .i64 x12, .slice a L.length c]] W (ResB ((Has x11 L → PlR x4 x12 L) ∧ (¬ Has x11 L → NoP x12 L) ∧ (1 ≤ x11 ∧ x11 ≤ 6)) W) := by
  have hn : L.length ≤ 9223372036854775807 := by have h1 := h.1; have h2 := h.2.1; unfold maxLen at h2; omega
  have H := Lib.hid h
  clear h
  have HB0 := Lib.hid (show Below W.heap.size W (W.alloc (.cells #[.int .i64 x0, .int .i64 x1, .int .i64 x2, .string x3, .int .i64 x4, .int .i64 x5, .int .i64 x6, .int .i64 x7, .int .i64 x8, .int .i64 x9, .int .i64 x10, .int .i64 x11, .int .i64 x12, .slice a L.length c] 54)) from (Below.refl _ _).alloc (Nat.le_refl _) _)
  have HP0 := Lib.hid (Blk.new W 54 #[.int .i64 x0, .int .i64 x1, .int .i64 x2, .string x3, .int .i64 x4, .int .i64 x5, .int .i64 x6, .int .i64 x7, .int .i64 x8, .int .i64 x9, .int .i64 x10, .int .i64 x11, .int .i64 x12, .slice a L.length c])
  have hz0 : W.heap.size ≤ (W.alloc (.cells #[.int .i64 x0, .int .i64 x1, .int .i64 x2, .string x3, .int .i64 x4, .int .i64 x5, .int .i64 x6, .int .i64 x7, .int .i64 x8, .int .i64 x9, .int .i64 x10, .int .i64 x11, .int .i64 x12, .slice a L.length c] 54)).heap.size := HB0.out.size
  obtain ⟨b0, h0⟩ : ∃ b, nopB x12 L = b := ⟨_, rfl⟩
  have H0 := Lib.hid h0
  clear h0
  have HN := Lib.hid hn
  have HN4 := Lib.hid h14
  clear h14
  by_cases h2 : x11 = 2
  · have h2' : (x11 == 2) = true := beq_iff_eq.2 h2
    have HS := Lib.hid (show Has x11 L from .inl h2)
    have HR := Lib.hid (show 1 ≤ x11 ∧ x11 ≤ 6 from by omega)
    clear h2
    go_enter Try.func106, Try.ntmps106
    go_wp2_with fail
    refine (place_impl x4 x12 ((H.out.below I_ok HB0.out).more I_ok hz0)).mono ?_
    intro e w3 h
    obtain ⟨b, rfl, hb, hw⟩ := resB_elim h
    have HB := Lib.hid (HB0.out.trans (hw.mono hz0))
    have HV := Lib.hid (show (b = true ↔ ((Has x11 L → PlR x4 x12 L) ∧ (¬ Has x11 L → NoP x12 L) ∧ (1 ≤ x11 ∧ x11 ≤ 6))) from hb.trans ⟨fun h => ⟨fun _ => h, fun h => absurd HS.out h, HR.out⟩, fun h => h.1 HS.out⟩)
    clear h hb hw
    go_wp2
    go_ret
    exact ⟨b, rfl, HV.out, HB.out⟩
  · have h2' : (x11 == 2) = false := beq_eq_false_iff_ne.2 h2
    by_cases h1 : x11 = 1
    · have h1' : (x11 == 1) = true := beq_iff_eq.2 h1
      have HR := Lib.hid (show 1 ≤ x11 ∧ x11 ≤ 6 from by omega)
      have HE := Lib.hid (show Has x11 L ↔ 0 < L.length from ⟨fun h => h.elim (fun h => absurd h h2) (fun h => h.2), fun h => .inr ⟨h1, h⟩⟩)
      clear h1 h2
      go_enter Try.func106, Try.ntmps106
      go_wp2_with fail
      refine (nop_at x12 H0.out HN.out _).mono ?_
      rintro e w2 ⟨rfl, rfl⟩
      cases b0 with
      | true =>
        have HV := Lib.hid (show ((Has x11 L → PlR x4 x12 L) ∧ (¬ Has x11 L → NoP x12 L) ∧ (1 ≤ x11 ∧ x11 ≤ 6)) from by have h3 := nopB_iff.1 H0.out; exact ⟨fun h => by have h4 := HE.out.1 h; have h5 := h3.2; omega, fun _ => h3, HR.out⟩)
        go_wp2
        go_ret
        exact resB_yes HV.out HB0.out
      | false =>
        go_wp2_with fail
        refine (place_impl x4 x12 ((H.out.below I_ok HB0.out).more I_ok hz0)).mono ?_
        intro e w3 h
        obtain ⟨b, rfl, hb, hw⟩ := resB_elim h
        have HB := Lib.hid (HB0.out.trans (hw.mono hz0))
        have HV := Lib.hid (show (b = true ↔ ((Has x11 L → PlR x4 x12 L) ∧ (¬ Has x11 L → NoP x12 L) ∧ (1 ≤ x11 ∧ x11 ≤ 6))) from hb.trans ⟨fun h => ⟨fun _ => h, fun h2 => by exfalso; apply h2; apply HE.out.2; by_cases hl : 0 < L.length; exact hl; exfalso; have h8 := h.2.1; have h9 := (isB_iff _ _ _).1 HN4.out; omega, HR.out⟩, fun h => h.1 (HE.out.2 (by by_cases hl : 0 < L.length; exact hl; exfalso; have h4 := h.2.1 (fun h5 => hl (HE.out.1 h5)); have h6 := nopB_iff.2 h4; rw [H0.out] at h6; cases h6))⟩)
        clear h hb hw
        go_wp2
        go_ret
        exact ⟨b, rfl, HV.out, HB.out⟩
    · have h1' : (x11 == 1) = false := beq_eq_false_iff_ne.2 h1
      have HS := Lib.hid (show ¬ Has x11 L from fun h => h.elim h2 (fun h => h1 h.1))
      by_cases h3 : x11 = 3
      · have h3' : (x11 == 3) = true := beq_iff_eq.2 h3
        have h4' : (x11 == 4) = false := beq_eq_false_iff_ne.2 (by omega)
        have h5' : (x11 == 5) = false := beq_eq_false_iff_ne.2 (by omega)
        have h6' : (x11 == 6) = false := beq_eq_false_iff_ne.2 (by omega)
        have HR := Lib.hid (show 1 ≤ x11 ∧ x11 ≤ 6 from by omega)
        clear h3 h1 h2
        go_enter Try.func106, Try.ntmps106
        go_wp2_with fail
        refine (nop_at x12 H0.out HN.out _).mono ?_
        rintro e w2 ⟨rfl, rfl⟩
        cases b0 with
        | true =>
          have HV := Lib.hid (show ((Has x11 L → PlR x4 x12 L) ∧ (¬ Has x11 L → NoP x12 L) ∧ (1 ≤ x11 ∧ x11 ≤ 6)) from ⟨fun h => absurd h HS.out, fun _ => nopB_iff.1 H0.out, HR.out⟩)
          go_wp2
          go_ret
          exact resB_yes HV.out HB0.out
        | false =>
          have HV := Lib.hid (show ¬ ((Has x11 L → PlR x4 x12 L) ∧ (¬ Has x11 L → NoP x12 L) ∧ (1 ≤ x11 ∧ x11 ≤ 6)) from fun h => by have h6 := nopB_iff.2 (h.2.1 HS.out); rw [H0.out] at h6; cases h6)
          go_wp2
          go_ret
          exact resB_no HV.out HB0.out
      have h3' : (x11 == 3) = false := beq_eq_false_iff_ne.2 h3
      by_cases h4 : x11 = 4
      · have h4' : (x11 == 4) = true := beq_iff_eq.2 h4
        have h5' : (x11 == 5) = false := beq_eq_false_iff_ne.2 (by omega)
        have h6' : (x11 == 6) = false := beq_eq_false_iff_ne.2 (by omega)
        have HR := Lib.hid (show 1 ≤ x11 ∧ x11 ≤ 6 from by omega)
        clear h4 h1 h2
        go_enter Try.func106, Try.ntmps106
        go_wp2_with fail
        refine (nop_at x12 H0.out HN.out _).mono ?_
        rintro e w2 ⟨rfl, rfl⟩
        cases b0 with
        | true =>
          have HV := Lib.hid (show ((Has x11 L → PlR x4 x12 L) ∧ (¬ Has x11 L → NoP x12 L) ∧ (1 ≤ x11 ∧ x11 ≤ 6)) from ⟨fun h => absurd h HS.out, fun _ => nopB_iff.1 H0.out, HR.out⟩)
          go_wp2
          go_ret
          exact resB_yes HV.out HB0.out
        | false =>
          have HV := Lib.hid (show ¬ ((Has x11 L → PlR x4 x12 L) ∧ (¬ Has x11 L → NoP x12 L) ∧ (1 ≤ x11 ∧ x11 ≤ 6)) from fun h => by have h6 := nopB_iff.2 (h.2.1 HS.out); rw [H0.out] at h6; cases h6)
          go_wp2
          go_ret
          exact resB_no HV.out HB0.out
      have h4' : (x11 == 4) = false := beq_eq_false_iff_ne.2 h4
      by_cases h5 : x11 = 5
      · have h5' : (x11 == 5) = true := beq_iff_eq.2 h5
        have h6' : (x11 == 6) = false := beq_eq_false_iff_ne.2 (by omega)
        have HR := Lib.hid (show 1 ≤ x11 ∧ x11 ≤ 6 from by omega)
        clear h5 h1 h2
        go_enter Try.func106, Try.ntmps106
        go_wp2_with fail
        refine (nop_at x12 H0.out HN.out _).mono ?_
        rintro e w2 ⟨rfl, rfl⟩
        cases b0 with
        | true =>
          have HV := Lib.hid (show ((Has x11 L → PlR x4 x12 L) ∧ (¬ Has x11 L → NoP x12 L) ∧ (1 ≤ x11 ∧ x11 ≤ 6)) from ⟨fun h => absurd h HS.out, fun _ => nopB_iff.1 H0.out, HR.out⟩)
          go_wp2
          go_ret
          exact resB_yes HV.out HB0.out
        | false =>
          have HV := Lib.hid (show ¬ ((Has x11 L → PlR x4 x12 L) ∧ (¬ Has x11 L → NoP x12 L) ∧ (1 ≤ x11 ∧ x11 ≤ 6)) from fun h => by have h6 := nopB_iff.2 (h.2.1 HS.out); rw [H0.out] at h6; cases h6)
          go_wp2
          go_ret
          exact resB_no HV.out HB0.out
      have h5' : (x11 == 5) = false := beq_eq_false_iff_ne.2 h5
      by_cases h6 : x11 = 6
      · have h6' : (x11 == 6) = true := beq_iff_eq.2 h6
        have HR := Lib.hid (show 1 ≤ x11 ∧ x11 ≤ 6 from by omega)
        clear h6 h1 h2
        go_enter Try.func106, Try.ntmps106
        go_wp2_with fail
        refine (nop_at x12 H0.out HN.out _).mono ?_
        rintro e w2 ⟨rfl, rfl⟩
        cases b0 with
        | true =>
          have HV := Lib.hid (show ((Has x11 L → PlR x4 x12 L) ∧ (¬ Has x11 L → NoP x12 L) ∧ (1 ≤ x11 ∧ x11 ≤ 6)) from ⟨fun h => absurd h HS.out, fun _ => nopB_iff.1 H0.out, HR.out⟩)
          go_wp2
          go_ret
          exact resB_yes HV.out HB0.out
        | false =>
          have HV := Lib.hid (show ¬ ((Has x11 L → PlR x4 x12 L) ∧ (¬ Has x11 L → NoP x12 L) ∧ (1 ≤ x11 ∧ x11 ≤ 6)) from fun h => by have h6 := nopB_iff.2 (h.2.1 HS.out); rw [H0.out] at h6; cases h6)
          go_wp2
          go_ret
          exact resB_no HV.out HB0.out
      have h6' : (x11 == 6) = false := beq_eq_false_iff_ne.2 h6
      have HR := Lib.hid (show ¬ (1 ≤ x11 ∧ x11 ≤ 6) from by omega)
      clear h1 h2 h3 h4 h5 h6
      have HV := Lib.hid (show ¬ ((Has x11 L → PlR x4 x12 L) ∧ (¬ Has x11 L → NoP x12 L) ∧ (1 ≤ x11 ∧ x11 ≤ 6)) from fun h => HR.out h.2.2)
      go_enter Try.func106, Try.ntmps106
      go_wp2
      go_ret
      exact resB_no HV.out HB0.out
theorem wishI_at {x3 x4 x5 : Int} {b : Bool} (hb : (isB x3 1 6 && (isB x4 1 20 && isB x5 0 9)) = b) (W : World) : Calls Try.prog 103 #[.int .i64 x3, .int .i64 x4, .int .i64 x5] W fun e w' => e = .returned (.bool b) ∧ W = w' := wish_impl hb W
theorem taskR_of (x0 x1 x2 : Int) (x3 : ByteArray) (x4 x5 x6 x7 x8 x9 x10 x11 x12 : Int) (L : List Int)  : TaskR ((x0, x1), x2, x3, x4, x5, x6, (x7, x8), x9, x10, x11, x12, L) ↔ LabC.rB x0 x1 = true ∧ isB x2 1 12 = true ∧ nameB x3 = true ∧ (isB x4 1 6 && (isB x5 1 20 && isB x6 0 9)) = true ∧ DepR x0 x1 x2 x7 x8 x9 ∧ isB x10 0 999900 = true ∧ ((Has x11 L → PlR x4 x12 L) ∧ (¬ Has x11 L → NoP x12 L) ∧ (1 ≤ x11 ∧ x11 ≤ 6)) := by
  show _ ∧ _ ∧ _ ∧ _ ∧ _ ∧ _ ∧ _ ∧ _ ∧ _ ∧ _ ∧ _ ↔ _
  simp only [Bool.and_eq_true]
  constructor
  · rintro ⟨h0, h1, h2, h3, h4, h5, h6, h7, h8, h9, h10⟩
    exact ⟨h0, h1, h2, ⟨h3, h4, h5⟩, h8, h6, h9, h10, (isB_iff _ _ _).1 h7⟩
  · rintro ⟨h0, h1, h2, ⟨h3, h4, h5⟩, h8, h6, h9, h10, h7⟩
    exact ⟨h0, h1, h2, h3, h4, h5, h6, (isB_iff _ _ _).2 h7, h8, h9, h10⟩
set_option maxRecDepth 100000 in
set_option maxHeartbeats 3200000 in
theorem taskP_impl {x0 x1 x2 : Int} {x3 : ByteArray} {x4 x5 x6 x7 x8 x9 x10 x11 x12 : Int} {L : List Int} {a : Option Addr} {c : Nat} {W : World} (b_x3 : x3.size ≤ maxLen) (h : RdSl I W W.heap.size L a c) : Calls Try.prog 61 #[.agg #[.int .i64 x0, .int .i64 x1, .int .i64 x2, .string x3, .int .i64 x4, .int .i64 x5, .int .i64 x6, .int .i64 x7, .int .i64 x8, .int .i64 x9, .int .i64 x10, .int .i64 x11, .int .i64 x12, .slice a L.length c]] W (ResB (TaskR ((x0, x1), x2, x3, x4, x5, x6, (x7, x8), x9, x10, x11, x12, L)) W) := by
  have hn : L.length ≤ 9223372036854775807 := by have h1 := h.1; have h2 := h.2.1; unfold maxLen at h2; omega
  have H := Lib.hid h
  clear h
  have HX3 := Lib.hid b_x3
  unfold maxLen at b_x3
  have HB0 := Lib.hid (show Below W.heap.size W (W.alloc (.cells #[.int .i64 x0, .int .i64 x1, .int .i64 x2, .string x3, .int .i64 x4, .int .i64 x5, .int .i64 x6, .int .i64 x7, .int .i64 x8, .int .i64 x9, .int .i64 x10, .int .i64 x11, .int .i64 x12, .slice a L.length c] 54)) from (Below.refl _ _).alloc (Nat.le_refl _) _)
  have HP0 := Lib.hid (Blk.new W 54 #[.int .i64 x0, .int .i64 x1, .int .i64 x2, .string x3, .int .i64 x4, .int .i64 x5, .int .i64 x6, .int .i64 x7, .int .i64 x8, .int .i64 x9, .int .i64 x10, .int .i64 x11, .int .i64 x12, .slice a L.length c])
  have hz0 : W.heap.size ≤ (W.alloc (.cells #[.int .i64 x0, .int .i64 x1, .int .i64 x2, .string x3, .int .i64 x4, .int .i64 x5, .int .i64 x6, .int .i64 x7, .int .i64 x8, .int .i64 x9, .int .i64 x10, .int .i64 x11, .int .i64 x12, .slice a L.length c] 54)).heap.size := HB0.out.size
  have JO := Lib.hid (taskR_of x0 x1 x2 x3 x4 x5 x6 x7 x8 x9 x10 x11 x12 L)
  obtain ⟨b0, h0⟩ : ∃ b, LabC.rB x0 x1 = b := ⟨_, rfl⟩
  have H0 := Lib.hid h0
  clear h0
  obtain ⟨b1, h1⟩ : ∃ b, isB x2 1 12 = b := ⟨_, rfl⟩
  have H1 := Lib.hid h1
  clear h1
  obtain ⟨b2, h2⟩ : ∃ b, nameB x3 = b := ⟨_, rfl⟩
  have H2 := Lib.hid h2
  clear h2
  obtain ⟨b3, h3⟩ : ∃ b, (isB x4 1 6 && (isB x5 1 20 && isB x6 0 9)) = b := ⟨_, rfl⟩
  have H3 := Lib.hid h3
  clear h3
  obtain ⟨b5, h5⟩ : ∃ b, isB x10 0 999900 = b := ⟨_, rfl⟩
  have H5 := Lib.hid h5
  clear h5
  go_enter Try.func61, Try.ntmps61
  go_wp2_with fail
  refine (labi_below x0 x1 H0.out _).mono ?_
  rintro e w1 ⟨rfl, hb⟩
  have HP1 := Lib.hid (HP0.out.call hb)
  have HB1 := Lib.hid (HB0.out.trans (hb.mono hz0))
  have hz1 : W.heap.size ≤ w1.heap.size := HB1.out.size
  clear hb
  have p0 := HP1.out.at_ 0 rfl
  have p1 := HP1.out.at_ 1 rfl
  have p2 := HP1.out.at_ 2 rfl
  have p3 := HP1.out.at_ 3 rfl
  have p4 := HP1.out.at_ 4 rfl
  have p5 := HP1.out.at_ 5 rfl
  have p6 := HP1.out.at_ 6 rfl
  have p7 := HP1.out.at_ 7 rfl
  have p8 := HP1.out.at_ 8 rfl
  have p9 := HP1.out.at_ 9 rfl
  have p10 := HP1.out.at_ 10 rfl
  have p11 := HP1.out.at_ 11 rfl
  have p12 := HP1.out.at_ 12 rfl
  have p13 := HP1.out.at_ 13 rfl
  clear HP0 HB0
  cases b0 with
  | false =>
    have HV := Lib.hid (show ¬ TaskR ((x0, x1), x2, x3, x4, x5, x6, (x7, x8), x9, x10, x11, x12, L) from fun h => by have h2 := (JO.out.1 h).1; rw [H0.out] at h2; cases h2)
    go_wp2
    go_ret
    exact resB_no HV.out HB1.out
  | true =>
    go_wp2_with fail
    refine (tid_at _ H1.out _).mono ?_
    rintro e w2 ⟨rfl, rfl⟩
    cases b1 with
    | false =>
      have HV := Lib.hid (show ¬ TaskR ((x0, x1), x2, x3, x4, x5, x6, (x7, x8), x9, x10, x11, x12, L) from fun h => by have h2 := (JO.out.1 h).2.1; rw [H1.out] at h2; cases h2)
      go_wp2
      go_ret
      exact resB_no HV.out HB1.out
    | true =>
      go_wp2_with fail
      refine (nameI_at HX3.out H2.out _).mono ?_
      rintro e w2 ⟨rfl, rfl⟩
      cases b2 with
      | false =>
        have HV := Lib.hid (show ¬ TaskR ((x0, x1), x2, x3, x4, x5, x6, (x7, x8), x9, x10, x11, x12, L) from fun h => by have h2 := (JO.out.1 h).2.2.1; rw [H2.out] at h2; cases h2)
        go_wp2
        go_ret
        exact resB_no HV.out HB1.out
      | true =>
        go_wp2_with fail
        refine (wishI_at H3.out _).mono ?_
        rintro e w2 ⟨rfl, rfl⟩
        cases b3 with
        | false =>
          have HV := Lib.hid (show ¬ TaskR ((x0, x1), x2, x3, x4, x5, x6, (x7, x8), x9, x10, x11, x12, L) from fun h => by have h2 := (JO.out.1 h).2.2.2.1; rw [H3.out] at h2; cases h2)
          go_wp2
          go_ret
          exact resB_no HV.out HB1.out
        | true =>
          have HN4 := Lib.hid (show isB x4 1 6 = true from by have h2 := H3.out; simp only [Bool.and_eq_true] at h2; exact h2.1)
          go_wp2_with fail
          refine (dep_impl (x3 := x3) (L := L) (a := a) (c := c)).mono ?_
          intro e w2 h
          obtain ⟨d, rfl, hd, hb⟩ := resB_elim h
          have HD := Lib.hid hd
          clear h hd
          have HP2 := Lib.hid (HP1.out.call hb)
          have HB2 := Lib.hid (HB1.out.trans (hb.mono hz1))
          have hz2 : W.heap.size ≤ w2.heap.size := HB2.out.size
          clear hb
          clear p0 p1 p2 p3 p4 p5 p6 p7 p8 p9 p10 p11 p12 p13
          have p0 := HP2.out.at_ 0 rfl
          have p1 := HP2.out.at_ 1 rfl
          have p2 := HP2.out.at_ 2 rfl
          have p3 := HP2.out.at_ 3 rfl
          have p4 := HP2.out.at_ 4 rfl
          have p5 := HP2.out.at_ 5 rfl
          have p6 := HP2.out.at_ 6 rfl
          have p7 := HP2.out.at_ 7 rfl
          have p8 := HP2.out.at_ 8 rfl
          have p9 := HP2.out.at_ 9 rfl
          have p10 := HP2.out.at_ 10 rfl
          have p11 := HP2.out.at_ 11 rfl
          have p12 := HP2.out.at_ 12 rfl
          have p13 := HP2.out.at_ 13 rfl
          cases d with
          | false =>
            have HV := Lib.hid (show ¬ TaskR ((x0, x1), x2, x3, x4, x5, x6, (x7, x8), x9, x10, x11, x12, L) from fun h => by have h2 := HD.out.2 (JO.out.1 h).2.2.2.2.1; cases h2)
            go_wp2
            go_ret
            exact resB_no HV.out HB2.out
          | true =>
            go_wp2_with fail
            refine (nowI_at _ H5.out _).mono ?_
            rintro e w3 ⟨rfl, rfl⟩
            cases b5 with
            | false =>
              have HV := Lib.hid (show ¬ TaskR ((x0, x1), x2, x3, x4, x5, x6, (x7, x8), x9, x10, x11, x12, L) from fun h => by have h2 := (JO.out.1 h).2.2.2.2.2.1; rw [H5.out] at h2; cases h2)
              go_wp2
              go_ret
              exact resB_no HV.out HB2.out
            | true =>
              go_wp2_with fail
              refine (stateT_impl (x3 := x3) HN4.out ((H.out.below I_ok HB2.out).more I_ok hz2)).mono ?_
              intro e w4 h
              obtain ⟨b, rfl, hb, hw⟩ := resB_elim h
              have HB := Lib.hid (HB2.out.trans (hw.mono hz2))
              have HV := Lib.hid (show (b = true ↔ TaskR ((x0, x1), x2, x3, x4, x5, x6, (x7, x8), x9, x10, x11, x12, L)) from hb.trans ⟨fun hS => JO.out.2 ⟨H0.out, H1.out, H2.out, H3.out, (by simpa using HD.out), H5.out, hS⟩, fun h => (JO.out.1 h).2.2.2.2.2.2⟩)
              clear h hb hw
              go_wp2
              go_ret
              exact ⟨b, rfl, HV.out, HB.out⟩
end Go.Proofs.Ytmmnkdilnlhbfaa.RepC
