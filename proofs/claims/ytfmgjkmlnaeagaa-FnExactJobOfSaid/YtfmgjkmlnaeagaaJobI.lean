/- JobRight of the program (as the code stands since 44a974f4: placeRight, noPlace): a contract. -/
import Derived.Test.YtfmgjkmlnaeagaaJobR
import Derived.Test.YtfmgjkmlnaeagaaJobI0
namespace Go.Proofs.Ytfmgjkmlnaeagaa.RepC
open Go.RowKit RowC ValC SpanC KeptC
set_option linter.unusedVariables false
set_option linter.unusedSimpArgs false

def PlJ (need start : Int) (L : List Int) : Prop := isB start 0 1000000 = true ∧ (L.length : Int) = need ∧ NodesR L
def NoJ (start : Int) (L : List Int) : Prop := start = 0 ∧ L.length = 0
def nopJ (start : Int) (L : List Int) : Bool := decide (start = 0) && decide (L.length = 0)
theorem nopJ_iff {start : Int} {L : List Int} : nopJ start L = true ↔ NoJ start L := by simp [nopJ, NoJ]
theorem nopj_at (start : Int) {L : List Int} {a : Option Addr} {c : Nat} {b : Bool} (hb : nopJ start L = b) (hn : L.length ≤ 9223372036854775807) (w : World) :
    Calls Try.prog 48 #[.int .i64 start, .slice a L.length c] w fun e w' => e = .returned (.bool b) ∧ w = w' := by
  subst hb
  by_cases h1 : start = 0
  · have h1' : (start == 0) = true := beq_iff_eq.2 h1
    by_cases h2 : L.length = 0
    · have h2' : ((L.length : Int) == 0) = true := beq_iff_eq.2 (by omega)
      have HE := Lib.hid (show nopJ start L = true from nopJ_iff.2 ⟨h1, h2⟩)
      clear h1 h2
      go_enter Try.func48, Try.ntmps48
      go_wp2
      go_ret
      exact ⟨by rw [HE.out]; rfl, rfl⟩
    · have h2' : ((L.length : Int) == 0) = false := beq_eq_false_iff_ne.2 (by omega)
      have HE := Lib.hid (show nopJ start L = false from by rw [Bool.eq_false_iff, ne_eq, nopJ_iff]; exact fun h => h2 h.2)
      clear h1
      go_enter Try.func48, Try.ntmps48
      go_wp2
      go_ret
      exact ⟨by rw [HE.out]; rfl, rfl⟩
  · have h1' : (start == 0) = false := beq_eq_false_iff_ne.2 h1
    have HE := Lib.hid (show nopJ start L = false from by rw [Bool.eq_false_iff, ne_eq, nopJ_iff]; exact fun h => h1 h.1)
    go_enter Try.func48, Try.ntmps48
    go_wp2
    go_ret
    exact ⟨by rw [HE.out]; rfl, rfl⟩
set_option maxRecDepth 100000 in
set_option maxHeartbeats 1600000 in
theorem placej_impl (need start : Int) {L : List Int} {a : Option Addr} {c : Nat} {W : World} (h : RdSl I W W.heap.size L a c) :
    Calls Try.prog 47 #[.int .i64 need, .int .i64 start, .slice a L.length c] W (ResB (PlJ need start L) W) := by
  have hn : L.length ≤ 9223372036854775807 := by have h1 := h.1; have h2 := h.2.1; unfold maxLen at h2; omega
  have H := Lib.hid h
  clear h
  obtain ⟨b, hb⟩ : ∃ b, isB start 0 1000000 = b := ⟨_, rfl⟩
  have HB := Lib.hid hb
  clear hb
  go_enter Try.func47, Try.ntmps47
  go_wp2_with fail
  refine (ti_at _ HB.out _).mono ?_
  rintro e w2 ⟨rfl, rfl⟩
  cases b with
  | false =>
    have HV := Lib.hid (show ¬ PlJ need start L from fun h => by have h2 := h.1; rw [HB.out] at h2; cases h2)
    go_wp2
    go_ret
    exact resB_no HV.out (Below.refl _ _)
  | true =>
    by_cases hl : (L.length : Int) = need
    · have hl' : ((L.length : Int) == need) = true := beq_iff_eq.2 hl
      have HL := Lib.hid hl
      clear hl
      go_wp2_with fail
      refine (nodes_impl H.out).mono ?_
      intro e w3 h
      obtain ⟨b, rfl, hb, hw⟩ := resB_elim h
      have HV := Lib.hid (show (b = true ↔ PlJ need start L) from hb.trans ⟨fun hN => ⟨HB.out, HL.out, hN⟩, fun h => h.2.2⟩)
      have HW := Lib.hid hw
      clear h hb hw
      go_wp2
      go_ret
      exact ⟨b, rfl, HV.out, HW.out⟩
    · have hl' : ((L.length : Int) == need) = false := beq_eq_false_iff_ne.2 hl
      have HV := Lib.hid (show ¬ PlJ need start L from fun h => hl h.2.1)
      go_wp2
      go_ret
      exact resB_no HV.out (Below.refl _ _)
def StateP (x3 x6 x7 : Int) (L : List Int) : Prop := (x6 = 2 ∧ isB x7 0 1000000 = true ∧ (L.length : Int) = x3 ∧ NodesR L) ∨ ((x6 = 1 ∨ x6 = 3 ∨ x6 = 4) ∧ x7 = 0 ∧ L.length = 0)

set_option maxRecDepth 100000 in
set_option maxHeartbeats 3200000 in
theorem state_impl {x0 x1 x2 x3 x4 x5 x6 x7 : Int} {L : List Int} {a : Option Addr} {c : Nat} {W : World} (h : RdSl I W W.heap.size L a c) : Calls Try.prog 34 #[.agg #[.int .i64 x0, .int .i64 x1, .int .i64 x2, .int .i64 x3, .int .i64 x4, .int .i64 x5, .int .i64 x6, .int .i64 x7, .slice a L.length c]] W (ResB (StateP x3 x6 x7 L) W) := by
  have hn : L.length ≤ 9223372036854775807 := by have h1 := h.1; have h2 := h.2.1; unfold maxLen at h2; omega
  have H := Lib.hid h
  clear h
  have HB0 := Lib.hid (show Below W.heap.size W (W.alloc (.cells #[.int .i64 x0, .int .i64 x1, .int .i64 x2, .int .i64 x3, .int .i64 x4, .int .i64 x5, .int .i64 x6, .int .i64 x7, .slice a L.length c] 31)) from (Below.refl _ _).alloc (Nat.le_refl _) _)
  have HP0 := Lib.hid (Blk.new W 31 #[.int .i64 x0, .int .i64 x1, .int .i64 x2, .int .i64 x3, .int .i64 x4, .int .i64 x5, .int .i64 x6, .int .i64 x7, .slice a L.length c])
  have hz0 : W.heap.size ≤ (W.alloc (.cells #[.int .i64 x0, .int .i64 x1, .int .i64 x2, .int .i64 x3, .int .i64 x4, .int .i64 x5, .int .i64 x6, .int .i64 x7, .slice a L.length c] 31)).heap.size := HB0.out.size
  obtain ⟨bn, hbn⟩ : ∃ b, nopJ x7 L = b := ⟨_, rfl⟩
  have HBN := Lib.hid hbn
  have HNP := Lib.hid (show (bn = true ↔ NoJ x7 L) from by rw [← hbn]; exact nopJ_iff)
  clear hbn
  by_cases h2 : x6 = 2
  · have h2' : (x6 == 2) = true := beq_iff_eq.2 h2
    have h1' : (x6 == 1) = false := beq_eq_false_iff_ne.2 (by omega)
    have h3' : (x6 == 3) = false := beq_eq_false_iff_ne.2 (by omega)
    have h4' : (x6 == 4) = false := beq_eq_false_iff_ne.2 (by omega)
    have HS := Lib.hid h2
    clear h2
    go_enter Try.func34, Try.ntmps34
    go_wp2_with fail
    refine (placej_impl x3 x7 ((H.out.below I_ok HB0.out).more I_ok hz0)).mono ?_
    intro e w3 h
    obtain ⟨b, rfl, hb, hw⟩ := resB_elim h
    have HB := Lib.hid (HB0.out.trans (hw.mono hz0))
    have HV := Lib.hid (show (b = true ↔ StateP x3 x6 x7 L) from hb.trans ⟨fun hN => Or.inl ⟨HS.out, hN⟩, fun h => h.elim (fun h => h.2) (fun h => by have := HS.out; omega)⟩)
    clear h hb hw
    go_wp2
    go_ret
    exact ⟨b, rfl, HV.out, HB.out⟩
  have h2' : (x6 == 2) = false := beq_eq_false_iff_ne.2 h2
  have N2 := Lib.hid h2
  by_cases h1 : x6 = 1
  · have h1' : (x6 == 1) = true := beq_iff_eq.2 h1
    have h3' : (x6 == 3) = false := beq_eq_false_iff_ne.2 (by omega)
    have h4' : (x6 == 4) = false := beq_eq_false_iff_ne.2 (by omega)
    have HS := Lib.hid h1
    have HV := Lib.hid (show (bn = true ↔ StateP x3 x6 x7 L) from HNP.out.trans ⟨fun hN => Or.inr ⟨Or.inl HS.out, hN⟩, fun h => h.elim (fun h => absurd h.1 N2.out) (fun h => h.2)⟩)
    clear h1 h2
    go_enter Try.func34, Try.ntmps34
    go_wp2_with fail
    refine (nopj_at x7 HBN.out hn _).mono ?_
    rintro e w3 ⟨rfl, rfl⟩
    go_wp2
    go_ret
    exact ⟨bn, rfl, HV.out, HB0.out⟩
  have h1' : (x6 == 1) = false := beq_eq_false_iff_ne.2 h1
  by_cases h3 : x6 = 3
  · have h3' : (x6 == 3) = true := beq_iff_eq.2 h3
    have h4' : (x6 == 4) = false := beq_eq_false_iff_ne.2 (by omega)
    have HS := Lib.hid h3
    have HV := Lib.hid (show (bn = true ↔ StateP x3 x6 x7 L) from HNP.out.trans ⟨fun hN => Or.inr ⟨Or.inr (Or.inl HS.out), hN⟩, fun h => h.elim (fun h => absurd h.1 N2.out) (fun h => h.2)⟩)
    clear h3 h2
    go_enter Try.func34, Try.ntmps34
    go_wp2_with fail
    refine (nopj_at x7 HBN.out hn _).mono ?_
    rintro e w3 ⟨rfl, rfl⟩
    go_wp2
    go_ret
    exact ⟨bn, rfl, HV.out, HB0.out⟩
  have h3' : (x6 == 3) = false := beq_eq_false_iff_ne.2 h3
  by_cases h4 : x6 = 4
  · have h4' : (x6 == 4) = true := beq_iff_eq.2 h4
    have HS := Lib.hid h4
    have HV := Lib.hid (show (bn = true ↔ StateP x3 x6 x7 L) from HNP.out.trans ⟨fun hN => Or.inr ⟨Or.inr (Or.inr HS.out), hN⟩, fun h => h.elim (fun h => absurd h.1 N2.out) (fun h => h.2)⟩)
    clear h4 h2
    go_enter Try.func34, Try.ntmps34
    go_wp2_with fail
    refine (nopj_at x7 HBN.out hn _).mono ?_
    rintro e w3 ⟨rfl, rfl⟩
    go_wp2
    go_ret
    exact ⟨bn, rfl, HV.out, HB0.out⟩
  have h4' : (x6 == 4) = false := beq_eq_false_iff_ne.2 h4
  have HS := Lib.hid (show ¬ (x6 = 1 ∨ x6 = 3 ∨ x6 = 4) from by omega)
  clear h1 h2 h3 h4
  have HV := Lib.hid (show ¬ StateP x3 x6 x7 L from fun h => h.elim (fun h => N2.out h.1) (fun h => HS.out h.1))
  go_enter Try.func34, Try.ntmps34
  go_wp2
  go_ret
  exact resB_no HV.out HB0.out

theorem jobR_of (x0 x1 x2 x3 x4 x5 x6 x7 : Int) (L : List Int) : JobR x0 x1 x2 x3 x4 x5 x6 x7 L ↔ LabC.rB x0 x1 = true ∧ isB x2 1 3 = true ∧ (isB x3 1 6 && (isB x4 1 20 && isB x5 0 9)) = true ∧ StateP x3 x6 x7 L := by
  unfold JobR StateP
  simp only [Bool.and_eq_true]
  constructor
  · rintro ⟨h0, h1, h2, h3, h4, h5, h6, h7⟩
    refine ⟨h0, h1, ⟨h2, h3, h4⟩, ?_⟩
    by_cases h : x6 = 2
    · exact Or.inl ⟨h, h6 h⟩
    · rw [isB_io] at h5
      exact Or.inr ⟨by omega, h7 h⟩
  · rintro ⟨h0, h1, ⟨h2, h3, h4⟩, h⟩
    refine ⟨h0, h1, h2, h3, h4, ?_, fun e => ?_, fun e => ?_⟩
    · rw [isB_io]
      omega
    · rcases h with h | h
      · exact h.2
      · omega
    · rcases h with h | h
      · exact absurd h.1 e
      · exact h.2

set_option maxRecDepth 100000 in
set_option maxHeartbeats 3200000 in
theorem jobright_impl {x0 x1 x2 x3 x4 x5 x6 x7 : Int} {L : List Int} {a : Option Addr} {c : Nat} {W : World} (h : RdSl I W W.heap.size L a c) : Calls Try.prog 10 #[.agg #[.int .i64 x0, .int .i64 x1, .int .i64 x2, .int .i64 x3, .int .i64 x4, .int .i64 x5, .int .i64 x6, .int .i64 x7, .slice a L.length c]] W (ResB (JobR x0 x1 x2 x3 x4 x5 x6 x7 L) W) := by
  have hn : L.length ≤ 9223372036854775807 := by have h1 := h.1; have h2 := h.2.1; unfold maxLen at h2; omega
  have H := Lib.hid h
  clear h
  have HB0 := Lib.hid (show Below W.heap.size W (W.alloc (.cells #[.int .i64 x0, .int .i64 x1, .int .i64 x2, .int .i64 x3, .int .i64 x4, .int .i64 x5, .int .i64 x6, .int .i64 x7, .slice a L.length c] 31)) from (Below.refl _ _).alloc (Nat.le_refl _) _)
  have HP0 := Lib.hid (Blk.new W 31 #[.int .i64 x0, .int .i64 x1, .int .i64 x2, .int .i64 x3, .int .i64 x4, .int .i64 x5, .int .i64 x6, .int .i64 x7, .slice a L.length c])
  have hz0 : W.heap.size ≤ (W.alloc (.cells #[.int .i64 x0, .int .i64 x1, .int .i64 x2, .int .i64 x3, .int .i64 x4, .int .i64 x5, .int .i64 x6, .int .i64 x7, .slice a L.length c] 31)).heap.size := HB0.out.size
  have JO := Lib.hid (jobR_of x0 x1 x2 x3 x4 x5 x6 x7 L)
  obtain ⟨b0, h0⟩ : ∃ b, LabC.rB x0 x1 = b := ⟨_, rfl⟩
  obtain ⟨b1, h1⟩ : ∃ b, isB x2 1 3 = b := ⟨_, rfl⟩
  obtain ⟨b2, h2⟩ : ∃ b, (isB x3 1 6 && (isB x4 1 20 && isB x5 0 9)) = b := ⟨_, rfl⟩
  have H0 := Lib.hid h0
  have H1 := Lib.hid h1
  have H2 := Lib.hid h2
  clear h0 h1 h2
  go_enter Try.func10, Try.ntmps10
  go_wp2_with fail
  refine (labi_below x0 x1 H0.out _).mono ?_
  rintro e w1 ⟨rfl, hb⟩
  have HP1 := Lib.hid (HP0.out.call hb)
  have HB1 := Lib.hid (HB0.out.trans (hb.mono hz0))
  have hz1 : W.heap.size ≤ w1.heap.size := HB1.out.size
  clear hb
  have p0 := HP1.out.at_ 0 rfl
  have p1 := HP1.out.at_ 1 rfl
  have p2 := HP1.out.at_ 2 rfl
  have p3 := HP1.out.at_ 3 rfl
  have p4 := HP1.out.at_ 4 rfl
  have p5 := HP1.out.at_ 5 rfl
  have p6 := HP1.out.at_ 6 rfl
  have p7 := HP1.out.at_ 7 rfl
  have p8 := HP1.out.at_ 8 rfl
  clear HP0 HB0
  cases b0 with
  | false =>
    have HV := Lib.hid (show ¬ JobR x0 x1 x2 x3 x4 x5 x6 x7 L from fun h => by have h2 := (JO.out.1 h).1; rw [H0.out] at h2; cases h2)
    go_wp2
    go_ret
    exact resB_no HV.out HB1.out
  | true =>
    go_wp2_with fail
    refine (wi_at _ _ _ H1.out _).mono ?_
    rintro e w2 ⟨rfl, rfl⟩
    cases b1 with
    | false =>
      have HV := Lib.hid (show ¬ JobR x0 x1 x2 x3 x4 x5 x6 x7 L from fun h => by have h2 := (JO.out.1 h).2.1; rw [H1.out] at h2; cases h2)
      go_wp2
      go_ret
      exact resB_no HV.out HB1.out
    | true =>
      go_wp2_with fail
      refine (wish_impl H2.out _).mono ?_
      rintro e w2 ⟨rfl, rfl⟩
      cases b2 with
      | false =>
        have HV := Lib.hid (show ¬ JobR x0 x1 x2 x3 x4 x5 x6 x7 L from fun h => by have h2 := (JO.out.1 h).2.2.1; rw [H2.out] at h2; cases h2)
        go_wp2
        go_ret
        exact resB_no HV.out HB1.out
      | true =>
        go_wp2_with fail
        refine (state_impl ((H.out.below I_ok HB1.out).more I_ok hz1)).mono ?_
        intro e w3 h
        obtain ⟨b, rfl, hb, hw⟩ := resB_elim h
        have HB := Lib.hid (HB1.out.trans (hw.mono hz1))
        have HV := Lib.hid (show (b = true ↔ JobR x0 x1 x2 x3 x4 x5 x6 x7 L) from hb.trans ⟨fun hS => JO.out.2 ⟨H0.out, H1.out, H2.out, hS⟩, fun h => (JO.out.1 h).2.2.2⟩)
        clear h hb hw
        go_wp2
        go_ret
        exact ⟨b, rfl, HV.out, HB.out⟩
end Go.Proofs.Ytfmgjkmlnaeagaa.RepC
