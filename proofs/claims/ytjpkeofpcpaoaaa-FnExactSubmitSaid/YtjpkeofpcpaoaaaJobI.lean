/- JobRight of the program: contracts. -/
import Derived.Test.YtjpkeofpcpaoaaaJobR
namespace Go.Proofs.Ytjpkeofpcpaoaaa.RepC
open Go.RowKit RowC ValC SpanC KeptC
set_option linter.unusedVariables false
set_option linter.unusedSimpArgs false

theorem wi_at (n lo hi : Int) {b : Bool} (hb : isB n lo hi = b) (w : World) :
    Calls Try.prog 63 #[.int .i64 n, .int .i64 lo, .int .i64 hi] w fun e w' => e = .returned (.bool b) ∧ w = w' := by
  subst hb
  exact is_impl n lo hi w
theorem ti_at (n : Int) {b : Bool} (hb : isB n 0 1000000 = b) (w : World) :
    Calls Try.prog 122 #[.int .i64 n] w fun e w' => e = .returned (.bool b) ∧ w = w' := by
  subst hb
  exact time_impl n w
theorem labi_below (l s : Int) {b : Bool} (hb : LabC.rB l s = b) (w : World) :
    Calls Try.prog 89 #[.agg #[.int .i64 l, .int .i64 s]] w fun e w' => e = .returned (.bool b) ∧ Below w.heap.size w w' := by
  subst hb
  exact (LabC.right_impl l s w).mono fun _ _ ⟨h1, h2⟩ => ⟨h1, by rw [← h2]; exact (Below.refl _ _).alloc (Nat.le_refl _) _⟩

theorem isB_io {n lo hi : Int} : isB n lo hi = true ↔ lo ≤ n ∧ n ≤ hi := isB_iff n lo hi
theorem okN_first {L : List Int} {x : Int} (hx : L[0]? = some x) : isB x 0 5 = true ↔ okN L 0 :=
  ⟨fun h y hy => by rw [hx] at hy; obtain rfl := Option.some.inj hy; exact ⟨h, fun h => absurd h (Nat.lt_irrefl _)⟩, fun h => (h x hx).1⟩
theorem okN_next {L : List Int} {k : Nat} {x y : Int} (hx : L[k]? = some x) (hr : isB x 0 5 = true) (hy : L[k + 1]? = some y) : isB y (x + 1) 5 = true ↔ okN L (k + 1) := by
  rw [isB_io] at hr ⊢
  constructor
  · intro h z hz
    rw [hy] at hz
    obtain rfl := Option.some.inj hz
    refine ⟨isB_io.2 (by omega), fun _ u hu => ?_⟩
    rw [Nat.add_sub_cancel, hx] at hu
    obtain rfl := Option.some.inj hu
    omega
  · intro h
    obtain ⟨h1, h2⟩ := h y hy
    have h3 := h2 (Nat.succ_pos _) x (by rw [Nat.add_sub_cancel]; exact hx)
    rw [isB_io] at h1
    omega

set_option maxRecDepth 100000 in
set_option maxHeartbeats 3200000 in
theorem nodes_impl {L : List Int} {a : Option Addr} {cap : Nat} {W : World} (h : RdSl I W W.heap.size L a cap) :
    Calls Try.prog 128 #[.slice a L.length cap] W (ResB (NodesR L) W) := by
  have hn : L.length ≤ 9223372036854775807 := by have h1 := h.1; have h2 := h.2.1; unfold maxLen at h2; omega
  have H := Lib.hid h
  clear h
  go_enter Try.func128, Try.ntmps128
  go_wp2
  go_loopw [3, 8] (fun l i wr => ∃ k : Nat, k ≤ L.length ∧ i = .int .i64 k ∧ (∃ m : Int, l = .int .i64 m ∧ 0 ≤ m ∧ m ≤ 6 ∧ Hid (∀ x, L[k]? = some x → (isB x m 5 = true ↔ okN L k))) ∧ Hid (∀ j, j < k → okN L j) ∧ Below W.heap.size W wr) (fun _ i _ => L.length - (intOf i).toNat)
  case atStart => exact ⟨0, Nat.zero_le _, rfl, ⟨0, rfl, by omega, by omega, Lib.hid fun x hx => okN_first hx⟩, Lib.hid fun j h => absurd h (Nat.not_lt_zero _), Below.refl _ _⟩
  case round =>
    obtain ⟨k, hk, rfl, ⟨m, rfl, hm0, hm6, HM⟩, HA, hB⟩ := hrel
    have HB := Lib.hid hB
    have hsz := hB.size
    by_cases hlt : k < L.length
    · obtain ⟨x, hx⟩ := el_some hlt
      have HX := Lib.hid hx
      obtain ⟨g, o, us, rfl, hg, hu, hr⟩ := (H.out.below I_ok hB).at_ hx
      obtain rfl : us = [_] := hr
      have hc0 : wr.cell? ⟨g, o + k, none⟩ = some (.int .i64 x) := by simpa [show I.size = 1 from rfl] using hu 0 _ rfl
      have hi0 : (0 : Int) ≤ (k : Int) := Int.natCast_nonneg _
      have hi1 : (k : Int) < (L.length : Int) := by omega
      clear hB hx hu
      obtain ⟨b, hb⟩ : ∃ b, isB x m 5 = b := ⟨_, rfl⟩
      have HR := Lib.hid hb
      clear hb
      go_wp2_with fail
      refine (wi_at _ _ _ HR.out _).mono ?_
      rintro e w2 ⟨rfl, rfl⟩
      cases b with
      | false =>
        have Hno := Lib.hid (show ¬ NodesR L from fun h => by have := (HM.out x HX.out).2 (h k hlt); rw [HR.out] at this; cases this)
        go_wp2
        go_ret
        exact resB_no Hno.out HB.out
      | true =>
        have hxb : m ≤ x ∧ x ≤ 5 := isB_io.1 HR.out
        have hx1 : IntKind.i64.wrap (x + 1) = x + 1 := IntWalk.i64_in _ (by omega)
        have hx0 := hxb.1
        have hx5 := hxb.2
        clear hxb
        have HOK := Lib.hid (all_step HA.out ((HM.out x HX.out).1 HR.out))
        have HN := Lib.hid (fun y (hy : L[k + 1]? = some y) => okN_next HX.out (isB_io.2 ⟨by omega, hx5⟩) hy)
        go_wp2
        go_roundw
        case rel => exact ⟨k + 1, by omega, by go_num, ⟨x + 1, by go_num, by omega, by omega, HN⟩, HOK, HB.out⟩
        case measure => simp [intOf]; omega
    · have Hy := Lib.hid (show NodesR L from fun i hi => HA.out i (by omega))
      clear hB
      go_wp2
      go_ret
      exact resB_yes Hy.out HB.out

set_option maxHeartbeats 1600000 in
theorem wish_impl {x3 x4 x5 : Int} {b : Bool} (hb : (isB x3 1 6 && (isB x4 1 20 && isB x5 0 9)) = b) (W : World) : Calls Try.prog 90 #[.int .i64 x3, .int .i64 x4, .int .i64 x5] W fun e w' => e = .returned (.bool b) ∧ W = w' := by
  obtain ⟨b1, h1⟩ : ∃ b, isB x3 1 6 = b := ⟨_, rfl⟩
  obtain ⟨b2, h2⟩ : ∃ b, isB x4 1 20 = b := ⟨_, rfl⟩
  obtain ⟨b3, h3⟩ : ∃ b, isB x5 0 9 = b := ⟨_, rfl⟩
  rw [h1, h2, h3] at hb
  subst hb
  have H1 := Lib.hid h1
  have H2 := Lib.hid h2
  have H3 := Lib.hid h3
  clear h1 h2 h3
  go_enter Try.func90, Try.ntmps90
  go_wp2_with fail
  refine (wi_at _ _ _ H1.out _).mono ?_
  rintro e w2 ⟨rfl, rfl⟩
  cases b1 with
  | false =>
    go_wp2
    go_ret
    exact ⟨rfl, rfl⟩
  | true =>
    go_wp2_with fail
    refine (wi_at _ _ _ H2.out _).mono ?_
    rintro e w2 ⟨rfl, rfl⟩
    cases b2 with
    | false =>
      go_wp2
      go_ret
      exact ⟨rfl, rfl⟩
    | true =>
      go_wp2_with fail
      refine (wi_at _ _ _ H3.out _).mono ?_
      rintro e w2 ⟨rfl, rfl⟩
      go_wp2
      go_ret
      exact ⟨by simp, rfl⟩

def StateP (x3 x6 x7 : Int) (L : List Int) : Prop := (x6 = 2 ∧ isB x7 0 1000000 = true ∧ (L.length : Int) = x3 ∧ NodesR L) ∨ ((x6 = 1 ∨ x6 = 3 ∨ x6 = 4) ∧ x7 = 0 ∧ L.length = 0)

set_option maxRecDepth 100000 in
set_option maxHeartbeats 3200000 in
theorem state_impl {x0 x1 x2 x3 x4 x5 x6 x7 : Int} {L : List Int} {a : Option Addr} {c : Nat} {W : World} (h : RdSl I W W.heap.size L a c) : Calls Try.prog 91 #[.agg #[.int .i64 x0, .int .i64 x1, .int .i64 x2, .int .i64 x3, .int .i64 x4, .int .i64 x5, .int .i64 x6, .int .i64 x7, .slice a L.length c]] W (ResB (StateP x3 x6 x7 L) W) := by
  have hn : L.length ≤ 9223372036854775807 := by have h1 := h.1; have h2 := h.2.1; unfold maxLen at h2; omega
  have H := Lib.hid h
  clear h
  have HB0 := Lib.hid (show Below W.heap.size W (W.alloc (.cells #[.int .i64 x0, .int .i64 x1, .int .i64 x2, .int .i64 x3, .int .i64 x4, .int .i64 x5, .int .i64 x6, .int .i64 x7, .slice a L.length c] 45)) from (Below.refl _ _).alloc (Nat.le_refl _) _)
  have HP0 := Lib.hid (Blk.new W 45 #[.int .i64 x0, .int .i64 x1, .int .i64 x2, .int .i64 x3, .int .i64 x4, .int .i64 x5, .int .i64 x6, .int .i64 x7, .slice a L.length c])
  have hz0 : W.heap.size ≤ (W.alloc (.cells #[.int .i64 x0, .int .i64 x1, .int .i64 x2, .int .i64 x3, .int .i64 x4, .int .i64 x5, .int .i64 x6, .int .i64 x7, .slice a L.length c] 45)).heap.size := HB0.out.size
  obtain ⟨b6, h6⟩ : ∃ b, isB x7 0 1000000 = b := ⟨_, rfl⟩
  have H6 := Lib.hid h6
  clear h6
  by_cases h2 : x6 = 2
  · have h2' : (x6 == 2) = true := beq_iff_eq.2 h2
    have h1' : (x6 == 1) = false := beq_eq_false_iff_ne.2 (by omega)
    have h3' : (x6 == 3) = false := beq_eq_false_iff_ne.2 (by omega)
    have h4' : (x6 == 4) = false := beq_eq_false_iff_ne.2 (by omega)
    have HS := Lib.hid h2
    clear h2
    go_enter Try.func91, Try.ntmps91
    go_wp2_with fail
    refine (ti_at _ H6.out _).mono ?_
    rintro e w2 ⟨rfl, rfl⟩
    cases b6 with
    | false =>
      have HV := Lib.hid (show ¬ StateP x3 x6 x7 L from fun h => h.elim (fun h => by have h2 := h.2.1; rw [H6.out] at h2; cases h2) (fun h => by have := HS.out; omega))
      go_wp2
      go_ret
      exact resB_no HV.out HB0.out
    | true =>
      by_cases hl : (L.length : Int) = x3
      · have hl' : ((L.length : Int) == x3) = true := beq_iff_eq.2 hl
        have HL := Lib.hid hl
        clear hl
        go_wp2_with fail
        refine (nodes_impl ((H.out.below I_ok HB0.out).more I_ok hz0)).mono ?_
        intro e w3 h
        obtain ⟨b, rfl, hb, hw⟩ := resB_elim h
        have HB := Lib.hid (HB0.out.trans (hw.mono hz0))
        have HV := Lib.hid (show (b = true ↔ StateP x3 x6 x7 L) from hb.trans ⟨fun hN => Or.inl ⟨HS.out, H6.out, HL.out, hN⟩, fun h => h.elim (fun h => h.2.2.2) (fun h => by have := HS.out; omega)⟩)
        clear h hb hw
        go_wp2
        go_ret
        exact ⟨b, rfl, HV.out, HB.out⟩
      · have hl' : ((L.length : Int) == x3) = false := beq_eq_false_iff_ne.2 hl
        have HL := Lib.hid hl
        clear hl
        have HV := Lib.hid (show ¬ StateP x3 x6 x7 L from fun h => h.elim (fun h => HL.out h.2.2.1) (fun h => by have := HS.out; omega))
        go_wp2
        go_ret
        exact resB_no HV.out HB0.out
  · have h2' : (x6 == 2) = false := beq_eq_false_iff_ne.2 h2
    have N2 := Lib.hid h2
    by_cases h1 : x6 = 1
    · have h1' : (x6 == 1) = true := beq_iff_eq.2 h1
      have h3' : (x6 == 3) = false := beq_eq_false_iff_ne.2 (by omega)
      have h4' : (x6 == 4) = false := beq_eq_false_iff_ne.2 (by omega)
      have HS := Lib.hid h1
      clear h1 h2
      by_cases h7 : x7 = 0
      · have h7' : (x7 == 0) = true := beq_iff_eq.2 h7
        have H7 := Lib.hid h7
        clear h7
        by_cases hl : L.length = 0
        · have hl' : ((L.length : Int) == 0) = true := beq_iff_eq.2 (by omega)
          have HL := Lib.hid hl
          clear hl
          have HV := Lib.hid (show StateP x3 x6 x7 L from Or.inr ⟨Or.inl HS.out, H7.out, HL.out⟩)
          go_enter Try.func91, Try.ntmps91
          go_wp2
          go_ret
          exact resB_yes HV.out HB0.out
        · have hl' : ((L.length : Int) == 0) = false := beq_eq_false_iff_ne.2 (by omega)
          have HL := Lib.hid hl
          clear hl
          have HV := Lib.hid (show ¬ StateP x3 x6 x7 L from fun h => h.elim (fun h => N2.out h.1) (fun h => HL.out h.2.2))
          go_enter Try.func91, Try.ntmps91
          go_wp2
          go_ret
          exact resB_no HV.out HB0.out
      · have h7' : (x7 == 0) = false := beq_eq_false_iff_ne.2 h7
        have H7 := Lib.hid h7
        clear h7
        have HV := Lib.hid (show ¬ StateP x3 x6 x7 L from fun h => h.elim (fun h => N2.out h.1) (fun h => H7.out h.2.1))
        go_enter Try.func91, Try.ntmps91
        go_wp2
        go_ret
        exact resB_no HV.out HB0.out
    have h1' : (x6 == 1) = false := beq_eq_false_iff_ne.2 h1
    by_cases h3 : x6 = 3
    · have h3' : (x6 == 3) = true := beq_iff_eq.2 h3
      have h4' : (x6 == 4) = false := beq_eq_false_iff_ne.2 (by omega)
      have HS := Lib.hid h3
      clear h3 h2
      by_cases h7 : x7 = 0
      · have h7' : (x7 == 0) = true := beq_iff_eq.2 h7
        have H7 := Lib.hid h7
        clear h7
        by_cases hl : L.length = 0
        · have hl' : ((L.length : Int) == 0) = true := beq_iff_eq.2 (by omega)
          have HL := Lib.hid hl
          clear hl
          have HV := Lib.hid (show StateP x3 x6 x7 L from Or.inr ⟨Or.inr (Or.inl HS.out), H7.out, HL.out⟩)
          go_enter Try.func91, Try.ntmps91
          go_wp2
          go_ret
          exact resB_yes HV.out HB0.out
        · have hl' : ((L.length : Int) == 0) = false := beq_eq_false_iff_ne.2 (by omega)
          have HL := Lib.hid hl
          clear hl
          have HV := Lib.hid (show ¬ StateP x3 x6 x7 L from fun h => h.elim (fun h => N2.out h.1) (fun h => HL.out h.2.2))
          go_enter Try.func91, Try.ntmps91
          go_wp2
          go_ret
          exact resB_no HV.out HB0.out
      · have h7' : (x7 == 0) = false := beq_eq_false_iff_ne.2 h7
        have H7 := Lib.hid h7
        clear h7
        have HV := Lib.hid (show ¬ StateP x3 x6 x7 L from fun h => h.elim (fun h => N2.out h.1) (fun h => H7.out h.2.1))
        go_enter Try.func91, Try.ntmps91
        go_wp2
        go_ret
        exact resB_no HV.out HB0.out
    have h3' : (x6 == 3) = false := beq_eq_false_iff_ne.2 h3
    by_cases h4 : x6 = 4
    · have h4' : (x6 == 4) = true := beq_iff_eq.2 h4
      have HS := Lib.hid h4
      clear h4 h2
      by_cases h7 : x7 = 0
      · have h7' : (x7 == 0) = true := beq_iff_eq.2 h7
        have H7 := Lib.hid h7
        clear h7
        by_cases hl : L.length = 0
        · have hl' : ((L.length : Int) == 0) = true := beq_iff_eq.2 (by omega)
          have HL := Lib.hid hl
          clear hl
          have HV := Lib.hid (show StateP x3 x6 x7 L from Or.inr ⟨Or.inr (Or.inr HS.out), H7.out, HL.out⟩)
          go_enter Try.func91, Try.ntmps91
          go_wp2
          go_ret
          exact resB_yes HV.out HB0.out
        · have hl' : ((L.length : Int) == 0) = false := beq_eq_false_iff_ne.2 (by omega)
          have HL := Lib.hid hl
          clear hl
          have HV := Lib.hid (show ¬ StateP x3 x6 x7 L from fun h => h.elim (fun h => N2.out h.1) (fun h => HL.out h.2.2))
          go_enter Try.func91, Try.ntmps91
          go_wp2
          go_ret
          exact resB_no HV.out HB0.out
      · have h7' : (x7 == 0) = false := beq_eq_false_iff_ne.2 h7
        have H7 := Lib.hid h7
        clear h7
        have HV := Lib.hid (show ¬ StateP x3 x6 x7 L from fun h => h.elim (fun h => N2.out h.1) (fun h => H7.out h.2.1))
        go_enter Try.func91, Try.ntmps91
        go_wp2
        go_ret
        exact resB_no HV.out HB0.out
    have h4' : (x6 == 4) = false := beq_eq_false_iff_ne.2 h4
    have HS := Lib.hid (show ¬ (x6 = 1 ∨ x6 = 3 ∨ x6 = 4) from by omega)
    clear h1 h2 h3 h4
    have HV := Lib.hid (show ¬ StateP x3 x6 x7 L from fun h => h.elim (fun h => N2.out h.1) (fun h => HS.out h.1))
    go_enter Try.func91, Try.ntmps91
    go_wp2
    go_ret
    exact resB_no HV.out HB0.out

theorem jobR_of (x0 x1 x2 x3 x4 x5 x6 x7 : Int) (L : List Int) : JobR x0 x1 x2 x3 x4 x5 x6 x7 L ↔ LabC.rB x0 x1 = true ∧ isB x2 1 3 = true ∧ (isB x3 1 6 && (isB x4 1 20 && isB x5 0 9)) = true ∧ StateP x3 x6 x7 L := by
  unfold JobR StateP
  simp only [Bool.and_eq_true]
  constructor
  · rintro ⟨h0, h1, h2, h3, h4, h5, h6, h7⟩
    refine ⟨h0, h1, ⟨h2, h3, h4⟩, ?_⟩
    by_cases h : x6 = 2
    · exact Or.inl ⟨h, h6 h⟩
    · rw [isB_io] at h5
      exact Or.inr ⟨by omega, h7 h⟩
  · rintro ⟨h0, h1, ⟨h2, h3, h4⟩, h⟩
    refine ⟨h0, h1, h2, h3, h4, ?_, fun e => ?_, fun e => ?_⟩
    · rw [isB_io]
      omega
    · rcases h with h | h
      · exact h.2
      · omega
    · rcases h with h | h
      · exact absurd h.1 e
      · exact h.2

set_option maxRecDepth 100000 in
set_option maxHeartbeats 3200000 in
theorem jobright_impl {x0 x1 x2 x3 x4 x5 x6 x7 : Int} {L : List Int} {a : Option Addr} {c : Nat} {W : World} (h : RdSl I W W.heap.size L a c) : Calls Try.prog 32 #[.agg #[.int .i64 x0, .int .i64 x1, .int .i64 x2, .int .i64 x3, .int .i64 x4, .int .i64 x5, .int .i64 x6, .int .i64 x7, .slice a L.length c]] W (ResB (JobR x0 x1 x2 x3 x4 x5 x6 x7 L) W) := by
  have hn : L.length ≤ 9223372036854775807 := by have h1 := h.1; have h2 := h.2.1; unfold maxLen at h2; omega
  have H := Lib.hid h
  clear h
  have HB0 := Lib.hid (show Below W.heap.size W (W.alloc (.cells #[.int .i64 x0, .int .i64 x1, .int .i64 x2, .int .i64 x3, .int .i64 x4, .int .i64 x5, .int .i64 x6, .int .i64 x7, .slice a L.length c] 45)) from (Below.refl _ _).alloc (Nat.le_refl _) _)
  have HP0 := Lib.hid (Blk.new W 45 #[.int .i64 x0, .int .i64 x1, .int .i64 x2, .int .i64 x3, .int .i64 x4, .int .i64 x5, .int .i64 x6, .int .i64 x7, .slice a L.length c])
  have hz0 : W.heap.size ≤ (W.alloc (.cells #[.int .i64 x0, .int .i64 x1, .int .i64 x2, .int .i64 x3, .int .i64 x4, .int .i64 x5, .int .i64 x6, .int .i64 x7, .slice a L.length c] 45)).heap.size := HB0.out.size
  have JO := Lib.hid (jobR_of x0 x1 x2 x3 x4 x5 x6 x7 L)
  obtain ⟨b0, h0⟩ : ∃ b, LabC.rB x0 x1 = b := ⟨_, rfl⟩
  obtain ⟨b1, h1⟩ : ∃ b, isB x2 1 3 = b := ⟨_, rfl⟩
  obtain ⟨b2, h2⟩ : ∃ b, (isB x3 1 6 && (isB x4 1 20 && isB x5 0 9)) = b := ⟨_, rfl⟩
  have H0 := Lib.hid h0
  have H1 := Lib.hid h1
  have H2 := Lib.hid h2
  clear h0 h1 h2
  go_enter Try.func32, Try.ntmps32
  go_wp2_with fail
  refine (labi_below x0 x1 H0.out _).mono ?_
  rintro e w1 ⟨rfl, hb⟩
  have HP1 := Lib.hid (HP0.out.call hb)
  have HB1 := Lib.hid (HB0.out.trans (hb.mono hz0))
  have hz1 : W.heap.size ≤ w1.heap.size := HB1.out.size
  clear hb
  have p0 := HP1.out.at_ 0 rfl
  have p1 := HP1.out.at_ 1 rfl
  have p2 := HP1.out.at_ 2 rfl
  have p3 := HP1.out.at_ 3 rfl
  have p4 := HP1.out.at_ 4 rfl
  have p5 := HP1.out.at_ 5 rfl
  have p6 := HP1.out.at_ 6 rfl
  have p7 := HP1.out.at_ 7 rfl
  have p8 := HP1.out.at_ 8 rfl
  clear HP0 HB0
  cases b0 with
  | false =>
    have HV := Lib.hid (show ¬ JobR x0 x1 x2 x3 x4 x5 x6 x7 L from fun h => by have h2 := (JO.out.1 h).1; rw [H0.out] at h2; cases h2)
    go_wp2
    go_ret
    exact resB_no HV.out HB1.out
  | true =>
    go_wp2_with fail
    refine (wi_at _ _ _ H1.out _).mono ?_
    rintro e w2 ⟨rfl, rfl⟩
    cases b1 with
    | false =>
      have HV := Lib.hid (show ¬ JobR x0 x1 x2 x3 x4 x5 x6 x7 L from fun h => by have h2 := (JO.out.1 h).2.1; rw [H1.out] at h2; cases h2)
      go_wp2
      go_ret
      exact resB_no HV.out HB1.out
    | true =>
      go_wp2_with fail
      refine (wish_impl H2.out _).mono ?_
      rintro e w2 ⟨rfl, rfl⟩
      cases b2 with
      | false =>
        have HV := Lib.hid (show ¬ JobR x0 x1 x2 x3 x4 x5 x6 x7 L from fun h => by have h2 := (JO.out.1 h).2.2.1; rw [H2.out] at h2; cases h2)
        go_wp2
        go_ret
        exact resB_no HV.out HB1.out
      | true =>
        go_wp2_with fail
        refine (state_impl ((H.out.below I_ok HB1.out).more I_ok hz1)).mono ?_
        intro e w3 h
        obtain ⟨b, rfl, hb, hw⟩ := resB_elim h
        have HB := Lib.hid (HB1.out.trans (hw.mono hz1))
        have HV := Lib.hid (show (b = true ↔ JobR x0 x1 x2 x3 x4 x5 x6 x7 L) from hb.trans ⟨fun hS => JO.out.2 ⟨H0.out, H1.out, H2.out, hS⟩, fun h => (JO.out.1 h).2.2.2⟩)
        clear h hb hw
        go_wp2
        go_ret
        exact ⟨b, rfl, HV.out, HB.out⟩
end Go.Proofs.Ytjpkeofpcpaoaaa.RepC
