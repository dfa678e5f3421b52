/- What the program asks of numbers, labels, nodes and wishes: contracts. -/
import Derived.Test.YtfmgjkmlnaeagaaJobN
import Derived.Test.YtfmgjkmlnaeagaaLab
import Derived.Test.YtfmgjkmlnaeagaaResB
import Derived.Test.YtfmgjkmlnaeagaaWiA
import Derived.Test.YtfmgjkmlnaeagaaSp
namespace Go.Proofs.Ytfmgjkmlnaeagaa.RepC
open Go.RowKit RowC ValC SpanC KeptC
set_option linter.unusedVariables false
set_option linter.unusedSimpArgs false

theorem ti_at (n : Int) {b : Bool} (hb : isB n 0 1000000 = b) (w : World) :
    Calls Try.prog 53 #[.int .i64 n] w fun e w' => e = .returned (.bool b) ∧ w = w' := by
  subst hb
  exact time_impl n w
theorem labi_below (l s : Int) {b : Bool} (hb : LabC.rB l s = b) (w : World) :
    Calls Try.prog 31 #[.agg #[.int .i64 l, .int .i64 s]] w fun e w' => e = .returned (.bool b) ∧ Below w.heap.size w w' := by
  subst hb
  exact (LabC.right_impl l s w).mono fun _ _ ⟨h1, h2⟩ => ⟨h1, by rw [← h2]; exact (Below.refl _ _).alloc (Nat.le_refl _) _⟩

theorem okN_first {L : List Int} {x : Int} (hx : L[0]? = some x) : isB x 0 5 = true ↔ okN L 0 :=
  ⟨fun h y hy => by rw [hx] at hy; obtain rfl := Option.some.inj hy; exact ⟨h, fun h => absurd h (Nat.lt_irrefl _)⟩, fun h => (h x hx).1⟩
theorem okN_next {L : List Int} {k : Nat} {x y : Int} (hx : L[k]? = some x) (hr : isB x 0 5 = true) (hy : L[k + 1]? = some y) : isB y (x + 1) 5 = true ↔ okN L (k + 1) := by
  rw [isB_io] at hr ⊢
  constructor
  · intro h z hz
    rw [hy] at hz
    obtain rfl := Option.some.inj hz
    refine ⟨isB_io.2 (by omega), fun _ u hu => ?_⟩
    rw [Nat.add_sub_cancel, hx] at hu
    obtain rfl := Option.some.inj hu
    omega
  · intro h
    obtain ⟨h1, h2⟩ := h y hy
    have h3 := h2 (Nat.succ_pos _) x (by rw [Nat.add_sub_cancel]; exact hx)
    rw [isB_io] at h1
    omega

set_option maxRecDepth 100000 in
set_option maxHeartbeats 3200000 in
theorem nodes_impl {L : List Int} {a : Option Addr} {cap : Nat} {W : World} (h : RdSl I W W.heap.size L a cap) :
    Calls Try.prog 54 #[.slice a L.length cap] W (ResB (NodesR L) W) := by
  have hn : L.length ≤ 9223372036854775807 := by have h1 := h.1; have h2 := h.2.1; unfold maxLen at h2; omega
  have H := Lib.hid h
  clear h
  go_enter Try.func54, Try.ntmps54
  go_wp2
  go_loopw [3, 8] (fun l i wr => ∃ k : Nat, k ≤ L.length ∧ i = .int .i64 k ∧ (∃ m : Int, l = .int .i64 m ∧ 0 ≤ m ∧ m ≤ 6 ∧ Hid (∀ x, L[k]? = some x → (isB x m 5 = true ↔ okN L k))) ∧ Hid (∀ j, j < k → okN L j) ∧ Below W.heap.size W wr) (fun _ i _ => L.length - (intOf i).toNat)
  case atStart => exact ⟨0, Nat.zero_le _, rfl, ⟨0, rfl, by omega, by omega, Lib.hid fun x hx => okN_first hx⟩, Lib.hid fun j h => absurd h (Nat.not_lt_zero _), Below.refl _ _⟩
  case round =>
    obtain ⟨k, hk, rfl, ⟨m, rfl, hm0, hm6, HM⟩, HA, hB⟩ := hrel
    have HB := Lib.hid hB
    have hsz := hB.size
    by_cases hlt : k < L.length
    · obtain ⟨x, hx⟩ := el_some hlt
      have HX := Lib.hid hx
      obtain ⟨g, o, us, rfl, hg, hu, hr⟩ := (H.out.below I_ok hB).at_ hx
      obtain rfl : us = [_] := hr
      have hc0 : wr.cell? ⟨g, o + k, none⟩ = some (.int .i64 x) := by simpa [show I.size = 1 from rfl] using hu 0 _ rfl
      have hi0 : (0 : Int) ≤ (k : Int) := Int.natCast_nonneg _
      have hi1 : (k : Int) < (L.length : Int) := by omega
      clear hB hx hu
      obtain ⟨b, hb⟩ : ∃ b, isB x m 5 = b := ⟨_, rfl⟩
      have HR := Lib.hid hb
      clear hb
      go_wp2_with fail
      refine (wi_at _ _ _ HR.out _).mono ?_
      rintro e w2 ⟨rfl, rfl⟩
      cases b with
      | false =>
        have Hno := Lib.hid (show ¬ NodesR L from fun h => by have := (HM.out x HX.out).2 (h k hlt); rw [HR.out] at this; cases this)
        go_wp2
        go_ret
        exact resB_no Hno.out HB.out
      | true =>
        have hxb : m ≤ x ∧ x ≤ 5 := isB_io.1 HR.out
        have hx1 : IntKind.i64.wrap (x + 1) = x + 1 := IntWalk.i64_in _ (by omega)
        have hx0 := hxb.1
        have hx5 := hxb.2
        clear hxb
        have HOK := Lib.hid (all_step HA.out ((HM.out x HX.out).1 HR.out))
        have HN := Lib.hid (fun y (hy : L[k + 1]? = some y) => okN_next HX.out (isB_io.2 ⟨by omega, hx5⟩) hy)
        go_wp2
        go_roundw
        case rel => exact ⟨k + 1, by omega, by go_num, ⟨x + 1, by go_num, by omega, by omega, HN⟩, HOK, HB.out⟩
        case measure => simp [intOf]; omega
    · have Hy := Lib.hid (show NodesR L from fun i hi => HA.out i (by omega))
      clear hB
      go_wp2
      go_ret
      exact resB_yes Hy.out HB.out

set_option maxHeartbeats 1600000 in
theorem wish_impl {x3 x4 x5 : Int} {b : Bool} (hb : (isB x3 1 6 && (isB x4 1 20 && isB x5 0 9)) = b) (W : World) : Calls Try.prog 33 #[.int .i64 x3, .int .i64 x4, .int .i64 x5] W fun e w' => e = .returned (.bool b) ∧ W = w' := by
  obtain ⟨b1, h1⟩ : ∃ b, isB x3 1 6 = b := ⟨_, rfl⟩
  obtain ⟨b2, h2⟩ : ∃ b, isB x4 1 20 = b := ⟨_, rfl⟩
  obtain ⟨b3, h3⟩ : ∃ b, isB x5 0 9 = b := ⟨_, rfl⟩
  rw [h1, h2, h3] at hb
  subst hb
  have H1 := Lib.hid h1
  have H2 := Lib.hid h2
  have H3 := Lib.hid h3
  clear h1 h2 h3
  go_enter Try.func33, Try.ntmps33
  go_wp2_with fail
  refine (wi_at _ _ _ H1.out _).mono ?_
  rintro e w2 ⟨rfl, rfl⟩
  cases b1 with
  | false =>
    go_wp2
    go_ret
    exact ⟨rfl, rfl⟩
  | true =>
    go_wp2_with fail
    refine (wi_at _ _ _ H2.out _).mono ?_
    rintro e w2 ⟨rfl, rfl⟩
    cases b2 with
    | false =>
      go_wp2
      go_ret
      exact ⟨rfl, rfl⟩
    | true =>
      go_wp2_with fail
      refine (wi_at _ _ _ H3.out _).mono ?_
      rintro e w2 ⟨rfl, rfl⟩
      go_wp2
      go_ret
      exact ⟨by simp, rfl⟩

end Go.Proofs.Ytfmgjkmlnaeagaa.RepC
