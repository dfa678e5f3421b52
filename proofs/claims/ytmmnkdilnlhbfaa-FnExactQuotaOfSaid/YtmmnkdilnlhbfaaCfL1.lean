/- slices.Grow, slices.Concat of rows of labels: contracts. -/
import Derived.Test.YtmmnkdilnlhbfaaFlatB
import Derived.Test.YtmmnkdilnlhbfaaPoolM
import Derived.Test.YtmmnkdilnlhbfaaResB
import Derived.WalkLawsBesides
namespace Go.Proofs.Ytmmnkdilnlhbfaa.RepC
open Go.RowKit RowC ValC SpanC KeptC
set_option linter.unusedVariables false
set_option linter.unusedSimpArgs false

/-- a row of the call's own that may grow -/
def NewB (L : List D_Label) (W : World) (e : Ending) (w' : World) : Prop := ∃ v lo, e = .returned v ∧ W.heap.size ≤ lo ∧ lo ≤ w'.heap.size ∧ BRow w' lo v L ∧ Below W.heap.size W w'
theorem newB_elim {L : List D_Label} {W : World} {e : Ending} {w' : World} (h : NewB L W e w') : ∃ v lo, e = .returned v ∧ W.heap.size ≤ lo ∧ lo ≤ w'.heap.size ∧ BRow w' lo v L ∧ Below W.heap.size W w' := h
theorem gmvB {L : List D_Label} {a : Option Addr} {c : Nat} {w w' : World} (h : RdSl R_Label w w.heap.size L a c) (hb : Below w.heap.size w w') : RdSl R_Label w' w'.heap.size L a c := (h.below R_Label_ok hb).more R_Label_ok hb.size
set_option maxRecDepth 100000 in
set_option maxHeartbeats 1600000 in
theorem growb_impl {n : Nat} {z : Int} (hz : z = (n : Int)) (hn : n ≤ 1099511627776) {W : World} : Calls Try.prog 135 #[.slice none 0 0, .int .i64 z] W (NewB [] W) := by
  subst hz
  by_cases h0 : n = 0
  · subst h0
    go_enter Try.func135, Try.ntmps135
    go_wp2
    go_ret
    exact ⟨_, W.heap.size, rfl, Nat.le_refl _, Nat.le_refl _, FRow.none_ _ _ _ _ _, Below.refl _ _⟩
  · obtain ⟨c, w', hr, hrow, hb, hle⟩ := BRow.grown (w := W) (n := n) (by omega) hn
    have HR := Lib.hid hr
    have HW := Lib.hid hrow
    have HB := Lib.hid hb
    have hw : IntKind.i64.wrap (n : Int) = (n : Int) := IntWalk.i64_in _ (by omega)
    have hp : decide ((n : Int) > 0) = true := decide_eq_true (by omega)
    have hp2 : decide (0 < n) = true := decide_eq_true (by omega)
    have hm : decide ((n : Int) < 0) = false := decide_eq_false (by omega)
    clear hr hrow hb
    go_enter Try.func135, Try.ntmps135
    go_wp2_with (at_builtin; refine Lib.wpList_append_run _ rfl (.tmp 20) (.tmp 21) _ _ rfl _ _ rfl rfl _ _ HR.out ?_)
    go_ret
    exact ⟨_, W.heap.size, rfl, Nat.le_refl _, HB.out.size, HW.out, HB.out⟩
theorem flatten_take {C : List (List D_Label)} {k : Nat} {x : List D_Label} (h : C[k]? = some x) : (C.take (k + 1)).flatten = (C.take k).flatten ++ x := by
  rw [List.take_add_one, h]; simp
theorem flatten_take_le (C : List (List D_Label)) (k : Nat) : (C.take k).flatten.length ≤ C.flatten.length := by
  have : C.flatten = (C.take k).flatten ++ (C.drop k).flatten := by rw [← List.flatten_append, List.take_append_drop]
  rw [this, List.length_append]; omega
theorem sizeSL1 : (Sl R_Label).size = 1 := rfl
set_option maxRecDepth 100000 in
set_option maxHeartbeats 3200000 in
theorem concat_labs {C : List (List D_Label)} {ca : Option Addr} {cc : Nat} {W : World} (hn : C.flatten.length ≤ 1073741824) (hC : RdSl (Sl R_Label) W W.heap.size C ca cc) :
    Calls Try.prog 119 #[.slice ca C.length cc] W (NewB C.flatten W) := by
  have hcn : C.length ≤ 9223372036854775807 := by have h1 := hC.1; have h2 := hC.2.1; unfold maxLen at h2; omega
  have HC := Lib.hid hC
  have HN := Lib.hid hn
  clear hC hn
  go_enter Try.func119, Try.ntmps119
  go_wp2
  go_loopw [3, 11] (fun s i wr => ∃ k m : Nat, k ≤ C.length ∧ i = .int .i64 k ∧ s = .int .i64 m ∧ Hid (m = (C.take k).flatten.length) ∧ Below W.heap.size W wr) (fun _ i _ => C.length - (intOf i).toNat)
  case atStart => exact ⟨0, 0, Nat.zero_le _, rfl, rfl, Lib.hid (by simp), Below.refl _ _⟩
  case round =>
    obtain ⟨k, m, hk, rfl, rfl, HM, hB⟩ := hrel
    have HB := Lib.hid hB
    have hsz := hB.size
    have hm := flatten_take_le C k
    rw [← HM.out] at hm
    have hm2 : m ≤ 1073741824 := Nat.le_trans hm HN.out
    clear hm
    by_cases hlt : k < C.length
    · have hdl : decide ((k : Int) < (C.length : Int)) = true := decide_eq_true (by omega)
      obtain ⟨x, hx⟩ := el_some hlt
      have HX := Lib.hid hx
      obtain ⟨g, o, us, rfl, hg, hu, hr⟩ := (HC.out.below (Sl_ok R_Label_ok) hB).at_ hx
      obtain ⟨a1, c1, rfl, k_x⟩ := hr
      have e0 : wr.cell? ⟨g, o + k, none⟩ = some (.slice a1 x.length c1) := by simpa [sizeSL1] using hu 0 _ rfl
      have hi0 : (0 : Int) ≤ (k : Int) := Int.natCast_nonneg _
      have hi1 : (k : Int) < (C.length : Int) := by omega
      have hft := flatten_take hx
      have HM2 := Lib.hid (show m + x.length = (C.take (k + 1)).flatten.length from by rw [hft, List.length_append, HM.out])
      have hle := flatten_take_le C (k + 1)
      rw [← HM2.out] at hle
      have hle2 : m + x.length ≤ 1073741824 := Nat.le_trans hle HN.out
      have hw1 : IntKind.i64.wrap ((m : Int) + (x.length : Int)) = (m : Int) + (x.length : Int) := IntWalk.i64_in _ (by omega)
      have hd1 : decide ((m : Int) + (x.length : Int) < 0) = false := decide_eq_false (by omega)
      clear hB hx hu k_x hft hle
      go_wp2
      go_roundw
      case rel => exact ⟨k + 1, m + x.length, by omega, by go_num, by go_num, HM2, HB.out⟩
      case measure => simp [intOf]; omega
    · have hdl : decide ((k : Int) < (C.length : Int)) = false := decide_eq_false (by omega)
      have HT := Lib.hid (show C.take k = C from List.take_of_length_le (by omega))
      clear hB
      go_wp2_with fail
      refine (growb_impl (n := m) rfl (by omega)).mono ?_
      intro e w1 h
      obtain ⟨v, lo, rfl, hlo, hlw, hrow, hb⟩ := newB_elim h
      have HB1 := Lib.hid (HB.out.trans (hb.mono hsz))
      have hz1 := HB1.out.size
      have HV := Lib.hid hrow
      have hlo0 : W.heap.size ≤ lo := by omega
      clear h hrow hb
      go_wp2
      go_loopw [6, 27] (fun v i wr => ∃ k lo : Nat, k ≤ C.length ∧ i = .int .i64 k ∧ W.heap.size ≤ lo ∧ lo ≤ wr.heap.size ∧ Hid (BRow wr lo v (C.take k).flatten) ∧ Below W.heap.size W wr) (fun _ i _ => C.length - (intOf i).toNat)
      case atStart => exact ⟨0, lo, Nat.zero_le _, rfl, hlo0, hlw, Lib.hid (by simpa using HV.out), HB1.out⟩
      case round =>
        obtain ⟨k, lo, hk, rfl, hl1, hl2, HV, hB⟩ := hrel
        have HB := Lib.hid hB
        have hsz := hB.size
        by_cases hlt : k < C.length
        · have hdl : decide ((k : Int) < (C.length : Int)) = true := decide_eq_true (by omega)
          obtain ⟨x, hx⟩ := el_some hlt
          obtain ⟨g, o, us, rfl, hg, hu, hr⟩ := (HC.out.below (Sl_ok R_Label_ok) hB).at_ hx
          obtain ⟨a1, c1, rfl, k_x⟩ := hr
          have e0 : wr.cell? ⟨g, o + k, none⟩ = some (.slice a1 x.length c1) := by simpa [sizeSL1] using hu 0 _ rfl
          have hi0 : (0 : Int) ≤ (k : Int) := Int.natCast_nonneg _
          have hi1 : (k : Int) < (C.length : Int) := by omega
          have hft := flatten_take hx
          have hle := flatten_take_le C (k + 1)
          rw [hft, List.length_append] at hle
          have hle2 := Nat.le_trans hle HN.out
          obtain ⟨va, vc, rfl⟩ := HV.out.isSlice
          obtain ⟨a', c', w2, hrn, hrow2, hb2⟩ := BRow.more HV.out (k_x.more R_Label_ok hsz) hl2 (by omega)
          have HR := Lib.hid hrn
          have HW2 := Lib.hid (show BRow w2 lo _ (C.take (k + 1)).flatten from by rw [hft]; exact hrow2)
          have HB2 := Lib.hid (HB.out.trans (hb2.mono hl1))
          have hl3 := Nat.le_trans hl2 hb2.size
          clear hrn hrow2 hb2 hB hx hu k_x hft hle hle2
          go_wp2_with (at_builtin; refine wpList_app rfl (.tmp 31) (.tmp 32) 73 rfl rfl rfl HR.out ?_)
          go_roundw
          case rel => exact ⟨k + 1, lo, by omega, by go_num, hl1, hl3, Lib.hid (by simpa using HW2.out), HB2.out⟩
          case measure => simp [intOf]; omega
        · have hdl : decide ((k : Int) < (C.length : Int)) = false := decide_eq_false (by omega)
          have HT := Lib.hid (show C.take k = C from List.take_of_length_le (by omega))
          have HW2 := Lib.hid HV.out
          clear hB
          go_wp2
          go_ret
          exact ⟨_, lo, rfl, hl1, hl2, by have := HW2.out; rw [HT.out] at this; exact this, HB.out⟩
end Go.Proofs.Ytmmnkdilnlhbfaa.RepC
