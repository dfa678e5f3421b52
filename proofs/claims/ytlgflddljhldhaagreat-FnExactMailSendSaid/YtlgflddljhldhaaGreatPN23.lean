/- Of this claim's texts the part 23: MlC MlPt MlPn MlPo CfV7. -/
import Derived.WalkLawsBesides
import Derived.Test.YtlgflddljhldhaaGreatPN21
section
namespace Go.Proofs.YtlgflddljhldhaaGreat.RepC
open Go.RowKit RowC ValC SpanC KeptC
set_option linter.unusedVariables false
set_option linter.unusedSimpArgs false
set_option maxRecDepth 100000
theorem IRw.more {w : World} {lo : Nat} {v : Value} {L M : List Int} {a : Option Addr} {cap : Nat} (h : IRw w lo v L) (hM : RdSl I w w.heap.size M a cap) (hlo : lo ≤ w.heap.size) (hL : L.length + M.length ≤ 17592186044416) :
    ∃ a' c' w', (Builtin.append_ #[70, 70] 70 #[v, .slice a M.length cap]).run Tryz.prog w = .ok (.slice a' (L ++ M).length c') w' ∧ IRw w' lo (.slice a' (L ++ M).length c') (L ++ M) ∧ Below lo w w' := by
  obtain ⟨i, hi', hz, hs, hby⟩ := infoIn
  exact FRow.more I_ok flat_In h Tryz.underlying70 hi' hz hs hby rfl (by decide) hM hlo (by unfold maxLen; omega) (by omega)
theorem IRw.grown {w : World} {n : Nat} (h0 : 0 < n) (hn : n ≤ 1099511627776) : ∃ c w', (Builtin.append_ #[70, 3] 70 #[.slice none 0 0, .int .i64 n]).run Tryz.prog w = .ok (.slice (some ⟨w.heap.size, 0, none⟩) n c) w' ∧ IRw w' w.heap.size (.slice (some ⟨w.heap.size, 0, none⟩) 0 c) [] ∧ Below w.heap.size w w' ∧ n ≤ c := by
  obtain ⟨i, hi', hz, hs, hby⟩ := infoIn
  have hge := grownCap_ge w n 0 2
  refine ⟨_, _, Lib.run_append_nil_zeros w 70 3 70 2 i _ .i64 .i64 Tryz.underlying70 Tryz.underlying3 hi' hz n h0 (by rw [hs]; decide) (by omega) (by rw [hby]; omega), ⟨⟨by simp, .inr ⟨w.heap.size, _, _, rfl, Nat.le_refl _, heap_alloc_new w.drew _, Nat.zero_le _, grownCap_le_maxLen _ _ _ _ (by unfold maxLen; omega), ?_, by simp⟩⟩, fun k hk => (by cases hk; exact ⟨Nat.le_refl _, by simp⟩)⟩, ((Below.refl _ _).drew).alloc (by simp) _, hge⟩
  rw [Array.size_append, size_zeroCells, size_zeroCells]
  show _ * 1 + _ * 1 = _ * 1
  omega
def NewI (L : List Int) (W : World) (e : Ending) (w' : World) : Prop := ∃ v lo, e = .returned v ∧ W.heap.size ≤ lo ∧ lo ≤ w'.heap.size ∧ IRw w' lo v L ∧ Below W.heap.size W w'
theorem newI_elim {L : List Int} {W : World} {e : Ending} {w' : World} (h : NewI L W e w') : ∃ v lo, e = .returned v ∧ W.heap.size ≤ lo ∧ lo ≤ w'.heap.size ∧ IRw w' lo v L ∧ Below W.heap.size W w' := h
set_option maxRecDepth 100000 in
set_option maxHeartbeats 1600000 in
theorem growI_impl {n : Nat} {z : Int} (hz : z = (n : Int)) (hn : n ≤ 1099511627776) {W : World} : Calls Tryz.prog 113 #[.slice none 0 0, .int .i64 z] W (NewI [] W) := by
  subst hz
  by_cases h0 : n = 0
  · subst h0
    go_enter Tryz.func113, Tryz.ntmps113
    go_wp2
    go_ret
    exact ⟨_, W.heap.size, rfl, Nat.le_refl _, Nat.le_refl _, FRow.none_ _ _ _ _ _, Below.refl _ _⟩
  · obtain ⟨c, w', hr, hrow, hb, hle⟩ := IRw.grown (w := W) (n := n) (by omega) hn
    have HR := Lib.hid hr
    have HW := Lib.hid hrow
    have HB := Lib.hid hb
    have hw : IntKind.i64.wrap (n : Int) = (n : Int) := IntWalk.i64_in _ (by omega)
    have hp : decide ((n : Int) > 0) = true := decide_eq_true (by omega)
    have hp2 : decide (0 < n) = true := decide_eq_true (by omega)
    have hm : decide ((n : Int) < 0) = false := decide_eq_false (by omega)
    clear hr hrow hb
    go_enter Tryz.func113, Tryz.ntmps113
    go_wp2_with (at_builtin; refine Lib.wpList_append_run _ rfl (.tmp 20) (.tmp 21) _ _ rfl _ _ rfl rfl _ _ HR.out ?_)
    go_ret
    exact ⟨_, W.heap.size, rfl, Nat.le_refl _, HB.out.size, HW.out, HB.out⟩
theorem flatI {C : List (List Int)} {k : Nat} {x : List Int} (h : C[k]? = some x) : (C.take (k + 1)).flatten = (C.take k).flatten ++ x := by
  rw [List.take_add_one, h]; simp
theorem flatI_le (C : List (List Int)) (k : Nat) : (C.take k).flatten.length ≤ C.flatten.length := by
  have : C.flatten = (C.take k).flatten ++ (C.drop k).flatten := by rw [← List.flatten_append, List.take_append_drop]
  rw [this, List.length_append]; omega
theorem sizeSI : (Sl I).size = 1 := rfl
set_option maxRecDepth 100000 in
set_option maxHeartbeats 3200000 in
theorem concatI {C : List (List Int)} {ca : Option Addr} {cc : Nat} {W : World} (hn : C.flatten.length ≤ 1073741824) (hC : RdSl (Sl I) W W.heap.size C ca cc) :
    Calls Tryz.prog 84 #[.slice ca C.length cc] W (NewI C.flatten W) := by
  have hcn : C.length ≤ 9223372036854775807 := by have h1 := hC.1; have h2 := hC.2.1; unfold maxLen at h2; omega
  have HC := Lib.hid hC
  have HN := Lib.hid hn
  clear hC hn
  go_enter Tryz.func84, Tryz.ntmps84
  go_wp2
  go_loopw [3, 11] (fun s i wr => ∃ k m : Nat, k ≤ C.length ∧ i = .int .i64 k ∧ s = .int .i64 m ∧ Hid (m = (C.take k).flatten.length) ∧ Below W.heap.size W wr) (fun _ i _ => C.length - (intOf i).toNat)
  case atStart => exact ⟨0, 0, Nat.zero_le _, rfl, rfl, Lib.hid (by simp), Below.refl _ _⟩
  case round =>
    obtain ⟨k, m, hk, rfl, rfl, HM, hB⟩ := hrel
    have HB := Lib.hid hB
    have hsz := hB.size
    have hm := flatI_le C k
    rw [← HM.out] at hm
    have hm2 : m ≤ 1073741824 := Nat.le_trans hm HN.out
    clear hm
    by_cases hlt : k < C.length
    · have hdl : decide ((k : Int) < (C.length : Int)) = true := decide_eq_true (by omega)
      obtain ⟨x, hx⟩ := el_some hlt
      have HX := Lib.hid hx
      obtain ⟨g, o, us, rfl, hg, hu, hr⟩ := (HC.out.below (Sl_ok I_ok) hB).at_ hx
      obtain ⟨a1, c1, rfl, k_x⟩ := hr
      have e0 : wr.cell? ⟨g, o + k, none⟩ = some (.slice a1 x.length c1) := by simpa [sizeSI] using hu 0 _ rfl
      have hi0 : (0 : Int) ≤ (k : Int) := Int.natCast_nonneg _
      have hi1 : (k : Int) < (C.length : Int) := by omega
      have hft := flatI hx
      have HM2 := Lib.hid (show m + x.length = (C.take (k + 1)).flatten.length from by rw [hft, List.length_append, HM.out])
      have hle := flatI_le C (k + 1)
      rw [← HM2.out] at hle
      have hle2 : m + x.length ≤ 1073741824 := Nat.le_trans hle HN.out
      have hw1 : IntKind.i64.wrap ((m : Int) + (x.length : Int)) = (m : Int) + (x.length : Int) := IntWalk.i64_in _ (by omega)
      have hd1 : decide ((m : Int) + (x.length : Int) < 0) = false := decide_eq_false (by omega)
      clear hB hx hu k_x hft hle
      go_wp2
      go_roundw
      case rel => exact ⟨k + 1, m + x.length, by omega, by go_num, by go_num, HM2, HB.out⟩
      case measure => simp [intOf]; omega
    · have hdl : decide ((k : Int) < (C.length : Int)) = false := decide_eq_false (by omega)
      have HT := Lib.hid (show C.take k = C from List.take_of_length_le (by omega))
      clear hB
      go_wp2_with fail
      refine (growI_impl (n := m) rfl (by omega)).mono ?_
      intro e w1 h
      obtain ⟨v, lo, rfl, hlo, hlw, hrow, hb⟩ := newI_elim h
      have HB1 := Lib.hid (HB.out.trans (hb.mono hsz))
      have hz1 := HB1.out.size
      have HV := Lib.hid hrow
      have hlo0 : W.heap.size ≤ lo := by omega
      clear h hrow hb
      go_wp2
      go_loopw [6, 27] (fun v i wr => ∃ k lo : Nat, k ≤ C.length ∧ i = .int .i64 k ∧ W.heap.size ≤ lo ∧ lo ≤ wr.heap.size ∧ Hid (IRw wr lo v (C.take k).flatten) ∧ Below W.heap.size W wr) (fun _ i _ => C.length - (intOf i).toNat)
      case atStart => exact ⟨0, lo, Nat.zero_le _, rfl, hlo0, hlw, Lib.hid (by simpa using HV.out), HB1.out⟩
      case round =>
        obtain ⟨k, lo, hk, rfl, hl1, hl2, HV, hB⟩ := hrel
        have HB := Lib.hid hB
        have hsz := hB.size
        by_cases hlt : k < C.length
        · have hdl : decide ((k : Int) < (C.length : Int)) = true := decide_eq_true (by omega)
          obtain ⟨x, hx⟩ := el_some hlt
          obtain ⟨g, o, us, rfl, hg, hu, hr⟩ := (HC.out.below (Sl_ok I_ok) hB).at_ hx
          obtain ⟨a1, c1, rfl, k_x⟩ := hr
          have e0 : wr.cell? ⟨g, o + k, none⟩ = some (.slice a1 x.length c1) := by simpa [sizeSI] using hu 0 _ rfl
          have hi0 : (0 : Int) ≤ (k : Int) := Int.natCast_nonneg _
          have hi1 : (k : Int) < (C.length : Int) := by omega
          have hft := flatI hx
          have hle := flatI_le C (k + 1)
          rw [hft, List.length_append] at hle
          have hle2 := Nat.le_trans hle HN.out
          obtain ⟨va, vc, rfl⟩ := HV.out.isSlice
          obtain ⟨a', c', w2, hrn, hrow2, hb2⟩ := IRw.more HV.out (k_x.more I_ok hsz) hl2 (by omega)
          have HR := Lib.hid hrn
          have HW2 := Lib.hid (show IRw w2 lo _ (C.take (k + 1)).flatten from by rw [hft]; exact hrow2)
          have HB2 := Lib.hid (HB.out.trans (hb2.mono hl1))
          have hl3 := Nat.le_trans hl2 hb2.size
          clear hrn hrow2 hb2 hB hx hu k_x hft hle hle2
          go_wp2_with (at_builtin; refine wpList_app rfl (.tmp 31) (.tmp 32) 70 rfl rfl rfl HR.out ?_)
          go_roundw
          case rel => exact ⟨k + 1, lo, by omega, by go_num, hl1, hl3, Lib.hid (by simpa using HW2.out), HB2.out⟩
          case measure => simp [intOf]; omega
        · have hdl : decide ((k : Int) < (C.length : Int)) = false := decide_eq_false (by omega)
          have HT := Lib.hid (show C.take k = C from List.take_of_length_le (by omega))
          have HW2 := Lib.hid HV.out
          clear hB
          go_wp2
          go_ret
          exact ⟨_, lo, rfl, hl1, hl2, by have := HW2.out; rw [HT.out] at this; exact this, HB.out⟩
theorem NRw.more {w : World} {lo : Nat} {v : Value} {L M : List D_Note} {a : Option Addr} {cap : Nat} (h : NRw w lo v L) (hM : RdSl R_Note w w.heap.size M a cap) (hlo : lo ≤ w.heap.size) (hL : L.length + M.length ≤ 8796093022208) :
    ∃ a' c' w', (Builtin.append_ #[71, 71] 71 #[v, .slice a M.length cap]).run Tryz.prog w = .ok (.slice a' (L ++ M).length c') w' ∧ NRw w' lo (.slice a' (L ++ M).length c') (L ++ M) ∧ Below lo w w' := by
  obtain ⟨i, hi', hz, hs, hby⟩ := infoNote
  exact FRow.more R_Note_ok flat_Note h Tryz.underlying71 hi' hz hs hby rfl (by decide) hM hlo (by unfold maxLen; omega) (by omega)
theorem NRw.grown {w : World} {n : Nat} (h0 : 0 < n) (hn : n ≤ 1099511627776) : ∃ c w', (Builtin.append_ #[71, 3] 71 #[.slice none 0 0, .int .i64 n]).run Tryz.prog w = .ok (.slice (some ⟨w.heap.size, 0, none⟩) n c) w' ∧ NRw w' w.heap.size (.slice (some ⟨w.heap.size, 0, none⟩) 0 c) [] ∧ Below w.heap.size w w' ∧ n ≤ c := by
  obtain ⟨i, hi', hz, hs, hby⟩ := infoNote
  have hge := grownCap_ge w n 0 75
  refine ⟨_, _, Lib.run_append_nil_zeros w 71 3 71 75 i _ .i64 .i64 Tryz.underlying71 Tryz.underlying3 hi' hz n h0 (by rw [hs]; decide) (by omega) (by rw [hby]; omega), ⟨⟨by simp, .inr ⟨w.heap.size, _, _, rfl, Nat.le_refl _, heap_alloc_new w.drew _, Nat.zero_le _, grownCap_le_maxLen _ _ _ _ (by unfold maxLen; omega), ?_, by simp⟩⟩, fun k hk => (by cases hk; exact ⟨Nat.le_refl _, by simp⟩)⟩, ((Below.refl _ _).drew).alloc (by simp) _, hge⟩
  rw [Array.size_append, size_zeroCells, size_zeroCells]
  show _ * 2 + _ * 2 = _
  rw [← Nat.add_mul]
  congr 1
  omega
def NewN (L : List D_Note) (W : World) (e : Ending) (w' : World) : Prop := ∃ v lo, e = .returned v ∧ W.heap.size ≤ lo ∧ lo ≤ w'.heap.size ∧ NRw w' lo v L ∧ Below W.heap.size W w'
theorem newN_elim {L : List D_Note} {W : World} {e : Ending} {w' : World} (h : NewN L W e w') : ∃ v lo, e = .returned v ∧ W.heap.size ≤ lo ∧ lo ≤ w'.heap.size ∧ NRw w' lo v L ∧ Below W.heap.size W w' := h
set_option maxRecDepth 100000 in
set_option maxHeartbeats 1600000 in
theorem growN_impl {n : Nat} {z : Int} (hz : z = (n : Int)) (hn : n ≤ 1099511627776) {W : World} : Calls Tryz.prog 114 #[.slice none 0 0, .int .i64 z] W (NewN [] W) := by
  subst hz
  by_cases h0 : n = 0
  · subst h0
    go_enter Tryz.func114, Tryz.ntmps114
    go_wp2
    go_ret
    exact ⟨_, W.heap.size, rfl, Nat.le_refl _, Nat.le_refl _, FRow.none_ _ _ _ _ _, Below.refl _ _⟩
  · obtain ⟨c, w', hr, hrow, hb, hle⟩ := NRw.grown (w := W) (n := n) (by omega) hn
    have HR := Lib.hid hr
    have HW := Lib.hid hrow
    have HB := Lib.hid hb
    have hw : IntKind.i64.wrap (n : Int) = (n : Int) := IntWalk.i64_in _ (by omega)
    have hp : decide ((n : Int) > 0) = true := decide_eq_true (by omega)
    have hp2 : decide (0 < n) = true := decide_eq_true (by omega)
    have hm : decide ((n : Int) < 0) = false := decide_eq_false (by omega)
    clear hr hrow hb
    go_enter Tryz.func114, Tryz.ntmps114
    go_wp2_with (at_builtin; refine Lib.wpList_append_run _ rfl (.tmp 20) (.tmp 21) _ _ rfl _ _ rfl rfl _ _ HR.out ?_)
    go_ret
    exact ⟨_, W.heap.size, rfl, Nat.le_refl _, HB.out.size, HW.out, HB.out⟩
theorem flatN {C : List (List D_Note)} {k : Nat} {x : List D_Note} (h : C[k]? = some x) : (C.take (k + 1)).flatten = (C.take k).flatten ++ x := by
  rw [List.take_add_one, h]; simp
theorem flatN_le (C : List (List D_Note)) (k : Nat) : (C.take k).flatten.length ≤ C.flatten.length := by
  have : C.flatten = (C.take k).flatten ++ (C.drop k).flatten := by rw [← List.flatten_append, List.take_append_drop]
  rw [this, List.length_append]; omega
theorem sizeSN : (Sl R_Note).size = 1 := rfl
set_option maxRecDepth 100000 in
set_option maxHeartbeats 3200000 in
theorem concatN {C : List (List D_Note)} {ca : Option Addr} {cc : Nat} {W : World} (hn : C.flatten.length ≤ 1073741824) (hC : RdSl (Sl R_Note) W W.heap.size C ca cc) :
    Calls Tryz.prog 85 #[.slice ca C.length cc] W (NewN C.flatten W) := by
  have hcn : C.length ≤ 9223372036854775807 := by have h1 := hC.1; have h2 := hC.2.1; unfold maxLen at h2; omega
  have HC := Lib.hid hC
  have HN := Lib.hid hn
  clear hC hn
  go_enter Tryz.func85, Tryz.ntmps85
  go_wp2
  go_loopw [3, 11] (fun s i wr => ∃ k m : Nat, k ≤ C.length ∧ i = .int .i64 k ∧ s = .int .i64 m ∧ Hid (m = (C.take k).flatten.length) ∧ Below W.heap.size W wr) (fun _ i _ => C.length - (intOf i).toNat)
  case atStart => exact ⟨0, 0, Nat.zero_le _, rfl, rfl, Lib.hid (by simp), Below.refl _ _⟩
  case round =>
    obtain ⟨k, m, hk, rfl, rfl, HM, hB⟩ := hrel
    have HB := Lib.hid hB
    have hsz := hB.size
    have hm := flatN_le C k
    rw [← HM.out] at hm
    have hm2 : m ≤ 1073741824 := Nat.le_trans hm HN.out
    clear hm
    by_cases hlt : k < C.length
    · have hdl : decide ((k : Int) < (C.length : Int)) = true := decide_eq_true (by omega)
      obtain ⟨x, hx⟩ := el_some hlt
      have HX := Lib.hid hx
      obtain ⟨g, o, us, rfl, hg, hu, hr⟩ := (HC.out.below (Sl_ok R_Note_ok) hB).at_ hx
      obtain ⟨a1, c1, rfl, k_x⟩ := hr
      have e0 : wr.cell? ⟨g, o + k, none⟩ = some (.slice a1 x.length c1) := by simpa [sizeSN] using hu 0 _ rfl
      have hi0 : (0 : Int) ≤ (k : Int) := Int.natCast_nonneg _
      have hi1 : (k : Int) < (C.length : Int) := by omega
      have hft := flatN hx
      have HM2 := Lib.hid (show m + x.length = (C.take (k + 1)).flatten.length from by rw [hft, List.length_append, HM.out])
      have hle := flatN_le C (k + 1)
      rw [← HM2.out] at hle
      have hle2 : m + x.length ≤ 1073741824 := Nat.le_trans hle HN.out
      have hw1 : IntKind.i64.wrap ((m : Int) + (x.length : Int)) = (m : Int) + (x.length : Int) := IntWalk.i64_in _ (by omega)
      have hd1 : decide ((m : Int) + (x.length : Int) < 0) = false := decide_eq_false (by omega)
      clear hB hx hu k_x hft hle
      go_wp2
      go_roundw
      case rel => exact ⟨k + 1, m + x.length, by omega, by go_num, by go_num, HM2, HB.out⟩
      case measure => simp [intOf]; omega
    · have hdl : decide ((k : Int) < (C.length : Int)) = false := decide_eq_false (by omega)
      have HT := Lib.hid (show C.take k = C from List.take_of_length_le (by omega))
      clear hB
      go_wp2_with fail
      refine (growN_impl (n := m) rfl (by omega)).mono ?_
      intro e w1 h
      obtain ⟨v, lo, rfl, hlo, hlw, hrow, hb⟩ := newN_elim h
      have HB1 := Lib.hid (HB.out.trans (hb.mono hsz))
      have hz1 := HB1.out.size
      have HV := Lib.hid hrow
      have hlo0 : W.heap.size ≤ lo := by omega
      clear h hrow hb
      go_wp2
      go_loopw [6, 27] (fun v i wr => ∃ k lo : Nat, k ≤ C.length ∧ i = .int .i64 k ∧ W.heap.size ≤ lo ∧ lo ≤ wr.heap.size ∧ Hid (NRw wr lo v (C.take k).flatten) ∧ Below W.heap.size W wr) (fun _ i _ => C.length - (intOf i).toNat)
      case atStart => exact ⟨0, lo, Nat.zero_le _, rfl, hlo0, hlw, Lib.hid (by simpa using HV.out), HB1.out⟩
      case round =>
        obtain ⟨k, lo, hk, rfl, hl1, hl2, HV, hB⟩ := hrel
        have HB := Lib.hid hB
        have hsz := hB.size
        by_cases hlt : k < C.length
        · have hdl : decide ((k : Int) < (C.length : Int)) = true := decide_eq_true (by omega)
          obtain ⟨x, hx⟩ := el_some hlt
          obtain ⟨g, o, us, rfl, hg, hu, hr⟩ := (HC.out.below (Sl_ok R_Note_ok) hB).at_ hx
          obtain ⟨a1, c1, rfl, k_x⟩ := hr
          have e0 : wr.cell? ⟨g, o + k, none⟩ = some (.slice a1 x.length c1) := by simpa [sizeSN] using hu 0 _ rfl
          have hi0 : (0 : Int) ≤ (k : Int) := Int.natCast_nonneg _
          have hi1 : (k : Int) < (C.length : Int) := by omega
          have hft := flatN hx
          have hle := flatN_le C (k + 1)
          rw [hft, List.length_append] at hle
          have hle2 := Nat.le_trans hle HN.out
          obtain ⟨va, vc, rfl⟩ := HV.out.isSlice
          obtain ⟨a', c', w2, hrn, hrow2, hb2⟩ := NRw.more HV.out (k_x.more R_Note_ok hsz) hl2 (by omega)
          have HR := Lib.hid hrn
          have HW2 := Lib.hid (show NRw w2 lo _ (C.take (k + 1)).flatten from by rw [hft]; exact hrow2)
          have HB2 := Lib.hid (HB.out.trans (hb2.mono hl1))
          have hl3 := Nat.le_trans hl2 hb2.size
          clear hrn hrow2 hb2 hB hx hu k_x hft hle hle2
          go_wp2_with (at_builtin; refine wpList_app rfl (.tmp 31) (.tmp 32) 71 rfl rfl rfl HR.out ?_)
          go_roundw
          case rel => exact ⟨k + 1, lo, by omega, by go_num, hl1, hl3, Lib.hid (by simpa using HW2.out), HB2.out⟩
          case measure => simp [intOf]; omega
        · have hdl : decide ((k : Int) < (C.length : Int)) = false := decide_eq_false (by omega)
          have HT := Lib.hid (show C.take k = C from List.take_of_length_le (by omega))
          have HW2 := Lib.hid HV.out
          clear hB
          go_wp2
          go_ret
          exact ⟨_, lo, rfl, hl1, hl2, by have := HW2.out; rw [HT.out] at this; exact this, HB.out⟩
end Go.Proofs.YtlgflddljhldhaaGreat.RepC
end
section
namespace Go.Proofs.YtlgflddljhldhaaGreat.RepC
open Go.RowKit RowC ValC
set_option linter.unusedVariables false
set_option linter.unusedSimpArgs false
set_option maxRecDepth 100000
theorem Row.put {α : Type} {E : Rp α} (hE : Ok E) {w w' : World} {S : Nat → Prop} {L : List α} {g i : Nat} {Sf : Nat → Nat → Prop} {T : Nat → Prop} {x : α} {us : List Value} (h : Row E w S L g Sf) (hS : ∀ q, S q → q < w.heap.size) (hU : Upd w w' g (i * E.size) ((i + 1) * E.size) (Sf i))
    (hT : ∀ q, T q → Sf i q ∨ Rg w.heap.size w'.heap.size q) (hc : CellsAt w' g (i * E.size) us) (hr : E.ow w' T x us) : Row E w' (fun q => S q ∨ Rg w.heap.size w'.heap.size q) (L.set i x) g (fun j q => if j = i then T q else Sf j q) := by
  have hg := hS g h.own
  refine ⟨.inl h.own, fun j => (hU.soft j).trans (h.soft j), fun j q hq => ?_, fun j j2 q hjj hj => ?_, fun j y hy => ?_⟩
  · by_cases e : j = i
    · simp only [e, if_true] at hq
      rcases hT q hq with h1 | h1
      · exact ⟨.inl (h.sub i q h1).1, (h.sub i q h1).2⟩
      · exact ⟨.inr h1, by have := h1.1; omega⟩
    · simp only [e, if_false] at hq
      exact ⟨.inl (h.sub j q hq).1, (h.sub j q hq).2⟩
  · by_cases e : j = i
    · subst e
      simp only [if_true] at hj
      simp only [show j2 ≠ j by omega, if_false]
      intro h2
      rcases hT q hj with h1 | h1
      · exact h.dis j j2 q hjj h1 h2
      · have h3 := hS q (h.sub j2 q h2).1
        have := h1.1
        omega
    · simp only [e, if_false] at hj
      by_cases e2 : j2 = i
      · simp only [e2, if_true]
        intro h2
        rcases hT q h2 with h1 | h1
        · exact h.dis j i q (by omega) hj h1
        · have h3 := hS q (h.sub j q hj).1
          have := h1.1
          omega
      · simp only [e2, if_false]
        exact h.dis j j2 q hjj hj
  · by_cases e : i = j
    · subst e
      rw [List.getElem?_set] at hy
      split at hy
      · split at hy
        · injection hy with hy
          subst hy
          exact ⟨us, hc, by simp only [if_true]; exact hr⟩
        · cases hy
      · exact absurd rfl ‹_›
    · rw [List.getElem?_set_ne e] at hy
      obtain ⟨vs, hv, hw⟩ := h.el j y hy
      refine ⟨vs, fun p c hp => ?_, ?_⟩
      · have hl := (List.getElem?_eq_some_iff.1 hp).1
        rw [hE.ow_len hw] at hl
        rw [hU.cells _ (mul_lt_el hl e)]
        exact hv p c hp
      · simp only [Ne.symm e, if_false]
        refine hE.ow_keep hw fun q hq => hU.block q (hS q (h.sub j q hq).1) (h.sub j q hq).2 (fun hi => ?_)
        rcases Nat.lt_or_gt_of_ne e with e2 | e2
        · exact h.dis i j q e2 hi hq
        · exact h.dis j i q e2 hq hi
section
variable {α : Type} {E : Rp α} {f : α → List Value} {w w' : World} {lo : Nat} {T : TypeId} {v : Value} {L : List α}
theorem FRow.one (hE : Ok E) (hF : Flat E f) {P : Program} (h : FRow E f w lo T v L) {t ty : TypeId} {i : TypeInfo} {z : Value} {bytes : Nat} (ht : P.underlying t = some (.slice T)) (hi : P.info? T = some i) (hz : i.zero = some z) (hsize : i.size = E.size) (hby : i.bytes = bytes) (hzs : z.cells.size = E.size) (hpos : 0 < E.size)
    {x : α} (hlo : lo ≤ w.heap.size) (hL : L.length + 1 ≤ maxLen) (hLb : (L.length + 1) * bytes ≤ 140737488355328) :
    ∃ a' c' w', (Builtin.append_ #[t, t] ty #[v, .slice (some ⟨w.heap.size, 0, none⟩) 1 1]).run P (w.alloc (.cells (f x).toArray T)) = .ok (.slice a' (L ++ [x]).length c') w' ∧ FRow E f w' lo T (.slice a' (L ++ [x]).length c') (L ++ [x]) ∧ w.heap.size < w'.heap.size ∧ w'.os = w.os ∧ w'.tape = w.tape ∧ w'.output = w.output ∧
      (∀ k, k < w.heap.size → v.ownBlock ≠ some k → w'.heap[k]? = w.heap[k]?) ∧ ∀ k, (Value.slice a' (L ++ [x]).length c').ownBlock = some k → v.ownBlock = some k ∨ Rg w.heap.size w'.heap.size k := by
  have hb : Below w.heap.size w (w.alloc (.cells (f x).toArray T)) := (Below.refl _ _).alloc (Nat.le_refl _) _
  have hfl : (f x).length = E.size := hE.ow_len (hF.ow w (fun _ => False) x)
  have h1 := h.call hb
  have hbk := Blk.new w T (f x).toArray
  obtain ⟨v', w', hrun, hown, hgr, _, hat⟩ := run_append_own_at (P := P) (w.alloc (.cells (f x).toArray T)) lo t ty T i z E.size bytes ht hi hz hsize hby hzs hpos v L.length _ h1.own ⟨w.heap.size, 0, none⟩ 1 1 (f x) (by rw [hfl]; omega) (fun j u hj => by
    have hadd : (⟨w.heap.size, 0, none⟩ : Addr).add j = ⟨w.heap.size, j, none⟩ := by unfold Addr.add; split <;> simp_all
    rw [hadd]
    exact hbk.at_ j (by simpa using hj)) (fun u hu => hE.one (hE.ow_rd (B := 0) (hF.ow w (fun _ => False) x) (fun k h => h.elim)) u hu) hL hLb (by simp; omega)
  rw [show L.flatMap f ++ f x = (L ++ [x]).flatMap f from by simp, show L.length + 1 = (L ++ [x]).length from by simp] at hown
  have hs2 : w.heap.size + 1 ≤ w'.heap.size := by have := hgr.size; simpa using this
  have hF2 : FRow E f w' lo T v' (L ++ [x]) := ⟨hown, fun k hk => by
    rcases hat with e | e
    · rw [e] at hk; exact ⟨(h.blk k hk).1, by have := (h.blk k hk).2; omega⟩
    · rw [e] at hk
      cases hk
      rcases hown.2 with ⟨hn, _⟩ | ⟨g, cap', cur, hv, hlog, hgg, _⟩
      · rw [hn] at e; cases e
      · rw [hv] at e
        cases e
        exact ⟨hlog, (Array.getElem?_eq_some_iff.1 hgg).1⟩⟩
  obtain ⟨a', c', rfl⟩ := hF2.isSlice
  refine ⟨a', c', w', hrun, hF2, by omega, hgr.os, hgr.tape, hgr.output, fun k hk hne => (hgr.block k (by simp; omega) (fun e => hne e.symm)).trans (hb.block k hk), fun k hk => ?_⟩
  rcases hat with e | e
  · rw [e] at hk; exact .inl hk
  · have h2 := hk
    rw [e] at hk
    have e3 : (w.alloc (.cells (f x).toArray T)).heap.size = k := Option.some.inj hk
    have h4 := (hF2.blk k h2).2
    exact .inr ⟨by rw [← e3]; simp, h4⟩
end
theorem IRw.one_ {w : World} {lo : Nat} {v : Value} {L : List Int} (h : IRw w lo v L) (x : Int) (hlo : lo ≤ w.heap.size) (hL : L.length ≤ 1048576) :
    ∃ a' c' w', (Builtin.append_ #[70, 70] 70 #[v, .slice (some ⟨w.heap.size, 0, none⟩) 1 1]).run Tryz.prog (w.alloc (.cells #[.int .i64 x] 2)) = .ok (.slice a' (L ++ [x]).length c') w' ∧ IRw w' lo (.slice a' (L ++ [x]).length c') (L ++ [x]) ∧ w.heap.size < w'.heap.size ∧ w'.os = w.os ∧ w'.tape = w.tape ∧ w'.output = w.output ∧
      (∀ k, k < w.heap.size → v.ownBlock ≠ some k → w'.heap[k]? = w.heap[k]?) ∧ ∀ k, (Value.slice a' (L ++ [x]).length c').ownBlock = some k → v.ownBlock = some k ∨ Rg w.heap.size w'.heap.size k := by
  obtain ⟨i, hi', hz, hs, hby⟩ := infoIn
  exact FRow.one I_ok flat_In h Tryz.underlying70 hi' hz hs hby rfl (by decide) hlo (by unfold maxLen; omega) (by omega)
theorem NRw.one_ {w : World} {lo : Nat} {v : Value} {L : List D_Note} (h : NRw w lo v L) (x : D_Note) (hlo : lo ≤ w.heap.size) (hL : L.length ≤ 1048576) :
    ∃ a' c' w', (Builtin.append_ #[71, 71] 71 #[v, .slice (some ⟨w.heap.size, 0, none⟩) 1 1]).run Tryz.prog (w.alloc (.cells #[.int .i64 x.1, .int .i64 x.2] 75)) = .ok (.slice a' (L ++ [x]).length c') w' ∧ NRw w' lo (.slice a' (L ++ [x]).length c') (L ++ [x]) ∧ w.heap.size < w'.heap.size ∧ w'.os = w.os ∧ w'.tape = w.tape ∧ w'.output = w.output ∧
      (∀ k, k < w.heap.size → v.ownBlock ≠ some k → w'.heap[k]? = w.heap[k]?) ∧ ∀ k, (Value.slice a' (L ++ [x]).length c').ownBlock = some k → v.ownBlock = some k ∨ Rg w.heap.size w'.heap.size k := by
  obtain ⟨i, hi', hz, hs, hby⟩ := infoNote
  exact FRow.one R_Note_ok flat_Note h Tryz.underlying71 hi' hz hs hby rfl (by decide) hlo (by unfold maxLen; omega) (by omega)
end Go.Proofs.YtlgflddljhldhaaGreat.RepC
end
section
namespace Go.Proofs.YtlgflddljhldhaaGreat.RepC
open Go.RowKit RowC ValC SpanC KeptC CfC
set_option linter.unusedVariables false
set_option linter.unusedSimpArgs false
set_option maxRecDepth 100000
theorem boxG_next {w : World} {S : Nat → Prop} {L : List D_Box} {g k : Nat} {Sf : Nat → Nat → Prop} {F G : List Int} {N : List D_Note} (h : Row R_BoxG w S L g Sf) (hS : ∀ q, S q → q < w.heap.size) (hx : L[k]? = some (F, G, N)) (hl : F.length ≤ 1048576) (x : Int) :
    ∃ a c a' c' w2, ∃ Sf' : Nat → Nat → Prop, w.cell? ⟨g, k * 3, none⟩ = some (.slice a F.length c) ∧ (Builtin.append_ #[70, 70] 70 #[.slice a F.length c, .slice (some ⟨w.heap.size, 0, none⟩) 1 1]).run Tryz.prog (w.alloc (.cells #[.int .i64 x] 2)) = .ok (.slice a' (F ++ [x]).length c') w2 ∧
      Row R_BoxG (w2.setCell ⟨g, k * 3, none⟩ (.slice a' (F ++ [x]).length c')) (fun q => S q ∨ Rg w.heap.size w2.heap.size q) (L.set k (F ++ [x], G, N)) g Sf' ∧ w.heap.size < w2.heap.size ∧ w2.os = w.os ∧ w2.tape = w.tape ∧ w2.output = w.output ∧ ∀ q, q < w.heap.size → ¬ Sf k q → w2.heap[q]? = w.heap[q]? := by
  obtain ⟨us, hu, ho⟩ := h.el k _ hx
  obtain ⟨us1, vs1, S1, S2, rfl, a1, a2, a3, ⟨v0, l0, rfl, h0, b0⟩, us2, vs2, S3, S4, rfl, b1, b2, b3, ⟨v1, l1, rfl, h1, c1⟩, ⟨v2, l2, rfl, h2, c2⟩⟩ := ho
  have e0 : w.cell? ⟨g, k * 3, none⟩ = some v0 := by simpa [size_BoxG] using hu 0 _ rfl
  have e1 : w.cell? ⟨g, k * 3 + 1, none⟩ = some v1 := by simpa [size_BoxG] using hu 1 _ rfl
  have e2 : w.cell? ⟨g, k * 3 + 2, none⟩ = some v2 := by simpa [size_BoxG] using hu 2 _ rfl
  have s0 : ∀ q, v0.ownBlock = some q → Sf k q := fun q hq => a1 q (b0 q hq)
  have s1 : ∀ q, v1.ownBlock = some q → Sf k q := fun q hq => a2 q (b1 q (c1 q hq))
  have s2 : ∀ q, v2.ownBlock = some q → Sf k q := fun q hq => a2 q (b2 q (c2 q hq))
  have d01 : ∀ q, v0.ownBlock = some q → v1.ownBlock ≠ some q := fun q h h' => a3 q (b0 q h) (b1 q (c1 q h'))
  have d02 : ∀ q, v0.ownBlock = some q → v2.ownBlock ≠ some q := fun q h h' => a3 q (b0 q h) (b2 q (c2 q h'))
  have d12 : ∀ q, v1.ownBlock = some q → v2.ownBlock ≠ some q := fun q h h' => b3 q (c1 q h) (c2 q h')
  have hz := fun q hq => hS q (h.sub k q hq).1
  have hgz := hS g h.own
  obtain ⟨a', c', w2, hrun, hrow, hlt, ho1, ho2, ho3, hfar, hown⟩ := IRw.one_ (FRow.low h0 (Nat.zero_le _)) x (Nat.zero_le _) hl
  obtain ⟨a, c, hv⟩ := FRow.isSlice h0
  subst hv
  have hoff : ∀ q, q < w.heap.size → ¬ Sf k q → w2.heap[q]? = w.heap[q]? := fun q hq hn => hfar q hq fun e => hn (s0 q e)
  have hg2 : w2.heap[g]? = w.heap[g]? := hoff g hgz fun e => (h.sub k g e).2 rfl
  obtain ⟨W3, hW3⟩ : ∃ W, W = w2.setCell ⟨g, k * 3, none⟩ (.slice a' (F ++ [x]).length c') := ⟨_, rfl⟩
  have hsz : W3.heap.size = w2.heap.size := by rw [hW3]; simp [World.setCell]
  have far3 : ∀ q, q ≠ g → W3.heap[q]? = w2.heap[q]? := fun q hq => by rw [hW3]; exact Below.heap_setCell _ _ _ _ hq
  have k1_ : (k + 1) * R_BoxG.size = k * 3 + 3 := by rw [size_BoxG]; omega
  have k0_ : k * R_BoxG.size = k * 3 := by rw [size_BoxG]
  have cell2 : ∀ j, w2.cell? ⟨g, j, none⟩ = w.cell? ⟨g, j, none⟩ := fun j => World.cell?_of_block (a := ⟨g, j, none⟩) hg2
  have froz2 : ∀ j, w2.frozen? ⟨g, j, none⟩ = w.frozen? ⟨g, j, none⟩ := fun j => World.frozen?_of_block (a := ⟨g, j, none⟩) hg2
  have keep1 : ∀ q, v1.ownBlock = some q → W3.heap[q]? = w.heap[q]? := fun q hq => (far3 q (h.sub k q (s1 q hq)).2).trans (hfar q (hz q (s1 q hq)) fun e => d01 q e hq)
  have keep2 : ∀ q, v2.ownBlock = some q → W3.heap[q]? = w.heap[q]? := fun q hq => (far3 q (h.sub k q (s2 q hq)).2).trans (hfar q (hz q (s2 q hq)) fun e => d02 q e hq)
  have keepN : ∀ q, (Value.slice a' (F ++ [x]).length c').ownBlock = some q → W3.heap[q]? = w2.heap[q]? := fun q hq => far3 q fun e => by
    rcases hown q hq with h1 | h1
    · exact (h.sub k q (s0 q h1)).2 e
    · have := h1.1; omega
  have hr : R_BoxG.ow W3 (fun q => (Value.slice a' (F ++ [x]).length c').ownBlock = some q ∨ v1.ownBlock = some q ∨ v2.ownBlock = some q) (F ++ [x], G, N) [.slice a' (F ++ [x]).length c', v1, v2] := mkow_BoxG (hrow.keep keepN) (h1.keep keep1) (h2.keep keep2) (fun q ha hb => by
    rcases hown q ha with h1 | h1
    · exact d01 q h1 hb
    · have h2 := hz q (s1 q hb); have := h1.1; omega) (fun q ha hb => by
    rcases hown q ha with h1 | h1
    · exact d02 q h1 hb
    · have h2 := hz q (s2 q hb); have := h1.1; omega) (fun q ha hb => by
    exact d12 q ha hb) (fun q hq => .inl hq) (fun q hq => .inr (.inl hq)) (fun q hq => .inr (.inr hq))
  have cN : W3.cell? ⟨g, k * 3, none⟩ = some (.slice a' (F ++ [x]).length c') := by rw [hW3]; exact World.cell?_setCell_same' _ _ _ (by rw [cell2, e0]; rfl)
  refine ⟨a, c, a', c', w2, fun j q => if j = k then (fun q => (Value.slice a' (F ++ [x]).length c').ownBlock = some q ∨ v1.ownBlock = some q ∨ v2.ownBlock = some q) q else Sf j q, e0, hrun, ?_, hlt, ho1, ho2, ho3, hoff⟩
  rw [← hW3, ← hsz]
  refine h.put R_BoxG_ok hS (T := (fun q => (Value.slice a' (F ++ [x]).length c').ownBlock = some q ∨ v1.ownBlock = some q ∨ v2.ownBlock = some q)) (us := [.slice a' (F ++ [x]).length c', v1, v2]) ⟨by rw [hsz]; omega, fun q hq hne hns => (far3 q hne).trans (hoff q hq hns), fun j hj => ?_, fun j => ?_⟩ (fun q hq => ?_) (fun j d hj => ?_) hr
  · rw [k0_, k1_] at hj
    rw [hW3, World.cell?_setCell_other _ _ _ _ (fun e => by injection e with _ e2; omega)]
    exact cell2 j
  · rw [hW3]
    simp only [World.frozen?_setCell]
    exact froz2 j
  · rcases hq with hq | hq | hq
    · exact (hown q hq).elim (fun h1 => .inl (s0 q h1)) (fun h1 => .inr (by rw [hsz]; exact h1))
    · exact .inl (s1 q hq)
    · exact .inl (s2 q hq)
  · rw [k0_]
    match j, hj with
    | 0, hj =>
      simp at hj
      subst hj
      simpa using cN
    | 1, hj =>
      simp at hj
      subst hj
      rw [hW3, World.cell?_setCell_other _ _ _ _ (fun e => by injection e with _ e2; omega), cell2]
      exact e1
    | 2, hj =>
      simp at hj
      subst hj
      rw [hW3, World.cell?_setCell_other _ _ _ _ (fun e => by injection e with _ e2; omega), cell2]
      exact e2
    | j + 3, hj => simp at hj
theorem boxG_log {w : World} {S : Nat → Prop} {L : List D_Box} {g k : Nat} {Sf : Nat → Nat → Prop} {F G : List Int} {N : List D_Note} (h : Row R_BoxG w S L g Sf) (hS : ∀ q, S q → q < w.heap.size) (hx : L[k]? = some (F, G, N)) (hl : N.length ≤ 1048576) (x : D_Note) :
    ∃ a c a' c' w2, ∃ Sf' : Nat → Nat → Prop, w.cell? ⟨g, k * 3 + 2, none⟩ = some (.slice a N.length c) ∧ (Builtin.append_ #[71, 71] 71 #[.slice a N.length c, .slice (some ⟨w.heap.size, 0, none⟩) 1 1]).run Tryz.prog (w.alloc (.cells #[.int .i64 x.1, .int .i64 x.2] 75)) = .ok (.slice a' (N ++ [x]).length c') w2 ∧
      Row R_BoxG (w2.setCell ⟨g, k * 3 + 2, none⟩ (.slice a' (N ++ [x]).length c')) (fun q => S q ∨ Rg w.heap.size w2.heap.size q) (L.set k (F, G, N ++ [x])) g Sf' ∧ w.heap.size < w2.heap.size ∧ w2.os = w.os ∧ w2.tape = w.tape ∧ w2.output = w.output ∧ ∀ q, q < w.heap.size → ¬ Sf k q → w2.heap[q]? = w.heap[q]? := by
  obtain ⟨us, hu, ho⟩ := h.el k _ hx
  obtain ⟨us1, vs1, S1, S2, rfl, a1, a2, a3, ⟨v0, l0, rfl, h0, b0⟩, us2, vs2, S3, S4, rfl, b1, b2, b3, ⟨v1, l1, rfl, h1, c1⟩, ⟨v2, l2, rfl, h2, c2⟩⟩ := ho
  have e0 : w.cell? ⟨g, k * 3, none⟩ = some v0 := by simpa [size_BoxG] using hu 0 _ rfl
  have e1 : w.cell? ⟨g, k * 3 + 1, none⟩ = some v1 := by simpa [size_BoxG] using hu 1 _ rfl
  have e2 : w.cell? ⟨g, k * 3 + 2, none⟩ = some v2 := by simpa [size_BoxG] using hu 2 _ rfl
  have s0 : ∀ q, v0.ownBlock = some q → Sf k q := fun q hq => a1 q (b0 q hq)
  have s1 : ∀ q, v1.ownBlock = some q → Sf k q := fun q hq => a2 q (b1 q (c1 q hq))
  have s2 : ∀ q, v2.ownBlock = some q → Sf k q := fun q hq => a2 q (b2 q (c2 q hq))
  have d01 : ∀ q, v0.ownBlock = some q → v1.ownBlock ≠ some q := fun q h h' => a3 q (b0 q h) (b1 q (c1 q h'))
  have d02 : ∀ q, v0.ownBlock = some q → v2.ownBlock ≠ some q := fun q h h' => a3 q (b0 q h) (b2 q (c2 q h'))
  have d12 : ∀ q, v1.ownBlock = some q → v2.ownBlock ≠ some q := fun q h h' => b3 q (c1 q h) (c2 q h')
  have hz := fun q hq => hS q (h.sub k q hq).1
  have hgz := hS g h.own
  obtain ⟨a', c', w2, hrun, hrow, hlt, ho1, ho2, ho3, hfar, hown⟩ := NRw.one_ (FRow.low h2 (Nat.zero_le _)) x (Nat.zero_le _) hl
  obtain ⟨a, c, hv⟩ := FRow.isSlice h2
  subst hv
  have hoff : ∀ q, q < w.heap.size → ¬ Sf k q → w2.heap[q]? = w.heap[q]? := fun q hq hn => hfar q hq fun e => hn (s2 q e)
  have hg2 : w2.heap[g]? = w.heap[g]? := hoff g hgz fun e => (h.sub k g e).2 rfl
  obtain ⟨W3, hW3⟩ : ∃ W, W = w2.setCell ⟨g, k * 3 + 2, none⟩ (.slice a' (N ++ [x]).length c') := ⟨_, rfl⟩
  have hsz : W3.heap.size = w2.heap.size := by rw [hW3]; simp [World.setCell]
  have far3 : ∀ q, q ≠ g → W3.heap[q]? = w2.heap[q]? := fun q hq => by rw [hW3]; exact Below.heap_setCell _ _ _ _ hq
  have k1_ : (k + 1) * R_BoxG.size = k * 3 + 3 := by rw [size_BoxG]; omega
  have k0_ : k * R_BoxG.size = k * 3 := by rw [size_BoxG]
  have cell2 : ∀ j, w2.cell? ⟨g, j, none⟩ = w.cell? ⟨g, j, none⟩ := fun j => World.cell?_of_block (a := ⟨g, j, none⟩) hg2
  have froz2 : ∀ j, w2.frozen? ⟨g, j, none⟩ = w.frozen? ⟨g, j, none⟩ := fun j => World.frozen?_of_block (a := ⟨g, j, none⟩) hg2
  have keep0 : ∀ q, v0.ownBlock = some q → W3.heap[q]? = w.heap[q]? := fun q hq => (far3 q (h.sub k q (s0 q hq)).2).trans (hfar q (hz q (s0 q hq)) fun e => d02 q hq e)
  have keep1 : ∀ q, v1.ownBlock = some q → W3.heap[q]? = w.heap[q]? := fun q hq => (far3 q (h.sub k q (s1 q hq)).2).trans (hfar q (hz q (s1 q hq)) fun e => d12 q hq e)
  have keepN : ∀ q, (Value.slice a' (N ++ [x]).length c').ownBlock = some q → W3.heap[q]? = w2.heap[q]? := fun q hq => far3 q fun e => by
    rcases hown q hq with h1 | h1
    · exact (h.sub k q (s2 q h1)).2 e
    · have := h1.1; omega
  have hr : R_BoxG.ow W3 (fun q => v0.ownBlock = some q ∨ v1.ownBlock = some q ∨ (Value.slice a' (N ++ [x]).length c').ownBlock = some q) (F, G, N ++ [x]) [v0, v1, .slice a' (N ++ [x]).length c'] := mkow_BoxG (h0.keep keep0) (h1.keep keep1) (hrow.keep keepN) (fun q ha hb => by
    exact d01 q ha hb) (fun q ha hb => by
    rcases hown q hb with h1 | h1
    · exact d02 q ha h1
    · have h2 := hz q (s0 q ha); have := h1.1; omega) (fun q ha hb => by
    rcases hown q hb with h1 | h1
    · exact d12 q ha h1
    · have h2 := hz q (s1 q ha); have := h1.1; omega) (fun q hq => .inl hq) (fun q hq => .inr (.inl hq)) (fun q hq => .inr (.inr hq))
  have cN : W3.cell? ⟨g, k * 3 + 2, none⟩ = some (.slice a' (N ++ [x]).length c') := by rw [hW3]; exact World.cell?_setCell_same' _ _ _ (by rw [cell2, e2]; rfl)
  refine ⟨a, c, a', c', w2, fun j q => if j = k then (fun q => v0.ownBlock = some q ∨ v1.ownBlock = some q ∨ (Value.slice a' (N ++ [x]).length c').ownBlock = some q) q else Sf j q, e2, hrun, ?_, hlt, ho1, ho2, ho3, hoff⟩
  rw [← hW3, ← hsz]
  refine h.put R_BoxG_ok hS (T := (fun q => v0.ownBlock = some q ∨ v1.ownBlock = some q ∨ (Value.slice a' (N ++ [x]).length c').ownBlock = some q)) (us := [v0, v1, .slice a' (N ++ [x]).length c']) ⟨by rw [hsz]; omega, fun q hq hne hns => (far3 q hne).trans (hoff q hq hns), fun j hj => ?_, fun j => ?_⟩ (fun q hq => ?_) (fun j d hj => ?_) hr
  · rw [k0_, k1_] at hj
    rw [hW3, World.cell?_setCell_other _ _ _ _ (fun e => by injection e with _ e2; omega)]
    exact cell2 j
  · rw [hW3]
    simp only [World.frozen?_setCell]
    exact froz2 j
  · rcases hq with hq | hq | hq
    · exact .inl (s0 q hq)
    · exact .inl (s1 q hq)
    · exact (hown q hq).elim (fun h1 => .inl (s2 q h1)) (fun h1 => .inr (by rw [hsz]; exact h1))
  · rw [k0_]
    match j, hj with
    | 0, hj =>
      simp at hj
      subst hj
      rw [hW3, World.cell?_setCell_other _ _ _ _ (fun e => by injection e with _ e2; omega), cell2]
      exact e0
    | 1, hj =>
      simp at hj
      subst hj
      rw [hW3, World.cell?_setCell_other _ _ _ _ (fun e => by injection e with _ e2; omega), cell2]
      exact e1
    | 2, hj =>
      simp at hj
      subst hj
      simpa using cN
    | j + 3, hj => simp at hj
theorem box_next {w w1 : World} {S : Nat → Prop} {L : List D_Box} {g k : Nat} {Sf : Nat → Nat → Prop} {F G : List Int} {N : List D_Note} {F' : List Int} {a' : Option Addr} {c' : Nat} (h : Row R_Box w S L g Sf) (hS : ∀ q, S q → q < w.heap.size) (hx : L[k]? = some (F, G, N)) (hb : Below w.heap.size w w1) (ho : OwSl I w1 (Rg w.heap.size w1.heap.size) F' a' c') :
    ∃ a c, ∃ Sf' : Nat → Nat → Prop, w.cell? ⟨g, k * 3, none⟩ = some (.slice a F.length c) ∧ Row R_Box (w1.setCell ⟨g, k * 3, none⟩ (.slice a' F'.length c')) (fun q => S q ∨ Rg w.heap.size w1.heap.size q) (L.set k (F', G, N)) g Sf' := by
  obtain ⟨us, hu, hw⟩ := h.el k _ hx
  obtain ⟨a0, c0, a1, c1, a2, c2, T0, T1, T2, rfl, i0, i1, i2, d01, d02, d12, k0, k1, k2⟩ := ow_Box hw
  have e0 : w.cell? ⟨g, k * 3, none⟩ = some (.slice a0 F.length c0) := by simpa [size_BoxS] using hu 0 _ rfl
  have e1 : w.cell? ⟨g, k * 3 + 1, none⟩ = some (.slice a1 G.length c1) := by simpa [size_BoxS] using hu 1 _ rfl
  have e2 : w.cell? ⟨g, k * 3 + 2, none⟩ = some (.slice a2 N.length c2) := by simpa [size_BoxS] using hu 2 _ rfl
  have hz := fun q hq => hS q (h.sub k q hq).1
  have hgz := hS g h.own
  have hbs := hb.size
  obtain ⟨W3, hW3⟩ : ∃ W, W = w1.setCell ⟨g, k * 3, none⟩ (.slice a' F'.length c') := ⟨_, rfl⟩
  have hsz : W3.heap.size = w1.heap.size := by rw [hW3]; simp [World.setCell]
  have far3 : ∀ q, q ≠ g → W3.heap[q]? = w1.heap[q]? := fun q hq => by rw [hW3]; exact Below.heap_setCell _ _ _ _ hq
  have old3 : ∀ q, Sf k q → W3.heap[q]? = w.heap[q]? := fun q hq => (far3 q (h.sub k q hq).2).trans (hb.block q (hz q hq))
  have k1_ : (k + 1) * R_Box.size = k * 3 + 3 := by rw [size_BoxS]; omega
  have k0_ : k * R_Box.size = k * 3 := by rw [size_BoxS]
  have hr : R_Box.ow W3 (fun q => Sf k q ∨ Rg w.heap.size w1.heap.size q) (F', G, N) [.slice a' F'.length c', .slice a1 G.length c1, .slice a2 N.length c2] := mkow_Box (T0 := (Rg w.heap.size w1.heap.size)) (T1 := T1) (T2 := T2) (fun q hq => .inr hq) (fun q hq => .inl (i1 q hq)) (fun q hq => .inl (i2 q hq)) (fun q ha hb => by have h1 := ha.1; have h2 := hz q (i1 q hb); omega) (fun q ha hb => by have h1 := ha.1; have h2 := hz q (i2 q hb); omega) d12 (ho.keep I_ok fun q hq => far3 q (by have := hq.1; omega)) (k1.keep I_ok fun q hq => old3 q (i1 q hq)) (k2.keep R_Note_ok fun q hq => old3 q (i2 q hq))
  refine ⟨a0, c0, fun j q => if j = k then (Sf k q ∨ Rg w.heap.size w1.heap.size q) else Sf j q, e0, ?_⟩
  rw [← hW3, ← hsz]
  rw [← hsz] at hr
  refine h.put R_Box_ok hS (us := [.slice a' F'.length c', .slice a1 G.length c1, .slice a2 N.length c2]) ⟨by rw [hsz]; omega, fun q hq hne _ => (far3 q hne).trans (hb.block q hq), fun j hj => ?_, fun j => ?_⟩ (fun q hq => hq) (fun j d hj => ?_) hr
  · rw [k0_, k1_] at hj
    rw [hW3, World.cell?_setCell_other _ _ _ _ (fun e => by injection e with _ e2; omega)]
    exact hb.cell (p := ⟨g, j, none⟩) hgz
  · rw [hW3]
    simp only [World.frozen?_setCell]
    exact hb.frozen (p := ⟨g, j, none⟩) hgz
  · rw [k0_]
    match j, hj with
    | 0, hj =>
      simp at hj
      subst hj
      rw [hW3]
      exact World.cell?_setCell_same' _ _ _ (by have h9 := (hb.cell (p := ⟨g, k * 3, none⟩) hgz).trans e0; first | (rw [h9]; rfl) | (rw [Nat.add_zero, h9]; rfl))
    | 1, hj =>
      simp at hj
      subst hj
      rw [hW3, World.cell?_setCell_other _ _ _ _ (fun e => by injection e with _ e2; omega)]
      exact (hb.cell (p := ⟨g, k * 3 + 1, none⟩) hgz).trans e1
    | 2, hj =>
      simp at hj
      subst hj
      rw [hW3, World.cell?_setCell_other _ _ _ _ (fun e => by injection e with _ e2; omega)]
      exact (hb.cell (p := ⟨g, k * 3 + 2, none⟩) hgz).trans e2
    | j + 3, hj => simp at hj
theorem box_log {w w1 : World} {S : Nat → Prop} {L : List D_Box} {g k : Nat} {Sf : Nat → Nat → Prop} {F G : List Int} {N : List D_Note} {N' : List D_Note} {a' : Option Addr} {c' : Nat} (h : Row R_Box w S L g Sf) (hS : ∀ q, S q → q < w.heap.size) (hx : L[k]? = some (F, G, N)) (hb : Below w.heap.size w w1) (ho : OwSl R_Note w1 (Rg w.heap.size w1.heap.size) N' a' c') :
    ∃ a c, ∃ Sf' : Nat → Nat → Prop, w.cell? ⟨g, k * 3 + 2, none⟩ = some (.slice a N.length c) ∧ Row R_Box (w1.setCell ⟨g, k * 3 + 2, none⟩ (.slice a' N'.length c')) (fun q => S q ∨ Rg w.heap.size w1.heap.size q) (L.set k (F, G, N')) g Sf' := by
  obtain ⟨us, hu, hw⟩ := h.el k _ hx
  obtain ⟨a0, c0, a1, c1, a2, c2, T0, T1, T2, rfl, i0, i1, i2, d01, d02, d12, k0, k1, k2⟩ := ow_Box hw
  have e0 : w.cell? ⟨g, k * 3, none⟩ = some (.slice a0 F.length c0) := by simpa [size_BoxS] using hu 0 _ rfl
  have e1 : w.cell? ⟨g, k * 3 + 1, none⟩ = some (.slice a1 G.length c1) := by simpa [size_BoxS] using hu 1 _ rfl
  have e2 : w.cell? ⟨g, k * 3 + 2, none⟩ = some (.slice a2 N.length c2) := by simpa [size_BoxS] using hu 2 _ rfl
  have hz := fun q hq => hS q (h.sub k q hq).1
  have hgz := hS g h.own
  have hbs := hb.size
  obtain ⟨W3, hW3⟩ : ∃ W, W = w1.setCell ⟨g, k * 3 + 2, none⟩ (.slice a' N'.length c') := ⟨_, rfl⟩
  have hsz : W3.heap.size = w1.heap.size := by rw [hW3]; simp [World.setCell]
  have far3 : ∀ q, q ≠ g → W3.heap[q]? = w1.heap[q]? := fun q hq => by rw [hW3]; exact Below.heap_setCell _ _ _ _ hq
  have old3 : ∀ q, Sf k q → W3.heap[q]? = w.heap[q]? := fun q hq => (far3 q (h.sub k q hq).2).trans (hb.block q (hz q hq))
  have k1_ : (k + 1) * R_Box.size = k * 3 + 3 := by rw [size_BoxS]; omega
  have k0_ : k * R_Box.size = k * 3 := by rw [size_BoxS]
  have hr : R_Box.ow W3 (fun q => Sf k q ∨ Rg w.heap.size w1.heap.size q) (F, G, N') [.slice a0 F.length c0, .slice a1 G.length c1, .slice a' N'.length c'] := mkow_Box (T0 := T0) (T1 := T1) (T2 := (Rg w.heap.size w1.heap.size)) (fun q hq => .inl (i0 q hq)) (fun q hq => .inl (i1 q hq)) (fun q hq => .inr hq) d01 (fun q ha hb => by have h1 := hb.1; have h2 := hz q (i0 q ha); omega) (fun q ha hb => by have h1 := hb.1; have h2 := hz q (i1 q ha); omega) (k0.keep I_ok fun q hq => old3 q (i0 q hq)) (k1.keep I_ok fun q hq => old3 q (i1 q hq)) (ho.keep R_Note_ok fun q hq => far3 q (by have := hq.1; omega))
  refine ⟨a2, c2, fun j q => if j = k then (Sf k q ∨ Rg w.heap.size w1.heap.size q) else Sf j q, e2, ?_⟩
  rw [← hW3, ← hsz]
  rw [← hsz] at hr
  refine h.put R_Box_ok hS (us := [.slice a0 F.length c0, .slice a1 G.length c1, .slice a' N'.length c']) ⟨by rw [hsz]; omega, fun q hq hne _ => (far3 q hne).trans (hb.block q hq), fun j hj => ?_, fun j => ?_⟩ (fun q hq => hq) (fun j d hj => ?_) hr
  · rw [k0_, k1_] at hj
    rw [hW3, World.cell?_setCell_other _ _ _ _ (fun e => by injection e with _ e2; omega)]
    exact hb.cell (p := ⟨g, j, none⟩) hgz
  · rw [hW3]
    simp only [World.frozen?_setCell]
    exact hb.frozen (p := ⟨g, j, none⟩) hgz
  · rw [k0_]
    match j, hj with
    | 0, hj =>
      simp at hj
      subst hj
      rw [hW3, World.cell?_setCell_other _ _ _ _ (fun e => by injection e with _ e2; omega)]
      exact (hb.cell (p := ⟨g, k * 3, none⟩) hgz).trans e0
    | 1, hj =>
      simp at hj
      subst hj
      rw [hW3, World.cell?_setCell_other _ _ _ _ (fun e => by injection e with _ e2; omega)]
      exact (hb.cell (p := ⟨g, k * 3 + 1, none⟩) hgz).trans e1
    | 2, hj =>
      simp at hj
      subst hj
      rw [hW3]
      exact World.cell?_setCell_same' _ _ _ (by have h9 := (hb.cell (p := ⟨g, k * 3 + 2, none⟩) hgz).trans e2; first | (rw [h9]; rfl) | (rw [Nat.add_zero, h9]; rfl))
    | j + 3, hj => simp at hj
def sendB (b : D_Box) (w now : Int) : D_Box := (b.1 ++ [w], b.2.1, b.2.2 ++ [(now, w)])
open Classical in
noncomputable def sendV (d : D_Config) (m : D_Mail) (f t : D_Label) (w now : Int) : D_MailOut :=
  if mailB d m = true ∧ isB now 0 999900 = true then
    if ixP d.2.1 f t < 0 then ([], 11) else
      match m[(ixP d.2.1 f t).toNat]?, d.2.1[(ixP d.2.1 f t).toNat]? with
      | some b, some p => if now < lastAt b.2.2 b.2.2.length then ([], 1) else if p.2.2 ≤ (b.1.length : Int) then ([], 8) else if 12 ≤ b.2.2.length then ([], 9) else (m.set (ixP d.2.1 f t).toNat (sendB b w now), 0)
      | _, _ => ([], 0)
  else ([], 1)
theorem sendV_form {d : D_Config} {m : D_Mail} {f t : D_Label} {w now : Int} (h : ¬ (mailB d m = true ∧ isB now 0 999900 = true)) : sendV d m f t w now = ([], 1) := by unfold sendV; rw [if_neg h]
theorem sendV_label {d : D_Config} {m : D_Mail} {f t : D_Label} {w now : Int} (h : mailB d m = true ∧ isB now 0 999900 = true) (hi : ixP d.2.1 f t < 0) : sendV d m f t w now = ([], 11) := by unfold sendV; rw [if_pos h, if_pos hi]
section
variable {d : D_Config} {m : D_Mail} {f t : D_Label} {w now : Int} {k : Nat} {b : D_Box} {p : D_Pair} (h : mailB d m = true ∧ isB now 0 999900 = true) (hi : ixP d.2.1 f t = (k : Int)) (hb : m[k]? = some b) (hp : d.2.1[k]? = some p)
include h hi hb hp
theorem sendV_late (h1 : now < lastAt b.2.2 b.2.2.length) : sendV d m f t w now = ([], 1) := by
  unfold sendV
  rw [if_pos h, hi, if_neg (by omega), Int.toNat_natCast, hb, hp]
  exact if_pos h1
theorem sendV_range (h1 : ¬ now < lastAt b.2.2 b.2.2.length) (h2 : p.2.2 ≤ (b.1.length : Int)) : sendV d m f t w now = ([], 8) := by
  unfold sendV
  rw [if_pos h, hi, if_neg (by omega), Int.toNat_natCast, hb, hp]
  show (if now < lastAt b.2.2 b.2.2.length then _ else _) = _
  rw [if_neg h1, if_pos h2]
theorem sendV_full (h1 : ¬ now < lastAt b.2.2 b.2.2.length) (h2 : ¬ p.2.2 ≤ (b.1.length : Int)) (h3 : 12 ≤ b.2.2.length) : sendV d m f t w now = ([], 9) := by
  unfold sendV
  rw [if_pos h, hi, if_neg (by omega), Int.toNat_natCast, hb, hp]
  show (if now < lastAt b.2.2 b.2.2.length then _ else _) = _
  rw [if_neg h1, if_neg h2, if_pos h3]
theorem sendV_ok (h1 : ¬ now < lastAt b.2.2 b.2.2.length) (h2 : ¬ p.2.2 ≤ (b.1.length : Int)) (h3 : ¬ 12 ≤ b.2.2.length) : sendV d m f t w now = (m.set k (sendB b w now), 0) := by
  unfold sendV
  rw [if_pos h, hi, if_neg (by omega), Int.toNat_natCast, hb, hp]
  show (if now < lastAt b.2.2 b.2.2.length then _ else _) = _
  rw [if_neg h1, if_neg h2, if_neg h3]
end
end Go.Proofs.YtlgflddljhldhaaGreat.RepC
end
section
namespace Go.Proofs.YtlgflddljhldhaaGreat.RepC
open Go.RowKit RowC ValC SpanC KeptC CfC
set_option linter.unusedVariables false
set_option linter.unusedSimpArgs false
set_option maxRecDepth 100000
def OutS (E : Rp D_Box) (w0 w : World) (b0 t9 n : Nat) (L : List D_Box) (g c : Nat) : Prop :=
  ∃ S, ∃ Sf : Nat → Nat → Prop, Row E w S L g Sf ∧ (∀ q, S q → b0 ≤ q ∧ q < w.heap.size ∧ q ≠ t9) ∧ Blk w t9 36 #[.slice (some ⟨g, 0, none⟩) n c] ∧ L.length = n ∧ n ≤ c ∧ c ≤ maxLen ∧ Below b0 w0 w ∧ b0 ≤ t9
section
variable {E : Rp D_Box} {w0 w w' : World} {b0 t9 n g c k : Nat} {L : List D_Box}
theorem OutS.mv (hE : Ok E) (h : OutS E w0 w b0 t9 n L g c) (hb : Below w.heap.size w w') : OutS E w0 w' b0 t9 n L g c := by
  obtain ⟨S, Sf, hr, hS, ht, hl, hc, hm, hB, h9⟩ := h
  have hs := hb.size
  refine ⟨S, Sf, ⟨hr.own, fun j => (hb.frozen (p := ⟨g, j, none⟩) (hS g hr.own).2.1).trans (hr.soft j), hr.sub, hr.dis, fun i x hx => ?_⟩, fun q hq => ⟨(hS q hq).1, Nat.lt_of_lt_of_le (hS q hq).2.1 hs, (hS q hq).2.2⟩, ht.call hb, hl, hc, hm, hB.trans (hb.mono (Nat.le_trans h9 (Nat.le_of_lt ht.lt))), h9⟩
  obtain ⟨us, hu, ho⟩ := hr.el i x hx
  exact ⟨us, hu.keep (hb.block g (hS g hr.own).2.1), hE.ow_keep ho fun q hq => hb.block q (hS q (hr.sub i q hq).1).2.1⟩
theorem OutS.var (h : OutS E w0 w b0 t9 n L g c) : Blk w t9 36 #[.slice (some ⟨g, 0, none⟩) n c] := by
  obtain ⟨S, Sf, _, _, ht, _⟩ := h
  exact ht
theorem OutS.bel (h : OutS E w0 w b0 t9 n L g c) : Below b0 w0 w := by
  obtain ⟨S, Sf, _, _, _, _, _, _, hB, _⟩ := h
  exact hB
theorem OutS.glt (h : OutS E w0 w b0 t9 n L g c) : b0 ≤ g ∧ g < w.heap.size ∧ g ≠ t9 := by
  obtain ⟨S, Sf, hr, hS, _⟩ := h
  exact hS g hr.own
theorem OutS.init {v2 : World} {M : List D_Box} {a : Option Addr} (hE : Ok E) (h : OwSl E v2 (Rg w0.heap.size v2.heap.size) M a c) (hn : 0 < M.length) (hb : Below w0.heap.size w0 v2) : ∃ g, a = some ⟨g, 0, none⟩ ∧ OutS E w0 (v2.alloc (.cells #[.slice a M.length c] 36)) w0.heap.size v2.heap.size M.length M g c := by
  have hbA : Below v2.heap.size v2 (v2.alloc (.cells #[.slice a M.length c] 36)) := (Below.refl _ _).alloc (Nat.le_refl _) _
  have h2 := h.keep hE (W' := v2.alloc (.cells #[.slice a M.length c] 36)) fun q hq => hbA.block q hq.2
  obtain ⟨g, Sf, rfl, hr⟩ := h2.row hn
  exact ⟨g, rfl, _, Sf, hr, fun q hq => ⟨hq.1, Nat.lt_of_lt_of_le hq.2 hbA.size, by have := hq.2; omega⟩, Blk.new _ _ _, rfl, h.1, h.2.1, hb.trans (hbA.mono hb.size), hb.size⟩
theorem OutS.fin (h : OutS E w0 w b0 t9 n L g c) : ∃ S : Nat → Prop, (∀ q, S q → b0 ≤ q ∧ q < w.heap.size) ∧ OwSl E w S L (some ⟨g, 0, none⟩) c := by
  obtain ⟨S, Sf, hr, hS, ht, hl, hc, hm, hB, h9⟩ := h
  exact ⟨S, fun q hq => ⟨(hS q hq).1, (hS q hq).2.1⟩, hr.slice (by rw [hl]; exact hc) hm⟩
end
theorem OutS.next {w0 w : World} {b0 t9 n g c k : Nat} {L : List D_Box} {F G : List Int} {N : List D_Note} (h : OutS R_BoxG w0 w b0 t9 n L g c) (hx : L[k]? = some (F, G, N)) (hl : F.length ≤ 1048576) (x : Int) :
    ∃ a cF a' c' w2, w.cell? ⟨g, k * 3, none⟩ = some (.slice a F.length cF) ∧ (Builtin.append_ #[70, 70] 70 #[.slice a F.length cF, .slice (some ⟨w.heap.size, 0, none⟩) 1 1]).run Tryz.prog (w.alloc (.cells #[.int .i64 x] 2)) = .ok (.slice a' (F ++ [x]).length c') w2 ∧
      w2.cell? ⟨t9, 0, none⟩ = some (.slice (some ⟨g, 0, none⟩) n c) ∧ w2.cell? ⟨g, k * 3, none⟩ = some (.slice a F.length cF) ∧ w2.frozen? ⟨g, k * 3, none⟩ = false ∧ OutS R_BoxG w0 (w2.setCell ⟨g, k * 3, none⟩ (.slice a' (F ++ [x]).length c')) b0 t9 n (L.set k (F ++ [x], G, N)) g c := by
  obtain ⟨S, Sf, hr, hS, ht, hll, hc, hm, hB, h9⟩ := h
  obtain ⟨a, cF, a', c', w2, Sf', e0, hrun, hrow, hlt, o1, o2, o3, hfar⟩ := boxG_next hr (fun q hq => (hS q hq).2.1) hx hl x
  have hgS := hS g hr.own
  have hbl : ∀ q, q < w.heap.size → ¬ S q → w2.heap[q]? = w.heap[q]? := fun q hq hn => hfar q hq fun h => hn (hr.sub k q h).1
  have hg2 : w2.heap[g]? = w.heap[g]? := hfar g hgS.2.1 fun h => (hr.sub k g h).2 rfl
  have ht9 : ¬ S t9 := fun h => (hS t9 h).2.2 rfl
  have ht2 : w2.heap[t9]? = w.heap[t9]? := hbl t9 ht.lt ht9
  have hss : (w2.setCell ⟨g, k * 3, none⟩ (.slice a' (F ++ [x]).length c')).heap.size = w2.heap.size := by simp [World.setCell]
  refine ⟨a, cF, a', c', w2, e0, hrun, (World.cell?_of_block (a := ⟨t9, 0, none⟩) ht2).trans (ht.at_ 0 rfl), (World.cell?_of_block (a := ⟨g, k * 3, none⟩) hg2).trans e0, (World.frozen?_of_block (a := ⟨g, k * 3, none⟩) hg2).trans (hr.soft _), _, Sf', hrow, fun q hq => ?_, (Below.heap_setCell _ _ _ _ (fun e => hgS.2.2 (by rw [show g = t9 from e.symm]))).trans (ht2.trans ht), by rw [List.length_set]; exact hll, hc, hm, ?_, h9⟩
  · rw [hss]
    rcases hq with hq | hq
    · have h1 := hS q hq
      exact ⟨h1.1, by omega, h1.2.2⟩
    · have h1 := hq.1
      have h2 := ht.lt
      exact ⟨by omega, hq.2, by omega⟩
  · exact (hB.trans ⟨o1, o2, o3, Nat.le_of_lt hlt, fun q hq => hbl q (by have := ht.lt; omega) (fun h => by have := (hS q h).1; omega)⟩).setCell (p := ⟨g, k * 3, none⟩) hgS.1 _
theorem OutS.log {w0 w : World} {b0 t9 n g c k : Nat} {L : List D_Box} {F G : List Int} {N : List D_Note} (h : OutS R_BoxG w0 w b0 t9 n L g c) (hx : L[k]? = some (F, G, N)) (hl : N.length ≤ 1048576) (x : D_Note) :
    ∃ a cF a' c' w2, w.cell? ⟨g, k * 3 + 2, none⟩ = some (.slice a N.length cF) ∧ (Builtin.append_ #[71, 71] 71 #[.slice a N.length cF, .slice (some ⟨w.heap.size, 0, none⟩) 1 1]).run Tryz.prog (w.alloc (.cells #[.int .i64 x.1, .int .i64 x.2] 75)) = .ok (.slice a' (N ++ [x]).length c') w2 ∧
      w2.cell? ⟨t9, 0, none⟩ = some (.slice (some ⟨g, 0, none⟩) n c) ∧ w2.cell? ⟨g, k * 3 + 2, none⟩ = some (.slice a N.length cF) ∧ w2.frozen? ⟨g, k * 3 + 2, none⟩ = false ∧ OutS R_BoxG w0 (w2.setCell ⟨g, k * 3 + 2, none⟩ (.slice a' (N ++ [x]).length c')) b0 t9 n (L.set k (F, G, N ++ [x])) g c := by
  obtain ⟨S, Sf, hr, hS, ht, hll, hc, hm, hB, h9⟩ := h
  obtain ⟨a, cF, a', c', w2, Sf', e0, hrun, hrow, hlt, o1, o2, o3, hfar⟩ := boxG_log hr (fun q hq => (hS q hq).2.1) hx hl x
  have hgS := hS g hr.own
  have hbl : ∀ q, q < w.heap.size → ¬ S q → w2.heap[q]? = w.heap[q]? := fun q hq hn => hfar q hq fun h => hn (hr.sub k q h).1
  have hg2 : w2.heap[g]? = w.heap[g]? := hfar g hgS.2.1 fun h => (hr.sub k g h).2 rfl
  have ht9 : ¬ S t9 := fun h => (hS t9 h).2.2 rfl
  have ht2 : w2.heap[t9]? = w.heap[t9]? := hbl t9 ht.lt ht9
  have hss : (w2.setCell ⟨g, k * 3 + 2, none⟩ (.slice a' (N ++ [x]).length c')).heap.size = w2.heap.size := by simp [World.setCell]
  refine ⟨a, cF, a', c', w2, e0, hrun, (World.cell?_of_block (a := ⟨t9, 0, none⟩) ht2).trans (ht.at_ 0 rfl), (World.cell?_of_block (a := ⟨g, k * 3 + 2, none⟩) hg2).trans e0, (World.frozen?_of_block (a := ⟨g, k * 3 + 2, none⟩) hg2).trans (hr.soft _), _, Sf', hrow, fun q hq => ?_, (Below.heap_setCell _ _ _ _ (fun e => hgS.2.2 (by rw [show g = t9 from e.symm]))).trans (ht2.trans ht), by rw [List.length_set]; exact hll, hc, hm, ?_, h9⟩
  · rw [hss]
    rcases hq with hq | hq
    · have h1 := hS q hq
      exact ⟨h1.1, by omega, h1.2.2⟩
    · have h1 := hq.1
      have h2 := ht.lt
      exact ⟨by omega, hq.2, by omega⟩
  · exact (hB.trans ⟨o1, o2, o3, Nat.le_of_lt hlt, fun q hq => hbl q (by have := ht.lt; omega) (fun h => by have := (hS q h).1; omega)⟩).setCell (p := ⟨g, k * 3 + 2, none⟩) hgS.1 _
theorem OutS.nextP {w0 w w1 : World} {b0 t9 n g c k : Nat} {L : List D_Box} {F G : List Int} {N : List D_Note} {F' : List Int} {a' : Option Addr} {c' : Nat} (h : OutS R_Box w0 w b0 t9 n L g c) (hx : L[k]? = some (F, G, N)) (hb : Below w.heap.size w w1) (ho : OwSl I w1 (Rg w.heap.size w1.heap.size) F' a' c') :
    ∃ a cF, w1.cell? ⟨g, k * 3, none⟩ = some (.slice a F.length cF) ∧ w1.frozen? ⟨g, k * 3, none⟩ = false ∧ OutS R_Box w0 (w1.setCell ⟨g, k * 3, none⟩ (.slice a' F'.length c')) b0 t9 n (L.set k (F', G, N)) g c := by
  obtain ⟨S, Sf, hr, hS, ht, hll, hc, hm, hB, h9⟩ := h
  obtain ⟨a, cF, Sf', e0, hrow⟩ := box_next hr (fun q hq => (hS q hq).2.1) hx hb ho
  have hgS := hS g hr.own
  have hbs := hb.size
  have hss : (w1.setCell ⟨g, k * 3, none⟩ (.slice a' F'.length c')).heap.size = w1.heap.size := by simp [World.setCell]
  refine ⟨a, cF, (hb.cell (p := ⟨g, k * 3, none⟩) hgS.2.1).trans e0, (hb.frozen (p := ⟨g, k * 3, none⟩) hgS.2.1).trans (hr.soft _), _, Sf', hrow, fun q hq => ?_, (Below.heap_setCell _ _ _ _ (fun e => hgS.2.2 (by rw [show g = t9 from e.symm]))).trans (ht.call hb), by rw [List.length_set]; exact hll, hc, hm, ?_, h9⟩
  · rw [hss]
    rcases hq with hq | hq
    · have h1 := hS q hq
      exact ⟨h1.1, by omega, h1.2.2⟩
    · have h1 := hq.1
      have h2 := ht.lt
      exact ⟨by omega, hq.2, by omega⟩
  · exact (hB.trans (hb.mono (Nat.le_trans h9 (Nat.le_of_lt ht.lt)))).setCell (p := ⟨g, k * 3, none⟩) hgS.1 _
theorem OutS.logP {w0 w w1 : World} {b0 t9 n g c k : Nat} {L : List D_Box} {F G : List Int} {N : List D_Note} {N' : List D_Note} {a' : Option Addr} {c' : Nat} (h : OutS R_Box w0 w b0 t9 n L g c) (hx : L[k]? = some (F, G, N)) (hb : Below w.heap.size w w1) (ho : OwSl R_Note w1 (Rg w.heap.size w1.heap.size) N' a' c') :
    ∃ a cF, w1.cell? ⟨g, k * 3 + 2, none⟩ = some (.slice a N.length cF) ∧ w1.frozen? ⟨g, k * 3 + 2, none⟩ = false ∧ OutS R_Box w0 (w1.setCell ⟨g, k * 3 + 2, none⟩ (.slice a' N'.length c')) b0 t9 n (L.set k (F, G, N')) g c := by
  obtain ⟨S, Sf, hr, hS, ht, hll, hc, hm, hB, h9⟩ := h
  obtain ⟨a, cF, Sf', e0, hrow⟩ := box_log hr (fun q hq => (hS q hq).2.1) hx hb ho
  have hgS := hS g hr.own
  have hbs := hb.size
  have hss : (w1.setCell ⟨g, k * 3 + 2, none⟩ (.slice a' N'.length c')).heap.size = w1.heap.size := by simp [World.setCell]
  refine ⟨a, cF, (hb.cell (p := ⟨g, k * 3 + 2, none⟩) hgS.2.1).trans e0, (hb.frozen (p := ⟨g, k * 3 + 2, none⟩) hgS.2.1).trans (hr.soft _), _, Sf', hrow, fun q hq => ?_, (Below.heap_setCell _ _ _ _ (fun e => hgS.2.2 (by rw [show g = t9 from e.symm]))).trans (ht.call hb), by rw [List.length_set]; exact hll, hc, hm, ?_, h9⟩
  · rw [hss]
    rcases hq with hq | hq
    · have h1 := hS q hq
      exact ⟨h1.1, by omega, h1.2.2⟩
    · have h1 := hq.1
      have h2 := ht.lt
      exact ⟨by omega, hq.2, by omega⟩
  · exact (hB.trans (hb.mono (Nat.le_trans h9 (Nat.le_of_lt ht.lt)))).setCell (p := ⟨g, k * 3 + 2, none⟩) hgS.1 _
end Go.Proofs.YtlgflddljhldhaaGreat.RepC
end
section
namespace Go.Proofs.YtlgflddljhldhaaGreat.RepC
open Go.RowKit RowC ValC SpanC KeptC CfC
set_option linter.unusedVariables false
set_option linter.unusedSimpArgs false
set_option maxRecDepth 100000 in
set_option maxHeartbeats 3200000 in
theorem pairat_spec {C : List (List D_Label)} {P : List D_Pair} {Q : List D_Quota} {hf : Int} {ca pa qa : Option Addr} {cc pc qc : Nat} {f0 f1 t0 t1 : Int} {W : World} (hC : RdSl (Sl R_Label) W W.heap.size C ca cc) (hP : RdSl R_Pair W W.heap.size P pa pc) (hQ : RdSl R_Quota W W.heap.size Q qa qc) :
    Calls Tryz.prog 37 #[.agg #[.slice ca C.length cc, .slice pa P.length pc, .slice qa Q.length qc, .int .i64 hf], .agg #[.int .i64 f0, .int .i64 f1], .agg #[.int .i64 t0, .int .i64 t1]] W (IsI (pairV C P Q hf (f0, f1) (t0, t1)) W) := by
  obtain ⟨M, hM⟩ : ∃ M, pairV C P Q hf (f0, f1) (t0, t1) = M := ⟨_, rfl⟩
  have HM := Lib.hid hM
  rw [hM]
  clear hM
  have hcn : C.length ≤ 9223372036854775807 := by have h1 := hC.1; have h2 := hC.2.1; unfold maxLen at h2; omega
  have hpn : P.length ≤ 9223372036854775807 := by have h1 := hP.1; have h2 := hP.2.1; unfold maxLen at h2; omega
  have hqn : Q.length ≤ 9223372036854775807 := by have h1 := hQ.1; have h2 := hQ.2.1; unfold maxLen at h2; omega
  obtain ⟨z, hz⟩ : ∃ z, cfgB C P Q hf = z := ⟨_, rfl⟩
  have HZ := Lib.hid hz
  clear hz
  obtain ⟨w0, hw0⟩ : ∃ w, w = ((W.alloc (.cells #[.slice ca C.length cc, .slice pa P.length pc, .slice qa Q.length qc, .int .i64 hf] 44)).alloc (.cells #[.int .i64 f0, .int .i64 f1] 47)).alloc (.cells #[.int .i64 t0, .int .i64 t1] 47) := ⟨_, rfl⟩
  have hb0 : Below W.heap.size W w0 := by rw [hw0]; exact (((Below.refl _ _).alloc (Nat.le_refl _) _).alloc (by simp) _).alloc (by simp <;> omega) _
  have x0 : Blk w0 (W.heap.size) 44 #[.slice ca C.length cc, .slice pa P.length pc, .slice qa Q.length qc, .int .i64 hf] := by
    have h9 := Blk.new W 44 #[.slice ca C.length cc, .slice pa P.length pc, .slice qa Q.length qc, .int .i64 hf]
    try simp only [World.size_alloc] at h9
    rw [hw0]; exact ((h9.alloc _).alloc _)
  have X0 := Lib.hid x0
  have x1 : Blk w0 (W.heap.size + 1) 47 #[.int .i64 f0, .int .i64 f1] := by
    have h9 := Blk.new (W.alloc (.cells #[.slice ca C.length cc, .slice pa P.length pc, .slice qa Q.length qc, .int .i64 hf] 44)) 47 #[.int .i64 f0, .int .i64 f1]
    try simp only [World.size_alloc] at h9
    rw [hw0]; exact (h9.alloc _)
  have X1 := Lib.hid x1
  have x2 : Blk w0 (W.heap.size + 1 + 1) 47 #[.int .i64 t0, .int .i64 t1] := by
    have h9 := Blk.new ((W.alloc (.cells #[.slice ca C.length cc, .slice pa P.length pc, .slice qa Q.length qc, .int .i64 hf] 44)).alloc (.cells #[.int .i64 f0, .int .i64 f1] 47)) 47 #[.int .i64 t0, .int .i64 t1]
    try simp only [World.size_alloc] at h9
    rw [hw0]; exact h9
  have X2 := Lib.hid x2
  have HC := Lib.hid (rd_mv (Sl_ok R_Label_ok) hC hb0)
  have HP := Lib.hid (rd_mv R_Pair_ok hP hb0)
  have HQ := Lib.hid (rd_mv R_Quota_ok hQ hb0)
  have HB0 := Lib.hid hb0
  have hz0 := hb0.size
  clear hb0 hC hP hQ x0 x1 x2
  go_enter Tryz.func37, Tryz.ntmps37
  have p0 := X0.out.at_ 0 rfl
  have p1 := X0.out.at_ 1 rfl
  have p2 := X0.out.at_ 2 rfl
  have p3 := X0.out.at_ 3 rfl
  rw [hw0] at p0 p1 p2 p3
  go_wp2_with fail
  rw [← hw0]
  clear hw0 p0 p1 p2 p3
  have hcf := config_spec HC.out HP.out HQ.out (hf := hf)
  rw [HZ.out] at hcf
  refine hcf.mono ?_
  intro e v2 h
  obtain ⟨rfl, hb⟩ := isB_elim h
  have HB1 := Lib.hid (HB0.out.trans (hb.mono hz0))
  have Z0 := Lib.hid (X0.out.call hb)
  have Z1 := Lib.hid (X1.out.call hb)
  have Z2 := Lib.hid (X2.out.call hb)
  have HP2 := Lib.hid (rd_mv R_Pair_ok HP.out hb)
  have hz1 := HB1.out.size
  clear h hb hcf
  have p1 := Z0.out.at_ 1 rfl
  cases z with
  | false =>
    have HE := Lib.hid (show M = -1 from by rw [← HM.out]; unfold pairV; rw [HZ.out]; rfl)
    obtain rfl := HE.out
    go_wp2
    go_ret
    exact ⟨rfl, HB1.out⟩
  | true =>
  have HE := Lib.hid (show M = ixP P (f0, f1) (t0, t1) from by rw [← HM.out]; unfold pairV; rw [HZ.out]; rfl)
  go_wp2
  go_loopw [7] (fun i wr => ∃ k : Nat, k ≤ P.length ∧ i = .int .i64 k ∧ Hid (∀ (q : Nat) y, q < k → P[q]? = some y → ¬ hitP (f0, f1) (t0, t1) y) ∧ Below v2.heap.size v2 wr) (fun i _ => P.length - (intOf i).toNat)
  case atStart => exact ⟨0, Nat.zero_le _, rfl, Lib.hid fun j y h => absurd h (Nat.not_lt_zero _), Below.refl _ _⟩
  case round =>
    obtain ⟨k, hk, rfl, HA, hB⟩ := hrel
    have HB := Lib.hid hB
    have hsz := hB.size
    have Y0 := Lib.hid (Z0.out.call hB)
    have Y1 := Lib.hid (Z1.out.call hB)
    have Y2 := Lib.hid (Z2.out.call hB)
    have q1 := Y0.out.at_ 1 rfl
    by_cases hlt : k < P.length
    · have hdl : decide ((k : Int) < (P.length : Int)) = true := decide_eq_true (by omega)
      obtain ⟨⟨⟨x0, x1⟩, ⟨x2, x3⟩, x4⟩, hx⟩ := el_some hlt
      have HX := Lib.hid hx
      obtain ⟨g, o, us, rfl, hg, hu, hr⟩ := (rd_mv R_Pair_ok HP2.out hB).at_ hx
      obtain rfl := rd_Pair hr
      have e0 : wr.cell? ⟨g, o + k * 5, none⟩ = some (.int .i64 x0) := by simpa [size_PairS, Nat.add_assoc] using hu 0 _ rfl
      have e1 : wr.cell? ⟨g, o + k * 5 + 1, none⟩ = some (.int .i64 x1) := by simpa [size_PairS, Nat.add_assoc] using hu 1 _ rfl
      have e2 : wr.cell? ⟨g, o + k * 5 + 2, none⟩ = some (.int .i64 x2) := by simpa [size_PairS, Nat.add_assoc] using hu 2 _ rfl
      have e3 : wr.cell? ⟨g, o + k * 5 + 3, none⟩ = some (.int .i64 x3) := by simpa [size_PairS, Nat.add_assoc] using hu 3 _ rfl
      have HG := Lib.hid hg
      have hi0 : (0 : Int) ≤ (k : Int) := Int.natCast_nonneg _
      have hi1 : (k : Int) < (P.length : Int) := by omega
      obtain ⟨b1, hb1⟩ : ∃ b, decide (((x0, x1) : Int × Int) = (f0, f1)) = b := ⟨_, rfl⟩
      obtain ⟨b2, hb2⟩ : ∃ b, decide (((x2, x3) : Int × Int) = (t0, t1)) = b := ⟨_, rfl⟩
      have hE1 := eql_lab _ _ _ _ _ hb1
      have hE2 := eql_lab _ _ _ _ _ hb2
      have HBE := Lib.hid (And.intro hb1 hb2)
      clear hB hx hu hr hg hb1 hb2 p1
      cases b1 with
      | false =>
        have HA2 := Lib.hid (show ∀ (q : Nat) y, q < k + 1 → P[q]? = some y → ¬ hitP (f0, f1) (t0, t1) y from fun q y hq hy => by
          by_cases e : q = k
          · subst e; rw [HX.out] at hy; obtain rfl := Option.some.inj hy
            exact fun h => of_decide_eq_false HBE.out.1 h.1
          · exact HA.out q y (by omega) hy)
        go_wp2_with fail
        refine wp_region_held_drew (S := (fun V => Below (wr).heap.size (wr) V)) (by kernel_rfl) ((Below.refl _ _).drew) (fun hHeld => ?_)
        refine tk 0 hHeld ?_
        refine tk 1 hHeld ?_ (hy := fun w hSw => by (try dsimp only at hSw); have k0 := (hSw.cell (p := ⟨W.heap.size, 1, none⟩) Y0.out.lt).trans (Y0.out.at_ 1 rfl); clear hSw; go_simp; try with_reducible rfl)
        refine tk 2 hHeld ?_
        refine tk 3 hHeld ?_
        refine tk 4 hHeld ?_
        refine tk 5 hHeld ?_ (hy := fun w hSw => by (try dsimp only at hSw); have k0 := (hSw.cell (p := ⟨g, o + k * 5, none⟩) HG.out).trans e0; have k1 := (hSw.cell (p := ⟨g, o + k * 5 + 1, none⟩) HG.out).trans e1; clear hSw; go_simp; try with_reducible rfl)
        refine tk 6 hHeld ?_ (hy := fun w hSw => by (try dsimp only at hSw); have k0 := (hSw.cell (p := ⟨W.heap.size + 1, 0, none⟩) Y1.out.lt).trans (Y1.out.at_ 0 rfl); have k1 := (hSw.cell (p := ⟨W.heap.size + 1, 1, none⟩) Y1.out.lt).trans (Y1.out.at_ 1 rfl); clear hSw; go_simp; try with_reducible rfl)
        refine tk 7 hHeld ?_
        refine tk 8 hHeld ?_
        refine tn 9 hHeld ?_
        refine tn 10 hHeld ?_
        refine tn 11 hHeld ?_
        refine tn 12 hHeld ?_
        refine tn 13 hHeld ?_
        refine tn 14 hHeld ?_
        refine tn 15 hHeld ?_
        refine tn 16 hHeld ?_
        refine tk 17 hHeld ?_
        refine rd0 ?_
        have HF := Lib.hid hHeld
        clear hHeld
        have HB3 := Lib.hid (HB.out.trans (HF.out.mono hsz))
        clear HF e0 e1 e2 e3 q1
        go_wp2
        go_roundw
        case rel => exact ⟨k + 1, by omega, by go_num, HA2, HB3.out⟩
        case measure => simp [intOf]; omega
      | true =>
      cases b2 with
      | false =>
        have HA2 := Lib.hid (show ∀ (q : Nat) y, q < k + 1 → P[q]? = some y → ¬ hitP (f0, f1) (t0, t1) y from fun q y hq hy => by
          by_cases e : q = k
          · subst e; rw [HX.out] at hy; obtain rfl := Option.some.inj hy
            exact fun h => of_decide_eq_false HBE.out.2 h.2
          · exact HA.out q y (by omega) hy)
        go_wp2_with fail
        refine wp_region_held_drew (S := (fun V => Below (wr).heap.size (wr) V)) (by kernel_rfl) ((Below.refl _ _).drew) (fun hHeld => ?_)
        refine tk 0 hHeld ?_
        refine tk 1 hHeld ?_ (hy := fun w hSw => by (try dsimp only at hSw); have k0 := (hSw.cell (p := ⟨W.heap.size, 1, none⟩) Y0.out.lt).trans (Y0.out.at_ 1 rfl); clear hSw; go_simp; try with_reducible rfl)
        refine tk 2 hHeld ?_
        refine tk 3 hHeld ?_
        refine tk 4 hHeld ?_
        refine tk 5 hHeld ?_ (hy := fun w hSw => by (try dsimp only at hSw); have k0 := (hSw.cell (p := ⟨g, o + k * 5, none⟩) HG.out).trans e0; have k1 := (hSw.cell (p := ⟨g, o + k * 5 + 1, none⟩) HG.out).trans e1; clear hSw; go_simp; try with_reducible rfl)
        refine tk 6 hHeld ?_ (hy := fun w hSw => by (try dsimp only at hSw); have k0 := (hSw.cell (p := ⟨W.heap.size + 1, 0, none⟩) Y1.out.lt).trans (Y1.out.at_ 0 rfl); have k1 := (hSw.cell (p := ⟨W.heap.size + 1, 1, none⟩) Y1.out.lt).trans (Y1.out.at_ 1 rfl); clear hSw; go_simp; try with_reducible rfl)
        refine tk 7 hHeld ?_
        refine tk 8 hHeld ?_
        refine tk 9 hHeld ?_
        refine tk 10 hHeld ?_ (hy := fun w hSw => by (try dsimp only at hSw); have k0 := (hSw.cell (p := ⟨W.heap.size, 1, none⟩) Y0.out.lt).trans (Y0.out.at_ 1 rfl); clear hSw; go_simp; try with_reducible rfl)
        refine tk 11 hHeld ?_
        refine tk 12 hHeld ?_
        refine tk 13 hHeld ?_
        refine tk 14 hHeld ?_ (hy := fun w hSw => by (try dsimp only at hSw); have k0 := (hSw.cell (p := ⟨g, o + k * 5 + 2, none⟩) HG.out).trans e2; have k1 := (hSw.cell (p := ⟨g, o + k * 5 + 3, none⟩) HG.out).trans e3; clear hSw; go_simp; try with_reducible rfl)
        refine tk 15 hHeld ?_ (hy := fun w hSw => by (try dsimp only at hSw); have k0 := (hSw.cell (p := ⟨W.heap.size + 1 + 1, 0, none⟩) Y2.out.lt).trans (Y2.out.at_ 0 rfl); have k1 := (hSw.cell (p := ⟨W.heap.size + 1 + 1, 1, none⟩) Y2.out.lt).trans (Y2.out.at_ 1 rfl); clear hSw; go_simp; try with_reducible rfl)
        refine tk 16 hHeld ?_
        refine tk 17 hHeld ?_
        refine rd0 ?_
        have HF := Lib.hid hHeld
        clear hHeld
        have HB3 := Lib.hid (HB.out.trans (HF.out.mono hsz))
        clear HF e0 e1 e2 e3 q1
        go_wp2
        go_roundw
        case rel => exact ⟨k + 1, by omega, by go_num, HA2, HB3.out⟩
        case measure => simp [intOf]; omega
      | true =>
        have HV := Lib.hid (show M = (k : Int) from by rw [HE.out]; exact ixP_hit HX.out ⟨of_decide_eq_true HBE.out.1, of_decide_eq_true HBE.out.2⟩ HA.out)
        go_wp2_with fail
        refine wp_region_held_drew (S := (fun V => Below (wr).heap.size (wr) V)) (by kernel_rfl) ((Below.refl _ _).drew) (fun hHeld => ?_)
        refine tk 0 hHeld ?_
        refine tk 1 hHeld ?_ (hy := fun w hSw => by (try dsimp only at hSw); have k0 := (hSw.cell (p := ⟨W.heap.size, 1, none⟩) Y0.out.lt).trans (Y0.out.at_ 1 rfl); clear hSw; go_simp; try with_reducible rfl)
        refine tk 2 hHeld ?_
        refine tk 3 hHeld ?_
        refine tk 4 hHeld ?_
        refine tk 5 hHeld ?_ (hy := fun w hSw => by (try dsimp only at hSw); have k0 := (hSw.cell (p := ⟨g, o + k * 5, none⟩) HG.out).trans e0; have k1 := (hSw.cell (p := ⟨g, o + k * 5 + 1, none⟩) HG.out).trans e1; clear hSw; go_simp; try with_reducible rfl)
        refine tk 6 hHeld ?_ (hy := fun w hSw => by (try dsimp only at hSw); have k0 := (hSw.cell (p := ⟨W.heap.size + 1, 0, none⟩) Y1.out.lt).trans (Y1.out.at_ 0 rfl); have k1 := (hSw.cell (p := ⟨W.heap.size + 1, 1, none⟩) Y1.out.lt).trans (Y1.out.at_ 1 rfl); clear hSw; go_simp; try with_reducible rfl)
        refine tk 7 hHeld ?_
        refine tk 8 hHeld ?_
        refine tk 9 hHeld ?_
        refine tk 10 hHeld ?_ (hy := fun w hSw => by (try dsimp only at hSw); have k0 := (hSw.cell (p := ⟨W.heap.size, 1, none⟩) Y0.out.lt).trans (Y0.out.at_ 1 rfl); clear hSw; go_simp; try with_reducible rfl)
        refine tk 11 hHeld ?_
        refine tk 12 hHeld ?_
        refine tk 13 hHeld ?_
        refine tk 14 hHeld ?_ (hy := fun w hSw => by (try dsimp only at hSw); have k0 := (hSw.cell (p := ⟨g, o + k * 5 + 2, none⟩) HG.out).trans e2; have k1 := (hSw.cell (p := ⟨g, o + k * 5 + 3, none⟩) HG.out).trans e3; clear hSw; go_simp; try with_reducible rfl)
        refine tk 15 hHeld ?_ (hy := fun w hSw => by (try dsimp only at hSw); have k0 := (hSw.cell (p := ⟨W.heap.size + 1 + 1, 0, none⟩) Y2.out.lt).trans (Y2.out.at_ 0 rfl); have k1 := (hSw.cell (p := ⟨W.heap.size + 1 + 1, 1, none⟩) Y2.out.lt).trans (Y2.out.at_ 1 rfl); clear hSw; go_simp; try with_reducible rfl)
        refine tk 16 hHeld ?_
        refine tk 17 hHeld ?_
        refine rd0 ?_
        have HF := Lib.hid hHeld
        clear hHeld
        have HB3 := Lib.hid (HB.out.trans (HF.out.mono hsz))
        clear HF e0 e1 e2 e3 q1
        go_wp2
        go_ret
        exact ⟨by rw [HV.out]; rfl, HB1.out.trans (HB3.out.mono hz1)⟩
    · have hdl : decide ((k : Int) < (P.length : Int)) = false := decide_eq_false (by omega)
      have HV := Lib.hid (show M = -1 from by rw [HE.out]; exact ixP_none fun q y hy => HA.out q y (by have := el_lt hy; omega) hy)
      obtain rfl := HV.out
      clear hB
      go_wp2
      go_ret
      exact ⟨rfl, HB1.out.trans (HB.out.mono hz1)⟩
end Go.Proofs.YtlgflddljhldhaaGreat.RepC
end
