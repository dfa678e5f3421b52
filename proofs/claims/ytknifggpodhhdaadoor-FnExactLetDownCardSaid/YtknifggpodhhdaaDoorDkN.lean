/- letters of the program: slices.Grow, slices.Concat of two: contracts. -/
import Derived.Test.YtknifggpodhhdaaDoorFlatR
import Derived.Test.YtknifggpodhhdaaDoorDkM
namespace Go.Proofs.YtknifggpodhhdaaDoor.RepC
open Go.RowKit RowC ValC SpanC KeptC
set_option linter.unusedVariables false
set_option linter.unusedSimpArgs false

/-- a row of the call's own -/
def NewL (L : List D_Letter) (W : World) (e : Ending) (w' : World) : Prop := ∃ v lo, e = .returned v ∧ W.heap.size ≤ lo ∧ lo ≤ w'.heap.size ∧ LRow w' lo v L ∧ Below W.heap.size W w'
theorem newL_elim {L : List D_Letter} {W : World} {e : Ending} {w' : World} (h : NewL L W e w') : ∃ v lo, e = .returned v ∧ W.heap.size ≤ lo ∧ lo ≤ w'.heap.size ∧ LRow w' lo v L ∧ Below W.heap.size W w' := h
theorem NewL.news {L : List D_Letter} {W : World} {e : Ending} {w' : World} (h : NewL L W e w') : NewS R_Letter L W e w' := by
  obtain ⟨v, lo, rfl, h1, h2, hr, hb⟩ := h
  obtain ⟨a, c, rfl, ho⟩ := hr.sl R_Letter_ok flat_Letter
  exact ⟨a, c, rfl, ho.more fun k hk => ⟨Nat.le_trans h1 (hr.blk k hk).1, (hr.blk k hk).2⟩, hb⟩
set_option maxRecDepth 100000 in
set_option maxHeartbeats 1600000 in
theorem grow_impl {n : Nat} {z : Int} (hz : z = (n : Int)) (hn : n ≤ 1099511627776) {W : World} : Calls Tryd.prog 110 #[.slice none 0 0, .int .i64 z] W (NewL [] W) := by
  subst hz
  by_cases h0 : n = 0
  · subst h0
    go_enter Tryd.func110, Tryd.ntmps110
    go_wp2
    go_ret
    exact ⟨_, W.heap.size, rfl, Nat.le_refl _, Nat.le_refl _, FRow.none_ _ _ _ _ _, Below.refl _ _⟩
  · obtain ⟨c, w', hr, hrow, hb, hle⟩ := LRow.grown (w := W) (n := n) (by omega) hn
    have HR := Lib.hid hr
    have HW := Lib.hid hrow
    have HB := Lib.hid hb
    have hw : IntKind.i64.wrap (n : Int) = (n : Int) := IntWalk.i64_in _ (by omega)
    have hp : decide ((n : Int) > 0) = true := decide_eq_true (by omega)
    have hp2 : decide (0 < n) = true := decide_eq_true (by omega)
    have hm : decide ((n : Int) < 0) = false := decide_eq_false (by omega)
    clear hr hrow hb
    go_enter Tryd.func110, Tryd.ntmps110
    go_wp2_with (at_builtin; refine Lib.wpList_append_run _ rfl (.tmp 20) (.tmp 21) _ _ rfl _ _ rfl rfl _ _ HR.out ?_)
    go_ret
    exact ⟨_, W.heap.size, rfl, Nat.le_refl _, HB.out.size, HW.out, HB.out⟩
set_option maxRecDepth 100000 in
set_option maxHeartbeats 3200000 in
theorem concat_impl {L M : List D_Letter} {la ma : Option Addr} {lc mc b : Nat} {W : World} (hn : L.length + M.length ≤ 1073741824) (hL : RdSl R_Letter W W.heap.size L la lc) (hM : RdSl R_Letter W W.heap.size M ma mc) (hb : Blk W b 40 #[.slice la L.length lc, .slice ma M.length mc]) :
    Calls Tryd.prog 100 #[.slice (some ⟨b, 0, none⟩) 2 2] W (NewL (L ++ M) W) := by
  have HL := Lib.hid hL
  have HM := Lib.hid hM
  have HBK := Lib.hid hb
  have hbl := hb.lt
  have hw1 : IntKind.i64.wrap (L.length : Int) = (L.length : Int) := IntWalk.i64_in _ (by omega)
  have hw2 : IntKind.i64.wrap ((L.length : Int) + (M.length : Int)) = (L.length : Int) + (M.length : Int) := IntWalk.i64_in _ (by omega)
  have hd1 : decide ((L.length : Int) < 0) = false := decide_eq_false (by omega)
  have hd2 : decide ((L.length : Int) + (M.length : Int) < 0) = false := decide_eq_false (by omega)
  clear hL hM hb
  go_enter Tryd.func100, Tryd.ntmps100
  go_wp2
  go_loopw [3, 11] (fun s i wr => ((i = .int .i64 0 ∧ s = .int .i64 0) ∨ (i = .int .i64 1 ∧ s = .int .i64 (L.length : Int)) ∨ (i = .int .i64 2 ∧ s = .int .i64 ((L.length : Int) + (M.length : Int)))) ∧ Below W.heap.size W wr) (fun _ i _ => 2 - (intOf i).toNat)
  case atStart => exact ⟨.inl ⟨rfl, rfl⟩, Below.refl _ _⟩
  case round =>
    obtain ⟨hcase, hB⟩ := hrel
    have HB := Lib.hid hB
    have hsz := hB.size
    have HK := Lib.hid (show Blk wr b 40 #[.slice la L.length lc, .slice ma M.length mc] from HBK.out.call hB)
    have e0 := HK.out.at_ 0 rfl
    have e1 := HK.out.at_ 1 rfl
    rcases hcase with ⟨rfl, rfl⟩ | ⟨rfl, rfl⟩ | ⟨rfl, rfl⟩
    · clear hB
      go_wp2
      go_roundw
      case rel => exact ⟨.inr (.inl ⟨rfl, rfl⟩), HB.out⟩
      case measure => simp [intOf]
    · clear hB
      go_wp2
      go_roundw
      case rel => exact ⟨.inr (.inr ⟨rfl, rfl⟩), HB.out⟩
      case measure => simp [intOf]
    · clear hB e0 e1
      go_wp2_with fail
      refine (grow_impl (n := L.length + M.length) (by simp) (by omega)).mono ?_
      intro e w1 h
      obtain ⟨v, lo, rfl, hlo, hlw, hrow, hb⟩ := newL_elim h
      have HB1 := Lib.hid (HB.out.trans (hb.mono hsz))
      have hz1 := HB1.out.size
      have HV := Lib.hid hrow
      have hlo0 : W.heap.size ≤ lo := by omega
      clear h hrow hb
      go_wp2
      go_loopw [6, 27] (fun v i wr => ((i = .int .i64 0 ∧ ∃ lo, W.heap.size ≤ lo ∧ lo ≤ wr.heap.size ∧ LRow wr lo v []) ∨ (i = .int .i64 1 ∧ ∃ lo, W.heap.size ≤ lo ∧ lo ≤ wr.heap.size ∧ LRow wr lo v L) ∨ (i = .int .i64 2 ∧ ∃ lo, W.heap.size ≤ lo ∧ lo ≤ wr.heap.size ∧ LRow wr lo v (L ++ M))) ∧ Below W.heap.size W wr) (fun _ i _ => 2 - (intOf i).toNat)
      case atStart => exact ⟨.inl ⟨rfl, lo, hlo0, hlw, HV.out⟩, HB1.out⟩
      case round =>
        obtain ⟨hcase, hB⟩ := hrel
        have HB := Lib.hid hB
        have hsz := hB.size
        have HK := Lib.hid (show Blk wr b 40 #[.slice la L.length lc, .slice ma M.length mc] from HBK.out.call hB)
        have e0 := HK.out.at_ 0 rfl
        have e1 := HK.out.at_ 1 rfl
        have HLr := Lib.hid (gmvS HL.out hB)
        have HMr := Lib.hid (gmvS HM.out hB)
        rcases hcase with ⟨rfl, lo2, hl1, hl2, hrow⟩ | ⟨rfl, lo2, hl1, hl2, hrow⟩ | ⟨rfl, lo2, hl1, hl2, hrow⟩
        · obtain ⟨va, vc, rfl⟩ := hrow.isSlice
          obtain ⟨a', c', w2, hr, hrow2, hb2⟩ := LRow.more hrow HLr.out hl2 (by simp only [List.length_nil]; omega)
          simp only [List.nil_append, List.length_nil] at hr hrow2
          have HR := Lib.hid hr
          have HW2 := Lib.hid hrow2
          have HB2 := Lib.hid (HB.out.trans (hb2.mono hl1))
          have hl3 := Nat.le_trans hl2 hb2.size
          clear hr hrow2 hb2 hrow hB
          go_wp2_with (at_builtin; refine wpList_app rfl (.tmp 31) (.tmp 32) 40 rfl rfl rfl HR.out ?_)
          go_roundw
          case rel => exact ⟨.inr (.inl ⟨rfl, lo2, hl1, hl3, HW2.out⟩), HB2.out⟩
          case measure => simp [intOf]
        · obtain ⟨va, vc, rfl⟩ := hrow.isSlice
          obtain ⟨a', c', w2, hr, hrow2, hb2⟩ := LRow.more hrow HMr.out hl2 (by omega)
          have HR := Lib.hid hr
          have HW2 := Lib.hid hrow2
          have HB2 := Lib.hid (HB.out.trans (hb2.mono hl1))
          have hl3 := Nat.le_trans hl2 hb2.size
          clear hr hrow2 hb2 hrow hB
          go_wp2_with (at_builtin; refine wpList_app rfl (.tmp 31) (.tmp 32) 40 rfl rfl rfl HR.out ?_)
          go_roundw
          case rel => exact ⟨.inr (.inr ⟨rfl, lo2, hl1, hl3, by simpa using HW2.out⟩), HB2.out⟩
          case measure => simp [intOf]
        · have HW2 := Lib.hid hrow
          clear hrow hB e0 e1
          go_wp2
          go_ret
          exact ⟨_, lo2, rfl, hl1, hl2, HW2.out, HB.out⟩
set_option maxRecDepth 100000 in
set_option maxHeartbeats 1600000 in
theorem letters2_impl {L M : List D_Letter} {la ma : Option Addr} {lc mc : Nat} {W : World} (hn : L.length + M.length ≤ 1073741824) (hL : RdSl R_Letter W W.heap.size L la lc) (hM : RdSl R_Letter W W.heap.size M ma mc) :
    Calls Tryd.prog 87 #[.slice la L.length lc, .slice ma M.length mc] W (NewS R_Letter (L ++ M) W) := by
  obtain ⟨hb0, hp0⟩ := bx1 W #[.slice la L.length lc, .slice ma M.length mc] 40
  obtain ⟨w0, hw0⟩ : ∃ w, w = W.alloc (.cells #[.slice la L.length lc, .slice ma M.length mc] 40) := ⟨_, rfl⟩
  rw [← hw0] at hb0 hp0
  have HB0 := Lib.hid hb0
  have HP0 := Lib.hid hp0
  have HL := Lib.hid (gmvS hL hb0)
  have HM := Lib.hid (gmvS hM hb0)
  have hz0 := hb0.size
  clear hb0 hp0 hL hM
  go_enter Tryd.func87, Tryd.ntmps87
  go_wp2_with fail
  rw [← hw0]
  clear hw0
  refine (concat_impl hn HL.out HM.out HP0.out).mono ?_
  intro e w1 h
  obtain ⟨a, c, rfl, ho, hb⟩ := newS_elim h.news
  have HO := Lib.hid (ho.more (T := Rg W.heap.size w1.heap.size) fun k hk => ⟨Nat.le_trans hz0 hk.1, hk.2⟩)
  have HB1 := Lib.hid (HB0.out.trans (hb.mono hz0))
  clear h ho hb
  go_wp2
  go_ret
  exact ⟨a, c, by simp, HO.out, HB1.out⟩
theorem letters1_impl {L : List D_Letter} {la : Option Addr} {lc : Nat} {W : World} (hn : L.length ≤ 1073741824) (hL : RdSl R_Letter W W.heap.size L la lc) :
    Calls Tryd.prog 87 #[.slice la L.length lc, .slice none 0 0] W (NewS R_Letter L W) := by
  have h := letters2_impl (M := []) (ma := none) (mc := 0) (by simpa using hn) hL ⟨Nat.le_refl _, Nat.zero_le _, fun h => absurd h (Nat.lt_irrefl _)⟩
  rw [List.append_nil] at h
  exact h
end Go.Proofs.YtknifggpodhhdaaDoor.RepC
