/- Of this claim's texts the part 17: CfL1 CmpL LbC GrwC SortLb LabS CfL2. -/
import Derived.WalkLawsBesides
import Derived.Shelf.SlicesG.Cmp
import Derived.Ground.SlgcProg
import Derived.Test.YtlgflddljhldhaaGreatProg
import Derived.Sort.Grow
import Derived.Sort.Walk0
import Derived.Sort.Statements
import Derived.Shelf.SlSortCmp.WholeK
import Derived.Ground.SlsfProg
import Derived.Lib.SlicesCompact
import Derived.Lib.SliceRun
import Derived.Test.YtlgflddljhldhaaGreatPL13
import Derived.Test.YtlgflddljhldhaaGreatPL15
section
namespace Go.Proofs.YtlgflddljhldhaaGreat.RepC
open Go.RowKit RowC ValC SpanC KeptC
set_option linter.unusedVariables false
set_option linter.unusedSimpArgs false
def NewB (L : List D_Label) (W : World) (e : Ending) (w' : World) : Prop := ∃ v lo, e = .returned v ∧ W.heap.size ≤ lo ∧ lo ≤ w'.heap.size ∧ BRow w' lo v L ∧ Below W.heap.size W w'
theorem newB_elim {L : List D_Label} {W : World} {e : Ending} {w' : World} (h : NewB L W e w') : ∃ v lo, e = .returned v ∧ W.heap.size ≤ lo ∧ lo ≤ w'.heap.size ∧ BRow w' lo v L ∧ Below W.heap.size W w' := h
set_option maxRecDepth 100000 in
set_option maxHeartbeats 1600000 in
theorem growb_impl {n : Nat} {z : Int} (hz : z = (n : Int)) (hn : n ≤ 1099511627776) {W : World} : Calls Tryz.prog 134 #[.slice none 0 0, .int .i64 z] W (NewB [] W) := by
  subst hz
  by_cases h0 : n = 0
  · subst h0
    go_enter Tryz.func134, Tryz.ntmps134
    go_wp2
    go_ret
    exact ⟨_, W.heap.size, rfl, Nat.le_refl _, Nat.le_refl _, FRow.none_ _ _ _ _ _, Below.refl _ _⟩
  · obtain ⟨c, w', hr, hrow, hb, hle⟩ := BRow.grown (w := W) (n := n) (by omega) hn
    have HR := Lib.hid hr
    have HW := Lib.hid hrow
    have HB := Lib.hid hb
    have hw : IntKind.i64.wrap (n : Int) = (n : Int) := IntWalk.i64_in _ (by omega)
    have hp : decide ((n : Int) > 0) = true := decide_eq_true (by omega)
    have hp2 : decide (0 < n) = true := decide_eq_true (by omega)
    have hm : decide ((n : Int) < 0) = false := decide_eq_false (by omega)
    clear hr hrow hb
    go_enter Tryz.func134, Tryz.ntmps134
    go_wp2_with (at_builtin; refine Lib.wpList_append_run _ rfl (.tmp 20) (.tmp 21) _ _ rfl _ _ rfl rfl _ _ HR.out ?_)
    go_ret
    exact ⟨_, W.heap.size, rfl, Nat.le_refl _, HB.out.size, HW.out, HB.out⟩
theorem flatten_take {C : List (List D_Label)} {k : Nat} {x : List D_Label} (h : C[k]? = some x) : (C.take (k + 1)).flatten = (C.take k).flatten ++ x := by
  rw [List.take_add_one, h]; simp
theorem flatten_take_le (C : List (List D_Label)) (k : Nat) : (C.take k).flatten.length ≤ C.flatten.length := by
  have : C.flatten = (C.take k).flatten ++ (C.drop k).flatten := by rw [← List.flatten_append, List.take_append_drop]
  rw [this, List.length_append]; omega
theorem sizeSL1 : (Sl R_Label).size = 1 := rfl
set_option maxRecDepth 100000 in
set_option maxHeartbeats 3200000 in
theorem concat_labs {C : List (List D_Label)} {ca : Option Addr} {cc : Nat} {W : World} (hn : C.flatten.length ≤ 1073741824) (hC : RdSl (Sl R_Label) W W.heap.size C ca cc) :
    Calls Tryz.prog 128 #[.slice ca C.length cc] W (NewB C.flatten W) := by
  have hcn : C.length ≤ 9223372036854775807 := by have h1 := hC.1; have h2 := hC.2.1; unfold maxLen at h2; omega
  have HC := Lib.hid hC
  have HN := Lib.hid hn
  clear hC hn
  go_enter Tryz.func128, Tryz.ntmps128
  go_wp2
  go_loopw [3, 11] (fun s i wr => ∃ k m : Nat, k ≤ C.length ∧ i = .int .i64 k ∧ s = .int .i64 m ∧ Hid (m = (C.take k).flatten.length) ∧ Below W.heap.size W wr) (fun _ i _ => C.length - (intOf i).toNat)
  case atStart => exact ⟨0, 0, Nat.zero_le _, rfl, rfl, Lib.hid (by simp), Below.refl _ _⟩
  case round =>
    obtain ⟨k, m, hk, rfl, rfl, HM, hB⟩ := hrel
    have HB := Lib.hid hB
    have hsz := hB.size
    have hm := flatten_take_le C k
    rw [← HM.out] at hm
    have hm2 : m ≤ 1073741824 := Nat.le_trans hm HN.out
    clear hm
    by_cases hlt : k < C.length
    · have hdl : decide ((k : Int) < (C.length : Int)) = true := decide_eq_true (by omega)
      obtain ⟨x, hx⟩ := el_some hlt
      have HX := Lib.hid hx
      obtain ⟨g, o, us, rfl, hg, hu, hr⟩ := (HC.out.below (Sl_ok R_Label_ok) hB).at_ hx
      obtain ⟨a1, c1, rfl, k_x⟩ := hr
      have e0 : wr.cell? ⟨g, o + k, none⟩ = some (.slice a1 x.length c1) := by simpa [sizeSL1] using hu 0 _ rfl
      have hi0 : (0 : Int) ≤ (k : Int) := Int.natCast_nonneg _
      have hi1 : (k : Int) < (C.length : Int) := by omega
      have hft := flatten_take hx
      have HM2 := Lib.hid (show m + x.length = (C.take (k + 1)).flatten.length from by rw [hft, List.length_append, HM.out])
      have hle := flatten_take_le C (k + 1)
      rw [← HM2.out] at hle
      have hle2 : m + x.length ≤ 1073741824 := Nat.le_trans hle HN.out
      have hw1 : IntKind.i64.wrap ((m : Int) + (x.length : Int)) = (m : Int) + (x.length : Int) := IntWalk.i64_in _ (by omega)
      have hd1 : decide ((m : Int) + (x.length : Int) < 0) = false := decide_eq_false (by omega)
      clear hB hx hu k_x hft hle
      go_wp2
      go_roundw
      case rel => exact ⟨k + 1, m + x.length, by omega, by go_num, by go_num, HM2, HB.out⟩
      case measure => simp [intOf]; omega
    · have hdl : decide ((k : Int) < (C.length : Int)) = false := decide_eq_false (by omega)
      have HT := Lib.hid (show C.take k = C from List.take_of_length_le (by omega))
      clear hB
      go_wp2_with fail
      refine (growb_impl (n := m) rfl (by omega)).mono ?_
      intro e w1 h
      obtain ⟨v, lo, rfl, hlo, hlw, hrow, hb⟩ := newB_elim h
      have HB1 := Lib.hid (HB.out.trans (hb.mono hsz))
      have hz1 := HB1.out.size
      have HV := Lib.hid hrow
      have hlo0 : W.heap.size ≤ lo := by omega
      clear h hrow hb
      go_wp2
      go_loopw [6, 27] (fun v i wr => ∃ k lo : Nat, k ≤ C.length ∧ i = .int .i64 k ∧ W.heap.size ≤ lo ∧ lo ≤ wr.heap.size ∧ Hid (BRow wr lo v (C.take k).flatten) ∧ Below W.heap.size W wr) (fun _ i _ => C.length - (intOf i).toNat)
      case atStart => exact ⟨0, lo, Nat.zero_le _, rfl, hlo0, hlw, Lib.hid (by simpa using HV.out), HB1.out⟩
      case round =>
        obtain ⟨k, lo, hk, rfl, hl1, hl2, HV, hB⟩ := hrel
        have HB := Lib.hid hB
        have hsz := hB.size
        by_cases hlt : k < C.length
        · have hdl : decide ((k : Int) < (C.length : Int)) = true := decide_eq_true (by omega)
          obtain ⟨x, hx⟩ := el_some hlt
          obtain ⟨g, o, us, rfl, hg, hu, hr⟩ := (HC.out.below (Sl_ok R_Label_ok) hB).at_ hx
          obtain ⟨a1, c1, rfl, k_x⟩ := hr
          have e0 : wr.cell? ⟨g, o + k, none⟩ = some (.slice a1 x.length c1) := by simpa [sizeSL1] using hu 0 _ rfl
          have hi0 : (0 : Int) ≤ (k : Int) := Int.natCast_nonneg _
          have hi1 : (k : Int) < (C.length : Int) := by omega
          have hft := flatten_take hx
          have hle := flatten_take_le C (k + 1)
          rw [hft, List.length_append] at hle
          have hle2 := Nat.le_trans hle HN.out
          obtain ⟨va, vc, rfl⟩ := HV.out.isSlice
          obtain ⟨a', c', w2, hrn, hrow2, hb2⟩ := BRow.more HV.out (k_x.more R_Label_ok hsz) hl2 (by omega)
          have HR := Lib.hid hrn
          have HW2 := Lib.hid (show BRow w2 lo _ (C.take (k + 1)).flatten from by rw [hft]; exact hrow2)
          have HB2 := Lib.hid (HB.out.trans (hb2.mono hl1))
          have hl3 := Nat.le_trans hl2 hb2.size
          clear hrn hrow2 hb2 hB hx hu k_x hft hle hle2
          go_wp2_with (at_builtin; refine wpList_app rfl (.tmp 31) (.tmp 32) 119 rfl rfl rfl HR.out ?_)
          go_roundw
          case rel => exact ⟨k + 1, lo, by omega, by go_num, hl1, hl3, Lib.hid (by simpa using HW2.out), HB2.out⟩
          case measure => simp [intOf]; omega
        · have hdl : decide ((k : Int) < (C.length : Int)) = false := decide_eq_false (by omega)
          have HT := Lib.hid (show C.take k = C from List.take_of_length_le (by omega))
          have HW2 := Lib.hid HV.out
          clear hB
          go_wp2
          go_ret
          exact ⟨_, lo, rfl, hl1, hl2, by have := HW2.out; rw [HT.out] at this; exact this, HB.out⟩
end Go.Proofs.YtlgflddljhldhaaGreat.RepC
end
section
namespace Go.Proofs.YtlgflddljhldhaaGreat.SortC
open Go.Shelf
def Tryz.cmpI64_ren : Go.Shelf.Ren := ⟨fun | 5 => 136 | 7 => 140 | n => n, fun | 22 => 2 | 3 => 3 | 4 => 4 | n => n, fun | n => n⟩
theorem Tryz.cmpI64 : Go.Proofs.SlLaysC2.n5 Tryz.prog Tryz.cmpI64_ren := {
  mixed := by kernel_rfl
  f5 := ⟨Tryz.f136.name, by decide, Tryz.func136.trans (congrArg some (by kernel_rfl))⟩
  f7 := ⟨Tryz.f140.name, by decide, Tryz.func140.trans (congrArg some (by kernel_rfl))⟩
  t3 := Tryz.underlying3
  a3 := Tryz.isAgg3
  z3 := Tryz.sizeOf3
  v3 := Tryz.zeroValue3
  t4 := Tryz.underlying4
  a4 := Tryz.isAgg4
  z4 := Tryz.sizeOf4
  v4 := Tryz.zeroValue4
  t22 := Tryz.underlying2
  a22 := Tryz.isAgg2
  z22 := Tryz.sizeOf2
  v22 := Tryz.zeroValue2 }
end Go.Proofs.YtlgflddljhldhaaGreat.SortC
end
section
namespace Go.Proofs.YtlgflddljhldhaaGreat.SortC
open Go.Shelf Go.RowKit RepC RowC ValC
set_option linter.unusedVariables false
set_option linter.unusedSimpArgs false
theorem cmp64 (x y : Int) (w : World) : Calls Tryz.prog 136 #[.int .i64 x, .int .i64 y] w fun e w' => e = .returned (.int .i64 (Lib.compareInt x y)) ∧ w' = w := AnyG.cmp_Compare_int Tryz.cmpI64 x y w
def orI (l : List Int) : Int := (l.find? (· != 0)).getD 0
set_option maxRecDepth 100000 in
set_option maxHeartbeats 1600000 in
theorem or2_v (g : Nat) (r0 r1 : Int) (w : World) (h : Blk w g 3 #[.int .i64 r0, .int .i64 r1]) :
    Calls Tryz.prog 135 #[.slice (some ⟨g, 0, none⟩) 2 2] w fun e w' => e = .returned (.int .i64 (orI [r0, r1])) ∧ w' = w := by
  have HB := Lib.hid h
  clear h
  have c0 := HB.out.at_ 0 rfl
  have c1 := HB.out.at_ 1 rfl
  go_enter Tryz.func135, Tryz.ntmps135
  go_wp2
  go_loopw [8] (fun i wr => ∃ k : Nat, k ≤ 2 ∧ i = .int .i64 k ∧ wr = w ∧ Hid (∀ j, j < k → [r0, r1].getD j 0 = 0)) (fun i _ => 2 - (intOf i).toNat)
  case atStart => exact ⟨0, by omega, rfl, rfl, Lib.hid fun j h => absurd h (Nat.not_lt_zero _)⟩
  case round =>
    obtain ⟨k, hk, rfl, rfl, HZ⟩ := hrel
    by_cases hk4 : k = 2
    · subst hk4
      have HE := Lib.hid (show orI [r0, r1] = 0 from by
        have e0 := HZ.out 0 (by omega); have e1 := HZ.out 1 (by omega)
        simp at e0 e1; subst e0 e1; rfl)
      go_wp2
      go_ret
      exact ⟨by rw [HE.out]; rfl, rfl⟩
    · obtain ⟨r, hr⟩ : ∃ r, [r0, r1].getD k 0 = r := ⟨_, rfl⟩
      have hc : wr.cell? ⟨g, k, none⟩ = some (.int .i64 r) := by
        have : k = 0 ∨ k = 1 := by omega
        rcases this with rfl | rfl <;> (subst hr; assumption)
      have HRk := Lib.hid hr
      have hi0 : (0 : Int) ≤ (k : Int) := Int.natCast_nonneg _
      have hi1 : (k : Int) < 2 := by omega
      have hd : decide ((k : Int) < 2) = true := decide_eq_true hi1
      clear hr c0 c1
      by_cases h0 : r = 0
      · subst h0
        have HZ2 := Lib.hid (show ∀ j, j < k + 1 → [r0, r1].getD j 0 = 0 from fun j hj => by
          by_cases e : j = k
          · rw [e]; exact HRk.out
          · exact HZ.out j (by omega))
        go_wp2
        go_roundw
        case rel => exact ⟨k + 1, by omega, by go_num, by first | rfl | trivial, HZ2⟩
        case measure => simp [intOf]; omega
      · have HE := Lib.hid (show orI [r0, r1] = r from by
          have hr := HRk.out
          have hz := HZ.out
          have : k = 0 ∨ k = 1 := by omega
          rcases this with rfl | rfl
          · simp at hr; subst hr; simp [orI, h0]
          · have e0 := hz 0 (by omega); simp at e0 hr; subst hr; simp [orI, h0, e0])
        have h0' : (r == 0) = false := by simpa using h0
        go_wp2
        go_ret
        exact ⟨by rw [HE.out]; rfl, rfl⟩
def labI (a0 a1 b0 b1 : Int) : Int := orI [Lib.compareInt a0 b0, Lib.compareInt a1 b1]
set_option maxRecDepth 100000 in
set_option maxHeartbeats 3200000 in
theorem bylab_v (a0 a1 b0 b1 : Int) (W : World) :
    Calls Tryz.prog 129 #[.agg #[.int .i64 a0, .int .i64 a1], .agg #[.int .i64 b0, .int .i64 b1]] W
      fun e w' => e = .returned (.int .i64 (labI a0 a1 b0 b1)) ∧ w' = (((W.alloc (.cells #[.int .i64 a0, .int .i64 a1] 47)).alloc (.cells #[.int .i64 b0, .int .i64 b1] 47)).drew.alloc (.cells #[.int .i64 (Lib.compareInt a0 b0), .int .i64 (Lib.compareInt a1 b1)] 3)) := by
  obtain ⟨V0, hV0⟩ : ∃ V0, V0 = ((W.alloc (.cells #[.int .i64 a0, .int .i64 a1] 47)).alloc (.cells #[.int .i64 b0, .int .i64 b1] 47)) := ⟨_, rfl⟩
  have BA := Lib.hid (show Blk V0 W.heap.size 47 #[.int .i64 a0, .int .i64 a1] from by rw [hV0]; exact (Blk.new W _ _).alloc _)
  have BB := Lib.hid (show Blk V0 (W.heap.size + 1) 47 #[.int .i64 b0, .int .i64 b1] from by
    have h9 := Blk.new (W.alloc (.cells #[.int .i64 a0, .int .i64 a1] 47)) 47 #[.int .i64 b0, .int .i64 b1]
    simp only [World.size_alloc] at h9
    rw [hV0]; exact h9)
  have HS4 := Lib.hid (Blk.new V0.drew 3 #[.int .i64 (Lib.compareInt a0 b0), .int .i64 (Lib.compareInt a1 b1)])
  rw [← hV0]
  go_enter Tryz.func129, Tryz.ntmps129
  go_wp2_with fail
  rw [← hV0]
  clear hV0
  refine wp_region_held_drew (S := (fun V => Below (V0).heap.size (V0) V)) (by kernel_rfl) ((Below.refl _ _).drew) (fun hHeld => ?_)
  refine tk 0 hHeld ?_
  refine tk 1 hHeld ?_ (hy := fun w hSw => by (try dsimp only at hSw); have k0 := (hSw.cell (p := ⟨W.heap.size, 0, none⟩) BA.out.lt).trans (BA.out.at_ 0 rfl); clear hSw; go_simp; try with_reducible rfl)
  refine tk 2 hHeld ?_
  refine tk 3 hHeld ?_ (hy := fun w hSw => by (try dsimp only at hSw); have k0 := (hSw.cell (p := ⟨W.heap.size + 1, 0, none⟩) BB.out.lt).trans (BB.out.at_ 0 rfl); clear hSw; go_simp; try with_reducible rfl)
  refine tk 5 hHeld ?_
  refine tk 6 hHeld ?_ (hy := fun w hSw => by (try dsimp only at hSw); have k0 := (hSw.cell (p := ⟨W.heap.size, 1, none⟩) BA.out.lt).trans (BA.out.at_ 1 rfl); clear hSw; go_simp; try with_reducible rfl)
  refine tk 7 hHeld ?_
  refine tk 8 hHeld ?_ (hy := fun w hSw => by (try dsimp only at hSw); have k0 := (hSw.cell (p := ⟨W.heap.size + 1, 1, none⟩) BB.out.lt).trans (BB.out.at_ 1 rfl); clear hSw; go_simp; try with_reducible rfl)
  refine rd1 4 (fun K hK => ?_)
  go_simp
  go_at_call 136
  refine (cmp64 _ _ _).mono ?_
  rintro e w1 ⟨rfl, rfl⟩
  have hb := Below.refl V0.drew.heap.size V0.drew
  refine hK.out _ _ (hHeld.trans (hb.mono hHeld.size)) (fun hHeld => ?_)
  clear hK K hb
  refine rd1 9 (fun K hK => ?_)
  go_simp
  go_at_call 136
  refine (cmp64 _ _ _).mono ?_
  rintro e w1 ⟨rfl, rfl⟩
  have hb := Below.refl V0.drew.heap.size V0.drew
  refine hK.out _ _ (hHeld.trans (hb.mono hHeld.size)) (fun hHeld => ?_)
  clear hK K hb
  refine rd1 10 (fun K hK => ?_)
  go_simp
  have hb := (Below.refl V0.drew.heap.size V0.drew).alloc (Nat.le_refl _) (.cells #[.int .i64 (Lib.compareInt a0 b0), .int .i64 (Lib.compareInt a1 b1)] 3)
  refine hK.out _ _ (hHeld.trans (hb.mono hHeld.size)) (fun hHeld => ?_)
  clear hK K hb
  refine rd1 11 (fun K hK => ?_)
  go_simp
  go_at_call 135
  refine (or2_v _ _ _ _ HS4.out).mono ?_
  rintro e w1 ⟨rfl, rfl⟩
  have hb := Below.refl (V0.drew.alloc (.cells #[.int .i64 (Lib.compareInt a0 b0), .int .i64 (Lib.compareInt a1 b1)] 3)).heap.size (V0.drew.alloc (.cells #[.int .i64 (Lib.compareInt a0 b0), .int .i64 (Lib.compareInt a1 b1)] 3))
  refine hK.out _ _ (hHeld.trans (hb.mono hHeld.size)) (fun hHeld => ?_)
  clear hK K hb
  refine tk 12 hHeld ?_
  refine rd0 ?_
  have HF := Lib.hid hHeld
  clear hHeld
  go_wp2
  go_ret
  exact ⟨rfl, rfl⟩
theorem cmpI (a b : Int) : (Lib.compareInt a b = -1 ∧ a < b) ∨ (Lib.compareInt a b = 0 ∧ a = b) ∨ (Lib.compareInt a b = 1 ∧ b < a) := by
  unfold Lib.compareInt
  by_cases h1 : a < b
  · left; exact ⟨by simp [h1], h1⟩
  · by_cases h2 : b < a
    · right; right; exact ⟨by simp [h1, h2], h2⟩
    · right; left; exact ⟨by simp [h1, h2], by omega⟩
end Go.Proofs.YtlgflddljhldhaaGreat.SortC
end
section
namespace Go.Proofs.YtlgflddljhldhaaGreat.SortC
open Go.Shelf Go.RowKit RepC Go.Lib Go.Sort
set_option linter.unusedVariables false
set_option linter.unusedSimpArgs false
theorem grow3 (V : World) (o1 o2 o3 : Obj) : (((V.alloc o1).alloc o2).drew).alloc o3 = grow (V.drewN 1) #[o1, o2, o3] := by
  simp only [alloc_eq_grow]
  show grow (grow (grow (V.drewN 1) #[o1]) #[o2]) #[o3] = _
  rw [grow_grow, grow_grow]
  rfl
end Go.Proofs.YtlgflddljhldhaaGreat.SortC
end
section
namespace Go.Proofs.YtlgflddljhldhaaGreat.SortC
open Go.Shelf
def Tryz.sortLab_ren : Go.Shelf.Ren := ⟨fun | 6 => 133 | 15 => 139 | 14 => 138 | 28 => 149 | 29 => 150 | 20 => 141 | 21 => 142 | 22 => 143 | 23 => 144 | 24 => 145 | 25 => 146 | 26 => 147 | 27 => 148 | 46 => 151 | 47 => 152 | 48 => 153 | 49 => 154 | 50 => 155 | 57 => 156 | n => n, fun | 22 => 119 | 24 => 47 | 25 => 175 | 3 => 3 | 39 => 146 | 0 => 0 | 53 => 194 | 55 => 142 | 4 => 4 | 46 => 187 | 45 => 186 | 50 => 191 | 5 => 5 | 9 => 9 | 66 => 196 | 70 => 200 | 76 => 202 | 77 => 203 | n => n, fun | n => n⟩
theorem Tryz.sortLab : Go.Proofs.SlLaysF0.n6 Tryz.prog Tryz.sortLab_ren := {
  mixed := by kernel_rfl
  f6 := ⟨Tryz.f133.name, by decide, Tryz.func133.trans (congrArg some (by kernel_rfl))⟩
  f14 := ⟨Tryz.f138.name, by decide, Tryz.func138.trans (congrArg some (by kernel_rfl))⟩
  f15 := Tryz.func139.trans (congrArg some (by kernel_rfl))
  f20 := ⟨Tryz.f141.name, by decide, Tryz.func141.trans (congrArg some (by kernel_rfl))⟩
  f21 := ⟨Tryz.f142.name, by decide, Tryz.func142.trans (congrArg some (by kernel_rfl))⟩
  f22 := ⟨Tryz.f143.name, by decide, Tryz.func143.trans (congrArg some (by kernel_rfl))⟩
  f23 := ⟨Tryz.f144.name, by decide, Tryz.func144.trans (congrArg some (by kernel_rfl))⟩
  f24 := ⟨Tryz.f145.name, by decide, Tryz.func145.trans (congrArg some (by kernel_rfl))⟩
  f25 := ⟨Tryz.f146.name, by decide, Tryz.func146.trans (congrArg some (by kernel_rfl))⟩
  f26 := ⟨Tryz.f147.name, by decide, Tryz.func147.trans (congrArg some (by kernel_rfl))⟩
  f27 := ⟨Tryz.f148.name, by decide, Tryz.func148.trans (congrArg some (by kernel_rfl))⟩
  f28 := Tryz.func149.trans (congrArg some (by kernel_rfl))
  f29 := Tryz.func150.trans (congrArg some (by kernel_rfl))
  f46 := ⟨Tryz.f151.name, by decide, Tryz.func151.trans (congrArg some (by kernel_rfl))⟩
  f47 := Tryz.func152.trans (congrArg some (by kernel_rfl))
  f48 := Tryz.func153.trans (congrArg some (by kernel_rfl))
  f49 := ⟨Tryz.f154.name, by decide, Tryz.func154.trans (congrArg some (by kernel_rfl))⟩
  f50 := ⟨Tryz.f155.name, by decide, Tryz.func155.trans (congrArg some (by kernel_rfl))⟩
  f57 := ⟨Tryz.f156.name, by decide, Tryz.func156.trans (congrArg some (by kernel_rfl))⟩
  t0 := Tryz.underlying0
  a0 := Tryz.isAgg0
  z0 := Tryz.sizeOf0
  v0 := Tryz.zeroValue0
  t3 := Tryz.underlying3
  a3 := Tryz.isAgg3
  z3 := Tryz.sizeOf3
  v3 := Tryz.zeroValue3
  t4 := Tryz.underlying4
  a4 := Tryz.isAgg4
  z4 := Tryz.sizeOf4
  v4 := Tryz.zeroValue4
  t5 := Tryz.underlying5
  a5 := Tryz.isAgg5
  z5 := Tryz.sizeOf5
  v5 := Tryz.zeroValue5
  t9 := Tryz.underlying9
  a9 := Tryz.isAgg9
  z9 := Tryz.sizeOf9
  v9 := Tryz.zeroValue9
  t22 := Tryz.underlying119
  a22 := Tryz.isAgg119
  z22 := Tryz.sizeOf119
  v22 := Tryz.zeroValue119
  t25 := Tryz.underlying175
  a25 := Tryz.isAgg175
  z25 := Tryz.sizeOf175
  v25 := Tryz.zeroValue175
  t39 := Tryz.underlying146
  a39 := Tryz.isAgg146
  z39 := Tryz.sizeOf146
  v39 := Tryz.zeroValue146
  t45 := Tryz.underlying186
  a45 := Tryz.isAgg186
  z45 := Tryz.sizeOf186
  v45 := Tryz.zeroValue186
  t46 := Tryz.underlying187
  a46 := Tryz.isAgg187
  z46 := Tryz.sizeOf187
  v46 := Tryz.zeroValue187
  t50 := Tryz.underlying191
  a50 := Tryz.isAgg191
  z50 := Tryz.sizeOf191
  v50 := Tryz.zeroValue191
  t53 := Tryz.underlying194
  a53 := Tryz.isAgg194
  z53 := Tryz.sizeOf194
  v53 := Tryz.zeroValue194
  t55 := Tryz.underlying142
  a55 := Tryz.isAgg142
  z55 := Tryz.sizeOf142
  v55 := Tryz.zeroValue142
  t66 := Tryz.underlying196
  a66 := Tryz.isAgg196
  z66 := Tryz.sizeOf196
  v66 := Tryz.zeroValue196
  t70 := Tryz.underlying200
  a70 := Tryz.isAgg200
  z70 := Tryz.sizeOf200
  v70 := Tryz.zeroValue200
  t76 := Tryz.underlying202
  a76 := Tryz.isAgg202
  z76 := Tryz.sizeOf202
  v76 := Tryz.zeroValue202
  t77 := Tryz.underlying203
  a77 := Tryz.isAgg203
  z77 := Tryz.sizeOf203
  v77 := Tryz.zeroValue203 }
end Go.Proofs.YtlgflddljhldhaaGreat.SortC
end
section
namespace Go.Proofs.YtlgflddljhldhaaGreat.SortC
open Go.Shelf Go.RowKit RepC Go.Lib Go.Sort
set_option linter.unusedVariables false
set_option linter.unusedSimpArgs false
abbrev LC := Int × Int
def encL (x : LC) : List Value := [.int .i64 x.1, .int .i64 x.2]
def cfL (x y : LC) : Int := labI x.1 x.2 y.1 y.2
theorem ltL (x y : LC) : ltOf cfL x y = true ↔ (x.1 < y.1 ∨ x.1 = y.1 ∧ x.2 < y.2) := by
  unfold ltOf cfL labI orI
  rcases cmpI x.1 y.1 with ⟨e1, h1⟩ | ⟨e1, h1⟩ | ⟨e1, h1⟩ <;> rcases cmpI x.2 y.2 with ⟨e2, h2⟩ | ⟨e2, h2⟩ | ⟨e2, h2⟩ <;> rw [e1, e2] <;> simp <;> omega
theorem labI_ge (a0 a1 b0 b1 : Int) : 0 ≤ labI a0 a1 b0 b1 ↔ ¬ (a0 < b0 ∨ a0 = b0 ∧ a1 < b1) := by
  unfold labI orI
  rcases cmpI a0 b0 with ⟨e1, h1⟩ | ⟨e1, h1⟩ | ⟨e1, h1⟩ <;> rcases cmpI a1 b1 with ⟨e2, h2⟩ | ⟨e2, h2⟩ | ⟨e2, h2⟩ <;> rw [e1, e2] <;> simp <;> omega
theorem swoL : SWO (ltOf cfL) where
  irrefl x := by
    rw [Bool.eq_false_iff]; intro h; rw [ltL] at h; omega
  trans x y z h1 h2 := by rw [ltL] at *; omega
  ntrans x y z h1 h2 := by rw [Bool.eq_false_iff, ne_eq, ltL] at *; omega
theorem cmpLaysL (blk off size : Nat) (w : World) : CmpLays Tryz.prog 129 #[] encL 2 cfL blk off size w := fun m os dk _ x y =>
  (bylab_v x.1 x.2 y.1 y.2 _).mono fun _ _ ⟨he, hw⟩ => ⟨he, 1, _, hw.trans (grow3 _ _ _ _)⟩
theorem sort_labs (blk off cap : Nat) (d : Array LC) (w : World) (hH : HoldsK encL 2 w blk off d) (hblk : blk < w.heap.size) (hsz : d.size < 4611686018427387904) :
    Calls Tryz.prog 133 #[.slice (some ⟨blk, off, none⟩) d.size cap, .func (.func 129) #[] #[]] w fun e w' => e = .returned (.tuple #[]) ∧ ∃ d' n os, PermIn 0 d.size d d' ∧ SortedIn (ltOf cfL) 0 d.size d' ∧ w' = sortWorldK encL 2 w blk off n d' os := by
  have eg : ∀ args w, (callFunc 129 args).run Tryz.prog w = .ok (.enter 129 args) w := enters_of Tryz.func129 (by kernel_rfl) rfl
  exact AnyQ.slices_SortFunc Tryz.sortLab 2 Tryz.isAgg47 Tryz.sizeOf47 encL (fun _ => rfl) (fun x v hv => by simp [encL] at hv; rcases hv with rfl | rfl <;> rfl) cfL swoL 129 #[] blk off cap d w eg (cmpLaysL blk off d.size w) hH hblk hsz
end Go.Proofs.YtlgflddljhldhaaGreat.SortC
end
section
namespace Go.Proofs.YtlgflddljhldhaaGreat.RepC
open Go.RowKit RowC ValC SpanC KeptC Go.Sort Go.Lib
set_option linter.unusedVariables false
set_option linter.unusedSimpArgs false
def Rw (W : World) (g : Nat) (d : Array (Int × Int)) : Prop := ∀ j, j < d.size → W.cell? ⟨g, j * 2, none⟩ = some (.int .i64 d[j]!.1) ∧ W.cell? ⟨g, j * 2 + 1, none⟩ = some (.int .i64 d[j]!.2)
def Sf (W : World) (g : Nat) : Prop := ∀ j, W.frozen? ⟨g, j, none⟩ = false
theorem Rw.below {W W' : World} {g : Nat} {d : Array (Int × Int)} (h : Rw W g d) (hg : g < W.heap.size) (hb : RowKit.Below W.heap.size W W') : Rw W' g d := fun j hj => ⟨(hb.cell (p := ⟨g, _, none⟩) hg).trans (h j hj).1, (hb.cell (p := ⟨g, _, none⟩) hg).trans (h j hj).2⟩
theorem Sf.below {W W' : World} {g : Nat} (h : Sf W g) (hg : g < W.heap.size) (hb : RowKit.Below W.heap.size W W') : Sf W' g := fun j => (hb.frozen (p := ⟨g, j, none⟩) hg).trans (h j)
theorem Rw.set {W : World} {g i : Nat} {d : Array (Int × Int)} (h : Rw W g d) (hi : i < d.size) (x0 x1 : Int) : Rw ((W.setCell ⟨g, i * 2, none⟩ (.int .i64 x0)).setCell ⟨g, i * 2 + 1, none⟩ (.int .i64 x1)) g (d.setIfInBounds i (x0, x1)) := fun j hj => by
  have hj' : j < d.size := by simpa using hj
  by_cases e : j = i
  · subst e
    rw [getElem!_set_same d j _ hi]
    refine ⟨?_, ?_⟩
    · rw [World.cell?_setCell_other _ _ _ _ (fun e => by injection e with _ e2; omega)]
      exact World.cell?_setCell_same' _ _ _ (by rw [(h j hi).1]; rfl)
    · exact World.cell?_setCell_same' _ _ _ (by rw [World.cell?_setCell_other _ _ _ _ (fun e => by injection e with _ e2; omega), (h j hi).2]; rfl)
  · rw [getElem!_set_other d i j _ e]
    refine ⟨?_, ?_⟩
    · rw [World.cell?_setCell_other _ _ _ _ (fun e => by injection e with _ e2; omega), World.cell?_setCell_other _ _ _ _ (fun e => by injection e with _ e2; omega)]; exact (h j hj').1
    · rw [World.cell?_setCell_other _ _ _ _ (fun e => by injection e with _ e2; omega), World.cell?_setCell_other _ _ _ _ (fun e => by injection e with _ e2; omega)]; exact (h j hj').2
theorem Sf.set {W : World} {g i : Nat} (h : Sf W g) (u : Value) : Sf (W.setCell ⟨g, i, none⟩ u) g := fun j => by simpa using h j
theorem off_sort {g n : Nat} {d' : Array (Int × Int)} {os : Array Obj} {w : World} : Off (fun k => k = g) w (Go.Proofs.sortWorldK SortC.encL 2 w g 0 n d' os) := by
  unfold Go.Proofs.sortWorldK Go.Sort.putRowK
  refine ⟨rfl, rfl, rfl, by simp, fun k hk hkg => ?_⟩
  rw [heap_grow_old _ _ (by simpa using hk)]
  show (Array.modify _ _ _)[k]? = _
  rw [Array.getElem?_modify, if_neg (fun e => hkg e.symm)]
  rfl
theorem rw_holds {W : World} {g : Nat} {d : Array (Int × Int)} (h : HoldsK SortC.encL 2 W g 0 d) : Rw W g d := fun j hj => by
  have h0 := (h.cell (i := j) (c := 0) hj (by omega)).1
  have h1 := (h.cell (i := j) (c := 1) hj (by omega)).1
  simp only [Nat.zero_add, Nat.add_zero] at h0 h1
  exact ⟨h0, h1⟩
theorem holds_rw {W : World} {g : Nat} {d : Array (Int × Int)} (h : Rw W g d) (hf : Sf W g) : HoldsK SortC.encL 2 W g 0 d := fun t ht => by
  have ht' : t < d.size * 2 := by simpa using ht
  rw [get_flatK _ _ _ _ ht', Nat.zero_add]
  refine ⟨?_, hf t⟩
  obtain ⟨h0, h1⟩ := h (t / 2) (by omega)
  rcases Nat.mod_two_eq_zero_or_one t with e | e
  · rw [e, show t = t / 2 * 2 by omega]
    rw [show (t / 2 * 2) / 2 = t / 2 by omega]
    exact h0
  · rw [e, show t = t / 2 * 2 + 1 by omega]
    rw [show (t / 2 * 2 + 1) / 2 = t / 2 by omega]
    exact h1
def SrtR (L : List (Int × Int)) (w : World) (e : Ending) (w' : World) : Prop := ∃ g c d, e = .returned (.slice (some ⟨g, 0, none⟩) d.size c) ∧ d.size ≤ c ∧ c ≤ maxLen ∧ w.heap.size ≤ g ∧ g < w'.heap.size ∧ Rw w' g d ∧ Sf w' g ∧ d.size = L.length ∧ (∀ a, (∃ j, j < d.size ∧ d[j]! = a) ↔ a ∈ L) ∧ (∀ i j, i < j → j < d.size → ¬ (d[j]!.1 < d[i]!.1 ∨ d[j]!.1 = d[i]!.1 ∧ d[j]!.2 < d[i]!.2)) ∧ RowKit.Below w.heap.size w w'
theorem srtR_elim {L : List (Int × Int)} {w : World} {e : Ending} {w' : World} (h : SrtR L w e w') : ∃ g c d, e = .returned (.slice (some ⟨g, 0, none⟩) d.size c) ∧ d.size ≤ c ∧ c ≤ maxLen ∧ w.heap.size ≤ g ∧ g < w'.heap.size ∧ Rw w' g d ∧ Sf w' g ∧ d.size = L.length ∧ (∀ a, (∃ j, j < d.size ∧ d[j]! = a) ↔ a ∈ L) ∧ (∀ i j, i < j → j < d.size → ¬ (d[j]!.1 < d[i]!.1 ∨ d[j]!.1 = d[i]!.1 ∧ d[j]!.2 < d[i]!.2)) ∧ RowKit.Below w.heap.size w w' := h
theorem arr_mem (d : Array (Int × Int)) (a : Int × Int) : (∃ j, j < d.size ∧ d[j]! = a) ↔ a ∈ d.toList := by
  rw [Array.mem_toList_iff, Array.mem_iff_getElem]
  constructor
  · rintro ⟨j, hj, e⟩; exact ⟨j, hj, by rw [← e, getElem!_pos d j hj]⟩
  · rintro ⟨j, hj, e⟩; exact ⟨j, hj, by rw [← e, getElem!_pos d j hj]⟩
set_option maxRecDepth 100000 in
set_option maxHeartbeats 1600000 in
theorem clone_labs {L : List D_Label} {a : Option Addr} {cap : Nat} {W : World} (hn : L.length ≤ 1048576) (hne : 0 < L.length) (h : RdSl R_Label W W.heap.size L a cap) :
    Calls Tryz.prog 132 #[.slice a L.length cap] W (NewS R_Label L W) := by
  have qT : ∀ (w : World) (a : Option Addr) (n c n' c' : Nat), (binOp .eql 119 (.slice a n c) (.slice none n' c')).run Tryz.prog w = .ok (.bool a.isNone) w := fun w a n c n' c' => Lib.run_eql_slice_nil w _ _ a n c n' c' Tryz.underlying119
  obtain ⟨g, o, rfl, _⟩ := h.2.2 hne
  obtain ⟨iL, hiL, hzL1, hsL, hbL⟩ := infoLb
  obtain ⟨a', c', w5, hr, hos, hb⟩ := app_flat (P := Tryz.prog) (ty := 119) R_Label_ok flat_Label Tryz.underlying119 hiL hzL1 hsL hbL rfl (by decide) (by unfold maxLen; omega) (by omega) h
  clear hiL hzL1 hsL hbL
  have HR := Lib.hid hr
  have HO := Lib.hid hos
  have HB := Lib.hid hb
  clear hr hos hb h
  go_enter Tryz.func132, Tryz.ntmps132
  go_wp2_with (at_builtin; refine wpList_app rfl (.tmp 5) (.tmp 6) 119 rfl rfl rfl HR.out ?_)
  go_ret
  exact ⟨a', c', rfl, HO.out, HB.out⟩
set_option maxRecDepth 100000 in
set_option maxHeartbeats 1600000 in
theorem sorted_labs {L : List D_Label} {a : Option Addr} {cap : Nat} {W : World} (hn : L.length ≤ 1048576) (hne : 0 < L.length) (h : RdSl R_Label W W.heap.size L a cap) :
    Calls Tryz.prog 127 #[.slice a L.length cap, .func (.func 129) #[] #[]] W (SrtR L W) := by
  have HLen := Lib.hid (And.intro hn hne)
  go_enter Tryz.func127, Tryz.ntmps127
  go_wp2_with fail
  refine (clone_labs hn hne h).mono ?_
  intro e w1 h1
  obtain ⟨a1, c1, rfl, ho, hb⟩ := newS_elim h1
  obtain ⟨hc1, hc2, hrow⟩ := ho
  obtain ⟨g, Sg, rfl, hgS, hfr, hsub, _, hel⟩ := hrow hne
  have HRw := Lib.hid (show Rw w1 g L.toArray from fun j hj => by
    have hj' : j < L.length := by simpa using hj
    obtain ⟨x, hx⟩ := el_some hj'
    obtain ⟨us, hu, hr⟩ := hel j x hx
    obtain ⟨x0, x1⟩ := x
    obtain rfl := rd_Label (R_Label_ok.ow_rd hr (B := w1.heap.size) (fun k hk => (hsub j k hk).1.2))
    have e : L.toArray[j]! = (x0, x1) := by simp [List.getElem!_eq_getElem?_getD, hx]
    rw [e]
    exact ⟨by simpa [show R_Label.size = 2 from rfl] using hu 0 _ rfl, by simpa [show R_Label.size = 2 from rfl] using hu 1 _ rfl⟩)
  have HSf := Lib.hid (show Sf w1 g from hfr)
  have HB := Lib.hid hb
  have hg1 : W.heap.size ≤ g := hgS.1
  have hg2 : g < w1.heap.size := hgS.2
  have HC := Lib.hid (And.intro hc1 hc2)
  clear h h1 hb hc1 hc2 hrow hgS hfr hsub hel
  go_wp2_with fail
  have hs := SortC.sort_labs g 0 c1 L.toArray w1 (holds_rw HRw.out HSf.out) hg2 (by have := HLen.out.1; simp; omega)
  simp only [List.size_toArray] at hs
  refine hs.mono ?_
  rintro e w2 ⟨rfl, d', n, os, hp, hso, rfl⟩
  have hoff := off_sort (g := g) (n := n) (d' := d') (os := os) (w := w1)
  have hds : d'.size = L.length := by simpa using hp.1
  have hH2 : HoldsK SortC.encL 2 (Go.Proofs.sortWorldK SortC.encL 2 w1 g 0 n d' os) g 0 d' := by
    unfold Go.Proofs.sortWorldK
    exact holdsK_grow SortC.encL 2 _ _ g 0 d' (by simpa [Go.Sort.putRowK] using hg2) (holdsK_putRowK SortC.encL 2 _ g 0 L.toArray d' (holdsK_ahead SortC.encL 2 w1 n g 0 L.toArray (holds_rw HRw.out HSf.out)) (by simpa using hds))
  have HR2 := Lib.hid (rw_holds hH2)
  have HS2 := Lib.hid (show Sf (Go.Proofs.sortWorldK SortC.encL 2 w1 g 0 n d' os) g from fun j => by
    have := HSf.out j
    unfold Go.Proofs.sortWorldK
    rw [frozen?_grow _ _ _ (by simpa [Go.Sort.putRowK] using hg2)]
    unfold Go.Sort.putRowK
    rw [frozen?_putRow]
    exact this)
  have HMem := Lib.hid (show ∀ a, (∃ j, j < d'.size ∧ d'[j]! = a) ↔ a ∈ L from fun a => by
    rw [arr_mem]
    have h3 := hp.2.2
    have e1 : d'.extract 0 L.toArray.size = d' := by rw [← hp.1]; simp
    have e2 : L.toArray.extract 0 L.toArray.size = L.toArray := by simp
    rw [List.size_toArray] at e1 e2
    rw [e1, e2] at h3
    simpa using h3.mem_iff (a := a))
  have HSo := Lib.hid (show ∀ i j, i < j → j < d'.size → ¬ (d'[j]!.1 < d'[i]!.1 ∨ d'[j]!.1 = d'[i]!.1 ∧ d'[j]!.2 < d'[i]!.2) from fun i j hij hj hlt => by
    have := hso i j (Nat.zero_le _) hij (by simpa [hds] using hj)
    rw [(SortC.ltL _ _).2 hlt] at this
    cases this)
  have HB2 := Lib.hid (HB.out.trans (hoff.below HB.out.size (fun k hk => by rw [hk]; exact hg1)))
  have hz := hoff.size
  obtain ⟨w2, hw2⟩ : ∃ w, w = Go.Proofs.sortWorldK SortC.encL 2 w1 g 0 n d' os := ⟨_, rfl⟩
  rw [← hw2] at HR2 HS2 HB2 hz ⊢
  clear hs hp hso hH2 hoff hw2
  go_wp2
  go_ret
  exact ⟨g, c1, d', by rw [hds]; rfl, by rw [hds]; exact HC.out.1, HC.out.2, hg1, by omega, HR2.out, HS2.out, hds, HMem.out, HSo.out, HB2.out⟩
end Go.Proofs.YtlgflddljhldhaaGreat.RepC
end
