/- Of this claim's texts the part 17: CfL1 CmpL LbC GrwC SortLb LabS CfL2 ClrI CfL3 CfL4 CfI. -/
import Derived.WalkLawsBesides
import Derived.Shelf.SlicesG.Cmp
import Derived.Ground.SlgcProg
import Derived.Test.YtlgflddljhldhaaGreatProg
import Derived.Sort.Grow
import Derived.Sort.Walk0
import Derived.Sort.Statements
import Derived.Shelf.SlSortCmp.WholeK
import Derived.Ground.SlsfProg
import Derived.Lib.SlicesCompact
import Derived.Lib.SliceRun
import Derived.Test.YtlgflddljhldhaaGreatPN12
import Derived.Test.YtlgflddljhldhaaGreatPN13
import Derived.Test.YtlgflddljhldhaaGreatPN15
section
namespace Go.Proofs.YtlgflddljhldhaaGreat.RepC
open Go.RowKit RowC ValC SpanC KeptC
set_option linter.unusedVariables false
set_option linter.unusedSimpArgs false
def NewB (L : List D_Label) (W : World) (e : Ending) (w' : World) : Prop := ∃ v lo, e = .returned v ∧ W.heap.size ≤ lo ∧ lo ≤ w'.heap.size ∧ BRow w' lo v L ∧ Below W.heap.size W w'
theorem newB_elim {L : List D_Label} {W : World} {e : Ending} {w' : World} (h : NewB L W e w') : ∃ v lo, e = .returned v ∧ W.heap.size ≤ lo ∧ lo ≤ w'.heap.size ∧ BRow w' lo v L ∧ Below W.heap.size W w' := h
set_option maxRecDepth 100000 in
set_option maxHeartbeats 1600000 in
theorem growb_impl {n : Nat} {z : Int} (hz : z = (n : Int)) (hn : n ≤ 1099511627776) {W : World} : Calls Tryz.prog 134 #[.slice none 0 0, .int .i64 z] W (NewB [] W) := by
  subst hz
  by_cases h0 : n = 0
  · subst h0
    go_enter Tryz.func134, Tryz.ntmps134
    go_wp2
    go_ret
    exact ⟨_, W.heap.size, rfl, Nat.le_refl _, Nat.le_refl _, FRow.none_ _ _ _ _ _, Below.refl _ _⟩
  · obtain ⟨c, w', hr, hrow, hb, hle⟩ := BRow.grown (w := W) (n := n) (by omega) hn
    have HR := Lib.hid hr
    have HW := Lib.hid hrow
    have HB := Lib.hid hb
    have hw : IntKind.i64.wrap (n : Int) = (n : Int) := IntWalk.i64_in _ (by omega)
    have hp : decide ((n : Int) > 0) = true := decide_eq_true (by omega)
    have hp2 : decide (0 < n) = true := decide_eq_true (by omega)
    have hm : decide ((n : Int) < 0) = false := decide_eq_false (by omega)
    clear hr hrow hb
    go_enter Tryz.func134, Tryz.ntmps134
    go_wp2_with (at_builtin; refine Lib.wpList_append_run _ rfl (.tmp 20) (.tmp 21) _ _ rfl _ _ rfl rfl _ _ HR.out ?_)
    go_ret
    exact ⟨_, W.heap.size, rfl, Nat.le_refl _, HB.out.size, HW.out, HB.out⟩
theorem flatten_take {C : List (List D_Label)} {k : Nat} {x : List D_Label} (h : C[k]? = some x) : (C.take (k + 1)).flatten = (C.take k).flatten ++ x := by
  rw [List.take_add_one, h]; simp
theorem flatten_take_le (C : List (List D_Label)) (k : Nat) : (C.take k).flatten.length ≤ C.flatten.length := by
  have : C.flatten = (C.take k).flatten ++ (C.drop k).flatten := by rw [← List.flatten_append, List.take_append_drop]
  rw [this, List.length_append]; omega
theorem sizeSL1 : (Sl R_Label).size = 1 := rfl
set_option maxRecDepth 100000 in
set_option maxHeartbeats 3200000 in
theorem concat_labs {C : List (List D_Label)} {ca : Option Addr} {cc : Nat} {W : World} (hn : C.flatten.length ≤ 1073741824) (hC : RdSl (Sl R_Label) W W.heap.size C ca cc) :
    Calls Tryz.prog 128 #[.slice ca C.length cc] W (NewB C.flatten W) := by
  have hcn : C.length ≤ 9223372036854775807 := by have h1 := hC.1; have h2 := hC.2.1; unfold maxLen at h2; omega
  have HC := Lib.hid hC
  have HN := Lib.hid hn
  clear hC hn
  go_enter Tryz.func128, Tryz.ntmps128
  go_wp2
  go_loopw [3, 11] (fun s i wr => ∃ k m : Nat, k ≤ C.length ∧ i = .int .i64 k ∧ s = .int .i64 m ∧ Hid (m = (C.take k).flatten.length) ∧ Below W.heap.size W wr) (fun _ i _ => C.length - (intOf i).toNat)
  case atStart => exact ⟨0, 0, Nat.zero_le _, rfl, rfl, Lib.hid (by simp), Below.refl _ _⟩
  case round =>
    obtain ⟨k, m, hk, rfl, rfl, HM, hB⟩ := hrel
    have HB := Lib.hid hB
    have hsz := hB.size
    have hm := flatten_take_le C k
    rw [← HM.out] at hm
    have hm2 : m ≤ 1073741824 := Nat.le_trans hm HN.out
    clear hm
    by_cases hlt : k < C.length
    · have hdl : decide ((k : Int) < (C.length : Int)) = true := decide_eq_true (by omega)
      obtain ⟨x, hx⟩ := el_some hlt
      have HX := Lib.hid hx
      obtain ⟨g, o, us, rfl, hg, hu, hr⟩ := (HC.out.below (Sl_ok R_Label_ok) hB).at_ hx
      obtain ⟨a1, c1, rfl, k_x⟩ := hr
      have e0 : wr.cell? ⟨g, o + k, none⟩ = some (.slice a1 x.length c1) := by simpa [sizeSL1] using hu 0 _ rfl
      have hi0 : (0 : Int) ≤ (k : Int) := Int.natCast_nonneg _
      have hi1 : (k : Int) < (C.length : Int) := by omega
      have hft := flatten_take hx
      have HM2 := Lib.hid (show m + x.length = (C.take (k + 1)).flatten.length from by rw [hft, List.length_append, HM.out])
      have hle := flatten_take_le C (k + 1)
      rw [← HM2.out] at hle
      have hle2 : m + x.length ≤ 1073741824 := Nat.le_trans hle HN.out
      have hw1 : IntKind.i64.wrap ((m : Int) + (x.length : Int)) = (m : Int) + (x.length : Int) := IntWalk.i64_in _ (by omega)
      have hd1 : decide ((m : Int) + (x.length : Int) < 0) = false := decide_eq_false (by omega)
      clear hB hx hu k_x hft hle
      go_wp2
      go_roundw
      case rel => exact ⟨k + 1, m + x.length, by omega, by go_num, by go_num, HM2, HB.out⟩
      case measure => simp [intOf]; omega
    · have hdl : decide ((k : Int) < (C.length : Int)) = false := decide_eq_false (by omega)
      have HT := Lib.hid (show C.take k = C from List.take_of_length_le (by omega))
      clear hB
      go_wp2_with fail
      refine (growb_impl (n := m) rfl (by omega)).mono ?_
      intro e w1 h
      obtain ⟨v, lo, rfl, hlo, hlw, hrow, hb⟩ := newB_elim h
      have HB1 := Lib.hid (HB.out.trans (hb.mono hsz))
      have hz1 := HB1.out.size
      have HV := Lib.hid hrow
      have hlo0 : W.heap.size ≤ lo := by omega
      clear h hrow hb
      go_wp2
      go_loopw [6, 27] (fun v i wr => ∃ k lo : Nat, k ≤ C.length ∧ i = .int .i64 k ∧ W.heap.size ≤ lo ∧ lo ≤ wr.heap.size ∧ Hid (BRow wr lo v (C.take k).flatten) ∧ Below W.heap.size W wr) (fun _ i _ => C.length - (intOf i).toNat)
      case atStart => exact ⟨0, lo, Nat.zero_le _, rfl, hlo0, hlw, Lib.hid (by simpa using HV.out), HB1.out⟩
      case round =>
        obtain ⟨k, lo, hk, rfl, hl1, hl2, HV, hB⟩ := hrel
        have HB := Lib.hid hB
        have hsz := hB.size
        by_cases hlt : k < C.length
        · have hdl : decide ((k : Int) < (C.length : Int)) = true := decide_eq_true (by omega)
          obtain ⟨x, hx⟩ := el_some hlt
          obtain ⟨g, o, us, rfl, hg, hu, hr⟩ := (HC.out.below (Sl_ok R_Label_ok) hB).at_ hx
          obtain ⟨a1, c1, rfl, k_x⟩ := hr
          have e0 : wr.cell? ⟨g, o + k, none⟩ = some (.slice a1 x.length c1) := by simpa [sizeSL1] using hu 0 _ rfl
          have hi0 : (0 : Int) ≤ (k : Int) := Int.natCast_nonneg _
          have hi1 : (k : Int) < (C.length : Int) := by omega
          have hft := flatten_take hx
          have hle := flatten_take_le C (k + 1)
          rw [hft, List.length_append] at hle
          have hle2 := Nat.le_trans hle HN.out
          obtain ⟨va, vc, rfl⟩ := HV.out.isSlice
          obtain ⟨a', c', w2, hrn, hrow2, hb2⟩ := BRow.more HV.out (k_x.more R_Label_ok hsz) hl2 (by omega)
          have HR := Lib.hid hrn
          have HW2 := Lib.hid (show BRow w2 lo _ (C.take (k + 1)).flatten from by rw [hft]; exact hrow2)
          have HB2 := Lib.hid (HB.out.trans (hb2.mono hl1))
          have hl3 := Nat.le_trans hl2 hb2.size
          clear hrn hrow2 hb2 hB hx hu k_x hft hle hle2
          go_wp2_with (at_builtin; refine wpList_app rfl (.tmp 31) (.tmp 32) 119 rfl rfl rfl HR.out ?_)
          go_roundw
          case rel => exact ⟨k + 1, lo, by omega, by go_num, hl1, hl3, Lib.hid (by simpa using HW2.out), HB2.out⟩
          case measure => simp [intOf]; omega
        · have hdl : decide ((k : Int) < (C.length : Int)) = false := decide_eq_false (by omega)
          have HT := Lib.hid (show C.take k = C from List.take_of_length_le (by omega))
          have HW2 := Lib.hid HV.out
          clear hB
          go_wp2
          go_ret
          exact ⟨_, lo, rfl, hl1, hl2, by have := HW2.out; rw [HT.out] at this; exact this, HB.out⟩
end Go.Proofs.YtlgflddljhldhaaGreat.RepC
end
section
namespace Go.Proofs.YtlgflddljhldhaaGreat.SortC
open Go.Shelf
def Tryz.cmpI64_ren : Go.Shelf.Ren := ⟨fun | 5 => 136 | 7 => 140 | n => n, fun | 22 => 2 | 3 => 3 | 4 => 4 | n => n, fun | n => n⟩
theorem Tryz.cmpI64 : Go.Proofs.SlLaysC2.n5 Tryz.prog Tryz.cmpI64_ren := {
  mixed := by kernel_rfl
  f5 := ⟨Tryz.f136.name, by decide, Tryz.func136.trans (congrArg some (by kernel_rfl))⟩
  f7 := ⟨Tryz.f140.name, by decide, Tryz.func140.trans (congrArg some (by kernel_rfl))⟩
  t3 := Tryz.underlying3
  a3 := Tryz.isAgg3
  z3 := Tryz.sizeOf3
  v3 := Tryz.zeroValue3
  t4 := Tryz.underlying4
  a4 := Tryz.isAgg4
  z4 := Tryz.sizeOf4
  v4 := Tryz.zeroValue4
  t22 := Tryz.underlying2
  a22 := Tryz.isAgg2
  z22 := Tryz.sizeOf2
  v22 := Tryz.zeroValue2 }
end Go.Proofs.YtlgflddljhldhaaGreat.SortC
end
section
namespace Go.Proofs.YtlgflddljhldhaaGreat.SortC
open Go.Shelf Go.RowKit RepC RowC ValC
set_option linter.unusedVariables false
set_option linter.unusedSimpArgs false
theorem cmp64 (x y : Int) (w : World) : Calls Tryz.prog 136 #[.int .i64 x, .int .i64 y] w fun e w' => e = .returned (.int .i64 (Lib.compareInt x y)) ∧ w' = w := AnyG.cmp_Compare_int Tryz.cmpI64 x y w
def orI (l : List Int) : Int := (l.find? (· != 0)).getD 0
set_option maxRecDepth 100000 in
set_option maxHeartbeats 1600000 in
theorem or2_v (g : Nat) (r0 r1 : Int) (w : World) (h : Blk w g 3 #[.int .i64 r0, .int .i64 r1]) :
    Calls Tryz.prog 135 #[.slice (some ⟨g, 0, none⟩) 2 2] w fun e w' => e = .returned (.int .i64 (orI [r0, r1])) ∧ w' = w := by
  have HB := Lib.hid h
  clear h
  have c0 := HB.out.at_ 0 rfl
  have c1 := HB.out.at_ 1 rfl
  go_enter Tryz.func135, Tryz.ntmps135
  go_wp2
  go_loopw [8] (fun i wr => ∃ k : Nat, k ≤ 2 ∧ i = .int .i64 k ∧ wr = w ∧ Hid (∀ j, j < k → [r0, r1].getD j 0 = 0)) (fun i _ => 2 - (intOf i).toNat)
  case atStart => exact ⟨0, by omega, rfl, rfl, Lib.hid fun j h => absurd h (Nat.not_lt_zero _)⟩
  case round =>
    obtain ⟨k, hk, rfl, rfl, HZ⟩ := hrel
    by_cases hk4 : k = 2
    · subst hk4
      have HE := Lib.hid (show orI [r0, r1] = 0 from by
        have e0 := HZ.out 0 (by omega); have e1 := HZ.out 1 (by omega)
        simp at e0 e1; subst e0 e1; rfl)
      go_wp2
      go_ret
      exact ⟨by rw [HE.out]; rfl, rfl⟩
    · obtain ⟨r, hr⟩ : ∃ r, [r0, r1].getD k 0 = r := ⟨_, rfl⟩
      have hc : wr.cell? ⟨g, k, none⟩ = some (.int .i64 r) := by
        have : k = 0 ∨ k = 1 := by omega
        rcases this with rfl | rfl <;> (subst hr; assumption)
      have HRk := Lib.hid hr
      have hi0 : (0 : Int) ≤ (k : Int) := Int.natCast_nonneg _
      have hi1 : (k : Int) < 2 := by omega
      have hd : decide ((k : Int) < 2) = true := decide_eq_true hi1
      clear hr c0 c1
      by_cases h0 : r = 0
      · subst h0
        have HZ2 := Lib.hid (show ∀ j, j < k + 1 → [r0, r1].getD j 0 = 0 from fun j hj => by
          by_cases e : j = k
          · rw [e]; exact HRk.out
          · exact HZ.out j (by omega))
        go_wp2
        go_roundw
        case rel => exact ⟨k + 1, by omega, by go_num, by first | rfl | trivial, HZ2⟩
        case measure => simp [intOf]; omega
      · have HE := Lib.hid (show orI [r0, r1] = r from by
          have hr := HRk.out
          have hz := HZ.out
          have : k = 0 ∨ k = 1 := by omega
          rcases this with rfl | rfl
          · simp at hr; subst hr; simp [orI, h0]
          · have e0 := hz 0 (by omega); simp at e0 hr; subst hr; simp [orI, h0, e0])
        have h0' : (r == 0) = false := by simpa using h0
        go_wp2
        go_ret
        exact ⟨by rw [HE.out]; rfl, rfl⟩
def labI (a0 a1 b0 b1 : Int) : Int := orI [Lib.compareInt a0 b0, Lib.compareInt a1 b1]
set_option maxRecDepth 100000 in
set_option maxHeartbeats 3200000 in
theorem bylab_v (a0 a1 b0 b1 : Int) (W : World) :
    Calls Tryz.prog 129 #[.agg #[.int .i64 a0, .int .i64 a1], .agg #[.int .i64 b0, .int .i64 b1]] W
      fun e w' => e = .returned (.int .i64 (labI a0 a1 b0 b1)) ∧ w' = (((W.alloc (.cells #[.int .i64 a0, .int .i64 a1] 47)).alloc (.cells #[.int .i64 b0, .int .i64 b1] 47)).drew.alloc (.cells #[.int .i64 (Lib.compareInt a0 b0), .int .i64 (Lib.compareInt a1 b1)] 3)) := by
  obtain ⟨V0, hV0⟩ : ∃ V0, V0 = ((W.alloc (.cells #[.int .i64 a0, .int .i64 a1] 47)).alloc (.cells #[.int .i64 b0, .int .i64 b1] 47)) := ⟨_, rfl⟩
  have BA := Lib.hid (show Blk V0 W.heap.size 47 #[.int .i64 a0, .int .i64 a1] from by rw [hV0]; exact (Blk.new W _ _).alloc _)
  have BB := Lib.hid (show Blk V0 (W.heap.size + 1) 47 #[.int .i64 b0, .int .i64 b1] from by
    have h9 := Blk.new (W.alloc (.cells #[.int .i64 a0, .int .i64 a1] 47)) 47 #[.int .i64 b0, .int .i64 b1]
    simp only [World.size_alloc] at h9
    rw [hV0]; exact h9)
  have HS4 := Lib.hid (Blk.new V0.drew 3 #[.int .i64 (Lib.compareInt a0 b0), .int .i64 (Lib.compareInt a1 b1)])
  rw [← hV0]
  go_enter Tryz.func129, Tryz.ntmps129
  go_wp2_with fail
  rw [← hV0]
  clear hV0
  refine wp_region_held_drew (S := (fun V => Below (V0).heap.size (V0) V)) (by kernel_rfl) ((Below.refl _ _).drew) (fun hHeld => ?_)
  refine tk 0 hHeld ?_
  refine tk 1 hHeld ?_ (hy := fun w hSw => by (try dsimp only at hSw); have k0 := (hSw.cell (p := ⟨W.heap.size, 0, none⟩) BA.out.lt).trans (BA.out.at_ 0 rfl); clear hSw; go_simp; try with_reducible rfl)
  refine tk 2 hHeld ?_
  refine tk 3 hHeld ?_ (hy := fun w hSw => by (try dsimp only at hSw); have k0 := (hSw.cell (p := ⟨W.heap.size + 1, 0, none⟩) BB.out.lt).trans (BB.out.at_ 0 rfl); clear hSw; go_simp; try with_reducible rfl)
  refine tk 5 hHeld ?_
  refine tk 6 hHeld ?_ (hy := fun w hSw => by (try dsimp only at hSw); have k0 := (hSw.cell (p := ⟨W.heap.size, 1, none⟩) BA.out.lt).trans (BA.out.at_ 1 rfl); clear hSw; go_simp; try with_reducible rfl)
  refine tk 7 hHeld ?_
  refine tk 8 hHeld ?_ (hy := fun w hSw => by (try dsimp only at hSw); have k0 := (hSw.cell (p := ⟨W.heap.size + 1, 1, none⟩) BB.out.lt).trans (BB.out.at_ 1 rfl); clear hSw; go_simp; try with_reducible rfl)
  refine rd1 4 (fun K hK => ?_)
  go_simp
  go_at_call 136
  refine (cmp64 _ _ _).mono ?_
  rintro e w1 ⟨rfl, rfl⟩
  have hb := Below.refl V0.drew.heap.size V0.drew
  refine hK.out _ _ (hHeld.trans (hb.mono hHeld.size)) (fun hHeld => ?_)
  clear hK K hb
  refine rd1 9 (fun K hK => ?_)
  go_simp
  go_at_call 136
  refine (cmp64 _ _ _).mono ?_
  rintro e w1 ⟨rfl, rfl⟩
  have hb := Below.refl V0.drew.heap.size V0.drew
  refine hK.out _ _ (hHeld.trans (hb.mono hHeld.size)) (fun hHeld => ?_)
  clear hK K hb
  refine rd1 10 (fun K hK => ?_)
  go_simp
  have hb := (Below.refl V0.drew.heap.size V0.drew).alloc (Nat.le_refl _) (.cells #[.int .i64 (Lib.compareInt a0 b0), .int .i64 (Lib.compareInt a1 b1)] 3)
  refine hK.out _ _ (hHeld.trans (hb.mono hHeld.size)) (fun hHeld => ?_)
  clear hK K hb
  refine rd1 11 (fun K hK => ?_)
  go_simp
  go_at_call 135
  refine (or2_v _ _ _ _ HS4.out).mono ?_
  rintro e w1 ⟨rfl, rfl⟩
  have hb := Below.refl (V0.drew.alloc (.cells #[.int .i64 (Lib.compareInt a0 b0), .int .i64 (Lib.compareInt a1 b1)] 3)).heap.size (V0.drew.alloc (.cells #[.int .i64 (Lib.compareInt a0 b0), .int .i64 (Lib.compareInt a1 b1)] 3))
  refine hK.out _ _ (hHeld.trans (hb.mono hHeld.size)) (fun hHeld => ?_)
  clear hK K hb
  refine tk 12 hHeld ?_
  refine rd0 ?_
  have HF := Lib.hid hHeld
  clear hHeld
  go_wp2
  go_ret
  exact ⟨rfl, rfl⟩
theorem cmpI (a b : Int) : (Lib.compareInt a b = -1 ∧ a < b) ∨ (Lib.compareInt a b = 0 ∧ a = b) ∨ (Lib.compareInt a b = 1 ∧ b < a) := by
  unfold Lib.compareInt
  by_cases h1 : a < b
  · left; exact ⟨by simp [h1], h1⟩
  · by_cases h2 : b < a
    · right; right; exact ⟨by simp [h1, h2], h2⟩
    · right; left; exact ⟨by simp [h1, h2], by omega⟩
end Go.Proofs.YtlgflddljhldhaaGreat.SortC
end
section
namespace Go.Proofs.YtlgflddljhldhaaGreat.SortC
open Go.Shelf Go.RowKit RepC Go.Lib Go.Sort
set_option linter.unusedVariables false
set_option linter.unusedSimpArgs false
theorem grow3 (V : World) (o1 o2 o3 : Obj) : (((V.alloc o1).alloc o2).drew).alloc o3 = grow (V.drewN 1) #[o1, o2, o3] := by
  simp only [alloc_eq_grow]
  show grow (grow (grow (V.drewN 1) #[o1]) #[o2]) #[o3] = _
  rw [grow_grow, grow_grow]
  rfl
end Go.Proofs.YtlgflddljhldhaaGreat.SortC
end
section
namespace Go.Proofs.YtlgflddljhldhaaGreat.SortC
open Go.Shelf
def Tryz.sortLab_ren : Go.Shelf.Ren := ⟨fun | 6 => 133 | 15 => 139 | 14 => 138 | 28 => 149 | 29 => 150 | 20 => 141 | 21 => 142 | 22 => 143 | 23 => 144 | 24 => 145 | 25 => 146 | 26 => 147 | 27 => 148 | 46 => 151 | 47 => 152 | 48 => 153 | 49 => 154 | 50 => 155 | 57 => 156 | n => n, fun | 22 => 119 | 24 => 47 | 25 => 175 | 3 => 3 | 39 => 146 | 0 => 0 | 53 => 194 | 55 => 142 | 4 => 4 | 46 => 187 | 45 => 186 | 50 => 191 | 5 => 5 | 9 => 9 | 66 => 196 | 70 => 200 | 76 => 202 | 77 => 203 | n => n, fun | n => n⟩
theorem Tryz.sortLab : Go.Proofs.SlLaysF0.n6 Tryz.prog Tryz.sortLab_ren := {
  mixed := by kernel_rfl
  f6 := ⟨Tryz.f133.name, by decide, Tryz.func133.trans (congrArg some (by kernel_rfl))⟩
  f14 := ⟨Tryz.f138.name, by decide, Tryz.func138.trans (congrArg some (by kernel_rfl))⟩
  f15 := Tryz.func139.trans (congrArg some (by kernel_rfl))
  f20 := ⟨Tryz.f141.name, by decide, Tryz.func141.trans (congrArg some (by kernel_rfl))⟩
  f21 := ⟨Tryz.f142.name, by decide, Tryz.func142.trans (congrArg some (by kernel_rfl))⟩
  f22 := ⟨Tryz.f143.name, by decide, Tryz.func143.trans (congrArg some (by kernel_rfl))⟩
  f23 := ⟨Tryz.f144.name, by decide, Tryz.func144.trans (congrArg some (by kernel_rfl))⟩
  f24 := ⟨Tryz.f145.name, by decide, Tryz.func145.trans (congrArg some (by kernel_rfl))⟩
  f25 := ⟨Tryz.f146.name, by decide, Tryz.func146.trans (congrArg some (by kernel_rfl))⟩
  f26 := ⟨Tryz.f147.name, by decide, Tryz.func147.trans (congrArg some (by kernel_rfl))⟩
  f27 := ⟨Tryz.f148.name, by decide, Tryz.func148.trans (congrArg some (by kernel_rfl))⟩
  f28 := Tryz.func149.trans (congrArg some (by kernel_rfl))
  f29 := Tryz.func150.trans (congrArg some (by kernel_rfl))
  f46 := ⟨Tryz.f151.name, by decide, Tryz.func151.trans (congrArg some (by kernel_rfl))⟩
  f47 := Tryz.func152.trans (congrArg some (by kernel_rfl))
  f48 := Tryz.func153.trans (congrArg some (by kernel_rfl))
  f49 := ⟨Tryz.f154.name, by decide, Tryz.func154.trans (congrArg some (by kernel_rfl))⟩
  f50 := ⟨Tryz.f155.name, by decide, Tryz.func155.trans (congrArg some (by kernel_rfl))⟩
  f57 := ⟨Tryz.f156.name, by decide, Tryz.func156.trans (congrArg some (by kernel_rfl))⟩
  t0 := Tryz.underlying0
  a0 := Tryz.isAgg0
  z0 := Tryz.sizeOf0
  v0 := Tryz.zeroValue0
  t3 := Tryz.underlying3
  a3 := Tryz.isAgg3
  z3 := Tryz.sizeOf3
  v3 := Tryz.zeroValue3
  t4 := Tryz.underlying4
  a4 := Tryz.isAgg4
  z4 := Tryz.sizeOf4
  v4 := Tryz.zeroValue4
  t5 := Tryz.underlying5
  a5 := Tryz.isAgg5
  z5 := Tryz.sizeOf5
  v5 := Tryz.zeroValue5
  t9 := Tryz.underlying9
  a9 := Tryz.isAgg9
  z9 := Tryz.sizeOf9
  v9 := Tryz.zeroValue9
  t22 := Tryz.underlying119
  a22 := Tryz.isAgg119
  z22 := Tryz.sizeOf119
  v22 := Tryz.zeroValue119
  t25 := Tryz.underlying175
  a25 := Tryz.isAgg175
  z25 := Tryz.sizeOf175
  v25 := Tryz.zeroValue175
  t39 := Tryz.underlying146
  a39 := Tryz.isAgg146
  z39 := Tryz.sizeOf146
  v39 := Tryz.zeroValue146
  t45 := Tryz.underlying186
  a45 := Tryz.isAgg186
  z45 := Tryz.sizeOf186
  v45 := Tryz.zeroValue186
  t46 := Tryz.underlying187
  a46 := Tryz.isAgg187
  z46 := Tryz.sizeOf187
  v46 := Tryz.zeroValue187
  t50 := Tryz.underlying191
  a50 := Tryz.isAgg191
  z50 := Tryz.sizeOf191
  v50 := Tryz.zeroValue191
  t53 := Tryz.underlying194
  a53 := Tryz.isAgg194
  z53 := Tryz.sizeOf194
  v53 := Tryz.zeroValue194
  t55 := Tryz.underlying142
  a55 := Tryz.isAgg142
  z55 := Tryz.sizeOf142
  v55 := Tryz.zeroValue142
  t66 := Tryz.underlying196
  a66 := Tryz.isAgg196
  z66 := Tryz.sizeOf196
  v66 := Tryz.zeroValue196
  t70 := Tryz.underlying200
  a70 := Tryz.isAgg200
  z70 := Tryz.sizeOf200
  v70 := Tryz.zeroValue200
  t76 := Tryz.underlying202
  a76 := Tryz.isAgg202
  z76 := Tryz.sizeOf202
  v76 := Tryz.zeroValue202
  t77 := Tryz.underlying203
  a77 := Tryz.isAgg203
  z77 := Tryz.sizeOf203
  v77 := Tryz.zeroValue203 }
end Go.Proofs.YtlgflddljhldhaaGreat.SortC
end
section
namespace Go.Proofs.YtlgflddljhldhaaGreat.SortC
open Go.Shelf Go.RowKit RepC Go.Lib Go.Sort
set_option linter.unusedVariables false
set_option linter.unusedSimpArgs false
abbrev LC := Int × Int
def encL (x : LC) : List Value := [.int .i64 x.1, .int .i64 x.2]
def cfL (x y : LC) : Int := labI x.1 x.2 y.1 y.2
theorem ltL (x y : LC) : ltOf cfL x y = true ↔ (x.1 < y.1 ∨ x.1 = y.1 ∧ x.2 < y.2) := by
  unfold ltOf cfL labI orI
  rcases cmpI x.1 y.1 with ⟨e1, h1⟩ | ⟨e1, h1⟩ | ⟨e1, h1⟩ <;> rcases cmpI x.2 y.2 with ⟨e2, h2⟩ | ⟨e2, h2⟩ | ⟨e2, h2⟩ <;> rw [e1, e2] <;> simp <;> omega
theorem labI_ge (a0 a1 b0 b1 : Int) : 0 ≤ labI a0 a1 b0 b1 ↔ ¬ (a0 < b0 ∨ a0 = b0 ∧ a1 < b1) := by
  unfold labI orI
  rcases cmpI a0 b0 with ⟨e1, h1⟩ | ⟨e1, h1⟩ | ⟨e1, h1⟩ <;> rcases cmpI a1 b1 with ⟨e2, h2⟩ | ⟨e2, h2⟩ | ⟨e2, h2⟩ <;> rw [e1, e2] <;> simp <;> omega
theorem swoL : SWO (ltOf cfL) where
  irrefl x := by
    rw [Bool.eq_false_iff]; intro h; rw [ltL] at h; omega
  trans x y z h1 h2 := by rw [ltL] at *; omega
  ntrans x y z h1 h2 := by rw [Bool.eq_false_iff, ne_eq, ltL] at *; omega
theorem cmpLaysL (blk off size : Nat) (w : World) : CmpLays Tryz.prog 129 #[] encL 2 cfL blk off size w := fun m os dk _ x y =>
  (bylab_v x.1 x.2 y.1 y.2 _).mono fun _ _ ⟨he, hw⟩ => ⟨he, 1, _, hw.trans (grow3 _ _ _ _)⟩
theorem sort_labs (blk off cap : Nat) (d : Array LC) (w : World) (hH : HoldsK encL 2 w blk off d) (hblk : blk < w.heap.size) (hsz : d.size < 4611686018427387904) :
    Calls Tryz.prog 133 #[.slice (some ⟨blk, off, none⟩) d.size cap, .func (.func 129) #[] #[]] w fun e w' => e = .returned (.tuple #[]) ∧ ∃ d' n os, PermIn 0 d.size d d' ∧ SortedIn (ltOf cfL) 0 d.size d' ∧ w' = sortWorldK encL 2 w blk off n d' os := by
  have eg : ∀ args w, (callFunc 129 args).run Tryz.prog w = .ok (.enter 129 args) w := enters_of Tryz.func129 (by kernel_rfl) rfl
  exact AnyQ.slices_SortFunc Tryz.sortLab 2 Tryz.isAgg47 Tryz.sizeOf47 encL (fun _ => rfl) (fun x v hv => by simp [encL] at hv; rcases hv with rfl | rfl <;> rfl) cfL swoL 129 #[] blk off cap d w eg (cmpLaysL blk off d.size w) hH hblk hsz
end Go.Proofs.YtlgflddljhldhaaGreat.SortC
end
section
namespace Go.Proofs.YtlgflddljhldhaaGreat.RepC
open Go.RowKit RowC ValC SpanC KeptC Go.Sort Go.Lib
set_option linter.unusedVariables false
set_option linter.unusedSimpArgs false
def Rw (W : World) (g : Nat) (d : Array (Int × Int)) : Prop := ∀ j, j < d.size → W.cell? ⟨g, j * 2, none⟩ = some (.int .i64 d[j]!.1) ∧ W.cell? ⟨g, j * 2 + 1, none⟩ = some (.int .i64 d[j]!.2)
def Sf (W : World) (g : Nat) : Prop := ∀ j, W.frozen? ⟨g, j, none⟩ = false
theorem Rw.below {W W' : World} {g : Nat} {d : Array (Int × Int)} (h : Rw W g d) (hg : g < W.heap.size) (hb : RowKit.Below W.heap.size W W') : Rw W' g d := fun j hj => ⟨(hb.cell (p := ⟨g, _, none⟩) hg).trans (h j hj).1, (hb.cell (p := ⟨g, _, none⟩) hg).trans (h j hj).2⟩
theorem Sf.below {W W' : World} {g : Nat} (h : Sf W g) (hg : g < W.heap.size) (hb : RowKit.Below W.heap.size W W') : Sf W' g := fun j => (hb.frozen (p := ⟨g, j, none⟩) hg).trans (h j)
theorem Rw.set {W : World} {g i : Nat} {d : Array (Int × Int)} (h : Rw W g d) (hi : i < d.size) (x0 x1 : Int) : Rw ((W.setCell ⟨g, i * 2, none⟩ (.int .i64 x0)).setCell ⟨g, i * 2 + 1, none⟩ (.int .i64 x1)) g (d.setIfInBounds i (x0, x1)) := fun j hj => by
  have hj' : j < d.size := by simpa using hj
  by_cases e : j = i
  · subst e
    rw [getElem!_set_same d j _ hi]
    refine ⟨?_, ?_⟩
    · rw [World.cell?_setCell_other _ _ _ _ (fun e => by injection e with _ e2; omega)]
      exact World.cell?_setCell_same' _ _ _ (by rw [(h j hi).1]; rfl)
    · exact World.cell?_setCell_same' _ _ _ (by rw [World.cell?_setCell_other _ _ _ _ (fun e => by injection e with _ e2; omega), (h j hi).2]; rfl)
  · rw [getElem!_set_other d i j _ e]
    refine ⟨?_, ?_⟩
    · rw [World.cell?_setCell_other _ _ _ _ (fun e => by injection e with _ e2; omega), World.cell?_setCell_other _ _ _ _ (fun e => by injection e with _ e2; omega)]; exact (h j hj').1
    · rw [World.cell?_setCell_other _ _ _ _ (fun e => by injection e with _ e2; omega), World.cell?_setCell_other _ _ _ _ (fun e => by injection e with _ e2; omega)]; exact (h j hj').2
theorem Sf.set {W : World} {g i : Nat} (h : Sf W g) (u : Value) : Sf (W.setCell ⟨g, i, none⟩ u) g := fun j => by simpa using h j
theorem off_sort {g n : Nat} {d' : Array (Int × Int)} {os : Array Obj} {w : World} : Off (fun k => k = g) w (Go.Proofs.sortWorldK SortC.encL 2 w g 0 n d' os) := by
  unfold Go.Proofs.sortWorldK Go.Sort.putRowK
  refine ⟨rfl, rfl, rfl, by simp, fun k hk hkg => ?_⟩
  rw [heap_grow_old _ _ (by simpa using hk)]
  show (Array.modify _ _ _)[k]? = _
  rw [Array.getElem?_modify, if_neg (fun e => hkg e.symm)]
  rfl
theorem rw_holds {W : World} {g : Nat} {d : Array (Int × Int)} (h : HoldsK SortC.encL 2 W g 0 d) : Rw W g d := fun j hj => by
  have h0 := (h.cell (i := j) (c := 0) hj (by omega)).1
  have h1 := (h.cell (i := j) (c := 1) hj (by omega)).1
  simp only [Nat.zero_add, Nat.add_zero] at h0 h1
  exact ⟨h0, h1⟩
theorem holds_rw {W : World} {g : Nat} {d : Array (Int × Int)} (h : Rw W g d) (hf : Sf W g) : HoldsK SortC.encL 2 W g 0 d := fun t ht => by
  have ht' : t < d.size * 2 := by simpa using ht
  rw [get_flatK _ _ _ _ ht', Nat.zero_add]
  refine ⟨?_, hf t⟩
  obtain ⟨h0, h1⟩ := h (t / 2) (by omega)
  rcases Nat.mod_two_eq_zero_or_one t with e | e
  · rw [e, show t = t / 2 * 2 by omega]
    rw [show (t / 2 * 2) / 2 = t / 2 by omega]
    exact h0
  · rw [e, show t = t / 2 * 2 + 1 by omega]
    rw [show (t / 2 * 2 + 1) / 2 = t / 2 by omega]
    exact h1
def SrtR (L : List (Int × Int)) (w : World) (e : Ending) (w' : World) : Prop := ∃ g c d, e = .returned (.slice (some ⟨g, 0, none⟩) d.size c) ∧ d.size ≤ c ∧ c ≤ maxLen ∧ w.heap.size ≤ g ∧ g < w'.heap.size ∧ Rw w' g d ∧ Sf w' g ∧ d.size = L.length ∧ (∀ a, (∃ j, j < d.size ∧ d[j]! = a) ↔ a ∈ L) ∧ (∀ i j, i < j → j < d.size → ¬ (d[j]!.1 < d[i]!.1 ∨ d[j]!.1 = d[i]!.1 ∧ d[j]!.2 < d[i]!.2)) ∧ RowKit.Below w.heap.size w w'
theorem srtR_elim {L : List (Int × Int)} {w : World} {e : Ending} {w' : World} (h : SrtR L w e w') : ∃ g c d, e = .returned (.slice (some ⟨g, 0, none⟩) d.size c) ∧ d.size ≤ c ∧ c ≤ maxLen ∧ w.heap.size ≤ g ∧ g < w'.heap.size ∧ Rw w' g d ∧ Sf w' g ∧ d.size = L.length ∧ (∀ a, (∃ j, j < d.size ∧ d[j]! = a) ↔ a ∈ L) ∧ (∀ i j, i < j → j < d.size → ¬ (d[j]!.1 < d[i]!.1 ∨ d[j]!.1 = d[i]!.1 ∧ d[j]!.2 < d[i]!.2)) ∧ RowKit.Below w.heap.size w w' := h
theorem arr_mem (d : Array (Int × Int)) (a : Int × Int) : (∃ j, j < d.size ∧ d[j]! = a) ↔ a ∈ d.toList := by
  rw [Array.mem_toList_iff, Array.mem_iff_getElem]
  constructor
  · rintro ⟨j, hj, e⟩; exact ⟨j, hj, by rw [← e, getElem!_pos d j hj]⟩
  · rintro ⟨j, hj, e⟩; exact ⟨j, hj, by rw [← e, getElem!_pos d j hj]⟩
set_option maxRecDepth 100000 in
set_option maxHeartbeats 1600000 in
theorem clone_labs {L : List D_Label} {a : Option Addr} {cap : Nat} {W : World} (hn : L.length ≤ 1048576) (hne : 0 < L.length) (h : RdSl R_Label W W.heap.size L a cap) :
    Calls Tryz.prog 132 #[.slice a L.length cap] W (NewS R_Label L W) := by
  have qT : ∀ (w : World) (a : Option Addr) (n c n' c' : Nat), (binOp .eql 119 (.slice a n c) (.slice none n' c')).run Tryz.prog w = .ok (.bool a.isNone) w := fun w a n c n' c' => Lib.run_eql_slice_nil w _ _ a n c n' c' Tryz.underlying119
  obtain ⟨g, o, rfl, _⟩ := h.2.2 hne
  obtain ⟨iL, hiL, hzL1, hsL, hbL⟩ := infoLb
  obtain ⟨a', c', w5, hr, hos, hb⟩ := app_flat (P := Tryz.prog) (ty := 119) R_Label_ok flat_Label Tryz.underlying119 hiL hzL1 hsL hbL rfl (by decide) (by unfold maxLen; omega) (by omega) h
  clear hiL hzL1 hsL hbL
  have HR := Lib.hid hr
  have HO := Lib.hid hos
  have HB := Lib.hid hb
  clear hr hos hb h
  go_enter Tryz.func132, Tryz.ntmps132
  go_wp2_with (at_builtin; refine wpList_app rfl (.tmp 5) (.tmp 6) 119 rfl rfl rfl HR.out ?_)
  go_ret
  exact ⟨a', c', rfl, HO.out, HB.out⟩
set_option maxRecDepth 100000 in
set_option maxHeartbeats 1600000 in
theorem sorted_labs {L : List D_Label} {a : Option Addr} {cap : Nat} {W : World} (hn : L.length ≤ 1048576) (hne : 0 < L.length) (h : RdSl R_Label W W.heap.size L a cap) :
    Calls Tryz.prog 127 #[.slice a L.length cap, .func (.func 129) #[] #[]] W (SrtR L W) := by
  have HLen := Lib.hid (And.intro hn hne)
  go_enter Tryz.func127, Tryz.ntmps127
  go_wp2_with fail
  refine (clone_labs hn hne h).mono ?_
  intro e w1 h1
  obtain ⟨a1, c1, rfl, ho, hb⟩ := newS_elim h1
  obtain ⟨hc1, hc2, hrow⟩ := ho
  obtain ⟨g, Sg, rfl, hgS, hfr, hsub, _, hel⟩ := hrow hne
  have HRw := Lib.hid (show Rw w1 g L.toArray from fun j hj => by
    have hj' : j < L.length := by simpa using hj
    obtain ⟨x, hx⟩ := el_some hj'
    obtain ⟨us, hu, hr⟩ := hel j x hx
    obtain ⟨x0, x1⟩ := x
    obtain rfl := rd_Label (R_Label_ok.ow_rd hr (B := w1.heap.size) (fun k hk => (hsub j k hk).1.2))
    have e : L.toArray[j]! = (x0, x1) := by simp [List.getElem!_eq_getElem?_getD, hx]
    rw [e]
    exact ⟨by simpa [show R_Label.size = 2 from rfl] using hu 0 _ rfl, by simpa [show R_Label.size = 2 from rfl] using hu 1 _ rfl⟩)
  have HSf := Lib.hid (show Sf w1 g from hfr)
  have HB := Lib.hid hb
  have hg1 : W.heap.size ≤ g := hgS.1
  have hg2 : g < w1.heap.size := hgS.2
  have HC := Lib.hid (And.intro hc1 hc2)
  clear h h1 hb hc1 hc2 hrow hgS hfr hsub hel
  go_wp2_with fail
  have hs := SortC.sort_labs g 0 c1 L.toArray w1 (holds_rw HRw.out HSf.out) hg2 (by have := HLen.out.1; simp; omega)
  simp only [List.size_toArray] at hs
  refine hs.mono ?_
  rintro e w2 ⟨rfl, d', n, os, hp, hso, rfl⟩
  have hoff := off_sort (g := g) (n := n) (d' := d') (os := os) (w := w1)
  have hds : d'.size = L.length := by simpa using hp.1
  have hH2 : HoldsK SortC.encL 2 (Go.Proofs.sortWorldK SortC.encL 2 w1 g 0 n d' os) g 0 d' := by
    unfold Go.Proofs.sortWorldK
    exact holdsK_grow SortC.encL 2 _ _ g 0 d' (by simpa [Go.Sort.putRowK] using hg2) (holdsK_putRowK SortC.encL 2 _ g 0 L.toArray d' (holdsK_ahead SortC.encL 2 w1 n g 0 L.toArray (holds_rw HRw.out HSf.out)) (by simpa using hds))
  have HR2 := Lib.hid (rw_holds hH2)
  have HS2 := Lib.hid (show Sf (Go.Proofs.sortWorldK SortC.encL 2 w1 g 0 n d' os) g from fun j => by
    have := HSf.out j
    unfold Go.Proofs.sortWorldK
    rw [frozen?_grow _ _ _ (by simpa [Go.Sort.putRowK] using hg2)]
    unfold Go.Sort.putRowK
    rw [frozen?_putRow]
    exact this)
  have HMem := Lib.hid (show ∀ a, (∃ j, j < d'.size ∧ d'[j]! = a) ↔ a ∈ L from fun a => by
    rw [arr_mem]
    have h3 := hp.2.2
    have e1 : d'.extract 0 L.toArray.size = d' := by rw [← hp.1]; simp
    have e2 : L.toArray.extract 0 L.toArray.size = L.toArray := by simp
    rw [List.size_toArray] at e1 e2
    rw [e1, e2] at h3
    simpa using h3.mem_iff (a := a))
  have HSo := Lib.hid (show ∀ i j, i < j → j < d'.size → ¬ (d'[j]!.1 < d'[i]!.1 ∨ d'[j]!.1 = d'[i]!.1 ∧ d'[j]!.2 < d'[i]!.2) from fun i j hij hj hlt => by
    have := hso i j (Nat.zero_le _) hij (by simpa [hds] using hj)
    rw [(SortC.ltL _ _).2 hlt] at this
    cases this)
  have HB2 := Lib.hid (HB.out.trans (hoff.below HB.out.size (fun k hk => by rw [hk]; exact hg1)))
  have hz := hoff.size
  obtain ⟨w2, hw2⟩ : ∃ w, w = Go.Proofs.sortWorldK SortC.encL 2 w1 g 0 n d' os := ⟨_, rfl⟩
  rw [← hw2] at HR2 HS2 HB2 hz ⊢
  clear hs hp hso hH2 hoff hw2
  go_wp2
  go_ret
  exact ⟨g, c1, d', by rw [hds]; rfl, by rw [hds]; exact HC.out.1, HC.out.2, hg1, by omega, HR2.out, HS2.out, hds, HMem.out, HSo.out, HB2.out⟩
end Go.Proofs.YtlgflddljhldhaaGreat.RepC
end
section
namespace Go.Proofs.YtlgflddljhldhaaGreat.RepC
open Go.RowKit RowC ValC SpanC KeptC
set_option linter.unusedVariables false
set_option linter.unusedSimpArgs false
theorem ri_at (l s : Int) {b : Bool} (hb : LabC.rB l s = b) (w : World) : Calls Tryz.prog 95 #[.agg #[.int .i64 l, .int .i64 s]] w fun e w' => e = .returned (.bool b) ∧ Below w.heap.size w w' := by
  subst hb; exact LabC.ri_w l s w
theorem bi_at (l s m t : Int) {b : Bool} (hb : LabC.belowB l s m t = b) (w : World) : Calls Tryz.prog 65 #[.agg #[.int .i64 l, .int .i64 s], .agg #[.int .i64 m, .int .i64 t]] w fun e w' => e = .returned (.bool b) ∧ Below w.heap.size w w' := by
  subst hb; exact LabC.below_impl l s m t w
def IxR (p : Prop) (w : World) (e : Ending) (w' : World) : Prop := ∃ i : Int, e = .returned (.int .i64 i) ∧ (0 ≤ i ↔ p) ∧ Below w.heap.size w w'
theorem ixR_elim {p : Prop} {w : World} {e : Ending} {w' : World} (h : IxR p w e w') : ∃ i : Int, e = .returned (.int .i64 i) ∧ (0 ≤ i ↔ p) ∧ Below w.heap.size w w' := h
set_option maxRecDepth 100000 in
set_option maxHeartbeats 3200000 in
theorem index_lab {L : List D_Label} {a : Option Addr} {cap : Nat} {l s : Int} {W : World} (h : RdSl R_Label W W.heap.size L a cap) :
    Calls Tryz.prog 137 #[.slice a L.length cap, .agg #[.int .i64 l, .int .i64 s]] W (IxR ((l, s) ∈ L) W) := by
  have hn : L.length ≤ 9223372036854775807 := by have h1 := h.1; have h2 := h.2.1; unfold maxLen at h2; omega
  have H := Lib.hid h
  clear h
  have HB0 := Lib.hid (show Below W.heap.size W (W.alloc (.cells #[.int .i64 l, .int .i64 s] 47)) from (Below.refl _ _).alloc (Nat.le_refl _) _)
  have HP0 := Lib.hid (Blk.new W 47 #[.int .i64 l, .int .i64 s])
  go_enter Tryz.func137, Tryz.ntmps137
  go_wp2
  go_loopw [8] (fun i wr => ∃ k : Nat, k ≤ L.length ∧ i = .int .i64 k ∧ Hid ((l, s) ∉ L.take k) ∧ Below W.heap.size W wr ∧ Hid (Blk wr W.heap.size 47 #[.int .i64 l, .int .i64 s])) (fun i _ => L.length - (intOf i).toNat)
  case atStart => exact ⟨0, Nat.zero_le _, rfl, Lib.hid (by simp), HB0.out, HP0⟩
  case round =>
    obtain ⟨k, hk, rfl, HA, hB, HP⟩ := hrel
    have HB := Lib.hid hB
    have hsz := hB.size
    by_cases hlt : k < L.length
    · obtain ⟨⟨x0, x1⟩, hx⟩ := el_some hlt
      have HX := Lib.hid hx
      obtain ⟨g, o, us, rfl, hg, hu, hr⟩ := (H.out.below R_Label_ok hB).at_ hx
      obtain rfl := rd_Label hr
      have e0 : wr.cell? ⟨g, o + k * 2, none⟩ = some (.int .i64 x0) := by simpa [size_Lab, Nat.add_assoc] using hu 0 _ rfl
      have e1 : wr.cell? ⟨g, o + k * 2 + 1, none⟩ = some (.int .i64 x1) := by simpa [size_Lab, Nat.add_assoc] using hu 1 _ rfl
      have hgl : g < wr.heap.size := Nat.lt_of_lt_of_le hg hsz
      have hi0 : (0 : Int) ≤ (k : Int) := Int.natCast_nonneg _
      have hi1 : (k : Int) < (L.length : Int) := by omega
      have hq0 := HP.out.at_ 0 rfl
      have hq1 := HP.out.at_ 1 rfl
      have hpl := HP.out.lt
      clear hB hx hu hr
      cases c1 : (l == x0) with
      | false =>
        have HC := Lib.hid (show (l, s) ∉ L.take (k + 1) from by rw [List.take_add_one, HX.out]; simp at c1 ⊢; exact ⟨HA.out, fun e => absurd e c1⟩)
        go_wp2_with fail
        refine wp_region_held_drew (S := (fun V => Below (wr).heap.size (wr) V)) (by kernel_rfl) ((Below.refl _ _).drew) (fun hHeld => ?_)
        refine tk 0 hHeld ?_ (hy := fun w hSw => by (try dsimp only at hSw); have k0 := (hSw.cell (p := ⟨W.heap.size, 0, none⟩) hpl).trans hq0; have k1 := (hSw.cell (p := ⟨W.heap.size, 1, none⟩) hpl).trans hq1; clear hSw; go_simp; try with_reducible rfl)
        refine tk 1 hHeld ?_
        refine tk 2 hHeld ?_
        refine tk 3 hHeld ?_
        refine tk 4 hHeld ?_ (hy := fun w hSw => by (try dsimp only at hSw); have k0 := (hSw.cell (p := ⟨g, o + k * 2, none⟩) hgl).trans e0; have k1 := (hSw.cell (p := ⟨g, o + k * 2 + 1, none⟩) hgl).trans e1; clear hSw; go_simp; try with_reducible rfl)
        refine tk 5 hHeld ?_
        refine rd0 ?_
        have HF := Lib.hid hHeld
        clear hHeld
        have HB3 := Lib.hid (HB.out.trans (HF.out.mono hsz))
        have HP3 := Lib.hid (HP.out.call HF.out)
        clear HF
        go_wp2
        go_roundw
        case rel => exact ⟨k + 1, by omega, by go_num, HC, HB3.out, HP3⟩
        case measure => simp [intOf]; omega
      | true =>
        cases c2 : (s == x1) with
        | false =>
          have HC := Lib.hid (show (l, s) ∉ L.take (k + 1) from by rw [List.take_add_one, HX.out]; simp at c2 ⊢; exact ⟨HA.out, fun _ e => absurd e c2⟩)
          go_wp2_with fail
          refine wp_region_held_drew (S := (fun V => Below (wr).heap.size (wr) V)) (by kernel_rfl) ((Below.refl _ _).drew) (fun hHeld => ?_)
          refine tk 0 hHeld ?_ (hy := fun w hSw => by (try dsimp only at hSw); have k0 := (hSw.cell (p := ⟨W.heap.size, 0, none⟩) hpl).trans hq0; have k1 := (hSw.cell (p := ⟨W.heap.size, 1, none⟩) hpl).trans hq1; clear hSw; go_simp; try with_reducible rfl)
          refine tk 1 hHeld ?_
          refine tk 2 hHeld ?_
          refine tk 3 hHeld ?_
          refine tk 4 hHeld ?_ (hy := fun w hSw => by (try dsimp only at hSw); have k0 := (hSw.cell (p := ⟨g, o + k * 2, none⟩) hgl).trans e0; have k1 := (hSw.cell (p := ⟨g, o + k * 2 + 1, none⟩) hgl).trans e1; clear hSw; go_simp; try with_reducible rfl)
          refine tk 5 hHeld ?_
          refine rd0 ?_
          have HF := Lib.hid hHeld
          clear hHeld
          have HB3 := Lib.hid (HB.out.trans (HF.out.mono hsz))
          have HP3 := Lib.hid (HP.out.call HF.out)
          clear HF
          go_wp2
          go_roundw
          case rel => exact ⟨k + 1, by omega, by go_num, HC, HB3.out, HP3⟩
          case measure => simp [intOf]; omega
        | true =>
          have HY := Lib.hid (show (l, s) ∈ L from by rw [beq_iff_eq] at c1 c2; subst c1 c2; exact List.mem_of_getElem? HX.out)
          go_wp2_with fail
          refine wp_region_held_drew (S := (fun V => Below (wr).heap.size (wr) V)) (by kernel_rfl) ((Below.refl _ _).drew) (fun hHeld => ?_)
          refine tk 0 hHeld ?_ (hy := fun w hSw => by (try dsimp only at hSw); have k0 := (hSw.cell (p := ⟨W.heap.size, 0, none⟩) hpl).trans hq0; have k1 := (hSw.cell (p := ⟨W.heap.size, 1, none⟩) hpl).trans hq1; clear hSw; go_simp; try with_reducible rfl)
          refine tk 1 hHeld ?_
          refine tk 2 hHeld ?_
          refine tk 3 hHeld ?_
          refine tk 4 hHeld ?_ (hy := fun w hSw => by (try dsimp only at hSw); have k0 := (hSw.cell (p := ⟨g, o + k * 2, none⟩) hgl).trans e0; have k1 := (hSw.cell (p := ⟨g, o + k * 2 + 1, none⟩) hgl).trans e1; clear hSw; go_simp; try with_reducible rfl)
          refine tk 5 hHeld ?_
          refine rd0 ?_
          have HF := Lib.hid hHeld
          clear hHeld
          have HB3 := Lib.hid (HB.out.trans (HF.out.mono hsz))
          clear HF
          go_wp2
          go_ret
          exact ⟨_, rfl, ⟨fun _ => HY.out, fun _ => hi0⟩, HB3.out⟩
    · have HN := Lib.hid (show (l, s) ∉ L from by have h := HA.out; rw [List.take_of_length_le (by omega)] at h; exact h)
      have hd : decide ((k : Int) < (L.length : Int)) = false := decide_eq_false (by omega)
      clear hB
      go_wp2
      go_ret
      exact ⟨_, rfl, ⟨fun h => by omega, fun h => absurd h HN.out⟩, HB.out⟩
set_option maxRecDepth 100000 in
set_option maxHeartbeats 1600000 in
theorem contains_lab {L : List D_Label} {a : Option Addr} {cap : Nat} {l s : Int} {W : World} (h : RdSl R_Label W W.heap.size L a cap) :
    Calls Tryz.prog 130 #[.slice a L.length cap, .agg #[.int .i64 l, .int .i64 s]] W (ResB ((l, s) ∈ L) W) := by
  have HB0 := Lib.hid (show Below W.heap.size W (W.alloc (.cells #[.int .i64 l, .int .i64 s] 47)) from (Below.refl _ _).alloc (Nat.le_refl _) _)
  have H := Lib.hid (rd_mv R_Label_ok h HB0.out)
  have HZ := HB0.out.size
  clear h
  go_enter Tryz.func130, Tryz.ntmps130
  go_wp2_with fail
  refine (index_lab H.out).mono ?_
  intro e w1 h
  obtain ⟨i, rfl, hi, hb⟩ := ixR_elim h
  have HB1 := Lib.hid (HB0.out.trans (hb.mono HZ))
  have HI := Lib.hid hi
  clear h hi hb
  by_cases h0 : 0 ≤ i
  · have hd : decide (0 ≤ i) = true := decide_eq_true h0
    have HY := Lib.hid (HI.out.1 h0)
    clear h0
    go_wp2
    go_ret
    exact resB_yes HY.out HB1.out
  · have hd : decide (0 ≤ i) = false := decide_eq_false h0
    have HY := Lib.hid (show (l, s) ∉ L from fun h => h0 (HI.out.2 h))
    clear h0
    go_wp2
    go_ret
    exact resB_no HY.out HB1.out
set_option maxRecDepth 100000 in
set_option maxHeartbeats 3200000 in
theorem chain_im {L : List D_Label} {a : Option Addr} {cap : Nat} {W : World} (h : RdSl R_Label W W.heap.size L a cap) :
    Calls Tryz.prog 125 #[.slice a L.length cap] W (ResB (ChainR L) W) := by
  have H := Lib.hid h
  clear h
  by_cases n1 : 1 ≤ L.length
  rotate_left
  · have hd : decide ((L.length : Int) < 1) = true := decide_eq_true (by omega)
    have HN := Lib.hid (show ¬ ChainR L from fun h => n1 h.1)
    go_enter Tryz.func125, Tryz.ntmps125
    go_wp2
    go_ret
    exact resB_no HN.out (Below.refl _ _)
  have hd1 : decide ((L.length : Int) < 1) = false := decide_eq_false (by omega)
  by_cases n4 : L.length ≤ 4
  rotate_left
  · have hd : decide (4 < (L.length : Int)) = true := decide_eq_true (by omega)
    have HN := Lib.hid (show ¬ ChainR L from fun h => n4 h.2.1)
    go_enter Tryz.func125, Tryz.ntmps125
    go_wp2
    go_ret
    exact resB_no HN.out (Below.refl _ _)
  have hd4 : decide (4 < (L.length : Int)) = false := decide_eq_false (by omega)
  obtain ⟨⟨x0, x1⟩, hx⟩ := el_some (L := L) (k := 0) (by omega)
  have HX := Lib.hid hx
  obtain ⟨g, o, us, rfl, hg, hu, hr⟩ := H.out.at_ hx
  obtain rfl := rd_Label hr
  have e0 : W.cell? ⟨g, o, none⟩ = some (.int .i64 x0) := by simpa [size_Lab, Nat.add_assoc] using hu 0 _ rfl
  have e1 : W.cell? ⟨g, o + 1, none⟩ = some (.int .i64 x1) := by simpa [size_Lab, Nat.add_assoc] using hu 1 _ rfl
  have h0n : (0 : Int) < (L.length : Int) := by omega
  have HG := Lib.hid hg
  clear hx hu hr
  cases hr : LabC.rB x0 x1 with
  | false =>
    have HNo := Lib.hid (show ¬ ChainR L from fun h => by have := (h.2.2 0 (by omega) _ HX.out).1; rw [hr] at this; cases this)
    have HR := Lib.hid hr
    clear hr
    go_enter Tryz.func125, Tryz.ntmps125
    go_wp2_with fail
    refine (ri_at x0 x1 HR.out _).mono ?_
    rintro e w1 ⟨rfl, hb⟩
    have HB1 := Lib.hid hb
    clear hb
    go_wp2
    go_ret
    exact resB_no HNo.out HB1.out
  | true =>
    have HR := Lib.hid hr
    clear hr
    have HOK0 := Lib.hid (show ∀ j, j < 1 → okC L j from fun j hj => by obtain rfl : j = 0 := (by omega); exact okC_first HX.out HR.out)
    go_enter Tryz.func125, Tryz.ntmps125
    go_wp2_with fail
    refine (ri_at x0 x1 HR.out _).mono ?_
    rintro e w1 ⟨rfl, hb⟩
    have HB1 := Lib.hid hb
    clear hb e0 e1
    go_wp2
    go_loopw [3] (fun i wr => ∃ k : Nat, 1 ≤ k ∧ k ≤ L.length ∧ i = .int .i64 k ∧ Hid (∀ j, j < k → okC L j) ∧ Below W.heap.size W wr) (fun i _ => L.length - (intOf i).toNat)
    case atStart => exact ⟨1, Nat.le_refl _, n1, rfl, HOK0, HB1.out⟩
    case round =>
      obtain ⟨k, hk1, hk, rfl, HA, hB⟩ := hrel
      have HB := Lib.hid hB
      have hsz := hB.size
      by_cases hlt : k < L.length
      · obtain ⟨j, rfl⟩ : ∃ j, k = j + 1 := ⟨k - 1, by omega⟩
        obtain ⟨⟨x0, x1⟩, hx⟩ := el_some hlt
        have HX := Lib.hid hx
        obtain ⟨g1, o1, us, he, hg1, hu, hr⟩ := (H.out.below R_Label_ok HB.out).at_ hx
        cases he
        obtain rfl := rd_Label hr
        have e0 : wr.cell? ⟨g, o + (j + 1) * 2, none⟩ = some (.int .i64 x0) := by simpa [size_Lab, Nat.add_assoc] using hu 0 _ rfl
        have e1 : wr.cell? ⟨g, o + (j + 1) * 2 + 1, none⟩ = some (.int .i64 x1) := by simpa [size_Lab, Nat.add_assoc] using hu 1 _ rfl
        clear hu hr
        obtain ⟨⟨y0, y1⟩, hy⟩ := el_some (L := L) (k := j) (by omega)
        have HY := Lib.hid hy
        obtain ⟨g2, o2, us, he, hg2, hu, hr⟩ := (H.out.below R_Label_ok HB.out).at_ hy
        cases he
        obtain rfl := rd_Label hr
        have d0 : wr.cell? ⟨g, o + j * 2, none⟩ = some (.int .i64 y0) := by simpa [size_Lab, Nat.add_assoc] using hu 0 _ rfl
        have d1 : wr.cell? ⟨g, o + j * 2 + 1, none⟩ = some (.int .i64 y1) := by simpa [size_Lab, Nat.add_assoc] using hu 1 _ rfl
        have hgl : g < wr.heap.size := Nat.lt_of_lt_of_le hg hsz
        have hj0 : (0 : Int) ≤ (j : Int) := Int.natCast_nonneg _
        have hj1 : (j : Int) < (L.length : Int) := by omega
        have hi0p : (0 : Int) ≤ (j : Int) + 1 := by omega
        have hi1p : (j : Int) + 1 < (L.length : Int) := by omega
        have hjw : IntKind.i64.wrap ((j : Int) + 1 - 1) = (j : Int) := by rw [show (j : Int) + 1 - 1 = (j : Int) by omega]; exact IntWalk.i64_in _ (by omega)
        have hjw2 : IntKind.i64.wrap (j : Int) = (j : Int) := IntWalk.i64_in _ (by omega)
        have hlim : L.length ≤ 4 := n4
        have hry : LabC.rB y0 y1 = true := (HA.out j (Nat.lt_succ_self _) _ HY.out).1
        have HRY := Lib.hid hry
        clear hB hx hy hu hr hg1 hg2 hry
        cases hbb : LabC.belowB y0 y1 x0 x1 with
        | false =>
          have HNo := Lib.hid (show ¬ ChainR L from fun h => by
            have h2 := h.2.2 (j + 1) hlt _ HX.out
            have h3 := (h2.2 (Nat.succ_pos _) (y0, y1) HY.out).1
            rw [LabC.below_yes HRY.out h2.1, h3] at hbb
            cases hbb)
          have HBB := Lib.hid hbb
          clear hbb
          cases c1 : (x0 == y0) with
          | false =>
            go_wp2_with fail
            refine wp_region_held_drew (S := (fun V => Below (wr).heap.size (wr) V)) (by kernel_rfl) ((Below.refl _ _).drew) (fun hHeld => ?_)
            refine tk 0 hHeld ?_
            refine tk 1 hHeld ?_
            refine tk 2 hHeld ?_
            refine tk 3 hHeld ?_ (hy := fun w hSw => by (try dsimp only at hSw); have k0 := (hSw.cell (p := ⟨g, o + (j + 1) * 2, none⟩) hgl).trans e0; have k1 := (hSw.cell (p := ⟨g, o + (j + 1) * 2 + 1, none⟩) hgl).trans e1; clear hSw; go_simp; try with_reducible rfl)
            refine tk 4 hHeld ?_
            refine tk 5 hHeld ?_
            refine tk 6 hHeld ?_
            refine tk 7 hHeld ?_
            refine tk 8 hHeld ?_ (hy := fun w hSw => by (try dsimp only at hSw); have k0 := (hSw.cell (p := ⟨g, o + j * 2, none⟩) hgl).trans d0; have k1 := (hSw.cell (p := ⟨g, o + j * 2 + 1, none⟩) hgl).trans d1; clear hSw; go_simp; try with_reducible rfl)
            refine tk 9 hHeld ?_
            refine tk 10 hHeld ?_
            refine tk 11 hHeld ?_
            refine tk 12 hHeld ?_
            refine tk 13 hHeld ?_
            refine tk 14 hHeld ?_
            refine tk 15 hHeld ?_ (hy := fun w hSw => by (try dsimp only at hSw); have k0 := (hSw.cell (p := ⟨g, o + j * 2, none⟩) hgl).trans d0; have k1 := (hSw.cell (p := ⟨g, o + j * 2 + 1, none⟩) hgl).trans d1; clear hSw; go_simp; try with_reducible rfl)
            refine tk 16 hHeld ?_
            refine tk 17 hHeld ?_
            refine tk 18 hHeld ?_
            refine tk 19 hHeld ?_ (hy := fun w hSw => by (try dsimp only at hSw); have k0 := (hSw.cell (p := ⟨g, o + (j + 1) * 2, none⟩) hgl).trans e0; have k1 := (hSw.cell (p := ⟨g, o + (j + 1) * 2 + 1, none⟩) hgl).trans e1; clear hSw; go_simp; try with_reducible rfl)
            refine rd1 20 (fun K hK => ?_)
            go_simp
            go_at_call 65
            refine (bi_at y0 y1 x0 x1 HBB.out _).mono ?_
            rintro e w9 ⟨rfl, hb⟩
            refine hK.out _ _ (hHeld.trans (hb.mono hHeld.size)) (fun hHeld => ?_)
            clear hK K hb
            refine tk 21 hHeld ?_
            refine tk 22 hHeld ?_
            refine rd0 ?_
            have HF := Lib.hid hHeld
            clear hHeld
            have HB3 := Lib.hid (HB.out.trans (HF.out.mono hsz))
            clear HF
            go_wp2
            go_ret
            exact resB_no HNo.out HB3.out
          | true =>
            cases c2 : (x1 == y1) with
            | false =>
              go_wp2_with fail
              refine wp_region_held_drew (S := (fun V => Below (wr).heap.size (wr) V)) (by kernel_rfl) ((Below.refl _ _).drew) (fun hHeld => ?_)
              refine tk 0 hHeld ?_
              refine tk 1 hHeld ?_
              refine tk 2 hHeld ?_
              refine tk 3 hHeld ?_ (hy := fun w hSw => by (try dsimp only at hSw); have k0 := (hSw.cell (p := ⟨g, o + (j + 1) * 2, none⟩) hgl).trans e0; have k1 := (hSw.cell (p := ⟨g, o + (j + 1) * 2 + 1, none⟩) hgl).trans e1; clear hSw; go_simp; try with_reducible rfl)
              refine tk 4 hHeld ?_
              refine tk 5 hHeld ?_
              refine tk 6 hHeld ?_
              refine tk 7 hHeld ?_
              refine tk 8 hHeld ?_ (hy := fun w hSw => by (try dsimp only at hSw); have k0 := (hSw.cell (p := ⟨g, o + j * 2, none⟩) hgl).trans d0; have k1 := (hSw.cell (p := ⟨g, o + j * 2 + 1, none⟩) hgl).trans d1; clear hSw; go_simp; try with_reducible rfl)
              refine tk 9 hHeld ?_
              refine tk 10 hHeld ?_
              refine tk 11 hHeld ?_
              refine tk 12 hHeld ?_
              refine tk 13 hHeld ?_
              refine tk 14 hHeld ?_
              refine tk 15 hHeld ?_ (hy := fun w hSw => by (try dsimp only at hSw); have k0 := (hSw.cell (p := ⟨g, o + j * 2, none⟩) hgl).trans d0; have k1 := (hSw.cell (p := ⟨g, o + j * 2 + 1, none⟩) hgl).trans d1; clear hSw; go_simp; try with_reducible rfl)
              refine tk 16 hHeld ?_
              refine tk 17 hHeld ?_
              refine tk 18 hHeld ?_
              refine tk 19 hHeld ?_ (hy := fun w hSw => by (try dsimp only at hSw); have k0 := (hSw.cell (p := ⟨g, o + (j + 1) * 2, none⟩) hgl).trans e0; have k1 := (hSw.cell (p := ⟨g, o + (j + 1) * 2 + 1, none⟩) hgl).trans e1; clear hSw; go_simp; try with_reducible rfl)
              refine rd1 20 (fun K hK => ?_)
              go_simp
              go_at_call 65
              refine (bi_at y0 y1 x0 x1 HBB.out _).mono ?_
              rintro e w9 ⟨rfl, hb⟩
              refine hK.out _ _ (hHeld.trans (hb.mono hHeld.size)) (fun hHeld => ?_)
              clear hK K hb
              refine tk 21 hHeld ?_
              refine tk 22 hHeld ?_
              refine rd0 ?_
              have HF := Lib.hid hHeld
              clear hHeld
              have HB3 := Lib.hid (HB.out.trans (HF.out.mono hsz))
              clear HF
              go_wp2
              go_ret
              exact resB_no HNo.out HB3.out
            | true =>
              go_wp2_with fail
              refine wp_region_held_drew (S := (fun V => Below (wr).heap.size (wr) V)) (by kernel_rfl) ((Below.refl _ _).drew) (fun hHeld => ?_)
              refine tk 0 hHeld ?_
              refine tk 1 hHeld ?_
              refine tk 2 hHeld ?_
              refine tk 3 hHeld ?_ (hy := fun w hSw => by (try dsimp only at hSw); have k0 := (hSw.cell (p := ⟨g, o + (j + 1) * 2, none⟩) hgl).trans e0; have k1 := (hSw.cell (p := ⟨g, o + (j + 1) * 2 + 1, none⟩) hgl).trans e1; clear hSw; go_simp; try with_reducible rfl)
              refine tk 4 hHeld ?_
              refine tk 5 hHeld ?_
              refine tk 6 hHeld ?_
              refine tk 7 hHeld ?_
              refine tk 8 hHeld ?_ (hy := fun w hSw => by (try dsimp only at hSw); have k0 := (hSw.cell (p := ⟨g, o + j * 2, none⟩) hgl).trans d0; have k1 := (hSw.cell (p := ⟨g, o + j * 2 + 1, none⟩) hgl).trans d1; clear hSw; go_simp; try with_reducible rfl)
              refine tk 9 hHeld ?_
              refine tk 10 hHeld ?_
              refine tn 11 hHeld ?_
              refine tn 12 hHeld ?_
              refine tn 13 hHeld ?_
              refine tn 14 hHeld ?_
              refine tn 15 hHeld ?_
              refine tn 16 hHeld ?_
              refine tn 17 hHeld ?_
              refine tn 18 hHeld ?_
              refine tn 19 hHeld ?_
              refine tn 20 hHeld ?_
              refine tn 21 hHeld ?_
              refine tk 22 hHeld ?_
              refine rd0 ?_
              have HF := Lib.hid hHeld
              clear hHeld
              have HB3 := Lib.hid (HB.out.trans (HF.out.mono hsz))
              clear HF
              go_wp2
              go_ret
              exact resB_no HNo.out HB3.out
        | true =>
          have HBB := Lib.hid hbb
          have hb2 := hbb
          unfold LabC.belowB at hb2
          simp only [HRY.out, Bool.true_and, Bool.and_eq_true] at hb2
          have HB2 := Lib.hid hb2
          clear hbb hb2
          cases c1 : (x0 == y0) with
          | false =>
            have HOK := Lib.hid (all_step HA.out (okC_next HX.out HY.out HB2.out.1 HB2.out.2 (fun e => by have := congrArg Prod.fst e; simp at c1; exact c1 this.symm)))
            go_wp2_with fail
            refine wp_region_held_drew (S := (fun V => Below (wr).heap.size (wr) V)) (by kernel_rfl) ((Below.refl _ _).drew) (fun hHeld => ?_)
            refine tk 0 hHeld ?_
            refine tk 1 hHeld ?_
            refine tk 2 hHeld ?_
            refine tk 3 hHeld ?_ (hy := fun w hSw => by (try dsimp only at hSw); have k0 := (hSw.cell (p := ⟨g, o + (j + 1) * 2, none⟩) hgl).trans e0; have k1 := (hSw.cell (p := ⟨g, o + (j + 1) * 2 + 1, none⟩) hgl).trans e1; clear hSw; go_simp; try with_reducible rfl)
            refine tk 4 hHeld ?_
            refine tk 5 hHeld ?_
            refine tk 6 hHeld ?_
            refine tk 7 hHeld ?_
            refine tk 8 hHeld ?_ (hy := fun w hSw => by (try dsimp only at hSw); have k0 := (hSw.cell (p := ⟨g, o + j * 2, none⟩) hgl).trans d0; have k1 := (hSw.cell (p := ⟨g, o + j * 2 + 1, none⟩) hgl).trans d1; clear hSw; go_simp; try with_reducible rfl)
            refine tk 9 hHeld ?_
            refine tk 10 hHeld ?_
            refine tk 11 hHeld ?_
            refine tk 12 hHeld ?_
            refine tk 13 hHeld ?_
            refine tk 14 hHeld ?_
            refine tk 15 hHeld ?_ (hy := fun w hSw => by (try dsimp only at hSw); have k0 := (hSw.cell (p := ⟨g, o + j * 2, none⟩) hgl).trans d0; have k1 := (hSw.cell (p := ⟨g, o + j * 2 + 1, none⟩) hgl).trans d1; clear hSw; go_simp; try with_reducible rfl)
            refine tk 16 hHeld ?_
            refine tk 17 hHeld ?_
            refine tk 18 hHeld ?_
            refine tk 19 hHeld ?_ (hy := fun w hSw => by (try dsimp only at hSw); have k0 := (hSw.cell (p := ⟨g, o + (j + 1) * 2, none⟩) hgl).trans e0; have k1 := (hSw.cell (p := ⟨g, o + (j + 1) * 2 + 1, none⟩) hgl).trans e1; clear hSw; go_simp; try with_reducible rfl)
            refine rd1 20 (fun K hK => ?_)
            go_simp
            go_at_call 65
            refine (bi_at y0 y1 x0 x1 HBB.out _).mono ?_
            rintro e w9 ⟨rfl, hb⟩
            refine hK.out _ _ (hHeld.trans (hb.mono hHeld.size)) (fun hHeld => ?_)
            clear hK K hb
            refine tk 21 hHeld ?_
            refine tk 22 hHeld ?_
            refine rd0 ?_
            have HF := Lib.hid hHeld
            clear hHeld
            have HB3 := Lib.hid (HB.out.trans (HF.out.mono hsz))
            clear HF
            go_wp2
            go_roundw
            case rel => exact ⟨j + 2, by omega, by omega, by go_num, HOK, HB3.out⟩
            case measure => simp [intOf]; omega
          | true =>
            cases c2 : (x1 == y1) with
            | false =>
              have HOK := Lib.hid (all_step HA.out (okC_next HX.out HY.out HB2.out.1 HB2.out.2 (fun e => by have := congrArg Prod.snd e; simp at c2; exact c2 this.symm)))
              go_wp2_with fail
              refine wp_region_held_drew (S := (fun V => Below (wr).heap.size (wr) V)) (by kernel_rfl) ((Below.refl _ _).drew) (fun hHeld => ?_)
              refine tk 0 hHeld ?_
              refine tk 1 hHeld ?_
              refine tk 2 hHeld ?_
              refine tk 3 hHeld ?_ (hy := fun w hSw => by (try dsimp only at hSw); have k0 := (hSw.cell (p := ⟨g, o + (j + 1) * 2, none⟩) hgl).trans e0; have k1 := (hSw.cell (p := ⟨g, o + (j + 1) * 2 + 1, none⟩) hgl).trans e1; clear hSw; go_simp; try with_reducible rfl)
              refine tk 4 hHeld ?_
              refine tk 5 hHeld ?_
              refine tk 6 hHeld ?_
              refine tk 7 hHeld ?_
              refine tk 8 hHeld ?_ (hy := fun w hSw => by (try dsimp only at hSw); have k0 := (hSw.cell (p := ⟨g, o + j * 2, none⟩) hgl).trans d0; have k1 := (hSw.cell (p := ⟨g, o + j * 2 + 1, none⟩) hgl).trans d1; clear hSw; go_simp; try with_reducible rfl)
              refine tk 9 hHeld ?_
              refine tk 10 hHeld ?_
              refine tk 11 hHeld ?_
              refine tk 12 hHeld ?_
              refine tk 13 hHeld ?_
              refine tk 14 hHeld ?_
              refine tk 15 hHeld ?_ (hy := fun w hSw => by (try dsimp only at hSw); have k0 := (hSw.cell (p := ⟨g, o + j * 2, none⟩) hgl).trans d0; have k1 := (hSw.cell (p := ⟨g, o + j * 2 + 1, none⟩) hgl).trans d1; clear hSw; go_simp; try with_reducible rfl)
              refine tk 16 hHeld ?_
              refine tk 17 hHeld ?_
              refine tk 18 hHeld ?_
              refine tk 19 hHeld ?_ (hy := fun w hSw => by (try dsimp only at hSw); have k0 := (hSw.cell (p := ⟨g, o + (j + 1) * 2, none⟩) hgl).trans e0; have k1 := (hSw.cell (p := ⟨g, o + (j + 1) * 2 + 1, none⟩) hgl).trans e1; clear hSw; go_simp; try with_reducible rfl)
              refine rd1 20 (fun K hK => ?_)
              go_simp
              go_at_call 65
              refine (bi_at y0 y1 x0 x1 HBB.out _).mono ?_
              rintro e w9 ⟨rfl, hb⟩
              refine hK.out _ _ (hHeld.trans (hb.mono hHeld.size)) (fun hHeld => ?_)
              clear hK K hb
              refine tk 21 hHeld ?_
              refine tk 22 hHeld ?_
              refine rd0 ?_
              have HF := Lib.hid hHeld
              clear hHeld
              have HB3 := Lib.hid (HB.out.trans (HF.out.mono hsz))
              clear HF
              go_wp2
              go_roundw
              case rel => exact ⟨j + 2, by omega, by omega, by go_num, HOK, HB3.out⟩
              case measure => simp [intOf]; omega
            | true =>
              have HNo := Lib.hid (show ¬ ChainR L from fun h => by
                have h2 := (h.2.2 (j + 1) hlt _ HX.out).2 (Nat.succ_pos _) (y0, y1) HY.out
                rw [beq_iff_eq] at c1 c2
                exact h2.2 (by rw [c1, c2]))
              go_wp2_with fail
              refine wp_region_held_drew (S := (fun V => Below (wr).heap.size (wr) V)) (by kernel_rfl) ((Below.refl _ _).drew) (fun hHeld => ?_)
              refine tk 0 hHeld ?_
              refine tk 1 hHeld ?_
              refine tk 2 hHeld ?_
              refine tk 3 hHeld ?_ (hy := fun w hSw => by (try dsimp only at hSw); have k0 := (hSw.cell (p := ⟨g, o + (j + 1) * 2, none⟩) hgl).trans e0; have k1 := (hSw.cell (p := ⟨g, o + (j + 1) * 2 + 1, none⟩) hgl).trans e1; clear hSw; go_simp; try with_reducible rfl)
              refine tk 4 hHeld ?_
              refine tk 5 hHeld ?_
              refine tk 6 hHeld ?_
              refine tk 7 hHeld ?_
              refine tk 8 hHeld ?_ (hy := fun w hSw => by (try dsimp only at hSw); have k0 := (hSw.cell (p := ⟨g, o + j * 2, none⟩) hgl).trans d0; have k1 := (hSw.cell (p := ⟨g, o + j * 2 + 1, none⟩) hgl).trans d1; clear hSw; go_simp; try with_reducible rfl)
              refine tk 9 hHeld ?_
              refine tk 10 hHeld ?_
              refine tn 11 hHeld ?_
              refine tn 12 hHeld ?_
              refine tn 13 hHeld ?_
              refine tn 14 hHeld ?_
              refine tn 15 hHeld ?_
              refine tn 16 hHeld ?_
              refine tn 17 hHeld ?_
              refine tn 18 hHeld ?_
              refine tn 19 hHeld ?_
              refine tn 20 hHeld ?_
              refine tn 21 hHeld ?_
              refine tk 22 hHeld ?_
              refine rd0 ?_
              have HF := Lib.hid hHeld
              clear hHeld
              have HB3 := Lib.hid (HB.out.trans (HF.out.mono hsz))
              clear HF
              go_wp2
              go_ret
              exact resB_no HNo.out HB3.out
      · have hd : decide ((k : Int) < (L.length : Int)) = false := decide_eq_false (by omega)
        have HY := Lib.hid (show ChainR L from ⟨n1, n4, fun i hi => HA.out i (by omega)⟩)
        clear hB
        go_wp2
        go_ret
        exact resB_yes HY.out HB.out
set_option maxRecDepth 100000 in
set_option maxHeartbeats 3200000 in
theorem clearright_impl {C : List (List D_Label)} {ca : Option Addr} {cc : Nat} {W : World} (hC : RdSl (Sl R_Label) W W.heap.size C ca cc) :
    Calls Tryz.prog 108 #[.slice ca C.length cc] W (ResB (ClearR C) W) := by
  have HC := Lib.hid hC
  have hcn : C.length ≤ 9223372036854775807 := by have h1 := hC.1; have h2 := hC.2.1; unfold maxLen at h2; omega
  clear hC
  obtain ⟨b1, hb1⟩ : ∃ b, isB (C.length : Int) 1 6 = b := ⟨_, rfl⟩
  have H1 := Lib.hid hb1
  clear hb1
  go_enter Tryz.func108, Tryz.ntmps108
  go_wp2_with fail
  refine (wi_at _ _ _ H1.out _).mono ?_
  rintro e w9 ⟨rfl, rfl⟩
  cases b1 with
  | false =>
    have HN := Lib.hid (show ¬ ClearR C from fun h => by
      have h2 : isB (C.length : Int) 1 6 = true := isB_io.2 ⟨by have := h.1; omega, by have := h.2.1; omega⟩
      rw [H1.out] at h2; cases h2)
    go_wp2
    go_ret
    exact resB_no HN.out (Below.refl _ _)
  | true =>
  have h16 : 1 ≤ C.length ∧ C.length ≤ 6 := by have := isB_io.1 H1.out; omega
  have H16 := Lib.hid h16
  go_wp2
  go_loopw [11] (fun i wr => ∃ k : Nat, k ≤ C.length ∧ i = .int .i64 k ∧ Hid (∀ (j : Nat) x, j < k → C[j]? = some x → ChainR x) ∧ Below W.heap.size W wr) (fun i _ => C.length - (intOf i).toNat)
  case atStart => exact ⟨0, Nat.zero_le _, rfl, Lib.hid fun j x h => absurd h (Nat.not_lt_zero _), Below.refl _ _⟩
  case round =>
    obtain ⟨k, hk, rfl, HA, hB⟩ := hrel
    have HB := Lib.hid hB
    have hsz := hB.size
    by_cases hlt : k < C.length
    · have hdl : decide ((k : Int) < (C.length : Int)) = true := decide_eq_true (by omega)
      obtain ⟨x, hx⟩ := el_some hlt
      have HX := Lib.hid hx
      obtain ⟨g, o, us, rfl, hg, hu, hr⟩ := (HC.out.below (Sl_ok R_Label_ok) hB).at_ hx
      obtain ⟨a1, c1, rfl, k_x⟩ := hr
      have e0 : wr.cell? ⟨g, o + k, none⟩ = some (.slice a1 x.length c1) := by simpa [size_SLab] using hu 0 _ rfl
      have hi0 : (0 : Int) ≤ (k : Int) := Int.natCast_nonneg _
      have hi1 : (k : Int) < (C.length : Int) := by omega
      have HK := Lib.hid (k_x.more R_Label_ok hsz)
      clear hB hx hu k_x
      go_wp2_with fail
      refine (chain_im HK.out).mono ?_
      intro e w1 h
      obtain ⟨z, rfl, hz, hb⟩ := resB_elim h
      have HB1 := Lib.hid (HB.out.trans (hb.mono hsz))
      have HZ := Lib.hid hz
      clear h hz hb
      cases z with
      | false =>
        have HN := Lib.hid (show ¬ ClearR C from fun h => by have := HZ.out.2 (h.2.2 k x HX.out); cases this)
        go_wp2
        go_ret
        exact resB_no HN.out HB1.out
      | true =>
        have HA2 := Lib.hid (show ∀ (j : Nat) x, j < k + 1 → C[j]? = some x → ChainR x from fun j y hj hy => by
          by_cases e : j = k
          · subst e
            have := HX.out
            rw [hy] at this
            obtain rfl := Option.some.inj this
            exact HZ.out.1 rfl
          · exact HA.out j y (by omega) hy)
        go_wp2
        go_roundw
        case rel => exact ⟨k + 1, by omega, by go_num, HA2, HB1.out⟩
        case measure => simp [intOf]; omega
    · have hdl : decide ((k : Int) < (C.length : Int)) = false := decide_eq_false (by omega)
      have HCR := Lib.hid (show ClearR C from ⟨H16.out.1, H16.out.2, fun i x hx => HA.out i x (by have := el_lt hx; omega) hx⟩)
      clear hB
      go_wp2
      go_ret
      exact resB_yes HCR.out HB.out
end Go.Proofs.YtlgflddljhldhaaGreat.RepC
end
section
namespace Go.Proofs.YtlgflddljhldhaaGreat.RepC
open Go.RowKit RowC ValC SpanC KeptC Go.Lib CfC
set_option linter.unusedVariables false
set_option linter.unusedSimpArgs false
theorem setCells_put (g : Nat) : ∀ (cs : List Value) (W : World) (o : Nat), W.setCells g o cs = putCells W g o cs
  | [], _, _ => rfl
  | c :: cs, W, o => by simp only [World.setCells, putCells]; exact setCells_put g cs _ _
theorem run_clear_labs (W : World) (ty : TypeId) (g k n c : Nat) (hn : 0 < n) (hc : ∀ j, j < n * 2 → (W.cell? ⟨g, k + j, none⟩).isSome = true) (hf : Sf W g) :
    ∃ w', (Builtin.clear_ #[119] ty #[.slice (some ⟨g, k, none⟩) n c]).run Tryz.prog W = .ok (.tuple #[]) w' ∧ (∀ j, j < k → w'.cell? ⟨g, j, none⟩ = W.cell? ⟨g, j, none⟩) ∧ Sf w' g ∧ Off (fun x => x = g) W w' := by
  have hzl : (Builtin.zeroCells (Value.agg #[.int .i64 0, .int .i64 0]).cells n).toList.length = n * 2 := by
    simp [Builtin.zeroCells, Value.cells]
  have hone : ∀ v ∈ (Builtin.zeroCells (Value.agg #[.int .i64 0, .int .i64 0]).cells n).toList, v.oneCell' = true := by
    intro v hv
    simp [Builtin.zeroCells, Value.cells] at hv
    obtain ⟨i, _, rfl⟩ := hv
    rcases Nat.mod_two_eq_zero_or_one i with e | e <;> rw [e] <;> rfl
  have hst := run_storeCells_cells (P := Tryz.prog) g k (Builtin.zeroCells (Value.agg #[.int .i64 0, .int .i64 0]).cells n).toList 0 W (fun j hj => by rw [hzl] at hj; simpa using hc j hj) (fun j _ => hf _) hone
  simp only [Nat.add_zero] at hst
  obtain ⟨iL, hiL, hzL1, hsL, hbL⟩ := infoLb
  have hv : ∀ w, (zeroValue 47).run Tryz.prog w = .ok (.agg #[.int .i64 0, .int .i64 0]) w := fun w => by
    simp [zeroValue, typeInfo, hiL, hzL1]
  refine ⟨W.setCells g k (Builtin.zeroCells (Value.agg #[.int .i64 0, .int .i64 0]).cells n).toList, ?_, fun j hj => ?_, fun j => ?_, ?_⟩
  · obtain ⟨m, rfl⟩ : ∃ m, n = m + 1 := ⟨n - 1, by omega⟩
    simp [Builtin.clear_, run_underlying Tryz.underlying119, hv, hst]
  · rw [setCells_put]; exact putCells_other g _ _ _ (Or.inl hj)
  · rw [setCells_put, putCells_frozen]; exact hf j
  · rw [setCells_put]; exact putCells_off g _ _ _
def CmpR (g cap : Nat) (d : Array Lb) (w : World) (e : Ending) (w' : World) : Prop := e = .returned (.slice (some ⟨g, 0, none⟩) (compactUpTo d d.size).length cap) ∧ (∀ (j : Nat) x, (compactUpTo d d.size)[j]? = some x → w'.cell? ⟨g, j * 2, none⟩ = some (.int .i64 x.1) ∧ w'.cell? ⟨g, j * 2 + 1, none⟩ = some (.int .i64 x.2)) ∧ Sf w' g ∧ Off (fun x => x = g) w w'
theorem cmpR_all {g cap : Nat} {d : Array Lb} {w w' : World} {n : Nat} (hn : n = d.size) (hall : ∀ j, j < d.size → keeps d j = true) (hR : Rw w' g d) (hs : Sf w' g) (ho : Off (fun x => x = g) w w') : CmpR g cap d w (.returned (.slice (some ⟨g, 0, none⟩) n cap)) w' := by
  have e : compactUpTo d d.size = d.toList := by rw [compactUpTo_all d _ hall, range_map_get]
  refine ⟨by rw [e, hn]; simp, fun j x hx => ?_, hs, ho⟩
  rw [e] at hx
  have hj : j < d.size := by have := el_lt hx; simpa using this
  have hx' : d[j]! = x := by
    rw [Array.getElem?_toList, Array.getElem?_eq_getElem hj] at hx
    rw [getElem!_pos d j hj]; exact Option.some.inj hx
  rw [← hx']
  exact hR j hj
set_option maxRecDepth 100000 in
set_option maxHeartbeats 3200000 in
theorem compact_labs {g cap : Nat} {d : Array Lb} {W : World} (hR : Rw W g d) (hS : Sf W g) (hn : d.size ≤ 1048576) (hcap : d.size ≤ cap) (hg : g < W.heap.size) :
    Calls Tryz.prog 126 #[.slice (some ⟨g, 0, none⟩) d.size cap] W (CmpR g cap d W) := by
  have HR0 := Lib.hid hR
  have HS0 := Lib.hid hS
  clear hR hS
  by_cases h2 : d.size < 2
  · have hd : decide ((d.size : Int) < 2) = true := decide_eq_true (by omega)
    go_enter Tryz.func126, Tryz.ntmps126
    go_wp2
    go_ret
    exact cmpR_all rfl (fun j hj => keeps_lt_one d j (by omega)) HR0.out HS0.out (Off.refl _ _)
  have hd : decide ((d.size : Int) < 2) = false := decide_eq_false (by omega)
  go_enter Tryz.func126, Tryz.ntmps126
  go_wp2
  go_loopw [3] (fun i wr => ∃ m : Nat, m + 1 ≤ d.size ∧ i = .int .i64 ((m + 1 : Nat) : Int) ∧ Hid (∀ j, j < m + 1 → keeps d j = true) ∧ Below W.heap.size W wr) (fun i _ => d.size - (intOf i).toNat)
  case atStart => exact ⟨0, by omega, rfl, Lib.hid (keeps_lt_one d), Below.refl _ _⟩
  case round =>
    obtain ⟨m, hm, rfl, HK, hB⟩ := hrel
    obtain ⟨wo, rfl⟩ : ∃ x, x = wr := ⟨_, rfl⟩
    have HB := Lib.hid hB
    have hsz := hB.size
    have HR := Lib.hid (HR0.out.below hg hB)
    have HS := Lib.hid (HS0.out.below hg hB)
    have hcast : ((m + 1 : Nat) : Int) = (m : Int) + 1 := by omega
    clear hB
    by_cases hlt : m + 1 < d.size
    · have hdl : decide (((m + 1 : Nat) : Int) < (d.size : Int)) = true := decide_eq_true (by omega)
      have hdl2 : decide ((m : Int) + 1 < (d.size : Int)) = true := decide_eq_true (by omega)
      obtain ⟨⟨x0, x1⟩, hx⟩ : ∃ x, d[m + 1]! = x := ⟨_, rfl⟩
      obtain ⟨⟨y0, y1⟩, hy⟩ : ∃ x, d[m]! = x := ⟨_, rfl⟩
      obtain ⟨c0, c1⟩ := HR.out (m + 1) hlt
      obtain ⟨p0, p1⟩ := HR.out m (by omega)
      rw [hx] at c0 c1
      rw [hy] at p0 p1
      have HXY := Lib.hid (And.intro hx hy)
      have HG := Lib.hid (show g < wo.heap.size by omega)
      have hi0 : (0 : Int) ≤ (m : Int) + 1 := by omega
      have hi1 : (m : Int) + 1 < (d.size : Int) := by omega
      have hj0 : (0 : Int) ≤ (m : Int) := Int.natCast_nonneg _
      have hj1 : (m : Int) < (d.size : Int) := by omega
      have hsub : IntKind.i64.wrap ((m : Int) + 1 - 1) = (m : Int) := by rw [show (m : Int) + 1 - 1 = (m : Int) by omega]; exact IntWalk.i64_in _ (by omega)
      have hsub2 : IntKind.i64.wrap (m : Int) = (m : Int) := IntWalk.i64_in _ (by omega)
      obtain ⟨b, hb⟩ : ∃ b, decide (((x0, x1) : Int × Int) = (y0, y1)) = b := ⟨_, rfl⟩
      have hE := eql_lab x0 x1 y0 y1 b hb
      have HBE := Lib.hid hb
      clear hx hy hb
      cases b with
      | false =>
        have HK2 := Lib.hid (show ∀ j, j < m + 1 + 1 → keeps d j = true from fun j hj => by
          by_cases e : j = m + 1
          · subst e; exact keeps_pos (by rw [Nat.add_sub_cancel, HXY.out.1, HXY.out.2]; exact of_decide_eq_false HBE.out)
          · exact HK.out j (by omega))
        go_wp2_with fail
        refine wp_region_held_drew (S := (fun V => Below (wo).heap.size (wo) V)) (by kernel_rfl) ((Below.refl _ _).drew) (fun hHeld => ?_)
        refine tk 0 hHeld ?_
        refine tk 1 hHeld ?_
        refine tk 2 hHeld ?_
        refine tk 3 hHeld ?_ (hy := fun w hSw => by (try dsimp only at hSw); have k0 := (hSw.cell (p := ⟨g, (m + 1) * 2, none⟩) HG.out).trans c0; have k1 := (hSw.cell (p := ⟨g, (m + 1) * 2 + 1, none⟩) HG.out).trans c1; clear hSw; go_simp; try with_reducible rfl)
        refine tk 4 hHeld ?_
        refine tk 5 hHeld ?_
        refine tk 6 hHeld ?_
        refine tk 7 hHeld ?_
        refine tk 8 hHeld ?_ (hy := fun w hSw => by (try dsimp only at hSw); have k0 := (hSw.cell (p := ⟨g, m * 2, none⟩) HG.out).trans p0; have k1 := (hSw.cell (p := ⟨g, m * 2 + 1, none⟩) HG.out).trans p1; clear hSw; go_simp; try with_reducible rfl)
        refine tk 9 hHeld ?_
        refine rd0 ?_
        have HF := Lib.hid hHeld
        clear hHeld
        have HB2 := Lib.hid (HB.out.trans (HF.out.mono hsz))
        clear HF
        go_wp2
        go_roundw
        case rel => exact ⟨m + 1, by omega, by go_num, HK2, HB2.out⟩
        case measure => simp [intOf]; omega
      | true =>
        have HDup := Lib.hid (show keeps d (m + 1) = false from keeps_neg (by omega) (by rw [Nat.add_sub_cancel, HXY.out.1, HXY.out.2]; exact of_decide_eq_true HBE.out))
        have hne : ¬ cap = m + 1 := by omega
        have hne2 : ¬ m + 1 = cap := by omega
        go_wp2_with fail
        refine wp_region_held_drew (S := (fun V => Below (wo).heap.size (wo) V)) (by kernel_rfl) ((Below.refl _ _).drew) (fun hHeld => ?_)
        refine tk 0 hHeld ?_
        refine tk 1 hHeld ?_
        refine tk 2 hHeld ?_
        refine tk 3 hHeld ?_ (hy := fun w hSw => by (try dsimp only at hSw); have k0 := (hSw.cell (p := ⟨g, (m + 1) * 2, none⟩) HG.out).trans c0; have k1 := (hSw.cell (p := ⟨g, (m + 1) * 2 + 1, none⟩) HG.out).trans c1; clear hSw; go_simp; try with_reducible rfl)
        refine tk 4 hHeld ?_
        refine tk 5 hHeld ?_
        refine tk 6 hHeld ?_
        refine tk 7 hHeld ?_
        refine tk 8 hHeld ?_ (hy := fun w hSw => by (try dsimp only at hSw); have k0 := (hSw.cell (p := ⟨g, m * 2, none⟩) HG.out).trans p0; have k1 := (hSw.cell (p := ⟨g, m * 2 + 1, none⟩) HG.out).trans p1; clear hSw; go_simp; try with_reducible rfl)
        refine tk 9 hHeld ?_
        refine rd0 ?_
        have HF := Lib.hid hHeld
        clear hHeld
        have HB2 := Lib.hid (HB.out.trans (HF.out.mono hsz))
        have hz2 := HB2.out.size
        have HR2 := Lib.hid (HR0.out.below hg HB2.out)
        have HS2 := Lib.hid (HS0.out.below hg HB2.out)
        have HO2 := Lib.hid (Off.of_below (S := fun x => x = g) (Off.refl _ W) HB2.out)
        clear HF c0 c1 p0 p1 hE HR HS
        obtain ⟨n2, hn2⟩ : ∃ n2, n2 = d.size - (m + 1) := ⟨_, rfl⟩
        obtain ⟨c2, hc2⟩ : ∃ c2, c2 = cap - (m + 1) := ⟨_, rfl⟩
        obtain ⟨w2, hw2⟩ : ∃ w, w = wo.drew := ⟨_, rfl⟩
        rw [← hw2] at HR2 HS2 HO2 hz2
        clear HB2
        go_wp2
        rw [← hn2, ← hc2, ← hw2]
        have HN2 := Lib.hid hn2
        have hn2d : n2 ≤ d.size := by omega
        clear hw2 hn2 hc2
        go_loopw [3, 5] (fun a i wr => ∃ (kk q : Nat) (dk : Array Lb), a = .int .i64 (kk : Int) ∧ i = .int .i64 ((q + 1 : Nat) : Int) ∧ m + 1 + (q + 1) ≤ d.size ∧ Hid (Rw wr g dk) ∧ Hid (Sf wr g) ∧ Hid (CompInv d (m + 1 + (q + 1)) kk dk) ∧ Hid (Off (fun x => x = g) W wr)) (fun _ i _ => d.size - (intOf i).toNat)
        case atStart => exact ⟨m + 1, 0, d, by go_num, rfl, by omega, HR2, HS2, Lib.hid (CompInv.start HK.out HDup.out), HO2⟩
        case round =>
          obtain ⟨kk, q, dk, rfl, rfl, hq, HR, HS, HI, HO⟩ := hrel
          have hkk := HI.out.lt
          have hds := HI.out.size
          have hzw := HO.out.size
          have hcast2 : ((q + 1 : Nat) : Int) = (q : Int) + 1 := by omega
          by_cases hql : q + 1 < n2
          · have hdq : decide (((q + 1 : Nat) : Int) < (n2 : Int)) = true := decide_eq_true (by omega)
            have hdq2 : decide ((q : Int) + 1 < (n2 : Int)) = true := decide_eq_true (by omega)
            have hmq : m + 1 + (q + 1) < d.size := by have := HN2.out; omega
            obtain ⟨⟨x0, x1⟩, hx⟩ : ∃ x, d[m + 1 + (q + 1)]! = x := ⟨_, rfl⟩
            obtain ⟨⟨y0, y1⟩, hy⟩ : ∃ x, d[m + 1 + q]! = x := ⟨_, rfl⟩
            obtain ⟨c0, c1⟩ := HR.out (m + 1 + (q + 1)) (by omega)
            obtain ⟨p0, p1⟩ := HR.out (m + 1 + q) (by omega)
            rw [HI.out.high _ (by omega), hx, Nat.add_mul] at c0 c1
            rw [HI.out.high _ (by omega), hy, Nat.add_mul] at p0 p1
            have HXY := Lib.hid (And.intro hx hy)
            have HG := Lib.hid (show g < wr.heap.size by omega)
            have hi0 : (0 : Int) ≤ (q : Int) + 1 := by omega
            have hi1 : (q : Int) + 1 < (n2 : Int) := by omega
            have hj0 : (0 : Int) ≤ (q : Int) := Int.natCast_nonneg _
            have hj1 : (q : Int) < (n2 : Int) := by omega
            have hs1 : IntKind.i64.wrap ((q : Int) + 1 - 1) = (q : Int) := by rw [show (q : Int) + 1 - 1 = (q : Int) by omega]; exact IntWalk.i64_in _ (by omega)
            have hs2 : IntKind.i64.wrap (q : Int) = (q : Int) := IntWalk.i64_in _ (by omega)
            obtain ⟨b, hb⟩ : ∃ b, decide (((x0, x1) : Int × Int) = (y0, y1)) = b := ⟨_, rfl⟩
            have hE := neq_lab x0 x1 y0 y1 b hb
            have HBE2 := Lib.hid hb
            clear hx hy hb
            cases b with
            | true =>
              have HI2 := Lib.hid (HI.out.skip (keeps_neg (by omega) (by rw [show m + 1 + (q + 1) - 1 = m + 1 + q by omega, HXY.out.1, HXY.out.2]; exact of_decide_eq_true HBE2.out)))
              go_wp2_with fail
              refine wp_region_held_drew (S := (fun V => Below (wr).heap.size (wr) V)) (by kernel_rfl) ((Below.refl _ _).drew) (fun hHeld => ?_)
              refine tk 0 hHeld ?_
              refine tk 1 hHeld ?_
              refine tk 2 hHeld ?_
              refine tk 3 hHeld ?_ (hy := fun w hSw => by (try dsimp only at hSw); have k0 := (hSw.cell (p := ⟨g, (m + 1) * 2 + (q + 1) * 2, none⟩) HG.out).trans c0; have k1 := (hSw.cell (p := ⟨g, (m + 1) * 2 + (q + 1) * 2 + 1, none⟩) HG.out).trans c1; clear hSw; go_simp; try with_reducible rfl)
              refine tk 4 hHeld ?_
              refine tk 5 hHeld ?_
              refine tk 6 hHeld ?_
              refine tk 7 hHeld ?_
              refine tk 8 hHeld ?_ (hy := fun w hSw => by (try dsimp only at hSw); have k0 := (hSw.cell (p := ⟨g, (m + 1) * 2 + q * 2, none⟩) HG.out).trans p0; have k1 := (hSw.cell (p := ⟨g, (m + 1) * 2 + q * 2 + 1, none⟩) HG.out).trans p1; clear hSw; go_simp; try with_reducible rfl)
              refine tk 9 hHeld ?_
              refine rd0 ?_
              have HF := Lib.hid hHeld
              clear hHeld
              have HR3 := Lib.hid (HR.out.below HG.out HF.out)
              have HS3 := Lib.hid (HS.out.below HG.out HF.out)
              have HO3 := Lib.hid (HO.out.of_below HF.out)
              clear HF c0 c1 p0 p1 hE
              go_wp2
              go_roundw
              case rel => exact ⟨kk, q + 1, dk, rfl, by go_num, by omega, HR3, HS3, HI2, HO3⟩
              case measure => simp [intOf]; omega
            | false =>
              have HI2 := Lib.hid (show CompInv d (m + 1 + (q + 1) + 1) (kk + 1) (dk.setIfInBounds kk (x0, x1)) from by
                have := HI.out.keep hmq (keeps_pos (by rw [show m + 1 + (q + 1) - 1 = m + 1 + q by omega, HXY.out.1, HXY.out.2]; exact of_decide_eq_false HBE2.out))
                rw [HXY.out.1] at this
                exact this)
              go_wp2_with fail
              refine wp_region_held_drew (S := (fun V => Below (wr).heap.size (wr) V)) (by kernel_rfl) ((Below.refl _ _).drew) (fun hHeld => ?_)
              refine tk 0 hHeld ?_
              refine tk 1 hHeld ?_
              refine tk 2 hHeld ?_
              refine tk 3 hHeld ?_ (hy := fun w hSw => by (try dsimp only at hSw); have k0 := (hSw.cell (p := ⟨g, (m + 1) * 2 + (q + 1) * 2, none⟩) HG.out).trans c0; have k1 := (hSw.cell (p := ⟨g, (m + 1) * 2 + (q + 1) * 2 + 1, none⟩) HG.out).trans c1; clear hSw; go_simp; try with_reducible rfl)
              refine tk 4 hHeld ?_
              refine tk 5 hHeld ?_
              refine tk 6 hHeld ?_
              refine tk 7 hHeld ?_
              refine tk 8 hHeld ?_ (hy := fun w hSw => by (try dsimp only at hSw); have k0 := (hSw.cell (p := ⟨g, (m + 1) * 2 + q * 2, none⟩) HG.out).trans p0; have k1 := (hSw.cell (p := ⟨g, (m + 1) * 2 + q * 2 + 1, none⟩) HG.out).trans p1; clear hSw; go_simp; try with_reducible rfl)
              refine tk 9 hHeld ?_
              refine rd0 ?_
              have HF := Lib.hid hHeld
              clear hHeld
              have HR3 := Lib.hid (HR.out.below HG.out HF.out)
              have HS3 := Lib.hid (HS.out.below HG.out HF.out)
              have HO3 := Lib.hid (HO.out.of_below HF.out)
              have r0 := (HF.out.cell (p := ⟨g, (m + 1) * 2 + (q + 1) * 2, none⟩) HG.out).trans c0
              have r1 := (HF.out.cell (p := ⟨g, (m + 1) * 2 + (q + 1) * 2 + 1, none⟩) HG.out).trans c1
              obtain ⟨t0, t1⟩ := HR3.out kk (by omega)
              have s0 := HS3.out (kk * 2)
              have s1 := HS3.out (kk * 2 + 1)
              obtain ⟨w3, hw3⟩ : ∃ w, w = wr.drew := ⟨_, rfl⟩
              rw [← hw3] at HR3 HS3 HO3 r0 r1 t0 t1 s0 s1
              rw [← hw3]
              have HR4 := Lib.hid (HR3.out.set (i := kk) (by omega) x0 x1)
              have HS4 := Lib.hid ((HS3.out.set (i := kk * 2) (.int .i64 x0)).set (i := kk * 2 + 1) (.int .i64 x1))
              have HO4 := Lib.hid ((HO3.out.setCell (p := ⟨g, kk * 2, none⟩) rfl (.int .i64 x0)).setCell (p := ⟨g, kk * 2 + 1, none⟩) rfl (.int .i64 x1))
              have hk0 : (0 : Int) ≤ (kk : Int) := Int.natCast_nonneg _
              have hk1 : (kk : Int) < (d.size : Int) := by omega
              clear HF c0 c1 p0 p1 hE hw3
              go_wp2
              go_roundw
              case rel => exact ⟨kk + 1, q + 1, _, by go_num, by go_num, by omega, HR4, HS4, HI2, HO4⟩
              case measure => simp [intOf]; omega
          · have hdq : decide (((q + 1 : Nat) : Int) < (n2 : Int)) = false := decide_eq_false (by omega)
            have hdq2 : decide ((q : Int) + 1 < (n2 : Int)) = false := decide_eq_false (by omega)
            have hend : m + 1 + (q + 1) = d.size := by have := HN2.out; omega
            have hnk : ¬ cap = kk := by omega
            have hnk2 : ¬ kk = cap := by omega
            obtain ⟨w4, hr4, hk4, hS4, hO4⟩ := run_clear_labs wr 37373737 g (kk * 2) (d.size - kk) (cap - kk) (by omega) (fun j hj => by
              have h5 := HR.out (kk + j / 2) (by omega)
              rcases Nat.mod_two_eq_zero_or_one j with e | e
              · rw [show kk * 2 + j = (kk + j / 2) * 2 by omega, h5.1]; rfl
              · rw [show kk * 2 + j = (kk + j / 2) * 2 + 1 by omega, h5.2]; rfl) HS.out
            have HFin := Lib.hid (show CmpR g cap d W (.returned (.slice (some ⟨g, 0, none⟩) kk cap)) w4 from by
              have hI := HI.out
              rw [hend] at hI
              refine ⟨by rw [hI.len], fun j x hx => ?_, hS4, HO.out.trans hO4⟩
              have hjk : j < kk := by have := el_lt hx; rw [hI.len] at this; exact this
              have h6 := hI.low j hjk
              rw [h6] at hx
              obtain rfl := Option.some.inj hx
              rw [hk4 _ (by omega), hk4 _ (by omega)]
              exact HR.out j (by omega))
            have hr5 : ∀ ty, (Builtin.clear_ #[119] ty #[.slice (some ⟨g, kk * 2, none⟩) (d.size - kk) (cap - kk)]).run Tryz.prog wr = .ok (.tuple #[]) w4 := fun ty => hr4
            clear hr4 hk4 hS4 hO4
            go_wp2
            go_ret
            exact HFin.out
    · have hdl : decide (((m + 1 : Nat) : Int) < (d.size : Int)) = false := decide_eq_false (by omega)
      have hdl2 : decide ((m : Int) + 1 < (d.size : Int)) = false := decide_eq_false (by omega)
      have HO := Lib.hid (Off.of_below (S := fun x => x = g) (Off.refl _ W) HB.out)
      go_wp2
      go_ret
      exact cmpR_all rfl (fun j hj => HK.out j (by omega)) HR.out HS.out HO.out
end Go.Proofs.YtlgflddljhldhaaGreat.RepC
end
section
namespace Go.Proofs.YtlgflddljhldhaaGreat.RepC
open Go.RowKit RowC ValC SpanC KeptC Go.Lib CfC
set_option linter.unusedVariables false
set_option linter.unusedSimpArgs false
theorem chain_rP {L : List D_Label} (h : ChainR L) {a : D_Label} (ha : a ∈ L) : LabC.rP a.1 a.2 := by
  obtain ⟨i, hi⟩ := List.getElem?_of_mem ha
  have := (h.2.2 i (el_lt hi) a hi).1
  exact (LabC.rB_iff _ _).1 this
theorem clear_flat {C : List (List D_Label)} (h : ClearR C) : 0 < C.flatten.length ∧ C.flatten.length ≤ 24 ∧ ∀ a ∈ C.flatten, LabC.rP a.1 a.2 := by
  obtain ⟨h1, h6, hc⟩ := h
  have hmem : ∀ x ∈ C, ChainR x := fun x hx => by
    obtain ⟨i, hi⟩ := List.getElem?_of_mem hx
    exact hc i x hi
  refine ⟨?_, ?_, fun a ha => ?_⟩
  · match C, h1, hmem with
    | x :: xs, _, hm => rw [List.flatten_cons, List.length_append]; have := (hm x List.mem_cons_self).1; omega
  · have : ∀ (M : List (List D_Label)), (∀ x ∈ M, ChainR x) → M.flatten.length ≤ 4 * M.length := by
      intro M
      induction M with
      | nil => intro _; simp
      | cons x xs ih =>
        intro hm
        rw [List.flatten_cons, List.length_append, List.length_cons]
        have := (hm x List.mem_cons_self).2.1
        have := ih fun y hy => hm y (List.mem_cons_of_mem _ hy)
        omega
    have := this C hmem
    omega
  · obtain ⟨x, hx, ha⟩ := List.mem_flatten.1 ha
    exact chain_rP (hmem x hx) ha
theorem labs_compact {C : List (List D_Label)} (h : ClearR C) {d : Array Lb} (hm : ∀ a, (∃ j, j < d.size ∧ d[j]! = a) ↔ a ∈ C.flatten) (hs : ∀ i j, i < j → j < d.size → ¬ (d[j]!.1 < d[i]!.1 ∨ d[j]!.1 = d[i]!.1 ∧ d[j]!.2 < d[i]!.2)) : compactUpTo d d.size = labsOf C := by
  obtain ⟨h1, h2, _⟩ := compact_sorted (d := d) (fun i j hij hj => hs i j hij hj) d.size (Nat.le_refl _)
  refine sorted_eq h1 (labs_sorted C 32) fun a => ?_
  rw [h2, hm]
  show _ ↔ a ∈ labsOf C
  rw [mem_labs, List.mem_flatten]
  constructor
  · rintro ⟨x, hx, ha⟩
    exact ⟨(clear_flat h).2.2 a (List.mem_flatten.2 ⟨x, hx, ha⟩), x, hx, ha⟩
  · rintro ⟨_, x, hx, ha⟩
    exact ⟨x, hx, ha⟩
theorem compact_len_le {d : Array Lb} : ∀ m, (compactUpTo d m).length ≤ m
  | 0 => Nat.le_refl _
  | m + 1 => by
    rw [compactUpTo_succ, List.length_append]
    have := compact_len_le (d := d) m
    split <;> simp <;> omega
set_option maxRecDepth 100000 in
set_option maxHeartbeats 1600000 in
theorem labs_impl {C : List (List D_Label)} {ca : Option Addr} {cc : Nat} {W : World} (hR : ClearR C) (hC : RdSl (Sl R_Label) W W.heap.size C ca cc) :
    Calls Tryz.prog 109 #[.slice ca C.length cc] W (NewS R_Label (labsOf C) W) := by
  obtain ⟨hf0, hf24, _⟩ := clear_flat hR
  have HR := Lib.hid hR
  obtain ⟨M, hM⟩ : ∃ M, labsOf C = M := ⟨_, rfl⟩
  have HM := Lib.hid hM
  rw [hM]
  clear hM
  have hcon := concat_labs (W := W) (by omega) hC
  have hlc := fun (d : Array Lb) h1 h2 => (labs_compact (d := d) HR.out h1 h2).trans HM.out
  obtain ⟨F, hF⟩ : ∃ F, C.flatten = F := ⟨_, rfl⟩
  rw [hF] at hf0 hf24 hcon hlc
  have HLC := Lib.hid hlc
  have HCON := Lib.hid hcon
  clear hF hlc hcon
  go_enter Tryz.func109, Tryz.ntmps109
  go_wp2_with fail
  refine HCON.out.mono ?_
  intro e w1 h
  obtain ⟨v, lo, rfl, hlo, hlw, hrow, hb⟩ := newB_elim h
  obtain ⟨a1, c1, rfl, ho⟩ := hrow.sl R_Label_ok flat_Label
  have HRd := Lib.hid (ho.rd R_Label_ok (B := w1.heap.size) fun k hk => (hrow.blk k hk).2)
  have HB1 := Lib.hid hb
  have hz1 := hb.size
  clear h hrow ho hb hC
  go_wp2_with fail
  refine (sorted_labs (by omega) hf0 HRd.out).mono ?_
  intro e w2 h
  obtain ⟨g, c, d, rfl, hdc, hcm, hg1, hg2, hRw, hSf, hds, hmem, hso, hb⟩ := srtR_elim h
  have HRw := Lib.hid hRw
  have HSf := Lib.hid hSf
  have HE := Lib.hid (HLC.out d hmem hso)
  have HB2 := Lib.hid (HB1.out.trans (hb.mono hz1))
  have hz2 := HB2.out.size
  have HCM := Lib.hid hcm
  have hd24 : d.size ≤ 24 := by omega
  clear h hRw hSf hmem hso hb hcm hds
  go_wp2_with fail
  have hcp := compact_labs HRw.out HSf.out (by omega) hdc hg2
  have hlen := compact_len_le (d := d) d.size
  unfold CmpR at hcp
  rw [HE.out] at hcp hlen
  refine hcp.mono ?_
  rintro e w3 ⟨rfl, hcl, hSf3, hoff⟩
  have HB3 := Lib.hid (HB2.out.trans (hoff.below hz2 fun k hk => by rw [hk]; omega))
  have HN := Lib.hid (show OwSl R_Label w3 (Rg W.heap.size w3.heap.size) M (some ⟨g, 0, none⟩) c from
    ⟨by omega, HCM.out, fun _ => ⟨g, fun _ _ => False, rfl, ⟨by omega, Nat.lt_of_lt_of_le hg2 hoff.size⟩, hSf3, fun i k h => h.elim, fun i j k _ h => h.elim, fun i x hx => by
      obtain ⟨x0, x1⟩ := x
      obtain ⟨q0, q1⟩ := hcl i _ hx
      exact ⟨[.int .i64 x0, .int .i64 x1], CellsAt.cons.2 ⟨q0, CellsAt.cons.2 ⟨q1, CellsAt.nil⟩⟩, mkow_Label⟩⟩⟩)
  clear hcl hSf3 hoff hlen hcp
  go_wp2
  go_ret
  exact ⟨_, c, rfl, HN.out, HB3.out⟩
end Go.Proofs.YtlgflddljhldhaaGreat.RepC
end
section
namespace Go.Proofs.YtlgflddljhldhaaGreat.RepC
open Go.RowKit RowC ValC SpanC KeptC CfC
set_option linter.unusedVariables false
set_option linter.unusedSimpArgs false
def hitP (f t : D_Label) (p : D_Pair) : Prop := p.1 = f ∧ p.2.1 = t
instance (f t : D_Label) (p : D_Pair) : Decidable (hitP f t p) := by unfold hitP; exact inferInstance
def ixP (P : List D_Pair) (f t : D_Label) : Int := match P.findIdx? (fun p => decide (hitP f t p)) with
  | some i => (i : Int)
  | none => -1
theorem ixP_hit {P : List D_Pair} {f t : D_Label} {k : Nat} {x : D_Pair} (hx : P[k]? = some x) (hh : hitP f t x) (ha : ∀ (q : Nat) y, q < k → P[q]? = some y → ¬ hitP f t y) : ixP P f t = (k : Int) := by
  have h : P.findIdx? (fun p => decide (hitP f t p)) = some k := by
    rw [List.findIdx?_eq_some_iff_getElem]
    obtain ⟨hk, hxe⟩ := List.getElem?_eq_some_iff.1 hx
    refine ⟨hk, by rw [hxe]; exact decide_eq_true hh, fun j hj => ?_⟩
    have := ha j P[j] hj (List.getElem?_eq_getElem _)
    simpa using this
  unfold ixP
  rw [h]
theorem ixP_none {P : List D_Pair} {f t : D_Label} (ha : ∀ (q : Nat) y, P[q]? = some y → ¬ hitP f t y) : ixP P f t = -1 := by
  have h : P.findIdx? (fun p => decide (hitP f t p)) = none := by
    rw [List.findIdx?_eq_none_iff]
    intro x hx
    obtain ⟨i, hi⟩ := List.getElem?_of_mem hx
    exact decide_eq_false (ha i x hi)
  unfold ixP
  rw [h]
theorem ixP_ge {P : List D_Pair} {f t : D_Label} : 0 ≤ ixP P f t ↔ ∃ (q : Nat) (y : D_Pair), P[q]? = some y ∧ hitP f t y := by
  constructor
  · intro h
    refine Classical.byContradiction fun hn => ?_
    rw [ixP_none fun q y hy hh => hn ⟨q, y, hy, hh⟩] at h
    omega
  · rintro ⟨q, y, hy, hh⟩
    refine Classical.byContradiction fun hn => ?_
    unfold ixP at hn
    split at hn
    · omega
    · rename_i h
      rw [List.findIdx?_eq_none_iff] at h
      have := h y (List.mem_of_getElem? hy)
      exact absurd hh (of_decide_eq_false this)
theorem rd_take {α : Type} {E : Rp α} {W : World} {B : Nat} {L : List α} {a : Option Addr} {c : Nat} (h : RdSl E W B L a c) (k : Nat) : RdSl E W B (L.take k) a c := by
  refine ⟨by rw [List.length_take]; have := h.1; omega, h.2.1, fun hk => ?_⟩
  rw [List.length_take] at hk
  obtain ⟨g, o, ha, hg, hc⟩ := h.2.2 (by omega)
  refine ⟨g, o, ha, hg, fun i x hx => hc i x ?_⟩
  rw [List.getElem?_take] at hx
  split at hx
  · exact hx
  · cases hx
set_option maxRecDepth 100000 in
set_option maxHeartbeats 1600000 in
theorem hitp_v (x0 x1 x2 x3 x4 f0 f1 t0 t1 : Int) (b1 b2 : Nat) {b : Bool} {W : World} (hb : decide (hitP (f0, f1) (t0, t1) ((x0, x1), (x2, x3), x4)) = b) (h1 : Blk W b1 47 #[.int .i64 f0, .int .i64 f1]) (h2 : Blk W b2 47 #[.int .i64 t0, .int .i64 t1]) :
    Calls Tryz.prog 82 #[.agg #[.int .i64 x0, .int .i64 x1, .int .i64 x2, .int .i64 x3, .int .i64 x4], .pointer (some ⟨b1, 0, none⟩), .pointer (some ⟨b2, 0, none⟩)] W fun e w' => e = .returned (.bool b) ∧ Below W.heap.size W w' := by
  have HB0 := Lib.hid (show Below W.heap.size W (W.alloc (.cells #[.int .i64 x0, .int .i64 x1, .int .i64 x2, .int .i64 x3, .int .i64 x4] 77)) from (Below.refl _ _).alloc (Nat.le_refl _) _)
  have H1 := h1.alloc (.cells #[.int .i64 x0, .int .i64 x1, .int .i64 x2, .int .i64 x3, .int .i64 x4] 77)
  have H2 := h2.alloc (.cells #[.int .i64 x0, .int .i64 x1, .int .i64 x2, .int .i64 x3, .int .i64 x4] 77)
  have a0 : (W.alloc (.cells #[.int .i64 x0, .int .i64 x1, .int .i64 x2, .int .i64 x3, .int .i64 x4] 77)).cell? ⟨b1, 0, none⟩ = some (.int .i64 f0) := H1.at_ 0 rfl
  have a1 : (W.alloc (.cells #[.int .i64 x0, .int .i64 x1, .int .i64 x2, .int .i64 x3, .int .i64 x4] 77)).cell? ⟨b1, 1, none⟩ = some (.int .i64 f1) := H1.at_ 1 rfl
  have d0 : (W.alloc (.cells #[.int .i64 x0, .int .i64 x1, .int .i64 x2, .int .i64 x3, .int .i64 x4] 77)).cell? ⟨b2, 0, none⟩ = some (.int .i64 t0) := H2.at_ 0 rfl
  have d1 : (W.alloc (.cells #[.int .i64 x0, .int .i64 x1, .int .i64 x2, .int .i64 x3, .int .i64 x4] 77)).cell? ⟨b2, 1, none⟩ = some (.int .i64 t1) := H2.at_ 1 rfl
  clear H1 H2 h1 h2
  obtain ⟨q1, hq1⟩ : ∃ b, decide (((x0, x1) : Int × Int) = (f0, f1)) = b := ⟨_, rfl⟩
  obtain ⟨q2, hq2⟩ : ∃ b, decide (((x2, x3) : Int × Int) = (t0, t1)) = b := ⟨_, rfl⟩
  have hE1 := eql_lab _ _ _ _ _ hq1
  have hE2 := eql_lab _ _ _ _ _ hq2
  have HQ := Lib.hid (show b = (q1 && q2) from by rw [← hb, ← hq1, ← hq2, ← Bool.decide_and]; exact decide_eq_decide.2 Iff.rfl)
  clear hb hq1 hq2
  go_enter Tryz.func82, Tryz.ntmps82
  cases q1 with
  | false =>
    go_wp2
    go_ret
    exact ⟨by rw [HQ.out]; rfl, HB0.out⟩
  | true =>
    go_wp2
    go_ret
    exact ⟨by rw [HQ.out]; rfl, HB0.out⟩
set_option maxRecDepth 100000 in
set_option maxHeartbeats 1600000 in
theorem indexf_pairs {P : List D_Pair} {pa : Option Addr} {pc b1 b2 : Nat} {f0 f1 t0 t1 : Int} {W : World} (hP : RdSl R_Pair W W.heap.size P pa pc) (h1 : Blk W b1 47 #[.int .i64 f0, .int .i64 f1]) (h2 : Blk W b2 47 #[.int .i64 t0, .int .i64 t1]) :
    Calls Tryz.prog 81 #[.slice pa P.length pc, .func (.func 82) #[] #[.pointer (some ⟨b1, 0, none⟩), .pointer (some ⟨b2, 0, none⟩)]] W (IsI (ixP P (f0, f1) (t0, t1)) W) := by
  have hn : P.length ≤ 9223372036854775807 := by have h1 := hP.1; have h2 := hP.2.1; unfold maxLen at h2; omega
  have HP := Lib.hid hP
  have H1 := Lib.hid h1
  have H2 := Lib.hid h2
  clear hP h1 h2
  go_enter Tryz.func81, Tryz.ntmps81
  go_wp2
  go_loopw [8] (fun i wr => ∃ k : Nat, k ≤ P.length ∧ i = .int .i64 k ∧ Hid (∀ (q : Nat) y, q < k → P[q]? = some y → ¬ hitP (f0, f1) (t0, t1) y) ∧ Below W.heap.size W wr) (fun i _ => P.length - (intOf i).toNat)
  case atStart => exact ⟨0, Nat.zero_le _, rfl, Lib.hid fun q y h => absurd h (Nat.not_lt_zero _), Below.refl _ _⟩
  case round =>
    obtain ⟨k, hk, rfl, HA, hB⟩ := hrel
    have HB := Lib.hid hB
    have hsz := hB.size
    by_cases hlt : k < P.length
    · have hdl : decide ((k : Int) < (P.length : Int)) = true := decide_eq_true (by omega)
      obtain ⟨⟨⟨x0, x1⟩, ⟨x2, x3⟩, x4⟩, hx⟩ := el_some hlt
      have HX := Lib.hid hx
      obtain ⟨g, o, us, rfl, hg, hu, hr⟩ := (HP.out.below R_Pair_ok hB).at_ hx
      obtain rfl := rd_Pair hr
      have e0 : wr.cell? ⟨g, o + k * 5, none⟩ = some (.int .i64 x0) := by simpa [size_PairS, Nat.add_assoc] using hu 0 _ rfl
      have e1 : wr.cell? ⟨g, o + k * 5 + 1, none⟩ = some (.int .i64 x1) := by simpa [size_PairS, Nat.add_assoc] using hu 1 _ rfl
      have e2 : wr.cell? ⟨g, o + k * 5 + 2, none⟩ = some (.int .i64 x2) := by simpa [size_PairS, Nat.add_assoc] using hu 2 _ rfl
      have e3 : wr.cell? ⟨g, o + k * 5 + 3, none⟩ = some (.int .i64 x3) := by simpa [size_PairS, Nat.add_assoc] using hu 3 _ rfl
      have e4 : wr.cell? ⟨g, o + k * 5 + 4, none⟩ = some (.int .i64 x4) := by simpa [size_PairS, Nat.add_assoc] using hu 4 _ rfl
      have hi0 : (0 : Int) ≤ (k : Int) := Int.natCast_nonneg _
      have hi1 : (k : Int) < (P.length : Int) := by omega
      have eg : ∀ args w, (callFunc 82 args).run Tryz.prog w = .ok (.enter 82 args) w := enters_of Tryz.func82 (by kernel_rfl) rfl
      obtain ⟨b, hb⟩ : ∃ b, decide (hitP (f0, f1) (t0, t1) ((x0, x1), (x2, x3), x4)) = b := ⟨_, rfl⟩
      have HBb := Lib.hid hb
      clear hB hx hu hr hb
      go_wp2_with fail
      refine (hitp_v x0 x1 x2 x3 x4 f0 f1 t0 t1 b1 b2 HBb.out (H1.out.call HB.out) (H2.out.call HB.out)).mono ?_
      rintro e w1 ⟨rfl, hb⟩
      have HB1 := Lib.hid (HB.out.trans (hb.mono hsz))
      clear hb e0 e1 e2 e3 e4
      cases b with
      | true =>
        have HE := Lib.hid (ixP_hit HX.out (of_decide_eq_true HBb.out) HA.out)
        go_wp2
        go_ret
        exact ⟨by rw [HE.out]; rfl, HB1.out⟩
      | false =>
        have HA2 := Lib.hid (show ∀ (q : Nat) y, q < k + 1 → P[q]? = some y → ¬ hitP (f0, f1) (t0, t1) y from fun q y hq hy => by
          by_cases e : q = k
          · subst e; rw [HX.out] at hy; obtain rfl := Option.some.inj hy
            exact of_decide_eq_false HBb.out
          · exact HA.out q y (by omega) hy)
        go_wp2
        go_roundw
        case rel => exact ⟨k + 1, by omega, by go_num, HA2, HB1.out⟩
        case measure => simp [intOf]; omega
    · have hdl : decide ((k : Int) < (P.length : Int)) = false := decide_eq_false (by omega)
      have HE := Lib.hid (ixP_none (f := (f0, f1)) (t := (t0, t1)) fun q y hy => HA.out q y (by have := el_lt hy; omega) hy)
      clear hB
      go_wp2
      go_ret
      exact ⟨by rw [HE.out]; rfl, HB.out⟩
set_option maxRecDepth 100000 in
set_option maxHeartbeats 1600000 in
theorem pairix_impl {P : List D_Pair} {pa : Option Addr} {pc : Nat} {f0 f1 t0 t1 : Int} {W : World} (hP : RdSl R_Pair W W.heap.size P pa pc) :
    Calls Tryz.prog 45 #[.slice pa P.length pc, .agg #[.int .i64 f0, .int .i64 f1], .agg #[.int .i64 t0, .int .i64 t1]] W (IsI (ixP P (f0, f1) (t0, t1)) W) := by
  have hmf : ∀ (fn : Fn) (first cap : Array Value) (w : World), (Instr.makeFunc fn first cap).run Tryz.prog w = .ok (.func fn first cap) w := fun _ _ _ _ => rfl
  obtain ⟨w0, hw0⟩ : ∃ w, w = (W.alloc (.cells #[.int .i64 f0, .int .i64 f1] 47)).alloc (.cells #[.int .i64 t0, .int .i64 t1] 47) := ⟨_, rfl⟩
  have hb0 : Below W.heap.size W w0 := by rw [hw0]; exact ((Below.refl _ _).alloc (Nat.le_refl _) _).alloc (by simp) _
  have h1 : Blk w0 W.heap.size 47 #[.int .i64 f0, .int .i64 f1] := by rw [hw0]; exact (Blk.new _ _ _).alloc _
  have h2 : Blk w0 (W.heap.size + 1) 47 #[.int .i64 t0, .int .i64 t1] := by
    have h9 := Blk.new (W.alloc (.cells #[.int .i64 f0, .int .i64 f1] 47)) 47 #[.int .i64 t0, .int .i64 t1]
    simp only [World.size_alloc] at h9
    rw [hw0]; exact h9
  have HP := Lib.hid (rd_mv R_Pair_ok hP hb0)
  have H1 := Lib.hid h1
  have H2 := Lib.hid h2
  have HB0 := Lib.hid hb0
  have hz0 := hb0.size
  clear h1 h2 hb0 hP
  go_enter Tryz.func45, Tryz.ntmps45
  go_wp2_with fail
  rw [← hw0]
  clear hw0
  refine (indexf_pairs HP.out H1.out H2.out).mono ?_
  intro e w1 h
  obtain ⟨rfl, hb⟩ := isI_elim h
  have HB1 := Lib.hid (HB0.out.trans (hb.mono hz0))
  clear h hb
  go_wp2
  go_ret
  exact ⟨rfl, HB1.out⟩
end Go.Proofs.YtlgflddljhldhaaGreat.RepC
end
