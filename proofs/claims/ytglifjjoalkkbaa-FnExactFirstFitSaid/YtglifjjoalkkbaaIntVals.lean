/- Rows of int64: comparison, marks: contracts. -/
import Derived.Test.YtglifjjoalkkbaaVals
import Derived.LoopTactic
import Derived.BigQuiet
import Derived.Deep.QuietTactic
import Derived.Deep.RegionWith
import Derived.Deep.RegionHeld3
import Derived.RegionTactic
import Derived.WalkSpells
import Derived.WalkLawsBesides
import Derived.IntWalk
import Derived.Lib.Hide
namespace Go.Proofs.Ytglifjjoalkkbaa.IntC
open Go.RowKit RowC ValC
set_option linter.unusedSimpArgs false
set_option linter.unusedVariables false

theorem bdrewN {B : Nat} {w W : World} (h : Below B w W) (n : Nat) : Below B w (W.drewN n) := ⟨h.os, h.tape, h.output, h.size, h.block⟩
/-- n integers as f says -/
abbrev IntV (n : Nat) (f : Nat → Int) (W : World) (S : Nat → Prop) (v : Value) : Prop := RowV W S v n 1 (fun j => .int .i64 (f j))

set_option maxHeartbeats 1600000 in
theorem eqI_v {n : Nat} {f h : Nat → Int} {v v' : Value} {S S' : Nat → Prop} {w : World} (hn : n ≤ 2097152) (h1 : IntV n f w S v) (h2 : IntV n h w S' v') (he : ∀ i, i < n → f i = h i) :
    Calls Try.prog 34 #[v, v'] w (IsB true w) := by
  have h2 : IntV n f w S' v' := RowV.congr h2 (fun j hj => by rw [he j (by omega)])
  refine h1.cases (fun a cap e0 e1 => ?_) (fun g cap hpos hcap e1 hg l1 hc1 hf1 => ?_)
  · subst e0 e1
    obtain ⟨_, a', cap', rfl, _, _⟩ := h2
    clear h1 he
    go_enter Try.func34, Try.ntmps34
    go_wp2
    go_loopw [5] (fun i wr => i = .int .i64 0 ∧ wr = w) (fun i _ => 0)
    case atStart => exact ⟨rfl, rfl⟩
    case round =>
      obtain ⟨rfl, rfl⟩ := hrel
      go_wp2
      go_ret
      exact ⟨rfl, Below.refl _ _⟩
  · refine h2.cases (fun a cap e0 e1 => by omega) (fun g' cap' _ hcap' e2 hg' l2 hc2 hf2 => ?_)
    subst e1 e2
    have H1 := Lib.hid hc1
    have H2 := Lib.hid hc2
    clear h1 h2 hc1 hc2 hf1 hf2 he hg hg'
    go_enter Try.func34, Try.ntmps34
    go_wp2
    go_loopw [5] (fun i wr => ∃ k : Nat, k ≤ n ∧ i = .int .i64 k ∧ Below w.heap.size w wr) (fun i _ => n - (intOf i).toNat)
    case atStart => exact ⟨0, Nat.zero_le _, rfl, Below.refl _ _⟩
    case round =>
      obtain ⟨k, hk, rfl, hb⟩ := hrel
      have HB := Lib.hid hb
      by_cases hlt : k < n
      · have hc0 : wr.cell? ⟨g, k, none⟩ = some (.int .i64 (f k)) := (hb.cell (p := ⟨g, k, none⟩) l1).trans (H1.out k (by omega))
        have hd0 : wr.cell? ⟨g', k, none⟩ = some (.int .i64 (f k)) := (hb.cell (p := ⟨g', k, none⟩) l2).trans (H2.out k (by omega))
        have hi0 : (0 : Int) ≤ (k : Int) := Int.natCast_nonneg _
        have hi1 : (k : Int) < (n : Int) := by omega
        clear hb
        go_wp2_with fail
        go_quiet (fail)
        all_goals
          go_wp2
          go_roundw
          case rel => exact ⟨k + 1, by omega, by go_num, by first | exact bdrewN HB.out _ | exact HB.out.drew | exact HB.out⟩
          case measure => simp [intOf]; omega
      · clear hb
        go_wp2
        go_ret
        exact ⟨rfl, HB.out⟩

/-- the marks from k on -/
def markI (k : Int) (i : Nat) : Int := k + i
def MkI (g n i : Nat) (k : Int) (w W : World) : Prop := (∀ j, j < n → ∃ u, W.cell? ⟨g, j, none⟩ = some u ∧ (j < i → u = .int .i64 (markI k j))) ∧ (∀ j, W.frozen? ⟨g, j, none⟩ = false) ∧ Off (fun x => x = g) w W ∧ W.heap.size = w.heap.size
theorem MkI.put {g n i : Nat} {k : Int} {w W : World} (h : MkI g n i k w W) (hi : i < n) : MkI g n (i + 1) k w (W.setCell ⟨g, i, none⟩ (.int .i64 (k + i))) := by
  obtain ⟨h1, h2, h3, h4⟩ := h
  have ne : ∀ a b : Nat, a ≠ b → (⟨g, a, none⟩ : Addr) ≠ ⟨g, b, none⟩ := fun a b hab e => hab (by injection e)
  refine ⟨fun j hj => ?_, fun j => by simpa using h2 j, h3.setCell rfl _, by simpa using h4⟩
  obtain ⟨u, hu, hk⟩ := h1 j hj
  by_cases e2 : j = i
  · subst e2
    exact ⟨_, World.cell?_setCell_same' _ _ _ (by rw [hu]; rfl), fun _ => rfl⟩
  · rw [World.cell?_setCell_other _ _ _ _ (ne _ _ (Ne.symm e2))]
    exact ⟨u, hu, fun hj2 => hk (by omega)⟩

set_option maxHeartbeats 1600000 in
theorem markI_v {n : Nat} {f : Nat → Int} {v : Value} {S : Nat → Prop} {w : World} {k : Int} (hn : n ≤ 2097152) (hk0 : 0 ≤ k) (hk1 : k ≤ 1073741824) (h1 : IntV n f w S v) :
    Calls Try.prog 36 #[v, .int .i64 k] w (Marks S (k + n) (fun w' => IntV n (markI k) w' S v) w) := by
  have H1 := Lib.hid h1
  refine h1.cases (fun a cap e0 e1 => ?_) (fun g cap hpos hcap e1 hg l1 hc1 hf1 => ?_)
  · subst e0 e1
    have HR := Lib.hid (show Marks S (k + (0 : Nat)) (fun w' => IntV 0 (markI k) w' S (.slice a 0 cap)) w (.returned (.int .i64 k)) w from ⟨by simp, RowV.congr h1 (fun j hj => by omega), Off.refl _ _⟩)
    clear h1
    go_enter Try.func36, Try.ntmps36
    go_wp2
    go_loopw [5, 1] (fun i q wr => i = .int .i64 0 ∧ q = .int .i64 k ∧ wr = w) (fun i _ _ => 0)
    case atStart => exact ⟨rfl, rfl, rfl⟩
    case round =>
      obtain ⟨rfl, rfl, rfl⟩ := hrel
      go_wp2
      go_ret
      exact HR.out
  · subst e1
    have HM := Lib.hid (show MkI g n 0 k w w from ⟨fun j hj => ⟨_, hc1 j (by omega), fun h => by omega⟩, hf1, Off.refl _ _, rfl⟩)
    clear h1 hc1 hf1
    go_enter Try.func36, Try.ntmps36
    go_wp2
    go_loopw [5, 1] (fun i q wr => ∃ j : Nat, j ≤ n ∧ i = .int .i64 j ∧ q = .int .i64 (k + j) ∧ MkI g n j k w wr) (fun i _ _ => n - (intOf i).toNat)
    case atStart => exact ⟨0, Nat.zero_le _, rfl, by simp, HM.out⟩
    case round =>
      obtain ⟨j, hj, rfl, rfl, hM⟩ := hrel
      have HM2 := Lib.hid hM
      by_cases hlt : j < n
      · obtain ⟨u0, hu0, _⟩ := hM.1 j hlt
        have hs0 := hM.2.1 j
        have hi0 : (0 : Int) ≤ (j : Int) := Int.natCast_nonneg _
        have hi1 : (j : Int) < (n : Int) := by omega
        clear hM
        go_wp2
        go_roundw
        case rel => exact ⟨j + 1, by omega, by go_num, by simp; omega, HM2.out.put hlt⟩
        case measure => simp [intOf]; omega
      · obtain rfl : j = n := by omega
        have HR := Lib.hid (show Marks S (k + (j : Nat)) (fun w' => IntV j (markI k) w' S (.slice (some ⟨g, 0, none⟩) j cap)) w (.returned (.int .i64 (k + j))) wr from
          ⟨rfl, ⟨fun x hx => by have := H1.out.1 x hx; have := hM.2.2.1.size; omega, _, _, rfl, hcap, fun _ => ⟨g, rfl, hg, fun i hi => by obtain ⟨u, hu, e⟩ := hM.1 i (by omega); rw [hu, e (by omega)], hM.2.1⟩⟩, hM.2.2.1.more (fun x hx => by rw [hx]; exact hg)⟩)
        clear hM
        go_wp2
        go_ret
        exact HR.out

set_option maxHeartbeats 1600000 in
theorem heldI_v {n : Nat} {v : Value} {S : Nat → Prop} {w : World} {k : Int} (hn : n ≤ 2097152) (hk0 : 0 ≤ k) (hk1 : k ≤ 1073741824) (h1 : IntV n (markI k) w S v) :
    Calls Try.prog 37 #[v, .int .i64 k] w fun e w' => e = .returned (.int .i64 (k + n)) ∧ Below w.heap.size w w' := by
  refine h1.cases (fun a cap e0 e1 => ?_) (fun g cap hpos hcap e1 hg l1 hc1 hf1 => ?_)
  · subst e0 e1
    clear h1
    go_enter Try.func37, Try.ntmps37
    go_wp2
    go_loopw [5, 1] (fun i q wr => i = .int .i64 0 ∧ q = .int .i64 k ∧ wr = w) (fun i _ _ => 0)
    case atStart => exact ⟨rfl, rfl, rfl⟩
    case round =>
      obtain ⟨rfl, rfl, rfl⟩ := hrel
      go_wp2
      go_ret
      exact ⟨by simp, Below.refl _ _⟩
  · subst e1
    have H1 := Lib.hid hc1
    clear h1 hc1 hf1
    go_enter Try.func37, Try.ntmps37
    go_wp2
    go_loopw [5, 1] (fun i q wr => ∃ j : Nat, j ≤ n ∧ i = .int .i64 j ∧ q = .int .i64 (k + j) ∧ Below w.heap.size w wr) (fun i _ _ => n - (intOf i).toNat)
    case atStart => exact ⟨0, Nat.zero_le _, rfl, by simp, Below.refl _ _⟩
    case round =>
      obtain ⟨j, hj, rfl, rfl, hb⟩ := hrel
      have HB := Lib.hid hb
      by_cases hlt : j < n
      · have hc0 : wr.cell? ⟨g, j, none⟩ = some (.int .i64 (k + j)) := (hb.cell (p := ⟨g, j, none⟩) l1).trans (H1.out j (by omega))
        have hi0 : (0 : Int) ≤ (j : Int) := Int.natCast_nonneg _
        have hi1 : (j : Int) < (n : Int) := by omega
        clear hb
        go_wp2
        go_roundw
        case rel => exact ⟨j + 1, by omega, by go_num, by simp; omega, HB.out⟩
        case measure => simp [intOf]; omega
      · obtain rfl : j = n := by omega
        clear hb
        go_wp2
        go_ret
        exact ⟨rfl, HB.out⟩
end Go.Proofs.Ytglifjjoalkkbaa.IntC
