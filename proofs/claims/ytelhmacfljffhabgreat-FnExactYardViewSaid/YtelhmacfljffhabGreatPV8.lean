/- Of this claim's texts the part 8: ResB Sp. -/
import Derived.Test.YtelhmacfljffhabGreatRows
import Derived.WalkKit
import Derived.ProofKit
import Derived.Below
import Derived.LoopTactic
import Derived.BigQuiet
import Derived.Deep.QuietTactic
import Derived.Deep.RegionWith
import Derived.Deep.RegionHeld3
import Derived.Deep.DeepCutAuto
import Derived.RegionTactic
import Derived.WalkSpells
import Derived.WalkLawsBesides
import Derived.IntWalk
import Derived.Lib.Hide
import Derived.Test.YtelhmacfljffhabGreatPV0
section
namespace Go.Proofs.YtelhmacfljffhabGreat.SpanC
open Go.RowKit KeptC
def ResB (P : Prop) (w : World) (e : Ending) (w' : World) : Prop := ∃ b : Bool, e = .returned (.bool b) ∧ (b = true ↔ P) ∧ Below w.heap.size w w'
theorem resB_yes {P : Prop} {w w' : World} (h : P) (hb : Below w.heap.size w w') : ResB P w (.returned (.bool true)) w' := ⟨true, rfl, by simp [h], hb⟩
theorem resB_no {P : Prop} {w w' : World} (h : ¬ P) (hb : Below w.heap.size w w') : ResB P w (.returned (.bool false)) w' := ⟨false, rfl, by simp [h], hb⟩
theorem resB_elim {P : Prop} {w : World} {e : Ending} {w' : World} (h : ResB P w e w') : ∃ b : Bool, e = .returned (.bool b) ∧ (b = true ↔ P) ∧ Below w.heap.size w w' := h
theorem all_step {P : Nat → Prop} {k : Nat} (h : ∀ j, j < k → P j) (hk : P k) : ∀ j, j < k + 1 → P j := fun j hj => by
  by_cases e : j = k
  · subst e; exact hk
  · exact h j (by omega)
end Go.Proofs.YtelhmacfljffhabGreat.SpanC
end
section
namespace Go.Proofs.YtelhmacfljffhabGreat.SpanC
open Go.RowKit KeptC
def isB (n lo hi : Int) : Bool := decide (lo ≤ n) && decide (n ≤ hi)
theorem isB_iff (n lo hi : Int) : isB n lo hi = true ↔ lo ≤ n ∧ n ≤ hi := by simp [isB]
theorem is_spec (n lo hi : Int) (w : World) :
    Calls Tryz.prog 53 #[.int .i64 n, .int .i64 lo, .int .i64 hi] w fun e w' => e = .returned (.bool (isB n lo hi)) ∧ w = w' := by
  by_cases h1 : lo ≤ n
  · by_cases h2 : n ≤ hi
    · have hb : isB n lo hi = true := by simp [isB, h1, h2]
      rw [hb]; clear hb
      go_enter Tryz.func53, Tryz.ntmps53
      go_wp2
      go_ret
      exact ⟨rfl, rfl⟩
    · have hb : isB n lo hi = false := by simp [isB, h1, h2]
      rw [hb]; clear hb
      have h2' : decide (n ≤ hi) = false := by simpa using h2
      go_enter Tryz.func53, Tryz.ntmps53
      go_wp2
      go_ret
      exact ⟨rfl, rfl⟩
  · have hb : isB n lo hi = false := by simp [isB, h1]
    rw [hb]; clear hb
    have h1' : decide (lo ≤ n) = false := by simpa using h1
    go_enter Tryz.func53, Tryz.ntmps53
    go_wp2
    go_ret
    exact ⟨rfl, rfl⟩
theorem is_impl (n lo hi : Int) (w : World) :
    Calls Tryz.prog 109 #[.int .i64 n, .int .i64 lo, .int .i64 hi] w fun e w' => e = .returned (.bool (isB n lo hi)) ∧ w = w' := by
  by_cases h1 : lo ≤ n
  · by_cases h2 : n ≤ hi
    · have hb : isB n lo hi = true := by simp [isB, h1, h2]
      rw [hb]; clear hb
      go_enter Tryz.func109, Tryz.ntmps109
      go_wp2
      go_ret
      exact ⟨rfl, rfl⟩
    · have hb : isB n lo hi = false := by simp [isB, h1, h2]
      rw [hb]; clear hb
      have h2' : decide (n ≤ hi) = false := by simpa using h2
      go_enter Tryz.func109, Tryz.ntmps109
      go_wp2
      go_ret
      exact ⟨rfl, rfl⟩
  · have hb : isB n lo hi = false := by simp [isB, h1]
    rw [hb]; clear hb
    have h1' : decide (lo ≤ n) = false := by simpa using h1
    go_enter Tryz.func109, Tryz.ntmps109
    go_wp2
    go_ret
    exact ⟨rfl, rfl⟩
theorem time_spec (n : Int) (w : World) :
    Calls Tryz.prog 98 #[.int .i64 n] w fun e w' => e = .returned (.bool (isB n 0 1000000)) ∧ w = w' := by
  go_enter Tryz.func98, Tryz.ntmps98
  go_wp2_with (go_at_call 53; refine (is_spec _ _ _ _).mono ?_; rintro e w' ⟨rfl, rfl⟩)
  go_ret
  exact ⟨rfl, rfl⟩
theorem time_impl (n : Int) (w : World) :
    Calls Tryz.prog 167 #[.int .i64 n] w fun e w' => e = .returned (.bool (isB n 0 1000000)) ∧ w = w' := by
  go_enter Tryz.func167, Tryz.ntmps167
  go_wp2_with (go_at_call 109; refine (is_impl _ _ _ _).mono ?_; rintro e w' ⟨rfl, rfl⟩)
  go_ret
  exact ⟨rfl, rfl⟩
def spB (a b : Int) : Bool := isB a 0 1000000 && (decide (a < b) && decide (b ≤ 1000000))
def spP (a b : Int) : Prop := 0 ≤ a ∧ a < b ∧ b ≤ 1000000
theorem spB_iff (a b : Int) : spB a b = true ↔ spP a b := by unfold spB spP; simp [isB]; omega
theorem right_spec (a b : Int) (w : World) :
    Calls Tryz.prog 137 #[.agg #[.int .i64 a, .int .i64 b]] w fun e w' => e = .returned (.bool (spB a b)) ∧ Below w.heap.size w w' := by
  have hB : Below w.heap.size w (w.alloc (.cells #[.int .i64 a, .int .i64 b] 62)) := (Below.refl _ _).alloc (Nat.le_refl _) _
  have HB := Lib.hid hB
  clear hB
  cases h1 : isB a 0 1000000 with
  | true =>
    by_cases h2 : a < b
    · by_cases h3 : b ≤ 1000000
      · have hb : spB a b = true := by simp [spB, h1, h2, h3]
        rw [hb]; clear hb
        have hc := fun W => time_spec a W
        rw [h1] at hc
        clear h1
        go_enter Tryz.func137, Tryz.ntmps137
        go_wp2_with (go_at_call 98; refine (hc _).mono ?_; rintro e w' ⟨rfl, rfl⟩)
        go_ret
        exact ⟨rfl, HB.out⟩
      · have hb : spB a b = false := by simp [spB, h3]
        rw [hb]; clear hb
        have h3' : decide (b ≤ 1000000) = false := by simpa using h3
        have hc := fun W => time_spec a W
        rw [h1] at hc
        clear h1
        go_enter Tryz.func137, Tryz.ntmps137
        go_wp2_with (go_at_call 98; refine (hc _).mono ?_; rintro e w' ⟨rfl, rfl⟩)
        go_ret
        exact ⟨rfl, HB.out⟩
    · have hb : spB a b = false := by simp [spB, h2]
      rw [hb]; clear hb
      have h2' : decide (a < b) = false := by simpa using h2
      have hc := fun W => time_spec a W
      rw [h1] at hc
      clear h1
      go_enter Tryz.func137, Tryz.ntmps137
      go_wp2_with (go_at_call 98; refine (hc _).mono ?_; rintro e w' ⟨rfl, rfl⟩)
      go_ret
      exact ⟨rfl, HB.out⟩
  | false =>
    have hb : spB a b = false := by simp [spB, h1]
    rw [hb]; clear hb
    have hc := fun W => time_spec a W
    rw [h1] at hc
    clear h1
    go_enter Tryz.func137, Tryz.ntmps137
    go_wp2_with (go_at_call 98; refine (hc _).mono ?_; rintro e w' ⟨rfl, rfl⟩)
    go_ret
    exact ⟨rfl, HB.out⟩
theorem right_impl (a b : Int) (w : World) :
    Calls Tryz.prog 145 #[.agg #[.int .i64 a, .int .i64 b]] w fun e w' => e = .returned (.bool (spB a b)) ∧ Below w.heap.size w w' := by
  have hB : Below w.heap.size w (w.alloc (.cells #[.int .i64 a, .int .i64 b] 62)) := (Below.refl _ _).alloc (Nat.le_refl _) _
  have HB := Lib.hid hB
  clear hB
  cases h1 : isB a 0 1000000 with
  | true =>
    by_cases h2 : a < b
    · by_cases h3 : b ≤ 1000000
      · have hb : spB a b = true := by simp [spB, h1, h2, h3]
        rw [hb]; clear hb
        have hc := fun W => time_impl a W
        rw [h1] at hc
        clear h1
        go_enter Tryz.func145, Tryz.ntmps145
        go_wp2_with (go_at_call 167; refine (hc _).mono ?_; rintro e w' ⟨rfl, rfl⟩)
        go_ret
        exact ⟨rfl, HB.out⟩
      · have hb : spB a b = false := by simp [spB, h3]
        rw [hb]; clear hb
        have h3' : decide (b ≤ 1000000) = false := by simpa using h3
        have hc := fun W => time_impl a W
        rw [h1] at hc
        clear h1
        go_enter Tryz.func145, Tryz.ntmps145
        go_wp2_with (go_at_call 167; refine (hc _).mono ?_; rintro e w' ⟨rfl, rfl⟩)
        go_ret
        exact ⟨rfl, HB.out⟩
    · have hb : spB a b = false := by simp [spB, h2]
      rw [hb]; clear hb
      have h2' : decide (a < b) = false := by simpa using h2
      have hc := fun W => time_impl a W
      rw [h1] at hc
      clear h1
      go_enter Tryz.func145, Tryz.ntmps145
      go_wp2_with (go_at_call 167; refine (hc _).mono ?_; rintro e w' ⟨rfl, rfl⟩)
      go_ret
      exact ⟨rfl, HB.out⟩
  | false =>
    have hb : spB a b = false := by simp [spB, h1]
    rw [hb]; clear hb
    have hc := fun W => time_impl a W
    rw [h1] at hc
    clear h1
    go_enter Tryz.func145, Tryz.ntmps145
    go_wp2_with (go_at_call 167; refine (hc _).mono ?_; rintro e w' ⟨rfl, rfl⟩)
    go_ret
    exact ⟨rfl, HB.out⟩
theorem before_impl (a b c d : Int) (w : World) :
    Calls Tryz.prog 212 #[.agg #[.int .i64 a, .int .i64 b], .agg #[.int .i64 c, .int .i64 d]] w fun e w' => e = .returned (.bool (decide (b ≤ c))) ∧ Below w.heap.size w w' := by
  go_enter Tryz.func212, Tryz.ntmps212
  go_wp2
  go_ret
  exact ⟨rfl, ((Below.refl _ _).alloc (Nat.le_refl _) _).alloc (by simp) _⟩
end Go.Proofs.YtelhmacfljffhabGreat.SpanC
end
