/- Labels: validity, order, join and meet, in the program and in its model: contracts. -/
import Derived.Test.YtfmgjkmlnaeagaaRows
import Derived.WalkKit
import Derived.ProofKit
import Derived.Below
import Derived.LoopTactic
import Derived.BigQuiet
import Derived.Deep.QuietTactic
import Derived.Deep.RegionWith
import Derived.RegionTactic
import Derived.WalkSpells
import Derived.WalkLawsBesides
import Derived.IntWalk
import Derived.Lib.Hide
namespace Go.Proofs.Ytfmgjkmlnaeagaa.LabC
open Go.RowKit

def rP (l s : Int) : Prop := 0 ≤ l ∧ l ≤ 3 ∧ 0 ≤ s ∧ s ≤ 7
def rB (l s : Int) : Bool := decide (0 ≤ l) && (decide (l ≤ 3) && (decide (0 ≤ s) && decide (s ≤ 7)))
theorem rB_iff (l s : Int) : rB l s = true ↔ rP l s := by unfold rB rP; simp
def isB (n lo hi : Int) : Bool := decide (lo ≤ n) && decide (n ≤ hi)
def lab (l s : Int) : Value := .agg #[.int .i64 l, .int .i64 s]

theorem bcell {W w1 : World} (hb : Below W.heap.size W w1) : (∀ b o, b < W.heap.size → w1.cell? ⟨b, o, none⟩ = W.cell? ⟨b, o, none⟩) ∧ (∀ b o, b < W.heap.size → w1.frozen? ⟨b, o, none⟩ = W.frozen? ⟨b, o, none⟩) :=
  ⟨fun b o h => hb.cell (p := ⟨b, o, none⟩) h, fun b o h => hb.frozen (p := ⟨b, o, none⟩) h⟩

theorem is_any (n lo hi : Int) (w : World) :
    Calls Try.prog 27 #[.int .i64 n, .int .i64 lo, .int .i64 hi] w fun e w' => e = .returned (.bool (isB n lo hi)) ∧ w = w' := by
  by_cases h1 : lo ≤ n
  · by_cases h2 : n ≤ hi
    · have hb : isB n lo hi = true := by simp [isB, h1, h2]
      rw [hb]; clear hb
      go_enter Try.func27, Try.ntmps27
      go_wp2
      go_ret
      exact ⟨rfl, rfl⟩
    · have hb : isB n lo hi = false := by simp [isB, h1, h2]
      rw [hb]; clear hb
      have h2' : decide (n ≤ hi) = false := by simpa using h2
      go_enter Try.func27, Try.ntmps27
      go_wp2
      go_ret
      exact ⟨rfl, rfl⟩
  · have hb : isB n lo hi = false := by simp [isB, h1]
    rw [hb]; clear hb
    have h1' : decide (lo ≤ n) = false := by simpa using h1
    go_enter Try.func27, Try.ntmps27
    go_wp2
    go_ret
    exact ⟨rfl, rfl⟩

def labO (l s : Int) : Obj := .cells #[.int .i64 l, .int .i64 s] 29

theorem right_spec (l s : Int) (w : World) :
    Calls Try.prog 26 #[lab l s] w fun e w' => e = .returned (.bool (rB l s)) ∧ w.alloc (labO l s) = w' := by
  unfold lab
  by_cases h1 : isB l 0 3 = true
  · have hb : rB l s = isB s 0 7 := by simp [isB] at h1; simp [rB, isB, h1]
    rw [hb]; clear hb
    go_enter Try.func26, Try.ntmps26
    go_wp2_with (go_at_call 27; refine (is_any _ _ _ _).mono ?_; rintro e w' ⟨rfl, rfl⟩)
    go_ret
    exact ⟨rfl, rfl⟩
  · have h1' : isB l 0 3 = false := by simpa using h1
    have hb : rB l s = false := by
      simp [isB] at h1; simp [rB]; omega
    rw [hb]; clear hb h1
    go_enter Try.func26, Try.ntmps26
    go_wp2_with (go_at_call 27; refine (is_any _ _ _ _).mono ?_; rintro e w' ⟨rfl, rfl⟩)
    go_ret
    exact ⟨rfl, rfl⟩

theorem le_f {a b : Int} (h : ¬ a ≤ b) : decide (a ≤ b) = false := by simpa using h

theorem right_impl (l s : Int) (w : World) :
    Calls Try.prog 31 #[lab l s] w fun e w' => e = .returned (.bool (rB l s)) ∧ w.alloc (labO l s) = w' := by
  unfold lab
  by_cases h1 : 0 ≤ l
  · by_cases h2 : l ≤ 3
    · by_cases h3 : 0 ≤ s
      · by_cases h4 : s ≤ 7
        · have hb : rB l s = true := by rw [rB_iff]; exact ⟨h1, h2, h3, h4⟩
          rw [hb]; clear hb
          go_enter Try.func31, Try.ntmps31
          go_wp2
          go_ret
          exact ⟨rfl, rfl⟩
        · have hb : rB l s = false := by simp [rB]; omega
          rw [hb]; clear hb
          have g := le_f h4
          go_enter Try.func31, Try.ntmps31
          go_wp2
          go_ret
          exact ⟨rfl, rfl⟩
      · have hb : rB l s = false := by simp [rB]; omega
        rw [hb]; clear hb
        have g := le_f h3
        go_enter Try.func31, Try.ntmps31
        go_wp2
        go_ret
        exact ⟨rfl, rfl⟩
    · have hb : rB l s = false := by simp [rB]; omega
      rw [hb]; clear hb
      have g := le_f h2
      go_enter Try.func31, Try.ntmps31
      go_wp2
      go_ret
      exact ⟨rfl, rfl⟩
  · have hb : rB l s = false := by simp [rB]; omega
    rw [hb]; clear hb
    have g := le_f h1
    go_enter Try.func31, Try.ntmps31
    go_wp2
    go_ret
    exact ⟨rfl, rfl⟩

def toW (l s : Int) (w : World) : World := (((((w.alloc (.cells #[.int .i64 l, .int .i64 s] 23)).alloc (.cells #[.int .i64 0, .int .i64 0] 29)).alloc (.cells #[.int .i64 0, .int .i64 0] 29)).setCell ⟨w.heap.size + 2, 0, none⟩ (.int .i64 l)).setCell ⟨w.heap.size + 2, 1, none⟩ (.int .i64 s))
theorem to_any (l s : Int) (w : World) :
    Calls Try.prog 18 #[lab l s] w fun e w' => e = .returned (lab l s) ∧ Below w.heap.size w w' := by
  unfold lab
  go_enter Try.func18, Try.ntmps18
  go_wp2
  refine bodyPost_ret (v := .agg #[.int .i64 l, .int .i64 s]) (by simp [results, Try.results18, go_sem]) rfl ⟨rfl, ?_⟩
  repeat (first | exact Below.refl _ _ | refine Below.setCell ?_ (by simp <;> omega) _ | refine Below.alloc ?_ (by simp <;> omega) _)

def maxV (a b : Int) : Int := if b < a then a else b
def minV (a b : Int) : Int := if a < b then a else b
def bB (l s m t : Int) : Bool := decide (l ≤ m) && (bits BinOp.and IntKind.i64 s t == s)
def joinV (l s m t : Int) : Value := if rB l s = true ∧ rB m t = true then lab (maxV l m) (bits BinOp.or IntKind.i64 s t) else lab 0 0
def meetV (l s m t : Int) : Value := if rB l s = true ∧ rB m t = true then lab (minV l m) (bits BinOp.and IntKind.i64 s t) else lab 0 0
theorem ret_lab {a b c d : Int} (h : a = b) (h2 : c = d) : Ending.returned (.agg #[.int .i64 a, .int .i64 c]) = .returned (.agg #[.int .i64 b, .int .i64 d]) := by rw [h, h2]
theorem ret_v {a b : Value} (h : a = b) : Ending.returned a = .returned b := by rw [h]
theorem max_lt {a b : Int} (h : a < b) : b = maxV a b := by unfold maxV; split <;> omega
theorem max_ge {a b : Int} (h : b ≤ a) : a = maxV a b := by unfold maxV; split <;> omega
theorem min_lt {a b : Int} (h : a < b) : a = minV a b := by unfold minV; split <;> omega
theorem min_ge {a b : Int} (h : b ≤ a) : b = minV a b := by unfold minV; split <;> omega
theorem min_le {a b : Int} (h : a ≤ b) : a = minV a b := by unfold minV; split <;> omega
theorem min_gt {a b : Int} (h : b < a) : b = minV a b := by unfold minV; split <;> omega
end Go.Proofs.Ytfmgjkmlnaeagaa.LabC
