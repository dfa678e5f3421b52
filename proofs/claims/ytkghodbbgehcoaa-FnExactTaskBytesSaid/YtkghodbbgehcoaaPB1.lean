/- Of this claim's texts the part 1: Lab ResB Sp UsP LabJoin LabBelow LabEq UsQ SpPairs JobN TaP TaR1 JobI0 TaR2 Lift. -/
import Derived.Test.YtkghodbbgehcoaaRows
import Derived.WalkKit
import Derived.ProofKit
import Derived.Below
import Derived.LoopTactic
import Derived.BigQuiet
import Derived.Deep.QuietTactic
import Derived.Deep.RegionWith
import Derived.RegionTactic
import Derived.WalkSpells
import Derived.WalkLawsBesides
import Derived.IntWalk
import Derived.Lib.Hide
import Derived.Deep.RegionHeld3
import Derived.Deep.DeepCutAuto
import Derived.Sort.Walk0
import Derived.StillTailTactics
import Derived.Laws.StructEq
import Derived.Laws.MakeOwn
import Derived.Laws.Entries
import Derived.OpenShut
import Derived.Carry
import Derived.ChangeOld
import Derived.Lib.SmallJoins
import Derived.Test.YtkghodbbgehcoaaPB0
section
namespace Go.Proofs.Ytkghodbbgehcoaa.LabC
open Go.RowKit
def rP (l s : Int) : Prop := 0 ≤ l ∧ l ≤ 3 ∧ 0 ≤ s ∧ s ≤ 7
def rB (l s : Int) : Bool := decide (0 ≤ l) && (decide (l ≤ 3) && (decide (0 ≤ s) && decide (s ≤ 7)))
theorem rB_iff (l s : Int) : rB l s = true ↔ rP l s := by unfold rB rP; simp
def isB (n lo hi : Int) : Bool := decide (lo ≤ n) && decide (n ≤ hi)
def lab (l s : Int) : Value := .agg #[.int .i64 l, .int .i64 s]
theorem is_any (n lo hi : Int) (w : World) :
    Calls Try.prog 63 #[.int .i64 n, .int .i64 lo, .int .i64 hi] w fun e w' => e = .returned (.bool (isB n lo hi)) ∧ w = w' := by
  by_cases h1 : lo ≤ n
  · by_cases h2 : n ≤ hi
    · have hb : isB n lo hi = true := by simp [isB, h1, h2]
      rw [hb]; clear hb
      go_enter Try.func63, Try.ntmps63
      go_wp2
      go_ret
      exact ⟨rfl, rfl⟩
    · have hb : isB n lo hi = false := by simp [isB, h1, h2]
      rw [hb]; clear hb
      have h2' : decide (n ≤ hi) = false := by simpa using h2
      go_enter Try.func63, Try.ntmps63
      go_wp2
      go_ret
      exact ⟨rfl, rfl⟩
  · have hb : isB n lo hi = false := by simp [isB, h1]
    rw [hb]; clear hb
    have h1' : decide (lo ≤ n) = false := by simpa using h1
    go_enter Try.func63, Try.ntmps63
    go_wp2
    go_ret
    exact ⟨rfl, rfl⟩
def labO (l s : Int) : Obj := .cells #[.int .i64 l, .int .i64 s] 25
theorem right_spec (l s : Int) (w : World) :
    Calls Try.prog 21 #[lab l s] w fun e w' => e = .returned (.bool (rB l s)) ∧ w.alloc (labO l s) = w' := by
  unfold lab
  by_cases h1 : isB l 0 3 = true
  · have hb : rB l s = isB s 0 7 := by simp [isB] at h1; simp [rB, isB, h1]
    rw [hb]; clear hb
    go_enter Try.func21, Try.ntmps21
    go_wp2_with (go_at_call 63; refine (is_any _ _ _ _).mono ?_; rintro e w' ⟨rfl, rfl⟩)
    go_ret
    exact ⟨rfl, rfl⟩
  · have h1' : isB l 0 3 = false := by simpa using h1
    have hb : rB l s = false := by
      simp [isB] at h1; simp [rB]; omega
    rw [hb]; clear hb h1
    go_enter Try.func21, Try.ntmps21
    go_wp2_with (go_at_call 63; refine (is_any _ _ _ _).mono ?_; rintro e w' ⟨rfl, rfl⟩)
    go_ret
    exact ⟨rfl, rfl⟩
theorem le_f {a b : Int} (h : ¬ a ≤ b) : decide (a ≤ b) = false := by simpa using h
theorem right_impl (l s : Int) (w : World) :
    Calls Try.prog 56 #[lab l s] w fun e w' => e = .returned (.bool (rB l s)) ∧ w.alloc (labO l s) = w' := by
  unfold lab
  by_cases h1 : 0 ≤ l
  · by_cases h2 : l ≤ 3
    · by_cases h3 : 0 ≤ s
      · by_cases h4 : s ≤ 7
        · have hb : rB l s = true := by rw [rB_iff]; exact ⟨h1, h2, h3, h4⟩
          rw [hb]; clear hb
          go_enter Try.func56, Try.ntmps56
          go_wp2
          go_ret
          exact ⟨rfl, rfl⟩
        · have hb : rB l s = false := by simp [rB]; omega
          rw [hb]; clear hb
          have g := le_f h4
          go_enter Try.func56, Try.ntmps56
          go_wp2
          go_ret
          exact ⟨rfl, rfl⟩
      · have hb : rB l s = false := by simp [rB]; omega
        rw [hb]; clear hb
        have g := le_f h3
        go_enter Try.func56, Try.ntmps56
        go_wp2
        go_ret
        exact ⟨rfl, rfl⟩
    · have hb : rB l s = false := by simp [rB]; omega
      rw [hb]; clear hb
      have g := le_f h2
      go_enter Try.func56, Try.ntmps56
      go_wp2
      go_ret
      exact ⟨rfl, rfl⟩
  · have hb : rB l s = false := by simp [rB]; omega
    rw [hb]; clear hb
    have g := le_f h1
    go_enter Try.func56, Try.ntmps56
    go_wp2
    go_ret
    exact ⟨rfl, rfl⟩
def minV (a b : Int) : Int := if a < b then a else b
def bB (l s m t : Int) : Bool := decide (l ≤ m) && (bits BinOp.and IntKind.i64 s t == s)
theorem below2_spec (l s m t : Int) (w : World) :
    Calls Try.prog 115 #[lab l s, lab m t] w fun e w' => e = .returned (.bool (bB l s m t)) ∧ (w.alloc (labO l s)).alloc (labO m t) = w' := by
  unfold lab
  by_cases h : l ≤ m
  · have hb : bB l s m t = (bits BinOp.and IntKind.i64 s t == s) := by simp [bB, h]
    rw [hb]; clear hb
    go_enter Try.func115, Try.ntmps115
    go_wp2
    go_ret
    exact ⟨rfl, rfl⟩
  · have hb : bB l s m t = false := by simp [bB, h]
    rw [hb]; clear hb
    have g := le_f h
    go_enter Try.func115, Try.ntmps115
    go_wp2
    go_ret
    exact ⟨rfl, rfl⟩
def meetV (l s m t : Int) : Value := if rB l s = true ∧ rB m t = true then lab (minV l m) (bits BinOp.and IntKind.i64 s t) else lab 0 0
theorem min_lt {a b : Int} (h : a < b) : a = minV a b := by unfold minV; split <;> omega
theorem min_ge {a b : Int} (h : b ≤ a) : b = minV a b := by unfold minV; split <;> omega
end Go.Proofs.Ytkghodbbgehcoaa.LabC
end
section
namespace Go.Proofs.Ytkghodbbgehcoaa.SpanC
open Go.RowKit KeptC
def ResB (P : Prop) (w : World) (e : Ending) (w' : World) : Prop := ∃ b : Bool, e = .returned (.bool b) ∧ (b = true ↔ P) ∧ Below w.heap.size w w'
theorem resB_yes {P : Prop} {w w' : World} (h : P) (hb : Below w.heap.size w w') : ResB P w (.returned (.bool true)) w' := ⟨true, rfl, by simp [h], hb⟩
theorem resB_no {P : Prop} {w w' : World} (h : ¬ P) (hb : Below w.heap.size w w') : ResB P w (.returned (.bool false)) w' := ⟨false, rfl, by simp [h], hb⟩
theorem resB_elim {P : Prop} {w : World} {e : Ending} {w' : World} (h : ResB P w e w') : ∃ b : Bool, e = .returned (.bool b) ∧ (b = true ↔ P) ∧ Below w.heap.size w w' := h
theorem all_step {P : Nat → Prop} {k : Nat} (h : ∀ j, j < k → P j) (hk : P k) : ∀ j, j < k + 1 → P j := fun j hj => by
  by_cases e : j = k
  · subst e; exact hk
  · exact h j (by omega)
end Go.Proofs.Ytkghodbbgehcoaa.SpanC
end
section
namespace Go.Proofs.Ytkghodbbgehcoaa.SpanC
open Go.RowKit KeptC
def isB (n lo hi : Int) : Bool := decide (lo ≤ n) && decide (n ≤ hi)
theorem isB_iff (n lo hi : Int) : isB n lo hi = true ↔ lo ≤ n ∧ n ≤ hi := by simp [isB]
theorem is_spec (n lo hi : Int) (w : World) :
    Calls Try.prog 63 #[.int .i64 n, .int .i64 lo, .int .i64 hi] w fun e w' => e = .returned (.bool (isB n lo hi)) ∧ w = w' := by
  by_cases h1 : lo ≤ n
  · by_cases h2 : n ≤ hi
    · have hb : isB n lo hi = true := by simp [isB, h1, h2]
      rw [hb]; clear hb
      go_enter Try.func63, Try.ntmps63
      go_wp2
      go_ret
      exact ⟨rfl, rfl⟩
    · have hb : isB n lo hi = false := by simp [isB, h1, h2]
      rw [hb]; clear hb
      have h2' : decide (n ≤ hi) = false := by simpa using h2
      go_enter Try.func63, Try.ntmps63
      go_wp2
      go_ret
      exact ⟨rfl, rfl⟩
  · have hb : isB n lo hi = false := by simp [isB, h1]
    rw [hb]; clear hb
    have h1' : decide (lo ≤ n) = false := by simpa using h1
    go_enter Try.func63, Try.ntmps63
    go_wp2
    go_ret
    exact ⟨rfl, rfl⟩
theorem is_impl (n lo hi : Int) (w : World) :
    Calls Try.prog 106 #[.int .i64 n, .int .i64 lo, .int .i64 hi] w fun e w' => e = .returned (.bool (isB n lo hi)) ∧ w = w' := by
  by_cases h1 : lo ≤ n
  · by_cases h2 : n ≤ hi
    · have hb : isB n lo hi = true := by simp [isB, h1, h2]
      rw [hb]; clear hb
      go_enter Try.func106, Try.ntmps106
      go_wp2
      go_ret
      exact ⟨rfl, rfl⟩
    · have hb : isB n lo hi = false := by simp [isB, h1, h2]
      rw [hb]; clear hb
      have h2' : decide (n ≤ hi) = false := by simpa using h2
      go_enter Try.func106, Try.ntmps106
      go_wp2
      go_ret
      exact ⟨rfl, rfl⟩
  · have hb : isB n lo hi = false := by simp [isB, h1]
    rw [hb]; clear hb
    have h1' : decide (lo ≤ n) = false := by simpa using h1
    go_enter Try.func106, Try.ntmps106
    go_wp2
    go_ret
    exact ⟨rfl, rfl⟩
theorem time_spec (n : Int) (w : World) :
    Calls Try.prog 72 #[.int .i64 n] w fun e w' => e = .returned (.bool (isB n 0 1000000)) ∧ w = w' := by
  go_enter Try.func72, Try.ntmps72
  go_wp2_with (go_at_call 63; refine (is_spec _ _ _ _).mono ?_; rintro e w' ⟨rfl, rfl⟩)
  go_ret
  exact ⟨rfl, rfl⟩
theorem time_impl (n : Int) (w : World) :
    Calls Try.prog 136 #[.int .i64 n] w fun e w' => e = .returned (.bool (isB n 0 1000000)) ∧ w = w' := by
  go_enter Try.func136, Try.ntmps136
  go_wp2_with (go_at_call 106; refine (is_impl _ _ _ _).mono ?_; rintro e w' ⟨rfl, rfl⟩)
  go_ret
  exact ⟨rfl, rfl⟩
end Go.Proofs.Ytkghodbbgehcoaa.SpanC
end
section
namespace Go.Proofs.Ytkghodbbgehcoaa.RepC
open Go.RowKit RowC ValC SpanC KeptC NameC
set_option linter.unusedVariables false
set_option linter.unusedSimpArgs false
def ltLb (a b : D_Label) : Prop := a.1 < b.1 ∨ (a.1 = b.1 ∧ a.2 < b.2)
theorem resB_is {P : Prop} {b : Bool} {w w' : World} {e : Ending} (hb : b = true ↔ P) (h : ResB P w e w') : IsB b w e w' := by
  obtain ⟨c, rfl, hc, hB⟩ := h
  obtain rfl : c = b := by
    cases c <;> cases b <;> first | rfl | exact absurd (hc.2 (hb.1 rfl)) (by decide) | exact absurd (hb.2 (hc.1 rfl)) (by decide)
  exact ⟨rfl, hB⟩
end Go.Proofs.Ytkghodbbgehcoaa.RepC
end
section
namespace Go.Proofs.Ytkghodbbgehcoaa.LabC
open Go.RowKit
theorem meet_yes {l s m t : Int} (h1 : rB l s = true) (h2 : rB m t = true) : meetV l s m t = lab (minV l m) (bits BinOp.and IntKind.i64 s t) := by unfold meetV; rw [if_pos ⟨h1, h2⟩]
theorem meet_no1 {l s m t : Int} (h1 : rB l s = false) : meetV l s m t = .agg #[.int .i64 0, .int .i64 0] := by unfold meetV; rw [if_neg (by simp [h1])]; rfl
theorem meet_no2 {l s m t : Int} (h1 : rB m t = false) : meetV l s m t = .agg #[.int .i64 0, .int .i64 0] := by unfold meetV; rw [if_neg (by simp [h1])]; rfl
set_option maxRecDepth 100000 in
set_option maxHeartbeats 1600000 in
theorem meet_impl (l s m t : Int) (w : World) :
    Calls Try.prog 135 #[lab l s, lab m t] w fun e w' => e = .returned (meetV l s m t) ∧ Below w.heap.size w w' := by
  by_cases h1 : rB l s = true
  · by_cases h2 : rB m t = true
    · rw [meet_yes h1 h2]
      unfold lab
      go_enter Try.func135, Try.ntmps135
      go_wp2_with (go_at_call 56; refine (right_impl _ _ _).mono ?_; unfold labO; rintro e w1 ⟨rfl, rfl⟩)
      all_goals
        refine bodyPost_ret (v := .agg #[.int .i64 (minV l m), .int .i64 (bits BinOp.and IntKind.i64 s t)]) (by simp [results, Try.results135, go_sem]; first | exact min_lt ‹_› | exact min_ge ‹_› | (unfold minV; split <;> omega)) rfl ⟨rfl, ?_⟩
        repeat (first | exact Below.refl _ _ | refine Below.setCell ?_ (by simp <;> omega) _ | refine Below.drew ?_ | refine Below.alloc ?_ (by simp <;> omega) _)
    · have h2' : rB m t = false := by simpa using h2
      rw [meet_no2 h2']
      clear h2
      unfold lab
      go_enter Try.func135, Try.ntmps135
      go_wp2_with (go_at_call 56; refine (right_impl _ _ _).mono ?_; unfold labO; rintro e w1 ⟨rfl, rfl⟩)
      refine bodyPost_ret (v := .agg #[.int .i64 0, .int .i64 0]) (by simp [results, Try.results135, go_sem]) rfl ⟨rfl, ?_⟩
      repeat (first | exact Below.refl _ _ | refine Below.setCell ?_ (by simp <;> omega) _ | refine Below.drew ?_ | refine Below.alloc ?_ (by simp <;> omega) _)
  · have h1' : rB l s = false := by simpa using h1
    rw [meet_no1 h1']
    clear h1
    unfold lab
    go_enter Try.func135, Try.ntmps135
    go_wp2_with (go_at_call 56; refine (right_impl _ _ _).mono ?_; unfold labO; rintro e w1 ⟨rfl, rfl⟩)
    refine bodyPost_ret (v := .agg #[.int .i64 0, .int .i64 0]) (by simp [results, Try.results135, go_sem]) rfl ⟨rfl, ?_⟩
    repeat (first | exact Below.refl _ _ | refine Below.setCell ?_ (by simp <;> omega) _ | refine Below.drew ?_ | refine Below.alloc ?_ (by simp <;> omega) _)
end Go.Proofs.Ytkghodbbgehcoaa.LabC
end
section
namespace Go.Proofs.Ytkghodbbgehcoaa.LabC
open Go.RowKit KeptC
theorem inits (w : World) (l s m t : Int) (k k' : TypeId) : KS w (w.heap.size + 2) [(w.heap.size, 0, .int .i64 l), (w.heap.size, 1, .int .i64 s), (w.heap.size + 1, 0, .int .i64 m), (w.heap.size + 1, 1, .int .i64 t)] ((w.alloc (.cells #[.int .i64 l, .int .i64 s] k)).alloc (.cells #[.int .i64 m, .int .i64 t] k')) :=
  ⟨by simp, by simp, by simp, ((Below.refl _ _).alloc (Nat.le_refl _) _).alloc (by simp) _, by simp⟩
theorem ri_w (l s : Int) (w : World) : Calls Try.prog 56 #[.agg #[.int .i64 l, .int .i64 s]] w fun e w' => e = .returned (.bool (rB l s)) ∧ Below w.heap.size w w' :=
  (right_impl l s w).mono fun e w' ⟨he, hw⟩ => ⟨he, by rw [← hw]; exact (Below.refl _ _).alloc (Nat.le_refl _) _⟩
def belowB (l s m t : Int) : Bool := rB l s && (rB m t && bB l s m t)
theorem below_yes {l s m t : Int} (h1 : rB l s = true) (h2 : rB m t = true) : belowB l s m t = bB l s m t := by simp [belowB, h1, h2]
theorem below_no1 {l s m t : Int} (h1 : rB l s = false) : belowB l s m t = false := by simp [belowB, h1]
theorem below_no2 {l s m t : Int} (h1 : rB m t = false) : belowB l s m t = false := by simp [belowB, h1]
theorem below_spec (l s m t : Int) (w : World) :
    Calls Try.prog 71 #[lab l s, lab m t] w fun e w' => e = .returned (.bool (belowB l s m t)) ∧ Below w.heap.size w w' := by
  by_cases h1 : rB l s = true
  · by_cases h2 : rB m t = true
    · rw [below_yes h1 h2]
      unfold lab
      go_enter Try.func71, Try.ntmps71
      go_wp2_with (first | (go_at_call 21; refine (right_spec _ _ _).mono ?_; unfold labO; rintro e w1 ⟨rfl, rfl⟩) | (go_at_call 115; refine (below2_spec _ _ _ _ _).mono ?_; unfold labO; rintro e w1 ⟨rfl, rfl⟩))
      go_ret
      refine ⟨rfl, ?_⟩
      repeat (first | exact Below.refl _ _ | refine Below.setCell ?_ (by simp <;> omega) _ | refine Below.drew ?_ | refine Below.alloc ?_ (by simp <;> omega) _)
    · have h2' : rB m t = false := by simpa using h2
      rw [below_no2 h2']
      clear h2
      unfold lab
      go_enter Try.func71, Try.ntmps71
      go_wp2_with (first | (go_at_call 21; refine (right_spec _ _ _).mono ?_; unfold labO; rintro e w1 ⟨rfl, rfl⟩) | (go_at_call 115; refine (below2_spec _ _ _ _ _).mono ?_; unfold labO; rintro e w1 ⟨rfl, rfl⟩))
      go_ret
      refine ⟨rfl, ?_⟩
      repeat (first | exact Below.refl _ _ | refine Below.setCell ?_ (by simp <;> omega) _ | refine Below.drew ?_ | refine Below.alloc ?_ (by simp <;> omega) _)
  · have h1' : rB l s = false := by simpa using h1
    rw [below_no1 h1']
    clear h1
    unfold lab
    go_enter Try.func71, Try.ntmps71
    go_wp2_with (first | (go_at_call 21; refine (right_spec _ _ _).mono ?_; unfold labO; rintro e w1 ⟨rfl, rfl⟩) | (go_at_call 115; refine (below2_spec _ _ _ _ _).mono ?_; unfold labO; rintro e w1 ⟨rfl, rfl⟩))
    go_ret
    refine ⟨rfl, ?_⟩
    repeat (first | exact Below.refl _ _ | refine Below.setCell ?_ (by simp <;> omega) _ | refine Below.drew ?_ | refine Below.alloc ?_ (by simp <;> omega) _)
theorem eq_below (l s m t : Int) : bB l s m t = ((minV l m == l) && (bits BinOp.and IntKind.i64 s t == s)) := by
  have h : decide (l ≤ m) = (minV l m == l) := by
    rw [Bool.eq_iff_iff]; simp [minV]; omega
  unfold bB
  rw [h]
theorem two_ways (a b : Bool) : a = false ∧ (a && b) = false ∨ (a = true ∧ b = false) ∧ (a && b) = false ∨ (a = true ∧ b = true) ∧ (a && b) = true := by cases a <;> cases b <;> simp
set_option maxRecDepth 100000 in
set_option maxHeartbeats 1600000 in
theorem below_impl (l s m t : Int) (w : World) :
    Calls Try.prog 116 #[lab l s, lab m t] w fun e w' => e = .returned (.bool (belowB l s m t)) ∧ Below w.heap.size w w' := by
  by_cases h1 : rB l s = true
  · by_cases h2 : rB m t = true
    · rw [below_yes h1 h2, eq_below]
      have HM : ∀ w, Calls Try.prog 135 #[lab l s, lab m t] w fun e w' => e = .returned (lab (minV l m) (bits BinOp.and IntKind.i64 s t)) ∧ Below w.heap.size w w' := by
        intro w
        have := meet_impl l s m t w
        rw [meet_yes h1 h2] at this
        exact this
      generalize minV l m = p at *
      generalize bits BinOp.and IntKind.i64 s t = q at *
      unfold lab at *
      rcases two_ways (p == l) (q == s) with ⟨g1, g⟩ | ⟨⟨g1, g2⟩, g⟩ | ⟨⟨g1, g2⟩, g⟩
      all_goals
        rw [g]
        clear g
        go_enter Try.func116, Try.ntmps116
        go_wp2_with fail
        go_region_held3 (fun W => W.cell? ⟨w.heap.size, 0, none⟩ = some (.int .i64 l) ∧ W.cell? ⟨w.heap.size, 1, none⟩ = some (.int .i64 s) ∧ W.cell? ⟨w.heap.size + 1, 0, none⟩ = some (.int .i64 m) ∧ W.cell? ⟨w.heap.size + 1, 1, none⟩ = some (.int .i64 t) ∧ KS w (w.heap.size + 2) ([(w.heap.size, 0, .int .i64 l), (w.heap.size, 1, .int .i64 s), (w.heap.size + 1, 0, .int .i64 m), (w.heap.size + 1, 1, .int .i64 t)]) W)
          (exact ((fun (h : KS w (w.heap.size + 2) ([(w.heap.size, 0, .int .i64 l), (w.heap.size, 1, .int .i64 s), (w.heap.size + 1, 0, .int .i64 m), (w.heap.size + 1, 1, .int .i64 t)]) _) => ⟨h.at (by simp), h.at (by simp), h.at (by simp), h.at (by simp), h⟩) (by (repeat (first | assumption | exact inits w l s m t _ _ | refine KS.drew ?_ | refine KS.alloc ?_ _ | refine KS.set ?_ (by first | omega | (simp <;> omega)) _)))))
          (first | (go_at_call 56; refine (ri_w _ _ _).mono ?_; rintro e w1 ⟨rfl, hb⟩; have hL := KS.call (w := w) (base := w.heap.size + 2) (L := [(w.heap.size, 0, .int .i64 l), (w.heap.size, 1, .int .i64 s), (w.heap.size + 1, 0, .int .i64 m), (w.heap.size + 1, 1, .int .i64 t)]) (by (repeat (first | assumption | exact inits w l s m t _ _ | refine KS.drew ?_ | refine KS.alloc ?_ _ | refine KS.set ?_ (by first | omega | (simp <;> omega)) _))) hb; have hz := hL.size; have hs := hb.size; (try simp at hs); (try have hqC := join hqC hb); (try have hqC := join_alloc hqC hb); (try have hqC := join_drew hqC hb); (try have hqB := join hqB hb); (try have hqB := join_alloc hqB hb); (try have hqB := join_drew hqB hb); (try have hqA := join hqA hb); (try have hqA := join_alloc hqA hb); (try have hqA := join_drew hqA hb); (first | (have hqD' := hqC; have hqD := hb) | (have hqB' := hqB; have hqC := hb) | (have hqA' := hqA; have hqB := hb) | have hqA := hb); (try (have hrA := rules hqA; obtain ⟨hrA1, hrA2, hrA3, hrA4⟩ := hrA)); (try (have hrB := rules hqB; obtain ⟨hrB1, hrB2, hrB3, hrB4⟩ := hrB)); (try (have hrC := rules hqC; obtain ⟨hrC1, hrC2, hrC3, hrC4⟩ := hrC)); (try (have hrD := rules hqD; obtain ⟨hrD1, hrD2, hrD3, hrD4⟩ := hrD))) | (go_at_call 135; refine (HM _).mono ?_; rintro e w1 ⟨rfl, hb⟩; have hL := KS.call (w := w) (base := w.heap.size + 2) (L := [(w.heap.size, 0, .int .i64 l), (w.heap.size, 1, .int .i64 s), (w.heap.size + 1, 0, .int .i64 m), (w.heap.size + 1, 1, .int .i64 t)]) (by (repeat (first | assumption | exact inits w l s m t _ _ | refine KS.drew ?_ | refine KS.alloc ?_ _ | refine KS.set ?_ (by first | omega | (simp <;> omega)) _))) hb; have hz := hL.size; have hs := hb.size; (try simp at hs); (try have hqC := join hqC hb); (try have hqC := join_alloc hqC hb); (try have hqC := join_drew hqC hb); (try have hqB := join hqB hb); (try have hqB := join_alloc hqB hb); (try have hqB := join_drew hqB hb); (try have hqA := join hqA hb); (try have hqA := join_alloc hqA hb); (try have hqA := join_drew hqA hb); (first | (have hqD' := hqC; have hqD := hb) | (have hqB' := hqB; have hqC := hb) | (have hqA' := hqA; have hqB := hb) | have hqA := hb); (try (have hrA := rules hqA; obtain ⟨hrA1, hrA2, hrA3, hrA4⟩ := hrA)); (try (have hrB := rules hqB; obtain ⟨hrB1, hrB2, hrB3, hrB4⟩ := hrB)); (try (have hrC := rules hqC; obtain ⟨hrC1, hrC2, hrC3, hrC4⟩ := hrC)); (try (have hrD := rules hqD; obtain ⟨hrD1, hrD2, hrD3, hrD4⟩ := hrD))))
        go_wp2_with fail
        go_ret
        exact ⟨rfl, KS.below (base := w.heap.size + 2) (L := [(w.heap.size, 0, .int .i64 l), (w.heap.size, 1, .int .i64 s), (w.heap.size + 1, 0, .int .i64 m), (w.heap.size + 1, 1, .int .i64 t)]) (by (repeat (first | assumption | exact inits w l s m t _ _ | refine KS.drew ?_ | refine KS.alloc ?_ _ | refine KS.set ?_ (by first | omega | (simp <;> omega)) _)))⟩
    · have h2' : rB m t = false := by simpa using h2
      rw [below_no2 h2']
      clear h2
      unfold lab
      go_enter Try.func116, Try.ntmps116
      go_wp2_with fail
      go_region_with (first | (go_at_call 56; refine (right_impl _ _ _).mono ?_; unfold labO; rintro e w1 ⟨rfl, rfl⟩))
      all_goals go_wp2
      all_goals go_ret
      all_goals refine ⟨rfl, ?_⟩
      all_goals repeat (first | exact Below.refl _ _ | refine Below.setCell ?_ (by simp <;> omega) _ | refine Below.drew ?_ | refine Below.alloc ?_ (by simp <;> omega) _)
  · have h1' : rB l s = false := by simpa using h1
    rw [below_no1 h1']
    clear h1
    unfold lab
    go_enter Try.func116, Try.ntmps116
    go_wp2_with fail
    go_region_with (first | (go_at_call 56; refine (right_impl _ _ _).mono ?_; unfold labO; rintro e w1 ⟨rfl, rfl⟩))
    all_goals go_wp2
    all_goals go_ret
    all_goals refine ⟨rfl, ?_⟩
    all_goals repeat (first | exact Below.refl _ _ | refine Below.setCell ?_ (by simp <;> omega) _ | refine Below.drew ?_ | refine Below.alloc ?_ (by simp <;> omega) _)
end Go.Proofs.Ytkghodbbgehcoaa.LabC
end
section
namespace Go.Proofs.Ytkghodbbgehcoaa.RepC
open Go.RowKit RowC ValC
theorem eql_lab (y0 y1 x0 x1 : Int) (b : Bool) (hb : decide (((y0, y1) : Int × Int) = (x0, x1)) = b) : ∀ w, (binOp .eql 25 (.agg #[.int .i64 y0, .int .i64 y1]) (.agg #[.int .i64 x0, .int .i64 x1])).run Try.prog w = .ok (.bool b) w := by
  intro w
  subst hb
  go_simp
  repeat' split
  all_goals simp_all
theorem neq_lab (y0 y1 x0 x1 : Int) (b : Bool) (hb : decide (((y0, y1) : Int × Int) = (x0, x1)) = b) : ∀ w, (binOp .neq 25 (.agg #[.int .i64 y0, .int .i64 y1]) (.agg #[.int .i64 x0, .int .i64 x1])).run Try.prog w = .ok (.bool (!b)) w := by
  intro w
  subst hb
  go_simp
  repeat' split
  all_goals simp_all
end Go.Proofs.Ytkghodbbgehcoaa.RepC
end
section
namespace Go.Proofs.Ytkghodbbgehcoaa.RepC
open Go.RowKit RowC ValC SpanC KeptC NameC
set_option linter.unusedVariables false
set_option linter.unusedSimpArgs false
open Classical in
noncomputable def nameB (s : ByteArray) : Bool := decide (NameP s)
open Classical in
theorem nameB_iff {s : ByteArray} : nameB s = true ↔ NameP s := by unfold nameB; simp
theorem rB_bd {l s : Int} (h : LabC.rB l s = true) : 0 ≤ l ∧ l ≤ 3 ∧ 0 ≤ s ∧ s ≤ 7 := by simpa [LabC.rB_iff, LabC.rP] using h
end Go.Proofs.Ytkghodbbgehcoaa.RepC
end
section
namespace Go.Proofs.Ytkghodbbgehcoaa.SpanC
open Go.RowKit KeptC
structure Fill (w : World) (n : Nat) (f : Nat → Int × Int) (k : Nat) (W : World) : Prop where
  cells : ∀ j, j < n → ∃ u v, W.cell? ⟨w.heap.size, j * 2, none⟩ = some u ∧ W.cell? ⟨w.heap.size, j * 2 + 1, none⟩ = some v ∧ (j < k → u = .int .i64 (f j).1 ∧ v = .int .i64 (f j).2)
  soft : ∀ j, W.frozen? ⟨w.heap.size, j, none⟩ = false
  below : Below w.heap.size w W
  lt : w.heap.size < W.heap.size
theorem Fill.call {w W W1 : World} {n k : Nat} {f : Nat → Int × Int} (h : Fill w n f k W) (hb : Below W.heap.size W W1) : Fill w n f k W1 := by
  refine ⟨fun j hj => ?_, fun j => (hb.frozen (p := ⟨w.heap.size, j, none⟩) h.lt).trans (h.soft j), h.below.trans (hb.mono (Nat.le_of_lt h.lt)), Nat.lt_of_lt_of_le h.lt hb.size⟩
  obtain ⟨u, v, hu, hv, hk⟩ := h.cells j hj
  exact ⟨u, v, (hb.cell (p := ⟨w.heap.size, j * 2, none⟩) h.lt).trans hu, (hb.cell (p := ⟨w.heap.size, j * 2 + 1, none⟩) h.lt).trans hv, hk⟩
theorem Fill.put {w W : World} {n k : Nat} {f : Nat → Int × Int} (h : Fill w n f k W) (hk : k < n) :
    Fill w n f (k + 1) ((W.setCell ⟨w.heap.size, k * 2, none⟩ (.int .i64 (f k).1)).setCell ⟨w.heap.size, k * 2 + 1, none⟩ (.int .i64 (f k).2)) := by
  have ne : ∀ a b : Nat, a ≠ b → (⟨w.heap.size, a, none⟩ : Addr) ≠ ⟨w.heap.size, b, none⟩ := fun a b hab e => hab (by injection e)
  obtain ⟨u0, v0, hu0, hv0, _⟩ := h.cells k hk
  refine ⟨fun j hj => ?_, fun j => by simpa using h.soft j, (h.below.setCell (Nat.le_refl _) _).setCell (Nat.le_refl _) _, by simpa using h.lt⟩
  by_cases e : j = k
  · subst e
    refine ⟨.int .i64 (f j).1, .int .i64 (f j).2, ?_, ?_, fun _ => ⟨rfl, rfl⟩⟩
    · rw [World.cell?_setCell_other _ _ _ _ (ne _ _ (by omega)), World.cell?_setCell_same' _ _ _ (by rw [hu0]; rfl)]
    · rw [World.cell?_setCell_same' _ _ _ (by rw [World.cell?_setCell_other _ _ _ _ (ne _ _ (by omega)), hv0]; rfl)]
  · obtain ⟨u, v, hu, hv, hlt⟩ := h.cells j hj
    refine ⟨u, v, ?_, ?_, fun hj' => hlt (by omega)⟩
    · rw [World.cell?_setCell_other _ _ _ _ (ne _ _ (by omega)), World.cell?_setCell_other _ _ _ _ (ne _ _ (by omega))]; exact hu
    · rw [World.cell?_setCell_other _ _ _ _ (ne _ _ (by omega)), World.cell?_setCell_other _ _ _ _ (ne _ _ (by omega))]; exact hv
def PRow (w : World) (b o n : Nat) (f : Nat → Int × Int) : Prop := ∀ i, i < n → w.cell? ⟨b, o + i * 2, none⟩ = some (.int .i64 (f i).1) ∧ w.cell? ⟨b, o + i * 2 + 1, none⟩ = some (.int .i64 (f i).2)
theorem PRow.below {w W : World} {b o n B : Nat} {f : Nat → Int × Int} (h : PRow w b o n f) (hb : Below B w W) (hB : b < B) : PRow W b o n f := fun i hi =>
  ⟨(hb.cell (p := ⟨b, o + i * 2, none⟩) hB).trans (h i hi).1, (hb.cell (p := ⟨b, o + i * 2 + 1, none⟩) hB).trans (h i hi).2⟩
theorem Fill.row {w W : World} {n : Nat} {f : Nat → Int × Int} (h : Fill w n f n W) : PRow W w.heap.size 0 n f := fun i hi => by
  obtain ⟨u, v, hu, hv, he⟩ := h.cells i hi
  obtain ⟨rfl, rfl⟩ := he hi
  exact ⟨by simpa using hu, by simpa using hv⟩
end Go.Proofs.Ytkghodbbgehcoaa.SpanC
end
section
namespace Go.Proofs.Ytkghodbbgehcoaa.RepC
open Go.RowKit RowC ValC SpanC KeptC
set_option linter.unusedVariables false
set_option linter.unusedSimpArgs false
def okN (L : List Int) (i : Nat) : Prop := ∀ x, L[i]? = some x → isB x 0 5 = true ∧ (0 < i → ∀ y, L[i - 1]? = some y → y < x)
def NodesR (L : List Int) : Prop := ∀ i, i < L.length → okN L i
theorem is_below (n lo hi : Int) {b : Bool} (hb : isB n lo hi = b) (w : World) :
    Calls Try.prog 63 #[.int .i64 n, .int .i64 lo, .int .i64 hi] w fun e w' => e = .returned (.bool b) ∧ Below w.heap.size w w' := by
  subst hb
  exact (is_spec n lo hi w).mono fun _ _ ⟨h1, h2⟩ => ⟨h1, h2 ▸ Below.refl _ _⟩
set_option maxRecDepth 100000 in
set_option maxHeartbeats 3200000 in
theorem nodes_spec {L : List Int} {a : Option Addr} {cap : Nat} {W : World} (h : RdSl I W W.heap.size L a cap) :
    Calls Try.prog 73 #[.slice a L.length cap] W (ResB (NodesR L) W) := by
  have hn : L.length ≤ 9223372036854775807 := by have h1 := h.1; have h2 := h.2.1; unfold maxLen at h2; omega
  have H := Lib.hid h
  clear h
  go_enter Try.func73, Try.ntmps73
  go_wp2
  go_loopw [3] (fun i wr => ∃ k : Nat, k ≤ L.length ∧ i = .int .i64 k ∧ (∀ j, j < k → okN L j) ∧ Below W.heap.size W wr) (fun i _ => L.length - (intOf i).toNat)
  case atStart => exact ⟨0, Nat.zero_le _, rfl, fun j h => absurd h (Nat.not_lt_zero _), Below.refl _ _⟩
  case round =>
    obtain ⟨k, hk, rfl, hall, hB⟩ := hrel
    have HA := Lib.hid hall
    have HB := Lib.hid hB
    have hsz := hB.size
    clear hall
    by_cases hlt : k < L.length
    · obtain ⟨x, hx⟩ := el_some hlt
      have HX := Lib.hid hx
      obtain ⟨g, o, us, rfl, hg, hu, hr⟩ := (H.out.below I_ok hB).at_ hx
      obtain rfl : us = [_] := hr
      have hc0 : wr.cell? ⟨g, o + k, none⟩ = some (.int .i64 x) := by simpa [show I.size = 1 from rfl] using hu 0 _ rfl
      have hgl : g < wr.heap.size := Nat.lt_of_lt_of_le hg hsz
      have hi0 : (0 : Int) ≤ (k : Int) := Int.natCast_nonneg _
      have hi1 : (k : Int) < (L.length : Int) := by omega
      clear hB hx hu
      cases hr : isB x 0 5 with
      | false =>
        have Hno := Lib.hid (show ¬ NodesR L from fun h => by have := (h k hlt x HX.out).1; rw [hr] at this; cases this)
        have hrs := fun W => is_below x 0 5 hr W
        clear hr
        go_wp2_with fail
        refine wp_region_held_drew (S := (fun V => V.cell? ⟨g, o + k, none⟩ = some (.int .i64 x) ∧ wr.heap.size ≤ V.heap.size ∧ Below (W.heap.size) (W) V)) (by kernel_rfl) (⟨hc0, Nat.le_refl _, HB.out.drew⟩) (fun hHeld => ?_)
        refine tk 0 hHeld ?_
        refine tk 1 hHeld ?_
        refine tk 2 hHeld ?_
        refine tk 3 hHeld ?_
        refine rd1 4 (fun K hK => ?_)
        go_simp
        go_at_call 63; refine (hrs _).mono ?_; rintro e w1 ⟨rfl, hb⟩
        refine hK.out _ _ (⟨(hb.cell (p := ⟨g, o + k, none⟩) (Nat.lt_of_lt_of_le hgl hHeld.2.1)).trans hHeld.1, Nat.le_trans hHeld.2.1 hb.size, hHeld.2.2.trans (hb.mono (Nat.le_trans hsz hHeld.2.1))⟩) (fun hHeld => ?_)
        clear hK K
        refine tk 5 hHeld ?_
        refine tk 6 hHeld ?_
        refine tn 7 hHeld ?_
        refine tn 8 hHeld ?_
        refine tn 9 hHeld ?_
        refine tn 10 hHeld ?_
        refine tn 11 hHeld ?_
        refine tn 12 hHeld ?_
        refine tn 13 hHeld ?_
        refine tn 14 hHeld ?_
        refine tn 15 hHeld ?_
        refine tn 16 hHeld ?_
        refine tn 17 hHeld ?_
        refine tn 18 hHeld ?_
        refine tn 19 hHeld ?_
        refine tn 20 hHeld ?_
        refine tk 21 hHeld ?_
        refine rd0 ?_
        have HF := Lib.hid hHeld.2.2
        clear hHeld
        go_wp2
        go_ret
        exact resB_no Hno.out HF.out
      | true =>
        have hrs := fun W => is_below x 0 5 hr W
        have Hr := Lib.hid hr
        clear hr
        rcases Nat.eq_zero_or_pos k with hk0 | hk0
        · subst hk0
          have hc0' : wr.cell? ⟨g, o, none⟩ = some (.int .i64 x) := hc0
          clear hc0
          have HOK := Lib.hid (all_step HA.out (show okN L 0 from fun y hy => by have := HX.out; rw [hy] at this; obtain rfl := Option.some.inj this; exact ⟨Hr.out, fun h => absurd h (Nat.lt_irrefl _)⟩))
          go_wp2_with fail
          refine wp_region_held_drew (S := (fun V => V.cell? ⟨g, o, none⟩ = some (.int .i64 x) ∧ wr.heap.size ≤ V.heap.size ∧ Below (W.heap.size) (W) V)) (by kernel_rfl) (⟨hc0', Nat.le_refl _, HB.out.drew⟩) (fun hHeld => ?_)
          refine tk 0 hHeld ?_
          refine tk 1 hHeld ?_
          refine tk 2 hHeld ?_
          refine tk 3 hHeld ?_
          refine rd1 4 (fun K hK => ?_)
          go_simp
          go_at_call 63; refine (hrs _).mono ?_; rintro e w1 ⟨rfl, hb⟩
          refine hK.out _ _ (⟨(hb.cell (p := ⟨g, o, none⟩) (Nat.lt_of_lt_of_le hgl hHeld.2.1)).trans hHeld.1, Nat.le_trans hHeld.2.1 hb.size, hHeld.2.2.trans (hb.mono (Nat.le_trans hsz hHeld.2.1))⟩) (fun hHeld => ?_)
          clear hK K
          refine tk 5 hHeld ?_
          refine tk 6 hHeld ?_
          refine tk 7 hHeld ?_
          refine tk 8 hHeld ?_
          refine tk 9 hHeld ?_
          refine tn 10 hHeld ?_
          refine tn 11 hHeld ?_
          refine tn 12 hHeld ?_
          refine tn 13 hHeld ?_
          refine tn 14 hHeld ?_
          refine tn 15 hHeld ?_
          refine tn 16 hHeld ?_
          refine tn 17 hHeld ?_
          refine tn 18 hHeld ?_
          refine tn 19 hHeld ?_
          refine tk 20 hHeld ?_
          refine tk 21 hHeld ?_
          refine rd0 ?_
          have HF := Lib.hid hHeld.2.2
          clear hHeld
          go_wp2
          go_roundw
          case rel => exact ⟨1, by omega, by go_num, HOK.out, HF.out⟩
          case measure => simp [intOf]; omega
        · obtain ⟨j, rfl⟩ : ∃ j, k = j + 1 := ⟨k - 1, by omega⟩
          obtain ⟨y, hy⟩ := el_some (L := L) (k := j) (by omega)
          have HY := Lib.hid hy
          obtain ⟨g2, o2, us, he, hg2, hu, hr⟩ := (H.out.below I_ok HB.out).at_ hy
          cases he
          obtain rfl : us = [_] := hr
          have hd0 : wr.cell? ⟨g, o + j, none⟩ = some (.int .i64 y) := by simpa [show I.size = 1 from rfl] using hu 0 _ rfl
          have hj0 : (0 : Int) ≤ (j : Int) := Int.natCast_nonneg _
          have hj1 : (j : Int) < (L.length : Int) := by omega
          have hjw2 : IntKind.i64.wrap (j : Int) = (j : Int) := IntWalk.i64_in _ (by omega)
          have hi0p : (0 : Int) ≤ (j : Int) + 1 := by omega
          have hi1p : (j : Int) + 1 < (L.length : Int) := by omega
          have hjw : IntKind.i64.wrap ((j : Int) + 1 - 1) = (j : Int) := (by rw [show (j : Int) + 1 - 1 = (j : Int) by omega]; exact IntWalk.i64_in _ (by omega))
          have hjp : decide ((0 : Int) < (j : Int) + 1) = true := decide_eq_true (by omega)
          clear hy hu hg2
          by_cases hlo : x ≤ y
          · have Hno := Lib.hid (show ¬ NodesR L from fun h => by have h2 := (h (j + 1) hlt x HX.out).2 (Nat.succ_pos _) y HY.out; omega)
            have hlo' : decide (x ≤ y) = true := decide_eq_true hlo
            go_wp2_with fail
            refine wp_region_held_drew (S := (fun V => V.cell? ⟨g, o + j, none⟩ = some (.int .i64 y) ∧ V.cell? ⟨g, o + (j + 1), none⟩ = some (.int .i64 x) ∧ wr.heap.size ≤ V.heap.size ∧ Below (W.heap.size) (W) V)) (by kernel_rfl) (⟨hd0, hc0, Nat.le_refl _, HB.out.drew⟩) (fun hHeld => ?_)
            refine tk 0 hHeld ?_
            refine tk 1 hHeld ?_
            refine tk 2 hHeld ?_
            refine tk 3 hHeld ?_
            refine rd1 4 (fun K hK => ?_)
            go_simp
            go_at_call 63; refine (hrs _).mono ?_; rintro e w1 ⟨rfl, hb⟩
            refine hK.out _ _ (⟨(hb.cell (p := ⟨g, o + j, none⟩) (Nat.lt_of_lt_of_le hgl hHeld.2.2.1)).trans hHeld.1, (hb.cell (p := ⟨g, o + (j + 1), none⟩) (Nat.lt_of_lt_of_le hgl hHeld.2.2.1)).trans hHeld.2.1, Nat.le_trans hHeld.2.2.1 hb.size, hHeld.2.2.2.trans (hb.mono (Nat.le_trans hsz hHeld.2.2.1))⟩) (fun hHeld => ?_)
            clear hK K
            refine tk 5 hHeld ?_
            refine tk 6 hHeld ?_
            refine tk 7 hHeld ?_
            refine tk 8 hHeld ?_
            refine tk 9 hHeld ?_
            refine tk 10 hHeld ?_
            refine tk 11 hHeld ?_
            refine tk 12 hHeld ?_
            refine tk 13 hHeld ?_
            refine tk 14 hHeld ?_
            refine tk 15 hHeld ?_
            refine tk 16 hHeld ?_
            refine tk 17 hHeld ?_
            refine tk 18 hHeld ?_
            refine tk 19 hHeld ?_
            refine tk 20 hHeld ?_
            refine tk 21 hHeld ?_
            refine rd0 ?_
            have HF := Lib.hid hHeld.2.2.2
            clear hHeld
            go_wp2
            go_ret
            exact resB_no Hno.out HF.out
          · have HOK := Lib.hid (all_step HA.out (show okN L (j + 1) from fun z hz => by
              have := HX.out; rw [hz] at this; obtain rfl := Option.some.inj this
              exact ⟨Hr.out, fun _ u hu => by have h3 := HY.out; rw [Nat.add_sub_cancel] at hu; rw [hu] at h3; obtain rfl := Option.some.inj h3; omega⟩))
            have hlo' : decide (x ≤ y) = false := decide_eq_false hlo
            go_wp2_with fail
            refine wp_region_held_drew (S := (fun V => V.cell? ⟨g, o + j, none⟩ = some (.int .i64 y) ∧ V.cell? ⟨g, o + (j + 1), none⟩ = some (.int .i64 x) ∧ wr.heap.size ≤ V.heap.size ∧ Below (W.heap.size) (W) V)) (by kernel_rfl) (⟨hd0, hc0, Nat.le_refl _, HB.out.drew⟩) (fun hHeld => ?_)
            refine tk 0 hHeld ?_
            refine tk 1 hHeld ?_
            refine tk 2 hHeld ?_
            refine tk 3 hHeld ?_
            refine rd1 4 (fun K hK => ?_)
            go_simp
            go_at_call 63; refine (hrs _).mono ?_; rintro e w1 ⟨rfl, hb⟩
            refine hK.out _ _ (⟨(hb.cell (p := ⟨g, o + j, none⟩) (Nat.lt_of_lt_of_le hgl hHeld.2.2.1)).trans hHeld.1, (hb.cell (p := ⟨g, o + (j + 1), none⟩) (Nat.lt_of_lt_of_le hgl hHeld.2.2.1)).trans hHeld.2.1, Nat.le_trans hHeld.2.2.1 hb.size, hHeld.2.2.2.trans (hb.mono (Nat.le_trans hsz hHeld.2.2.1))⟩) (fun hHeld => ?_)
            clear hK K
            refine tk 5 hHeld ?_
            refine tk 6 hHeld ?_
            refine tk 7 hHeld ?_
            refine tk 8 hHeld ?_
            refine tk 9 hHeld ?_
            refine tk 10 hHeld ?_
            refine tk 11 hHeld ?_
            refine tk 12 hHeld ?_
            refine tk 13 hHeld ?_
            refine tk 14 hHeld ?_
            refine tk 15 hHeld ?_
            refine tk 16 hHeld ?_
            refine tk 17 hHeld ?_
            refine tk 18 hHeld ?_
            refine tk 19 hHeld ?_
            refine tk 20 hHeld ?_
            refine tk 21 hHeld ?_
            refine rd0 ?_
            have HF := Lib.hid hHeld.2.2.2
            clear hHeld
            go_wp2
            go_roundw
            case rel => exact ⟨j + 2, by omega, by go_num, HOK.out, HF.out⟩
            case measure => simp [intOf]; omega
    · have Hy := Lib.hid (show NodesR L from fun i hi => HA.out i (by omega))
      clear hB
      go_wp2
      go_ret
      exact resB_yes Hy.out HB.out
end Go.Proofs.Ytkghodbbgehcoaa.RepC
end
section
namespace Go.Proofs.Ytkghodbbgehcoaa.RepC
open Go.RowKit RowC ValC SpanC KeptC NameC
set_option linter.unusedVariables false
set_option linter.unusedSimpArgs false
def PlR (need start : Int) (L : List Int) : Prop := isB start 0 1000000 = true ∧ (L.length : Int) = need ∧ NodesR L
def NoP (start : Int) (L : List Int) : Prop := start = 0 ∧ L.length = 0
def DepR (l s id ul us after : Int) : Prop := (after = 0 → ul = 0 ∧ us = 0) ∧ (after ≠ 0 → isB after 1 12 = true ∧ LabC.belowB ul us l s = true ∧ ¬ ((ul = l ∧ us = s) ∧ id ≤ after))
def Has (st : Int) (L : List Int) : Prop := st = 2 ∨ (st = 1 ∧ 0 < L.length)
def TaskR : D_Task → Prop
  | ((l, s), id, ow, need, long, prio, (ul, us), after, born, st, start, L) => LabC.rB l s = true ∧ isB id 1 12 = true ∧ nameB ow = true ∧ isB need 1 6 = true ∧ isB long 1 20 = true ∧ isB prio 0 9 = true ∧ isB born 0 999900 = true ∧ isB st 1 6 = true ∧ DepR l s id ul us after ∧ (Has st L → PlR need start L) ∧ (¬ Has st L → NoP start L)
open Classical in
noncomputable def taskB (x : D_Task) : Bool := decide (TaskR x)
open Classical in
theorem taskB_iff {x : D_Task} : taskB x = true ↔ TaskR x := by unfold taskB; simp
abbrev tLab (x : D_Task) : D_Label := x.1
abbrev tId (x : D_Task) : Int := x.2.1
abbrev tOwner (x : D_Task) : ByteArray := x.2.2.1
abbrev tNodes (x : D_Task) : List Int := x.2.2.2.2.2.2.2.2.2.2.2
abbrev tKey (x : D_Task) : D_Label × Int := (x.1, x.2.1)
theorem TaskR.lab {x : D_Task} (h : TaskR x) : LabC.rB (tLab x).1 (tLab x).2 = true := h.1
theorem TaskR.id {x : D_Task} (h : TaskR x) : 1 ≤ tId x ∧ tId x ≤ 12 := (isB_iff _ _ _).1 h.2.1
theorem nodesR_len {L : List Int} (h : NodesR L) : L.length ≤ 6 := by
  have key : ∀ i, i < L.length → ∃ x, L[i]? = some x ∧ (i : Int) ≤ x ∧ x ≤ 5 := by
    intro i
    induction i with
    | zero =>
      intro hi
      obtain ⟨x, hx⟩ : ∃ x, L[0]? = some x := ⟨L[0], List.getElem?_eq_getElem hi⟩
      have := (isB_iff _ _ _).1 (h 0 hi x hx).1
      exact ⟨x, hx, by omega, by omega⟩
    | succ i ih =>
      intro hi
      obtain ⟨y, hy, h1, h2⟩ := ih (by omega)
      obtain ⟨x, hx⟩ : ∃ x, L[i + 1]? = some x := ⟨L[i + 1], List.getElem?_eq_getElem hi⟩
      have h3 := (isB_iff _ _ _).1 (h (i + 1) hi x hx).1
      have h4 := (h (i + 1) hi x hx).2 (by omega) y (by rw [Nat.add_sub_cancel]; exact hy)
      exact ⟨x, hx, by omega, by omega⟩
  by_cases hl : L.length ≤ 6
  · exact hl
  · obtain ⟨x, _, h1, h2⟩ := key 6 (by omega)
    omega
def ltK (a b : D_Label × Int) : Prop := ltLb a.1 b.1 ∨ (a.1 = b.1 ∧ a.2 < b.2)
def IncT (L : List D_Task) (n : Nat) : Prop := ∀ i j x y, i < j → j < n → L[i]? = some x → L[j]? = some y → ltK (tKey x) (tKey y)
theorem IncT.zero {L : List D_Task} : IncT L 0 := fun i j x y _ h => absurd h (Nat.not_lt_zero _)
theorem IncT.take {L : List D_Task} {n m : Nat} (h : IncT L n) (hm : m ≤ n) (hL : m ≤ L.length) : IncT (L.take m) (L.take m).length := by
  intro i j x y hij hj hx hy
  rw [List.length_take, Nat.min_eq_left hL] at hj
  rw [List.getElem?_take, if_pos (by omega)] at hx hy
  exact h i j x y hij (by omega) hx hy
end Go.Proofs.Ytkghodbbgehcoaa.RepC
end
section
namespace Go.Proofs.Ytkghodbbgehcoaa.RepC
open Go.RowKit RowC ValC SpanC KeptC NameC
set_option linter.unusedVariables false
set_option linter.unusedSimpArgs false
theorem isS_at (n lo hi : Int) {b : Bool} (hb : isB n lo hi = b) (w : World) :
    Calls Try.prog 63 #[.int .i64 n, .int .i64 lo, .int .i64 hi] w fun e w' => e = .returned (.bool b) ∧ w = w' := by
  subst hb
  exact is_spec n lo hi w
theorem timeS_at (n : Int) {b : Bool} (hb : isB n 0 1000000 = b) (w : World) :
    Calls Try.prog 72 #[.int .i64 n] w fun e w' => e = .returned (.bool b) ∧ w = w' := by
  subst hb
  exact time_spec n w
theorem nowS_at (n : Int) {b : Bool} (hb : isB n 0 999900 = b) (w : World) :
    Calls Try.prog 70 #[.int .i64 n] w fun e w' => e = .returned (.bool b) ∧ w = w' := by
  subst hb
  go_enter Try.func70, Try.ntmps70
  go_wp2_with (go_at_call 63; refine (is_spec _ _ _ _).mono ?_; rintro e w' ⟨rfl, rfl⟩)
  go_ret
  exact ⟨rfl, rfl⟩
theorem res_nameX {s : ByteArray} {w w' : World} {e : Ending} (h : NameC.Res (NameP s) w e w') : e = .returned (.bool (nameB s)) ∧ w = w' := by
  obtain ⟨b, rfl, hb, rfl⟩ := h
  have : b = nameB s := by
    cases b <;> cases hn : nameB s
    · rfl
    · exact absurd (hb.2 (nameB_iff.1 hn)) (by decide)
    · exact absurd (nameB_iff.2 (hb.1 rfl)) (by rw [hn]; decide)
    · rfl
  exact ⟨by rw [this], rfl⟩
theorem nameS_at {s : ByteArray} {b : Bool} (hs : s.size ≤ maxLen) (hb : nameB s = b) (w : World) : Calls Try.prog 22 #[.string s] w fun e w' => e = .returned (.bool b) ∧ w = w' := by
  subst hb
  exact (spec_any s w hs).mono fun _ _ h => res_nameX h
theorem nameI_at {s : ByteArray} {b : Bool} (hs : s.size ≤ maxLen) (hb : nameB s = b) (w : World) : Calls Try.prog 57 #[.string s] w fun e w' => e = .returned (.bool b) ∧ w = w' := by
  subst hb
  exact (impl_any s w hs).mono fun _ _ h => res_nameX h
theorem labS_at (l s : Int) {b : Bool} (hb : LabC.rB l s = b) (w : World) :
    Calls Try.prog 21 #[.agg #[.int .i64 l, .int .i64 s]] w fun e w' => e = .returned (.bool b) ∧ Below w.heap.size w w' := by
  subst hb
  exact (LabC.right_spec l s w).mono fun _ _ ⟨h1, h2⟩ => ⟨h1, by rw [← h2]; exact (Below.refl _ _).alloc (Nat.le_refl _) _⟩
theorem belS_at (l s m t : Int) {b : Bool} (hb : LabC.belowB l s m t = b) (w : World) :
    Calls Try.prog 71 #[.agg #[.int .i64 l, .int .i64 s], .agg #[.int .i64 m, .int .i64 t]] w fun e w' => e = .returned (.bool b) ∧ Below w.heap.size w w' := by
  subst hb
  exact LabC.below_spec l s m t w
theorem belI_at (l s m t : Int) {b : Bool} (hb : LabC.belowB l s m t = b) (w : World) :
    Calls Try.prog 116 #[.agg #[.int .i64 l, .int .i64 s], .agg #[.int .i64 m, .int .i64 t]] w fun e w' => e = .returned (.bool b) ∧ Below w.heap.size w w' := by
  subst hb
  exact LabC.below_impl l s m t w
set_option maxRecDepth 100000 in
set_option maxHeartbeats 6400000 in
theorem taskP_spec {x0 x1 x2 : Int} {x3 : ByteArray} {x4 x5 x6 x7 x8 x9 x10 x11 x12 : Int} {L : List Int} {a : Option Addr} {c : Nat} {W : World} (b_x3 : x3.size ≤ maxLen) (h : RdSl I W W.heap.size L a c) : Calls Try.prog 24 #[.agg #[.int .i64 x0, .int .i64 x1, .int .i64 x2, .string x3, .int .i64 x4, .int .i64 x5, .int .i64 x6, .int .i64 x7, .int .i64 x8, .int .i64 x9, .int .i64 x10, .int .i64 x11, .int .i64 x12, .slice a L.length c]] W (ResB (TaskR ((x0, x1), x2, x3, x4, x5, x6, (x7, x8), x9, x10, x11, x12, L)) W) := by
  have hn : L.length ≤ 9223372036854775807 := by have h1 := h.1; have h2 := h.2.1; unfold maxLen at h2; omega
  have H := Lib.hid h
  clear h
  have HX3 := Lib.hid b_x3
  unfold maxLen at b_x3
  obtain ⟨b0, h0⟩ : ∃ b, LabC.rB x0 x1 = b := ⟨_, rfl⟩
  have H0 := Lib.hid h0
  clear h0
  obtain ⟨b1, h1⟩ : ∃ b, isB x2 1 12 = b := ⟨_, rfl⟩
  have H1 := Lib.hid h1
  clear h1
  obtain ⟨b2, h2⟩ : ∃ b, nameB x3 = b := ⟨_, rfl⟩
  have H2 := Lib.hid h2
  clear h2
  obtain ⟨b3, h3⟩ : ∃ b, isB x4 1 6 = b := ⟨_, rfl⟩
  have H3 := Lib.hid h3
  clear h3
  obtain ⟨b4, h4⟩ : ∃ b, isB x5 1 20 = b := ⟨_, rfl⟩
  have H4 := Lib.hid h4
  clear h4
  obtain ⟨b5, h5⟩ : ∃ b, isB x6 0 9 = b := ⟨_, rfl⟩
  have H5 := Lib.hid h5
  clear h5
  obtain ⟨b6, h6⟩ : ∃ b, isB x10 0 999900 = b := ⟨_, rfl⟩
  have H6 := Lib.hid h6
  clear h6
  obtain ⟨b7, h7⟩ : ∃ b, isB x11 1 6 = b := ⟨_, rfl⟩
  have H7 := Lib.hid h7
  clear h7
  obtain ⟨b8, h8⟩ : ∃ b, isB x9 1 12 = b := ⟨_, rfl⟩
  have H8 := Lib.hid h8
  clear h8
  obtain ⟨b9, h9⟩ : ∃ b, LabC.belowB x7 x8 x0 x1 = b := ⟨_, rfl⟩
  have HBB := Lib.hid h9
  clear h9
  obtain ⟨b10, h10⟩ : ∃ b, isB x12 0 1000000 = b := ⟨_, rfl⟩
  have H10 := Lib.hid h10
  clear h10
  have HB0 := Lib.hid (show Below W.heap.size W (W.alloc (.cells #[.int .i64 x0, .int .i64 x1, .int .i64 x2, .string x3, .int .i64 x4, .int .i64 x5, .int .i64 x6, .int .i64 x7, .int .i64 x8, .int .i64 x9, .int .i64 x10, .int .i64 x11, .int .i64 x12, .slice a L.length c] 43)) from (Below.refl _ _).alloc (Nat.le_refl _) _)
  have HP0 := Lib.hid (Blk.new W 43 #[.int .i64 x0, .int .i64 x1, .int .i64 x2, .string x3, .int .i64 x4, .int .i64 x5, .int .i64 x6, .int .i64 x7, .int .i64 x8, .int .i64 x9, .int .i64 x10, .int .i64 x11, .int .i64 x12, .slice a L.length c])
  have hz0 : W.heap.size ≤ (W.alloc (.cells #[.int .i64 x0, .int .i64 x1, .int .i64 x2, .string x3, .int .i64 x4, .int .i64 x5, .int .i64 x6, .int .i64 x7, .int .i64 x8, .int .i64 x9, .int .i64 x10, .int .i64 x11, .int .i64 x12, .slice a L.length c] 43)).heap.size := HB0.out.size
  go_enter Try.func24, Try.ntmps24
  go_wp2_with fail
  refine (labS_at x0 x1 H0.out _).mono ?_
  rintro e w1 ⟨rfl, hb⟩
  have HP1 := Lib.hid (HP0.out.call hb)
  have HB1 := Lib.hid (HB0.out.trans (hb.mono hz0))
  have hz1 : W.heap.size ≤ w1.heap.size := HB1.out.size
  clear hb
  have p0 := HP1.out.at_ 0 rfl
  have p1 := HP1.out.at_ 1 rfl
  have p2 := HP1.out.at_ 2 rfl
  have p3 := HP1.out.at_ 3 rfl
  have p4 := HP1.out.at_ 4 rfl
  have p5 := HP1.out.at_ 5 rfl
  have p6 := HP1.out.at_ 6 rfl
  have p7 := HP1.out.at_ 7 rfl
  have p8 := HP1.out.at_ 8 rfl
  have p9 := HP1.out.at_ 9 rfl
  have p10 := HP1.out.at_ 10 rfl
  have p11 := HP1.out.at_ 11 rfl
  have p12 := HP1.out.at_ 12 rfl
  have p13 := HP1.out.at_ 13 rfl
  clear HP0 HB0
  cases b0 with
  | false =>
    have HV := Lib.hid (show ¬ TaskR ((x0, x1), x2, x3, x4, x5, x6, (x7, x8), x9, x10, x11, x12, L) from fun h => by have h2 := h.1; rw [H0.out] at h2; cases h2)
    go_wp2
    go_ret
    exact resB_no HV.out HB1.out
  | true =>
    go_wp2_with fail
    refine (isS_at _ _ _ H1.out _).mono ?_
    rintro e w2 ⟨rfl, rfl⟩
    cases b1 with
    | false =>
      have HV := Lib.hid (show ¬ TaskR ((x0, x1), x2, x3, x4, x5, x6, (x7, x8), x9, x10, x11, x12, L) from fun h => by have h2 := h.2.1; rw [H1.out] at h2; cases h2)
      go_wp2
      go_ret
      exact resB_no HV.out HB1.out
    | true =>
      go_wp2_with fail
      refine (nameS_at HX3.out H2.out _).mono ?_
      rintro e w2 ⟨rfl, rfl⟩
      cases b2 with
      | false =>
        have HV := Lib.hid (show ¬ TaskR ((x0, x1), x2, x3, x4, x5, x6, (x7, x8), x9, x10, x11, x12, L) from fun h => by have h2 := h.2.2.1; rw [H2.out] at h2; cases h2)
        go_wp2
        go_ret
        exact resB_no HV.out HB1.out
      | true =>
        go_wp2_with fail
        refine (isS_at _ _ _ H3.out _).mono ?_
        rintro e w2 ⟨rfl, rfl⟩
        cases b3 with
        | false =>
          have HV := Lib.hid (show ¬ TaskR ((x0, x1), x2, x3, x4, x5, x6, (x7, x8), x9, x10, x11, x12, L) from fun h => by have h2 := h.2.2.2.1; rw [H3.out] at h2; cases h2)
          go_wp2
          go_ret
          exact resB_no HV.out HB1.out
        | true =>
          go_wp2_with fail
          refine (isS_at _ _ _ H4.out _).mono ?_
          rintro e w2 ⟨rfl, rfl⟩
          cases b4 with
          | false =>
            have HV := Lib.hid (show ¬ TaskR ((x0, x1), x2, x3, x4, x5, x6, (x7, x8), x9, x10, x11, x12, L) from fun h => by have h2 := h.2.2.2.2.1; rw [H4.out] at h2; cases h2)
            go_wp2
            go_ret
            exact resB_no HV.out HB1.out
          | true =>
            go_wp2_with fail
            refine (isS_at _ _ _ H5.out _).mono ?_
            rintro e w2 ⟨rfl, rfl⟩
            cases b5 with
            | false =>
              have HV := Lib.hid (show ¬ TaskR ((x0, x1), x2, x3, x4, x5, x6, (x7, x8), x9, x10, x11, x12, L) from fun h => by have h2 := h.2.2.2.2.2.1; rw [H5.out] at h2; cases h2)
              go_wp2
              go_ret
              exact resB_no HV.out HB1.out
            | true =>
              go_wp2_with fail
              refine (nowS_at _ H6.out _).mono ?_
              rintro e w2 ⟨rfl, rfl⟩
              cases b6 with
              | false =>
                have HV := Lib.hid (show ¬ TaskR ((x0, x1), x2, x3, x4, x5, x6, (x7, x8), x9, x10, x11, x12, L) from fun h => by have h2 := h.2.2.2.2.2.2.1; rw [H6.out] at h2; cases h2)
                go_wp2
                go_ret
                exact resB_no HV.out HB1.out
              | true =>
                go_wp2_with fail
                refine (isS_at _ _ _ H7.out _).mono ?_
                rintro e w2 ⟨rfl, rfl⟩
                cases b7 with
                | false =>
                  have HV := Lib.hid (show ¬ TaskR ((x0, x1), x2, x3, x4, x5, x6, (x7, x8), x9, x10, x11, x12, L) from fun h => by have h2 := h.2.2.2.2.2.2.2.1; rw [H7.out] at h2; cases h2)
                  go_wp2
                  go_ret
                  exact resB_no HV.out HB1.out
                | true =>
                  by_cases h9 : x9 = 0
                  · have h9' : (x9 == 0) = true := beq_iff_eq.2 h9
                    have h9n : (x9 != 0) = false := by simp [h9]
                    obtain ⟨q, hq⟩ : ∃ q, decide (((x7, x8) : Int × Int) = (0, 0)) = q := ⟨_, rfl⟩
                    have hqq := neq_lab x7 x8 0 0 q hq
                    have HQ := Lib.hid hq
                    have H9 := Lib.hid h9
                    clear hq h9
                    cases q with
                    | false =>
                      have HV := Lib.hid (show ¬ TaskR ((x0, x1), x2, x3, x4, x5, x6, (x7, x8), x9, x10, x11, x12, L) from fun h => by have h2 := h.2.2.2.2.2.2.2.2.1.1 H9.out; exact of_decide_eq_false HQ.out (by rw [h2.1, h2.2]))
                      go_wp2
                      go_ret
                      exact resB_no HV.out HB1.out
                    | true =>
                      have HD := Lib.hid (show DepR x0 x1 x2 x7 x8 x9 from ⟨fun _ => by have h2 := of_decide_eq_true HQ.out; simpa using h2, fun h => absurd H9.out h⟩)
                      by_cases h2 : x11 = 2
                      · have h2' : (x11 == 2) = true := beq_iff_eq.2 h2
                        have HS := Lib.hid (show Has x11 L from Or.inl h2)
                        go_wp2_with fail
                        refine (timeS_at _ H10.out _).mono ?_
                        rintro e w9 ⟨rfl, rfl⟩
                        cases b10 with
                        | false =>
                          have HV := Lib.hid (show ¬ TaskR ((x0, x1), x2, x3, x4, x5, x6, (x7, x8), x9, x10, x11, x12, L) from fun h => by have h2 := (h.2.2.2.2.2.2.2.2.2.1 HS.out).1; rw [H10.out] at h2; cases h2)
                          go_wp2
                          go_ret
                          exact resB_no HV.out HB1.out
                        | true =>
                          by_cases hl : (L.length : Int) = x4
                          · have hl' : ((L.length : Int) == x4) = true := beq_iff_eq.2 hl
                            have HL := Lib.hid hl
                            clear hl
                            go_wp2_with fail
                            refine (nodes_spec ((H.out.below I_ok HB1.out).more I_ok hz1)).mono ?_
                            intro e w3 h
                            obtain ⟨b, rfl, hb, hw⟩ := resB_elim h
                            have HB := Lib.hid (HB1.out.trans (hw.mono hz1))
                            have HV := Lib.hid (show (b = true ↔ TaskR ((x0, x1), x2, x3, x4, x5, x6, (x7, x8), x9, x10, x11, x12, L)) from hb.trans ⟨fun hN => ⟨H0.out, H1.out, H2.out, H3.out, H4.out, H5.out, H6.out, H7.out, HD.out, fun _ => ⟨H10.out, HL.out, hN⟩, fun h => absurd HS.out h⟩, fun h => (h.2.2.2.2.2.2.2.2.2.1 HS.out).2.2⟩)
                            clear h hb hw
                            go_wp2
                            go_ret
                            exact ⟨b, rfl, HV.out, HB.out⟩
                          · have hl' : ((L.length : Int) == x4) = false := beq_eq_false_iff_ne.2 hl
                            have HV := Lib.hid (show ¬ TaskR ((x0, x1), x2, x3, x4, x5, x6, (x7, x8), x9, x10, x11, x12, L) from fun h => hl (h.2.2.2.2.2.2.2.2.2.1 HS.out).2.1)
                            go_wp2
                            go_ret
                            exact resB_no HV.out HB1.out
                      · have h2' : (x11 == 2) = false := beq_eq_false_iff_ne.2 h2
                        by_cases h1 : x11 = 1
                        · have h1' : (x11 == 1) = true := beq_iff_eq.2 h1
                          by_cases hp : 0 < L.length
                          · have hp' : decide ((0 : Int) < (L.length : Int)) = true := decide_eq_true (by omega)
                            have HS := Lib.hid (show Has x11 L from Or.inr ⟨h1, hp⟩)
                            go_wp2_with fail
                            refine (timeS_at _ H10.out _).mono ?_
                            rintro e w9 ⟨rfl, rfl⟩
                            cases b10 with
                            | false =>
                              have HV := Lib.hid (show ¬ TaskR ((x0, x1), x2, x3, x4, x5, x6, (x7, x8), x9, x10, x11, x12, L) from fun h => by have h2 := (h.2.2.2.2.2.2.2.2.2.1 HS.out).1; rw [H10.out] at h2; cases h2)
                              go_wp2
                              go_ret
                              exact resB_no HV.out HB1.out
                            | true =>
                              by_cases hl : (L.length : Int) = x4
                              · have hl' : ((L.length : Int) == x4) = true := beq_iff_eq.2 hl
                                have HL := Lib.hid hl
                                clear hl
                                go_wp2_with fail
                                refine (nodes_spec ((H.out.below I_ok HB1.out).more I_ok hz1)).mono ?_
                                intro e w3 h
                                obtain ⟨b, rfl, hb, hw⟩ := resB_elim h
                                have HB := Lib.hid (HB1.out.trans (hw.mono hz1))
                                have HV := Lib.hid (show (b = true ↔ TaskR ((x0, x1), x2, x3, x4, x5, x6, (x7, x8), x9, x10, x11, x12, L)) from hb.trans ⟨fun hN => ⟨H0.out, H1.out, H2.out, H3.out, H4.out, H5.out, H6.out, H7.out, HD.out, fun _ => ⟨H10.out, HL.out, hN⟩, fun h => absurd HS.out h⟩, fun h => (h.2.2.2.2.2.2.2.2.2.1 HS.out).2.2⟩)
                                clear h hb hw
                                go_wp2
                                go_ret
                                exact ⟨b, rfl, HV.out, HB.out⟩
                              · have hl' : ((L.length : Int) == x4) = false := beq_eq_false_iff_ne.2 hl
                                have HV := Lib.hid (show ¬ TaskR ((x0, x1), x2, x3, x4, x5, x6, (x7, x8), x9, x10, x11, x12, L) from fun h => hl (h.2.2.2.2.2.2.2.2.2.1 HS.out).2.1)
                                go_wp2
                                go_ret
                                exact resB_no HV.out HB1.out
                          · have hp' : decide ((0 : Int) < (L.length : Int)) = false := decide_eq_false (by omega)
                            have HS := Lib.hid (show ¬ Has x11 L from fun h => h.elim h2 (fun h => hp h.2))
                            by_cases h7 : x12 = 0
                            · have h7' : (x12 == 0) = true := beq_iff_eq.2 h7
                              have H12 := Lib.hid h7
                              clear h7
                              obtain rfl : L = [] := List.eq_nil_of_length_eq_zero (by omega)
                              clear hp hp' hn
                              have HV := Lib.hid (show TaskR ((x0, x1), x2, x3, x4, x5, x6, (x7, x8), x9, x10, x11, x12, []) from ⟨H0.out, H1.out, H2.out, H3.out, H4.out, H5.out, H6.out, H7.out, HD.out, fun h => absurd h HS.out, fun _ => ⟨H12.out, rfl⟩⟩)
                              go_wp2
                              go_ret
                              exact resB_yes HV.out HB1.out
                            · have h7' : (x12 == 0) = false := beq_eq_false_iff_ne.2 h7
                              have HV := Lib.hid (show ¬ TaskR ((x0, x1), x2, x3, x4, x5, x6, (x7, x8), x9, x10, x11, x12, L) from fun h => h7 (h.2.2.2.2.2.2.2.2.2.2 HS.out).1)
                              go_wp2
                              go_ret
                              exact resB_no HV.out HB1.out
                        · have h1' : (x11 == 1) = false := beq_eq_false_iff_ne.2 h1
                          have HS := Lib.hid (show ¬ Has x11 L from fun h => h.elim h2 (fun h => h1 h.1))
                          by_cases h7 : x12 = 0
                          · have h7' : (x12 == 0) = true := beq_iff_eq.2 h7
                            have H12 := Lib.hid h7
                            clear h7
                            by_cases hl : L.length = 0
                            · have hl' : ((L.length : Int) == 0) = true := beq_iff_eq.2 (by omega)
                              have HL := Lib.hid hl
                              clear hl
                              have HV := Lib.hid (show TaskR ((x0, x1), x2, x3, x4, x5, x6, (x7, x8), x9, x10, x11, x12, L) from ⟨H0.out, H1.out, H2.out, H3.out, H4.out, H5.out, H6.out, H7.out, HD.out, fun h => absurd h HS.out, fun _ => ⟨H12.out, HL.out⟩⟩)
                              go_wp2
                              go_ret
                              exact resB_yes HV.out HB1.out
                            · have hl' : ((L.length : Int) == 0) = false := beq_eq_false_iff_ne.2 (by omega)
                              have HV := Lib.hid (show ¬ TaskR ((x0, x1), x2, x3, x4, x5, x6, (x7, x8), x9, x10, x11, x12, L) from fun h => hl (h.2.2.2.2.2.2.2.2.2.2 HS.out).2)
                              go_wp2
                              go_ret
                              exact resB_no HV.out HB1.out
                          · have h7' : (x12 == 0) = false := beq_eq_false_iff_ne.2 h7
                            have HV := Lib.hid (show ¬ TaskR ((x0, x1), x2, x3, x4, x5, x6, (x7, x8), x9, x10, x11, x12, L) from fun h => h7 (h.2.2.2.2.2.2.2.2.2.2 HS.out).1)
                            go_wp2
                            go_ret
                            exact resB_no HV.out HB1.out
                  · have h9' : (x9 == 0) = false := beq_eq_false_iff_ne.2 h9
                    have h9n : (x9 != 0) = true := by simp [h9]
                    have H9 := Lib.hid h9
                    clear h9
                    go_wp2_with fail
                    refine (isS_at _ _ _ H8.out _).mono ?_
                    rintro e w2 ⟨rfl, rfl⟩
                    cases b8 with
                    | false =>
                      have HV := Lib.hid (show ¬ TaskR ((x0, x1), x2, x3, x4, x5, x6, (x7, x8), x9, x10, x11, x12, L) from fun h => by have h2 := (h.2.2.2.2.2.2.2.2.1.2 H9.out).1; rw [H8.out] at h2; cases h2)
                      go_wp2
                      go_ret
                      exact resB_no HV.out HB1.out
                    | true =>
                      go_wp2_with fail
                      refine (belS_at _ _ _ _ HBB.out _).mono ?_
                      rintro e w2 ⟨rfl, hb⟩
                      have HP2 := Lib.hid (HP1.out.call hb)
                      have HB2 := Lib.hid (HB1.out.trans (hb.mono hz1))
                      have hz2 : W.heap.size ≤ w2.heap.size := HB2.out.size
                      clear hb
                      clear p0 p1 p2 p3 p4 p5 p6 p7 p8 p9 p10 p11 p12 p13
                      have p0 := HP2.out.at_ 0 rfl
                      have p1 := HP2.out.at_ 1 rfl
                      have p2 := HP2.out.at_ 2 rfl
                      have p3 := HP2.out.at_ 3 rfl
                      have p4 := HP2.out.at_ 4 rfl
                      have p5 := HP2.out.at_ 5 rfl
                      have p6 := HP2.out.at_ 6 rfl
                      have p7 := HP2.out.at_ 7 rfl
                      have p8 := HP2.out.at_ 8 rfl
                      have p9 := HP2.out.at_ 9 rfl
                      have p10 := HP2.out.at_ 10 rfl
                      have p11 := HP2.out.at_ 11 rfl
                      have p12 := HP2.out.at_ 12 rfl
                      have p13 := HP2.out.at_ 13 rfl
                      cases b9 with
                      | false =>
                        have HV := Lib.hid (show ¬ TaskR ((x0, x1), x2, x3, x4, x5, x6, (x7, x8), x9, x10, x11, x12, L) from fun h => by have h2 := (h.2.2.2.2.2.2.2.2.1.2 H9.out).2.1; rw [HBB.out] at h2; cases h2)
                        go_wp2
                        go_ret
                        exact resB_no HV.out HB2.out
                      | true =>
                        obtain ⟨q, hq⟩ : ∃ q, decide (((x7, x8) : Int × Int) = (x0, x1)) = q := ⟨_, rfl⟩
                        have hqq := eql_lab x7 x8 x0 x1 q hq
                        have HQ := Lib.hid hq
                        clear hq
                        cases q with
                        | false =>
                          have HD := Lib.hid (show DepR x0 x1 x2 x7 x8 x9 from ⟨fun h => absurd h H9.out, fun _ => ⟨H8.out, HBB.out, fun h => of_decide_eq_false HQ.out (by rw [h.1.1, h.1.2])⟩⟩)
                          by_cases h2 : x11 = 2
                          · have h2' : (x11 == 2) = true := beq_iff_eq.2 h2
                            have HS := Lib.hid (show Has x11 L from Or.inl h2)
                            go_wp2_with fail
                            refine (timeS_at _ H10.out _).mono ?_
                            rintro e w9 ⟨rfl, rfl⟩
                            cases b10 with
                            | false =>
                              have HV := Lib.hid (show ¬ TaskR ((x0, x1), x2, x3, x4, x5, x6, (x7, x8), x9, x10, x11, x12, L) from fun h => by have h2 := (h.2.2.2.2.2.2.2.2.2.1 HS.out).1; rw [H10.out] at h2; cases h2)
                              go_wp2
                              go_ret
                              exact resB_no HV.out HB2.out
                            | true =>
                              by_cases hl : (L.length : Int) = x4
                              · have hl' : ((L.length : Int) == x4) = true := beq_iff_eq.2 hl
                                have HL := Lib.hid hl
                                clear hl
                                go_wp2_with fail
                                refine (nodes_spec ((H.out.below I_ok HB2.out).more I_ok hz2)).mono ?_
                                intro e w3 h
                                obtain ⟨b, rfl, hb, hw⟩ := resB_elim h
                                have HB := Lib.hid (HB2.out.trans (hw.mono hz2))
                                have HV := Lib.hid (show (b = true ↔ TaskR ((x0, x1), x2, x3, x4, x5, x6, (x7, x8), x9, x10, x11, x12, L)) from hb.trans ⟨fun hN => ⟨H0.out, H1.out, H2.out, H3.out, H4.out, H5.out, H6.out, H7.out, HD.out, fun _ => ⟨H10.out, HL.out, hN⟩, fun h => absurd HS.out h⟩, fun h => (h.2.2.2.2.2.2.2.2.2.1 HS.out).2.2⟩)
                                clear h hb hw
                                go_wp2
                                go_ret
                                exact ⟨b, rfl, HV.out, HB.out⟩
                              · have hl' : ((L.length : Int) == x4) = false := beq_eq_false_iff_ne.2 hl
                                have HV := Lib.hid (show ¬ TaskR ((x0, x1), x2, x3, x4, x5, x6, (x7, x8), x9, x10, x11, x12, L) from fun h => hl (h.2.2.2.2.2.2.2.2.2.1 HS.out).2.1)
                                go_wp2
                                go_ret
                                exact resB_no HV.out HB2.out
                          · have h2' : (x11 == 2) = false := beq_eq_false_iff_ne.2 h2
                            by_cases h1 : x11 = 1
                            · have h1' : (x11 == 1) = true := beq_iff_eq.2 h1
                              by_cases hp : 0 < L.length
                              · have hp' : decide ((0 : Int) < (L.length : Int)) = true := decide_eq_true (by omega)
                                have HS := Lib.hid (show Has x11 L from Or.inr ⟨h1, hp⟩)
                                go_wp2_with fail
                                refine (timeS_at _ H10.out _).mono ?_
                                rintro e w9 ⟨rfl, rfl⟩
                                cases b10 with
                                | false =>
                                  have HV := Lib.hid (show ¬ TaskR ((x0, x1), x2, x3, x4, x5, x6, (x7, x8), x9, x10, x11, x12, L) from fun h => by have h2 := (h.2.2.2.2.2.2.2.2.2.1 HS.out).1; rw [H10.out] at h2; cases h2)
                                  go_wp2
                                  go_ret
                                  exact resB_no HV.out HB2.out
                                | true =>
                                  by_cases hl : (L.length : Int) = x4
                                  · have hl' : ((L.length : Int) == x4) = true := beq_iff_eq.2 hl
                                    have HL := Lib.hid hl
                                    clear hl
                                    go_wp2_with fail
                                    refine (nodes_spec ((H.out.below I_ok HB2.out).more I_ok hz2)).mono ?_
                                    intro e w3 h
                                    obtain ⟨b, rfl, hb, hw⟩ := resB_elim h
                                    have HB := Lib.hid (HB2.out.trans (hw.mono hz2))
                                    have HV := Lib.hid (show (b = true ↔ TaskR ((x0, x1), x2, x3, x4, x5, x6, (x7, x8), x9, x10, x11, x12, L)) from hb.trans ⟨fun hN => ⟨H0.out, H1.out, H2.out, H3.out, H4.out, H5.out, H6.out, H7.out, HD.out, fun _ => ⟨H10.out, HL.out, hN⟩, fun h => absurd HS.out h⟩, fun h => (h.2.2.2.2.2.2.2.2.2.1 HS.out).2.2⟩)
                                    clear h hb hw
                                    go_wp2
                                    go_ret
                                    exact ⟨b, rfl, HV.out, HB.out⟩
                                  · have hl' : ((L.length : Int) == x4) = false := beq_eq_false_iff_ne.2 hl
                                    have HV := Lib.hid (show ¬ TaskR ((x0, x1), x2, x3, x4, x5, x6, (x7, x8), x9, x10, x11, x12, L) from fun h => hl (h.2.2.2.2.2.2.2.2.2.1 HS.out).2.1)
                                    go_wp2
                                    go_ret
                                    exact resB_no HV.out HB2.out
                              · have hp' : decide ((0 : Int) < (L.length : Int)) = false := decide_eq_false (by omega)
                                have HS := Lib.hid (show ¬ Has x11 L from fun h => h.elim h2 (fun h => hp h.2))
                                by_cases h7 : x12 = 0
                                · have h7' : (x12 == 0) = true := beq_iff_eq.2 h7
                                  have H12 := Lib.hid h7
                                  clear h7
                                  obtain rfl : L = [] := List.eq_nil_of_length_eq_zero (by omega)
                                  clear hp hp' hn
                                  have HV := Lib.hid (show TaskR ((x0, x1), x2, x3, x4, x5, x6, (x7, x8), x9, x10, x11, x12, []) from ⟨H0.out, H1.out, H2.out, H3.out, H4.out, H5.out, H6.out, H7.out, HD.out, fun h => absurd h HS.out, fun _ => ⟨H12.out, rfl⟩⟩)
                                  go_wp2
                                  go_ret
                                  exact resB_yes HV.out HB2.out
                                · have h7' : (x12 == 0) = false := beq_eq_false_iff_ne.2 h7
                                  have HV := Lib.hid (show ¬ TaskR ((x0, x1), x2, x3, x4, x5, x6, (x7, x8), x9, x10, x11, x12, L) from fun h => h7 (h.2.2.2.2.2.2.2.2.2.2 HS.out).1)
                                  go_wp2
                                  go_ret
                                  exact resB_no HV.out HB2.out
                            · have h1' : (x11 == 1) = false := beq_eq_false_iff_ne.2 h1
                              have HS := Lib.hid (show ¬ Has x11 L from fun h => h.elim h2 (fun h => h1 h.1))
                              by_cases h7 : x12 = 0
                              · have h7' : (x12 == 0) = true := beq_iff_eq.2 h7
                                have H12 := Lib.hid h7
                                clear h7
                                by_cases hl : L.length = 0
                                · have hl' : ((L.length : Int) == 0) = true := beq_iff_eq.2 (by omega)
                                  have HL := Lib.hid hl
                                  clear hl
                                  have HV := Lib.hid (show TaskR ((x0, x1), x2, x3, x4, x5, x6, (x7, x8), x9, x10, x11, x12, L) from ⟨H0.out, H1.out, H2.out, H3.out, H4.out, H5.out, H6.out, H7.out, HD.out, fun h => absurd h HS.out, fun _ => ⟨H12.out, HL.out⟩⟩)
                                  go_wp2
                                  go_ret
                                  exact resB_yes HV.out HB2.out
                                · have hl' : ((L.length : Int) == 0) = false := beq_eq_false_iff_ne.2 (by omega)
                                  have HV := Lib.hid (show ¬ TaskR ((x0, x1), x2, x3, x4, x5, x6, (x7, x8), x9, x10, x11, x12, L) from fun h => hl (h.2.2.2.2.2.2.2.2.2.2 HS.out).2)
                                  go_wp2
                                  go_ret
                                  exact resB_no HV.out HB2.out
                              · have h7' : (x12 == 0) = false := beq_eq_false_iff_ne.2 h7
                                have HV := Lib.hid (show ¬ TaskR ((x0, x1), x2, x3, x4, x5, x6, (x7, x8), x9, x10, x11, x12, L) from fun h => h7 (h.2.2.2.2.2.2.2.2.2.2 HS.out).1)
                                go_wp2
                                go_ret
                                exact resB_no HV.out HB2.out
                        | true =>
                          by_cases hle : x2 ≤ x9
                          · have hle' : decide (x2 ≤ x9) = true := decide_eq_true hle
                            have HV := Lib.hid (show ¬ TaskR ((x0, x1), x2, x3, x4, x5, x6, (x7, x8), x9, x10, x11, x12, L) from fun h => (h.2.2.2.2.2.2.2.2.1.2 H9.out).2.2 ⟨by have h2 := of_decide_eq_true HQ.out; simpa using h2, hle⟩)
                            go_wp2
                            go_ret
                            exact resB_no HV.out HB2.out
                          · have hle' : decide (x2 ≤ x9) = false := decide_eq_false hle
                            have HD := Lib.hid (show DepR x0 x1 x2 x7 x8 x9 from ⟨fun h => absurd h H9.out, fun _ => ⟨H8.out, HBB.out, fun h => hle h.2⟩⟩)
                            by_cases h2 : x11 = 2
                            · have h2' : (x11 == 2) = true := beq_iff_eq.2 h2
                              have HS := Lib.hid (show Has x11 L from Or.inl h2)
                              go_wp2_with fail
                              refine (timeS_at _ H10.out _).mono ?_
                              rintro e w9 ⟨rfl, rfl⟩
                              cases b10 with
                              | false =>
                                have HV := Lib.hid (show ¬ TaskR ((x0, x1), x2, x3, x4, x5, x6, (x7, x8), x9, x10, x11, x12, L) from fun h => by have h2 := (h.2.2.2.2.2.2.2.2.2.1 HS.out).1; rw [H10.out] at h2; cases h2)
                                go_wp2
                                go_ret
                                exact resB_no HV.out HB2.out
                              | true =>
                                by_cases hl : (L.length : Int) = x4
                                · have hl' : ((L.length : Int) == x4) = true := beq_iff_eq.2 hl
                                  have HL := Lib.hid hl
                                  clear hl
                                  go_wp2_with fail
                                  refine (nodes_spec ((H.out.below I_ok HB2.out).more I_ok hz2)).mono ?_
                                  intro e w3 h
                                  obtain ⟨b, rfl, hb, hw⟩ := resB_elim h
                                  have HB := Lib.hid (HB2.out.trans (hw.mono hz2))
                                  have HV := Lib.hid (show (b = true ↔ TaskR ((x0, x1), x2, x3, x4, x5, x6, (x7, x8), x9, x10, x11, x12, L)) from hb.trans ⟨fun hN => ⟨H0.out, H1.out, H2.out, H3.out, H4.out, H5.out, H6.out, H7.out, HD.out, fun _ => ⟨H10.out, HL.out, hN⟩, fun h => absurd HS.out h⟩, fun h => (h.2.2.2.2.2.2.2.2.2.1 HS.out).2.2⟩)
                                  clear h hb hw
                                  go_wp2
                                  go_ret
                                  exact ⟨b, rfl, HV.out, HB.out⟩
                                · have hl' : ((L.length : Int) == x4) = false := beq_eq_false_iff_ne.2 hl
                                  have HV := Lib.hid (show ¬ TaskR ((x0, x1), x2, x3, x4, x5, x6, (x7, x8), x9, x10, x11, x12, L) from fun h => hl (h.2.2.2.2.2.2.2.2.2.1 HS.out).2.1)
                                  go_wp2
                                  go_ret
                                  exact resB_no HV.out HB2.out
                            · have h2' : (x11 == 2) = false := beq_eq_false_iff_ne.2 h2
                              by_cases h1 : x11 = 1
                              · have h1' : (x11 == 1) = true := beq_iff_eq.2 h1
                                by_cases hp : 0 < L.length
                                · have hp' : decide ((0 : Int) < (L.length : Int)) = true := decide_eq_true (by omega)
                                  have HS := Lib.hid (show Has x11 L from Or.inr ⟨h1, hp⟩)
                                  go_wp2_with fail
                                  refine (timeS_at _ H10.out _).mono ?_
                                  rintro e w9 ⟨rfl, rfl⟩
                                  cases b10 with
                                  | false =>
                                    have HV := Lib.hid (show ¬ TaskR ((x0, x1), x2, x3, x4, x5, x6, (x7, x8), x9, x10, x11, x12, L) from fun h => by have h2 := (h.2.2.2.2.2.2.2.2.2.1 HS.out).1; rw [H10.out] at h2; cases h2)
                                    go_wp2
                                    go_ret
                                    exact resB_no HV.out HB2.out
                                  | true =>
                                    by_cases hl : (L.length : Int) = x4
                                    · have hl' : ((L.length : Int) == x4) = true := beq_iff_eq.2 hl
                                      have HL := Lib.hid hl
                                      clear hl
                                      go_wp2_with fail
                                      refine (nodes_spec ((H.out.below I_ok HB2.out).more I_ok hz2)).mono ?_
                                      intro e w3 h
                                      obtain ⟨b, rfl, hb, hw⟩ := resB_elim h
                                      have HB := Lib.hid (HB2.out.trans (hw.mono hz2))
                                      have HV := Lib.hid (show (b = true ↔ TaskR ((x0, x1), x2, x3, x4, x5, x6, (x7, x8), x9, x10, x11, x12, L)) from hb.trans ⟨fun hN => ⟨H0.out, H1.out, H2.out, H3.out, H4.out, H5.out, H6.out, H7.out, HD.out, fun _ => ⟨H10.out, HL.out, hN⟩, fun h => absurd HS.out h⟩, fun h => (h.2.2.2.2.2.2.2.2.2.1 HS.out).2.2⟩)
                                      clear h hb hw
                                      go_wp2
                                      go_ret
                                      exact ⟨b, rfl, HV.out, HB.out⟩
                                    · have hl' : ((L.length : Int) == x4) = false := beq_eq_false_iff_ne.2 hl
                                      have HV := Lib.hid (show ¬ TaskR ((x0, x1), x2, x3, x4, x5, x6, (x7, x8), x9, x10, x11, x12, L) from fun h => hl (h.2.2.2.2.2.2.2.2.2.1 HS.out).2.1)
                                      go_wp2
                                      go_ret
                                      exact resB_no HV.out HB2.out
                                · have hp' : decide ((0 : Int) < (L.length : Int)) = false := decide_eq_false (by omega)
                                  have HS := Lib.hid (show ¬ Has x11 L from fun h => h.elim h2 (fun h => hp h.2))
                                  by_cases h7 : x12 = 0
                                  · have h7' : (x12 == 0) = true := beq_iff_eq.2 h7
                                    have H12 := Lib.hid h7
                                    clear h7
                                    obtain rfl : L = [] := List.eq_nil_of_length_eq_zero (by omega)
                                    clear hp hp' hn
                                    have HV := Lib.hid (show TaskR ((x0, x1), x2, x3, x4, x5, x6, (x7, x8), x9, x10, x11, x12, []) from ⟨H0.out, H1.out, H2.out, H3.out, H4.out, H5.out, H6.out, H7.out, HD.out, fun h => absurd h HS.out, fun _ => ⟨H12.out, rfl⟩⟩)
                                    go_wp2
                                    go_ret
                                    exact resB_yes HV.out HB2.out
                                  · have h7' : (x12 == 0) = false := beq_eq_false_iff_ne.2 h7
                                    have HV := Lib.hid (show ¬ TaskR ((x0, x1), x2, x3, x4, x5, x6, (x7, x8), x9, x10, x11, x12, L) from fun h => h7 (h.2.2.2.2.2.2.2.2.2.2 HS.out).1)
                                    go_wp2
                                    go_ret
                                    exact resB_no HV.out HB2.out
                              · have h1' : (x11 == 1) = false := beq_eq_false_iff_ne.2 h1
                                have HS := Lib.hid (show ¬ Has x11 L from fun h => h.elim h2 (fun h => h1 h.1))
                                by_cases h7 : x12 = 0
                                · have h7' : (x12 == 0) = true := beq_iff_eq.2 h7
                                  have H12 := Lib.hid h7
                                  clear h7
                                  by_cases hl : L.length = 0
                                  · have hl' : ((L.length : Int) == 0) = true := beq_iff_eq.2 (by omega)
                                    have HL := Lib.hid hl
                                    clear hl
                                    have HV := Lib.hid (show TaskR ((x0, x1), x2, x3, x4, x5, x6, (x7, x8), x9, x10, x11, x12, L) from ⟨H0.out, H1.out, H2.out, H3.out, H4.out, H5.out, H6.out, H7.out, HD.out, fun h => absurd h HS.out, fun _ => ⟨H12.out, HL.out⟩⟩)
                                    go_wp2
                                    go_ret
                                    exact resB_yes HV.out HB2.out
                                  · have hl' : ((L.length : Int) == 0) = false := beq_eq_false_iff_ne.2 (by omega)
                                    have HV := Lib.hid (show ¬ TaskR ((x0, x1), x2, x3, x4, x5, x6, (x7, x8), x9, x10, x11, x12, L) from fun h => hl (h.2.2.2.2.2.2.2.2.2.2 HS.out).2)
                                    go_wp2
                                    go_ret
                                    exact resB_no HV.out HB2.out
                                · have h7' : (x12 == 0) = false := beq_eq_false_iff_ne.2 h7
                                  have HV := Lib.hid (show ¬ TaskR ((x0, x1), x2, x3, x4, x5, x6, (x7, x8), x9, x10, x11, x12, L) from fun h => h7 (h.2.2.2.2.2.2.2.2.2.2 HS.out).1)
                                  go_wp2
                                  go_ret
                                  exact resB_no HV.out HB2.out
end Go.Proofs.Ytkghodbbgehcoaa.RepC
end
section
namespace Go.Proofs.Ytkghodbbgehcoaa.RepC
open Go.RowKit RowC ValC SpanC KeptC
set_option linter.unusedVariables false
set_option linter.unusedSimpArgs false
theorem wi_at (n lo hi : Int) {b : Bool} (hb : isB n lo hi = b) (w : World) :
    Calls Try.prog 106 #[.int .i64 n, .int .i64 lo, .int .i64 hi] w fun e w' => e = .returned (.bool b) ∧ w = w' := by
  subst hb
  exact is_impl n lo hi w
theorem ti_at (n : Int) {b : Bool} (hb : isB n 0 1000000 = b) (w : World) :
    Calls Try.prog 136 #[.int .i64 n] w fun e w' => e = .returned (.bool b) ∧ w = w' := by
  subst hb
  exact time_impl n w
theorem labi_below (l s : Int) {b : Bool} (hb : LabC.rB l s = b) (w : World) :
    Calls Try.prog 56 #[.agg #[.int .i64 l, .int .i64 s]] w fun e w' => e = .returned (.bool b) ∧ Below w.heap.size w w' := by
  subst hb
  exact (LabC.right_impl l s w).mono fun _ _ ⟨h1, h2⟩ => ⟨h1, by rw [← h2]; exact (Below.refl _ _).alloc (Nat.le_refl _) _⟩
theorem isB_io {n lo hi : Int} : isB n lo hi = true ↔ lo ≤ n ∧ n ≤ hi := isB_iff n lo hi
theorem okN_first {L : List Int} {x : Int} (hx : L[0]? = some x) : isB x 0 5 = true ↔ okN L 0 :=
  ⟨fun h y hy => by rw [hx] at hy; obtain rfl := Option.some.inj hy; exact ⟨h, fun h => absurd h (Nat.lt_irrefl _)⟩, fun h => (h x hx).1⟩
theorem okN_next {L : List Int} {k : Nat} {x y : Int} (hx : L[k]? = some x) (hr : isB x 0 5 = true) (hy : L[k + 1]? = some y) : isB y (x + 1) 5 = true ↔ okN L (k + 1) := by
  rw [isB_io] at hr ⊢
  constructor
  · intro h z hz
    rw [hy] at hz
    obtain rfl := Option.some.inj hz
    refine ⟨isB_io.2 (by omega), fun _ u hu => ?_⟩
    rw [Nat.add_sub_cancel, hx] at hu
    obtain rfl := Option.some.inj hu
    omega
  · intro h
    obtain ⟨h1, h2⟩ := h y hy
    have h3 := h2 (Nat.succ_pos _) x (by rw [Nat.add_sub_cancel]; exact hx)
    rw [isB_io] at h1
    omega
set_option maxRecDepth 100000 in
set_option maxHeartbeats 3200000 in
theorem nodes_impl {L : List Int} {a : Option Addr} {cap : Nat} {W : World} (h : RdSl I W W.heap.size L a cap) :
    Calls Try.prog 137 #[.slice a L.length cap] W (ResB (NodesR L) W) := by
  have hn : L.length ≤ 9223372036854775807 := by have h1 := h.1; have h2 := h.2.1; unfold maxLen at h2; omega
  have H := Lib.hid h
  clear h
  go_enter Try.func137, Try.ntmps137
  go_wp2
  go_loopw [3, 8] (fun l i wr => ∃ k : Nat, k ≤ L.length ∧ i = .int .i64 k ∧ (∃ m : Int, l = .int .i64 m ∧ 0 ≤ m ∧ m ≤ 6 ∧ Hid (∀ x, L[k]? = some x → (isB x m 5 = true ↔ okN L k))) ∧ Hid (∀ j, j < k → okN L j) ∧ Below W.heap.size W wr) (fun _ i _ => L.length - (intOf i).toNat)
  case atStart => exact ⟨0, Nat.zero_le _, rfl, ⟨0, rfl, by omega, by omega, Lib.hid fun x hx => okN_first hx⟩, Lib.hid fun j h => absurd h (Nat.not_lt_zero _), Below.refl _ _⟩
  case round =>
    obtain ⟨k, hk, rfl, ⟨m, rfl, hm0, hm6, HM⟩, HA, hB⟩ := hrel
    have HB := Lib.hid hB
    have hsz := hB.size
    by_cases hlt : k < L.length
    · obtain ⟨x, hx⟩ := el_some hlt
      have HX := Lib.hid hx
      obtain ⟨g, o, us, rfl, hg, hu, hr⟩ := (H.out.below I_ok hB).at_ hx
      obtain rfl : us = [_] := hr
      have hc0 : wr.cell? ⟨g, o + k, none⟩ = some (.int .i64 x) := by simpa [show I.size = 1 from rfl] using hu 0 _ rfl
      have hi0 : (0 : Int) ≤ (k : Int) := Int.natCast_nonneg _
      have hi1 : (k : Int) < (L.length : Int) := by omega
      clear hB hx hu
      obtain ⟨b, hb⟩ : ∃ b, isB x m 5 = b := ⟨_, rfl⟩
      have HR := Lib.hid hb
      clear hb
      go_wp2_with fail
      refine (wi_at _ _ _ HR.out _).mono ?_
      rintro e w2 ⟨rfl, rfl⟩
      cases b with
      | false =>
        have Hno := Lib.hid (show ¬ NodesR L from fun h => by have := (HM.out x HX.out).2 (h k hlt); rw [HR.out] at this; cases this)
        go_wp2
        go_ret
        exact resB_no Hno.out HB.out
      | true =>
        have hxb : m ≤ x ∧ x ≤ 5 := isB_io.1 HR.out
        have hx1 : IntKind.i64.wrap (x + 1) = x + 1 := IntWalk.i64_in _ (by omega)
        have hx0 := hxb.1
        have hx5 := hxb.2
        clear hxb
        have HOK := Lib.hid (all_step HA.out ((HM.out x HX.out).1 HR.out))
        have HN := Lib.hid (fun y (hy : L[k + 1]? = some y) => okN_next HX.out (isB_io.2 ⟨by omega, hx5⟩) hy)
        go_wp2
        go_roundw
        case rel => exact ⟨k + 1, by omega, by go_num, ⟨x + 1, by go_num, by omega, by omega, HN⟩, HOK, HB.out⟩
        case measure => simp [intOf]; omega
    · have Hy := Lib.hid (show NodesR L from fun i hi => HA.out i (by omega))
      clear hB
      go_wp2
      go_ret
      exact resB_yes Hy.out HB.out
set_option maxHeartbeats 1600000 in
theorem wish_impl {x3 x4 x5 : Int} {b : Bool} (hb : (isB x3 1 6 && (isB x4 1 20 && isB x5 0 9)) = b) (W : World) : Calls Try.prog 76 #[.int .i64 x3, .int .i64 x4, .int .i64 x5] W fun e w' => e = .returned (.bool b) ∧ W = w' := by
  obtain ⟨b1, h1⟩ : ∃ b, isB x3 1 6 = b := ⟨_, rfl⟩
  obtain ⟨b2, h2⟩ : ∃ b, isB x4 1 20 = b := ⟨_, rfl⟩
  obtain ⟨b3, h3⟩ : ∃ b, isB x5 0 9 = b := ⟨_, rfl⟩
  rw [h1, h2, h3] at hb
  subst hb
  have H1 := Lib.hid h1
  have H2 := Lib.hid h2
  have H3 := Lib.hid h3
  clear h1 h2 h3
  go_enter Try.func76, Try.ntmps76
  go_wp2_with fail
  refine (wi_at _ _ _ H1.out _).mono ?_
  rintro e w2 ⟨rfl, rfl⟩
  cases b1 with
  | false =>
    go_wp2
    go_ret
    exact ⟨rfl, rfl⟩
  | true =>
    go_wp2_with fail
    refine (wi_at _ _ _ H2.out _).mono ?_
    rintro e w2 ⟨rfl, rfl⟩
    cases b2 with
    | false =>
      go_wp2
      go_ret
      exact ⟨rfl, rfl⟩
    | true =>
      go_wp2_with fail
      refine (wi_at _ _ _ H3.out _).mono ?_
      rintro e w2 ⟨rfl, rfl⟩
      go_wp2
      go_ret
      exact ⟨by simp, rfl⟩
end Go.Proofs.Ytkghodbbgehcoaa.RepC
end
section
namespace Go.Proofs.Ytkghodbbgehcoaa.RepC
open Go.RowKit RowC ValC SpanC KeptC NameC
set_option linter.unusedVariables false
set_option linter.unusedSimpArgs false
theorem tid_at (n : Int) {b : Bool} (hb : isB n 1 12 = b) (w : World) :
    Calls Try.prog 75 #[.int .i64 n] w fun e w' => e = .returned (.bool b) ∧ w = w' := by
  subst hb
  go_enter Try.func75, Try.ntmps75
  go_wp2_with (go_at_call 106; refine (is_impl _ _ _ _).mono ?_; rintro e w' ⟨rfl, rfl⟩)
  go_ret
  exact ⟨rfl, rfl⟩
theorem nowI_at (n : Int) {b : Bool} (hb : isB n 0 999900 = b) (w : World) :
    Calls Try.prog 78 #[.int .i64 n] w fun e w' => e = .returned (.bool b) ∧ w = w' := by
  subst hb
  go_enter Try.func78, Try.ntmps78
  go_wp2_with (go_at_call 106; refine (is_impl _ _ _ _).mono ?_; rintro e w' ⟨rfl, rfl⟩)
  go_ret
  exact ⟨rfl, rfl⟩
def nopB (start : Int) (L : List Int) : Bool := decide (start = 0) && decide (L.length = 0)
theorem nopB_iff {start : Int} {L : List Int} : nopB start L = true ↔ NoP start L := by simp [nopB, NoP]
theorem nop_at (start : Int) {L : List Int} {a : Option Addr} {c : Nat} {b : Bool} (hb : nopB start L = b) (hn : L.length ≤ 9223372036854775807) (w : World) :
    Calls Try.prog 118 #[.int .i64 start, .slice a L.length c] w fun e w' => e = .returned (.bool b) ∧ w = w' := by
  subst hb
  by_cases h1 : start = 0
  · have h1' : (start == 0) = true := beq_iff_eq.2 h1
    by_cases h2 : L.length = 0
    · have h2' : ((L.length : Int) == 0) = true := beq_iff_eq.2 (by omega)
      have HE := Lib.hid (show nopB start L = true from nopB_iff.2 ⟨h1, h2⟩)
      clear h1 h2
      go_enter Try.func118, Try.ntmps118
      go_wp2
      go_ret
      exact ⟨by rw [HE.out]; rfl, rfl⟩
    · have h2' : ((L.length : Int) == 0) = false := beq_eq_false_iff_ne.2 (by omega)
      have HE := Lib.hid (show nopB start L = false from by rw [Bool.eq_false_iff, ne_eq, nopB_iff]; exact fun h => h2 h.2)
      clear h1
      go_enter Try.func118, Try.ntmps118
      go_wp2
      go_ret
      exact ⟨by rw [HE.out]; rfl, rfl⟩
  · have h1' : (start == 0) = false := beq_eq_false_iff_ne.2 h1
    have HE := Lib.hid (show nopB start L = false from by rw [Bool.eq_false_iff, ne_eq, nopB_iff]; exact fun h => h1 h.1)
    go_enter Try.func118, Try.ntmps118
    go_wp2
    go_ret
    exact ⟨by rw [HE.out]; rfl, rfl⟩
set_option maxRecDepth 100000 in
set_option maxHeartbeats 1600000 in
theorem place_impl (need start : Int) {L : List Int} {a : Option Addr} {c : Nat} {W : World} (h : RdSl I W W.heap.size L a c) :
    Calls Try.prog 117 #[.int .i64 need, .int .i64 start, .slice a L.length c] W (ResB (PlR need start L) W) := by
  have hn : L.length ≤ 9223372036854775807 := by have h1 := h.1; have h2 := h.2.1; unfold maxLen at h2; omega
  have H := Lib.hid h
  clear h
  obtain ⟨b, hb⟩ : ∃ b, isB start 0 1000000 = b := ⟨_, rfl⟩
  have HB := Lib.hid hb
  clear hb
  go_enter Try.func117, Try.ntmps117
  go_wp2_with fail
  refine (ti_at _ HB.out _).mono ?_
  rintro e w2 ⟨rfl, rfl⟩
  cases b with
  | false =>
    have HV := Lib.hid (show ¬ PlR need start L from fun h => by have h2 := h.1; rw [HB.out] at h2; cases h2)
    go_wp2
    go_ret
    exact resB_no HV.out (Below.refl _ _)
  | true =>
    by_cases hl : (L.length : Int) = need
    · have hl' : ((L.length : Int) == need) = true := beq_iff_eq.2 hl
      have HL := Lib.hid hl
      clear hl
      go_wp2_with fail
      refine (nodes_impl H.out).mono ?_
      intro e w3 h
      obtain ⟨b, rfl, hb, hw⟩ := resB_elim h
      have HV := Lib.hid (show (b = true ↔ PlR need start L) from hb.trans ⟨fun hN => ⟨HB.out, HL.out, hN⟩, fun h => h.2.2⟩)
      have HW := Lib.hid hw
      clear h hb hw
      go_wp2
      go_ret
      exact ⟨b, rfl, HV.out, HW.out⟩
    · have hl' : ((L.length : Int) == need) = false := beq_eq_false_iff_ne.2 hl
      have HV := Lib.hid (show ¬ PlR need start L from fun h => hl h.2.1)
      go_wp2
      go_ret
      exact resB_no HV.out (Below.refl _ _)
set_option maxRecDepth 100000 in
set_option maxHeartbeats 3200000 in
theorem dep_impl {x0 x1 x2 : Int} {x3 : ByteArray} {x4 x5 x6 x7 x8 x9 x10 x11 x12 : Int} {L : List Int} {a : Option Addr} {c : Nat} {W : World} : Calls Try.prog 77 #[.agg #[.int .i64 x0, .int .i64 x1, .int .i64 x2, .string x3, .int .i64 x4, .int .i64 x5, .int .i64 x6, .int .i64 x7, .int .i64 x8, .int .i64 x9, .int .i64 x10, .int .i64 x11, .int .i64 x12, .slice a L.length c]] W (ResB (DepR x0 x1 x2 x7 x8 x9) W) := by
  have HB0 := Lib.hid (show Below W.heap.size W (W.alloc (.cells #[.int .i64 x0, .int .i64 x1, .int .i64 x2, .string x3, .int .i64 x4, .int .i64 x5, .int .i64 x6, .int .i64 x7, .int .i64 x8, .int .i64 x9, .int .i64 x10, .int .i64 x11, .int .i64 x12, .slice a L.length c] 43)) from (Below.refl _ _).alloc (Nat.le_refl _) _)
  have HP0 := Lib.hid (Blk.new W 43 #[.int .i64 x0, .int .i64 x1, .int .i64 x2, .string x3, .int .i64 x4, .int .i64 x5, .int .i64 x6, .int .i64 x7, .int .i64 x8, .int .i64 x9, .int .i64 x10, .int .i64 x11, .int .i64 x12, .slice a L.length c])
  have hz0 : W.heap.size ≤ (W.alloc (.cells #[.int .i64 x0, .int .i64 x1, .int .i64 x2, .string x3, .int .i64 x4, .int .i64 x5, .int .i64 x6, .int .i64 x7, .int .i64 x8, .int .i64 x9, .int .i64 x10, .int .i64 x11, .int .i64 x12, .slice a L.length c] 43)).heap.size := HB0.out.size
  obtain ⟨b8, h8⟩ : ∃ b, isB x9 1 12 = b := ⟨_, rfl⟩
  obtain ⟨b9, hh⟩ : ∃ b, LabC.belowB x7 x8 x0 x1 = b := ⟨_, rfl⟩
  have H8 := Lib.hid h8
  have HBB := Lib.hid hh
  clear h8 hh
  by_cases h9 : x9 = 0
  · have h9' : (x9 == 0) = true := beq_iff_eq.2 h9
    obtain ⟨q, hq⟩ : ∃ q, decide (((x7, x8) : Int × Int) = (0, 0)) = q := ⟨_, rfl⟩
    have hqq := eql_lab x7 x8 0 0 q hq
    have HQ := Lib.hid hq
    have H9 := Lib.hid h9
    clear hq h9
    cases q with
    | false =>
      have HV := Lib.hid (show ¬ DepR x0 x1 x2 x7 x8 x9 from fun h => by have h2 := h.1 H9.out; exact of_decide_eq_false HQ.out (by rw [h2.1, h2.2]))
      go_enter Try.func77, Try.ntmps77
      go_wp2
      go_ret
      exact resB_no HV.out HB0.out
    | true =>
      have HV := Lib.hid (show DepR x0 x1 x2 x7 x8 x9 from ⟨fun _ => by have h2 := of_decide_eq_true HQ.out; simpa using h2, fun h => absurd H9.out h⟩)
      go_enter Try.func77, Try.ntmps77
      go_wp2
      go_ret
      exact resB_yes HV.out HB0.out
  · have h9' : (x9 == 0) = false := beq_eq_false_iff_ne.2 h9
    have H9 := Lib.hid h9
    clear h9
    go_enter Try.func77, Try.ntmps77
    go_wp2_with fail
    refine (tid_at _ H8.out _).mono ?_
    rintro e w2 ⟨rfl, rfl⟩
    cases b8 with
    | false =>
      have HV := Lib.hid (show ¬ DepR x0 x1 x2 x7 x8 x9 from fun h => by have h2 := (h.2 H9.out).1; rw [H8.out] at h2; cases h2)
      go_wp2
      go_ret
      exact resB_no HV.out HB0.out
    | true =>
      go_wp2_with fail
      refine (belI_at _ _ _ _ HBB.out _).mono ?_
      rintro e w1 ⟨rfl, hb⟩
      have HP1 := Lib.hid (HP0.out.call hb)
      have HB1 := Lib.hid (HB0.out.trans (hb.mono hz0))
      have hz1 : W.heap.size ≤ w1.heap.size := HB1.out.size
      clear hb
      have p0 := HP1.out.at_ 0 rfl
      have p1 := HP1.out.at_ 1 rfl
      have p2 := HP1.out.at_ 2 rfl
      have p3 := HP1.out.at_ 3 rfl
      have p4 := HP1.out.at_ 4 rfl
      have p5 := HP1.out.at_ 5 rfl
      have p6 := HP1.out.at_ 6 rfl
      have p7 := HP1.out.at_ 7 rfl
      have p8 := HP1.out.at_ 8 rfl
      have p9 := HP1.out.at_ 9 rfl
      have p10 := HP1.out.at_ 10 rfl
      have p11 := HP1.out.at_ 11 rfl
      have p12 := HP1.out.at_ 12 rfl
      have p13 := HP1.out.at_ 13 rfl
      cases b9 with
      | false =>
        have HV := Lib.hid (show ¬ DepR x0 x1 x2 x7 x8 x9 from fun h => by have h2 := (h.2 H9.out).2.1; rw [HBB.out] at h2; cases h2)
        go_wp2
        go_ret
        exact resB_no HV.out HB1.out
      | true =>
        obtain ⟨q, hq⟩ : ∃ q, decide (((x7, x8) : Int × Int) = (x0, x1)) = q := ⟨_, rfl⟩
        have hqq := neq_lab x7 x8 x0 x1 q hq
        have HQ := Lib.hid hq
        clear hq
        cases q with
        | false =>
          have HV := Lib.hid (show DepR x0 x1 x2 x7 x8 x9 from ⟨fun h => absurd h H9.out, fun _ => ⟨H8.out, HBB.out, fun h => of_decide_eq_false HQ.out (by rw [h.1.1, h.1.2])⟩⟩)
          go_wp2
          go_ret
          exact resB_yes HV.out HB1.out
        | true =>
          by_cases hle : x9 < x2
          · have hle' : decide (x9 < x2) = true := decide_eq_true hle
            have HV := Lib.hid (show DepR x0 x1 x2 x7 x8 x9 from ⟨fun h => absurd h H9.out, fun _ => ⟨H8.out, HBB.out, fun h => by have := h.2; omega⟩⟩)
            go_wp2
            go_ret
            exact resB_yes HV.out HB1.out
          · have hle' : decide (x9 < x2) = false := decide_eq_false hle
            have HV := Lib.hid (show ¬ DepR x0 x1 x2 x7 x8 x9 from fun h => (h.2 H9.out).2.2 ⟨by have h2 := of_decide_eq_true HQ.out; simpa using h2, by omega⟩)
            go_wp2
            go_ret
            exact resB_no HV.out HB1.out
set_option maxRecDepth 100000 in
set_option maxHeartbeats 3200000 in
theorem stateT_impl {x0 x1 x2 : Int} {x3 : ByteArray} {x4 x5 x6 x7 x8 x9 x10 x11 x12 : Int} {L : List Int} {a : Option Addr} {c : Nat} {W : World} (h14 : isB x4 1 6 = true) (h : RdSl I W W.heap.size L a c) : Calls Try.prog 79 #[.agg #[.int .i64 x0, .int .i64 x1, .int .i64 x2, .string x3, .int .i64 x4, .int .i64 x5, .int .i64 x6, .int .i64 x7, .int .i64 x8, .int .i64 x9, .int .i64 x10, .int .i64 x11, .int .i64 x12, .slice a L.length c]] W (ResB ((Has x11 L → PlR x4 x12 L) ∧ (¬ Has x11 L → NoP x12 L) ∧ (1 ≤ x11 ∧ x11 ≤ 6)) W) := by
  have hn : L.length ≤ 9223372036854775807 := by have h1 := h.1; have h2 := h.2.1; unfold maxLen at h2; omega
  have H := Lib.hid h
  clear h
  have HB0 := Lib.hid (show Below W.heap.size W (W.alloc (.cells #[.int .i64 x0, .int .i64 x1, .int .i64 x2, .string x3, .int .i64 x4, .int .i64 x5, .int .i64 x6, .int .i64 x7, .int .i64 x8, .int .i64 x9, .int .i64 x10, .int .i64 x11, .int .i64 x12, .slice a L.length c] 43)) from (Below.refl _ _).alloc (Nat.le_refl _) _)
  have HP0 := Lib.hid (Blk.new W 43 #[.int .i64 x0, .int .i64 x1, .int .i64 x2, .string x3, .int .i64 x4, .int .i64 x5, .int .i64 x6, .int .i64 x7, .int .i64 x8, .int .i64 x9, .int .i64 x10, .int .i64 x11, .int .i64 x12, .slice a L.length c])
  have hz0 : W.heap.size ≤ (W.alloc (.cells #[.int .i64 x0, .int .i64 x1, .int .i64 x2, .string x3, .int .i64 x4, .int .i64 x5, .int .i64 x6, .int .i64 x7, .int .i64 x8, .int .i64 x9, .int .i64 x10, .int .i64 x11, .int .i64 x12, .slice a L.length c] 43)).heap.size := HB0.out.size
  obtain ⟨b0, h0⟩ : ∃ b, nopB x12 L = b := ⟨_, rfl⟩
  have H0 := Lib.hid h0
  clear h0
  have HN := Lib.hid hn
  have HN4 := Lib.hid h14
  clear h14
  by_cases h2 : x11 = 2
  · have h2' : (x11 == 2) = true := beq_iff_eq.2 h2
    have HS := Lib.hid (show Has x11 L from .inl h2)
    have HR := Lib.hid (show 1 ≤ x11 ∧ x11 ≤ 6 from by omega)
    clear h2
    go_enter Try.func79, Try.ntmps79
    go_wp2_with fail
    refine (place_impl x4 x12 ((H.out.below I_ok HB0.out).more I_ok hz0)).mono ?_
    intro e w3 h
    obtain ⟨b, rfl, hb, hw⟩ := resB_elim h
    have HB := Lib.hid (HB0.out.trans (hw.mono hz0))
    have HV := Lib.hid (show (b = true ↔ ((Has x11 L → PlR x4 x12 L) ∧ (¬ Has x11 L → NoP x12 L) ∧ (1 ≤ x11 ∧ x11 ≤ 6))) from hb.trans ⟨fun h => ⟨fun _ => h, fun h => absurd HS.out h, HR.out⟩, fun h => h.1 HS.out⟩)
    clear h hb hw
    go_wp2
    go_ret
    exact ⟨b, rfl, HV.out, HB.out⟩
  · have h2' : (x11 == 2) = false := beq_eq_false_iff_ne.2 h2
    by_cases h1 : x11 = 1
    · have h1' : (x11 == 1) = true := beq_iff_eq.2 h1
      have HR := Lib.hid (show 1 ≤ x11 ∧ x11 ≤ 6 from by omega)
      have HE := Lib.hid (show Has x11 L ↔ 0 < L.length from ⟨fun h => h.elim (fun h => absurd h h2) (fun h => h.2), fun h => .inr ⟨h1, h⟩⟩)
      clear h1 h2
      go_enter Try.func79, Try.ntmps79
      go_wp2_with fail
      refine (nop_at x12 H0.out HN.out _).mono ?_
      rintro e w2 ⟨rfl, rfl⟩
      cases b0 with
      | true =>
        have HV := Lib.hid (show ((Has x11 L → PlR x4 x12 L) ∧ (¬ Has x11 L → NoP x12 L) ∧ (1 ≤ x11 ∧ x11 ≤ 6)) from by have h3 := nopB_iff.1 H0.out; exact ⟨fun h => by have h4 := HE.out.1 h; have h5 := h3.2; omega, fun _ => h3, HR.out⟩)
        go_wp2
        go_ret
        exact resB_yes HV.out HB0.out
      | false =>
        go_wp2_with fail
        refine (place_impl x4 x12 ((H.out.below I_ok HB0.out).more I_ok hz0)).mono ?_
        intro e w3 h
        obtain ⟨b, rfl, hb, hw⟩ := resB_elim h
        have HB := Lib.hid (HB0.out.trans (hw.mono hz0))
        have HV := Lib.hid (show (b = true ↔ ((Has x11 L → PlR x4 x12 L) ∧ (¬ Has x11 L → NoP x12 L) ∧ (1 ≤ x11 ∧ x11 ≤ 6))) from hb.trans ⟨fun h => ⟨fun _ => h, fun h2 => by exfalso; apply h2; apply HE.out.2; by_cases hl : 0 < L.length; exact hl; exfalso; have h8 := h.2.1; have h9 := (isB_iff _ _ _).1 HN4.out; omega, HR.out⟩, fun h => h.1 (HE.out.2 (by by_cases hl : 0 < L.length; exact hl; exfalso; have h4 := h.2.1 (fun h5 => hl (HE.out.1 h5)); have h6 := nopB_iff.2 h4; rw [H0.out] at h6; cases h6))⟩)
        clear h hb hw
        go_wp2
        go_ret
        exact ⟨b, rfl, HV.out, HB.out⟩
    · have h1' : (x11 == 1) = false := beq_eq_false_iff_ne.2 h1
      have HS := Lib.hid (show ¬ Has x11 L from fun h => h.elim h2 (fun h => h1 h.1))
      by_cases h3 : x11 = 3
      · have h3' : (x11 == 3) = true := beq_iff_eq.2 h3
        have h4' : (x11 == 4) = false := beq_eq_false_iff_ne.2 (by omega)
        have h5' : (x11 == 5) = false := beq_eq_false_iff_ne.2 (by omega)
        have h6' : (x11 == 6) = false := beq_eq_false_iff_ne.2 (by omega)
        have HR := Lib.hid (show 1 ≤ x11 ∧ x11 ≤ 6 from by omega)
        clear h3 h1 h2
        go_enter Try.func79, Try.ntmps79
        go_wp2_with fail
        refine (nop_at x12 H0.out HN.out _).mono ?_
        rintro e w2 ⟨rfl, rfl⟩
        cases b0 with
        | true =>
          have HV := Lib.hid (show ((Has x11 L → PlR x4 x12 L) ∧ (¬ Has x11 L → NoP x12 L) ∧ (1 ≤ x11 ∧ x11 ≤ 6)) from ⟨fun h => absurd h HS.out, fun _ => nopB_iff.1 H0.out, HR.out⟩)
          go_wp2
          go_ret
          exact resB_yes HV.out HB0.out
        | false =>
          have HV := Lib.hid (show ¬ ((Has x11 L → PlR x4 x12 L) ∧ (¬ Has x11 L → NoP x12 L) ∧ (1 ≤ x11 ∧ x11 ≤ 6)) from fun h => by have h6 := nopB_iff.2 (h.2.1 HS.out); rw [H0.out] at h6; cases h6)
          go_wp2
          go_ret
          exact resB_no HV.out HB0.out
      have h3' : (x11 == 3) = false := beq_eq_false_iff_ne.2 h3
      by_cases h4 : x11 = 4
      · have h4' : (x11 == 4) = true := beq_iff_eq.2 h4
        have h5' : (x11 == 5) = false := beq_eq_false_iff_ne.2 (by omega)
        have h6' : (x11 == 6) = false := beq_eq_false_iff_ne.2 (by omega)
        have HR := Lib.hid (show 1 ≤ x11 ∧ x11 ≤ 6 from by omega)
        clear h4 h1 h2
        go_enter Try.func79, Try.ntmps79
        go_wp2_with fail
        refine (nop_at x12 H0.out HN.out _).mono ?_
        rintro e w2 ⟨rfl, rfl⟩
        cases b0 with
        | true =>
          have HV := Lib.hid (show ((Has x11 L → PlR x4 x12 L) ∧ (¬ Has x11 L → NoP x12 L) ∧ (1 ≤ x11 ∧ x11 ≤ 6)) from ⟨fun h => absurd h HS.out, fun _ => nopB_iff.1 H0.out, HR.out⟩)
          go_wp2
          go_ret
          exact resB_yes HV.out HB0.out
        | false =>
          have HV := Lib.hid (show ¬ ((Has x11 L → PlR x4 x12 L) ∧ (¬ Has x11 L → NoP x12 L) ∧ (1 ≤ x11 ∧ x11 ≤ 6)) from fun h => by have h6 := nopB_iff.2 (h.2.1 HS.out); rw [H0.out] at h6; cases h6)
          go_wp2
          go_ret
          exact resB_no HV.out HB0.out
      have h4' : (x11 == 4) = false := beq_eq_false_iff_ne.2 h4
      by_cases h5 : x11 = 5
      · have h5' : (x11 == 5) = true := beq_iff_eq.2 h5
        have h6' : (x11 == 6) = false := beq_eq_false_iff_ne.2 (by omega)
        have HR := Lib.hid (show 1 ≤ x11 ∧ x11 ≤ 6 from by omega)
        clear h5 h1 h2
        go_enter Try.func79, Try.ntmps79
        go_wp2_with fail
        refine (nop_at x12 H0.out HN.out _).mono ?_
        rintro e w2 ⟨rfl, rfl⟩
        cases b0 with
        | true =>
          have HV := Lib.hid (show ((Has x11 L → PlR x4 x12 L) ∧ (¬ Has x11 L → NoP x12 L) ∧ (1 ≤ x11 ∧ x11 ≤ 6)) from ⟨fun h => absurd h HS.out, fun _ => nopB_iff.1 H0.out, HR.out⟩)
          go_wp2
          go_ret
          exact resB_yes HV.out HB0.out
        | false =>
          have HV := Lib.hid (show ¬ ((Has x11 L → PlR x4 x12 L) ∧ (¬ Has x11 L → NoP x12 L) ∧ (1 ≤ x11 ∧ x11 ≤ 6)) from fun h => by have h6 := nopB_iff.2 (h.2.1 HS.out); rw [H0.out] at h6; cases h6)
          go_wp2
          go_ret
          exact resB_no HV.out HB0.out
      have h5' : (x11 == 5) = false := beq_eq_false_iff_ne.2 h5
      by_cases h6 : x11 = 6
      · have h6' : (x11 == 6) = true := beq_iff_eq.2 h6
        have HR := Lib.hid (show 1 ≤ x11 ∧ x11 ≤ 6 from by omega)
        clear h6 h1 h2
        go_enter Try.func79, Try.ntmps79
        go_wp2_with fail
        refine (nop_at x12 H0.out HN.out _).mono ?_
        rintro e w2 ⟨rfl, rfl⟩
        cases b0 with
        | true =>
          have HV := Lib.hid (show ((Has x11 L → PlR x4 x12 L) ∧ (¬ Has x11 L → NoP x12 L) ∧ (1 ≤ x11 ∧ x11 ≤ 6)) from ⟨fun h => absurd h HS.out, fun _ => nopB_iff.1 H0.out, HR.out⟩)
          go_wp2
          go_ret
          exact resB_yes HV.out HB0.out
        | false =>
          have HV := Lib.hid (show ¬ ((Has x11 L → PlR x4 x12 L) ∧ (¬ Has x11 L → NoP x12 L) ∧ (1 ≤ x11 ∧ x11 ≤ 6)) from fun h => by have h6 := nopB_iff.2 (h.2.1 HS.out); rw [H0.out] at h6; cases h6)
          go_wp2
          go_ret
          exact resB_no HV.out HB0.out
      have h6' : (x11 == 6) = false := beq_eq_false_iff_ne.2 h6
      have HR := Lib.hid (show ¬ (1 ≤ x11 ∧ x11 ≤ 6) from by omega)
      clear h1 h2 h3 h4 h5 h6
      have HV := Lib.hid (show ¬ ((Has x11 L → PlR x4 x12 L) ∧ (¬ Has x11 L → NoP x12 L) ∧ (1 ≤ x11 ∧ x11 ≤ 6)) from fun h => HR.out h.2.2)
      go_enter Try.func79, Try.ntmps79
      go_wp2
      go_ret
      exact resB_no HV.out HB0.out
theorem wishI_at {x3 x4 x5 : Int} {b : Bool} (hb : (isB x3 1 6 && (isB x4 1 20 && isB x5 0 9)) = b) (W : World) : Calls Try.prog 76 #[.int .i64 x3, .int .i64 x4, .int .i64 x5] W fun e w' => e = .returned (.bool b) ∧ W = w' := wish_impl hb W
theorem taskR_of (x0 x1 x2 : Int) (x3 : ByteArray) (x4 x5 x6 x7 x8 x9 x10 x11 x12 : Int) (L : List Int)  : TaskR ((x0, x1), x2, x3, x4, x5, x6, (x7, x8), x9, x10, x11, x12, L) ↔ LabC.rB x0 x1 = true ∧ isB x2 1 12 = true ∧ nameB x3 = true ∧ (isB x4 1 6 && (isB x5 1 20 && isB x6 0 9)) = true ∧ DepR x0 x1 x2 x7 x8 x9 ∧ isB x10 0 999900 = true ∧ ((Has x11 L → PlR x4 x12 L) ∧ (¬ Has x11 L → NoP x12 L) ∧ (1 ≤ x11 ∧ x11 ≤ 6)) := by
  show _ ∧ _ ∧ _ ∧ _ ∧ _ ∧ _ ∧ _ ∧ _ ∧ _ ∧ _ ∧ _ ↔ _
  simp only [Bool.and_eq_true]
  constructor
  · rintro ⟨h0, h1, h2, h3, h4, h5, h6, h7, h8, h9, h10⟩
    exact ⟨h0, h1, h2, ⟨h3, h4, h5⟩, h8, h6, h9, h10, (isB_iff _ _ _).1 h7⟩
  · rintro ⟨h0, h1, h2, ⟨h3, h4, h5⟩, h8, h6, h9, h10, h7⟩
    exact ⟨h0, h1, h2, h3, h4, h5, h6, (isB_iff _ _ _).2 h7, h8, h9, h10⟩
set_option maxRecDepth 100000 in
set_option maxHeartbeats 3200000 in
theorem taskP_impl {x0 x1 x2 : Int} {x3 : ByteArray} {x4 x5 x6 x7 x8 x9 x10 x11 x12 : Int} {L : List Int} {a : Option Addr} {c : Nat} {W : World} (b_x3 : x3.size ≤ maxLen) (h : RdSl I W W.heap.size L a c) : Calls Try.prog 26 #[.agg #[.int .i64 x0, .int .i64 x1, .int .i64 x2, .string x3, .int .i64 x4, .int .i64 x5, .int .i64 x6, .int .i64 x7, .int .i64 x8, .int .i64 x9, .int .i64 x10, .int .i64 x11, .int .i64 x12, .slice a L.length c]] W (ResB (TaskR ((x0, x1), x2, x3, x4, x5, x6, (x7, x8), x9, x10, x11, x12, L)) W) := by
  have hn : L.length ≤ 9223372036854775807 := by have h1 := h.1; have h2 := h.2.1; unfold maxLen at h2; omega
  have H := Lib.hid h
  clear h
  have HX3 := Lib.hid b_x3
  unfold maxLen at b_x3
  have HB0 := Lib.hid (show Below W.heap.size W (W.alloc (.cells #[.int .i64 x0, .int .i64 x1, .int .i64 x2, .string x3, .int .i64 x4, .int .i64 x5, .int .i64 x6, .int .i64 x7, .int .i64 x8, .int .i64 x9, .int .i64 x10, .int .i64 x11, .int .i64 x12, .slice a L.length c] 43)) from (Below.refl _ _).alloc (Nat.le_refl _) _)
  have HP0 := Lib.hid (Blk.new W 43 #[.int .i64 x0, .int .i64 x1, .int .i64 x2, .string x3, .int .i64 x4, .int .i64 x5, .int .i64 x6, .int .i64 x7, .int .i64 x8, .int .i64 x9, .int .i64 x10, .int .i64 x11, .int .i64 x12, .slice a L.length c])
  have hz0 : W.heap.size ≤ (W.alloc (.cells #[.int .i64 x0, .int .i64 x1, .int .i64 x2, .string x3, .int .i64 x4, .int .i64 x5, .int .i64 x6, .int .i64 x7, .int .i64 x8, .int .i64 x9, .int .i64 x10, .int .i64 x11, .int .i64 x12, .slice a L.length c] 43)).heap.size := HB0.out.size
  have JO := Lib.hid (taskR_of x0 x1 x2 x3 x4 x5 x6 x7 x8 x9 x10 x11 x12 L)
  obtain ⟨b0, h0⟩ : ∃ b, LabC.rB x0 x1 = b := ⟨_, rfl⟩
  have H0 := Lib.hid h0
  clear h0
  obtain ⟨b1, h1⟩ : ∃ b, isB x2 1 12 = b := ⟨_, rfl⟩
  have H1 := Lib.hid h1
  clear h1
  obtain ⟨b2, h2⟩ : ∃ b, nameB x3 = b := ⟨_, rfl⟩
  have H2 := Lib.hid h2
  clear h2
  obtain ⟨b3, h3⟩ : ∃ b, (isB x4 1 6 && (isB x5 1 20 && isB x6 0 9)) = b := ⟨_, rfl⟩
  have H3 := Lib.hid h3
  clear h3
  obtain ⟨b5, h5⟩ : ∃ b, isB x10 0 999900 = b := ⟨_, rfl⟩
  have H5 := Lib.hid h5
  clear h5
  go_enter Try.func26, Try.ntmps26
  go_wp2_with fail
  refine (labi_below x0 x1 H0.out _).mono ?_
  rintro e w1 ⟨rfl, hb⟩
  have HP1 := Lib.hid (HP0.out.call hb)
  have HB1 := Lib.hid (HB0.out.trans (hb.mono hz0))
  have hz1 : W.heap.size ≤ w1.heap.size := HB1.out.size
  clear hb
  have p0 := HP1.out.at_ 0 rfl
  have p1 := HP1.out.at_ 1 rfl
  have p2 := HP1.out.at_ 2 rfl
  have p3 := HP1.out.at_ 3 rfl
  have p4 := HP1.out.at_ 4 rfl
  have p5 := HP1.out.at_ 5 rfl
  have p6 := HP1.out.at_ 6 rfl
  have p7 := HP1.out.at_ 7 rfl
  have p8 := HP1.out.at_ 8 rfl
  have p9 := HP1.out.at_ 9 rfl
  have p10 := HP1.out.at_ 10 rfl
  have p11 := HP1.out.at_ 11 rfl
  have p12 := HP1.out.at_ 12 rfl
  have p13 := HP1.out.at_ 13 rfl
  clear HP0 HB0
  cases b0 with
  | false =>
    have HV := Lib.hid (show ¬ TaskR ((x0, x1), x2, x3, x4, x5, x6, (x7, x8), x9, x10, x11, x12, L) from fun h => by have h2 := (JO.out.1 h).1; rw [H0.out] at h2; cases h2)
    go_wp2
    go_ret
    exact resB_no HV.out HB1.out
  | true =>
    go_wp2_with fail
    refine (tid_at _ H1.out _).mono ?_
    rintro e w2 ⟨rfl, rfl⟩
    cases b1 with
    | false =>
      have HV := Lib.hid (show ¬ TaskR ((x0, x1), x2, x3, x4, x5, x6, (x7, x8), x9, x10, x11, x12, L) from fun h => by have h2 := (JO.out.1 h).2.1; rw [H1.out] at h2; cases h2)
      go_wp2
      go_ret
      exact resB_no HV.out HB1.out
    | true =>
      go_wp2_with fail
      refine (nameI_at HX3.out H2.out _).mono ?_
      rintro e w2 ⟨rfl, rfl⟩
      cases b2 with
      | false =>
        have HV := Lib.hid (show ¬ TaskR ((x0, x1), x2, x3, x4, x5, x6, (x7, x8), x9, x10, x11, x12, L) from fun h => by have h2 := (JO.out.1 h).2.2.1; rw [H2.out] at h2; cases h2)
        go_wp2
        go_ret
        exact resB_no HV.out HB1.out
      | true =>
        go_wp2_with fail
        refine (wishI_at H3.out _).mono ?_
        rintro e w2 ⟨rfl, rfl⟩
        cases b3 with
        | false =>
          have HV := Lib.hid (show ¬ TaskR ((x0, x1), x2, x3, x4, x5, x6, (x7, x8), x9, x10, x11, x12, L) from fun h => by have h2 := (JO.out.1 h).2.2.2.1; rw [H3.out] at h2; cases h2)
          go_wp2
          go_ret
          exact resB_no HV.out HB1.out
        | true =>
          have HN4 := Lib.hid (show isB x4 1 6 = true from by have h2 := H3.out; simp only [Bool.and_eq_true] at h2; exact h2.1)
          go_wp2_with fail
          refine (dep_impl (x3 := x3) (L := L) (a := a) (c := c)).mono ?_
          intro e w2 h
          obtain ⟨d, rfl, hd, hb⟩ := resB_elim h
          have HD := Lib.hid hd
          clear h hd
          have HP2 := Lib.hid (HP1.out.call hb)
          have HB2 := Lib.hid (HB1.out.trans (hb.mono hz1))
          have hz2 : W.heap.size ≤ w2.heap.size := HB2.out.size
          clear hb
          clear p0 p1 p2 p3 p4 p5 p6 p7 p8 p9 p10 p11 p12 p13
          have p0 := HP2.out.at_ 0 rfl
          have p1 := HP2.out.at_ 1 rfl
          have p2 := HP2.out.at_ 2 rfl
          have p3 := HP2.out.at_ 3 rfl
          have p4 := HP2.out.at_ 4 rfl
          have p5 := HP2.out.at_ 5 rfl
          have p6 := HP2.out.at_ 6 rfl
          have p7 := HP2.out.at_ 7 rfl
          have p8 := HP2.out.at_ 8 rfl
          have p9 := HP2.out.at_ 9 rfl
          have p10 := HP2.out.at_ 10 rfl
          have p11 := HP2.out.at_ 11 rfl
          have p12 := HP2.out.at_ 12 rfl
          have p13 := HP2.out.at_ 13 rfl
          cases d with
          | false =>
            have HV := Lib.hid (show ¬ TaskR ((x0, x1), x2, x3, x4, x5, x6, (x7, x8), x9, x10, x11, x12, L) from fun h => by have h2 := HD.out.2 (JO.out.1 h).2.2.2.2.1; cases h2)
            go_wp2
            go_ret
            exact resB_no HV.out HB2.out
          | true =>
            go_wp2_with fail
            refine (nowI_at _ H5.out _).mono ?_
            rintro e w3 ⟨rfl, rfl⟩
            cases b5 with
            | false =>
              have HV := Lib.hid (show ¬ TaskR ((x0, x1), x2, x3, x4, x5, x6, (x7, x8), x9, x10, x11, x12, L) from fun h => by have h2 := (JO.out.1 h).2.2.2.2.2.1; rw [H5.out] at h2; cases h2)
              go_wp2
              go_ret
              exact resB_no HV.out HB2.out
            | true =>
              go_wp2_with fail
              refine (stateT_impl (x3 := x3) HN4.out ((H.out.below I_ok HB2.out).more I_ok hz2)).mono ?_
              intro e w4 h
              obtain ⟨b, rfl, hb, hw⟩ := resB_elim h
              have HB := Lib.hid (HB2.out.trans (hw.mono hz2))
              have HV := Lib.hid (show (b = true ↔ TaskR ((x0, x1), x2, x3, x4, x5, x6, (x7, x8), x9, x10, x11, x12, L)) from hb.trans ⟨fun hS => JO.out.2 ⟨H0.out, H1.out, H2.out, H3.out, (by simpa using HD.out), H5.out, hS⟩, fun h => (JO.out.1 h).2.2.2.2.2.2⟩)
              clear h hb hw
              go_wp2
              go_ret
              exact ⟨b, rfl, HV.out, HB.out⟩
end Go.Proofs.Ytkghodbbgehcoaa.RepC
end
section
namespace Go.Proofs.Ytkghodbbgehcoaa.LiftL
open Go.ChangeShapes Go.WideShapes Go.ChangeAt Go.RowKit Go.Joins
section
variable {H : Type} {enc : TypeId × Value → H} {P : Program}
def allRead (P : Program) (ts : List TypeId) : Bool := ts.all fun t => P.readableRec t && decide (t < P.types.size)
theorem trodAll_stays (hl : laidOutB P = true) {W W' : World} (hb : Below W.heap.size W W') : ∀ (ts : List TypeId) (vs : List Value) (ds : List (DataW H)) (ps : List MemPlace), allRead P ts = true →
    DataW.TrodAll enc P W 0 (fun _ => true) true ts vs ds ps → DataW.TrodAll enc P W' 0 (fun b => decide (b < W.heap.size)) true ts vs ds ps
  | [], vs, ds, ps, _, h => by
    obtain ⟨rfl, rfl, rfl⟩ := trodAll_nil h
    exact trodAll_mk0
  | t :: ts, vs, ds, ps, hr, h => by
    obtain ⟨v, vs', d, ds', p, q, rfl, rfl, rfl, h1, h2⟩ := trodAll_cons h
    have hr' : (P.readableRec t = true ∧ t < P.types.size) ∧ allRead P ts = true := by
      unfold allRead at hr
      simpa [List.all_cons, allRead] using hr
    have lt : ∀ x ∈ p, x.block < W.heap.size := by obtain ⟨m, hm⟩ := h1; exact DataW.trod_lt m _ _ _ hm
    exact trodAll_cons_mk (Below.trod hl hr'.1.1 hr'.1.2 h1 hb lt) (trodAll_stays hl hb ts vs' ds' q hr'.2 h2)
theorem var_stays {W W' : World} (hb : Below W.heap.size W W') {n : String} {g : Nat} {cs : Array Value} (hg : P.globalNamed n = some g) (h : W.var? P n = some cs) : W'.var? P n = some cs := by
  have hlt : g < W.heap.size := by
    simp only [World.var?, hg, Option.bind_some] at h
    cases hw : W.heap[g]? with
    | none => rw [hw] at h; simp at h
    | some o => exact (Array.getElem?_eq_some_iff.1 hw).1
  simp only [World.var?, hg, Option.bind_some] at h ⊢
  rw [hb.block g hlt]
  exact h
def varsRead (P : Program) (ns : List String) : Bool := ns.all fun n => match (P.globalNamed n).bind (fun g => (P.globals[g]?).map (·.type)) with | some t => P.readableRec t && decide (t < P.types.size) | none => false
theorem trodVars_stays (hl : laidOutB P = true) {W W' : World} (hb : Below W.heap.size W W') : ∀ (ns : List String) (gs : List (DataW H)) (ps : List MemPlace), varsRead P ns = true →
    DataW.TrodVars enc P W (fun _ => true) ns gs ps → DataW.TrodVars enc P W' (fun b => decide (b < W.heap.size)) ns gs ps
  | [], gs, ps, _, h => by
    obtain ⟨rfl, rfl⟩ := trodVars_none h
    exact rfl
  | n :: ns, [], ps, _, h => by cases h
  | n :: ns, d :: gs, ps, hr, h => by
    obtain ⟨g, t, cs, fuel, p, q, h1, h2, h3, h4, h5, rfl⟩ := h
    have hr' : (P.readableRec t = true ∧ t < P.types.size) ∧ varsRead P ns = true := by
      unfold varsRead at hr
      rw [List.all_cons, Bool.and_eq_true] at hr
      have h0 := hr.1
      rw [h1, Option.bind_some, h2] at h0
      simp only [Bool.and_eq_true, decide_eq_true_eq] at h0
      exact ⟨h0, hr.2⟩
    have lt : ∀ x ∈ p, x.block < W.heap.size := DataW.trod_lt fuel _ _ _ h4
    obtain ⟨fuel', h6⟩ := Below.trod hl hr'.1.1 hr'.1.2 (v := .agg cs) (d := d) (ps := p) ⟨fuel, h4⟩ hb lt
    exact ⟨g, t, cs, fuel', p, q, h1, h2, var_stays hb h1 h3, h6, trodVars_stays hl hb ns gs q hr'.2 h5, rfl⟩
theorem post_law {f : Func} {s : ChangeSpec} {W W' : World} {args : Array Value} {ds gs : List (DataW H)} {before : List MemPlace} {tb : TypeId} (hspec : s.fn H (ds ++ gs) = { results := [.lit (.bool true)], args := ds, vars := gs })
    (hl : laidOutB P = true) (hr : allRead P f.params.toList = true) (hv : varsRead P s.vars = true) (hres : f.resultTypes = #[tb]) (hbool : P.underlying tb = some .bool)
    (hW : DataW.Whole enc P f.params.toList s.vars false W args.toList ds gs before) (hb : Below W.heap.size W W') : s.post enc P f false true false false W args (.bool true) W' := by
  have hW' := hW
  obtain ⟨p, q, hA, hV, rfl, _, _⟩ := hW
  refine ⟨ds, gs, _, [], p, q, hW', ?_, ?_, ?_, hb.frame _, fun h => by cases h⟩
  · rw [hspec, hres]
    exact trodAll_mk1 (shut_bool hbool _)
  · rw [hspec]
    exact trodAll_stays hl hb _ _ _ _ hr hA
  · rw [hspec]
    exact trodVars_stays hl hb _ _ _ hv hV
end
end Go.Proofs.Ytkghodbbgehcoaa.LiftL
end
