/- Of this claim's texts the part 7: Lab LabJoin LabBelow. -/
import Derived.Test.YtlgflddljhldhaaGreatRows
import Derived.WalkKit
import Derived.ProofKit
import Derived.Below
import Derived.LoopTactic
import Derived.BigQuiet
import Derived.Deep.QuietTactic
import Derived.Deep.RegionWith
import Derived.RegionTactic
import Derived.WalkSpells
import Derived.WalkLawsBesides
import Derived.IntWalk
import Derived.Lib.Hide
import Derived.StillTailTactics
import Derived.Test.YtlgflddljhldhaaGreatPN2
section
namespace Go.Proofs.YtlgflddljhldhaaGreat.LabC
open Go.RowKit
def rP (l s : Int) : Prop := 0 ≤ l ∧ l ≤ 3 ∧ 0 ≤ s ∧ s ≤ 7
def rB (l s : Int) : Bool := decide (0 ≤ l) && (decide (l ≤ 3) && (decide (0 ≤ s) && decide (s ≤ 7)))
theorem rB_iff (l s : Int) : rB l s = true ↔ rP l s := by unfold rB rP; simp
def isB (n lo hi : Int) : Bool := decide (lo ≤ n) && decide (n ≤ hi)
def lab (l s : Int) : Value := .agg #[.int .i64 l, .int .i64 s]
theorem is_any (n lo hi : Int) (w : World) :
    Calls Tryz.prog 74 #[.int .i64 n, .int .i64 lo, .int .i64 hi] w fun e w' => e = .returned (.bool (isB n lo hi)) ∧ w = w' := by
  by_cases h1 : lo ≤ n
  · by_cases h2 : n ≤ hi
    · have hb : isB n lo hi = true := by simp [isB, h1, h2]
      rw [hb]; clear hb
      go_enter Tryz.func74, Tryz.ntmps74
      go_wp2
      go_ret
      exact ⟨rfl, rfl⟩
    · have hb : isB n lo hi = false := by simp [isB, h1, h2]
      rw [hb]; clear hb
      have h2' : decide (n ≤ hi) = false := by simpa using h2
      go_enter Tryz.func74, Tryz.ntmps74
      go_wp2
      go_ret
      exact ⟨rfl, rfl⟩
  · have hb : isB n lo hi = false := by simp [isB, h1]
    rw [hb]; clear hb
    have h1' : decide (lo ≤ n) = false := by simpa using h1
    go_enter Tryz.func74, Tryz.ntmps74
    go_wp2
    go_ret
    exact ⟨rfl, rfl⟩
def labO (l s : Int) : Obj := .cells #[.int .i64 l, .int .i64 s] 47
theorem right_spec (l s : Int) (w : World) :
    Calls Tryz.prog 62 #[lab l s] w fun e w' => e = .returned (.bool (rB l s)) ∧ w.alloc (labO l s) = w' := by
  unfold lab
  by_cases h1 : isB l 0 3 = true
  · have hb : rB l s = isB s 0 7 := by simp [isB] at h1; simp [rB, isB, h1]
    rw [hb]; clear hb
    go_enter Tryz.func62, Tryz.ntmps62
    go_wp2_with (go_at_call 74; refine (is_any _ _ _ _).mono ?_; rintro e w' ⟨rfl, rfl⟩)
    go_ret
    exact ⟨rfl, rfl⟩
  · have h1' : isB l 0 3 = false := by simpa using h1
    have hb : rB l s = false := by
      simp [isB] at h1; simp [rB]; omega
    rw [hb]; clear hb h1
    go_enter Tryz.func62, Tryz.ntmps62
    go_wp2_with (go_at_call 74; refine (is_any _ _ _ _).mono ?_; rintro e w' ⟨rfl, rfl⟩)
    go_ret
    exact ⟨rfl, rfl⟩
theorem le_f {a b : Int} (h : ¬ a ≤ b) : decide (a ≤ b) = false := by simpa using h
theorem right_impl (l s : Int) (w : World) :
    Calls Tryz.prog 95 #[lab l s] w fun e w' => e = .returned (.bool (rB l s)) ∧ w.alloc (labO l s) = w' := by
  unfold lab
  by_cases h1 : 0 ≤ l
  · by_cases h2 : l ≤ 3
    · by_cases h3 : 0 ≤ s
      · by_cases h4 : s ≤ 7
        · have hb : rB l s = true := by rw [rB_iff]; exact ⟨h1, h2, h3, h4⟩
          rw [hb]; clear hb
          go_enter Tryz.func95, Tryz.ntmps95
          go_wp2
          go_ret
          exact ⟨rfl, rfl⟩
        · have hb : rB l s = false := by simp [rB]; omega
          rw [hb]; clear hb
          have g := le_f h4
          go_enter Tryz.func95, Tryz.ntmps95
          go_wp2
          go_ret
          exact ⟨rfl, rfl⟩
      · have hb : rB l s = false := by simp [rB]; omega
        rw [hb]; clear hb
        have g := le_f h3
        go_enter Tryz.func95, Tryz.ntmps95
        go_wp2
        go_ret
        exact ⟨rfl, rfl⟩
    · have hb : rB l s = false := by simp [rB]; omega
      rw [hb]; clear hb
      have g := le_f h2
      go_enter Tryz.func95, Tryz.ntmps95
      go_wp2
      go_ret
      exact ⟨rfl, rfl⟩
  · have hb : rB l s = false := by simp [rB]; omega
    rw [hb]; clear hb
    have g := le_f h1
    go_enter Tryz.func95, Tryz.ntmps95
    go_wp2
    go_ret
    exact ⟨rfl, rfl⟩
def minV (a b : Int) : Int := if a < b then a else b
def bB (l s m t : Int) : Bool := decide (l ≤ m) && (bits BinOp.and IntKind.i64 s t == s)
theorem below2_spec (l s m t : Int) (w : World) :
    Calls Tryz.prog 63 #[lab l s, lab m t] w fun e w' => e = .returned (.bool (bB l s m t)) ∧ (w.alloc (labO l s)).alloc (labO m t) = w' := by
  unfold lab
  by_cases h : l ≤ m
  · have hb : bB l s m t = (bits BinOp.and IntKind.i64 s t == s) := by simp [bB, h]
    rw [hb]; clear hb
    go_enter Tryz.func63, Tryz.ntmps63
    go_wp2
    go_ret
    exact ⟨rfl, rfl⟩
  · have hb : bB l s m t = false := by simp [bB, h]
    rw [hb]; clear hb
    have g := le_f h
    go_enter Tryz.func63, Tryz.ntmps63
    go_wp2
    go_ret
    exact ⟨rfl, rfl⟩
def meetV (l s m t : Int) : Value := if rB l s = true ∧ rB m t = true then lab (minV l m) (bits BinOp.and IntKind.i64 s t) else lab 0 0
theorem min_lt {a b : Int} (h : a < b) : a = minV a b := by unfold minV; split <;> omega
theorem min_ge {a b : Int} (h : b ≤ a) : b = minV a b := by unfold minV; split <;> omega
end Go.Proofs.YtlgflddljhldhaaGreat.LabC
end
section
namespace Go.Proofs.YtlgflddljhldhaaGreat.LabC
open Go.RowKit
theorem meet_yes {l s m t : Int} (h1 : rB l s = true) (h2 : rB m t = true) : meetV l s m t = lab (minV l m) (bits BinOp.and IntKind.i64 s t) := by unfold meetV; rw [if_pos ⟨h1, h2⟩]
theorem meet_no1 {l s m t : Int} (h1 : rB l s = false) : meetV l s m t = .agg #[.int .i64 0, .int .i64 0] := by unfold meetV; rw [if_neg (by simp [h1])]; rfl
theorem meet_no2 {l s m t : Int} (h1 : rB m t = false) : meetV l s m t = .agg #[.int .i64 0, .int .i64 0] := by unfold meetV; rw [if_neg (by simp [h1])]; rfl
set_option maxRecDepth 100000 in
set_option maxHeartbeats 1600000 in
theorem meet_impl (l s m t : Int) (w : World) :
    Calls Tryz.prog 96 #[lab l s, lab m t] w fun e w' => e = .returned (meetV l s m t) ∧ Below w.heap.size w w' := by
  by_cases h1 : rB l s = true
  · by_cases h2 : rB m t = true
    · rw [meet_yes h1 h2]
      unfold lab
      go_enter Tryz.func96, Tryz.ntmps96
      go_wp2_with (go_at_call 95; refine (right_impl _ _ _).mono ?_; unfold labO; rintro e w1 ⟨rfl, rfl⟩)
      all_goals
        refine bodyPost_ret (v := .agg #[.int .i64 (minV l m), .int .i64 (bits BinOp.and IntKind.i64 s t)]) (by simp [results, Tryz.results96, go_sem]; first | exact min_lt ‹_› | exact min_ge ‹_› | (unfold minV; split <;> omega)) rfl ⟨rfl, ?_⟩
        repeat (first | exact Below.refl _ _ | refine Below.setCell ?_ (by simp <;> omega) _ | refine Below.drew ?_ | refine Below.alloc ?_ (by simp <;> omega) _)
    · have h2' : rB m t = false := by simpa using h2
      rw [meet_no2 h2']
      clear h2
      unfold lab
      go_enter Tryz.func96, Tryz.ntmps96
      go_wp2_with (go_at_call 95; refine (right_impl _ _ _).mono ?_; unfold labO; rintro e w1 ⟨rfl, rfl⟩)
      refine bodyPost_ret (v := .agg #[.int .i64 0, .int .i64 0]) (by simp [results, Tryz.results96, go_sem]) rfl ⟨rfl, ?_⟩
      repeat (first | exact Below.refl _ _ | refine Below.setCell ?_ (by simp <;> omega) _ | refine Below.drew ?_ | refine Below.alloc ?_ (by simp <;> omega) _)
  · have h1' : rB l s = false := by simpa using h1
    rw [meet_no1 h1']
    clear h1
    unfold lab
    go_enter Tryz.func96, Tryz.ntmps96
    go_wp2_with (go_at_call 95; refine (right_impl _ _ _).mono ?_; unfold labO; rintro e w1 ⟨rfl, rfl⟩)
    refine bodyPost_ret (v := .agg #[.int .i64 0, .int .i64 0]) (by simp [results, Tryz.results96, go_sem]) rfl ⟨rfl, ?_⟩
    repeat (first | exact Below.refl _ _ | refine Below.setCell ?_ (by simp <;> omega) _ | refine Below.drew ?_ | refine Below.alloc ?_ (by simp <;> omega) _)
end Go.Proofs.YtlgflddljhldhaaGreat.LabC
end
section
namespace Go.Proofs.YtlgflddljhldhaaGreat.LabC
open Go.RowKit KeptC
theorem inits (w : World) (l s m t : Int) (k k' : TypeId) : KS w (w.heap.size + 2) [(w.heap.size, 0, .int .i64 l), (w.heap.size, 1, .int .i64 s), (w.heap.size + 1, 0, .int .i64 m), (w.heap.size + 1, 1, .int .i64 t)] ((w.alloc (.cells #[.int .i64 l, .int .i64 s] k)).alloc (.cells #[.int .i64 m, .int .i64 t] k')) :=
  ⟨by simp, by simp, by simp, ((Below.refl _ _).alloc (Nat.le_refl _) _).alloc (by simp) _, by simp⟩
theorem ri_w (l s : Int) (w : World) : Calls Tryz.prog 95 #[.agg #[.int .i64 l, .int .i64 s]] w fun e w' => e = .returned (.bool (rB l s)) ∧ Below w.heap.size w w' :=
  (right_impl l s w).mono fun e w' ⟨he, hw⟩ => ⟨he, by rw [← hw]; exact (Below.refl _ _).alloc (Nat.le_refl _) _⟩
def belowB (l s m t : Int) : Bool := rB l s && (rB m t && bB l s m t)
theorem below_yes {l s m t : Int} (h1 : rB l s = true) (h2 : rB m t = true) : belowB l s m t = bB l s m t := by simp [belowB, h1, h2]
theorem below_no1 {l s m t : Int} (h1 : rB l s = false) : belowB l s m t = false := by simp [belowB, h1]
theorem below_no2 {l s m t : Int} (h1 : rB m t = false) : belowB l s m t = false := by simp [belowB, h1]
theorem eq_below (l s m t : Int) : bB l s m t = ((minV l m == l) && (bits BinOp.and IntKind.i64 s t == s)) := by
  have h : decide (l ≤ m) = (minV l m == l) := by
    rw [Bool.eq_iff_iff]; simp [minV]; omega
  unfold bB
  rw [h]
theorem two_ways (a b : Bool) : a = false ∧ (a && b) = false ∨ (a = true ∧ b = false) ∧ (a && b) = false ∨ (a = true ∧ b = true) ∧ (a && b) = true := by cases a <;> cases b <;> simp
set_option maxRecDepth 100000 in
set_option maxHeartbeats 1600000 in
theorem below_impl (l s m t : Int) (w : World) :
    Calls Tryz.prog 65 #[lab l s, lab m t] w fun e w' => e = .returned (.bool (belowB l s m t)) ∧ Below w.heap.size w w' := by
  by_cases h1 : rB l s = true
  · by_cases h2 : rB m t = true
    · rw [below_yes h1 h2, eq_below]
      have HM : ∀ w, Calls Tryz.prog 96 #[lab l s, lab m t] w fun e w' => e = .returned (lab (minV l m) (bits BinOp.and IntKind.i64 s t)) ∧ Below w.heap.size w w' := by
        intro w
        have := meet_impl l s m t w
        rw [meet_yes h1 h2] at this
        exact this
      generalize minV l m = p at *
      generalize bits BinOp.and IntKind.i64 s t = q at *
      unfold lab at *
      rcases two_ways (p == l) (q == s) with ⟨g1, g⟩ | ⟨⟨g1, g2⟩, g⟩ | ⟨⟨g1, g2⟩, g⟩
      all_goals
        rw [g]
        clear g
        go_enter Tryz.func65, Tryz.ntmps65
        go_wp2_with fail
        go_region_held3 (fun W => W.cell? ⟨w.heap.size, 0, none⟩ = some (.int .i64 l) ∧ W.cell? ⟨w.heap.size, 1, none⟩ = some (.int .i64 s) ∧ W.cell? ⟨w.heap.size + 1, 0, none⟩ = some (.int .i64 m) ∧ W.cell? ⟨w.heap.size + 1, 1, none⟩ = some (.int .i64 t) ∧ KS w (w.heap.size + 2) ([(w.heap.size, 0, .int .i64 l), (w.heap.size, 1, .int .i64 s), (w.heap.size + 1, 0, .int .i64 m), (w.heap.size + 1, 1, .int .i64 t)]) W)
          (exact ((fun (h : KS w (w.heap.size + 2) ([(w.heap.size, 0, .int .i64 l), (w.heap.size, 1, .int .i64 s), (w.heap.size + 1, 0, .int .i64 m), (w.heap.size + 1, 1, .int .i64 t)]) _) => ⟨h.at (by simp), h.at (by simp), h.at (by simp), h.at (by simp), h⟩) (by (repeat (first | assumption | exact inits w l s m t _ _ | refine KS.drew ?_ | refine KS.alloc ?_ _ | refine KS.set ?_ (by first | omega | (simp <;> omega)) _)))))
          (first | (go_at_call 95; refine (ri_w _ _ _).mono ?_; rintro e w1 ⟨rfl, hb⟩; have hL := KS.call (w := w) (base := w.heap.size + 2) (L := [(w.heap.size, 0, .int .i64 l), (w.heap.size, 1, .int .i64 s), (w.heap.size + 1, 0, .int .i64 m), (w.heap.size + 1, 1, .int .i64 t)]) (by (repeat (first | assumption | exact inits w l s m t _ _ | refine KS.drew ?_ | refine KS.alloc ?_ _ | refine KS.set ?_ (by first | omega | (simp <;> omega)) _))) hb; have hz := hL.size; have hs := hb.size; (try simp at hs); (try have hqC := join hqC hb); (try have hqC := join_alloc hqC hb); (try have hqC := join_drew hqC hb); (try have hqB := join hqB hb); (try have hqB := join_alloc hqB hb); (try have hqB := join_drew hqB hb); (try have hqA := join hqA hb); (try have hqA := join_alloc hqA hb); (try have hqA := join_drew hqA hb); (first | (have hqD' := hqC; have hqD := hb) | (have hqB' := hqB; have hqC := hb) | (have hqA' := hqA; have hqB := hb) | have hqA := hb); (try (have hrA := rules hqA; obtain ⟨hrA1, hrA2, hrA3, hrA4⟩ := hrA)); (try (have hrB := rules hqB; obtain ⟨hrB1, hrB2, hrB3, hrB4⟩ := hrB)); (try (have hrC := rules hqC; obtain ⟨hrC1, hrC2, hrC3, hrC4⟩ := hrC)); (try (have hrD := rules hqD; obtain ⟨hrD1, hrD2, hrD3, hrD4⟩ := hrD))) | (go_at_call 96; refine (HM _).mono ?_; rintro e w1 ⟨rfl, hb⟩; have hL := KS.call (w := w) (base := w.heap.size + 2) (L := [(w.heap.size, 0, .int .i64 l), (w.heap.size, 1, .int .i64 s), (w.heap.size + 1, 0, .int .i64 m), (w.heap.size + 1, 1, .int .i64 t)]) (by (repeat (first | assumption | exact inits w l s m t _ _ | refine KS.drew ?_ | refine KS.alloc ?_ _ | refine KS.set ?_ (by first | omega | (simp <;> omega)) _))) hb; have hz := hL.size; have hs := hb.size; (try simp at hs); (try have hqC := join hqC hb); (try have hqC := join_alloc hqC hb); (try have hqC := join_drew hqC hb); (try have hqB := join hqB hb); (try have hqB := join_alloc hqB hb); (try have hqB := join_drew hqB hb); (try have hqA := join hqA hb); (try have hqA := join_alloc hqA hb); (try have hqA := join_drew hqA hb); (first | (have hqD' := hqC; have hqD := hb) | (have hqB' := hqB; have hqC := hb) | (have hqA' := hqA; have hqB := hb) | have hqA := hb); (try (have hrA := rules hqA; obtain ⟨hrA1, hrA2, hrA3, hrA4⟩ := hrA)); (try (have hrB := rules hqB; obtain ⟨hrB1, hrB2, hrB3, hrB4⟩ := hrB)); (try (have hrC := rules hqC; obtain ⟨hrC1, hrC2, hrC3, hrC4⟩ := hrC)); (try (have hrD := rules hqD; obtain ⟨hrD1, hrD2, hrD3, hrD4⟩ := hrD))))
        go_wp2_with fail
        go_ret
        exact ⟨rfl, KS.below (base := w.heap.size + 2) (L := [(w.heap.size, 0, .int .i64 l), (w.heap.size, 1, .int .i64 s), (w.heap.size + 1, 0, .int .i64 m), (w.heap.size + 1, 1, .int .i64 t)]) (by (repeat (first | assumption | exact inits w l s m t _ _ | refine KS.drew ?_ | refine KS.alloc ?_ _ | refine KS.set ?_ (by first | omega | (simp <;> omega)) _)))⟩
    · have h2' : rB m t = false := by simpa using h2
      rw [below_no2 h2']
      clear h2
      unfold lab
      go_enter Tryz.func65, Tryz.ntmps65
      go_wp2_with fail
      go_region_with (first | (go_at_call 95; refine (right_impl _ _ _).mono ?_; unfold labO; rintro e w1 ⟨rfl, rfl⟩))
      all_goals go_wp2
      all_goals go_ret
      all_goals refine ⟨rfl, ?_⟩
      all_goals repeat (first | exact Below.refl _ _ | refine Below.setCell ?_ (by simp <;> omega) _ | refine Below.drew ?_ | refine Below.alloc ?_ (by simp <;> omega) _)
  · have h1' : rB l s = false := by simpa using h1
    rw [below_no1 h1']
    clear h1
    unfold lab
    go_enter Tryz.func65, Tryz.ntmps65
    go_wp2_with fail
    go_region_with (first | (go_at_call 95; refine (right_impl _ _ _).mono ?_; unfold labO; rintro e w1 ⟨rfl, rfl⟩))
    all_goals go_wp2
    all_goals go_ret
    all_goals refine ⟨rfl, ?_⟩
    all_goals repeat (first | exact Below.refl _ _ | refine Below.setCell ?_ (by simp <;> omega) _ | refine Below.drew ?_ | refine Below.alloc ?_ (by simp <;> omega) _)
end Go.Proofs.YtlgflddljhldhaaGreat.LabC
end
