/- The order of labels, in the program and in its model: contracts. -/
import Derived.Test.YtmmnkdilnlhbfaaLabJoin
import Derived.Test.YtmmnkdilnlhbfaaKept
namespace Go.Proofs.Ytmmnkdilnlhbfaa.LabC
open Go.RowKit KeptC

theorem inits (w : World) (l s m t : Int) (k k' : TypeId) : KS w (w.heap.size + 2) [(w.heap.size, 0, .int .i64 l), (w.heap.size, 1, .int .i64 s), (w.heap.size + 1, 0, .int .i64 m), (w.heap.size + 1, 1, .int .i64 t)] ((w.alloc (.cells #[.int .i64 l, .int .i64 s] k)).alloc (.cells #[.int .i64 m, .int .i64 t] k')) :=
  ⟨by simp, by simp, by simp, ((Below.refl _ _).alloc (Nat.le_refl _) _).alloc (by simp) _, by simp⟩
theorem rs_w (l s : Int) (w : World) : Calls Try.prog 94 #[.agg #[.int .i64 l, .int .i64 s]] w fun e w' => e = .returned (.bool (rB l s)) ∧ Below w.heap.size w w' :=
  (right_spec l s w).mono fun e w' ⟨he, hw⟩ => ⟨he, by rw [← hw]; exact (Below.refl _ _).alloc (Nat.le_refl _) _⟩
theorem ri_w (l s : Int) (w : World) : Calls Try.prog 100 #[.agg #[.int .i64 l, .int .i64 s]] w fun e w' => e = .returned (.bool (rB l s)) ∧ Below w.heap.size w w' :=
  (right_impl l s w).mono fun e w' ⟨he, hw⟩ => ⟨he, by rw [← hw]; exact (Below.refl _ _).alloc (Nat.le_refl _) _⟩
def belowB (l s m t : Int) : Bool := rB l s && (rB m t && bB l s m t)
theorem below_yes {l s m t : Int} (h1 : rB l s = true) (h2 : rB m t = true) : belowB l s m t = bB l s m t := by simp [belowB, h1, h2]
theorem below_no1 {l s m t : Int} (h1 : rB l s = false) : belowB l s m t = false := by simp [belowB, h1]
theorem below_no2 {l s m t : Int} (h1 : rB m t = false) : belowB l s m t = false := by simp [belowB, h1]

theorem below_spec (l s m t : Int) (w : World) :
    Calls Try.prog 97 #[lab l s, lab m t] w fun e w' => e = .returned (.bool (belowB l s m t)) ∧ Below w.heap.size w w' := by
  by_cases h1 : rB l s = true
  · by_cases h2 : rB m t = true
    · rw [below_yes h1 h2]
      unfold lab
      go_enter Try.func97, Try.ntmps97
      go_wp2_with (first | (go_at_call 94; refine (right_spec _ _ _).mono ?_; unfold labO; rintro e w1 ⟨rfl, rfl⟩) | (go_at_call 115; refine (below2_spec _ _ _ _ _).mono ?_; unfold labO; rintro e w1 ⟨rfl, rfl⟩))
      go_ret
      refine ⟨rfl, ?_⟩
      repeat (first | exact Below.refl _ _ | refine Below.setCell ?_ (by simp <;> omega) _ | refine Below.drew ?_ | refine Below.alloc ?_ (by simp <;> omega) _)
    · have h2' : rB m t = false := by simpa using h2
      rw [below_no2 h2']
      clear h2
      unfold lab
      go_enter Try.func97, Try.ntmps97
      go_wp2_with (first | (go_at_call 94; refine (right_spec _ _ _).mono ?_; unfold labO; rintro e w1 ⟨rfl, rfl⟩) | (go_at_call 115; refine (below2_spec _ _ _ _ _).mono ?_; unfold labO; rintro e w1 ⟨rfl, rfl⟩))
      go_ret
      refine ⟨rfl, ?_⟩
      repeat (first | exact Below.refl _ _ | refine Below.setCell ?_ (by simp <;> omega) _ | refine Below.drew ?_ | refine Below.alloc ?_ (by simp <;> omega) _)
  · have h1' : rB l s = false := by simpa using h1
    rw [below_no1 h1']
    clear h1
    unfold lab
    go_enter Try.func97, Try.ntmps97
    go_wp2_with (first | (go_at_call 94; refine (right_spec _ _ _).mono ?_; unfold labO; rintro e w1 ⟨rfl, rfl⟩) | (go_at_call 115; refine (below2_spec _ _ _ _ _).mono ?_; unfold labO; rintro e w1 ⟨rfl, rfl⟩))
    go_ret
    refine ⟨rfl, ?_⟩
    repeat (first | exact Below.refl _ _ | refine Below.setCell ?_ (by simp <;> omega) _ | refine Below.drew ?_ | refine Below.alloc ?_ (by simp <;> omega) _)

theorem eq_below (l s m t : Int) : bB l s m t = ((minV l m == l) && (bits BinOp.and IntKind.i64 s t == s)) := by
  have h : decide (l ≤ m) = (minV l m == l) := by
    rw [Bool.eq_iff_iff]; simp [minV]; omega
  unfold bB
  rw [h]
theorem two_ways (a b : Bool) : a = false ∧ (a && b) = false ∨ (a = true ∧ b = false) ∧ (a && b) = false ∨ (a = true ∧ b = true) ∧ (a && b) = true := by cases a <;> cases b <;> simp

set_option maxRecDepth 100000 in
set_option maxHeartbeats 1600000 in
theorem below_impl (l s m t : Int) (w : World) :
    Calls Try.prog 120 #[lab l s, lab m t] w fun e w' => e = .returned (.bool (belowB l s m t)) ∧ Below w.heap.size w w' := by
  by_cases h1 : rB l s = true
  · by_cases h2 : rB m t = true
    · rw [below_yes h1 h2, eq_below]
      have HM : ∀ w, Calls Try.prog 136 #[lab l s, lab m t] w fun e w' => e = .returned (lab (minV l m) (bits BinOp.and IntKind.i64 s t)) ∧ Below w.heap.size w w' := by
        intro w
        have := meet_impl l s m t w
        rw [meet_yes h1 h2] at this
        exact this
      generalize minV l m = p at *
      generalize bits BinOp.and IntKind.i64 s t = q at *
      unfold lab at *
      rcases two_ways (p == l) (q == s) with ⟨g1, g⟩ | ⟨⟨g1, g2⟩, g⟩ | ⟨⟨g1, g2⟩, g⟩
      all_goals
        rw [g]
        clear g
        go_enter Try.func120, Try.ntmps120
        go_wp2_with fail
        go_region_held3 (fun W => W.cell? ⟨w.heap.size, 0, none⟩ = some (.int .i64 l) ∧ W.cell? ⟨w.heap.size, 1, none⟩ = some (.int .i64 s) ∧ W.cell? ⟨w.heap.size + 1, 0, none⟩ = some (.int .i64 m) ∧ W.cell? ⟨w.heap.size + 1, 1, none⟩ = some (.int .i64 t) ∧ KS w (w.heap.size + 2) ([(w.heap.size, 0, .int .i64 l), (w.heap.size, 1, .int .i64 s), (w.heap.size + 1, 0, .int .i64 m), (w.heap.size + 1, 1, .int .i64 t)]) W)
          (exact ((fun (h : KS w (w.heap.size + 2) ([(w.heap.size, 0, .int .i64 l), (w.heap.size, 1, .int .i64 s), (w.heap.size + 1, 0, .int .i64 m), (w.heap.size + 1, 1, .int .i64 t)]) _) => ⟨h.at (by simp), h.at (by simp), h.at (by simp), h.at (by simp), h⟩) (by (repeat (first | assumption | exact inits w l s m t _ _ | refine KS.drew ?_ | refine KS.alloc ?_ _ | refine KS.set ?_ (by first | omega | (simp <;> omega)) _)))))
          (first | (go_at_call 100; refine (ri_w _ _ _).mono ?_; rintro e w1 ⟨rfl, hb⟩; have hL := KS.call (w := w) (base := w.heap.size + 2) (L := [(w.heap.size, 0, .int .i64 l), (w.heap.size, 1, .int .i64 s), (w.heap.size + 1, 0, .int .i64 m), (w.heap.size + 1, 1, .int .i64 t)]) (by (repeat (first | assumption | exact inits w l s m t _ _ | refine KS.drew ?_ | refine KS.alloc ?_ _ | refine KS.set ?_ (by first | omega | (simp <;> omega)) _))) hb; have hz := hL.size; have hs := hb.size; (try simp at hs); (try have hqC := join hqC hb); (try have hqC := join_alloc hqC hb); (try have hqC := join_drew hqC hb); (try have hqB := join hqB hb); (try have hqB := join_alloc hqB hb); (try have hqB := join_drew hqB hb); (try have hqA := join hqA hb); (try have hqA := join_alloc hqA hb); (try have hqA := join_drew hqA hb); (first | (have hqD' := hqC; have hqD := hb) | (have hqB' := hqB; have hqC := hb) | (have hqA' := hqA; have hqB := hb) | have hqA := hb); (try (have hrA := rules hqA; obtain ⟨hrA1, hrA2, hrA3, hrA4⟩ := hrA)); (try (have hrB := rules hqB; obtain ⟨hrB1, hrB2, hrB3, hrB4⟩ := hrB)); (try (have hrC := rules hqC; obtain ⟨hrC1, hrC2, hrC3, hrC4⟩ := hrC)); (try (have hrD := rules hqD; obtain ⟨hrD1, hrD2, hrD3, hrD4⟩ := hrD))) | (go_at_call 136; refine (HM _).mono ?_; rintro e w1 ⟨rfl, hb⟩; have hL := KS.call (w := w) (base := w.heap.size + 2) (L := [(w.heap.size, 0, .int .i64 l), (w.heap.size, 1, .int .i64 s), (w.heap.size + 1, 0, .int .i64 m), (w.heap.size + 1, 1, .int .i64 t)]) (by (repeat (first | assumption | exact inits w l s m t _ _ | refine KS.drew ?_ | refine KS.alloc ?_ _ | refine KS.set ?_ (by first | omega | (simp <;> omega)) _))) hb; have hz := hL.size; have hs := hb.size; (try simp at hs); (try have hqC := join hqC hb); (try have hqC := join_alloc hqC hb); (try have hqC := join_drew hqC hb); (try have hqB := join hqB hb); (try have hqB := join_alloc hqB hb); (try have hqB := join_drew hqB hb); (try have hqA := join hqA hb); (try have hqA := join_alloc hqA hb); (try have hqA := join_drew hqA hb); (first | (have hqD' := hqC; have hqD := hb) | (have hqB' := hqB; have hqC := hb) | (have hqA' := hqA; have hqB := hb) | have hqA := hb); (try (have hrA := rules hqA; obtain ⟨hrA1, hrA2, hrA3, hrA4⟩ := hrA)); (try (have hrB := rules hqB; obtain ⟨hrB1, hrB2, hrB3, hrB4⟩ := hrB)); (try (have hrC := rules hqC; obtain ⟨hrC1, hrC2, hrC3, hrC4⟩ := hrC)); (try (have hrD := rules hqD; obtain ⟨hrD1, hrD2, hrD3, hrD4⟩ := hrD))))
        go_wp2_with fail
        go_ret
        exact ⟨rfl, KS.below (base := w.heap.size + 2) (L := [(w.heap.size, 0, .int .i64 l), (w.heap.size, 1, .int .i64 s), (w.heap.size + 1, 0, .int .i64 m), (w.heap.size + 1, 1, .int .i64 t)]) (by (repeat (first | assumption | exact inits w l s m t _ _ | refine KS.drew ?_ | refine KS.alloc ?_ _ | refine KS.set ?_ (by first | omega | (simp <;> omega)) _)))⟩
    · have h2' : rB m t = false := by simpa using h2
      rw [below_no2 h2']
      clear h2
      unfold lab
      go_enter Try.func120, Try.ntmps120
      go_wp2_with fail
      go_region_with (first | (go_at_call 100; refine (right_impl _ _ _).mono ?_; unfold labO; rintro e w1 ⟨rfl, rfl⟩))
      all_goals go_wp2
      all_goals go_ret
      all_goals refine ⟨rfl, ?_⟩
      all_goals repeat (first | exact Below.refl _ _ | refine Below.setCell ?_ (by simp <;> omega) _ | refine Below.drew ?_ | refine Below.alloc ?_ (by simp <;> omega) _)
  · have h1' : rB l s = false := by simpa using h1
    rw [below_no1 h1']
    clear h1
    unfold lab
    go_enter Try.func120, Try.ntmps120
    go_wp2_with fail
    go_region_with (first | (go_at_call 100; refine (right_impl _ _ _).mono ?_; unfold labO; rintro e w1 ⟨rfl, rfl⟩))
    all_goals go_wp2
    all_goals go_ret
    all_goals refine ⟨rfl, ?_⟩
    all_goals repeat (first | exact Below.refl _ _ | refine Below.setCell ?_ (by simp <;> omega) _ | refine Below.drew ?_ | refine Below.alloc ?_ (by simp <;> omega) _)
end Go.Proofs.Ytmmnkdilnlhbfaa.LabC
