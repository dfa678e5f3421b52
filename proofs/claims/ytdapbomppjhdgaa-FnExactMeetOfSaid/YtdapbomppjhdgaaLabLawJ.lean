/- The laws on join and meet, out of the contracts. -/
import Derived.Test.YtdapbomppjhdgaaLabLaw
import Derived.Test.YtdapbomppjhdgaaKept
namespace Go.Proofs.Ytdapbomppjhdgaa.LabC
open Go.RowKit KeptC

def jL (l s m t : Int) : Int := if rB l s = true ∧ rB m t = true then maxV l m else 0
def jS (l s m t : Int) : Int := if rB l s = true ∧ rB m t = true then bits BinOp.or IntKind.i64 s t else 0
theorem join_cells (l s m t : Int) : joinV l s m t = .agg #[.int .i64 (jL l s m t), .int .i64 (jS l s m t)] := by
  unfold joinV jL jS; split <;> rfl
theorem js_w (l s m t : Int) (w : World) : Calls Try.prog 13 #[.agg #[.int .i64 l, .int .i64 s], .agg #[.int .i64 m, .int .i64 t]] w fun e w' => e = .returned (.agg #[.int .i64 (jL l s m t), .int .i64 (jS l s m t)]) ∧ Below w.heap.size w w' := by
  rw [← join_cells]; exact join_spec l s m t w
theorem ji_w (l s m t : Int) (w : World) : Calls Try.prog 14 #[.agg #[.int .i64 l, .int .i64 s], .agg #[.int .i64 m, .int .i64 t]] w fun e w' => e = .returned (.agg #[.int .i64 (jL l s m t), .int .i64 (jS l s m t)]) ∧ Below w.heap.size w w' := by
  rw [← join_cells]; exact join_impl l s m t w

set_option maxHeartbeats 3200000 in
theorem law_join (l s m t : Int) (w : World) :
    Calls Try.prog 5 #[lab l s, lab m t] w fun e w' => e = .returned (.bool true) ∧ Below w.heap.size w w' := by
  unfold lab
  go_enter Try.func5, Try.ntmps5
  go_upto_region 1 with fail
  go_cut [5] (fun s5 wx => ∃ g : Nat, s5 = .pointer (some ⟨g, 0, none⟩) ∧ KS w (g + 1) ([(w.heap.size, 0, .int .i64 l), (w.heap.size, 1, .int .i64 s), (w.heap.size + 1, 0, .int .i64 m), (w.heap.size + 1, 1, .int .i64 t)] ++ [(g, 0, .int .i64 (jL l s m t)), (g, 1, .int .i64 (jS l s m t))]) wx)
  case first =>
    go_region_held3 (fun W => W.cell? ⟨w.heap.size, 0, none⟩ = some (.int .i64 l) ∧ W.cell? ⟨w.heap.size, 1, none⟩ = some (.int .i64 s) ∧ W.cell? ⟨w.heap.size + 1, 0, none⟩ = some (.int .i64 m) ∧ W.cell? ⟨w.heap.size + 1, 1, none⟩ = some (.int .i64 t) ∧ KS w (w.heap.size + 2) ([(w.heap.size, 0, .int .i64 l), (w.heap.size, 1, .int .i64 s), (w.heap.size + 1, 0, .int .i64 m), (w.heap.size + 1, 1, .int .i64 t)]) W)
      (exact ((fun (h : KS w (w.heap.size + 2) ([(w.heap.size, 0, .int .i64 l), (w.heap.size, 1, .int .i64 s), (w.heap.size + 1, 0, .int .i64 m), (w.heap.size + 1, 1, .int .i64 t)]) _) => ⟨h.at (by simp), h.at (by simp), h.at (by simp), h.at (by simp), h⟩) (by (repeat (first | assumption | exact inits w l s m t _ _ | refine KS.drew ?_ | refine KS.alloc ?_ _ | refine KS.set ?_ (by first | omega | (simp <;> omega)) _)))))
      (first | (go_at_call 9; refine (to_w _ _ _).mono ?_; rintro e w1 ⟨rfl, hb⟩; have hL := KS.call (w := w) (base := w.heap.size + 2) (L := [(w.heap.size, 0, .int .i64 l), (w.heap.size, 1, .int .i64 s), (w.heap.size + 1, 0, .int .i64 m), (w.heap.size + 1, 1, .int .i64 t)]) (by (repeat (first | assumption | exact inits w l s m t _ _ | refine KS.drew ?_ | refine KS.alloc ?_ _ | refine KS.set ?_ (by first | omega | (simp <;> omega)) _))) hb; have hz := hL.size; have hs := hb.size; (try simp at hs); (try have hqC := join hqC hb); (try have hqC := join_alloc hqC hb); (try have hqC := join_drew hqC hb); (try have hqB := join hqB hb); (try have hqB := join_alloc hqB hb); (try have hqB := join_drew hqB hb); (try have hqA := join hqA hb); (try have hqA := join_alloc hqA hb); (try have hqA := join_drew hqA hb); (first | (have hqD' := hqC; have hqD := hb) | (have hqB' := hqB; have hqC := hb) | (have hqA' := hqA; have hqB := hb) | have hqA := hb); (try (have hrA := rules hqA; obtain ⟨hrA1, hrA2, hrA3, hrA4⟩ := hrA)); (try (have hrB := rules hqB; obtain ⟨hrB1, hrB2, hrB3, hrB4⟩ := hrB)); (try (have hrC := rules hqC; obtain ⟨hrC1, hrC2, hrC3, hrC4⟩ := hrC)); (try (have hrD := rules hqD; obtain ⟨hrD1, hrD2, hrD3, hrD4⟩ := hrD))) | (go_at_call 13; refine (js_w _ _ _ _ _).mono ?_; rintro e w1 ⟨rfl, hb⟩; have hL := KS.call (w := w) (base := w.heap.size + 2) (L := [(w.heap.size, 0, .int .i64 l), (w.heap.size, 1, .int .i64 s), (w.heap.size + 1, 0, .int .i64 m), (w.heap.size + 1, 1, .int .i64 t)]) (by (repeat (first | assumption | exact inits w l s m t _ _ | refine KS.drew ?_ | refine KS.alloc ?_ _ | refine KS.set ?_ (by first | omega | (simp <;> omega)) _))) hb; have hz := hL.size; have hs := hb.size; (try simp at hs); (try have hqC := join hqC hb); (try have hqC := join_alloc hqC hb); (try have hqC := join_drew hqC hb); (try have hqB := join hqB hb); (try have hqB := join_alloc hqB hb); (try have hqB := join_drew hqB hb); (try have hqA := join hqA hb); (try have hqA := join_alloc hqA hb); (try have hqA := join_drew hqA hb); (first | (have hqD' := hqC; have hqD := hb) | (have hqB' := hqB; have hqC := hb) | (have hqA' := hqA; have hqB := hb) | have hqA := hb); (try (have hrA := rules hqA; obtain ⟨hrA1, hrA2, hrA3, hrA4⟩ := hrA)); (try (have hrB := rules hqB; obtain ⟨hrB1, hrB2, hrB3, hrB4⟩ := hrB)); (try (have hrC := rules hqC; obtain ⟨hrC1, hrC2, hrC3, hrC4⟩ := hrC)); (try (have hrD := rules hqD; obtain ⟨hrD1, hrD2, hrD3, hrD4⟩ := hrD))))
    all_goals
      go_wp2_with fail
      go_meet
      exact ⟨_, rfl, KS.push (L := [(w.heap.size, 0, .int .i64 l), (w.heap.size, 1, .int .i64 s), (w.heap.size + 1, 0, .int .i64 m), (w.heap.size + 1, 1, .int .i64 t)]) (base := w.heap.size + 2) (by (repeat (first | assumption | exact inits w l s m t _ _ | refine KS.drew ?_ | refine KS.alloc ?_ _ | refine KS.set ?_ (by first | omega | (simp <;> omega)) _))) (by first | omega | (simp <;> omega)) (by first | omega | (simp <;> omega)) (by simp [*, go_sem])⟩
  case rest =>
    obtain ⟨g, rfl, hcut⟩ := hcut
    have HI := fun W => ji_w l s m t W
    generalize jL l s m t = p at *
    generalize jS l s m t = q at *
    have hgz := hcut.size
    have hg0 := hcut.at (b := g) (o := 0) (v := .int .i64 p) (by simp)
    have hg1 := hcut.at (b := g) (o := 1) (v := .int .i64 q) (by simp)
    go_upto_region 2 with fail
    go_cut [6] (fun s6 wx => ∃ g' : Nat, s6 = .pointer (some ⟨g', 0, none⟩) ∧ KS w (g' + 1) (([(w.heap.size, 0, .int .i64 l), (w.heap.size, 1, .int .i64 s), (w.heap.size + 1, 0, .int .i64 m), (w.heap.size + 1, 1, .int .i64 t)] ++ [(g, 0, .int .i64 p), (g, 1, .int .i64 q)]) ++ [(g', 0, .int .i64 p), (g', 1, .int .i64 q)]) wx)
    case first =>
      go_region_held3 (fun W => W.cell? ⟨w.heap.size, 0, none⟩ = some (.int .i64 l) ∧ W.cell? ⟨w.heap.size, 1, none⟩ = some (.int .i64 s) ∧ W.cell? ⟨w.heap.size + 1, 0, none⟩ = some (.int .i64 m) ∧ W.cell? ⟨w.heap.size + 1, 1, none⟩ = some (.int .i64 t) ∧ W.cell? ⟨g, 0, none⟩ = some (.int .i64 p) ∧ W.cell? ⟨g, 1, none⟩ = some (.int .i64 q) ∧ KS w (g + 1) ([(w.heap.size, 0, .int .i64 l), (w.heap.size, 1, .int .i64 s), (w.heap.size + 1, 0, .int .i64 m), (w.heap.size + 1, 1, .int .i64 t)] ++ [(g, 0, .int .i64 p), (g, 1, .int .i64 q)]) W)
        (exact ((fun (h : KS w (g + 1) ([(w.heap.size, 0, .int .i64 l), (w.heap.size, 1, .int .i64 s), (w.heap.size + 1, 0, .int .i64 m), (w.heap.size + 1, 1, .int .i64 t)] ++ [(g, 0, .int .i64 p), (g, 1, .int .i64 q)]) _) => ⟨h.at (by simp), h.at (by simp), h.at (by simp), h.at (by simp), h.at (by simp), h.at (by simp), h⟩) (by (repeat (first | assumption | exact hcut | refine KS.drew ?_ | refine KS.alloc ?_ _ | refine KS.set ?_ (by first | omega | (simp <;> omega)) _)))))
        (first | (go_at_call 9; refine (to_w _ _ _).mono ?_; rintro e w1 ⟨rfl, hb⟩; have hL := KS.call (w := w) (base := g + 1) (L := [(w.heap.size, 0, .int .i64 l), (w.heap.size, 1, .int .i64 s), (w.heap.size + 1, 0, .int .i64 m), (w.heap.size + 1, 1, .int .i64 t)] ++ [(g, 0, .int .i64 p), (g, 1, .int .i64 q)]) (by (repeat (first | assumption | exact hcut | refine KS.drew ?_ | refine KS.alloc ?_ _ | refine KS.set ?_ (by first | omega | (simp <;> omega)) _))) hb; have hz := hL.size; have hs := hb.size; (try simp at hs); (try have hqC := join hqC hb); (try have hqC := join_alloc hqC hb); (try have hqC := join_drew hqC hb); (try have hqB := join hqB hb); (try have hqB := join_alloc hqB hb); (try have hqB := join_drew hqB hb); (try have hqA := join hqA hb); (try have hqA := join_alloc hqA hb); (try have hqA := join_drew hqA hb); (first | (have hqD' := hqC; have hqD := hb) | (have hqB' := hqB; have hqC := hb) | (have hqA' := hqA; have hqB := hb) | have hqA := hb); (try (have hrA := rules hqA; obtain ⟨hrA1, hrA2, hrA3, hrA4⟩ := hrA)); (try (have hrB := rules hqB; obtain ⟨hrB1, hrB2, hrB3, hrB4⟩ := hrB)); (try (have hrC := rules hqC; obtain ⟨hrC1, hrC2, hrC3, hrC4⟩ := hrC)); (try (have hrD := rules hqD; obtain ⟨hrD1, hrD2, hrD3, hrD4⟩ := hrD))) | (go_at_call 14; refine (HI _).mono ?_; rintro e w1 ⟨rfl, hb⟩; have hL := KS.call (w := w) (base := g + 1) (L := [(w.heap.size, 0, .int .i64 l), (w.heap.size, 1, .int .i64 s), (w.heap.size + 1, 0, .int .i64 m), (w.heap.size + 1, 1, .int .i64 t)] ++ [(g, 0, .int .i64 p), (g, 1, .int .i64 q)]) (by (repeat (first | assumption | exact hcut | refine KS.drew ?_ | refine KS.alloc ?_ _ | refine KS.set ?_ (by first | omega | (simp <;> omega)) _))) hb; have hz := hL.size; have hs := hb.size; (try simp at hs); (try have hqC := join hqC hb); (try have hqC := join_alloc hqC hb); (try have hqC := join_drew hqC hb); (try have hqB := join hqB hb); (try have hqB := join_alloc hqB hb); (try have hqB := join_drew hqB hb); (try have hqA := join hqA hb); (try have hqA := join_alloc hqA hb); (try have hqA := join_drew hqA hb); (first | (have hqD' := hqC; have hqD := hb) | (have hqB' := hqB; have hqC := hb) | (have hqA' := hqA; have hqB := hb) | have hqA := hb); (try (have hrA := rules hqA; obtain ⟨hrA1, hrA2, hrA3, hrA4⟩ := hrA)); (try (have hrB := rules hqB; obtain ⟨hrB1, hrB2, hrB3, hrB4⟩ := hrB)); (try (have hrC := rules hqC; obtain ⟨hrC1, hrC2, hrC3, hrC4⟩ := hrC)); (try (have hrD := rules hqD; obtain ⟨hrD1, hrD2, hrD3, hrD4⟩ := hrD))))
      all_goals
        go_wp2_with fail
        go_meet
        exact ⟨_, rfl, KS.push (L := [(w.heap.size, 0, .int .i64 l), (w.heap.size, 1, .int .i64 s), (w.heap.size + 1, 0, .int .i64 m), (w.heap.size + 1, 1, .int .i64 t)] ++ [(g, 0, .int .i64 p), (g, 1, .int .i64 q)]) (base := g + 1) (by (repeat (first | assumption | exact hcut | refine KS.drew ?_ | refine KS.alloc ?_ _ | refine KS.set ?_ (by first | omega | (simp <;> omega)) _))) (by first | omega | (simp <;> omega)) (by first | omega | (simp <;> omega)) (by simp [*, go_sem])⟩
    case rest =>
      obtain ⟨g', rfl, hcut⟩ := hcut
      have hb := Lib.hid hcut.below
      have hg0 := hcut.at (b := g) (o := 0) (v := .int .i64 p) (by simp)
      have hg1 := hcut.at (b := g) (o := 1) (v := .int .i64 q) (by simp)
      have hg2 := hcut.at (b := g') (o := 0) (v := .int .i64 p) (by simp)
      have hg3 := hcut.at (b := g') (o := 1) (v := .int .i64 q) (by simp)
      clear hcut
      go_wp2_with (go_at_call 15; refine (eq_lab _ _ _).mono ?_; rintro e w1 ⟨rfl, hb1⟩; have HB1 := Lib.hid hb1; have hs := hb1.size; clear hb1)
      all_goals
        go_ret
        exact ⟨rfl, hb.out.trans (HB1.out.mono hb.out.size)⟩

def mL (l s m t : Int) : Int := if rB l s = true ∧ rB m t = true then minV l m else 0
def mS (l s m t : Int) : Int := if rB l s = true ∧ rB m t = true then bits BinOp.and IntKind.i64 s t else 0
theorem meet_cells (l s m t : Int) : meetV l s m t = .agg #[.int .i64 (mL l s m t), .int .i64 (mS l s m t)] := by
  unfold meetV mL mS; split <;> rfl
theorem ms_w (l s m t : Int) (w : World) : Calls Try.prog 16 #[.agg #[.int .i64 l, .int .i64 s], .agg #[.int .i64 m, .int .i64 t]] w fun e w' => e = .returned (.agg #[.int .i64 (mL l s m t), .int .i64 (mS l s m t)]) ∧ Below w.heap.size w w' := by
  rw [← meet_cells]; exact meet_spec l s m t w
theorem mi_w (l s m t : Int) (w : World) : Calls Try.prog 17 #[.agg #[.int .i64 l, .int .i64 s], .agg #[.int .i64 m, .int .i64 t]] w fun e w' => e = .returned (.agg #[.int .i64 (mL l s m t), .int .i64 (mS l s m t)]) ∧ Below w.heap.size w w' := by
  rw [← meet_cells]; exact meet_impl l s m t w

set_option maxHeartbeats 3200000 in
theorem law_meet (l s m t : Int) (w : World) :
    Calls Try.prog 6 #[lab l s, lab m t] w fun e w' => e = .returned (.bool true) ∧ Below w.heap.size w w' := by
  unfold lab
  go_enter Try.func6, Try.ntmps6
  go_upto_region 1 with fail
  go_cut [5] (fun s5 wx => ∃ g : Nat, s5 = .pointer (some ⟨g, 0, none⟩) ∧ KS w (g + 1) ([(w.heap.size, 0, .int .i64 l), (w.heap.size, 1, .int .i64 s), (w.heap.size + 1, 0, .int .i64 m), (w.heap.size + 1, 1, .int .i64 t)] ++ [(g, 0, .int .i64 (mL l s m t)), (g, 1, .int .i64 (mS l s m t))]) wx)
  case first =>
    go_region_held3 (fun W => W.cell? ⟨w.heap.size, 0, none⟩ = some (.int .i64 l) ∧ W.cell? ⟨w.heap.size, 1, none⟩ = some (.int .i64 s) ∧ W.cell? ⟨w.heap.size + 1, 0, none⟩ = some (.int .i64 m) ∧ W.cell? ⟨w.heap.size + 1, 1, none⟩ = some (.int .i64 t) ∧ KS w (w.heap.size + 2) ([(w.heap.size, 0, .int .i64 l), (w.heap.size, 1, .int .i64 s), (w.heap.size + 1, 0, .int .i64 m), (w.heap.size + 1, 1, .int .i64 t)]) W)
      (exact ((fun (h : KS w (w.heap.size + 2) ([(w.heap.size, 0, .int .i64 l), (w.heap.size, 1, .int .i64 s), (w.heap.size + 1, 0, .int .i64 m), (w.heap.size + 1, 1, .int .i64 t)]) _) => ⟨h.at (by simp), h.at (by simp), h.at (by simp), h.at (by simp), h⟩) (by (repeat (first | assumption | exact inits w l s m t _ _ | refine KS.drew ?_ | refine KS.alloc ?_ _ | refine KS.set ?_ (by first | omega | (simp <;> omega)) _)))))
      (first | (go_at_call 9; refine (to_w _ _ _).mono ?_; rintro e w1 ⟨rfl, hb⟩; have hL := KS.call (w := w) (base := w.heap.size + 2) (L := [(w.heap.size, 0, .int .i64 l), (w.heap.size, 1, .int .i64 s), (w.heap.size + 1, 0, .int .i64 m), (w.heap.size + 1, 1, .int .i64 t)]) (by (repeat (first | assumption | exact inits w l s m t _ _ | refine KS.drew ?_ | refine KS.alloc ?_ _ | refine KS.set ?_ (by first | omega | (simp <;> omega)) _))) hb; have hz := hL.size; have hs := hb.size; (try simp at hs); (try have hqC := join hqC hb); (try have hqC := join_alloc hqC hb); (try have hqC := join_drew hqC hb); (try have hqB := join hqB hb); (try have hqB := join_alloc hqB hb); (try have hqB := join_drew hqB hb); (try have hqA := join hqA hb); (try have hqA := join_alloc hqA hb); (try have hqA := join_drew hqA hb); (first | (have hqD' := hqC; have hqD := hb) | (have hqB' := hqB; have hqC := hb) | (have hqA' := hqA; have hqB := hb) | have hqA := hb); (try (have hrA := rules hqA; obtain ⟨hrA1, hrA2, hrA3, hrA4⟩ := hrA)); (try (have hrB := rules hqB; obtain ⟨hrB1, hrB2, hrB3, hrB4⟩ := hrB)); (try (have hrC := rules hqC; obtain ⟨hrC1, hrC2, hrC3, hrC4⟩ := hrC)); (try (have hrD := rules hqD; obtain ⟨hrD1, hrD2, hrD3, hrD4⟩ := hrD))) | (go_at_call 16; refine (ms_w _ _ _ _ _).mono ?_; rintro e w1 ⟨rfl, hb⟩; have hL := KS.call (w := w) (base := w.heap.size + 2) (L := [(w.heap.size, 0, .int .i64 l), (w.heap.size, 1, .int .i64 s), (w.heap.size + 1, 0, .int .i64 m), (w.heap.size + 1, 1, .int .i64 t)]) (by (repeat (first | assumption | exact inits w l s m t _ _ | refine KS.drew ?_ | refine KS.alloc ?_ _ | refine KS.set ?_ (by first | omega | (simp <;> omega)) _))) hb; have hz := hL.size; have hs := hb.size; (try simp at hs); (try have hqC := join hqC hb); (try have hqC := join_alloc hqC hb); (try have hqC := join_drew hqC hb); (try have hqB := join hqB hb); (try have hqB := join_alloc hqB hb); (try have hqB := join_drew hqB hb); (try have hqA := join hqA hb); (try have hqA := join_alloc hqA hb); (try have hqA := join_drew hqA hb); (first | (have hqD' := hqC; have hqD := hb) | (have hqB' := hqB; have hqC := hb) | (have hqA' := hqA; have hqB := hb) | have hqA := hb); (try (have hrA := rules hqA; obtain ⟨hrA1, hrA2, hrA3, hrA4⟩ := hrA)); (try (have hrB := rules hqB; obtain ⟨hrB1, hrB2, hrB3, hrB4⟩ := hrB)); (try (have hrC := rules hqC; obtain ⟨hrC1, hrC2, hrC3, hrC4⟩ := hrC)); (try (have hrD := rules hqD; obtain ⟨hrD1, hrD2, hrD3, hrD4⟩ := hrD))))
    all_goals
      go_wp2_with fail
      go_meet
      exact ⟨_, rfl, KS.push (L := [(w.heap.size, 0, .int .i64 l), (w.heap.size, 1, .int .i64 s), (w.heap.size + 1, 0, .int .i64 m), (w.heap.size + 1, 1, .int .i64 t)]) (base := w.heap.size + 2) (by (repeat (first | assumption | exact inits w l s m t _ _ | refine KS.drew ?_ | refine KS.alloc ?_ _ | refine KS.set ?_ (by first | omega | (simp <;> omega)) _))) (by first | omega | (simp <;> omega)) (by first | omega | (simp <;> omega)) (by simp [*, go_sem])⟩
  case rest =>
    obtain ⟨g, rfl, hcut⟩ := hcut
    have HI := fun W => mi_w l s m t W
    generalize mL l s m t = p at *
    generalize mS l s m t = q at *
    have hgz := hcut.size
    have hg0 := hcut.at (b := g) (o := 0) (v := .int .i64 p) (by simp)
    have hg1 := hcut.at (b := g) (o := 1) (v := .int .i64 q) (by simp)
    go_upto_region 2 with fail
    go_cut [6] (fun s6 wx => ∃ g' : Nat, s6 = .pointer (some ⟨g', 0, none⟩) ∧ KS w (g' + 1) (([(w.heap.size, 0, .int .i64 l), (w.heap.size, 1, .int .i64 s), (w.heap.size + 1, 0, .int .i64 m), (w.heap.size + 1, 1, .int .i64 t)] ++ [(g, 0, .int .i64 p), (g, 1, .int .i64 q)]) ++ [(g', 0, .int .i64 p), (g', 1, .int .i64 q)]) wx)
    case first =>
      go_region_held3 (fun W => W.cell? ⟨w.heap.size, 0, none⟩ = some (.int .i64 l) ∧ W.cell? ⟨w.heap.size, 1, none⟩ = some (.int .i64 s) ∧ W.cell? ⟨w.heap.size + 1, 0, none⟩ = some (.int .i64 m) ∧ W.cell? ⟨w.heap.size + 1, 1, none⟩ = some (.int .i64 t) ∧ W.cell? ⟨g, 0, none⟩ = some (.int .i64 p) ∧ W.cell? ⟨g, 1, none⟩ = some (.int .i64 q) ∧ KS w (g + 1) ([(w.heap.size, 0, .int .i64 l), (w.heap.size, 1, .int .i64 s), (w.heap.size + 1, 0, .int .i64 m), (w.heap.size + 1, 1, .int .i64 t)] ++ [(g, 0, .int .i64 p), (g, 1, .int .i64 q)]) W)
        (exact ((fun (h : KS w (g + 1) ([(w.heap.size, 0, .int .i64 l), (w.heap.size, 1, .int .i64 s), (w.heap.size + 1, 0, .int .i64 m), (w.heap.size + 1, 1, .int .i64 t)] ++ [(g, 0, .int .i64 p), (g, 1, .int .i64 q)]) _) => ⟨h.at (by simp), h.at (by simp), h.at (by simp), h.at (by simp), h.at (by simp), h.at (by simp), h⟩) (by (repeat (first | assumption | exact hcut | refine KS.drew ?_ | refine KS.alloc ?_ _ | refine KS.set ?_ (by first | omega | (simp <;> omega)) _)))))
        (first | (go_at_call 9; refine (to_w _ _ _).mono ?_; rintro e w1 ⟨rfl, hb⟩; have hL := KS.call (w := w) (base := g + 1) (L := [(w.heap.size, 0, .int .i64 l), (w.heap.size, 1, .int .i64 s), (w.heap.size + 1, 0, .int .i64 m), (w.heap.size + 1, 1, .int .i64 t)] ++ [(g, 0, .int .i64 p), (g, 1, .int .i64 q)]) (by (repeat (first | assumption | exact hcut | refine KS.drew ?_ | refine KS.alloc ?_ _ | refine KS.set ?_ (by first | omega | (simp <;> omega)) _))) hb; have hz := hL.size; have hs := hb.size; (try simp at hs); (try have hqC := join hqC hb); (try have hqC := join_alloc hqC hb); (try have hqC := join_drew hqC hb); (try have hqB := join hqB hb); (try have hqB := join_alloc hqB hb); (try have hqB := join_drew hqB hb); (try have hqA := join hqA hb); (try have hqA := join_alloc hqA hb); (try have hqA := join_drew hqA hb); (first | (have hqD' := hqC; have hqD := hb) | (have hqB' := hqB; have hqC := hb) | (have hqA' := hqA; have hqB := hb) | have hqA := hb); (try (have hrA := rules hqA; obtain ⟨hrA1, hrA2, hrA3, hrA4⟩ := hrA)); (try (have hrB := rules hqB; obtain ⟨hrB1, hrB2, hrB3, hrB4⟩ := hrB)); (try (have hrC := rules hqC; obtain ⟨hrC1, hrC2, hrC3, hrC4⟩ := hrC)); (try (have hrD := rules hqD; obtain ⟨hrD1, hrD2, hrD3, hrD4⟩ := hrD))) | (go_at_call 17; refine (HI _).mono ?_; rintro e w1 ⟨rfl, hb⟩; have hL := KS.call (w := w) (base := g + 1) (L := [(w.heap.size, 0, .int .i64 l), (w.heap.size, 1, .int .i64 s), (w.heap.size + 1, 0, .int .i64 m), (w.heap.size + 1, 1, .int .i64 t)] ++ [(g, 0, .int .i64 p), (g, 1, .int .i64 q)]) (by (repeat (first | assumption | exact hcut | refine KS.drew ?_ | refine KS.alloc ?_ _ | refine KS.set ?_ (by first | omega | (simp <;> omega)) _))) hb; have hz := hL.size; have hs := hb.size; (try simp at hs); (try have hqC := join hqC hb); (try have hqC := join_alloc hqC hb); (try have hqC := join_drew hqC hb); (try have hqB := join hqB hb); (try have hqB := join_alloc hqB hb); (try have hqB := join_drew hqB hb); (try have hqA := join hqA hb); (try have hqA := join_alloc hqA hb); (try have hqA := join_drew hqA hb); (first | (have hqD' := hqC; have hqD := hb) | (have hqB' := hqB; have hqC := hb) | (have hqA' := hqA; have hqB := hb) | have hqA := hb); (try (have hrA := rules hqA; obtain ⟨hrA1, hrA2, hrA3, hrA4⟩ := hrA)); (try (have hrB := rules hqB; obtain ⟨hrB1, hrB2, hrB3, hrB4⟩ := hrB)); (try (have hrC := rules hqC; obtain ⟨hrC1, hrC2, hrC3, hrC4⟩ := hrC)); (try (have hrD := rules hqD; obtain ⟨hrD1, hrD2, hrD3, hrD4⟩ := hrD))))
      all_goals
        go_wp2_with fail
        go_meet
        exact ⟨_, rfl, KS.push (L := [(w.heap.size, 0, .int .i64 l), (w.heap.size, 1, .int .i64 s), (w.heap.size + 1, 0, .int .i64 m), (w.heap.size + 1, 1, .int .i64 t)] ++ [(g, 0, .int .i64 p), (g, 1, .int .i64 q)]) (base := g + 1) (by (repeat (first | assumption | exact hcut | refine KS.drew ?_ | refine KS.alloc ?_ _ | refine KS.set ?_ (by first | omega | (simp <;> omega)) _))) (by first | omega | (simp <;> omega)) (by first | omega | (simp <;> omega)) (by simp [*, go_sem])⟩
    case rest =>
      obtain ⟨g', rfl, hcut⟩ := hcut
      have hb := Lib.hid hcut.below
      have hg0 := hcut.at (b := g) (o := 0) (v := .int .i64 p) (by simp)
      have hg1 := hcut.at (b := g) (o := 1) (v := .int .i64 q) (by simp)
      have hg2 := hcut.at (b := g') (o := 0) (v := .int .i64 p) (by simp)
      have hg3 := hcut.at (b := g') (o := 1) (v := .int .i64 q) (by simp)
      clear hcut
      go_wp2_with (go_at_call 15; refine (eq_lab _ _ _).mono ?_; rintro e w1 ⟨rfl, hb1⟩; have HB1 := Lib.hid hb1; have hs := hb1.size; clear hb1)
      all_goals
        go_ret
        exact ⟨rfl, hb.out.trans (HB1.out.mono hb.out.size)⟩
end Go.Proofs.Ytdapbomppjhdgaa.LabC
