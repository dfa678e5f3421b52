/- The laws on validity, order, join and meet, out of the contracts. -/
import Derived.Test.YtdapbomppjhdgaaLabBelow
namespace Go.Proofs.Ytdapbomppjhdgaa.LabC
open Go.RowKit KeptC

theorem cells2 {W w1 : World} {B : Nat} {a b : Value} (hb : Below W.heap.size W w1) (h0 : W.cell? ⟨B, 0, none⟩ = some a) (h1 : W.cell? ⟨B, 1, none⟩ = some b) :
    w1.cell? ⟨B, 0, none⟩ = some a ∧ w1.cell? ⟨B, 1, none⟩ = some b ∧ B < W.heap.size := by
  have hlt := World.block_lt_of_cell? W ⟨B, 0, none⟩ h0
  exact ⟨(hb.cell hlt).trans h0, (hb.cell (p := ⟨B, 1, none⟩) hlt).trans h1, hlt⟩

theorem to_w (l s : Int) (w : World) : Calls Try.prog 9 #[.agg #[.int .i64 l, .int .i64 s]] w fun e w' => e = .returned (.agg #[.int .i64 l, .int .i64 s]) ∧ Below w.heap.size w w' := to_any l s w
theorem bs_w (l s m t : Int) (w : World) : Calls Try.prog 11 #[.agg #[.int .i64 l, .int .i64 s], .agg #[.int .i64 m, .int .i64 t]] w fun e w' => e = .returned (.bool (belowB l s m t)) ∧ Below w.heap.size w w' := below_spec l s m t w
theorem bi_w (l s m t : Int) (w : World) : Calls Try.prog 12 #[.agg #[.int .i64 l, .int .i64 s], .agg #[.int .i64 m, .int .i64 t]] w fun e w' => e = .returned (.bool (belowB l s m t)) ∧ Below w.heap.size w w' := below_impl l s m t w

theorem eq_lab (l s : Int) (w : World) : Calls Try.prog 15 #[.agg #[.int .i64 l, .int .i64 s], .agg #[.int .i64 l, .int .i64 s]] w fun e w' => e = .returned (.bool true) ∧ Below w.heap.size w w' := by
  go_enter Try.func15, Try.ntmps15
  go_wp2
  all_goals
    go_ret
    exact ⟨rfl, ((Below.refl _ _).alloc (Nat.le_refl _) _).alloc (by simp) _⟩

theorem law_right (l s : Int) (w : World) :
    Calls Try.prog 3 #[lab l s] w fun e w' => e = .returned (.bool true) ∧ Below w.heap.size w w' := by
  unfold lab
  go_enter Try.func3, Try.ntmps3
  go_wp2_with (first | (go_at_call 9; refine (to_w _ _ _).mono ?_; rintro e w1 ⟨rfl, hb⟩; have ⟨c0, c1, _⟩ := cells2 hb (B := w.heap.size) (a := .int .i64 l) (b := .int .i64 s) (by first | assumption | simp) (by first | assumption | simp); have hz : w.heap.size + 1 ≤ w1.heap.size := (by have h0 := hb.size; (try simp at h0); omega); have HB := Lib.hid (Below.trans (B := w.heap.size) (a := w) (by (repeat (first | exact Below.refl _ _ | (refine Hid.out (p := Below _ _ _) ?_; assumption) | refine Below.drew ?_ | refine Below.setCell ?_ (by first | omega | (simp <;> omega)) _ | refine Below.alloc ?_ (by first | omega | (simp <;> omega)) _))) (hb.mono (by first | omega | (simp <;> omega)))); clear hb) | (go_at_call 8; refine (rs_w _ _ _).mono ?_; rintro e w1 ⟨rfl, hb⟩; have ⟨c0, c1, _⟩ := cells2 hb (B := w.heap.size) (a := .int .i64 l) (b := .int .i64 s) (by first | assumption | simp) (by first | assumption | simp); have hz : w.heap.size + 1 ≤ w1.heap.size := (by have h0 := hb.size; (try simp at h0); omega); have HB := Lib.hid (Below.trans (B := w.heap.size) (a := w) (by (repeat (first | exact Below.refl _ _ | (refine Hid.out (p := Below _ _ _) ?_; assumption) | refine Below.drew ?_ | refine Below.setCell ?_ (by first | omega | (simp <;> omega)) _ | refine Below.alloc ?_ (by first | omega | (simp <;> omega)) _))) (hb.mono (by first | omega | (simp <;> omega)))); clear hb) | (go_at_call 10; refine (ri_w _ _ _).mono ?_; rintro e w1 ⟨rfl, hb⟩; have ⟨c0, c1, _⟩ := cells2 hb (B := w.heap.size) (a := .int .i64 l) (b := .int .i64 s) (by first | assumption | simp) (by first | assumption | simp); have hz : w.heap.size + 1 ≤ w1.heap.size := (by have h0 := hb.size; (try simp at h0); omega); have HB := Lib.hid (Below.trans (B := w.heap.size) (a := w) (by (repeat (first | exact Below.refl _ _ | (refine Hid.out (p := Below _ _ _) ?_; assumption) | refine Below.drew ?_ | refine Below.setCell ?_ (by first | omega | (simp <;> omega)) _ | refine Below.alloc ?_ (by first | omega | (simp <;> omega)) _))) (hb.mono (by first | omega | (simp <;> omega)))); clear hb))
  all_goals
    go_ret
    exact ⟨rfl, by (repeat (first | exact Below.refl _ _ | (refine Hid.out (p := Below _ _ _) ?_; assumption) | refine Below.drew ?_ | refine Below.setCell ?_ (by first | omega | (simp <;> omega)) _ | refine Below.alloc ?_ (by first | omega | (simp <;> omega)) _))⟩

set_option maxHeartbeats 1600000 in
theorem law_below (l s m t : Int) (w : World) :
    Calls Try.prog 4 #[lab l s, lab m t] w fun e w' => e = .returned (.bool true) ∧ Below w.heap.size w w' := by
  unfold lab
  go_enter Try.func4, Try.ntmps4
  generalize hB : belowB l s m t = B
  have HS := fun W => bs_w l s m t W
  have HI := fun W => bi_w l s m t W
  rw [hB] at HS HI
  clear hB
  go_upto_region 1 with fail
  go_cut [5] (fun s5 wx => s5 = .bool B ∧ KS w (w.heap.size + 2) ([(w.heap.size, 0, .int .i64 l), (w.heap.size, 1, .int .i64 s), (w.heap.size + 1, 0, .int .i64 m), (w.heap.size + 1, 1, .int .i64 t)]) wx)
  case first =>
    go_region_held3 (fun W => W.cell? ⟨w.heap.size, 0, none⟩ = some (.int .i64 l) ∧ W.cell? ⟨w.heap.size, 1, none⟩ = some (.int .i64 s) ∧ W.cell? ⟨w.heap.size + 1, 0, none⟩ = some (.int .i64 m) ∧ W.cell? ⟨w.heap.size + 1, 1, none⟩ = some (.int .i64 t) ∧ KS w (w.heap.size + 2) ([(w.heap.size, 0, .int .i64 l), (w.heap.size, 1, .int .i64 s), (w.heap.size + 1, 0, .int .i64 m), (w.heap.size + 1, 1, .int .i64 t)]) W)
      (exact ((fun (h : KS w (w.heap.size + 2) ([(w.heap.size, 0, .int .i64 l), (w.heap.size, 1, .int .i64 s), (w.heap.size + 1, 0, .int .i64 m), (w.heap.size + 1, 1, .int .i64 t)]) _) => ⟨h.at (by simp), h.at (by simp), h.at (by simp), h.at (by simp), h⟩) (by (repeat (first | assumption | exact inits w l s m t _ _ | refine KS.drew ?_ | refine KS.alloc ?_ _ | refine KS.set ?_ (by first | omega | (simp <;> omega)) _)))))
      (first | (go_at_call 9; refine (to_w _ _ _).mono ?_; rintro e w1 ⟨rfl, hb⟩; have hL := KS.call (w := w) (base := w.heap.size + 2) (L := [(w.heap.size, 0, .int .i64 l), (w.heap.size, 1, .int .i64 s), (w.heap.size + 1, 0, .int .i64 m), (w.heap.size + 1, 1, .int .i64 t)]) (by (repeat (first | assumption | exact inits w l s m t _ _ | refine KS.drew ?_ | refine KS.alloc ?_ _ | refine KS.set ?_ (by first | omega | (simp <;> omega)) _))) hb; have hz := hL.size; have hs := hb.size; (try simp at hs); (try have hqC := join hqC hb); (try have hqC := join_alloc hqC hb); (try have hqC := join_drew hqC hb); (try have hqB := join hqB hb); (try have hqB := join_alloc hqB hb); (try have hqB := join_drew hqB hb); (try have hqA := join hqA hb); (try have hqA := join_alloc hqA hb); (try have hqA := join_drew hqA hb); (first | (have hqD' := hqC; have hqD := hb) | (have hqB' := hqB; have hqC := hb) | (have hqA' := hqA; have hqB := hb) | have hqA := hb); (try (have hrA := rules hqA; obtain ⟨hrA1, hrA2, hrA3, hrA4⟩ := hrA)); (try (have hrB := rules hqB; obtain ⟨hrB1, hrB2, hrB3, hrB4⟩ := hrB)); (try (have hrC := rules hqC; obtain ⟨hrC1, hrC2, hrC3, hrC4⟩ := hrC)); (try (have hrD := rules hqD; obtain ⟨hrD1, hrD2, hrD3, hrD4⟩ := hrD))) | (go_at_call 11; refine (HS _).mono ?_; rintro e w1 ⟨rfl, hb⟩; have hL := KS.call (w := w) (base := w.heap.size + 2) (L := [(w.heap.size, 0, .int .i64 l), (w.heap.size, 1, .int .i64 s), (w.heap.size + 1, 0, .int .i64 m), (w.heap.size + 1, 1, .int .i64 t)]) (by (repeat (first | assumption | exact inits w l s m t _ _ | refine KS.drew ?_ | refine KS.alloc ?_ _ | refine KS.set ?_ (by first | omega | (simp <;> omega)) _))) hb; have hz := hL.size; have hs := hb.size; (try simp at hs); (try have hqC := join hqC hb); (try have hqC := join_alloc hqC hb); (try have hqC := join_drew hqC hb); (try have hqB := join hqB hb); (try have hqB := join_alloc hqB hb); (try have hqB := join_drew hqB hb); (try have hqA := join hqA hb); (try have hqA := join_alloc hqA hb); (try have hqA := join_drew hqA hb); (first | (have hqD' := hqC; have hqD := hb) | (have hqB' := hqB; have hqC := hb) | (have hqA' := hqA; have hqB := hb) | have hqA := hb); (try (have hrA := rules hqA; obtain ⟨hrA1, hrA2, hrA3, hrA4⟩ := hrA)); (try (have hrB := rules hqB; obtain ⟨hrB1, hrB2, hrB3, hrB4⟩ := hrB)); (try (have hrC := rules hqC; obtain ⟨hrC1, hrC2, hrC3, hrC4⟩ := hrC)); (try (have hrD := rules hqD; obtain ⟨hrD1, hrD2, hrD3, hrD4⟩ := hrD))))
    all_goals
      go_wp2_with fail
      go_meet
      exact ⟨rfl, by (repeat (first | assumption | exact inits w l s m t _ _ | refine KS.drew ?_ | refine KS.alloc ?_ _ | refine KS.set ?_ (by first | omega | (simp <;> omega)) _))⟩
  case rest =>
    obtain ⟨rfl, hcut⟩ := hcut
    go_upto_region 2 with fail
    go_cut [6] (fun s6 wx => s6 = .bool B ∧ KS w (w.heap.size + 2) ([(w.heap.size, 0, .int .i64 l), (w.heap.size, 1, .int .i64 s), (w.heap.size + 1, 0, .int .i64 m), (w.heap.size + 1, 1, .int .i64 t)]) wx)
    case first =>
      go_region_held3 (fun W => W.cell? ⟨w.heap.size, 0, none⟩ = some (.int .i64 l) ∧ W.cell? ⟨w.heap.size, 1, none⟩ = some (.int .i64 s) ∧ W.cell? ⟨w.heap.size + 1, 0, none⟩ = some (.int .i64 m) ∧ W.cell? ⟨w.heap.size + 1, 1, none⟩ = some (.int .i64 t) ∧ KS w (w.heap.size + 2) ([(w.heap.size, 0, .int .i64 l), (w.heap.size, 1, .int .i64 s), (w.heap.size + 1, 0, .int .i64 m), (w.heap.size + 1, 1, .int .i64 t)]) W)
        (exact ((fun (h : KS w (w.heap.size + 2) ([(w.heap.size, 0, .int .i64 l), (w.heap.size, 1, .int .i64 s), (w.heap.size + 1, 0, .int .i64 m), (w.heap.size + 1, 1, .int .i64 t)]) _) => ⟨h.at (by simp), h.at (by simp), h.at (by simp), h.at (by simp), h⟩) (by (repeat (first | assumption | exact hcut | refine KS.drew ?_ | refine KS.alloc ?_ _ | refine KS.set ?_ (by first | omega | (simp <;> omega)) _)))))
        (first | (go_at_call 9; refine (to_w _ _ _).mono ?_; rintro e w1 ⟨rfl, hb⟩; have hL := KS.call (w := w) (base := w.heap.size + 2) (L := [(w.heap.size, 0, .int .i64 l), (w.heap.size, 1, .int .i64 s), (w.heap.size + 1, 0, .int .i64 m), (w.heap.size + 1, 1, .int .i64 t)]) (by (repeat (first | assumption | exact hcut | refine KS.drew ?_ | refine KS.alloc ?_ _ | refine KS.set ?_ (by first | omega | (simp <;> omega)) _))) hb; have hz := hL.size; have hs := hb.size; (try simp at hs); (try have hqC := join hqC hb); (try have hqC := join_alloc hqC hb); (try have hqC := join_drew hqC hb); (try have hqB := join hqB hb); (try have hqB := join_alloc hqB hb); (try have hqB := join_drew hqB hb); (try have hqA := join hqA hb); (try have hqA := join_alloc hqA hb); (try have hqA := join_drew hqA hb); (first | (have hqD' := hqC; have hqD := hb) | (have hqB' := hqB; have hqC := hb) | (have hqA' := hqA; have hqB := hb) | have hqA := hb); (try (have hrA := rules hqA; obtain ⟨hrA1, hrA2, hrA3, hrA4⟩ := hrA)); (try (have hrB := rules hqB; obtain ⟨hrB1, hrB2, hrB3, hrB4⟩ := hrB)); (try (have hrC := rules hqC; obtain ⟨hrC1, hrC2, hrC3, hrC4⟩ := hrC)); (try (have hrD := rules hqD; obtain ⟨hrD1, hrD2, hrD3, hrD4⟩ := hrD))) | (go_at_call 12; refine (HI _).mono ?_; rintro e w1 ⟨rfl, hb⟩; have hL := KS.call (w := w) (base := w.heap.size + 2) (L := [(w.heap.size, 0, .int .i64 l), (w.heap.size, 1, .int .i64 s), (w.heap.size + 1, 0, .int .i64 m), (w.heap.size + 1, 1, .int .i64 t)]) (by (repeat (first | assumption | exact hcut | refine KS.drew ?_ | refine KS.alloc ?_ _ | refine KS.set ?_ (by first | omega | (simp <;> omega)) _))) hb; have hz := hL.size; have hs := hb.size; (try simp at hs); (try have hqC := join hqC hb); (try have hqC := join_alloc hqC hb); (try have hqC := join_drew hqC hb); (try have hqB := join hqB hb); (try have hqB := join_alloc hqB hb); (try have hqB := join_drew hqB hb); (try have hqA := join hqA hb); (try have hqA := join_alloc hqA hb); (try have hqA := join_drew hqA hb); (first | (have hqD' := hqC; have hqD := hb) | (have hqB' := hqB; have hqC := hb) | (have hqA' := hqA; have hqB := hb) | have hqA := hb); (try (have hrA := rules hqA; obtain ⟨hrA1, hrA2, hrA3, hrA4⟩ := hrA)); (try (have hrB := rules hqB; obtain ⟨hrB1, hrB2, hrB3, hrB4⟩ := hrB)); (try (have hrC := rules hqC; obtain ⟨hrC1, hrC2, hrC3, hrC4⟩ := hrC)); (try (have hrD := rules hqD; obtain ⟨hrD1, hrD2, hrD3, hrD4⟩ := hrD))))
      all_goals
        go_wp2_with fail
        go_meet
        exact ⟨rfl, by (repeat (first | assumption | exact hcut | refine KS.drew ?_ | refine KS.alloc ?_ _ | refine KS.set ?_ (by first | omega | (simp <;> omega)) _))⟩
    case rest =>
      obtain ⟨rfl, hcut⟩ := hcut
      have hb := Lib.hid hcut.below
      clear hcut
      go_wp2
      all_goals
        go_ret
        exact ⟨rfl, hb.out⟩
end Go.Proofs.Ytdapbomppjhdgaa.LabC
