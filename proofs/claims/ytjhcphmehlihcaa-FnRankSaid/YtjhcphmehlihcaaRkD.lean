/- The draw of a rank; the law on ranks. -/
import Derived.Test.YtjhcphmehlihcaaRkV
import Derived.Test.YtjhcphmehlihcaaDraws
namespace Go.Proofs.Ytjhcphmehlihcaa.RkC
open Go.RowKit KeptC SpanC DrawC
set_option linter.unusedVariables false
set_option linter.unusedSimpArgs false

def DrawnK (w : World) (e : Ending) (w' : World) : Prop := ∃ p a u : Int, e = .returned (.tuple #[.int .i64 p, .int .i64 a, .int .i64 u]) ∧ (-1 ≤ p ∧ p ≤ 11) ∧ (-9223372036854775808 ≤ a ∧ a ≤ 9223372036854775807) ∧ (-9223372036854775808 ≤ u ∧ u ≤ 9223372036854775807) ∧ Below w.heap.size w w'
set_option maxRecDepth 100000 in
set_option maxHeartbeats 1600000 in
theorem draw_rank (b : Option Addr) (len cap : Nat) (w : World) (hl : len ≤ 1048576) (h : CodeIn w b len) : Calls Try.prog 22 #[.slice b len cap] w (DrawnK w) := by
  have HC := Lib.hid h
  clear h
  go_enter Try.func22, Try.ntmps22
  go_wp2_with fail
  refine (source_any b len cap _ hl HC.out).mono ?_
  rintro e w1 ⟨rfl, hs, hb⟩
  have HB1 := Lib.hid hb
  have HS1 := Lib.hid hs
  clear hb hs
  go_wp2_with fail
  refine (one_any _ b len cap _ _ HS1.out (by omega)).mono ?_
  rintro e w2 ⟨v, rfl, hs, hb⟩
  have HB2 := Lib.hid (HB1.out.trans (hb.below HB1.out.size (Nat.le_refl _)))
  have HS2 := Lib.hid hs
  clear hs hb HS1
  cases v with
  | true =>
    go_wp2_with fail
    refine (n_any _ b len cap 12 _ HS2.out (by omega)).mono ?_
    rintro e w3 ⟨p, rfl, p0, p1, hs, hb⟩
    have HB3 := Lib.hid (HB2.out.trans (hb.below HB2.out.size (Nat.le_refl _)))
    have HS3 := Lib.hid hs
    clear hs hb HS2
    have p2 : p ≤ 12 := by omega
    go_wp2_with fail
    refine (edge_any _ b len cap _ HS3.out).mono ?_
    rintro e w4 ⟨a, rfl, a0, a1, hs, hb⟩
    have HB4 := Lib.hid (HB3.out.trans (hb.below HB3.out.size (Nat.le_refl _)))
    have HS4 := Lib.hid hs
    clear hs hb HS3
    go_wp2_with fail
    refine (edge_any _ b len cap _ HS4.out).mono ?_
    rintro e w5 ⟨u, rfl, u0, u1, hs, hb⟩
    have HB5 := Lib.hid (HB4.out.trans (hb.below HB4.out.size (Nat.le_refl _)))
    clear hs hb HS4
    have HP := Lib.hid (show -1 ≤ p - 1 ∧ p - 1 ≤ 11 by omega)
    go_wp2
    refine bodyPost_ret (v := .tuple #[.int .i64 (p - 1), .int .i64 a, .int .i64 u]) (by simp [results, Try.results22, go_sem]) rfl ?_
    exact ⟨_, _, _, rfl, HP.out, ⟨a0, a1⟩, ⟨u0, u1⟩, HB5.out⟩
  | false =>
    go_wp2_with fail
    refine (n_any _ b len cap 10 _ HS2.out (by omega)).mono ?_
    rintro e w3 ⟨p, rfl, p0, p1, hs, hb⟩
    have HB3 := Lib.hid (HB2.out.trans (hb.below HB2.out.size (Nat.le_refl _)))
    have HS3 := Lib.hid hs
    clear hs hb HS2
    have p2 : p ≤ 11 := by omega
    go_wp2_with fail
    refine (n_any _ b len cap 80 _ HS3.out (by omega)).mono ?_
    rintro e w4 ⟨a, rfl, a0, a1, hs, hb⟩
    have HB4 := Lib.hid (HB3.out.trans (hb.below HB3.out.size (Nat.le_refl _)))
    have HS4 := Lib.hid hs
    clear hs hb HS3
    have a2 : a ≤ 80 := by omega
    go_wp2_with fail
    refine (n_any _ b len cap 120 _ HS4.out (by omega)).mono ?_
    rintro e w5 ⟨u, rfl, u0, u1, hs, hb⟩
    have HB5 := Lib.hid (HB4.out.trans (hb.below HB4.out.size (Nat.le_refl _)))
    clear hs hb HS4
    have u2 : u ≤ 120 := by omega
    go_wp2
    refine bodyPost_ret (v := .tuple #[.int .i64 p, .int .i64 a, .int .i64 u]) (by simp [results, Try.results22, go_sem]) rfl ?_
    exact ⟨_, _, _, rfl, ⟨by omega, by omega⟩, ⟨by omega, by omega⟩, ⟨by omega, by omega⟩, HB5.out⟩
theorem rank_bd (p a u : Int) : -90 ≤ rankV p a u ∧ rankV p a u ≤ 950 := by
  unfold rankV
  split
  · rename_i h
    simp only [Bool.and_eq_true, isB_iff] at h
    have m1 := minV_bd a 50
    have m2 := minV_bd u 90
    omega
  · omega
/-- what the law asks of ranks -/
theorem rank_facts {p a u : Int} (h1 : 0 ≤ p) (h2 : p ≤ 8) (h3 : 0 ≤ a) (h4 : a < 1000000) (h5 : 1 ≤ u) (h6 : u ≤ 1000000) :
    (rankV p a u ≤ rankV p (a + 1) u) ∧ (rankV p a u ≤ rankV p a (u - 1)) ∧ (rankV p a u < rankV p (a + 1) u ↔ a < 50) ∧ (rankV p a u < rankV p a (u - 1) ↔ u ≤ 90) ∧ rankV (p + 1) a u = rankV p a u + 100 := by
  have e1 := rankV_yes (p := p) (a := a) (u := u) ((isB_iff _ _ _).2 ⟨by omega, by omega⟩) ((isB_iff _ _ _).2 ⟨by omega, by omega⟩) ((isB_iff _ _ _).2 ⟨by omega, by omega⟩)
  have e2 := rankV_yes (p := p) (a := a + 1) (u := u) ((isB_iff _ _ _).2 ⟨by omega, by omega⟩) ((isB_iff _ _ _).2 ⟨by omega, by omega⟩) ((isB_iff _ _ _).2 ⟨by omega, by omega⟩)
  have e3 := rankV_yes (p := p) (a := a) (u := u - 1) ((isB_iff _ _ _).2 ⟨by omega, by omega⟩) ((isB_iff _ _ _).2 ⟨by omega, by omega⟩) ((isB_iff _ _ _).2 ⟨by omega, by omega⟩)
  have e4 := rankV_yes (p := p + 1) (a := a) (u := u) ((isB_iff _ _ _).2 ⟨by omega, by omega⟩) ((isB_iff _ _ _).2 ⟨by omega, by omega⟩) ((isB_iff _ _ _).2 ⟨by omega, by omega⟩)
  rw [e1, e2, e3, e4]
  have g : ∀ x y : Int, LabC.minV x y = if x < y then x else y := fun x y => by
    have := minV_bd x y
    split <;> omega
  rw [g a, g u, g (a + 1), g (u - 1)]
  refine ⟨?_, ?_, ?_, ?_, ?_⟩ <;> (repeat' split) <;> omega
set_option maxRecDepth 100000 in
set_option maxHeartbeats 3200000 in
theorem law_fnrank (b : Option Addr) (len cap : Nat) (W : World) (h : CodeIn W b len) : Calls Try.prog 4 #[.slice b len cap] W fun e w' => e = .returned (.bool true) ∧ Below W.heap.size W w' := by
  have HC := Lib.hid h
  clear h
  by_cases hl : len ≤ 1048576
  rotate_left
  · have hd : decide ((1048576 : Int) < (len : Int)) = true := decide_eq_true (by omega)
    go_enter Try.func4, Try.ntmps4
    go_wp2
    go_ret
    exact ⟨rfl, Below.refl _ _⟩
  have hd : decide ((1048576 : Int) < (len : Int)) = false := decide_eq_false (by omega)
  go_enter Try.func4, Try.ntmps4
  go_wp2_with fail
  refine (draw_rank b len cap _ hl HC.out).mono ?_
  rintro e w1 ⟨p, a, u, rfl, hp, ha, hu, hb⟩
  have HB := Lib.hid hb
  clear hb
  obtain ⟨r, hr⟩ : ∃ r, rankV p a u = r := ⟨_, rfl⟩
  have HRV := Lib.hid hr
  have hrb := rank_bd p a u
  have c1 := fun W => rank_spec p a u W
  have c2 := fun W => rank_impl p a u W
  rw [hr] at c1 c2 hrb
  clear hr
  have hbb : (r != r) = false := by simp
  go_wp2_with fail
  refine (c2 _).mono ?_
  rintro e w' ⟨rfl, rfl⟩
  go_wp2_with fail
  refine (c1 _).mono ?_
  rintro e w' ⟨rfl, rfl⟩
  clear c1
  by_cases h1 : p < 0
  · have g1 : decide (p < 0) = true := decide_eq_true h1
    go_wp2
    go_ret
    exact ⟨rfl, HB.out⟩
  have g1 : decide (p < 0) = false := decide_eq_false h1
  by_cases h2 : 8 < p
  · have g2 : decide (8 < p) = true := decide_eq_true h2
    go_wp2
    go_ret
    exact ⟨rfl, HB.out⟩
  have g2 : decide (8 < p) = false := decide_eq_false h2
  by_cases h3 : a < 0
  · have g3 : decide (a < 0) = true := decide_eq_true h3
    go_wp2
    go_ret
    exact ⟨rfl, HB.out⟩
  have g3 : decide (a < 0) = false := decide_eq_false h3
  by_cases h4 : 1000000 ≤ a
  · have g4 : decide (1000000 ≤ a) = true := decide_eq_true h4
    go_wp2
    go_ret
    exact ⟨rfl, HB.out⟩
  have g4 : decide (1000000 ≤ a) = false := decide_eq_false h4
  by_cases h5 : u < 1
  · have g5 : decide (u < 1) = true := decide_eq_true h5
    go_wp2
    go_ret
    exact ⟨rfl, HB.out⟩
  have g5 : decide (u < 1) = false := decide_eq_false h5
  by_cases h6 : 1000000 < u
  · have g6 : decide (1000000 < u) = true := decide_eq_true h6
    go_wp2
    go_ret
    exact ⟨rfl, HB.out⟩
  have g6 : decide (1000000 < u) = false := decide_eq_false h6
  have HF := Lib.hid (rank_facts (p := p) (a := a) (u := u) (by omega) (by omega) (by omega) (by omega) (by omega) (by omega))
  obtain ⟨y, hy⟩ : ∃ y, rankV p (a + 1) u = y := ⟨_, rfl⟩
  obtain ⟨z, hz⟩ : ∃ z, rankV p a (u - 1) = z := ⟨_, rfl⟩
  obtain ⟨x, hx⟩ : ∃ x, rankV (p + 1) a u = x := ⟨_, rfl⟩
  have d1 := fun W => rank_impl p (a + 1) u W
  have d2 := fun W => rank_impl p a (u - 1) W
  have d3 := fun W => rank_impl (p + 1) a u W
  rw [hy] at d1 HF
  rw [hz] at d2 HF
  rw [hx] at d3 HF
  rw [HRV.out] at HF
  obtain ⟨f1, f2, f3, f4, f5⟩ := HF.out
  clear hy hz hx HF c2
  have k1 : decide (y < r) = false := decide_eq_false (by omega)
  have k2 : decide (z < r) = false := decide_eq_false (by omega)
  have k5 : (x == r + 100) = true := by rw [f5]; simp
  clear f5
  go_wp2_with fail
  refine (d1 _).mono ?_
  rintro e w' ⟨rfl, rfl⟩
  go_wp2_with fail
  refine (d2 _).mono ?_
  rintro e w' ⟨rfl, rfl⟩
  clear d1 d2
  obtain ⟨q1, hq1, hq1'⟩ : ∃ q, decide (r < y) = q ∧ decide (a < 50) = q := ⟨decide (a < 50), by rw [decide_eq_decide]; exact f3, rfl⟩
  obtain ⟨q2, hq2, hq2'⟩ : ∃ q, decide (r < z) = q ∧ decide (u ≤ 90) = q := ⟨decide (u ≤ 90), by rw [decide_eq_decide]; exact f4, rfl⟩
  clear f1 f2 f3 f4
  cases q1 <;> cases q2
  all_goals
    go_wp2_with (go_at_call 23; refine (d3 _).mono ?_; rintro e w' ⟨rfl, rfl⟩)
    go_ret
    exact ⟨by simp [k5], HB.out⟩
end Go.Proofs.Ytjhcphmehlihcaa.RkC
