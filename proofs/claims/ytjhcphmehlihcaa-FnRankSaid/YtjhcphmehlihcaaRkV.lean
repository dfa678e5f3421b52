/- Rank in the model and in the program: contracts; the law. -/
import Derived.Test.YtjhcphmehlihcaaSp
import Derived.Test.YtjhcphmehlihcaaLab
import Derived.Test.YtjhcphmehlihcaaTk
namespace Go.Proofs.Ytjhcphmehlihcaa.RkC
open Go.RowKit KeptC SpanC
set_option linter.unusedVariables false
set_option linter.unusedSimpArgs false

def rankV (p a u : Int) : Int := if (isB p 0 9 && (isB a 0 1000000 && isB u 0 1000000)) = true then 100 * p + LabC.minV a 50 - LabC.minV u 90 else 0
theorem rankV_no1 {p a u : Int} (h : isB p 0 9 = false) : rankV p a u = 0 := by unfold rankV; rw [if_neg (by simp [h])]
theorem rankV_no2 {p a u : Int} (h : isB a 0 1000000 = false) : rankV p a u = 0 := by unfold rankV; rw [if_neg (by simp [h])]
theorem rankV_no3 {p a u : Int} (h : isB u 0 1000000 = false) : rankV p a u = 0 := by unfold rankV; rw [if_neg (by simp [h])]
theorem rankV_yes {p a u : Int} (h1 : isB p 0 9 = true) (h2 : isB a 0 1000000 = true) (h3 : isB u 0 1000000 = true) : rankV p a u = 100 * p + LabC.minV a 50 - LabC.minV u 90 := by unfold rankV; rw [if_pos (by simp [h1, h2, h3])]
theorem minV_bd (a b : Int) : LabC.minV a b ≤ a ∧ LabC.minV a b ≤ b ∧ (LabC.minV a b = a ∨ LabC.minV a b = b) := by unfold LabC.minV; split <;> omega
set_option maxRecDepth 100000 in
set_option maxHeartbeats 1600000 in
theorem rank_spec (p a u : Int) (w : World) : Calls Try.prog 24 #[.int .i64 p, .int .i64 a, .int .i64 u] w fun e w' => e = .returned (.int .i64 (rankV p a u)) ∧ w = w' := by
  cases h1 : isB p 0 9 with
  | false =>
    rw [rankV_no1 h1]
    have c1 := fun W => is_spec p 0 9 W
    rw [h1] at c1
    clear h1
    go_enter Try.func24, Try.ntmps24
    go_wp2_with (go_at_call 46; refine (c1 _).mono ?_; rintro e w' ⟨rfl, rfl⟩)
    go_ret
    exact ⟨rfl, rfl⟩
  | true =>
  have c1 := fun W => is_spec p 0 9 W
  have b1 := (isB_iff _ _ _).1 h1
  rw [h1] at c1
  cases h2 : isB a 0 1000000 with
  | false =>
    rw [rankV_no2 h2]
    have c2 := fun W => time_spec a W
    rw [h2] at c2
    clear h2 h1
    go_enter Try.func24, Try.ntmps24
    go_wp2_with (first | (go_at_call 46; refine (c1 _).mono ?_; rintro e w' ⟨rfl, rfl⟩) | (go_at_call 55; refine (c2 _).mono ?_; rintro e w' ⟨rfl, rfl⟩))
    go_ret
    exact ⟨rfl, rfl⟩
  | true =>
  have c2 := fun W => time_spec a W
  have b2 := (isB_iff _ _ _).1 h2
  rw [h2] at c2
  cases h3 : isB u 0 1000000 with
  | false =>
    rw [rankV_no3 h3]
    have c3 := fun W => time_spec u W
    rw [h3] at c3
    clear h2 h1 h3
    go_enter Try.func24, Try.ntmps24
    go_wp2_with (first | (go_at_call 46; refine (c1 _).mono ?_; rintro e w' ⟨rfl, rfl⟩) | (go_at_call 55; first | (refine (c2 _).mono ?_; rintro e w' ⟨rfl, rfl⟩) | (refine (c3 _).mono ?_; rintro e w' ⟨rfl, rfl⟩)))
    go_ret
    exact ⟨rfl, rfl⟩
  | true =>
  have HE := Lib.hid (rankV_yes h1 h2 h3)
  have c3 := fun W => time_spec u W
  have b3 := (isB_iff _ _ _).1 h3
  rw [h3] at c3
  clear h1 h2 h3
  have m1 := minV_bd a 50
  have m2 := minV_bd u 90
  have l1 : 0 ≤ LabC.minV a 50 := by omega
  have l2 : 0 ≤ LabC.minV u 90 := by omega
  obtain ⟨x, hx⟩ : ∃ x, x = LabC.minV a 50 := ⟨_, rfl⟩
  obtain ⟨y, hy⟩ : ∃ y, y = LabC.minV u 90 := ⟨_, rfl⟩
  have d1 := fun W => LabC.min_any a 50 W
  have d2 := fun W => LabC.min_any u 90 W
  rw [← hx] at d1 m1 l1 HE
  rw [← hy] at d2 m2 l2 HE
  clear hx hy
  have x1 : x ≤ 50 := m1.2.1
  have y1 : y ≤ 90 := m2.2.1
  clear m1 m2
  go_enter Try.func24, Try.ntmps24
  go_wp2_with (first | (go_at_call 46; refine (c1 _).mono ?_; rintro e w' ⟨rfl, rfl⟩) | (go_at_call 55; first | (refine (c2 _).mono ?_; rintro e w' ⟨rfl, rfl⟩) | (refine (c3 _).mono ?_; rintro e w' ⟨rfl, rfl⟩)) | (go_at_call 47; first | (refine (d1 _).mono ?_; rintro e w' ⟨rfl, rfl⟩) | (refine (d2 _).mono ?_; rintro e w' ⟨rfl, rfl⟩)))
  go_ret
  exact ⟨by rw [HE.out]; rfl, rfl⟩
set_option maxRecDepth 100000 in
set_option maxHeartbeats 1600000 in
theorem rank_impl (p a u : Int) (w : World) : Calls Try.prog 23 #[.int .i64 p, .int .i64 a, .int .i64 u] w fun e w' => e = .returned (.int .i64 (rankV p a u)) ∧ w = w' := by
  cases h1 : isB p 0 9 with
  | false =>
    rw [rankV_no1 h1]
    have c1 := fun W => is_impl p 0 9 W
    rw [h1] at c1
    clear h1
    go_enter Try.func23, Try.ntmps23
    go_wp2_with (go_at_call 53; refine (c1 _).mono ?_; rintro e w' ⟨rfl, rfl⟩)
    go_ret
    exact ⟨rfl, rfl⟩
  | true =>
  have c1 := fun W => is_impl p 0 9 W
  have b1 := (isB_iff _ _ _).1 h1
  rw [h1] at c1
  cases h2 : isB a 0 1000000 with
  | false =>
    rw [rankV_no2 h2]
    have c2 := fun W => time_impl a W
    rw [h2] at c2
    clear h2 h1
    go_enter Try.func23, Try.ntmps23
    go_wp2_with (first | (go_at_call 53; refine (c1 _).mono ?_; rintro e w' ⟨rfl, rfl⟩) | (go_at_call 54; refine (c2 _).mono ?_; rintro e w' ⟨rfl, rfl⟩))
    go_ret
    exact ⟨rfl, rfl⟩
  | true =>
  have c2 := fun W => time_impl a W
  have b2 := (isB_iff _ _ _).1 h2
  rw [h2] at c2
  cases h3 : isB u 0 1000000 with
  | false =>
    rw [rankV_no3 h3]
    have c3 := fun W => time_impl u W
    rw [h3] at c3
    clear h2 h1 h3
    go_enter Try.func23, Try.ntmps23
    go_wp2_with (first | (go_at_call 53; refine (c1 _).mono ?_; rintro e w' ⟨rfl, rfl⟩) | (go_at_call 54; first | (refine (c2 _).mono ?_; rintro e w' ⟨rfl, rfl⟩) | (refine (c3 _).mono ?_; rintro e w' ⟨rfl, rfl⟩)))
    go_ret
    exact ⟨rfl, rfl⟩
  | true =>
  have HE := Lib.hid (rankV_yes h1 h2 h3)
  have c3 := fun W => time_impl u W
  have b3 := (isB_iff _ _ _).1 h3
  rw [h3] at c3
  clear h1 h2 h3
  by_cases ha : a ≤ 50
  · have HA := Lib.hid (LabC.min_le ha)
    by_cases hu : u ≤ 90
    · have HU := Lib.hid (LabC.min_le hu)
      go_enter Try.func23, Try.ntmps23
      go_wp2_with (first | (go_at_call 53; refine (c1 _).mono ?_; rintro e w' ⟨rfl, rfl⟩) | (go_at_call 54; first | (refine (c2 _).mono ?_; rintro e w' ⟨rfl, rfl⟩) | (refine (c3 _).mono ?_; rintro e w' ⟨rfl, rfl⟩)))
      go_ret
      exact ⟨by rw [HE.out, ← HA.out, ← HU.out]; rfl, rfl⟩
    · have HU := Lib.hid (LabC.min_ge (a := u) (b := 90) (by omega))
      go_enter Try.func23, Try.ntmps23
      go_wp2_with (first | (go_at_call 53; refine (c1 _).mono ?_; rintro e w' ⟨rfl, rfl⟩) | (go_at_call 54; first | (refine (c2 _).mono ?_; rintro e w' ⟨rfl, rfl⟩) | (refine (c3 _).mono ?_; rintro e w' ⟨rfl, rfl⟩)))
      go_ret
      exact ⟨by rw [HE.out, ← HA.out, ← HU.out]; rfl, rfl⟩
  · have HA := Lib.hid (LabC.min_ge (a := a) (b := 50) (by omega))
    by_cases hu : u ≤ 90
    · have HU := Lib.hid (LabC.min_le hu)
      go_enter Try.func23, Try.ntmps23
      go_wp2_with (first | (go_at_call 53; refine (c1 _).mono ?_; rintro e w' ⟨rfl, rfl⟩) | (go_at_call 54; first | (refine (c2 _).mono ?_; rintro e w' ⟨rfl, rfl⟩) | (refine (c3 _).mono ?_; rintro e w' ⟨rfl, rfl⟩)))
      go_ret
      exact ⟨by rw [HE.out, ← HA.out, ← HU.out]; rfl, rfl⟩
    · have HU := Lib.hid (LabC.min_ge (a := u) (b := 90) (by omega))
      go_enter Try.func23, Try.ntmps23
      go_wp2_with (first | (go_at_call 53; refine (c1 _).mono ?_; rintro e w' ⟨rfl, rfl⟩) | (go_at_call 54; first | (refine (c2 _).mono ?_; rintro e w' ⟨rfl, rfl⟩) | (refine (c3 _).mono ?_; rintro e w' ⟨rfl, rfl⟩)))
      go_ret
      exact ⟨by rw [HE.out, ← HA.out, ← HU.out]; rfl, rfl⟩
set_option maxRecDepth 100000 in
theorem law_rank (p a u : Int) (W : World) : Calls Try.prog 9 #[.int .i64 p, .int .i64 a, .int .i64 u] W fun e w' => e = .returned (.bool true) ∧ Below W.heap.size W w' := by
  obtain ⟨r, hr⟩ : ∃ r, rankV p a u = r := ⟨_, rfl⟩
  have c1 := fun W => rank_spec p a u W
  have c2 := fun W => rank_impl p a u W
  rw [hr] at c1 c2
  clear hr
  have hbb : (r != r) = false := by simp
  go_enter Try.func9, Try.ntmps9
  go_wp2_with (first | (go_at_call 24; refine (c1 _).mono ?_; rintro e w' ⟨rfl, rfl⟩) | (go_at_call 23; refine (c2 _).mono ?_; rintro e w' ⟨rfl, rfl⟩))
  go_ret
  exact ⟨rfl, Below.refl _ _⟩
end Go.Proofs.Ytjhcphmehlihcaa.RkC
