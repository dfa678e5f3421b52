/- Join and meet, in the program and in its model: contracts. -/
import Derived.Test.YtmmnkdilnlhbfaaLab
import Derived.StillTailTactics
namespace Go.Proofs.Ytmmnkdilnlhbfaa.LabC
open Go.RowKit

theorem join_yes {l s m t : Int} (h1 : rB l s = true) (h2 : rB m t = true) : joinV l s m t = lab (maxV l m) (bits BinOp.or IntKind.i64 s t) := by unfold joinV; rw [if_pos ⟨h1, h2⟩]
theorem join_no1 {l s m t : Int} (h1 : rB l s = false) : joinV l s m t = .agg #[.int .i64 0, .int .i64 0] := by unfold joinV; rw [if_neg (by simp [h1])]; rfl
theorem join_no2 {l s m t : Int} (h1 : rB m t = false) : joinV l s m t = .agg #[.int .i64 0, .int .i64 0] := by unfold joinV; rw [if_neg (by simp [h1])]; rfl

theorem meet_yes {l s m t : Int} (h1 : rB l s = true) (h2 : rB m t = true) : meetV l s m t = lab (minV l m) (bits BinOp.and IntKind.i64 s t) := by unfold meetV; rw [if_pos ⟨h1, h2⟩]
theorem meet_no1 {l s m t : Int} (h1 : rB l s = false) : meetV l s m t = .agg #[.int .i64 0, .int .i64 0] := by unfold meetV; rw [if_neg (by simp [h1])]; rfl
theorem meet_no2 {l s m t : Int} (h1 : rB m t = false) : meetV l s m t = .agg #[.int .i64 0, .int .i64 0] := by unfold meetV; rw [if_neg (by simp [h1])]; rfl

set_option maxRecDepth 100000 in
set_option maxHeartbeats 1600000 in
theorem meet_impl (l s m t : Int) (w : World) :
    Calls Try.prog 136 #[lab l s, lab m t] w fun e w' => e = .returned (meetV l s m t) ∧ Below w.heap.size w w' := by
  by_cases h1 : rB l s = true
  · by_cases h2 : rB m t = true
    · rw [meet_yes h1 h2]
      unfold lab
      go_enter Try.func136, Try.ntmps136
      go_wp2_with (go_at_call 100; refine (right_impl _ _ _).mono ?_; unfold labO; rintro e w1 ⟨rfl, rfl⟩)
      all_goals
        refine bodyPost_ret (v := .agg #[.int .i64 (minV l m), .int .i64 (bits BinOp.and IntKind.i64 s t)]) (by simp [results, Try.results136, go_sem]; first | exact min_lt ‹_› | exact min_ge ‹_› | (unfold minV; split <;> omega)) rfl ⟨rfl, ?_⟩
        repeat (first | exact Below.refl _ _ | refine Below.setCell ?_ (by simp <;> omega) _ | refine Below.drew ?_ | refine Below.alloc ?_ (by simp <;> omega) _)
    · have h2' : rB m t = false := by simpa using h2
      rw [meet_no2 h2']
      clear h2
      unfold lab
      go_enter Try.func136, Try.ntmps136
      go_wp2_with (go_at_call 100; refine (right_impl _ _ _).mono ?_; unfold labO; rintro e w1 ⟨rfl, rfl⟩)
      refine bodyPost_ret (v := .agg #[.int .i64 0, .int .i64 0]) (by simp [results, Try.results136, go_sem]) rfl ⟨rfl, ?_⟩
      repeat (first | exact Below.refl _ _ | refine Below.setCell ?_ (by simp <;> omega) _ | refine Below.drew ?_ | refine Below.alloc ?_ (by simp <;> omega) _)
  · have h1' : rB l s = false := by simpa using h1
    rw [meet_no1 h1']
    clear h1
    unfold lab
    go_enter Try.func136, Try.ntmps136
    go_wp2_with (go_at_call 100; refine (right_impl _ _ _).mono ?_; unfold labO; rintro e w1 ⟨rfl, rfl⟩)
    refine bodyPost_ret (v := .agg #[.int .i64 0, .int .i64 0]) (by simp [results, Try.results136, go_sem]) rfl ⟨rfl, ?_⟩
    repeat (first | exact Below.refl _ _ | refine Below.setCell ?_ (by simp <;> omega) _ | refine Below.drew ?_ | refine Below.alloc ?_ (by simp <;> omega) _)

end Go.Proofs.Ytmmnkdilnlhbfaa.LabC
