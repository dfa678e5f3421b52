/- Join and meet, in the program and in its model: contracts. -/
import Derived.Test.YtelhmacfljffhaaLab
import Derived.StillTailTactics
namespace Go.Proofs.Ytelhmacfljffhaa.LabC
open Go.RowKit

theorem join_yes {l s m t : Int} (h1 : rB l s = true) (h2 : rB m t = true) : joinV l s m t = lab (maxV l m) (bits BinOp.or IntKind.i64 s t) := by unfold joinV; rw [if_pos ⟨h1, h2⟩]
theorem join_no1 {l s m t : Int} (h1 : rB l s = false) : joinV l s m t = .agg #[.int .i64 0, .int .i64 0] := by unfold joinV; rw [if_neg (by simp [h1])]; rfl
theorem join_no2 {l s m t : Int} (h1 : rB m t = false) : joinV l s m t = .agg #[.int .i64 0, .int .i64 0] := by unfold joinV; rw [if_neg (by simp [h1])]; rfl

theorem meet_yes {l s m t : Int} (h1 : rB l s = true) (h2 : rB m t = true) : meetV l s m t = lab (minV l m) (bits BinOp.and IntKind.i64 s t) := by unfold meetV; rw [if_pos ⟨h1, h2⟩]
theorem meet_no1 {l s m t : Int} (h1 : rB l s = false) : meetV l s m t = .agg #[.int .i64 0, .int .i64 0] := by unfold meetV; rw [if_neg (by simp [h1])]; rfl
theorem meet_no2 {l s m t : Int} (h1 : rB m t = false) : meetV l s m t = .agg #[.int .i64 0, .int .i64 0] := by unfold meetV; rw [if_neg (by simp [h1])]; rfl

end Go.Proofs.Ytelhmacfljffhaa.LabC
