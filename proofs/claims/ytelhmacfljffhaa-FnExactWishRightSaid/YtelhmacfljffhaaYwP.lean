/- Wishes: what is right. -/
import Derived.Test.YtelhmacfljffhaaYwT
import Derived.Test.YtelhmacfljffhaaUsP
import Derived.Test.YtelhmacfljffhaaUsQ
namespace Go.Proofs.Ytelhmacfljffhaa.RepC
open Go.RowKit RowC ValC SpanC KeptC NameC
set_option linter.unusedVariables false
set_option linter.unusedSimpArgs false

/-! ### a wish -/
def WishR : D_Wish → Prop
  | (ow, need, long, prio, (ul, us), after, count) => nameB ow = true ∧ isB need 1 6 = true ∧ isB long 1 20 = true ∧ isB prio 0 9 = true ∧ isB count 1 4 = true ∧ (after = 0 → ul = 0 ∧ us = 0) ∧ (after ≠ 0 → isB after 1 12 = true ∧ LabC.rB ul us = true)
open Classical in
noncomputable def wishB (x : D_Wish) : Bool := decide (WishR x)
open Classical in
theorem wishB_iff {x : D_Wish} : wishB x = true ↔ WishR x := by unfold wishB; simp

end Go.Proofs.Ytelhmacfljffhaa.RepC
