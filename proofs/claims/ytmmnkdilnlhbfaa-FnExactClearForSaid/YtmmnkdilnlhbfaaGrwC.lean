/- Three blocks made one behind the other. -/
import Derived.Test.YtmmnkdilnlhbfaaLbC
import Derived.Sort.Grow
import Derived.Sort.Walk0
import Derived.Sort.Statements
namespace Go.Proofs.Ytmmnkdilnlhbfaa.SortC
open Go.Shelf Go.RowKit RepC Go.Lib Go.Sort
set_option linter.unusedVariables false
set_option linter.unusedSimpArgs false

theorem grow3 (V : World) (o1 o2 o3 : Obj) : (((V.alloc o1).alloc o2).drew).alloc o3 = grow (V.drewN 1) #[o1, o2, o3] := by
  simp only [alloc_eq_grow]
  show grow (grow (grow (V.drewN 1) #[o1]) #[o2]) #[o3] = _
  rw [grow_grow, grow_grow]
  rfl
end Go.Proofs.Ytmmnkdilnlhbfaa.SortC
