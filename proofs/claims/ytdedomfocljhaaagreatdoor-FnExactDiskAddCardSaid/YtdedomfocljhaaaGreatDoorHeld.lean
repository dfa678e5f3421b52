/- What is held: the marks are there still, and in order. -/
import Derived.Test.YtdedomfocljhaaaGreatDoorRep3
namespace Go.Proofs.YtdedomfocljhaaaGreatDoor.RepC
open Go.RowKit RowC ValC
set_option linter.unusedVariables false
set_option linter.unusedSimpArgs false

/-- the marks go from here up to k', and nothing older has turned -/
def HeldC (k' : Int) (w : World) (e : Ending) (w' : World) : Prop := e = .returned (.int .i64 k') ∧ Below w.heap.size w w'
theorem heldC_elim {k' : Int} {w : World} {e : Ending} {w' : World} (h : HeldC k' w e w') : e = .returned (.int .i64 k') ∧ Below w.heap.size w w' := h
theorem Blk.off {w w' : World} {g : Nat} {t : TypeId} {cs : Array Value} {S : Nat → Prop} (h : Blk w g t cs) (ho : Off S w w') (hg : g < w.heap.size) (hS : ¬ S g) : Blk w' g t cs := (ho.block g hg hS).trans h
end Go.Proofs.YtdedomfocljhaaaGreatDoor.RepC
