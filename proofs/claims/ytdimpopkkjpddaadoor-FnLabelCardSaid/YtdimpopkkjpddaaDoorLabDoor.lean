/- The condition on the tables gives the table of letters. -/
import Derived.Test.YtdimpopkkjpddaaDoorTextLaw
import Derived.Test.YtdimpopkkjpddaaDoorTables
import Derived.Test.YtdimpopkkjpddaaDoorLabOpen
namespace Go.Proofs.YtdimpopkkjpddaaDoor.LabC
open Go.RowKit

theorem door_of {L : List (String × DataW Unit)} {W : World} (hp : (L.all fun x => x.2.handleName?.isNone) = true) (hm : ("loop.example/g00658/impl.setLetters", DataW.agg (([97, 98, 99] : List Int).map fun n => DataW.lit (.int .i32 n))) ∈ L) (h : laidMetH Tryd.prog L W) : Door W := by
  have hi := TabC.laid_ints (TabC.plain_met hp h) hm (g := 0) (t := 103) (e := 21) (len := 3) (by kernel_rfl) (by kernel_rfl) Tryd.underlying103 Tryd.underlying21 (by kernel_rfl)
  exact ⟨hi 0 (by decide), hi 1 (by decide), hi 2 (by decide)⟩
end Go.Proofs.YtdimpopkkjpddaaDoor.LabC
