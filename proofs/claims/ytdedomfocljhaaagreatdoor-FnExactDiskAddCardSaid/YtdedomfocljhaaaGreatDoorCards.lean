/-
  DERIVED. GIVEN WITH THE SEED: THE CARDS: each row of YtdedomfocljhaaaGreatDoorRows.lean that lists a variable, with what it lists TIED to the program's text (the seventh form; the later family's looks); each row that meets fmt, with fmt's text TOLD by the authors' own Lean function (tested against real Go, not proved from fmt's source: count such statements apart). THE CARD IS WHAT COUNTS. Prove the row's statement (the work); the ties are given (YtdedomfocljhaaaGreatDoorTie.lean); close each card by the builder's one call (the guide's Derived/Test/ToyasCard.lean, 'card_holds'). Laid BY PROGRAM, IN A SANDBOX (cutbox-door.mjs). By AI agents, Wed Nov 11 2026. No macro, syntax, notation, axiom, sorry.
-/
import Derived.Test.YtdedomfocljhaaaGreatDoorRows
import GoSem.ClaimSeven
namespace Go.Proofs.YtdedomfocljhaaaGreatDoor
namespace Rows

/-- THE TIED CARD OF 'laws.FnExactDiskAdd'. -/
def fnExactDiskAddCard : Claim7 := { stood := { row := fnExactDiskAddRow, standIns := [], harness := (true, "b414a51d756243b98b70823151ca1ddaa547ca781b7c82c1ca25a0026bf30e8b"), looks := true }, kinds := [], alts := [], laidByText := true, laidKinds := [.handle], laidTests := true, laidLooks := .later }
def FnExactDiskAddCardSaid : Prop := Claim7.holds Tryz.pinned (.plain (OpenSpec.ofChange fnExactDiskAddSpec)) fnExactDiskAddCard

/-- THE SECOND FORM's CARD OF 'laws.FnExactDiskAdd'. -/
def fnExactDiskAddUptoCard : Claim7 := { stood := { row := fnExactDiskAddUptoRow, standIns := [], harness := (true, "b414a51d756243b98b70823151ca1ddaa547ca781b7c82c1ca25a0026bf30e8b"), looks := true }, kinds := [], alts := [], laidByText := true, laidKinds := [.handle], laidTests := true, laidLooks := .later }
def FnExactDiskAddUptoCardSaid : Prop := Claim7.holds Tryz.pinned (.plain (OpenSpec.upto fnExactDiskAddSpec)) fnExactDiskAddUptoCard
end Rows
end Go.Proofs.YtdedomfocljhaaaGreatDoor
