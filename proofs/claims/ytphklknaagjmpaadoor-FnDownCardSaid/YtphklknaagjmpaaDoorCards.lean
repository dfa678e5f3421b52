/-
  DERIVED. GIVEN WITH THE SEED: THE CARDS: each row of YtphklknaagjmpaaDoorRows.lean that lists a variable, with what it lists TIED to the program's text (the seventh form; the later family's looks); each row that meets fmt, with fmt's text TOLD by the authors' own Lean function (tested against real Go, not proved from fmt's source: count such statements apart). THE CARD IS WHAT COUNTS. Prove the row's statement (the work); the ties are given (YtphklknaagjmpaaDoorTie.lean); close each card by the builder's one call (the guide's Derived/Test/ToyasCard.lean, 'card_holds'). Laid BY PROGRAM, IN A SANDBOX (cutbox-door.mjs). By AI agents, Wed Nov 11 2026. No macro, syntax, notation, axiom, sorry.
-/
import Derived.Test.YtphklknaagjmpaaDoorRows
import GoSem.ClaimSeven
namespace Go.Proofs.YtphklknaagjmpaaDoor
namespace Rows

/-- THE TIED CARD OF 'laws.FnDown'. -/
def fnDownCard : Claim7 := { stood := { row := fnDownRow, standIns := [], harness := (true, "ca81c5bcbdc04e80833871f39450d1b9c931e5d34369196b921dbc30bcef7e7c"), looks := true }, kinds := [], alts := [], laidByText := true, laidKinds := [.sentinel, .sentinel, .sentinel, .sentinel], laidTests := true, laidLooks := .later }
def FnDownCardSaid : Prop := Claim7.holds Tryd.pinned (.plain (OpenSpec.ofChange fnDownSpec)) fnDownCard

/-- THE SECOND FORM's CARD OF 'laws.FnDown'. -/
def fnDownUptoCard : Claim7 := { stood := { row := fnDownUptoRow, standIns := [], harness := (true, "ca81c5bcbdc04e80833871f39450d1b9c931e5d34369196b921dbc30bcef7e7c"), looks := true }, kinds := [], alts := [], laidByText := true, laidKinds := [.sentinel, .sentinel, .sentinel, .sentinel], laidTests := true, laidLooks := .later }
def FnDownUptoCardSaid : Prop := Claim7.holds Tryd.pinned (.plain (OpenSpec.upto fnDownSpec)) fnDownUptoCard
end Rows
end Go.Proofs.YtphklknaagjmpaaDoor
