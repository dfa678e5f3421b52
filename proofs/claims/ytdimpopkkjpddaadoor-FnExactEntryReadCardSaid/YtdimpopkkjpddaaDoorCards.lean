/-
  DERIVED. GIVEN WITH THE SEED: THE CARDS: each row of YtdimpopkkjpddaaDoorRows.lean that lists a variable, with what it lists TIED to the program's text (the seventh form; the later family's looks); each row that meets fmt, with fmt's text TOLD by the authors' own Lean function (tested against real Go, not proved from fmt's source: count such statements apart). THE CARD IS WHAT COUNTS. Prove the row's statement (the work); the ties are given (YtdimpopkkjpddaaDoorTie.lean); close each card by the builder's one call (the guide's Derived/Test/ToyasCard.lean, 'card_holds'). Laid BY PROGRAM, IN A SANDBOX (cutbox-door.mjs). By AI agents, Wed Nov 11 2026. No macro, syntax, notation, axiom, sorry.
-/
import Derived.Test.YtdimpopkkjpddaaDoorRows
import GoSem.ClaimSeven
namespace Go.Proofs.YtdimpopkkjpddaaDoor
namespace Rows

/-- THE TIED CARD OF 'laws.FnExactEntryRead'. -/
def fnExactEntryReadCard : Claim7 := { stood := { row := fnExactEntryReadRow, standIns := [], harness := (true, "9b27c34ce5df54fe0ef548aef5156e41fbc5685cc69241b519388c8fdf8b455c"), looks := true }, kinds := [], alts := [], laidByText := true, laidKinds := [.handle], laidTests := true, laidLooks := .later }
def FnExactEntryReadCardSaid : Prop := Claim7.holds Tryd.pinned (.plain (OpenSpec.ofChange fnExactEntryReadSpec)) fnExactEntryReadCard

/-- THE TIED CARD OF 'laws.FnDown'. -/
def fnDownCard : Claim7 := { stood := { row := fnDownRow, standIns := [], harness := (true, "9b27c34ce5df54fe0ef548aef5156e41fbc5685cc69241b519388c8fdf8b455c"), looks := true }, kinds := [], alts := [], laidByText := true, laidKinds := [.sentinel, .sentinel, .sentinel, .sentinel], laidTests := true, laidLooks := .later }
def FnDownCardSaid : Prop := Claim7.holds Tryd.pinned (.plain (OpenSpec.ofChange fnDownSpec)) fnDownCard

/-- THE TIED CARD OF 'laws.FnLabel'. -/
def fnLabelCard : Claim7 := { stood := { row := fnLabelRow, standIns := [], harness := (true, "9b27c34ce5df54fe0ef548aef5156e41fbc5685cc69241b519388c8fdf8b455c"), looks := true }, kinds := [], alts := [], laidByText := true, laidKinds := [.data, .data, .data, .data], laidTests := true, laidLooks := .later }
def FnLabelCardSaid : Prop := Claim7.holds Tryd.pinned (.plain (OpenSpec.ofChange fnLabelSpec)) fnLabelCard

/-- THE SECOND FORM's CARD OF 'laws.FnExactEntryRead'. -/
def fnExactEntryReadUptoCard : Claim7 := { stood := { row := fnExactEntryReadUptoRow, standIns := [], harness := (true, "9b27c34ce5df54fe0ef548aef5156e41fbc5685cc69241b519388c8fdf8b455c"), looks := true }, kinds := [], alts := [], laidByText := true, laidKinds := [.handle], laidTests := true, laidLooks := .later }
def FnExactEntryReadUptoCardSaid : Prop := Claim7.holds Tryd.pinned (.plain (OpenSpec.upto fnExactEntryReadSpec)) fnExactEntryReadUptoCard

/-- THE SECOND FORM's CARD OF 'laws.FnDown'. -/
def fnDownUptoCard : Claim7 := { stood := { row := fnDownUptoRow, standIns := [], harness := (true, "9b27c34ce5df54fe0ef548aef5156e41fbc5685cc69241b519388c8fdf8b455c"), looks := true }, kinds := [], alts := [], laidByText := true, laidKinds := [.sentinel, .sentinel, .sentinel, .sentinel], laidTests := true, laidLooks := .later }
def FnDownUptoCardSaid : Prop := Claim7.holds Tryd.pinned (.plain (OpenSpec.upto fnDownSpec)) fnDownUptoCard

/-- THE SECOND FORM's CARD OF 'laws.FnLabel'. -/
def fnLabelUptoCard : Claim7 := { stood := { row := fnLabelUptoRow, standIns := [], harness := (true, "9b27c34ce5df54fe0ef548aef5156e41fbc5685cc69241b519388c8fdf8b455c"), looks := true }, kinds := [], alts := [], laidByText := true, laidKinds := [.data, .data, .data, .data], laidTests := true, laidLooks := .later }
def FnLabelUptoCardSaid : Prop := Claim7.holds Tryd.pinned (.plain (OpenSpec.upto fnLabelSpec)) fnLabelUptoCard
end Rows
end Go.Proofs.YtdimpopkkjpddaaDoor
