/-
  DERIVED. GIVEN WITH THE SEED: THE CARDS: each row of YtlhfiapfncikdaaGreatDoorRows.lean that lists a variable, with what it lists TIED to the program's text (the seventh form; the later family's looks); each row that meets fmt, with fmt's text TOLD by the authors' own Lean function (tested against real Go, not proved from fmt's source: count such statements apart). THE CARD IS WHAT COUNTS. Prove the row's statement (the work); the ties are given (YtlhfiapfncikdaaGreatDoorTie.lean); close each card by the builder's one call (the guide's Derived/Test/ToyasCard.lean, 'card_holds'). Laid BY PROGRAM, IN A SANDBOX (cutbox-door.mjs). By AI agents, Wed Nov 11 2026. No macro, syntax, notation, axiom, sorry.
-/
import Derived.Test.YtlhfiapfncikdaaGreatDoorRows
import GoSem.ClaimSeven
namespace Go.Proofs.YtlhfiapfncikdaaGreatDoor
namespace Rows

/-- THE TIED CARD OF 'laws.FnExactYardHold'. -/
def fnExactYardHoldCard : Claim7 := { stood := { row := fnExactYardHoldRow, standIns := [], harness := (true, "25ee21c1d46d78b1321f0011344aa16379841fc5c184a25511d64b06252aea6c"), looks := true }, kinds := [], alts := [], laidByText := true, laidKinds := [.data, .data, .data, .data, .sentinel, .sentinel, .sentinel, .sentinel, .sentinel, .sentinel], laidTests := true, laidLooks := .later }
def FnExactYardHoldCardSaid : Prop := Claim7.holds Tryz.pinned (.plain (OpenSpec.ofChange fnExactYardHoldSpec)) fnExactYardHoldCard

/-- THE TIED CARD OF 'laws.FnExactYardNode'. -/
def fnExactYardNodeCard : Claim7 := { stood := { row := fnExactYardNodeRow, standIns := [], harness := (true, "25ee21c1d46d78b1321f0011344aa16379841fc5c184a25511d64b06252aea6c"), looks := true }, kinds := [], alts := [], laidByText := true, laidKinds := [.data, .data, .data, .sentinel, .sentinel, .sentinel, .sentinel, .sentinel, .sentinel, .sentinel], laidTests := true, laidLooks := .later }
def FnExactYardNodeCardSaid : Prop := Claim7.holds Tryz.pinned (.plain (OpenSpec.ofChange fnExactYardNodeSpec)) fnExactYardNodeCard

/-- THE TIED CARD OF 'laws.FnExactYardBook'. -/
def fnExactYardBookCard : Claim7 := { stood := { row := fnExactYardBookRow, standIns := [], harness := (true, "25ee21c1d46d78b1321f0011344aa16379841fc5c184a25511d64b06252aea6c"), looks := true }, kinds := [], alts := [], laidByText := true, laidKinds := [.data, .data, .data, .sentinel, .sentinel, .sentinel, .sentinel, .sentinel, .sentinel, .sentinel], laidTests := true, laidLooks := .later }
def FnExactYardBookCardSaid : Prop := Claim7.holds Tryz.pinned (.plain (OpenSpec.ofChange fnExactYardBookSpec)) fnExactYardBookCard

/-- THE TIED CARD OF 'laws.FnExactYardUnbook'. -/
def fnExactYardUnbookCard : Claim7 := { stood := { row := fnExactYardUnbookRow, standIns := [], harness := (true, "25ee21c1d46d78b1321f0011344aa16379841fc5c184a25511d64b06252aea6c"), looks := true }, kinds := [], alts := [], laidByText := true, laidKinds := [.data, .data, .data, .sentinel, .sentinel, .sentinel, .sentinel, .sentinel, .sentinel, .sentinel], laidTests := true, laidLooks := .later }
def FnExactYardUnbookCardSaid : Prop := Claim7.holds Tryz.pinned (.plain (OpenSpec.ofChange fnExactYardUnbookSpec)) fnExactYardUnbookCard

/-- THE SECOND FORM's CARD OF 'laws.FnExactYardHold'. -/
def fnExactYardHoldUptoCard : Claim7 := { stood := { row := fnExactYardHoldUptoRow, standIns := [], harness := (true, "25ee21c1d46d78b1321f0011344aa16379841fc5c184a25511d64b06252aea6c"), looks := true }, kinds := [], alts := [], laidByText := true, laidKinds := [.data, .data, .data, .data, .sentinel, .sentinel, .sentinel, .sentinel, .sentinel, .sentinel], laidTests := true, laidLooks := .later }
def FnExactYardHoldUptoCardSaid : Prop := Claim7.holds Tryz.pinned (.plain (OpenSpec.upto fnExactYardHoldSpec)) fnExactYardHoldUptoCard

/-- THE SECOND FORM's CARD OF 'laws.FnExactYardNode'. -/
def fnExactYardNodeUptoCard : Claim7 := { stood := { row := fnExactYardNodeUptoRow, standIns := [], harness := (true, "25ee21c1d46d78b1321f0011344aa16379841fc5c184a25511d64b06252aea6c"), looks := true }, kinds := [], alts := [], laidByText := true, laidKinds := [.data, .data, .data, .sentinel, .sentinel, .sentinel, .sentinel, .sentinel, .sentinel, .sentinel], laidTests := true, laidLooks := .later }
def FnExactYardNodeUptoCardSaid : Prop := Claim7.holds Tryz.pinned (.plain (OpenSpec.upto fnExactYardNodeSpec)) fnExactYardNodeUptoCard

/-- THE SECOND FORM's CARD OF 'laws.FnExactYardBook'. -/
def fnExactYardBookUptoCard : Claim7 := { stood := { row := fnExactYardBookUptoRow, standIns := [], harness := (true, "25ee21c1d46d78b1321f0011344aa16379841fc5c184a25511d64b06252aea6c"), looks := true }, kinds := [], alts := [], laidByText := true, laidKinds := [.data, .data, .data, .sentinel, .sentinel, .sentinel, .sentinel, .sentinel, .sentinel, .sentinel], laidTests := true, laidLooks := .later }
def FnExactYardBookUptoCardSaid : Prop := Claim7.holds Tryz.pinned (.plain (OpenSpec.upto fnExactYardBookSpec)) fnExactYardBookUptoCard

/-- THE SECOND FORM's CARD OF 'laws.FnExactYardUnbook'. -/
def fnExactYardUnbookUptoCard : Claim7 := { stood := { row := fnExactYardUnbookUptoRow, standIns := [], harness := (true, "25ee21c1d46d78b1321f0011344aa16379841fc5c184a25511d64b06252aea6c"), looks := true }, kinds := [], alts := [], laidByText := true, laidKinds := [.data, .data, .data, .sentinel, .sentinel, .sentinel, .sentinel, .sentinel, .sentinel, .sentinel], laidTests := true, laidLooks := .later }
def FnExactYardUnbookUptoCardSaid : Prop := Claim7.holds Tryz.pinned (.plain (OpenSpec.upto fnExactYardUnbookSpec)) fnExactYardUnbookUptoCard
end Rows
end Go.Proofs.YtlhfiapfncikdaaGreatDoor
