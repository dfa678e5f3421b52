/-
  DERIVED. GIVEN WITH THE SEED: THE CARDS: each row of YtknifggpodhhdaaDoorRows.lean that lists a variable, with what it lists TIED to the program's text (the seventh form; the later family's looks); each row that meets fmt, with fmt's text TOLD by the authors' own Lean function (tested against real Go, not proved from fmt's source: count such statements apart). THE CARD IS WHAT COUNTS. Prove the row's statement (the work); the ties are given (YtknifggpodhhdaaDoorTie.lean); close each card by the builder's one call (the guide's Derived/Test/ToyasCard.lean, 'card_holds'). Laid BY PROGRAM, IN A SANDBOX (cutbox-door.mjs). By AI agents, Wed Nov 11 2026. No macro, syntax, notation, axiom, sorry.
-/
import Derived.Test.YtknifggpodhhdaaDoorRows
import GoSem.ClaimSeven
namespace Go.Proofs.YtknifggpodhhdaaDoor
namespace Rows

/-- THE TIED CARD OF 'laws.FnLabel'. -/
def fnLabelCard : Claim7 := { stood := { row := fnLabelRow, standIns := [], harness := (true, "b9ccb414e1aa01a1c5a1507da6df9c86b96ce89f6aca3cb5707d9dfd9c9a5c71"), looks := true }, kinds := [], alts := [], laidByText := true, laidKinds := [.data, .data, .data, .data], laidTests := true, laidLooks := .later }
def FnLabelCardSaid : Prop := Claim7.holds Tryd.pinned (.plain (OpenSpec.ofChange fnLabelSpec)) fnLabelCard

/-- THE TIED CARD OF 'laws.FnDown'. -/
def fnDownCard : Claim7 := { stood := { row := fnDownRow, standIns := [], harness := (true, "b9ccb414e1aa01a1c5a1507da6df9c86b96ce89f6aca3cb5707d9dfd9c9a5c71"), looks := true }, kinds := [], alts := [], laidByText := true, laidKinds := [.sentinel, .sentinel, .sentinel, .sentinel], laidTests := true, laidLooks := .later }
def FnDownCardSaid : Prop := Claim7.holds Tryd.pinned (.plain (OpenSpec.ofChange fnDownSpec)) fnDownCard

/-- THE TIED CARD OF 'laws.FnExactLetDown'. -/
def fnExactLetDownCard : Claim7 := { stood := { row := fnExactLetDownRow, standIns := [], harness := (true, "b9ccb414e1aa01a1c5a1507da6df9c86b96ce89f6aca3cb5707d9dfd9c9a5c71"), looks := true }, kinds := [], alts := [], laidByText := true, laidKinds := [.sentinel, .sentinel, .sentinel, .sentinel], laidTests := true, laidLooks := .later }
def FnExactLetDownCardSaid : Prop := Claim7.holds Tryd.pinned (.plain (OpenSpec.ofChange fnExactLetDownSpec)) fnExactLetDownCard

/-- THE TIED CARD OF 'laws.FnExactNextTime'. -/
def fnExactNextTimeCard : Claim7 := { stood := { row := fnExactNextTimeRow, standIns := [], harness := (true, "b9ccb414e1aa01a1c5a1507da6df9c86b96ce89f6aca3cb5707d9dfd9c9a5c71"), looks := true }, kinds := [], alts := [], laidByText := true, laidKinds := [.sentinel, .sentinel, .sentinel, .sentinel], laidTests := true, laidLooks := .later }
def FnExactNextTimeCardSaid : Prop := Claim7.holds Tryd.pinned (.plain (OpenSpec.ofChange fnExactNextTimeSpec)) fnExactNextTimeCard

/-- THE SECOND FORM's CARD OF 'laws.FnLabel'. -/
def fnLabelUptoCard : Claim7 := { stood := { row := fnLabelUptoRow, standIns := [], harness := (true, "b9ccb414e1aa01a1c5a1507da6df9c86b96ce89f6aca3cb5707d9dfd9c9a5c71"), looks := true }, kinds := [], alts := [], laidByText := true, laidKinds := [.data, .data, .data, .data], laidTests := true, laidLooks := .later }
def FnLabelUptoCardSaid : Prop := Claim7.holds Tryd.pinned (.plain (OpenSpec.upto fnLabelSpec)) fnLabelUptoCard

/-- THE SECOND FORM's CARD OF 'laws.FnDown'. -/
def fnDownUptoCard : Claim7 := { stood := { row := fnDownUptoRow, standIns := [], harness := (true, "b9ccb414e1aa01a1c5a1507da6df9c86b96ce89f6aca3cb5707d9dfd9c9a5c71"), looks := true }, kinds := [], alts := [], laidByText := true, laidKinds := [.sentinel, .sentinel, .sentinel, .sentinel], laidTests := true, laidLooks := .later }
def FnDownUptoCardSaid : Prop := Claim7.holds Tryd.pinned (.plain (OpenSpec.upto fnDownSpec)) fnDownUptoCard

/-- THE SECOND FORM's CARD OF 'laws.FnExactLetDown'. -/
def fnExactLetDownUptoCard : Claim7 := { stood := { row := fnExactLetDownUptoRow, standIns := [], harness := (true, "b9ccb414e1aa01a1c5a1507da6df9c86b96ce89f6aca3cb5707d9dfd9c9a5c71"), looks := true }, kinds := [], alts := [], laidByText := true, laidKinds := [.sentinel, .sentinel, .sentinel, .sentinel], laidTests := true, laidLooks := .later }
def FnExactLetDownUptoCardSaid : Prop := Claim7.holds Tryd.pinned (.plain (OpenSpec.upto fnExactLetDownSpec)) fnExactLetDownUptoCard

/-- THE SECOND FORM's CARD OF 'laws.FnExactNextTime'. -/
def fnExactNextTimeUptoCard : Claim7 := { stood := { row := fnExactNextTimeUptoRow, standIns := [], harness := (true, "b9ccb414e1aa01a1c5a1507da6df9c86b96ce89f6aca3cb5707d9dfd9c9a5c71"), looks := true }, kinds := [], alts := [], laidByText := true, laidKinds := [.sentinel, .sentinel, .sentinel, .sentinel], laidTests := true, laidLooks := .later }
def FnExactNextTimeUptoCardSaid : Prop := Claim7.holds Tryd.pinned (.plain (OpenSpec.upto fnExactNextTimeSpec)) fnExactNextTimeUptoCard
end Rows
end Go.Proofs.YtknifggpodhhdaaDoor
