/-
  DERIVED. GIVEN WITH THE SEED: THE CARDS: each row of YtdedomfocljhaaaDoorRows.lean that lists a variable, with what it lists TIED to the program's text (the seventh form; the later family's looks); each row that meets fmt, with fmt's text TOLD by the authors' own Lean function (tested against real Go, not proved from fmt's source: count such statements apart). THE CARD IS WHAT COUNTS. Prove the row's statement (the work); the ties are given (YtdedomfocljhaaaDoorTie.lean); close each card by the builder's one call (the guide's Derived/Test/ToyasCard.lean, 'card_holds'). Laid BY PROGRAM, IN A SANDBOX (cutbox-door.mjs). By AI agents, Wed Nov 11 2026. No macro, syntax, notation, axiom, sorry.
-/
import Derived.Test.YtdedomfocljhaaaDoorRows
import GoSem.ClaimSeven
namespace Go.Proofs.YtdedomfocljhaaaDoor
namespace Rows

/-- THE TIED CARD OF 'laws.FnExactFrameRead'. -/
def fnExactFrameReadCard : Claim7 := { stood := { row := fnExactFrameReadRow, standIns := [], harness := (true, "74e89f46943155e8d439957e104d81ff26daeccb5b958a5b9cdec401170573a2"), looks := true }, kinds := [], alts := [], laidByText := true, laidKinds := [.handle], laidTests := true, laidLooks := .later }
def FnExactFrameReadCardSaid : Prop := Claim7.holds Tryd.pinned (.plain (OpenSpec.ofChange fnExactFrameReadSpec)) fnExactFrameReadCard

/-- THE TIED CARD OF 'laws.FnExactLogRead'. -/
def fnExactLogReadCard : Claim7 := { stood := { row := fnExactLogReadRow, standIns := [], harness := (true, "74e89f46943155e8d439957e104d81ff26daeccb5b958a5b9cdec401170573a2"), looks := true }, kinds := [], alts := [], laidByText := true, laidKinds := [.handle], laidTests := true, laidLooks := .later }
def FnExactLogReadCardSaid : Prop := Claim7.holds Tryd.pinned (.plain (OpenSpec.ofChange fnExactLogReadSpec)) fnExactLogReadCard

/-- THE TIED CARD OF 'laws.FnExactDiskTrim'. -/
def fnExactDiskTrimCard : Claim7 := { stood := { row := fnExactDiskTrimRow, standIns := [], harness := (true, "74e89f46943155e8d439957e104d81ff26daeccb5b958a5b9cdec401170573a2"), looks := true }, kinds := [], alts := [], laidByText := true, laidKinds := [.handle], laidTests := true, laidLooks := .later }
def FnExactDiskTrimCardSaid : Prop := Claim7.holds Tryd.pinned (.plain (OpenSpec.ofChange fnExactDiskTrimSpec)) fnExactDiskTrimCard

/-- THE TIED CARD OF 'laws.FnExactDiskBase'. -/
def fnExactDiskBaseCard : Claim7 := { stood := { row := fnExactDiskBaseRow, standIns := [], harness := (true, "74e89f46943155e8d439957e104d81ff26daeccb5b958a5b9cdec401170573a2"), looks := true }, kinds := [], alts := [], laidByText := true, laidKinds := [.handle], laidTests := true, laidLooks := .later }
def FnExactDiskBaseCardSaid : Prop := Claim7.holds Tryd.pinned (.plain (OpenSpec.ofChange fnExactDiskBaseSpec)) fnExactDiskBaseCard

/-- THE TIED CARD OF 'laws.FnExactSlotOf'. -/
def fnExactSlotOfCard : Claim7 := { stood := { row := fnExactSlotOfRow, standIns := [], harness := (true, "74e89f46943155e8d439957e104d81ff26daeccb5b958a5b9cdec401170573a2"), looks := true }, kinds := [], alts := [], laidByText := true, laidKinds := [.handle], laidTests := true, laidLooks := .later }
def FnExactSlotOfCardSaid : Prop := Claim7.holds Tryd.pinned (.plain (OpenSpec.ofChange fnExactSlotOfSpec)) fnExactSlotOfCard

/-- THE SECOND FORM's CARD OF 'laws.FnExactFrameRead'. -/
def fnExactFrameReadUptoCard : Claim7 := { stood := { row := fnExactFrameReadUptoRow, standIns := [], harness := (true, "74e89f46943155e8d439957e104d81ff26daeccb5b958a5b9cdec401170573a2"), looks := true }, kinds := [], alts := [], laidByText := true, laidKinds := [.handle], laidTests := true, laidLooks := .later }
def FnExactFrameReadUptoCardSaid : Prop := Claim7.holds Tryd.pinned (.plain (OpenSpec.upto fnExactFrameReadSpec)) fnExactFrameReadUptoCard

/-- THE SECOND FORM's CARD OF 'laws.FnExactLogRead'. -/
def fnExactLogReadUptoCard : Claim7 := { stood := { row := fnExactLogReadUptoRow, standIns := [], harness := (true, "74e89f46943155e8d439957e104d81ff26daeccb5b958a5b9cdec401170573a2"), looks := true }, kinds := [], alts := [], laidByText := true, laidKinds := [.handle], laidTests := true, laidLooks := .later }
def FnExactLogReadUptoCardSaid : Prop := Claim7.holds Tryd.pinned (.plain (OpenSpec.upto fnExactLogReadSpec)) fnExactLogReadUptoCard

/-- THE SECOND FORM's CARD OF 'laws.FnExactDiskTrim'. -/
def fnExactDiskTrimUptoCard : Claim7 := { stood := { row := fnExactDiskTrimUptoRow, standIns := [], harness := (true, "74e89f46943155e8d439957e104d81ff26daeccb5b958a5b9cdec401170573a2"), looks := true }, kinds := [], alts := [], laidByText := true, laidKinds := [.handle], laidTests := true, laidLooks := .later }
def FnExactDiskTrimUptoCardSaid : Prop := Claim7.holds Tryd.pinned (.plain (OpenSpec.upto fnExactDiskTrimSpec)) fnExactDiskTrimUptoCard

/-- THE SECOND FORM's CARD OF 'laws.FnExactDiskBase'. -/
def fnExactDiskBaseUptoCard : Claim7 := { stood := { row := fnExactDiskBaseUptoRow, standIns := [], harness := (true, "74e89f46943155e8d439957e104d81ff26daeccb5b958a5b9cdec401170573a2"), looks := true }, kinds := [], alts := [], laidByText := true, laidKinds := [.handle], laidTests := true, laidLooks := .later }
def FnExactDiskBaseUptoCardSaid : Prop := Claim7.holds Tryd.pinned (.plain (OpenSpec.upto fnExactDiskBaseSpec)) fnExactDiskBaseUptoCard

/-- THE SECOND FORM's CARD OF 'laws.FnExactSlotOf'. -/
def fnExactSlotOfUptoCard : Claim7 := { stood := { row := fnExactSlotOfUptoRow, standIns := [], harness := (true, "74e89f46943155e8d439957e104d81ff26daeccb5b958a5b9cdec401170573a2"), looks := true }, kinds := [], alts := [], laidByText := true, laidKinds := [.handle], laidTests := true, laidLooks := .later }
def FnExactSlotOfUptoCardSaid : Prop := Claim7.holds Tryd.pinned (.plain (OpenSpec.upto fnExactSlotOfSpec)) fnExactSlotOfUptoCard
end Rows
end Go.Proofs.YtdedomfocljhaaaDoor
