/-
  No cell of these rows narrows 'for every input' (looked for: loops, veiled, ifaces, maps, wideKeys, modest, calm, conditions, laid).
  DERIVED. THE GIVEN ROWS OF THIS SEAT. 6 by the template 'for every input the law returns true; each argument reads behind the call as it read before'; 0 by the template 'total and deterministic' (their statements: YtdedomfocljhaaaTotals.lean).
  GIVEN WITH THE SEED: the statements are not yours to turn. If you find one false, say at which input.
  Laid BY PROGRAM, IN A SANDBOX (cutbox-rows.mjs): the forced cells as the released guide's own fill.sh prints them over the translation 21b34d3224336ca2… (all of the seat's roots in one cut). By AI agents, Wed Nov 11 2026. No macro, syntax, notation, axiom, sorry.
-/
import Derived.Test.YtdedomfocljhaaaChecked
import GoSem.Claim
import GoSem.ClaimJoined
import GoSem.ClaimMapViews
import Derived.JoinedTies
import Derived.KernelRfl
namespace Go.Proofs.Ytdedomfocljhaaa
/- THE CELL 'sum', in the pinned program and in every row, IS THE sha256 OF THE DUMP (.gsa) THAT YtdedomfocljhaaaProg.lean LOADS. Nothing in Lean hashes anything: it is a label: what it is worth is what the hold of that sum in a sandbox is worth. -/
noncomputable def Try.pinned : Pinned := { name := "ytdedomfocljhaaa", sum := "21b34d3224336ca2745d53505dbd840950dcfd787c99cab82a3467601667d26c", checked := Try.checked }
namespace Rows
def none {H : Type} : Left H := { results := [], args := [] }

/-- 'laws.FnExactFrameBytes': WHATEVER THE INPUT: true; the input reads as it did. -/
def fnExactFrameBytesSpec : ChangeSpec := { name := "fnExactFrameBytes", fn := fun _ => fun
  | [d] => { results := [.lit (.bool true)], args := [d] }
  | _ => none }
def fnExactFrameBytesRow : OpenClaim := { program := "ytdedomfocljhaaa", sum := "21b34d3224336ca2745d53505dbd840950dcfd787c99cab82a3467601667d26c", func := "loop.example/g00658/laws.FnExactFrameBytes", spec := "fnExactFrameBytes", apart := false }
def FnExactFrameBytesSaid : Prop := fnExactFrameBytesRow.holds Try.pinned (OpenSpec.ofChange fnExactFrameBytesSpec)

/-- ITS FALSE NEIGHBOUR: 'it returns false'. Refute it at one input. -/
def fnExactFrameBytesWrong : ChangeSpec := { name := "fnExactFrameBytes", fn := fun _ => fun
  | [d] => { results := [.lit (.bool false)], args := [d] }
  | _ => none }
def FnExactFrameBytesWrongFalsely : Prop := fnExactFrameBytesRow.holds Try.pinned (OpenSpec.ofChange fnExactFrameBytesWrong)

/-- 'laws.FnExactMerge': WHATEVER THE INPUT: true; the input reads as it did. -/
def fnExactMergeSpec : ChangeSpec := { name := "fnExactMerge", fn := fun _ => fun
  | [d] => { results := [.lit (.bool true)], args := [d] }
  | _ => none }
def fnExactMergeRow : OpenClaim := { program := "ytdedomfocljhaaa", sum := "21b34d3224336ca2745d53505dbd840950dcfd787c99cab82a3467601667d26c", func := "loop.example/g00658/laws.FnExactMerge", spec := "fnExactMerge", unfollowed := true, recurses := true, apart := false }
def FnExactMergeSaid : Prop := fnExactMergeRow.holds Try.pinned (OpenSpec.ofChange fnExactMergeSpec)

/-- ITS FALSE NEIGHBOUR: 'it returns false'. Refute it at one input. -/
def fnExactMergeWrong : ChangeSpec := { name := "fnExactMerge", fn := fun _ => fun
  | [d] => { results := [.lit (.bool false)], args := [d] }
  | _ => none }
def FnExactMergeWrongFalsely : Prop := fnExactMergeRow.holds Try.pinned (OpenSpec.ofChange fnExactMergeWrong)

/-- 'laws.FnExactDiskRight': WHATEVER THE INPUT: true; the input reads as it did. -/
def fnExactDiskRightSpec : ChangeSpec := { name := "fnExactDiskRight", fn := fun _ => fun
  | [d] => { results := [.lit (.bool true)], args := [d] }
  | _ => none }
def fnExactDiskRightRow : OpenClaim := { program := "ytdedomfocljhaaa", sum := "21b34d3224336ca2745d53505dbd840950dcfd787c99cab82a3467601667d26c", func := "loop.example/g00658/laws.FnExactDiskRight", spec := "fnExactDiskRight", apart := false }
def FnExactDiskRightSaid : Prop := fnExactDiskRightRow.holds Try.pinned (OpenSpec.ofChange fnExactDiskRightSpec)

/-- ITS FALSE NEIGHBOUR: 'it returns false'. Refute it at one input. -/
def fnExactDiskRightWrong : ChangeSpec := { name := "fnExactDiskRight", fn := fun _ => fun
  | [d] => { results := [.lit (.bool false)], args := [d] }
  | _ => none }
def FnExactDiskRightWrongFalsely : Prop := fnExactDiskRightRow.holds Try.pinned (OpenSpec.ofChange fnExactDiskRightWrong)

/-- 'laws.FnExactDiskNew': WHATEVER THE INPUT: true; the input reads as it did. -/
def fnExactDiskNewSpec : ChangeSpec := { name := "fnExactDiskNew", fn := fun _ => fun
  | [d] => { results := [.lit (.bool true)], args := [d] }
  | _ => none }
def fnExactDiskNewRow : OpenClaim := { program := "ytdedomfocljhaaa", sum := "21b34d3224336ca2745d53505dbd840950dcfd787c99cab82a3467601667d26c", func := "loop.example/g00658/laws.FnExactDiskNew", spec := "fnExactDiskNew", apart := false }
def FnExactDiskNewSaid : Prop := fnExactDiskNewRow.holds Try.pinned (OpenSpec.ofChange fnExactDiskNewSpec)

/-- ITS FALSE NEIGHBOUR: 'it returns false'. Refute it at one input. -/
def fnExactDiskNewWrong : ChangeSpec := { name := "fnExactDiskNew", fn := fun _ => fun
  | [d] => { results := [.lit (.bool false)], args := [d] }
  | _ => none }
def FnExactDiskNewWrongFalsely : Prop := fnExactDiskNewRow.holds Try.pinned (OpenSpec.ofChange fnExactDiskNewWrong)

/-- 'laws.FnExactDiskSlot': WHATEVER THE INPUT: true; the input reads as it did. -/
def fnExactDiskSlotSpec : ChangeSpec := { name := "fnExactDiskSlot", fn := fun _ => fun
  | [d1, d2, d3, d4] => { results := [.lit (.bool true)], args := [d1, d2, d3, d4] }
  | _ => none }
def fnExactDiskSlotRow : OpenClaim := { program := "ytdedomfocljhaaa", sum := "21b34d3224336ca2745d53505dbd840950dcfd787c99cab82a3467601667d26c", func := "loop.example/g00658/laws.FnExactDiskSlot", spec := "fnExactDiskSlot", unfollowed := true, recurses := true, apart := false }
def FnExactDiskSlotSaid : Prop := fnExactDiskSlotRow.holds Try.pinned (OpenSpec.ofChange fnExactDiskSlotSpec)

/-- ITS FALSE NEIGHBOUR: 'it returns false'. Refute it at one input. -/
def fnExactDiskSlotWrong : ChangeSpec := { name := "fnExactDiskSlot", fn := fun _ => fun
  | [d1, d2, d3, d4] => { results := [.lit (.bool false)], args := [d1, d2, d3, d4] }
  | _ => none }
def FnExactDiskSlotWrongFalsely : Prop := fnExactDiskSlotRow.holds Try.pinned (OpenSpec.ofChange fnExactDiskSlotWrong)

/-- 'laws.FnExactDiskWipe': WHATEVER THE INPUT: true; the input reads as it did. -/
def fnExactDiskWipeSpec : ChangeSpec := { name := "fnExactDiskWipe", fn := fun _ => fun
  | [d1, d2] => { results := [.lit (.bool true)], args := [d1, d2] }
  | _ => none }
def fnExactDiskWipeRow : OpenClaim := { program := "ytdedomfocljhaaa", sum := "21b34d3224336ca2745d53505dbd840950dcfd787c99cab82a3467601667d26c", func := "loop.example/g00658/laws.FnExactDiskWipe", spec := "fnExactDiskWipe", unfollowed := true, recurses := true, apart := false }
def FnExactDiskWipeSaid : Prop := fnExactDiskWipeRow.holds Try.pinned (OpenSpec.ofChange fnExactDiskWipeSpec)

/-- ITS FALSE NEIGHBOUR: 'it returns false'. Refute it at one input. -/
def fnExactDiskWipeWrong : ChangeSpec := { name := "fnExactDiskWipe", fn := fun _ => fun
  | [d1, d2] => { results := [.lit (.bool false)], args := [d1, d2] }
  | _ => none }
def FnExactDiskWipeWrongFalsely : Prop := fnExactDiskWipeRow.holds Try.pinned (OpenSpec.ofChange fnExactDiskWipeWrong)

/- THE SECOND FORM. 'bulk': how many values and letters a reading holds, each counted each time it is reached (what is shared counts as often as it is met; a slice's spare places count too). A statement '..UptoSaid' is the law's where the arguments, and the package variables that the reading takes, are together of bulk at most 1048576: NARROWER than '..Said'. Prove '..Said' where nothing that the law and all that it calls make is longer than what came in: it says more and counts as full. Else prove '..UptoSaid'. A law counts once. -/
mutual
def uptoBulk {H : Type} : DataW H → Nat
  | .lit (.string bytes) => bytes.length + 1
  | .lit _ => 1
  | .nil => 1
  | .ptr d => uptoBulk d + 1
  | .slice elems spare => uptoBulkAll elems + uptoBulkAll spare + 1
  | .agg parts => uptoBulkAll parts + 1
  | .iface _ d => uptoBulk d + 1
  | .map entries => uptoBulkEntries entries + 1
  | .held _ => 1
def uptoBulkAll {H : Type} : List (DataW H) → Nat
  | [] => 0
  | d :: r => uptoBulk d + uptoBulkAll r
def uptoBulkEntries {H : Type} : List (Lit × DataW H) → Nat
  | [] => 0
  | x :: r => uptoBulkEntry x + uptoBulkEntries r
def uptoBulkEntry {H : Type} : Lit × DataW H → Nat
  | (.string bytes, d) => bytes.length + uptoBulk d + 1
  | (_, d) => uptoBulk d + 1
 end
def uptoSmall : (H : Type) → List (DataW H) → Bool := fun _ ds => decide (uptoBulkAll ds ≤ 1048576)
def OpenSpec.upto (s : _root_.Go.ChangeSpec) : _root_.Go.OpenSpec := { _root_.Go.OpenSpec.ofChange s with cond := some uptoSmall }

/-- 'laws.FnExactFrameBytes', WHERE WHAT IT READS IS OF BULK AT MOST 1048576: true; the input reads as it did. -/
def fnExactFrameBytesUptoRow : OpenClaim := { program := "ytdedomfocljhaaa", sum := "21b34d3224336ca2745d53505dbd840950dcfd787c99cab82a3467601667d26c", func := "loop.example/g00658/laws.FnExactFrameBytes", spec := "fnExactFrameBytes", apart := false, narrowed := true }
def FnExactFrameBytesUptoSaid : Prop := fnExactFrameBytesUptoRow.holds Try.pinned (OpenSpec.upto fnExactFrameBytesSpec)

/-- 'laws.FnExactMerge', WHERE WHAT IT READS IS OF BULK AT MOST 1048576: true; the input reads as it did. -/
def fnExactMergeUptoRow : OpenClaim := { program := "ytdedomfocljhaaa", sum := "21b34d3224336ca2745d53505dbd840950dcfd787c99cab82a3467601667d26c", func := "loop.example/g00658/laws.FnExactMerge", spec := "fnExactMerge", unfollowed := true, recurses := true, apart := false, narrowed := true }
def FnExactMergeUptoSaid : Prop := fnExactMergeUptoRow.holds Try.pinned (OpenSpec.upto fnExactMergeSpec)

/-- 'laws.FnExactDiskRight', WHERE WHAT IT READS IS OF BULK AT MOST 1048576: true; the input reads as it did. -/
def fnExactDiskRightUptoRow : OpenClaim := { program := "ytdedomfocljhaaa", sum := "21b34d3224336ca2745d53505dbd840950dcfd787c99cab82a3467601667d26c", func := "loop.example/g00658/laws.FnExactDiskRight", spec := "fnExactDiskRight", apart := false, narrowed := true }
def FnExactDiskRightUptoSaid : Prop := fnExactDiskRightUptoRow.holds Try.pinned (OpenSpec.upto fnExactDiskRightSpec)

/-- 'laws.FnExactDiskNew', WHERE WHAT IT READS IS OF BULK AT MOST 1048576: true; the input reads as it did. -/
def fnExactDiskNewUptoRow : OpenClaim := { program := "ytdedomfocljhaaa", sum := "21b34d3224336ca2745d53505dbd840950dcfd787c99cab82a3467601667d26c", func := "loop.example/g00658/laws.FnExactDiskNew", spec := "fnExactDiskNew", apart := false, narrowed := true }
def FnExactDiskNewUptoSaid : Prop := fnExactDiskNewUptoRow.holds Try.pinned (OpenSpec.upto fnExactDiskNewSpec)

/-- 'laws.FnExactDiskSlot', WHERE WHAT IT READS IS OF BULK AT MOST 1048576: true; the input reads as it did. -/
def fnExactDiskSlotUptoRow : OpenClaim := { program := "ytdedomfocljhaaa", sum := "21b34d3224336ca2745d53505dbd840950dcfd787c99cab82a3467601667d26c", func := "loop.example/g00658/laws.FnExactDiskSlot", spec := "fnExactDiskSlot", unfollowed := true, recurses := true, apart := false, narrowed := true }
def FnExactDiskSlotUptoSaid : Prop := fnExactDiskSlotUptoRow.holds Try.pinned (OpenSpec.upto fnExactDiskSlotSpec)

/-- 'laws.FnExactDiskWipe', WHERE WHAT IT READS IS OF BULK AT MOST 1048576: true; the input reads as it did. -/
def fnExactDiskWipeUptoRow : OpenClaim := { program := "ytdedomfocljhaaa", sum := "21b34d3224336ca2745d53505dbd840950dcfd787c99cab82a3467601667d26c", func := "loop.example/g00658/laws.FnExactDiskWipe", spec := "fnExactDiskWipe", unfollowed := true, recurses := true, apart := false, narrowed := true }
def FnExactDiskWipeUptoSaid : Prop := fnExactDiskWipeUptoRow.holds Try.pinned (OpenSpec.upto fnExactDiskWipeSpec)

end Rows
end Go.Proofs.Ytdedomfocljhaaa
