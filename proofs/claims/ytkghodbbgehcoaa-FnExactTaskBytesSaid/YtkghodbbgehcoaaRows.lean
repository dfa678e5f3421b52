/-
  No cell of these rows narrows 'for every input' (looked for: loops, veiled, ifaces, maps, wideKeys, modest, calm, conditions, laid).
  DERIVED. THE GIVEN ROWS OF THIS SEAT. 8 by the template 'for every input the law returns true; each argument reads behind the call as it read before'; 0 by the template 'total and deterministic' (their statements: YtkghodbbgehcoaaTotals.lean).
  GIVEN WITH THE SEED: the statements are not yours to turn. If you find one false, say at which input.
  Laid BY PROGRAM, IN A SANDBOX (cutbox-rows.mjs): the forced cells as the released guide's own fill.sh prints them over the translation 513ed0f006eaa62c… (all of the seat's roots in one cut). By AI agents, Wed Nov 11 2026. No macro, syntax, notation, axiom, sorry.
-/
import Derived.Test.YtkghodbbgehcoaaChecked
import GoSem.Claim
import GoSem.ClaimJoined
import GoSem.ClaimMapViews
import Derived.JoinedTies
import Derived.KernelRfl
namespace Go.Proofs.Ytkghodbbgehcoaa
/- THE CELL 'sum', in the pinned program and in every row, IS THE sha256 OF THE DUMP (.gsa) THAT YtkghodbbgehcoaaProg.lean LOADS. Nothing in Lean hashes anything: it is a label: what it is worth is what the hold of that sum in a sandbox is worth. -/
noncomputable def Try.pinned : Pinned := { name := "ytkghodbbgehcoaa", sum := "513ed0f006eaa62c43a0685d047eb4ea100def4eb87e5fec8f752f585d5f1552", checked := Try.checked }
namespace Rows
def none {H : Type} : Left H := { results := [], args := [] }

/-- 'laws.FnUses': WHATEVER THE INPUT: true; the input reads as it did. -/
def fnUsesSpec : ChangeSpec := { name := "fnUses", fn := fun _ => fun
  | [d1, d2] => { results := [.lit (.bool true)], args := [d1, d2] }
  | _ => none }
def fnUsesRow : OpenClaim := { program := "ytkghodbbgehcoaa", sum := "513ed0f006eaa62c43a0685d047eb4ea100def4eb87e5fec8f752f585d5f1552", func := "loop.example/g00658/laws.FnUses", spec := "fnUses", unfollowed := true, recurses := true, plainKeys := false, apart := false }
def FnUsesSaid : Prop := fnUsesRow.holds Try.pinned (OpenSpec.ofChange fnUsesSpec)

/-- ITS FALSE NEIGHBOUR: 'it returns false'. Refute it at one input. -/
def fnUsesWrong : ChangeSpec := { name := "fnUses", fn := fun _ => fun
  | [d1, d2] => { results := [.lit (.bool false)], args := [d1, d2] }
  | _ => none }
def FnUsesWrongFalsely : Prop := fnUsesRow.holds Try.pinned (OpenSpec.ofChange fnUsesWrong)

/-- 'laws.FnExactTaskRight': WHATEVER THE INPUT: true; the input reads as it did. -/
def fnExactTaskRightSpec : ChangeSpec := { name := "fnExactTaskRight", fn := fun _ => fun
  | [d] => { results := [.lit (.bool true)], args := [d] }
  | _ => none }
def fnExactTaskRightRow : OpenClaim := { program := "ytkghodbbgehcoaa", sum := "513ed0f006eaa62c43a0685d047eb4ea100def4eb87e5fec8f752f585d5f1552", func := "loop.example/g00658/laws.FnExactTaskRight", spec := "fnExactTaskRight", plainKeys := false, apart := false }
def FnExactTaskRightSaid : Prop := fnExactTaskRightRow.holds Try.pinned (OpenSpec.ofChange fnExactTaskRightSpec)

/-- ITS FALSE NEIGHBOUR: 'it returns false'. Refute it at one input. -/
def fnExactTaskRightWrong : ChangeSpec := { name := "fnExactTaskRight", fn := fun _ => fun
  | [d] => { results := [.lit (.bool false)], args := [d] }
  | _ => none }
def FnExactTaskRightWrongFalsely : Prop := fnExactTaskRightRow.holds Try.pinned (OpenSpec.ofChange fnExactTaskRightWrong)

/-- 'laws.FnExactTasksRight': WHATEVER THE INPUT: true; the input reads as it did. -/
def fnExactTasksRightSpec : ChangeSpec := { name := "fnExactTasksRight", fn := fun _ => fun
  | [d] => { results := [.lit (.bool true)], args := [d] }
  | _ => none }
def fnExactTasksRightRow : OpenClaim := { program := "ytkghodbbgehcoaa", sum := "513ed0f006eaa62c43a0685d047eb4ea100def4eb87e5fec8f752f585d5f1552", func := "loop.example/g00658/laws.FnExactTasksRight", spec := "fnExactTasksRight", unfollowed := true, recurses := true, plainKeys := false, apart := false }
def FnExactTasksRightSaid : Prop := fnExactTasksRightRow.holds Try.pinned (OpenSpec.ofChange fnExactTasksRightSpec)

/-- ITS FALSE NEIGHBOUR: 'it returns false'. Refute it at one input. -/
def fnExactTasksRightWrong : ChangeSpec := { name := "fnExactTasksRight", fn := fun _ => fun
  | [d] => { results := [.lit (.bool false)], args := [d] }
  | _ => none }
def FnExactTasksRightWrongFalsely : Prop := fnExactTasksRightRow.holds Try.pinned (OpenSpec.ofChange fnExactTasksRightWrong)

/-- 'laws.FnExactTaskOf': WHATEVER THE INPUT: true; the input reads as it did. -/
def fnExactTaskOfSpec : ChangeSpec := { name := "fnExactTaskOf", fn := fun _ => fun
  | [d1, d2, d3] => { results := [.lit (.bool true)], args := [d1, d2, d3] }
  | _ => none }
def fnExactTaskOfRow : OpenClaim := { program := "ytkghodbbgehcoaa", sum := "513ed0f006eaa62c43a0685d047eb4ea100def4eb87e5fec8f752f585d5f1552", func := "loop.example/g00658/laws.FnExactTaskOf", spec := "fnExactTaskOf", unfollowed := true, recurses := true, plainKeys := false, apart := false }
def FnExactTaskOfSaid : Prop := fnExactTaskOfRow.holds Try.pinned (OpenSpec.ofChange fnExactTaskOfSpec)

/-- ITS FALSE NEIGHBOUR: 'it returns false'. Refute it at one input. -/
def fnExactTaskOfWrong : ChangeSpec := { name := "fnExactTaskOf", fn := fun _ => fun
  | [d1, d2, d3] => { results := [.lit (.bool false)], args := [d1, d2, d3] }
  | _ => none }
def FnExactTaskOfWrongFalsely : Prop := fnExactTaskOfRow.holds Try.pinned (OpenSpec.ofChange fnExactTaskOfWrong)

/-- 'laws.FnExactLiveOf': WHATEVER THE INPUT: true; the input reads as it did. -/
def fnExactLiveOfSpec : ChangeSpec := { name := "fnExactLiveOf", fn := fun _ => fun
  | [d1, d2] => { results := [.lit (.bool true)], args := [d1, d2] }
  | _ => none }
def fnExactLiveOfRow : OpenClaim := { program := "ytkghodbbgehcoaa", sum := "513ed0f006eaa62c43a0685d047eb4ea100def4eb87e5fec8f752f585d5f1552", func := "loop.example/g00658/laws.FnExactLiveOf", spec := "fnExactLiveOf", unfollowed := true, recurses := true, plainKeys := false, apart := false }
def FnExactLiveOfSaid : Prop := fnExactLiveOfRow.holds Try.pinned (OpenSpec.ofChange fnExactLiveOfSpec)

/-- ITS FALSE NEIGHBOUR: 'it returns false'. Refute it at one input. -/
def fnExactLiveOfWrong : ChangeSpec := { name := "fnExactLiveOf", fn := fun _ => fun
  | [d1, d2] => { results := [.lit (.bool false)], args := [d1, d2] }
  | _ => none }
def FnExactLiveOfWrongFalsely : Prop := fnExactLiveOfRow.holds Try.pinned (OpenSpec.ofChange fnExactLiveOfWrong)

/-- 'laws.FnExactTaskReady': WHATEVER THE INPUT: true; the input reads as it did. -/
def fnExactTaskReadySpec : ChangeSpec := { name := "fnExactTaskReady", fn := fun _ => fun
  | [d1, d2] => { results := [.lit (.bool true)], args := [d1, d2] }
  | _ => none }
def fnExactTaskReadyRow : OpenClaim := { program := "ytkghodbbgehcoaa", sum := "513ed0f006eaa62c43a0685d047eb4ea100def4eb87e5fec8f752f585d5f1552", func := "loop.example/g00658/laws.FnExactTaskReady", spec := "fnExactTaskReady", unfollowed := true, recurses := true, plainKeys := false, apart := false }
def FnExactTaskReadySaid : Prop := fnExactTaskReadyRow.holds Try.pinned (OpenSpec.ofChange fnExactTaskReadySpec)

/-- ITS FALSE NEIGHBOUR: 'it returns false'. Refute it at one input. -/
def fnExactTaskReadyWrong : ChangeSpec := { name := "fnExactTaskReady", fn := fun _ => fun
  | [d1, d2] => { results := [.lit (.bool false)], args := [d1, d2] }
  | _ => none }
def FnExactTaskReadyWrongFalsely : Prop := fnExactTaskReadyRow.holds Try.pinned (OpenSpec.ofChange fnExactTaskReadyWrong)

/-- 'laws.FnExactOrphans': WHATEVER THE INPUT: true; the input reads as it did. -/
def fnExactOrphansSpec : ChangeSpec := { name := "fnExactOrphans", fn := fun _ => fun
  | [d] => { results := [.lit (.bool true)], args := [d] }
  | _ => none }
def fnExactOrphansRow : OpenClaim := { program := "ytkghodbbgehcoaa", sum := "513ed0f006eaa62c43a0685d047eb4ea100def4eb87e5fec8f752f585d5f1552", func := "loop.example/g00658/laws.FnExactOrphans", spec := "fnExactOrphans", unfollowed := true, recurses := true, plainKeys := false, apart := false }
def FnExactOrphansSaid : Prop := fnExactOrphansRow.holds Try.pinned (OpenSpec.ofChange fnExactOrphansSpec)

/-- ITS FALSE NEIGHBOUR: 'it returns false'. Refute it at one input. -/
def fnExactOrphansWrong : ChangeSpec := { name := "fnExactOrphans", fn := fun _ => fun
  | [d] => { results := [.lit (.bool false)], args := [d] }
  | _ => none }
def FnExactOrphansWrongFalsely : Prop := fnExactOrphansRow.holds Try.pinned (OpenSpec.ofChange fnExactOrphansWrong)

/-- 'laws.FnExactTaskBytes': WHATEVER THE INPUT: true; the input reads as it did. -/
def fnExactTaskBytesSpec : ChangeSpec := { name := "fnExactTaskBytes", fn := fun _ => fun
  | [d] => { results := [.lit (.bool true)], args := [d] }
  | _ => none }
def fnExactTaskBytesRow : OpenClaim := { program := "ytkghodbbgehcoaa", sum := "513ed0f006eaa62c43a0685d047eb4ea100def4eb87e5fec8f752f585d5f1552", func := "loop.example/g00658/laws.FnExactTaskBytes", spec := "fnExactTaskBytes", inPlace := ["internal/abi.NoEscape"], plainKeys := false, apart := false }
def FnExactTaskBytesSaid : Prop := fnExactTaskBytesRow.holds Try.pinned (OpenSpec.ofChange fnExactTaskBytesSpec)

/-- ITS FALSE NEIGHBOUR: 'it returns false'. Refute it at one input. -/
def fnExactTaskBytesWrong : ChangeSpec := { name := "fnExactTaskBytes", fn := fun _ => fun
  | [d] => { results := [.lit (.bool false)], args := [d] }
  | _ => none }
def FnExactTaskBytesWrongFalsely : Prop := fnExactTaskBytesRow.holds Try.pinned (OpenSpec.ofChange fnExactTaskBytesWrong)

/- THE SECOND FORM. 'bulk': how many values and letters a reading holds, each counted each time it is reached (what is shared counts as often as it is met; a slice's spare places count too). A statement '..UptoSaid' is the law's where the arguments, and the package variables that the reading takes, are together of bulk at most 1048576: NARROWER than '..Said'. Prove '..Said' where nothing that the law and all that it calls make is longer than what came in: it says more and counts as full. Else prove '..UptoSaid'. A law counts once. -/
mutual
def uptoBulk {H : Type} : DataW H → Nat
  | .lit (.string bytes) => bytes.length + 1
  | .lit _ => 1
  | .nil => 1
  | .ptr d => uptoBulk d + 1
  | .slice elems spare => uptoBulkAll elems + uptoBulkAll spare + 1
  | .agg parts => uptoBulkAll parts + 1
  | .iface _ d => uptoBulk d + 1
  | .map entries => uptoBulkEntries entries + 1
  | .held _ => 1
def uptoBulkAll {H : Type} : List (DataW H) → Nat
  | [] => 0
  | d :: r => uptoBulk d + uptoBulkAll r
def uptoBulkEntries {H : Type} : List (Lit × DataW H) → Nat
  | [] => 0
  | x :: r => uptoBulkEntry x + uptoBulkEntries r
def uptoBulkEntry {H : Type} : Lit × DataW H → Nat
  | (.string bytes, d) => bytes.length + uptoBulk d + 1
  | (_, d) => uptoBulk d + 1
 end
def uptoSmall : (H : Type) → List (DataW H) → Bool := fun _ ds => decide (uptoBulkAll ds ≤ 1048576)
def OpenSpec.upto (s : _root_.Go.ChangeSpec) : _root_.Go.OpenSpec := { _root_.Go.OpenSpec.ofChange s with cond := some uptoSmall }

/-- 'laws.FnUses', WHERE WHAT IT READS IS OF BULK AT MOST 1048576: true; the input reads as it did. -/
def fnUsesUptoRow : OpenClaim := { program := "ytkghodbbgehcoaa", sum := "513ed0f006eaa62c43a0685d047eb4ea100def4eb87e5fec8f752f585d5f1552", func := "loop.example/g00658/laws.FnUses", spec := "fnUses", unfollowed := true, recurses := true, plainKeys := false, apart := false, narrowed := true }
def FnUsesUptoSaid : Prop := fnUsesUptoRow.holds Try.pinned (OpenSpec.upto fnUsesSpec)

/-- 'laws.FnExactTaskRight', WHERE WHAT IT READS IS OF BULK AT MOST 1048576: true; the input reads as it did. -/
def fnExactTaskRightUptoRow : OpenClaim := { program := "ytkghodbbgehcoaa", sum := "513ed0f006eaa62c43a0685d047eb4ea100def4eb87e5fec8f752f585d5f1552", func := "loop.example/g00658/laws.FnExactTaskRight", spec := "fnExactTaskRight", plainKeys := false, apart := false, narrowed := true }
def FnExactTaskRightUptoSaid : Prop := fnExactTaskRightUptoRow.holds Try.pinned (OpenSpec.upto fnExactTaskRightSpec)

/-- 'laws.FnExactTasksRight', WHERE WHAT IT READS IS OF BULK AT MOST 1048576: true; the input reads as it did. -/
def fnExactTasksRightUptoRow : OpenClaim := { program := "ytkghodbbgehcoaa", sum := "513ed0f006eaa62c43a0685d047eb4ea100def4eb87e5fec8f752f585d5f1552", func := "loop.example/g00658/laws.FnExactTasksRight", spec := "fnExactTasksRight", unfollowed := true, recurses := true, plainKeys := false, apart := false, narrowed := true }
def FnExactTasksRightUptoSaid : Prop := fnExactTasksRightUptoRow.holds Try.pinned (OpenSpec.upto fnExactTasksRightSpec)

/-- 'laws.FnExactTaskOf', WHERE WHAT IT READS IS OF BULK AT MOST 1048576: true; the input reads as it did. -/
def fnExactTaskOfUptoRow : OpenClaim := { program := "ytkghodbbgehcoaa", sum := "513ed0f006eaa62c43a0685d047eb4ea100def4eb87e5fec8f752f585d5f1552", func := "loop.example/g00658/laws.FnExactTaskOf", spec := "fnExactTaskOf", unfollowed := true, recurses := true, plainKeys := false, apart := false, narrowed := true }
def FnExactTaskOfUptoSaid : Prop := fnExactTaskOfUptoRow.holds Try.pinned (OpenSpec.upto fnExactTaskOfSpec)

/-- 'laws.FnExactLiveOf', WHERE WHAT IT READS IS OF BULK AT MOST 1048576: true; the input reads as it did. -/
def fnExactLiveOfUptoRow : OpenClaim := { program := "ytkghodbbgehcoaa", sum := "513ed0f006eaa62c43a0685d047eb4ea100def4eb87e5fec8f752f585d5f1552", func := "loop.example/g00658/laws.FnExactLiveOf", spec := "fnExactLiveOf", unfollowed := true, recurses := true, plainKeys := false, apart := false, narrowed := true }
def FnExactLiveOfUptoSaid : Prop := fnExactLiveOfUptoRow.holds Try.pinned (OpenSpec.upto fnExactLiveOfSpec)

/-- 'laws.FnExactTaskReady', WHERE WHAT IT READS IS OF BULK AT MOST 1048576: true; the input reads as it did. -/
def fnExactTaskReadyUptoRow : OpenClaim := { program := "ytkghodbbgehcoaa", sum := "513ed0f006eaa62c43a0685d047eb4ea100def4eb87e5fec8f752f585d5f1552", func := "loop.example/g00658/laws.FnExactTaskReady", spec := "fnExactTaskReady", unfollowed := true, recurses := true, plainKeys := false, apart := false, narrowed := true }
def FnExactTaskReadyUptoSaid : Prop := fnExactTaskReadyUptoRow.holds Try.pinned (OpenSpec.upto fnExactTaskReadySpec)

/-- 'laws.FnExactOrphans', WHERE WHAT IT READS IS OF BULK AT MOST 1048576: true; the input reads as it did. -/
def fnExactOrphansUptoRow : OpenClaim := { program := "ytkghodbbgehcoaa", sum := "513ed0f006eaa62c43a0685d047eb4ea100def4eb87e5fec8f752f585d5f1552", func := "loop.example/g00658/laws.FnExactOrphans", spec := "fnExactOrphans", unfollowed := true, recurses := true, plainKeys := false, apart := false, narrowed := true }
def FnExactOrphansUptoSaid : Prop := fnExactOrphansUptoRow.holds Try.pinned (OpenSpec.upto fnExactOrphansSpec)

/-- 'laws.FnExactTaskBytes', WHERE WHAT IT READS IS OF BULK AT MOST 1048576: true; the input reads as it did. -/
def fnExactTaskBytesUptoRow : OpenClaim := { program := "ytkghodbbgehcoaa", sum := "513ed0f006eaa62c43a0685d047eb4ea100def4eb87e5fec8f752f585d5f1552", func := "loop.example/g00658/laws.FnExactTaskBytes", spec := "fnExactTaskBytes", inPlace := ["internal/abi.NoEscape"], plainKeys := false, apart := false, narrowed := true }
def FnExactTaskBytesUptoSaid : Prop := fnExactTaskBytesUptoRow.holds Try.pinned (OpenSpec.upto fnExactTaskBytesSpec)

end Rows
end Go.Proofs.Ytkghodbbgehcoaa
