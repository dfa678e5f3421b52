/-
  No cell of these rows narrows 'for every input' (looked for: loops, veiled, ifaces, maps, wideKeys, modest, calm, conditions, laid).
  DERIVED. THE GIVEN ROWS OF THIS SEAT. 6 by the template 'for every input the law returns true; each argument reads behind the call as it read before'; 0 by the template 'total and deterministic' (their statements: YtglifjjoalkkbaaTotals.lean).
  GIVEN WITH THE SEED: the statements are not yours to turn. If you find one false, say at which input.
  Laid BY PROGRAM, IN A SANDBOX (cutbox-rows.mjs): the forced cells as the released guide's own fill.sh prints them over the translation 79920c8b25f02822… (all of the seat's roots in one cut). By AI agents, Wed Nov 11 2026. No macro, syntax, notation, axiom, sorry.
-/
import Derived.Test.YtglifjjoalkkbaaChecked
import GoSem.Claim
import GoSem.ClaimJoined
import GoSem.ClaimMapViews
import Derived.JoinedTies
import Derived.KernelRfl
namespace Go.Proofs.Ytglifjjoalkkbaa
/- THE CELL 'sum', in the pinned program and in every row, IS THE sha256 OF THE DUMP (.gsa) THAT YtglifjjoalkkbaaProg.lean LOADS. Nothing in Lean hashes anything: it is a label: what it is worth is what the hold of that sum in a sandbox is worth. -/
noncomputable def Try.pinned : Pinned := { name := "ytglifjjoalkkbaa", sum := "79920c8b25f028221df12b00bc674dc104108744738d9d62f93efe80b7ba5e47", checked := Try.checked }
namespace Rows
def none {H : Type} : Left H := { results := [], args := [] }

/-- 'laws.FnSpan': WHATEVER THE INPUT: true; the input reads as it did. -/
def fnSpanSpec : ChangeSpec := { name := "fnSpan", fn := fun _ => fun
  | [d1, d2] => { results := [.lit (.bool true)], args := [d1, d2] }
  | _ => none }
def fnSpanRow : OpenClaim := { program := "ytglifjjoalkkbaa", sum := "79920c8b25f028221df12b00bc674dc104108744738d9d62f93efe80b7ba5e47", func := "loop.example/g00658/laws.FnSpan", spec := "fnSpan", unfollowed := true, recurses := true, apart := false }
def FnSpanSaid : Prop := fnSpanRow.holds Try.pinned (OpenSpec.ofChange fnSpanSpec)

/-- ITS FALSE NEIGHBOUR: 'it returns false'. Refute it at one input. -/
def fnSpanWrong : ChangeSpec := { name := "fnSpan", fn := fun _ => fun
  | [d1, d2] => { results := [.lit (.bool false)], args := [d1, d2] }
  | _ => none }
def FnSpanWrongFalsely : Prop := fnSpanRow.holds Try.pinned (OpenSpec.ofChange fnSpanWrong)

/-- 'laws.FnExactSpansRight': WHATEVER THE INPUT: true; the input reads as it did. -/
def fnExactSpansRightSpec : ChangeSpec := { name := "fnExactSpansRight", fn := fun _ => fun
  | [d] => { results := [.lit (.bool true)], args := [d] }
  | _ => none }
def fnExactSpansRightRow : OpenClaim := { program := "ytglifjjoalkkbaa", sum := "79920c8b25f028221df12b00bc674dc104108744738d9d62f93efe80b7ba5e47", func := "loop.example/g00658/laws.FnExactSpansRight", spec := "fnExactSpansRight", unfollowed := true, recurses := true, apart := false }
def FnExactSpansRightSaid : Prop := fnExactSpansRightRow.holds Try.pinned (OpenSpec.ofChange fnExactSpansRightSpec)

/-- ITS FALSE NEIGHBOUR: 'it returns false'. Refute it at one input. -/
def fnExactSpansRightWrong : ChangeSpec := { name := "fnExactSpansRight", fn := fun _ => fun
  | [d] => { results := [.lit (.bool false)], args := [d] }
  | _ => none }
def FnExactSpansRightWrongFalsely : Prop := fnExactSpansRightRow.holds Try.pinned (OpenSpec.ofChange fnExactSpansRightWrong)

/-- 'laws.FnExactIsFree': WHATEVER THE INPUT: true; the input reads as it did. -/
def fnExactIsFreeSpec : ChangeSpec := { name := "fnExactIsFree", fn := fun _ => fun
  | [d1, d2] => { results := [.lit (.bool true)], args := [d1, d2] }
  | _ => none }
def fnExactIsFreeRow : OpenClaim := { program := "ytglifjjoalkkbaa", sum := "79920c8b25f028221df12b00bc674dc104108744738d9d62f93efe80b7ba5e47", func := "loop.example/g00658/laws.FnExactIsFree", spec := "fnExactIsFree", unfollowed := true, recurses := true, apart := false }
def FnExactIsFreeSaid : Prop := fnExactIsFreeRow.holds Try.pinned (OpenSpec.ofChange fnExactIsFreeSpec)

/-- ITS FALSE NEIGHBOUR: 'it returns false'. Refute it at one input. -/
def fnExactIsFreeWrong : ChangeSpec := { name := "fnExactIsFree", fn := fun _ => fun
  | [d1, d2] => { results := [.lit (.bool false)], args := [d1, d2] }
  | _ => none }
def FnExactIsFreeWrongFalsely : Prop := fnExactIsFreeRow.holds Try.pinned (OpenSpec.ofChange fnExactIsFreeWrong)

/-- 'laws.FnExactSpanPut': WHATEVER THE INPUT: true; the input reads as it did. -/
def fnExactSpanPutSpec : ChangeSpec := { name := "fnExactSpanPut", fn := fun _ => fun
  | [d1, d2] => { results := [.lit (.bool true)], args := [d1, d2] }
  | _ => none }
def fnExactSpanPutRow : OpenClaim := { program := "ytglifjjoalkkbaa", sum := "79920c8b25f028221df12b00bc674dc104108744738d9d62f93efe80b7ba5e47", func := "loop.example/g00658/laws.FnExactSpanPut", spec := "fnExactSpanPut", unfollowed := true, recurses := true, apart := false }
def FnExactSpanPutSaid : Prop := fnExactSpanPutRow.holds Try.pinned (OpenSpec.ofChange fnExactSpanPutSpec)

/-- ITS FALSE NEIGHBOUR: 'it returns false'. Refute it at one input. -/
def fnExactSpanPutWrong : ChangeSpec := { name := "fnExactSpanPut", fn := fun _ => fun
  | [d1, d2] => { results := [.lit (.bool false)], args := [d1, d2] }
  | _ => none }
def FnExactSpanPutWrongFalsely : Prop := fnExactSpanPutRow.holds Try.pinned (OpenSpec.ofChange fnExactSpanPutWrong)

/-- 'laws.FnExactFirstFit': WHATEVER THE INPUT: true; the input reads as it did. -/
def fnExactFirstFitSpec : ChangeSpec := { name := "fnExactFirstFit", fn := fun _ => fun
  | [d1, d2, d3, d4] => { results := [.lit (.bool true)], args := [d1, d2, d3, d4] }
  | _ => none }
def fnExactFirstFitRow : OpenClaim := { program := "ytglifjjoalkkbaa", sum := "79920c8b25f028221df12b00bc674dc104108744738d9d62f93efe80b7ba5e47", func := "loop.example/g00658/laws.FnExactFirstFit", spec := "fnExactFirstFit", unfollowed := true, recurses := true, apart := false }
def FnExactFirstFitSaid : Prop := fnExactFirstFitRow.holds Try.pinned (OpenSpec.ofChange fnExactFirstFitSpec)

/-- ITS FALSE NEIGHBOUR: 'it returns false'. Refute it at one input. -/
def fnExactFirstFitWrong : ChangeSpec := { name := "fnExactFirstFit", fn := fun _ => fun
  | [d1, d2, d3, d4] => { results := [.lit (.bool false)], args := [d1, d2, d3, d4] }
  | _ => none }
def FnExactFirstFitWrongFalsely : Prop := fnExactFirstFitRow.holds Try.pinned (OpenSpec.ofChange fnExactFirstFitWrong)

/-- 'laws.FnExactFitNodes': WHATEVER THE INPUT: true; the input reads as it did. -/
def fnExactFitNodesSpec : ChangeSpec := { name := "fnExactFitNodes", fn := fun _ => fun
  | [d1, d2, d3] => { results := [.lit (.bool true)], args := [d1, d2, d3] }
  | _ => none }
def fnExactFitNodesRow : OpenClaim := { program := "ytglifjjoalkkbaa", sum := "79920c8b25f028221df12b00bc674dc104108744738d9d62f93efe80b7ba5e47", func := "loop.example/g00658/laws.FnExactFitNodes", spec := "fnExactFitNodes", unfollowed := true, recurses := true, apart := false }
def FnExactFitNodesSaid : Prop := fnExactFitNodesRow.holds Try.pinned (OpenSpec.ofChange fnExactFitNodesSpec)

/-- ITS FALSE NEIGHBOUR: 'it returns false'. Refute it at one input. -/
def fnExactFitNodesWrong : ChangeSpec := { name := "fnExactFitNodes", fn := fun _ => fun
  | [d1, d2, d3] => { results := [.lit (.bool false)], args := [d1, d2, d3] }
  | _ => none }
def FnExactFitNodesWrongFalsely : Prop := fnExactFitNodesRow.holds Try.pinned (OpenSpec.ofChange fnExactFitNodesWrong)

/- THE SECOND FORM. 'bulk': how many values and letters a reading holds, each counted each time it is reached (what is shared counts as often as it is met; a slice's spare places count too). A statement '..UptoSaid' is the law's where the arguments, and the package variables that the reading takes, are together of bulk at most 1048576: NARROWER than '..Said'. Prove '..Said' where nothing that the law and all that it calls make is longer than what came in: it says more and counts as full. Else prove '..UptoSaid'. A law counts once. -/
mutual
def uptoBulk {H : Type} : DataW H → Nat
  | .lit (.string bytes) => bytes.length + 1
  | .lit _ => 1
  | .nil => 1
  | .ptr d => uptoBulk d + 1
  | .slice elems spare => uptoBulkAll elems + uptoBulkAll spare + 1
  | .agg parts => uptoBulkAll parts + 1
  | .iface _ d => uptoBulk d + 1
  | .map entries => uptoBulkEntries entries + 1
  | .held _ => 1
def uptoBulkAll {H : Type} : List (DataW H) → Nat
  | [] => 0
  | d :: r => uptoBulk d + uptoBulkAll r
def uptoBulkEntries {H : Type} : List (Lit × DataW H) → Nat
  | [] => 0
  | x :: r => uptoBulkEntry x + uptoBulkEntries r
def uptoBulkEntry {H : Type} : Lit × DataW H → Nat
  | (.string bytes, d) => bytes.length + uptoBulk d + 1
  | (_, d) => uptoBulk d + 1
 end
def uptoSmall : (H : Type) → List (DataW H) → Bool := fun _ ds => decide (uptoBulkAll ds ≤ 1048576)
def OpenSpec.upto (s : _root_.Go.ChangeSpec) : _root_.Go.OpenSpec := { _root_.Go.OpenSpec.ofChange s with cond := some uptoSmall }

/-- 'laws.FnSpan', WHERE WHAT IT READS IS OF BULK AT MOST 1048576: true; the input reads as it did. -/
def fnSpanUptoRow : OpenClaim := { program := "ytglifjjoalkkbaa", sum := "79920c8b25f028221df12b00bc674dc104108744738d9d62f93efe80b7ba5e47", func := "loop.example/g00658/laws.FnSpan", spec := "fnSpan", unfollowed := true, recurses := true, apart := false, narrowed := true }
def FnSpanUptoSaid : Prop := fnSpanUptoRow.holds Try.pinned (OpenSpec.upto fnSpanSpec)

/-- 'laws.FnExactSpansRight', WHERE WHAT IT READS IS OF BULK AT MOST 1048576: true; the input reads as it did. -/
def fnExactSpansRightUptoRow : OpenClaim := { program := "ytglifjjoalkkbaa", sum := "79920c8b25f028221df12b00bc674dc104108744738d9d62f93efe80b7ba5e47", func := "loop.example/g00658/laws.FnExactSpansRight", spec := "fnExactSpansRight", unfollowed := true, recurses := true, apart := false, narrowed := true }
def FnExactSpansRightUptoSaid : Prop := fnExactSpansRightUptoRow.holds Try.pinned (OpenSpec.upto fnExactSpansRightSpec)

/-- 'laws.FnExactIsFree', WHERE WHAT IT READS IS OF BULK AT MOST 1048576: true; the input reads as it did. -/
def fnExactIsFreeUptoRow : OpenClaim := { program := "ytglifjjoalkkbaa", sum := "79920c8b25f028221df12b00bc674dc104108744738d9d62f93efe80b7ba5e47", func := "loop.example/g00658/laws.FnExactIsFree", spec := "fnExactIsFree", unfollowed := true, recurses := true, apart := false, narrowed := true }
def FnExactIsFreeUptoSaid : Prop := fnExactIsFreeUptoRow.holds Try.pinned (OpenSpec.upto fnExactIsFreeSpec)

/-- 'laws.FnExactSpanPut', WHERE WHAT IT READS IS OF BULK AT MOST 1048576: true; the input reads as it did. -/
def fnExactSpanPutUptoRow : OpenClaim := { program := "ytglifjjoalkkbaa", sum := "79920c8b25f028221df12b00bc674dc104108744738d9d62f93efe80b7ba5e47", func := "loop.example/g00658/laws.FnExactSpanPut", spec := "fnExactSpanPut", unfollowed := true, recurses := true, apart := false, narrowed := true }
def FnExactSpanPutUptoSaid : Prop := fnExactSpanPutUptoRow.holds Try.pinned (OpenSpec.upto fnExactSpanPutSpec)

/-- 'laws.FnExactFirstFit', WHERE WHAT IT READS IS OF BULK AT MOST 1048576: true; the input reads as it did. -/
def fnExactFirstFitUptoRow : OpenClaim := { program := "ytglifjjoalkkbaa", sum := "79920c8b25f028221df12b00bc674dc104108744738d9d62f93efe80b7ba5e47", func := "loop.example/g00658/laws.FnExactFirstFit", spec := "fnExactFirstFit", unfollowed := true, recurses := true, apart := false, narrowed := true }
def FnExactFirstFitUptoSaid : Prop := fnExactFirstFitUptoRow.holds Try.pinned (OpenSpec.upto fnExactFirstFitSpec)

/-- 'laws.FnExactFitNodes', WHERE WHAT IT READS IS OF BULK AT MOST 1048576: true; the input reads as it did. -/
def fnExactFitNodesUptoRow : OpenClaim := { program := "ytglifjjoalkkbaa", sum := "79920c8b25f028221df12b00bc674dc104108744738d9d62f93efe80b7ba5e47", func := "loop.example/g00658/laws.FnExactFitNodes", spec := "fnExactFitNodes", unfollowed := true, recurses := true, apart := false, narrowed := true }
def FnExactFitNodesUptoSaid : Prop := fnExactFitNodesUptoRow.holds Try.pinned (OpenSpec.upto fnExactFitNodesSpec)

end Rows
end Go.Proofs.Ytglifjjoalkkbaa
