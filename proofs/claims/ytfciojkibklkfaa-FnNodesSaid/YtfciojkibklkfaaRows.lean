/-
  No cell of these rows narrows 'for every input' (looked for: loops, veiled, ifaces, maps, wideKeys, modest, calm, conditions, laid).
  DERIVED. THE GIVEN ROWS OF THIS SEAT. 9 by the template 'for every input the law returns true; each argument reads behind the call as it read before'; 0 by the template 'total and deterministic' (their statements: YtfciojkibklkfaaTotals.lean).
  GIVEN WITH THE SEED: the statements are not yours to turn. If you find one false, say at which input.
  Laid BY PROGRAM, IN A SANDBOX (cutbox-rows.mjs): the forced cells as the released guide's own fill.sh prints them over the translation 20b231ddd4c1e9f1… (all of the seat's roots in one cut). By AI agents, Wed Nov 11 2026. No macro, syntax, notation, axiom, sorry.
-/
import Derived.Test.YtfciojkibklkfaaChecked
import GoSem.Claim
import GoSem.ClaimJoined
import GoSem.ClaimMapViews
import Derived.JoinedTies
import Derived.KernelRfl
namespace Go.Proofs.Ytfciojkibklkfaa
/- THE CELL 'sum', in the pinned program and in every row, IS THE sha256 OF THE DUMP (.gsa) THAT YtfciojkibklkfaaProg.lean LOADS. Nothing in Lean hashes anything: it is a label: what it is worth is what the hold of that sum in a sandbox is worth. -/
noncomputable def Try.pinned : Pinned := { name := "ytfciojkibklkfaa", sum := "20b231ddd4c1e9f1b31c56816b928ccf9b50735a2be89b89819246788104e534", checked := Try.checked }
namespace Rows
def none {H : Type} : Left H := { results := [], args := [] }

/-- 'laws.FnNodes': WHATEVER THE INPUT: true; the input reads as it did. -/
def fnNodesSpec : ChangeSpec := { name := "fnNodes", fn := fun _ => fun
  | [d1, d2] => { results := [.lit (.bool true)], args := [d1, d2] }
  | _ => none }
def fnNodesRow : OpenClaim := { program := "ytfciojkibklkfaa", sum := "20b231ddd4c1e9f1b31c56816b928ccf9b50735a2be89b89819246788104e534", func := "loop.example/g00658/laws.FnNodes", spec := "fnNodes", unfollowed := true, recurses := true, apart := false }
def FnNodesSaid : Prop := fnNodesRow.holds Try.pinned (OpenSpec.ofChange fnNodesSpec)

/-- ITS FALSE NEIGHBOUR: 'it returns false'. Refute it at one input. -/
def fnNodesWrong : ChangeSpec := { name := "fnNodes", fn := fun _ => fun
  | [d1, d2] => { results := [.lit (.bool false)], args := [d1, d2] }
  | _ => none }
def FnNodesWrongFalsely : Prop := fnNodesRow.holds Try.pinned (OpenSpec.ofChange fnNodesWrong)

/-- 'laws.FnExactNodesRight': WHATEVER THE INPUT: true; the input reads as it did. -/
def fnExactNodesRightSpec : ChangeSpec := { name := "fnExactNodesRight", fn := fun _ => fun
  | [d] => { results := [.lit (.bool true)], args := [d] }
  | _ => none }
def fnExactNodesRightRow : OpenClaim := { program := "ytfciojkibklkfaa", sum := "20b231ddd4c1e9f1b31c56816b928ccf9b50735a2be89b89819246788104e534", func := "loop.example/g00658/laws.FnExactNodesRight", spec := "fnExactNodesRight", unfollowed := true, recurses := true, apart := false }
def FnExactNodesRightSaid : Prop := fnExactNodesRightRow.holds Try.pinned (OpenSpec.ofChange fnExactNodesRightSpec)

/-- ITS FALSE NEIGHBOUR: 'it returns false'. Refute it at one input. -/
def fnExactNodesRightWrong : ChangeSpec := { name := "fnExactNodesRight", fn := fun _ => fun
  | [d] => { results := [.lit (.bool false)], args := [d] }
  | _ => none }
def FnExactNodesRightWrongFalsely : Prop := fnExactNodesRightRow.holds Try.pinned (OpenSpec.ofChange fnExactNodesRightWrong)

/-- 'laws.FnExactNodesNew': WHATEVER THE INPUT: true; the input reads as it did. -/
def fnExactNodesNewSpec : ChangeSpec := { name := "fnExactNodesNew", fn := fun _ => fun
  | [d] => { results := [.lit (.bool true)], args := [d] }
  | _ => none }
def fnExactNodesNewRow : OpenClaim := { program := "ytfciojkibklkfaa", sum := "20b231ddd4c1e9f1b31c56816b928ccf9b50735a2be89b89819246788104e534", func := "loop.example/g00658/laws.FnExactNodesNew", spec := "fnExactNodesNew", apart := false }
def FnExactNodesNewSaid : Prop := fnExactNodesNewRow.holds Try.pinned (OpenSpec.ofChange fnExactNodesNewSpec)

/-- ITS FALSE NEIGHBOUR: 'it returns false'. Refute it at one input. -/
def fnExactNodesNewWrong : ChangeSpec := { name := "fnExactNodesNew", fn := fun _ => fun
  | [d] => { results := [.lit (.bool false)], args := [d] }
  | _ => none }
def FnExactNodesNewWrongFalsely : Prop := fnExactNodesNewRow.holds Try.pinned (OpenSpec.ofChange fnExactNodesNewWrong)

/-- 'laws.FnExactNodeSet': WHATEVER THE INPUT: true; the input reads as it did. -/
def fnExactNodeSetSpec : ChangeSpec := { name := "fnExactNodeSet", fn := fun _ => fun
  | [d1, d2, d3] => { results := [.lit (.bool true)], args := [d1, d2, d3] }
  | _ => none }
def fnExactNodeSetRow : OpenClaim := { program := "ytfciojkibklkfaa", sum := "20b231ddd4c1e9f1b31c56816b928ccf9b50735a2be89b89819246788104e534", func := "loop.example/g00658/laws.FnExactNodeSet", spec := "fnExactNodeSet", unfollowed := true, recurses := true, apart := false }
def FnExactNodeSetSaid : Prop := fnExactNodeSetRow.holds Try.pinned (OpenSpec.ofChange fnExactNodeSetSpec)

/-- ITS FALSE NEIGHBOUR: 'it returns false'. Refute it at one input. -/
def fnExactNodeSetWrong : ChangeSpec := { name := "fnExactNodeSet", fn := fun _ => fun
  | [d1, d2, d3] => { results := [.lit (.bool false)], args := [d1, d2, d3] }
  | _ => none }
def FnExactNodeSetWrongFalsely : Prop := fnExactNodeSetRow.holds Try.pinned (OpenSpec.ofChange fnExactNodeSetWrong)

/-- 'laws.FnExactBookPut': WHATEVER THE INPUT: true; the input reads as it did. -/
def fnExactBookPutSpec : ChangeSpec := { name := "fnExactBookPut", fn := fun _ => fun
  | [d1, d2, d3, d4] => { results := [.lit (.bool true)], args := [d1, d2, d3, d4] }
  | _ => none }
def fnExactBookPutRow : OpenClaim := { program := "ytfciojkibklkfaa", sum := "20b231ddd4c1e9f1b31c56816b928ccf9b50735a2be89b89819246788104e534", func := "loop.example/g00658/laws.FnExactBookPut", spec := "fnExactBookPut", unfollowed := true, recurses := true, apart := false }
def FnExactBookPutSaid : Prop := fnExactBookPutRow.holds Try.pinned (OpenSpec.ofChange fnExactBookPutSpec)

/-- ITS FALSE NEIGHBOUR: 'it returns false'. Refute it at one input. -/
def fnExactBookPutWrong : ChangeSpec := { name := "fnExactBookPut", fn := fun _ => fun
  | [d1, d2, d3, d4] => { results := [.lit (.bool false)], args := [d1, d2, d3, d4] }
  | _ => none }
def FnExactBookPutWrongFalsely : Prop := fnExactBookPutRow.holds Try.pinned (OpenSpec.ofChange fnExactBookPutWrong)

/-- 'laws.FnExactBookCut': WHATEVER THE INPUT: true; the input reads as it did. -/
def fnExactBookCutSpec : ChangeSpec := { name := "fnExactBookCut", fn := fun _ => fun
  | [d1, d2, d3] => { results := [.lit (.bool true)], args := [d1, d2, d3] }
  | _ => none }
def fnExactBookCutRow : OpenClaim := { program := "ytfciojkibklkfaa", sum := "20b231ddd4c1e9f1b31c56816b928ccf9b50735a2be89b89819246788104e534", func := "loop.example/g00658/laws.FnExactBookCut", spec := "fnExactBookCut", unfollowed := true, recurses := true, apart := false }
def FnExactBookCutSaid : Prop := fnExactBookCutRow.holds Try.pinned (OpenSpec.ofChange fnExactBookCutSpec)

/-- ITS FALSE NEIGHBOUR: 'it returns false'. Refute it at one input. -/
def fnExactBookCutWrong : ChangeSpec := { name := "fnExactBookCut", fn := fun _ => fun
  | [d1, d2, d3] => { results := [.lit (.bool false)], args := [d1, d2, d3] }
  | _ => none }
def FnExactBookCutWrongFalsely : Prop := fnExactBookCutRow.holds Try.pinned (OpenSpec.ofChange fnExactBookCutWrong)

/-- 'laws.FnExactBooksPass': WHATEVER THE INPUT: true; the input reads as it did. -/
def fnExactBooksPassSpec : ChangeSpec := { name := "fnExactBooksPass", fn := fun _ => fun
  | [d1, d2] => { results := [.lit (.bool true)], args := [d1, d2] }
  | _ => none }
def fnExactBooksPassRow : OpenClaim := { program := "ytfciojkibklkfaa", sum := "20b231ddd4c1e9f1b31c56816b928ccf9b50735a2be89b89819246788104e534", func := "loop.example/g00658/laws.FnExactBooksPass", spec := "fnExactBooksPass", unfollowed := true, recurses := true, apart := false }
def FnExactBooksPassSaid : Prop := fnExactBooksPassRow.holds Try.pinned (OpenSpec.ofChange fnExactBooksPassSpec)

/-- ITS FALSE NEIGHBOUR: 'it returns false'. Refute it at one input. -/
def fnExactBooksPassWrong : ChangeSpec := { name := "fnExactBooksPass", fn := fun _ => fun
  | [d1, d2] => { results := [.lit (.bool false)], args := [d1, d2] }
  | _ => none }
def FnExactBooksPassWrongFalsely : Prop := fnExactBooksPassRow.holds Try.pinned (OpenSpec.ofChange fnExactBooksPassWrong)

/-- 'laws.FnExactRowsNew': WHATEVER THE INPUT: true; the input reads as it did. -/
def fnExactRowsNewSpec : ChangeSpec := { name := "fnExactRowsNew", fn := fun _ => fun
  | [d] => { results := [.lit (.bool true)], args := [d] }
  | _ => none }
def fnExactRowsNewRow : OpenClaim := { program := "ytfciojkibklkfaa", sum := "20b231ddd4c1e9f1b31c56816b928ccf9b50735a2be89b89819246788104e534", func := "loop.example/g00658/laws.FnExactRowsNew", spec := "fnExactRowsNew", unfollowed := true, recurses := true, apart := false }
def FnExactRowsNewSaid : Prop := fnExactRowsNewRow.holds Try.pinned (OpenSpec.ofChange fnExactRowsNewSpec)

/-- ITS FALSE NEIGHBOUR: 'it returns false'. Refute it at one input. -/
def fnExactRowsNewWrong : ChangeSpec := { name := "fnExactRowsNew", fn := fun _ => fun
  | [d] => { results := [.lit (.bool false)], args := [d] }
  | _ => none }
def FnExactRowsNewWrongFalsely : Prop := fnExactRowsNewRow.holds Try.pinned (OpenSpec.ofChange fnExactRowsNewWrong)

/-- 'laws.FnExactRowsHard': WHATEVER THE INPUT: true; the input reads as it did. -/
def fnExactRowsHardSpec : ChangeSpec := { name := "fnExactRowsHard", fn := fun _ => fun
  | [d] => { results := [.lit (.bool true)], args := [d] }
  | _ => none }
def fnExactRowsHardRow : OpenClaim := { program := "ytfciojkibklkfaa", sum := "20b231ddd4c1e9f1b31c56816b928ccf9b50735a2be89b89819246788104e534", func := "loop.example/g00658/laws.FnExactRowsHard", spec := "fnExactRowsHard", unfollowed := true, recurses := true, apart := false }
def FnExactRowsHardSaid : Prop := fnExactRowsHardRow.holds Try.pinned (OpenSpec.ofChange fnExactRowsHardSpec)

/-- ITS FALSE NEIGHBOUR: 'it returns false'. Refute it at one input. -/
def fnExactRowsHardWrong : ChangeSpec := { name := "fnExactRowsHard", fn := fun _ => fun
  | [d] => { results := [.lit (.bool false)], args := [d] }
  | _ => none }
def FnExactRowsHardWrongFalsely : Prop := fnExactRowsHardRow.holds Try.pinned (OpenSpec.ofChange fnExactRowsHardWrong)

/- THE SECOND FORM. 'bulk': how many values and letters a reading holds, each counted each time it is reached (what is shared counts as often as it is met; a slice's spare places count too). A statement '..UptoSaid' is the law's where the arguments, and the package variables that the reading takes, are together of bulk at most 1048576: NARROWER than '..Said'. Prove '..Said' where nothing that the law and all that it calls make is longer than what came in: it says more and counts as full. Else prove '..UptoSaid'. A law counts once. -/
mutual
def uptoBulk {H : Type} : DataW H → Nat
  | .lit (.string bytes) => bytes.length + 1
  | .lit _ => 1
  | .nil => 1
  | .ptr d => uptoBulk d + 1
  | .slice elems spare => uptoBulkAll elems + uptoBulkAll spare + 1
  | .agg parts => uptoBulkAll parts + 1
  | .iface _ d => uptoBulk d + 1
  | .map entries => uptoBulkEntries entries + 1
  | .held _ => 1
def uptoBulkAll {H : Type} : List (DataW H) → Nat
  | [] => 0
  | d :: r => uptoBulk d + uptoBulkAll r
def uptoBulkEntries {H : Type} : List (Lit × DataW H) → Nat
  | [] => 0
  | x :: r => uptoBulkEntry x + uptoBulkEntries r
def uptoBulkEntry {H : Type} : Lit × DataW H → Nat
  | (.string bytes, d) => bytes.length + uptoBulk d + 1
  | (_, d) => uptoBulk d + 1
 end
def uptoSmall : (H : Type) → List (DataW H) → Bool := fun _ ds => decide (uptoBulkAll ds ≤ 1048576)
def OpenSpec.upto (s : _root_.Go.ChangeSpec) : _root_.Go.OpenSpec := { _root_.Go.OpenSpec.ofChange s with cond := some uptoSmall }

/-- 'laws.FnNodes', WHERE WHAT IT READS IS OF BULK AT MOST 1048576: true; the input reads as it did. -/
def fnNodesUptoRow : OpenClaim := { program := "ytfciojkibklkfaa", sum := "20b231ddd4c1e9f1b31c56816b928ccf9b50735a2be89b89819246788104e534", func := "loop.example/g00658/laws.FnNodes", spec := "fnNodes", unfollowed := true, recurses := true, apart := false, narrowed := true }
def FnNodesUptoSaid : Prop := fnNodesUptoRow.holds Try.pinned (OpenSpec.upto fnNodesSpec)

/-- 'laws.FnExactNodesRight', WHERE WHAT IT READS IS OF BULK AT MOST 1048576: true; the input reads as it did. -/
def fnExactNodesRightUptoRow : OpenClaim := { program := "ytfciojkibklkfaa", sum := "20b231ddd4c1e9f1b31c56816b928ccf9b50735a2be89b89819246788104e534", func := "loop.example/g00658/laws.FnExactNodesRight", spec := "fnExactNodesRight", unfollowed := true, recurses := true, apart := false, narrowed := true }
def FnExactNodesRightUptoSaid : Prop := fnExactNodesRightUptoRow.holds Try.pinned (OpenSpec.upto fnExactNodesRightSpec)

/-- 'laws.FnExactNodesNew', WHERE WHAT IT READS IS OF BULK AT MOST 1048576: true; the input reads as it did. -/
def fnExactNodesNewUptoRow : OpenClaim := { program := "ytfciojkibklkfaa", sum := "20b231ddd4c1e9f1b31c56816b928ccf9b50735a2be89b89819246788104e534", func := "loop.example/g00658/laws.FnExactNodesNew", spec := "fnExactNodesNew", apart := false, narrowed := true }
def FnExactNodesNewUptoSaid : Prop := fnExactNodesNewUptoRow.holds Try.pinned (OpenSpec.upto fnExactNodesNewSpec)

/-- 'laws.FnExactNodeSet', WHERE WHAT IT READS IS OF BULK AT MOST 1048576: true; the input reads as it did. -/
def fnExactNodeSetUptoRow : OpenClaim := { program := "ytfciojkibklkfaa", sum := "20b231ddd4c1e9f1b31c56816b928ccf9b50735a2be89b89819246788104e534", func := "loop.example/g00658/laws.FnExactNodeSet", spec := "fnExactNodeSet", unfollowed := true, recurses := true, apart := false, narrowed := true }
def FnExactNodeSetUptoSaid : Prop := fnExactNodeSetUptoRow.holds Try.pinned (OpenSpec.upto fnExactNodeSetSpec)

/-- 'laws.FnExactBookPut', WHERE WHAT IT READS IS OF BULK AT MOST 1048576: true; the input reads as it did. -/
def fnExactBookPutUptoRow : OpenClaim := { program := "ytfciojkibklkfaa", sum := "20b231ddd4c1e9f1b31c56816b928ccf9b50735a2be89b89819246788104e534", func := "loop.example/g00658/laws.FnExactBookPut", spec := "fnExactBookPut", unfollowed := true, recurses := true, apart := false, narrowed := true }
def FnExactBookPutUptoSaid : Prop := fnExactBookPutUptoRow.holds Try.pinned (OpenSpec.upto fnExactBookPutSpec)

/-- 'laws.FnExactBookCut', WHERE WHAT IT READS IS OF BULK AT MOST 1048576: true; the input reads as it did. -/
def fnExactBookCutUptoRow : OpenClaim := { program := "ytfciojkibklkfaa", sum := "20b231ddd4c1e9f1b31c56816b928ccf9b50735a2be89b89819246788104e534", func := "loop.example/g00658/laws.FnExactBookCut", spec := "fnExactBookCut", unfollowed := true, recurses := true, apart := false, narrowed := true }
def FnExactBookCutUptoSaid : Prop := fnExactBookCutUptoRow.holds Try.pinned (OpenSpec.upto fnExactBookCutSpec)

/-- 'laws.FnExactBooksPass', WHERE WHAT IT READS IS OF BULK AT MOST 1048576: true; the input reads as it did. -/
def fnExactBooksPassUptoRow : OpenClaim := { program := "ytfciojkibklkfaa", sum := "20b231ddd4c1e9f1b31c56816b928ccf9b50735a2be89b89819246788104e534", func := "loop.example/g00658/laws.FnExactBooksPass", spec := "fnExactBooksPass", unfollowed := true, recurses := true, apart := false, narrowed := true }
def FnExactBooksPassUptoSaid : Prop := fnExactBooksPassUptoRow.holds Try.pinned (OpenSpec.upto fnExactBooksPassSpec)

/-- 'laws.FnExactRowsNew', WHERE WHAT IT READS IS OF BULK AT MOST 1048576: true; the input reads as it did. -/
def fnExactRowsNewUptoRow : OpenClaim := { program := "ytfciojkibklkfaa", sum := "20b231ddd4c1e9f1b31c56816b928ccf9b50735a2be89b89819246788104e534", func := "loop.example/g00658/laws.FnExactRowsNew", spec := "fnExactRowsNew", unfollowed := true, recurses := true, apart := false, narrowed := true }
def FnExactRowsNewUptoSaid : Prop := fnExactRowsNewUptoRow.holds Try.pinned (OpenSpec.upto fnExactRowsNewSpec)

/-- 'laws.FnExactRowsHard', WHERE WHAT IT READS IS OF BULK AT MOST 1048576: true; the input reads as it did. -/
def fnExactRowsHardUptoRow : OpenClaim := { program := "ytfciojkibklkfaa", sum := "20b231ddd4c1e9f1b31c56816b928ccf9b50735a2be89b89819246788104e534", func := "loop.example/g00658/laws.FnExactRowsHard", spec := "fnExactRowsHard", unfollowed := true, recurses := true, apart := false, narrowed := true }
def FnExactRowsHardUptoSaid : Prop := fnExactRowsHardUptoRow.holds Try.pinned (OpenSpec.upto fnExactRowsHardSpec)

end Rows
end Go.Proofs.Ytfciojkibklkfaa
