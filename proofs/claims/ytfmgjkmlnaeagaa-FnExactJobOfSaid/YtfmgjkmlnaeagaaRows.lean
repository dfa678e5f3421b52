/-
  No cell of these rows narrows 'for every input' (looked for: loops, veiled, ifaces, maps, wideKeys, modest, calm, conditions, laid).
  DERIVED. THE GIVEN ROWS OF THIS SEAT. 4 by the template 'for every input the law returns true; each argument reads behind the call as it read before'; 0 by the template 'total and deterministic' (their statements: YtfmgjkmlnaeagaaTotals.lean).
  GIVEN WITH THE SEED: the statements are not yours to turn. If you find one false, say at which input.
  Laid BY PROGRAM, IN A SANDBOX (cutbox-rows.mjs): the forced cells as the released guide's own fill.sh prints them over the translation 8878ff2b3f2ab97a… (all of the seat's roots in one cut). By AI agents, Wed Nov 11 2026. No macro, syntax, notation, axiom, sorry.
-/
import Derived.Test.YtfmgjkmlnaeagaaChecked
import GoSem.Claim
import GoSem.ClaimJoined
import GoSem.ClaimMapViews
import Derived.JoinedTies
import Derived.KernelRfl
namespace Go.Proofs.Ytfmgjkmlnaeagaa
/- THE CELL 'sum', in the pinned program and in every row, IS THE sha256 OF THE DUMP (.gsa) THAT YtfmgjkmlnaeagaaProg.lean LOADS. Nothing in Lean hashes anything: it is a label: what it is worth is what the hold of that sum in a sandbox is worth. -/
noncomputable def Try.pinned : Pinned := { name := "ytfmgjkmlnaeagaa", sum := "8878ff2b3f2ab97a0dacd306dfa6b167dceafb60df5561ac8ac1585dd714a574", checked := Try.checked }
namespace Rows
def none {H : Type} : Left H := { results := [], args := [] }

/-- 'laws.FnExactJobRight': WHATEVER THE INPUT: true; the input reads as it did. -/
def fnExactJobRightSpec : ChangeSpec := { name := "fnExactJobRight", fn := fun _ => fun
  | [d] => { results := [.lit (.bool true)], args := [d] }
  | _ => none }
def fnExactJobRightRow : OpenClaim := { program := "ytfmgjkmlnaeagaa", sum := "8878ff2b3f2ab97a0dacd306dfa6b167dceafb60df5561ac8ac1585dd714a574", func := "loop.example/g00658/laws.FnExactJobRight", spec := "fnExactJobRight", plainKeys := false, apart := false }
def FnExactJobRightSaid : Prop := fnExactJobRightRow.holds Try.pinned (OpenSpec.ofChange fnExactJobRightSpec)

/-- ITS FALSE NEIGHBOUR: 'it returns false'. Refute it at one input. -/
def fnExactJobRightWrong : ChangeSpec := { name := "fnExactJobRight", fn := fun _ => fun
  | [d] => { results := [.lit (.bool false)], args := [d] }
  | _ => none }
def FnExactJobRightWrongFalsely : Prop := fnExactJobRightRow.holds Try.pinned (OpenSpec.ofChange fnExactJobRightWrong)

/-- 'laws.FnExactJobsRight': WHATEVER THE INPUT: true; the input reads as it did. -/
def fnExactJobsRightSpec : ChangeSpec := { name := "fnExactJobsRight", fn := fun _ => fun
  | [d] => { results := [.lit (.bool true)], args := [d] }
  | _ => none }
def fnExactJobsRightRow : OpenClaim := { program := "ytfmgjkmlnaeagaa", sum := "8878ff2b3f2ab97a0dacd306dfa6b167dceafb60df5561ac8ac1585dd714a574", func := "loop.example/g00658/laws.FnExactJobsRight", spec := "fnExactJobsRight", plainKeys := false, apart := false }
def FnExactJobsRightSaid : Prop := fnExactJobsRightRow.holds Try.pinned (OpenSpec.ofChange fnExactJobsRightSpec)

/-- ITS FALSE NEIGHBOUR: 'it returns false'. Refute it at one input. -/
def fnExactJobsRightWrong : ChangeSpec := { name := "fnExactJobsRight", fn := fun _ => fun
  | [d] => { results := [.lit (.bool false)], args := [d] }
  | _ => none }
def FnExactJobsRightWrongFalsely : Prop := fnExactJobsRightRow.holds Try.pinned (OpenSpec.ofChange fnExactJobsRightWrong)

/-- 'laws.FnExactJobOf': WHATEVER THE INPUT: true; the input reads as it did. -/
def fnExactJobOfSpec : ChangeSpec := { name := "fnExactJobOf", fn := fun _ => fun
  | [d1, d2, d3] => { results := [.lit (.bool true)], args := [d1, d2, d3] }
  | _ => none }
def fnExactJobOfRow : OpenClaim := { program := "ytfmgjkmlnaeagaa", sum := "8878ff2b3f2ab97a0dacd306dfa6b167dceafb60df5561ac8ac1585dd714a574", func := "loop.example/g00658/laws.FnExactJobOf", spec := "fnExactJobOf", plainKeys := false, apart := false }
def FnExactJobOfSaid : Prop := fnExactJobOfRow.holds Try.pinned (OpenSpec.ofChange fnExactJobOfSpec)

/-- ITS FALSE NEIGHBOUR: 'it returns false'. Refute it at one input. -/
def fnExactJobOfWrong : ChangeSpec := { name := "fnExactJobOf", fn := fun _ => fun
  | [d1, d2, d3] => { results := [.lit (.bool false)], args := [d1, d2, d3] }
  | _ => none }
def FnExactJobOfWrongFalsely : Prop := fnExactJobOfRow.holds Try.pinned (OpenSpec.ofChange fnExactJobOfWrong)

/-- 'laws.FnExactAhead': WHATEVER THE INPUT: true; the input reads as it did. -/
def fnExactAheadSpec : ChangeSpec := { name := "fnExactAhead", fn := fun _ => fun
  | [d1, d2] => { results := [.lit (.bool true)], args := [d1, d2] }
  | _ => none }
def fnExactAheadRow : OpenClaim := { program := "ytfmgjkmlnaeagaa", sum := "8878ff2b3f2ab97a0dacd306dfa6b167dceafb60df5561ac8ac1585dd714a574", func := "loop.example/g00658/laws.FnExactAhead", spec := "fnExactAhead", plainKeys := false, apart := false }
def FnExactAheadSaid : Prop := fnExactAheadRow.holds Try.pinned (OpenSpec.ofChange fnExactAheadSpec)

/-- ITS FALSE NEIGHBOUR: 'it returns false'. Refute it at one input. -/
def fnExactAheadWrong : ChangeSpec := { name := "fnExactAhead", fn := fun _ => fun
  | [d1, d2] => { results := [.lit (.bool false)], args := [d1, d2] }
  | _ => none }
def FnExactAheadWrongFalsely : Prop := fnExactAheadRow.holds Try.pinned (OpenSpec.ofChange fnExactAheadWrong)

/- THE SECOND FORM. 'bulk': how many values and letters a reading holds, each counted each time it is reached (what is shared counts as often as it is met; a slice's spare places count too). A statement '..UptoSaid' is the law's where the arguments, and the package variables that the reading takes, are together of bulk at most 1048576: NARROWER than '..Said'. Prove '..Said' where nothing that the law and all that it calls make is longer than what came in: it says more and counts as full. Else prove '..UptoSaid'. A law counts once. -/
mutual
def uptoBulk {H : Type} : DataW H → Nat
  | .lit (.string bytes) => bytes.length + 1
  | .lit _ => 1
  | .nil => 1
  | .ptr d => uptoBulk d + 1
  | .slice elems spare => uptoBulkAll elems + uptoBulkAll spare + 1
  | .agg parts => uptoBulkAll parts + 1
  | .iface _ d => uptoBulk d + 1
  | .map entries => uptoBulkEntries entries + 1
  | .held _ => 1
def uptoBulkAll {H : Type} : List (DataW H) → Nat
  | [] => 0
  | d :: r => uptoBulk d + uptoBulkAll r
def uptoBulkEntries {H : Type} : List (Lit × DataW H) → Nat
  | [] => 0
  | x :: r => uptoBulkEntry x + uptoBulkEntries r
def uptoBulkEntry {H : Type} : Lit × DataW H → Nat
  | (.string bytes, d) => bytes.length + uptoBulk d + 1
  | (_, d) => uptoBulk d + 1
 end
def uptoSmall : (H : Type) → List (DataW H) → Bool := fun _ ds => decide (uptoBulkAll ds ≤ 1048576)
def OpenSpec.upto (s : _root_.Go.ChangeSpec) : _root_.Go.OpenSpec := { _root_.Go.OpenSpec.ofChange s with cond := some uptoSmall }

/-- 'laws.FnExactJobRight', WHERE WHAT IT READS IS OF BULK AT MOST 1048576: true; the input reads as it did. -/
def fnExactJobRightUptoRow : OpenClaim := { program := "ytfmgjkmlnaeagaa", sum := "8878ff2b3f2ab97a0dacd306dfa6b167dceafb60df5561ac8ac1585dd714a574", func := "loop.example/g00658/laws.FnExactJobRight", spec := "fnExactJobRight", plainKeys := false, apart := false, narrowed := true }
def FnExactJobRightUptoSaid : Prop := fnExactJobRightUptoRow.holds Try.pinned (OpenSpec.upto fnExactJobRightSpec)

/-- 'laws.FnExactJobsRight', WHERE WHAT IT READS IS OF BULK AT MOST 1048576: true; the input reads as it did. -/
def fnExactJobsRightUptoRow : OpenClaim := { program := "ytfmgjkmlnaeagaa", sum := "8878ff2b3f2ab97a0dacd306dfa6b167dceafb60df5561ac8ac1585dd714a574", func := "loop.example/g00658/laws.FnExactJobsRight", spec := "fnExactJobsRight", plainKeys := false, apart := false, narrowed := true }
def FnExactJobsRightUptoSaid : Prop := fnExactJobsRightUptoRow.holds Try.pinned (OpenSpec.upto fnExactJobsRightSpec)

/-- 'laws.FnExactJobOf', WHERE WHAT IT READS IS OF BULK AT MOST 1048576: true; the input reads as it did. -/
def fnExactJobOfUptoRow : OpenClaim := { program := "ytfmgjkmlnaeagaa", sum := "8878ff2b3f2ab97a0dacd306dfa6b167dceafb60df5561ac8ac1585dd714a574", func := "loop.example/g00658/laws.FnExactJobOf", spec := "fnExactJobOf", plainKeys := false, apart := false, narrowed := true }
def FnExactJobOfUptoSaid : Prop := fnExactJobOfUptoRow.holds Try.pinned (OpenSpec.upto fnExactJobOfSpec)

/-- 'laws.FnExactAhead', WHERE WHAT IT READS IS OF BULK AT MOST 1048576: true; the input reads as it did. -/
def fnExactAheadUptoRow : OpenClaim := { program := "ytfmgjkmlnaeagaa", sum := "8878ff2b3f2ab97a0dacd306dfa6b167dceafb60df5561ac8ac1585dd714a574", func := "loop.example/g00658/laws.FnExactAhead", spec := "fnExactAhead", plainKeys := false, apart := false, narrowed := true }
def FnExactAheadUptoSaid : Prop := fnExactAheadUptoRow.holds Try.pinned (OpenSpec.upto fnExactAheadSpec)

end Rows
end Go.Proofs.Ytfmgjkmlnaeagaa
