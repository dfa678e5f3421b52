/-
  No cell of these rows narrows 'for every input' (looked for: loops, veiled, ifaces, maps, wideKeys, modest, calm, conditions, laid).
  DERIVED. THE GIVEN ROWS OF THIS SEAT. 7 by the template 'for every input the law returns true; each argument reads behind the call as it read before'; 0 by the template 'total and deterministic' (their statements: YtjhcphmehlihcaaTotals.lean).
  GIVEN WITH THE SEED: the statements are not yours to turn. If you find one false, say at which input.
  Laid BY PROGRAM, IN A SANDBOX (cutbox-rows.mjs): the forced cells as the released guide's own fill.sh prints them over the translation 376e74a5cbb12ddb… (all of the seat's roots in one cut). By AI agents, Wed Nov 11 2026. No macro, syntax, notation, axiom, sorry.
-/
import Derived.Test.YtjhcphmehlihcaaChecked
import GoSem.Claim
import GoSem.ClaimJoined
import GoSem.ClaimMapViews
import Derived.JoinedTies
import Derived.KernelRfl
namespace Go.Proofs.Ytjhcphmehlihcaa
/- THE CELL 'sum', in the pinned program and in every row, IS THE sha256 OF THE DUMP (.gsa) THAT YtjhcphmehlihcaaProg.lean LOADS. Nothing in Lean hashes anything: it is a label: what it is worth is what the hold of that sum in a sandbox is worth. -/
noncomputable def Try.pinned : Pinned := { name := "ytjhcphmehlihcaa", sum := "376e74a5cbb12ddb1839f408d0f33e59477fed8c2ad8ae782f1cea18a60702d6", checked := Try.checked }
namespace Rows
def none {H : Type} : Left H := { results := [], args := [] }

/-- 'laws.FnUses': WHATEVER THE INPUT: true; the input reads as it did. -/
def fnUsesSpec : ChangeSpec := { name := "fnUses", fn := fun _ => fun
  | [d1, d2] => { results := [.lit (.bool true)], args := [d1, d2] }
  | _ => none }
def fnUsesRow : OpenClaim := { program := "ytjhcphmehlihcaa", sum := "376e74a5cbb12ddb1839f408d0f33e59477fed8c2ad8ae782f1cea18a60702d6", func := "loop.example/g00658/laws.FnUses", spec := "fnUses", unfollowed := true, recurses := true, plainKeys := false, apart := false }
def FnUsesSaid : Prop := fnUsesRow.holds Try.pinned (OpenSpec.ofChange fnUsesSpec)

/-- ITS FALSE NEIGHBOUR: 'it returns false'. Refute it at one input. -/
def fnUsesWrong : ChangeSpec := { name := "fnUses", fn := fun _ => fun
  | [d1, d2] => { results := [.lit (.bool false)], args := [d1, d2] }
  | _ => none }
def FnUsesWrongFalsely : Prop := fnUsesRow.holds Try.pinned (OpenSpec.ofChange fnUsesWrong)

/-- 'laws.FnRank': WHATEVER THE INPUT: true; the input reads as it did. -/
def fnRankSpec : ChangeSpec := { name := "fnRank", fn := fun _ => fun
  | [d] => { results := [.lit (.bool true)], args := [d] }
  | _ => none }
def fnRankRow : OpenClaim := { program := "ytjhcphmehlihcaa", sum := "376e74a5cbb12ddb1839f408d0f33e59477fed8c2ad8ae782f1cea18a60702d6", func := "loop.example/g00658/laws.FnRank", spec := "fnRank", plainKeys := false, apart := false }
def FnRankSaid : Prop := fnRankRow.holds Try.pinned (OpenSpec.ofChange fnRankSpec)

/-- ITS FALSE NEIGHBOUR: 'it returns false'. Refute it at one input. -/
def fnRankWrong : ChangeSpec := { name := "fnRank", fn := fun _ => fun
  | [d] => { results := [.lit (.bool false)], args := [d] }
  | _ => none }
def FnRankWrongFalsely : Prop := fnRankRow.holds Try.pinned (OpenSpec.ofChange fnRankWrong)

/-- 'laws.FnExactUsesRight': WHATEVER THE INPUT: true; the input reads as it did. -/
def fnExactUsesRightSpec : ChangeSpec := { name := "fnExactUsesRight", fn := fun _ => fun
  | [d] => { results := [.lit (.bool true)], args := [d] }
  | _ => none }
def fnExactUsesRightRow : OpenClaim := { program := "ytjhcphmehlihcaa", sum := "376e74a5cbb12ddb1839f408d0f33e59477fed8c2ad8ae782f1cea18a60702d6", func := "loop.example/g00658/laws.FnExactUsesRight", spec := "fnExactUsesRight", plainKeys := false, apart := false }
def FnExactUsesRightSaid : Prop := fnExactUsesRightRow.holds Try.pinned (OpenSpec.ofChange fnExactUsesRightSpec)

/-- ITS FALSE NEIGHBOUR: 'it returns false'. Refute it at one input. -/
def fnExactUsesRightWrong : ChangeSpec := { name := "fnExactUsesRight", fn := fun _ => fun
  | [d] => { results := [.lit (.bool false)], args := [d] }
  | _ => none }
def FnExactUsesRightWrongFalsely : Prop := fnExactUsesRightRow.holds Try.pinned (OpenSpec.ofChange fnExactUsesRightWrong)

/-- 'laws.FnExactUseOf': WHATEVER THE INPUT: true; the input reads as it did. -/
def fnExactUseOfSpec : ChangeSpec := { name := "fnExactUseOf", fn := fun _ => fun
  | [d1, d2, d3] => { results := [.lit (.bool true)], args := [d1, d2, d3] }
  | _ => none }
def fnExactUseOfRow : OpenClaim := { program := "ytjhcphmehlihcaa", sum := "376e74a5cbb12ddb1839f408d0f33e59477fed8c2ad8ae782f1cea18a60702d6", func := "loop.example/g00658/laws.FnExactUseOf", spec := "fnExactUseOf", plainKeys := false, apart := false }
def FnExactUseOfSaid : Prop := fnExactUseOfRow.holds Try.pinned (OpenSpec.ofChange fnExactUseOfSpec)

/-- ITS FALSE NEIGHBOUR: 'it returns false'. Refute it at one input. -/
def fnExactUseOfWrong : ChangeSpec := { name := "fnExactUseOf", fn := fun _ => fun
  | [d1, d2, d3] => { results := [.lit (.bool false)], args := [d1, d2, d3] }
  | _ => none }
def FnExactUseOfWrongFalsely : Prop := fnExactUseOfRow.holds Try.pinned (OpenSpec.ofChange fnExactUseOfWrong)

/-- 'laws.FnExactUseAdd': WHATEVER THE INPUT: true; the input reads as it did. -/
def fnExactUseAddSpec : ChangeSpec := { name := "fnExactUseAdd", fn := fun _ => fun
  | [d1, d2, d3, d4] => { results := [.lit (.bool true)], args := [d1, d2, d3, d4] }
  | _ => none }
def fnExactUseAddRow : OpenClaim := { program := "ytjhcphmehlihcaa", sum := "376e74a5cbb12ddb1839f408d0f33e59477fed8c2ad8ae782f1cea18a60702d6", func := "loop.example/g00658/laws.FnExactUseAdd", spec := "fnExactUseAdd", unfollowed := true, recurses := true, plainKeys := false, apart := false }
def FnExactUseAddSaid : Prop := fnExactUseAddRow.holds Try.pinned (OpenSpec.ofChange fnExactUseAddSpec)

/-- ITS FALSE NEIGHBOUR: 'it returns false'. Refute it at one input. -/
def fnExactUseAddWrong : ChangeSpec := { name := "fnExactUseAdd", fn := fun _ => fun
  | [d1, d2, d3, d4] => { results := [.lit (.bool false)], args := [d1, d2, d3, d4] }
  | _ => none }
def FnExactUseAddWrongFalsely : Prop := fnExactUseAddRow.holds Try.pinned (OpenSpec.ofChange fnExactUseAddWrong)

/-- 'laws.FnExactUsesHalf': WHATEVER THE INPUT: true; the input reads as it did. -/
def fnExactUsesHalfSpec : ChangeSpec := { name := "fnExactUsesHalf", fn := fun _ => fun
  | [d] => { results := [.lit (.bool true)], args := [d] }
  | _ => none }
def fnExactUsesHalfRow : OpenClaim := { program := "ytjhcphmehlihcaa", sum := "376e74a5cbb12ddb1839f408d0f33e59477fed8c2ad8ae782f1cea18a60702d6", func := "loop.example/g00658/laws.FnExactUsesHalf", spec := "fnExactUsesHalf", unfollowed := true, recurses := true, plainKeys := false, apart := false }
def FnExactUsesHalfSaid : Prop := fnExactUsesHalfRow.holds Try.pinned (OpenSpec.ofChange fnExactUsesHalfSpec)

/-- ITS FALSE NEIGHBOUR: 'it returns false'. Refute it at one input. -/
def fnExactUsesHalfWrong : ChangeSpec := { name := "fnExactUsesHalf", fn := fun _ => fun
  | [d] => { results := [.lit (.bool false)], args := [d] }
  | _ => none }
def FnExactUsesHalfWrongFalsely : Prop := fnExactUsesHalfRow.holds Try.pinned (OpenSpec.ofChange fnExactUsesHalfWrong)

/-- 'laws.FnExactRank': WHATEVER THE INPUT: true; the input reads as it did. -/
def fnExactRankSpec : ChangeSpec := { name := "fnExactRank", fn := fun _ => fun
  | [d1, d2, d3] => { results := [.lit (.bool true)], args := [d1, d2, d3] }
  | _ => none }
def fnExactRankRow : OpenClaim := { program := "ytjhcphmehlihcaa", sum := "376e74a5cbb12ddb1839f408d0f33e59477fed8c2ad8ae782f1cea18a60702d6", func := "loop.example/g00658/laws.FnExactRank", spec := "fnExactRank", plainKeys := false, apart := false }
def FnExactRankSaid : Prop := fnExactRankRow.holds Try.pinned (OpenSpec.ofChange fnExactRankSpec)

/-- ITS FALSE NEIGHBOUR: 'it returns false'. Refute it at one input. -/
def fnExactRankWrong : ChangeSpec := { name := "fnExactRank", fn := fun _ => fun
  | [d1, d2, d3] => { results := [.lit (.bool false)], args := [d1, d2, d3] }
  | _ => none }
def FnExactRankWrongFalsely : Prop := fnExactRankRow.holds Try.pinned (OpenSpec.ofChange fnExactRankWrong)

/- THE SECOND FORM. 'bulk': how many values and letters a reading holds, each counted each time it is reached (what is shared counts as often as it is met; a slice's spare places count too). A statement '..UptoSaid' is the law's where the arguments, and the package variables that the reading takes, are together of bulk at most 1048576: NARROWER than '..Said'. Prove '..Said' where nothing that the law and all that it calls make is longer than what came in: it says more and counts as full. Else prove '..UptoSaid'. A law counts once. -/
mutual
def uptoBulk {H : Type} : DataW H → Nat
  | .lit (.string bytes) => bytes.length + 1
  | .lit _ => 1
  | .nil => 1
  | .ptr d => uptoBulk d + 1
  | .slice elems spare => uptoBulkAll elems + uptoBulkAll spare + 1
  | .agg parts => uptoBulkAll parts + 1
  | .iface _ d => uptoBulk d + 1
  | .map entries => uptoBulkEntries entries + 1
  | .held _ => 1
def uptoBulkAll {H : Type} : List (DataW H) → Nat
  | [] => 0
  | d :: r => uptoBulk d + uptoBulkAll r
def uptoBulkEntries {H : Type} : List (Lit × DataW H) → Nat
  | [] => 0
  | x :: r => uptoBulkEntry x + uptoBulkEntries r
def uptoBulkEntry {H : Type} : Lit × DataW H → Nat
  | (.string bytes, d) => bytes.length + uptoBulk d + 1
  | (_, d) => uptoBulk d + 1
 end
def uptoSmall : (H : Type) → List (DataW H) → Bool := fun _ ds => decide (uptoBulkAll ds ≤ 1048576)
def OpenSpec.upto (s : _root_.Go.ChangeSpec) : _root_.Go.OpenSpec := { _root_.Go.OpenSpec.ofChange s with cond := some uptoSmall }

/-- 'laws.FnUses', WHERE WHAT IT READS IS OF BULK AT MOST 1048576: true; the input reads as it did. -/
def fnUsesUptoRow : OpenClaim := { program := "ytjhcphmehlihcaa", sum := "376e74a5cbb12ddb1839f408d0f33e59477fed8c2ad8ae782f1cea18a60702d6", func := "loop.example/g00658/laws.FnUses", spec := "fnUses", unfollowed := true, recurses := true, plainKeys := false, apart := false, narrowed := true }
def FnUsesUptoSaid : Prop := fnUsesUptoRow.holds Try.pinned (OpenSpec.upto fnUsesSpec)

/-- 'laws.FnRank', WHERE WHAT IT READS IS OF BULK AT MOST 1048576: true; the input reads as it did. -/
def fnRankUptoRow : OpenClaim := { program := "ytjhcphmehlihcaa", sum := "376e74a5cbb12ddb1839f408d0f33e59477fed8c2ad8ae782f1cea18a60702d6", func := "loop.example/g00658/laws.FnRank", spec := "fnRank", plainKeys := false, apart := false, narrowed := true }
def FnRankUptoSaid : Prop := fnRankUptoRow.holds Try.pinned (OpenSpec.upto fnRankSpec)

/-- 'laws.FnExactUsesRight', WHERE WHAT IT READS IS OF BULK AT MOST 1048576: true; the input reads as it did. -/
def fnExactUsesRightUptoRow : OpenClaim := { program := "ytjhcphmehlihcaa", sum := "376e74a5cbb12ddb1839f408d0f33e59477fed8c2ad8ae782f1cea18a60702d6", func := "loop.example/g00658/laws.FnExactUsesRight", spec := "fnExactUsesRight", plainKeys := false, apart := false, narrowed := true }
def FnExactUsesRightUptoSaid : Prop := fnExactUsesRightUptoRow.holds Try.pinned (OpenSpec.upto fnExactUsesRightSpec)

/-- 'laws.FnExactUseOf', WHERE WHAT IT READS IS OF BULK AT MOST 1048576: true; the input reads as it did. -/
def fnExactUseOfUptoRow : OpenClaim := { program := "ytjhcphmehlihcaa", sum := "376e74a5cbb12ddb1839f408d0f33e59477fed8c2ad8ae782f1cea18a60702d6", func := "loop.example/g00658/laws.FnExactUseOf", spec := "fnExactUseOf", plainKeys := false, apart := false, narrowed := true }
def FnExactUseOfUptoSaid : Prop := fnExactUseOfUptoRow.holds Try.pinned (OpenSpec.upto fnExactUseOfSpec)

/-- 'laws.FnExactUseAdd', WHERE WHAT IT READS IS OF BULK AT MOST 1048576: true; the input reads as it did. -/
def fnExactUseAddUptoRow : OpenClaim := { program := "ytjhcphmehlihcaa", sum := "376e74a5cbb12ddb1839f408d0f33e59477fed8c2ad8ae782f1cea18a60702d6", func := "loop.example/g00658/laws.FnExactUseAdd", spec := "fnExactUseAdd", unfollowed := true, recurses := true, plainKeys := false, apart := false, narrowed := true }
def FnExactUseAddUptoSaid : Prop := fnExactUseAddUptoRow.holds Try.pinned (OpenSpec.upto fnExactUseAddSpec)

/-- 'laws.FnExactUsesHalf', WHERE WHAT IT READS IS OF BULK AT MOST 1048576: true; the input reads as it did. -/
def fnExactUsesHalfUptoRow : OpenClaim := { program := "ytjhcphmehlihcaa", sum := "376e74a5cbb12ddb1839f408d0f33e59477fed8c2ad8ae782f1cea18a60702d6", func := "loop.example/g00658/laws.FnExactUsesHalf", spec := "fnExactUsesHalf", unfollowed := true, recurses := true, plainKeys := false, apart := false, narrowed := true }
def FnExactUsesHalfUptoSaid : Prop := fnExactUsesHalfUptoRow.holds Try.pinned (OpenSpec.upto fnExactUsesHalfSpec)

/-- 'laws.FnExactRank', WHERE WHAT IT READS IS OF BULK AT MOST 1048576: true; the input reads as it did. -/
def fnExactRankUptoRow : OpenClaim := { program := "ytjhcphmehlihcaa", sum := "376e74a5cbb12ddb1839f408d0f33e59477fed8c2ad8ae782f1cea18a60702d6", func := "loop.example/g00658/laws.FnExactRank", spec := "fnExactRank", plainKeys := false, apart := false, narrowed := true }
def FnExactRankUptoSaid : Prop := fnExactRankUptoRow.holds Try.pinned (OpenSpec.upto fnExactRankSpec)

end Rows
end Go.Proofs.Ytjhcphmehlihcaa
