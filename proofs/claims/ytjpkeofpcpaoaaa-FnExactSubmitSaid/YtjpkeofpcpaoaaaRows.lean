/-
  No cell of these rows narrows 'for every input' (looked for: loops, veiled, ifaces, maps, wideKeys, modest, calm, conditions, laid).
  DERIVED. THE GIVEN ROWS OF THIS SEAT. 5 by the template 'for every input the law returns true; each argument reads behind the call as it read before'; 0 by the template 'total and deterministic' (their statements: YtjpkeofpcpaoaaaTotals.lean).
  GIVEN WITH THE SEED: the statements are not yours to turn. If you find one false, say at which input.
  Laid BY PROGRAM, IN A SANDBOX (cutbox-rows.mjs): the forced cells as the released guide's own fill.sh prints them over the translation 4d663b741e2fa320… (all of the seat's roots in one cut). By AI agents, Wed Nov 11 2026. No macro, syntax, notation, axiom, sorry.
-/
import Derived.Test.YtjpkeofpcpaoaaaChecked
import GoSem.Claim
import GoSem.ClaimJoined
import GoSem.ClaimMapViews
import Derived.JoinedTies
import Derived.KernelRfl
namespace Go.Proofs.Ytjpkeofpcpaoaaa
/- THE CELL 'sum', in the pinned program and in every row, IS THE sha256 OF THE DUMP (.gsa) THAT YtjpkeofpcpaoaaaProg.lean LOADS. Nothing in Lean hashes anything: it is a label: what it is worth is what the hold of that sum in a sandbox is worth. -/
noncomputable def Try.pinned : Pinned := { name := "ytjpkeofpcpaoaaa", sum := "4d663b741e2fa3204a481becdb8f39b472250ba001b70c4653bd65f6a8b19339", checked := Try.checked }
namespace Rows
def none {H : Type} : Left H := { results := [], args := [] }

/-- 'laws.FnSpan': WHATEVER THE INPUT: true; the input reads as it did. -/
def fnSpanSpec : ChangeSpec := { name := "fnSpan", fn := fun _ => fun
  | [d1, d2] => { results := [.lit (.bool true)], args := [d1, d2] }
  | _ => none }
def fnSpanRow : OpenClaim := { program := "ytjpkeofpcpaoaaa", sum := "4d663b741e2fa3204a481becdb8f39b472250ba001b70c4653bd65f6a8b19339", func := "loop.example/g00658/laws.FnSpan", spec := "fnSpan", unfollowed := true, recurses := true, plainKeys := false, apart := false }
def FnSpanSaid : Prop := fnSpanRow.holds Try.pinned (OpenSpec.ofChange fnSpanSpec)

/-- ITS FALSE NEIGHBOUR: 'it returns false'. Refute it at one input. -/
def fnSpanWrong : ChangeSpec := { name := "fnSpan", fn := fun _ => fun
  | [d1, d2] => { results := [.lit (.bool false)], args := [d1, d2] }
  | _ => none }
def FnSpanWrongFalsely : Prop := fnSpanRow.holds Try.pinned (OpenSpec.ofChange fnSpanWrong)

/-- 'laws.FnJob': WHATEVER THE INPUT: true; the input reads as it did. -/
def fnJobSpec : ChangeSpec := { name := "fnJob", fn := fun _ => fun
  | [d1, d2] => { results := [.lit (.bool true)], args := [d1, d2] }
  | _ => none }
def fnJobRow : OpenClaim := { program := "ytjpkeofpcpaoaaa", sum := "4d663b741e2fa3204a481becdb8f39b472250ba001b70c4653bd65f6a8b19339", func := "loop.example/g00658/laws.FnJob", spec := "fnJob", plainKeys := false, apart := false }
def FnJobSaid : Prop := fnJobRow.holds Try.pinned (OpenSpec.ofChange fnJobSpec)

/-- ITS FALSE NEIGHBOUR: 'it returns false'. Refute it at one input. -/
def fnJobWrong : ChangeSpec := { name := "fnJob", fn := fun _ => fun
  | [d1, d2] => { results := [.lit (.bool false)], args := [d1, d2] }
  | _ => none }
def FnJobWrongFalsely : Prop := fnJobRow.holds Try.pinned (OpenSpec.ofChange fnJobWrong)

/-- 'laws.FnExactPoolRight': WHATEVER THE INPUT: true; the input reads as it did. -/
def fnExactPoolRightSpec : ChangeSpec := { name := "fnExactPoolRight", fn := fun _ => fun
  | [d] => { results := [.lit (.bool true)], args := [d] }
  | _ => none }
def fnExactPoolRightRow : OpenClaim := { program := "ytjpkeofpcpaoaaa", sum := "4d663b741e2fa3204a481becdb8f39b472250ba001b70c4653bd65f6a8b19339", func := "loop.example/g00658/laws.FnExactPoolRight", spec := "fnExactPoolRight", unfollowed := true, recurses := true, plainKeys := false, apart := false }
def FnExactPoolRightSaid : Prop := fnExactPoolRightRow.holds Try.pinned (OpenSpec.ofChange fnExactPoolRightSpec)

/-- ITS FALSE NEIGHBOUR: 'it returns false'. Refute it at one input. -/
def fnExactPoolRightWrong : ChangeSpec := { name := "fnExactPoolRight", fn := fun _ => fun
  | [d] => { results := [.lit (.bool false)], args := [d] }
  | _ => none }
def FnExactPoolRightWrongFalsely : Prop := fnExactPoolRightRow.holds Try.pinned (OpenSpec.ofChange fnExactPoolRightWrong)

/-- 'laws.FnExactPoolNew': WHATEVER THE INPUT: true; the input reads as it did. -/
def fnExactPoolNewSpec : ChangeSpec := { name := "fnExactPoolNew", fn := fun _ => fun
  | [d] => { results := [.lit (.bool true)], args := [d] }
  | _ => none }
def fnExactPoolNewRow : OpenClaim := { program := "ytjpkeofpcpaoaaa", sum := "4d663b741e2fa3204a481becdb8f39b472250ba001b70c4653bd65f6a8b19339", func := "loop.example/g00658/laws.FnExactPoolNew", spec := "fnExactPoolNew", unfollowed := true, recurses := true, plainKeys := false, apart := false }
def FnExactPoolNewSaid : Prop := fnExactPoolNewRow.holds Try.pinned (OpenSpec.ofChange fnExactPoolNewSpec)

/-- ITS FALSE NEIGHBOUR: 'it returns false'. Refute it at one input. -/
def fnExactPoolNewWrong : ChangeSpec := { name := "fnExactPoolNew", fn := fun _ => fun
  | [d] => { results := [.lit (.bool false)], args := [d] }
  | _ => none }
def FnExactPoolNewWrongFalsely : Prop := fnExactPoolNewRow.holds Try.pinned (OpenSpec.ofChange fnExactPoolNewWrong)

/-- 'laws.FnExactSubmit': WHATEVER THE INPUT: true; the input reads as it did. -/
def fnExactSubmitSpec : ChangeSpec := { name := "fnExactSubmit", fn := fun _ => fun
  | [d1, d2, d3, d4, d5] => { results := [.lit (.bool true)], args := [d1, d2, d3, d4, d5] }
  | _ => none }
def fnExactSubmitRow : OpenClaim := { program := "ytjpkeofpcpaoaaa", sum := "4d663b741e2fa3204a481becdb8f39b472250ba001b70c4653bd65f6a8b19339", func := "loop.example/g00658/laws.FnExactSubmit", spec := "fnExactSubmit", unfollowed := true, recurses := true, plainKeys := false, apart := false }
def FnExactSubmitSaid : Prop := fnExactSubmitRow.holds Try.pinned (OpenSpec.ofChange fnExactSubmitSpec)

/-- ITS FALSE NEIGHBOUR: 'it returns false'. Refute it at one input. -/
def fnExactSubmitWrong : ChangeSpec := { name := "fnExactSubmit", fn := fun _ => fun
  | [d1, d2, d3, d4, d5] => { results := [.lit (.bool false)], args := [d1, d2, d3, d4, d5] }
  | _ => none }
def FnExactSubmitWrongFalsely : Prop := fnExactSubmitRow.holds Try.pinned (OpenSpec.ofChange fnExactSubmitWrong)

/- THE SECOND FORM. 'bulk': how many values and letters a reading holds, each counted each time it is reached (what is shared counts as often as it is met; a slice's spare places count too). A statement '..UptoSaid' is the law's where the arguments, and the package variables that the reading takes, are together of bulk at most 1048576: NARROWER than '..Said'. Prove '..Said' where nothing that the law and all that it calls make is longer than what came in: it says more and counts as full. Else prove '..UptoSaid'. A law counts once. -/
mutual
def uptoBulk {H : Type} : DataW H → Nat
  | .lit (.string bytes) => bytes.length + 1
  | .lit _ => 1
  | .nil => 1
  | .ptr d => uptoBulk d + 1
  | .slice elems spare => uptoBulkAll elems + uptoBulkAll spare + 1
  | .agg parts => uptoBulkAll parts + 1
  | .iface _ d => uptoBulk d + 1
  | .map entries => uptoBulkEntries entries + 1
  | .held _ => 1
def uptoBulkAll {H : Type} : List (DataW H) → Nat
  | [] => 0
  | d :: r => uptoBulk d + uptoBulkAll r
def uptoBulkEntries {H : Type} : List (Lit × DataW H) → Nat
  | [] => 0
  | x :: r => uptoBulkEntry x + uptoBulkEntries r
def uptoBulkEntry {H : Type} : Lit × DataW H → Nat
  | (.string bytes, d) => bytes.length + uptoBulk d + 1
  | (_, d) => uptoBulk d + 1
 end
def uptoSmall : (H : Type) → List (DataW H) → Bool := fun _ ds => decide (uptoBulkAll ds ≤ 1048576)
def OpenSpec.upto (s : _root_.Go.ChangeSpec) : _root_.Go.OpenSpec := { _root_.Go.OpenSpec.ofChange s with cond := some uptoSmall }

/-- 'laws.FnSpan', WHERE WHAT IT READS IS OF BULK AT MOST 1048576: true; the input reads as it did. -/
def fnSpanUptoRow : OpenClaim := { program := "ytjpkeofpcpaoaaa", sum := "4d663b741e2fa3204a481becdb8f39b472250ba001b70c4653bd65f6a8b19339", func := "loop.example/g00658/laws.FnSpan", spec := "fnSpan", unfollowed := true, recurses := true, plainKeys := false, apart := false, narrowed := true }
def FnSpanUptoSaid : Prop := fnSpanUptoRow.holds Try.pinned (OpenSpec.upto fnSpanSpec)

/-- 'laws.FnJob', WHERE WHAT IT READS IS OF BULK AT MOST 1048576: true; the input reads as it did. -/
def fnJobUptoRow : OpenClaim := { program := "ytjpkeofpcpaoaaa", sum := "4d663b741e2fa3204a481becdb8f39b472250ba001b70c4653bd65f6a8b19339", func := "loop.example/g00658/laws.FnJob", spec := "fnJob", plainKeys := false, apart := false, narrowed := true }
def FnJobUptoSaid : Prop := fnJobUptoRow.holds Try.pinned (OpenSpec.upto fnJobSpec)

/-- 'laws.FnExactPoolRight', WHERE WHAT IT READS IS OF BULK AT MOST 1048576: true; the input reads as it did. -/
def fnExactPoolRightUptoRow : OpenClaim := { program := "ytjpkeofpcpaoaaa", sum := "4d663b741e2fa3204a481becdb8f39b472250ba001b70c4653bd65f6a8b19339", func := "loop.example/g00658/laws.FnExactPoolRight", spec := "fnExactPoolRight", unfollowed := true, recurses := true, plainKeys := false, apart := false, narrowed := true }
def FnExactPoolRightUptoSaid : Prop := fnExactPoolRightUptoRow.holds Try.pinned (OpenSpec.upto fnExactPoolRightSpec)

/-- 'laws.FnExactPoolNew', WHERE WHAT IT READS IS OF BULK AT MOST 1048576: true; the input reads as it did. -/
def fnExactPoolNewUptoRow : OpenClaim := { program := "ytjpkeofpcpaoaaa", sum := "4d663b741e2fa3204a481becdb8f39b472250ba001b70c4653bd65f6a8b19339", func := "loop.example/g00658/laws.FnExactPoolNew", spec := "fnExactPoolNew", unfollowed := true, recurses := true, plainKeys := false, apart := false, narrowed := true }
def FnExactPoolNewUptoSaid : Prop := fnExactPoolNewUptoRow.holds Try.pinned (OpenSpec.upto fnExactPoolNewSpec)

/-- 'laws.FnExactSubmit', WHERE WHAT IT READS IS OF BULK AT MOST 1048576: true; the input reads as it did. -/
def fnExactSubmitUptoRow : OpenClaim := { program := "ytjpkeofpcpaoaaa", sum := "4d663b741e2fa3204a481becdb8f39b472250ba001b70c4653bd65f6a8b19339", func := "loop.example/g00658/laws.FnExactSubmit", spec := "fnExactSubmit", unfollowed := true, recurses := true, plainKeys := false, apart := false, narrowed := true }
def FnExactSubmitUptoSaid : Prop := fnExactSubmitUptoRow.holds Try.pinned (OpenSpec.upto fnExactSubmitSpec)

end Rows
end Go.Proofs.Ytjpkeofpcpaoaaa
