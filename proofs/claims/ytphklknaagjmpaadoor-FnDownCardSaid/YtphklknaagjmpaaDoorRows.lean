/-
  NARROWER THAN 'FOR EVERY INPUT', by the rows' own cells (each row's printed sentence says how): FnDown: ifaces, laid.
  DERIVED. THE GIVEN ROWS OF THIS SEAT. 1 by the template 'for every input the law returns true; each argument reads behind the call as it read before'; 0 by the template 'total and deterministic' (their statements: YtphklknaagjmpaaDoorTotals.lean).
  GIVEN WITH THE SEED: the statements are not yours to turn. If you find one false, say at which input.
  Laid BY PROGRAM, IN A SANDBOX (cutbox-rows.mjs): the forced cells as the released guide's own fill.sh prints them over the translation 6ec8a1bdcbdddf7c… (all of the seat's roots in one cut). By AI agents, Wed Nov 11 2026. No macro, syntax, notation, axiom, sorry.
-/
import Derived.Test.YtphklknaagjmpaaDoorChecked
import GoSem.Claim
import GoSem.ClaimJoined
import GoSem.ClaimMapViews
import Derived.JoinedTies
import Derived.KernelRfl
namespace Go.Proofs.YtphklknaagjmpaaDoor
/- THE CELL 'sum', in the pinned program and in every row, IS THE sha256 OF THE DUMP (.gsa) THAT YtphklknaagjmpaaDoorProg.lean LOADS. Nothing in Lean hashes anything: it is a label: what it is worth is what the hold of that sum in a sandbox is worth. -/
noncomputable def Tryd.pinned : Pinned := { name := "ytphklknaagjmpaadoor", sum := "6ec8a1bdcbdddf7c8fc03a0146c5e2d63b5d3e32fca41d35b2bcc10b447b3e45", checked := Tryd.checked }
namespace Rows
def none {H : Type} : Left H := { results := [], args := [] }

/- WHAT THE LISTED PACKAGE-LEVEL VARIABLES READ AS WHEN THE CALL BEGINS. Each datum BY PROGRAM (the guide's laid-datum.mjs) off the statement by which the dump's own 'gosem.cut.vars' lays the variable. In a bare row this is a premise. The card (YtphklknaagjmpaaDoorCards.lean) ties it to the program's text. -/
def laid_loop_example_g00658_impl_errForm {H : Type} : DataW H := .iface "*errors.errorString" (.ptr (.agg [.lit (.string [97, 110, 32, 105, 110, 118, 97, 108, 105, 100, 32, 97, 114, 103, 117, 109, 101, 110, 116])]))
def laid_loop_example_g00658_impl_errLabel {H : Type} : DataW H := .iface "*errors.errorString" (.ptr (.agg [.lit (.string [97, 32, 108, 97, 98, 101, 108, 32, 116, 104, 97, 116, 32, 105, 115, 32, 110, 111, 116, 32, 112, 101, 114, 109, 105, 116, 116, 101, 100])]))
def laid_loop_example_g00658_impl_errRange {H : Type} : DataW H := .iface "*errors.errorString" (.ptr (.agg [.lit (.string [98, 101, 121, 111, 110, 100, 32, 116, 104, 101, 32, 112, 101, 114, 109, 105, 116, 116, 101, 100, 32, 114, 97, 110, 103, 101])]))
def laid_loop_example_g00658_impl_errFull {H : Type} : DataW H := .iface "*errors.errorString" (.ptr (.agg [.lit (.string [110, 111, 32, 114, 111, 111, 109, 32, 102, 111, 114, 32, 109, 111, 114, 101])]))

/-- 'laws.FnDown': WHATEVER THE INPUT: true; the input reads as it did. -/
def fnDownSpec : ChangeSpec := { name := "fnDown", vars := ["loop.example/g00658/impl.errForm", "loop.example/g00658/impl.errLabel", "loop.example/g00658/impl.errRange", "loop.example/g00658/impl.errFull"], fn := fun _ => fun
  | [d1, d2, g1, g2, g3, g4] => { results := [.lit (.bool true)], args := [d1, d2], vars := [g1, g2, g3, g4] }
  | _ => none }
def fnDownRow : OpenClaim := { program := "ytphklknaagjmpaadoor", sum := "6ec8a1bdcbdddf7c8fc03a0146c5e2d63b5d3e32fca41d35b2bcc10b447b3e45", func := "loop.example/g00658/laws.FnDown", spec := "fnDown", inPlace := ["internal/reflectlite.TypeOf"], unfollowed := true, recurses := true, named := ["loop.example/g00658/impl.errForm", "loop.example/g00658/impl.errLabel", "loop.example/g00658/impl.errRange", "loop.example/g00658/impl.errFull"], ifaces := true, apart := false, laid := [("loop.example/g00658/impl.errForm", laid_loop_example_g00658_impl_errForm), ("loop.example/g00658/impl.errLabel", laid_loop_example_g00658_impl_errLabel), ("loop.example/g00658/impl.errRange", laid_loop_example_g00658_impl_errRange), ("loop.example/g00658/impl.errFull", laid_loop_example_g00658_impl_errFull)] }
def FnDownSaid : Prop := fnDownRow.holds Tryd.pinned (OpenSpec.ofChange fnDownSpec)

/-- ITS FALSE NEIGHBOUR: 'it returns false'. Refute it at one input. -/
def fnDownWrong : ChangeSpec := { name := "fnDown", vars := ["loop.example/g00658/impl.errForm", "loop.example/g00658/impl.errLabel", "loop.example/g00658/impl.errRange", "loop.example/g00658/impl.errFull"], fn := fun _ => fun
  | [d1, d2, g1, g2, g3, g4] => { results := [.lit (.bool false)], args := [d1, d2], vars := [g1, g2, g3, g4] }
  | _ => none }
def FnDownWrongFalsely : Prop := fnDownRow.holds Tryd.pinned (OpenSpec.ofChange fnDownWrong)

/- THE SECOND FORM. 'bulk': how many values and letters a reading holds, each counted each time it is reached (what is shared counts as often as it is met; a slice's spare places count too). A statement '..UptoSaid' is the law's where the arguments, and the package variables that the reading takes, are together of bulk at most 1048576: NARROWER than '..Said'. Prove '..Said' where nothing that the law and all that it calls make is longer than what came in: it says more and counts as full. Else prove '..UptoSaid'. A law counts once. -/
mutual
def uptoBulk {H : Type} : DataW H → Nat
  | .lit (.string bytes) => bytes.length + 1
  | .lit _ => 1
  | .nil => 1
  | .ptr d => uptoBulk d + 1
  | .slice elems spare => uptoBulkAll elems + uptoBulkAll spare + 1
  | .agg parts => uptoBulkAll parts + 1
  | .iface _ d => uptoBulk d + 1
  | .map entries => uptoBulkEntries entries + 1
  | .held _ => 1
def uptoBulkAll {H : Type} : List (DataW H) → Nat
  | [] => 0
  | d :: r => uptoBulk d + uptoBulkAll r
def uptoBulkEntries {H : Type} : List (Lit × DataW H) → Nat
  | [] => 0
  | x :: r => uptoBulkEntry x + uptoBulkEntries r
def uptoBulkEntry {H : Type} : Lit × DataW H → Nat
  | (.string bytes, d) => bytes.length + uptoBulk d + 1
  | (_, d) => uptoBulk d + 1
 end
def uptoSmall : (H : Type) → List (DataW H) → Bool := fun _ ds => decide (uptoBulkAll ds ≤ 1048576)
def OpenSpec.upto (s : _root_.Go.ChangeSpec) : _root_.Go.OpenSpec := { _root_.Go.OpenSpec.ofChange s with cond := some uptoSmall }

/-- 'laws.FnDown', WHERE WHAT IT READS IS OF BULK AT MOST 1048576: true; the input reads as it did. -/
def fnDownUptoRow : OpenClaim := { program := "ytphklknaagjmpaadoor", sum := "6ec8a1bdcbdddf7c8fc03a0146c5e2d63b5d3e32fca41d35b2bcc10b447b3e45", func := "loop.example/g00658/laws.FnDown", spec := "fnDown", inPlace := ["internal/reflectlite.TypeOf"], unfollowed := true, recurses := true, named := ["loop.example/g00658/impl.errForm", "loop.example/g00658/impl.errLabel", "loop.example/g00658/impl.errRange", "loop.example/g00658/impl.errFull"], ifaces := true, apart := false, laid := [("loop.example/g00658/impl.errForm", laid_loop_example_g00658_impl_errForm), ("loop.example/g00658/impl.errLabel", laid_loop_example_g00658_impl_errLabel), ("loop.example/g00658/impl.errRange", laid_loop_example_g00658_impl_errRange), ("loop.example/g00658/impl.errFull", laid_loop_example_g00658_impl_errFull)], narrowed := true }
def FnDownUptoSaid : Prop := fnDownUptoRow.holds Tryd.pinned (OpenSpec.upto fnDownSpec)

end Rows
end Go.Proofs.YtphklknaagjmpaaDoor
