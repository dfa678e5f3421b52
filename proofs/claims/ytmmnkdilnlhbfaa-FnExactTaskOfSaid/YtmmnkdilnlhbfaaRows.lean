/-
  No cell of these rows narrows 'for every input' (looked for: loops, veiled, ifaces, maps, wideKeys, modest, calm, conditions, laid).
  DERIVED. THE GIVEN ROWS OF THIS SEAT. 6 by the template 'for every input the law returns true; each argument reads behind the call as it read before'; 0 by the template 'total and deterministic' (their statements: YtmmnkdilnlhbfaaTotals.lean).
  GIVEN WITH THE SEED: the statements are not yours to turn. If you find one false, say at which input.
  Laid BY PROGRAM, IN A SANDBOX (cutbox-rows.mjs): the forced cells as the released guide's own fill.sh prints them over the translation a53b790368712299… (all of the seat's roots in one cut). By AI agents, Wed Nov 11 2026. No macro, syntax, notation, axiom, sorry.
-/
import Derived.Test.YtmmnkdilnlhbfaaChecked
import GoSem.Claim
import GoSem.ClaimJoined
import GoSem.ClaimMapViews
import Derived.JoinedTies
import Derived.KernelRfl
namespace Go.Proofs.Ytmmnkdilnlhbfaa
/- THE CELL 'sum', in the pinned program and in every row, IS THE sha256 OF THE DUMP (.gsa) THAT YtmmnkdilnlhbfaaProg.lean LOADS. Nothing in Lean hashes anything: it is a label: what it is worth is what the hold of that sum in a sandbox is worth. -/
noncomputable def Try.pinned : Pinned := { name := "ytmmnkdilnlhbfaa", sum := "a53b79036871229931ea48912f2266c9b59b53dd32ed14b0d9a7376cdd62c35b", checked := Try.checked }
namespace Rows
def none {H : Type} : Left H := { results := [], args := [] }

/-- 'laws.FnExactClearFor': WHATEVER THE INPUT: true; the input reads as it did. -/
def fnExactClearForSpec : ChangeSpec := { name := "fnExactClearFor", fn := fun _ => fun
  | [d1, d2] => { results := [.lit (.bool true)], args := [d1, d2] }
  | _ => none }
def fnExactClearForRow : OpenClaim := { program := "ytmmnkdilnlhbfaa", sum := "a53b79036871229931ea48912f2266c9b59b53dd32ed14b0d9a7376cdd62c35b", func := "loop.example/g00658/laws.FnExactClearFor", spec := "fnExactClearFor", unfollowed := true, recurses := true, apart := false }
def FnExactClearForSaid : Prop := fnExactClearForRow.holds Try.pinned (OpenSpec.ofChange fnExactClearForSpec)

/-- ITS FALSE NEIGHBOUR: 'it returns false'. Refute it at one input. -/
def fnExactClearForWrong : ChangeSpec := { name := "fnExactClearFor", fn := fun _ => fun
  | [d1, d2] => { results := [.lit (.bool false)], args := [d1, d2] }
  | _ => none }
def FnExactClearForWrongFalsely : Prop := fnExactClearForRow.holds Try.pinned (OpenSpec.ofChange fnExactClearForWrong)

/-- 'laws.FnExactQuotaOf': WHATEVER THE INPUT: true; the input reads as it did. -/
def fnExactQuotaOfSpec : ChangeSpec := { name := "fnExactQuotaOf", fn := fun _ => fun
  | [d1, d2] => { results := [.lit (.bool true)], args := [d1, d2] }
  | _ => none }
def fnExactQuotaOfRow : OpenClaim := { program := "ytmmnkdilnlhbfaa", sum := "a53b79036871229931ea48912f2266c9b59b53dd32ed14b0d9a7376cdd62c35b", func := "loop.example/g00658/laws.FnExactQuotaOf", spec := "fnExactQuotaOf", unfollowed := true, recurses := true, apart := false }
def FnExactQuotaOfSaid : Prop := fnExactQuotaOfRow.holds Try.pinned (OpenSpec.ofChange fnExactQuotaOfSpec)

/-- ITS FALSE NEIGHBOUR: 'it returns false'. Refute it at one input. -/
def fnExactQuotaOfWrong : ChangeSpec := { name := "fnExactQuotaOf", fn := fun _ => fun
  | [d1, d2] => { results := [.lit (.bool false)], args := [d1, d2] }
  | _ => none }
def FnExactQuotaOfWrongFalsely : Prop := fnExactQuotaOfRow.holds Try.pinned (OpenSpec.ofChange fnExactQuotaOfWrong)

/-- 'laws.FnExactTasksRight': WHATEVER THE INPUT: true; the input reads as it did. -/
def fnExactTasksRightSpec : ChangeSpec := { name := "fnExactTasksRight", fn := fun _ => fun
  | [d] => { results := [.lit (.bool true)], args := [d] }
  | _ => none }
def fnExactTasksRightRow : OpenClaim := { program := "ytmmnkdilnlhbfaa", sum := "a53b79036871229931ea48912f2266c9b59b53dd32ed14b0d9a7376cdd62c35b", func := "loop.example/g00658/laws.FnExactTasksRight", spec := "fnExactTasksRight", unfollowed := true, recurses := true, apart := false }
def FnExactTasksRightSaid : Prop := fnExactTasksRightRow.holds Try.pinned (OpenSpec.ofChange fnExactTasksRightSpec)

/-- ITS FALSE NEIGHBOUR: 'it returns false'. Refute it at one input. -/
def fnExactTasksRightWrong : ChangeSpec := { name := "fnExactTasksRight", fn := fun _ => fun
  | [d] => { results := [.lit (.bool false)], args := [d] }
  | _ => none }
def FnExactTasksRightWrongFalsely : Prop := fnExactTasksRightRow.holds Try.pinned (OpenSpec.ofChange fnExactTasksRightWrong)

/-- 'laws.FnExactTaskOf': WHATEVER THE INPUT: true; the input reads as it did. -/
def fnExactTaskOfSpec : ChangeSpec := { name := "fnExactTaskOf", fn := fun _ => fun
  | [d1, d2, d3] => { results := [.lit (.bool true)], args := [d1, d2, d3] }
  | _ => none }
def fnExactTaskOfRow : OpenClaim := { program := "ytmmnkdilnlhbfaa", sum := "a53b79036871229931ea48912f2266c9b59b53dd32ed14b0d9a7376cdd62c35b", func := "loop.example/g00658/laws.FnExactTaskOf", spec := "fnExactTaskOf", unfollowed := true, recurses := true, apart := false }
def FnExactTaskOfSaid : Prop := fnExactTaskOfRow.holds Try.pinned (OpenSpec.ofChange fnExactTaskOfSpec)

/-- ITS FALSE NEIGHBOUR: 'it returns false'. Refute it at one input. -/
def fnExactTaskOfWrong : ChangeSpec := { name := "fnExactTaskOf", fn := fun _ => fun
  | [d1, d2, d3] => { results := [.lit (.bool false)], args := [d1, d2, d3] }
  | _ => none }
def FnExactTaskOfWrongFalsely : Prop := fnExactTaskOfRow.holds Try.pinned (OpenSpec.ofChange fnExactTaskOfWrong)

/-- 'laws.FnExactLiveOf': WHATEVER THE INPUT: true; the input reads as it did. -/
def fnExactLiveOfSpec : ChangeSpec := { name := "fnExactLiveOf", fn := fun _ => fun
  | [d1, d2] => { results := [.lit (.bool true)], args := [d1, d2] }
  | _ => none }
def fnExactLiveOfRow : OpenClaim := { program := "ytmmnkdilnlhbfaa", sum := "a53b79036871229931ea48912f2266c9b59b53dd32ed14b0d9a7376cdd62c35b", func := "loop.example/g00658/laws.FnExactLiveOf", spec := "fnExactLiveOf", unfollowed := true, recurses := true, apart := false }
def FnExactLiveOfSaid : Prop := fnExactLiveOfRow.holds Try.pinned (OpenSpec.ofChange fnExactLiveOfSpec)

/-- ITS FALSE NEIGHBOUR: 'it returns false'. Refute it at one input. -/
def fnExactLiveOfWrong : ChangeSpec := { name := "fnExactLiveOf", fn := fun _ => fun
  | [d1, d2] => { results := [.lit (.bool false)], args := [d1, d2] }
  | _ => none }
def FnExactLiveOfWrongFalsely : Prop := fnExactLiveOfRow.holds Try.pinned (OpenSpec.ofChange fnExactLiveOfWrong)

/-- 'laws.FnExactTaskReady': WHATEVER THE INPUT: true; the input reads as it did. -/
def fnExactTaskReadySpec : ChangeSpec := { name := "fnExactTaskReady", fn := fun _ => fun
  | [d1, d2] => { results := [.lit (.bool true)], args := [d1, d2] }
  | _ => none }
def fnExactTaskReadyRow : OpenClaim := { program := "ytmmnkdilnlhbfaa", sum := "a53b79036871229931ea48912f2266c9b59b53dd32ed14b0d9a7376cdd62c35b", func := "loop.example/g00658/laws.FnExactTaskReady", spec := "fnExactTaskReady", unfollowed := true, recurses := true, apart := false }
def FnExactTaskReadySaid : Prop := fnExactTaskReadyRow.holds Try.pinned (OpenSpec.ofChange fnExactTaskReadySpec)

/-- ITS FALSE NEIGHBOUR: 'it returns false'. Refute it at one input. -/
def fnExactTaskReadyWrong : ChangeSpec := { name := "fnExactTaskReady", fn := fun _ => fun
  | [d1, d2] => { results := [.lit (.bool false)], args := [d1, d2] }
  | _ => none }
def FnExactTaskReadyWrongFalsely : Prop := fnExactTaskReadyRow.holds Try.pinned (OpenSpec.ofChange fnExactTaskReadyWrong)

/- THE SECOND FORM. 'bulk': how many values and letters a reading holds, each counted each time it is reached (what is shared counts as often as it is met; a slice's spare places count too). A statement '..UptoSaid' is the law's where the arguments, and the package variables that the reading takes, are together of bulk at most 1048576: NARROWER than '..Said'. Prove '..Said' where nothing that the law and all that it calls make is longer than what came in: it says more and counts as full. Else prove '..UptoSaid'. A law counts once. -/
mutual
def uptoBulk {H : Type} : DataW H → Nat
  | .lit (.string bytes) => bytes.length + 1
  | .lit _ => 1
  | .nil => 1
  | .ptr d => uptoBulk d + 1
  | .slice elems spare => uptoBulkAll elems + uptoBulkAll spare + 1
  | .agg parts => uptoBulkAll parts + 1
  | .iface _ d => uptoBulk d + 1
  | .map entries => uptoBulkEntries entries + 1
  | .held _ => 1
def uptoBulkAll {H : Type} : List (DataW H) → Nat
  | [] => 0
  | d :: r => uptoBulk d + uptoBulkAll r
def uptoBulkEntries {H : Type} : List (Lit × DataW H) → Nat
  | [] => 0
  | x :: r => uptoBulkEntry x + uptoBulkEntries r
def uptoBulkEntry {H : Type} : Lit × DataW H → Nat
  | (.string bytes, d) => bytes.length + uptoBulk d + 1
  | (_, d) => uptoBulk d + 1
 end
def uptoSmall : (H : Type) → List (DataW H) → Bool := fun _ ds => decide (uptoBulkAll ds ≤ 1048576)
def OpenSpec.upto (s : _root_.Go.ChangeSpec) : _root_.Go.OpenSpec := { _root_.Go.OpenSpec.ofChange s with cond := some uptoSmall }

/-- 'laws.FnExactClearFor', WHERE WHAT IT READS IS OF BULK AT MOST 1048576: true; the input reads as it did. -/
def fnExactClearForUptoRow : OpenClaim := { program := "ytmmnkdilnlhbfaa", sum := "a53b79036871229931ea48912f2266c9b59b53dd32ed14b0d9a7376cdd62c35b", func := "loop.example/g00658/laws.FnExactClearFor", spec := "fnExactClearFor", unfollowed := true, recurses := true, apart := false, narrowed := true }
def FnExactClearForUptoSaid : Prop := fnExactClearForUptoRow.holds Try.pinned (OpenSpec.upto fnExactClearForSpec)

/-- 'laws.FnExactQuotaOf', WHERE WHAT IT READS IS OF BULK AT MOST 1048576: true; the input reads as it did. -/
def fnExactQuotaOfUptoRow : OpenClaim := { program := "ytmmnkdilnlhbfaa", sum := "a53b79036871229931ea48912f2266c9b59b53dd32ed14b0d9a7376cdd62c35b", func := "loop.example/g00658/laws.FnExactQuotaOf", spec := "fnExactQuotaOf", unfollowed := true, recurses := true, apart := false, narrowed := true }
def FnExactQuotaOfUptoSaid : Prop := fnExactQuotaOfUptoRow.holds Try.pinned (OpenSpec.upto fnExactQuotaOfSpec)

/-- 'laws.FnExactTasksRight', WHERE WHAT IT READS IS OF BULK AT MOST 1048576: true; the input reads as it did. -/
def fnExactTasksRightUptoRow : OpenClaim := { program := "ytmmnkdilnlhbfaa", sum := "a53b79036871229931ea48912f2266c9b59b53dd32ed14b0d9a7376cdd62c35b", func := "loop.example/g00658/laws.FnExactTasksRight", spec := "fnExactTasksRight", unfollowed := true, recurses := true, apart := false, narrowed := true }
def FnExactTasksRightUptoSaid : Prop := fnExactTasksRightUptoRow.holds Try.pinned (OpenSpec.upto fnExactTasksRightSpec)

/-- 'laws.FnExactTaskOf', WHERE WHAT IT READS IS OF BULK AT MOST 1048576: true; the input reads as it did. -/
def fnExactTaskOfUptoRow : OpenClaim := { program := "ytmmnkdilnlhbfaa", sum := "a53b79036871229931ea48912f2266c9b59b53dd32ed14b0d9a7376cdd62c35b", func := "loop.example/g00658/laws.FnExactTaskOf", spec := "fnExactTaskOf", unfollowed := true, recurses := true, apart := false, narrowed := true }
def FnExactTaskOfUptoSaid : Prop := fnExactTaskOfUptoRow.holds Try.pinned (OpenSpec.upto fnExactTaskOfSpec)

/-- 'laws.FnExactLiveOf', WHERE WHAT IT READS IS OF BULK AT MOST 1048576: true; the input reads as it did. -/
def fnExactLiveOfUptoRow : OpenClaim := { program := "ytmmnkdilnlhbfaa", sum := "a53b79036871229931ea48912f2266c9b59b53dd32ed14b0d9a7376cdd62c35b", func := "loop.example/g00658/laws.FnExactLiveOf", spec := "fnExactLiveOf", unfollowed := true, recurses := true, apart := false, narrowed := true }
def FnExactLiveOfUptoSaid : Prop := fnExactLiveOfUptoRow.holds Try.pinned (OpenSpec.upto fnExactLiveOfSpec)

/-- 'laws.FnExactTaskReady', WHERE WHAT IT READS IS OF BULK AT MOST 1048576: true; the input reads as it did. -/
def fnExactTaskReadyUptoRow : OpenClaim := { program := "ytmmnkdilnlhbfaa", sum := "a53b79036871229931ea48912f2266c9b59b53dd32ed14b0d9a7376cdd62c35b", func := "loop.example/g00658/laws.FnExactTaskReady", spec := "fnExactTaskReady", unfollowed := true, recurses := true, apart := false, narrowed := true }
def FnExactTaskReadyUptoSaid : Prop := fnExactTaskReadyUptoRow.holds Try.pinned (OpenSpec.upto fnExactTaskReadySpec)

end Rows
end Go.Proofs.Ytmmnkdilnlhbfaa
