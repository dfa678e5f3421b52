/- What NextTime and LetDown answer: the mathematics. -/
import Derived.Test.YtknifggpodhhdaaDoorDkM
namespace Go.Proofs.YtknifggpodhhdaaDoor.RepC
open Go.RowKit RowC ValC SpanC KeptC
set_option linter.unusedVariables false

def zeroD : D_Desk := ([], [], [], 0, 0)
noncomputable def nextG (d : D_Desk) : D_DeskStep := if boxB d = true then (if d.2.2.2.2 = 999900 then (zeroD, 9) else ((d.1, [], d.2.2.1, 0, d.2.2.2.2 + 1), 0)) else (zeroD, 1)
noncomputable def letG (d : D_Desk) (f t : D_Label) (w : Int) : D_DeskStep := by
  classical exact if boxB d = true ∧ isB w 0 1000000 = true then (if HasCh d.1 f t then (if d.2.2.2.1 = 2 then (zeroD, 8) else (if d.2.1.length = 6 ∨ d.2.2.1.length = 20 then (zeroD, 9) else ((d.1, d.2.1 ++ [(f, t, d.2.2.2.2, w)], d.2.2.1 ++ [(f, t, d.2.2.2.2, w)], d.2.2.2.1 + 1, d.2.2.2.2), 0))) else (zeroD, 11)) else (zeroD, 1)
theorem nil_ow (W : World) (S : Nat → Prop) : OwSl R_Letter W S [] none 0 := ⟨Nat.le_refl _, Nat.zero_le _, fun h => absurd h (Nat.lt_irrefl _)⟩
theorem step_ow (c : Int) {W : World} {S : Nat → Prop} : R_DeskStep.ow W S (zeroD, c) [.slice none 0 0, .slice none 0 0, .slice none 0 0, .int .i64 0, .int .i64 0, .int .i64 c] :=
  mkow_DeskStep (T0 := fun _ => False) (T1 := fun _ => False) (T2 := fun _ => False) (fun k h => h.elim) (fun k h => h.elim) (fun k h => h.elim) (fun k h => h.elim) (fun k h => h.elim) (fun k h => h.elim) (nil_ow W _) (nil_ow W _) (nil_ow W _)
end Go.Proofs.YtknifggpodhhdaaDoor.RepC
