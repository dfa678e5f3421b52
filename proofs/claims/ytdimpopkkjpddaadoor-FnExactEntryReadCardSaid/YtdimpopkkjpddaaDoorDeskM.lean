/- The laws' data: contracts. -/
import Derived.Test.YtdimpopkkjpddaaDoorDeskT
namespace Go.Proofs.YtdimpopkkjpddaaDoor.RepC
open Go.RowKit RowC ValC
set_option linter.unusedVariables false
set_option linter.unusedSimpArgs false


theorem sizm_LetterS : (R_Letter).size = 6 := rfl
/-- a struct by value, marked in its slices -/
def MarkV_Desk (L0 : List (D_Letter)) (L1 : List (D_Letter)) (L2 : List (D_Letter)) (x3 : Int) (x4 : Int) (a0 : Option Addr) (c0 : Nat) (a1 : Option Addr) (c1 : Nat) (a2 : Option Addr) (c2 : Nat) (T0 : Nat → Prop) (T1 : Nat → Prop) (T2 : Nat → Prop) (k : Int) (W : World) (e : Ending) (w' : World) : Prop := ∃ z0 z1 z2 : Int, ∃ (y0 : List (D_Letter)) (y1 : List (D_Letter)) (y2 : List (D_Letter)), e = .returned (.int .i64 z2) ∧ (y0.length = L0.length ∧ mmL R_Letter y0 k z0 ∧ z0 = k + (sumL (R_Letter).cm L0 : Nat) ∧ OwSl R_Letter w' T0 y0 a0 c0) ∧ (y1.length = L1.length ∧ mmL R_Letter y1 z0 z1 ∧ z1 = z0 + (sumL (R_Letter).cm L1 : Nat) ∧ OwSl R_Letter w' T1 y1 a1 c1) ∧ (y2.length = L2.length ∧ mmL R_Letter y2 z1 z2 ∧ z2 = z1 + (sumL (R_Letter).cm L2 : Nat) ∧ OwSl R_Letter w' T2 y2 a2 c2) ∧ Off (fun q => T0 q ∨ T1 q ∨ T2 q) W w'
theorem sizh_LetterS : (R_Letter).size = 6 := rfl
end Go.Proofs.YtdimpopkkjpddaaDoor.RepC
