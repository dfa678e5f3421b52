/- The laws' data: contracts. -/
import Derived.Test.YtdedomfocljhaaaGreatDoorTk
import Derived.Test.YtdedomfocljhaaaGreatDoorTk
import Derived.Test.YtdedomfocljhaaaGreatDoorFrT
import Derived.Test.YtdedomfocljhaaaGreatDoorHeld
import Derived.Test.YtdedomfocljhaaaGreatDoorTk
namespace Go.Proofs.YtdedomfocljhaaaGreatDoor.RepC
open Go.RowKit RowC ValC
set_option linter.unusedVariables false
set_option linter.unusedSimpArgs false

theorem mmk_Frame {k : Int} : R_Frame.mm (k, (mtI (k + 1))) k (k + 1 + 1) := by
  dsimp only [R_Frame, St, Pr, I, atom, Sl]
  exact ⟨k + 1, ⟨by omega, by omega⟩, ⟨rfl, by omega⟩⟩
theorem mme_Frame {k k' : Int} {x0 : Int} {x1 : ByteArray} (h : R_Frame.mm (x0, x1) k k') : x0 = k ∧ x1 = mtI (k + 1) ∧ k' = k + 1 + 1 := by
  dsimp only [R_Frame, St, Pr, I, atom, Sl] at h
  obtain ⟨z1, h1, g1⟩ := h
  obtain ⟨e0, f0⟩ := h1
  have e0 : x0 = _ := e0
  obtain ⟨e1, f1⟩ := g1
  have e1 : x1 = _ := e1
  exact ⟨by omega, by rw [e1] <;> exact congrArg mtI (by omega), by omega⟩
theorem R_Frame_mn : Mn R_Frame := (Pr_mn I_mn St_mn)


theorem sizm_FrameS : (R_Frame).size = 2 := rfl
/-- a struct by value, marked in its slices -/
def MarkV_LogOut (L0 : List (D_Frame)) (x1 : Int) (x2 : Int) (a0 : Option Addr) (c0 : Nat) (T0 : Nat → Prop) (k : Int) (W : World) (e : Ending) (w' : World) : Prop := ∃ z0 : Int, ∃ (y0 : List (D_Frame)), e = .returned (.int .i64 z0) ∧ (y0.length = L0.length ∧ mmL R_Frame y0 k z0 ∧ z0 = k + (sumL (R_Frame).cm L0 : Nat) ∧ OwSl R_Frame w' T0 y0 a0 c0) ∧ Off (fun q => T0 q) W w'
theorem sizh_FrameS : (R_Frame).size = 2 := rfl
end Go.Proofs.YtdedomfocljhaaaGreatDoor.RepC
