/- LogRead: what is small. -/
import Derived.Test.YtdedomfocljhaaaDoorLgS
import Derived.Test.YtdedomfocljhaaaDoorFrG
namespace Go.Proofs.YtdedomfocljhaaaDoor.RepC
open Go.RowKit RowC ValC SpanC KeptC
set_option linter.unusedVariables false
set_option linter.unusedSimpArgs false

theorem cm_frames : ∀ L : List D_Frame, sumL R_Frame.cm L = 2 * L.length
  | [] => rfl
  | x :: xs => by
    simp only [sumL, cm_frames xs, List.length_cons]
    have : R_Frame.cm x = 2 := rfl
    omega
theorem log_small {s : ByteArray} {d : D_LogOut} (hd : FrC.logR s = d) : R_LogOut.cv d ≤ 1048576 := by
  have h := (FrC.logR_small s).2.1
  rw [hd] at h
  obtain ⟨L, a, c⟩ := d
  rw [cvd_LogOut, cm_frames]
  have h2 : L.length ≤ 1000 := h
  omega
end Go.Proofs.YtdedomfocljhaaaDoor.RepC
