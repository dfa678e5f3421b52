/- Disks: what is small. -/
import Derived.Test.YtdedomfocljhaaaDoorDsG
import Derived.Test.YtdedomfocljhaaaDoorDsP
namespace Go.Proofs.YtdedomfocljhaaaDoor.RepC
open Go.RowKit RowC ValC SpanC KeptC
set_option linter.unusedVariables false
set_option linter.unusedSimpArgs false

theorem cm_regions : ∀ L : List D_Region, sumL R_Region.cm L = 3 * L.length
  | [] => rfl
  | x :: xs => by
    simp only [sumL, cm_regions xs, List.length_cons]
    have : R_Region.cm x = 3 := rfl
    omega
theorem cv_Disk (d : D_Disk) : R_Disk.cv d = 3 * d.1.length := by
  obtain ⟨L, p⟩ := d
  rw [cvd_Disk, cm_regions]
theorem sz_len (d : D_Disk) : d.1.length ≤ R_Disk.sz d := by
  obtain ⟨L, p⟩ := d
  show L.length ≤ L.length + sumL R_Region.sz L + 0
  omega
theorem cvs_Disk {d : D_Disk} (h : R_Disk.sz d ≤ 1048576) : R_Disk.cv d ≤ 8388608 := by
  have h1 := sz_len d
  rw [cv_Disk]
  omega
end Go.Proofs.YtdedomfocljhaaaDoor.RepC
