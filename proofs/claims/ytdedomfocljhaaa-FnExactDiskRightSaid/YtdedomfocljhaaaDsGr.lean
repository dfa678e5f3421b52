/- DiskRight as its law wants it. -/
import Derived.Test.YtdedomfocljhaaaDsR
import Derived.Test.YtdedomfocljhaaaDsGv
namespace Go.Proofs.Ytdedomfocljhaaa.RepC
open Go.RowKit RowC ValC SpanC KeptC
set_option linter.unusedVariables false
set_option linter.unusedSimpArgs false

theorem gdisk_spec {d : D_Disk} {cs : List Value} {W : World} (h : R_Disk.rd W W.heap.size d cs) : Calls Try.prog 23 #[.agg cs.toArray] W (IsB (diskB d.1 d.2) W) := by
  obtain ⟨L, p⟩ := d
  obtain ⟨a, c, rfl, k⟩ := rd_Disk h
  exact (disk_s k).mono fun e w' h => resB_is diskB_iff h
theorem gdisk_impl {d : D_Disk} {cs : List Value} {W : World} (h : R_Disk.rd W W.heap.size d cs) : Calls Try.prog 25 #[.agg cs.toArray] W (IsB (diskB d.1 d.2) W) := by
  obtain ⟨L, p⟩ := d
  obtain ⟨a, c, rfl, k⟩ := rd_Disk h
  exact (disk_i k).mono fun e w' h => resB_is diskB_iff h
end Go.Proofs.Ytdedomfocljhaaa.RepC
