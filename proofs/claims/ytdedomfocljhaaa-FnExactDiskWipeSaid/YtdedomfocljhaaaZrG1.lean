/- DiskWipe as its law wants it. -/
import Derived.Test.YtdedomfocljhaaaZrS
import Derived.Test.YtdedomfocljhaaaZrW
import Derived.Test.YtdedomfocljhaaaZrGv
namespace Go.Proofs.Ytdedomfocljhaaa.RepC
open Go.RowKit RowC ValC SpanC KeptC
set_option linter.unusedVariables false
set_option linter.unusedSimpArgs false

theorem gwipe_spec {d : D_Disk} {cs : List Value} {r : Int} {W : World} (h : R_Disk.rd W W.heap.size d cs) : Calls Try.prog 36 #[.agg cs.toArray, .int .i64 r] W (NewV R_DiskOut (ChC.chgV ChC.wipeF d.1 d.2 r) W) := by
  obtain ⟨L, p⟩ := d
  obtain ⟨a, c, rfl, k⟩ := rd_Disk h
  exact (ChC.wipe_s k).mono fun e w' h => ChC.outD_new h
theorem gwipe_impl {d : D_Disk} {cs : List Value} {r : Int} {W : World} (h : R_Disk.rd W W.heap.size d cs) : Calls Try.prog 37 #[.agg cs.toArray, .int .i64 r] W (NewV R_DiskOut (ChC.chgV ChC.wipeF d.1 d.2 r) W) := by
  obtain ⟨L, p⟩ := d
  obtain ⟨a, c, rfl, k⟩ := rd_Disk h
  exact (ChC.wipe_i k).mono fun e w' h => ChC.outD_new h
end Go.Proofs.Ytdedomfocljhaaa.RepC
