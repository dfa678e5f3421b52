/- DiskSlot as its law wants it. -/
import Derived.Test.YtdedomfocljhaaaZrT
import Derived.Test.YtdedomfocljhaaaFrGv
import Derived.Test.YtdedomfocljhaaaZrGv
namespace Go.Proofs.Ytdedomfocljhaaa.RepC
open Go.RowKit RowC ValC SpanC KeptC
set_option linter.unusedVariables false
set_option linter.unusedSimpArgs false

theorem gdslot_spec {d : D_Disk} {cs : List Value} {x : D_Frame} {xs : List Value} {r : Int} {b : Bool} {W : World} (h : R_Disk.rd W W.heap.size d cs) (hx : R_Frame.rd W W.heap.size x xs) : Calls Try.prog 31 #[.agg cs.toArray, .int .i64 r, .bool b, .agg xs.toArray] W (NewV R_DiskOut (ChC.chgV (ChC.slotF b x.1 x.2) d.1 d.2 r) W) := by
  obtain ⟨L, p⟩ := d
  obtain ⟨a, c, rfl, k⟩ := rd_Disk h
  obtain ⟨n, u⟩ := x
  obtain ⟨rfl, hu⟩ := rd_Frame hx
  exact (ChC.dslot_s k hu).mono fun e w' h => ChC.outD_new h
theorem gdslot_impl {d : D_Disk} {cs : List Value} {x : D_Frame} {xs : List Value} {r : Int} {b : Bool} {W : World} (h : R_Disk.rd W W.heap.size d cs) (hx : R_Frame.rd W W.heap.size x xs) : Calls Try.prog 32 #[.agg cs.toArray, .int .i64 r, .bool b, .agg xs.toArray] W (NewV R_DiskOut (ChC.chgV (ChC.slotF b x.1 x.2) d.1 d.2 r) W) := by
  obtain ⟨L, p⟩ := d
  obtain ⟨a, c, rfl, k⟩ := rd_Disk h
  obtain ⟨n, u⟩ := x
  obtain ⟨rfl, hu⟩ := rd_Frame hx
  exact (ChC.dslot_i k hu).mono fun e w' h => ChC.outD_new h
end Go.Proofs.Ytdedomfocljhaaa.RepC
