/- DiskNew: what is small. -/
import Derived.Test.YtdedomfocljhaaaDsN
import Derived.Test.YtdedomfocljhaaaDsGv
namespace Go.Proofs.Ytdedomfocljhaaa.RepC
open Go.RowKit RowC ValC SpanC KeptC
set_option linter.unusedVariables false
set_option linter.unusedSimpArgs false

theorem dknew_small {n : Int} {d : D_Disk} (hd : newDk n = d) : R_Disk.cv d ≤ 1048576 := by
  rw [← hd, cv_Disk]
  cases h : isB n 1 13 with
  | true =>
    rw [newDk_yes h]
    have := (isB_iff _ _ _).1 h
    show 3 * (List.replicate n.toNat noR).length ≤ _
    rw [List.length_replicate]
    omega
  | false => rw [newDk_no h]; exact Nat.zero_le _
end Go.Proofs.Ytdedomfocljhaaa.RepC
