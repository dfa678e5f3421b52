/- Disks that change, as their laws want them. -/
import Derived.Test.YtdedomfocljhaaaZrV
import Derived.Test.YtdedomfocljhaaaDsGv
namespace Go.Proofs.Ytdedomfocljhaaa.RepC
open Go.RowKit RowC ValC SpanC KeptC
set_option linter.unusedVariables false
set_option linter.unusedSimpArgs false

theorem chg_small {F : D_Region → Int → D_Region × Int × Int} {L : List D_Region} {p r : Int} {d : D_DiskOut} {q : D_Disk} (_ : R_Disk.sz q ≤ 1048576) (h : ChC.chgV F L p r = d) : R_DiskOut.cv d ≤ 1048576 := by
  have cvx : ∀ (M : List D_Region) (q c : Int), R_DiskOut.cv ((M, q), c) = 3 * M.length := fun M q c => by rw [cvd_DiskOut, cm_regions]
  subst h
  unfold ChC.chgV
  split
  · rename_i hc
    have hl := (ChC.codeV_of (.inl hc)).1.1.2
    unfold ChC.putV
    split
    · rw [cvx, List.length_set]
      omega
    · rw [cvx]
      simp
  · unfold ChC.illV
    split
    · rename_i hc
      have hl := (ChC.codeV_of (.inr hc)).1.1.2
      rw [cvx]
      omega
    · rw [cvx]
      simp
theorem sets_DiskOut {w : World} {g : Nat} {v0 v1 v2 : Value} {t : TypeId} (h : Blk w g t #[.slice none 0 0, .int .i64 0, .int .i64 0]) : Blk (((w.setCell ⟨g, 0, none⟩ v0).setCell ⟨g, 1, none⟩ v1).setCell ⟨g, 2, none⟩ v2) g t #[v0, v1, v2] := Blk.as (((h.set 0 v0).set 1 v1).set 2 v2) (by kernel_rfl)
theorem soff_DiskOut (w : World) (g : Nat) (v0 v1 v2 : Value) : Off (fun x => x = g) w (((w.setCell ⟨g, 0, none⟩ v0).setCell ⟨g, 1, none⟩ v1).setCell ⟨g, 2, none⟩ v2) := ((((Off.refl (fun x => x = g) w).setCell (p := ⟨g, 0, none⟩) rfl v0).setCell (p := ⟨g, 1, none⟩) rfl v1).setCell (p := ⟨g, 2, none⟩) rfl v2)
end Go.Proofs.Ytdedomfocljhaaa.RepC
