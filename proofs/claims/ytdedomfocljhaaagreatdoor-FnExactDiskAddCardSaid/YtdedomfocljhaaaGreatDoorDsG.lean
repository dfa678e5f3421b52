/- The laws' data: contracts. -/
import Derived.Test.YtdedomfocljhaaaGreatDoorDsM
import Derived.Test.YtdedomfocljhaaaGreatDoorGen
namespace Go.Proofs.YtdedomfocljhaaaGreatDoor.RepC
open Go.RowKit RowC ValC
set_option linter.unusedVariables false
set_option linter.unusedSimpArgs false

theorem gsz_Disk {d : D_Disk} {cs : List Value} {W : World} {l : Int} (h0 : 0 ≤ l) (h1 : l ≤ 1048576) (h : R_Disk.rd W W.heap.size d cs) : Calls Tryz.prog 4 #[.agg cs.toArray, .int .i64 l] W (SzC l (R_Disk.sz d) W) := by
  obtain ⟨L0, x1⟩ := d
  obtain ⟨a0, c0, rfl, k_L0⟩ := rd_Disk h
  exact sz_Disk h0 h1 k_L0
theorem gto_Disk {d : D_Disk} {cs : List Value} {W : World} (hsz : R_Disk.sz d ≤ 1048576) (h : R_Disk.rd W W.heap.size d cs) : Calls Tryz.prog 7 #[.agg cs.toArray] W (NewV R_Disk d W) := by
  obtain ⟨L0, x1⟩ := d
  obtain ⟨a0, c0, rfl, k_L0⟩ := rd_Disk h
  exact to_Disk hsz k_L0
theorem geq_Disk {d : D_Disk} {cs cs' : List Value} {W : World} (h : R_Disk.rd W W.heap.size d cs) (h' : R_Disk.rd W W.heap.size d cs') : Calls Tryz.prog 11 #[.agg cs.toArray, .agg cs'.toArray] W (IsB true W) := by
  obtain ⟨L0, x1⟩ := d
  obtain ⟨a0, c0, rfl, k_L0⟩ := rd_Disk h
  obtain ⟨a0', c0', rfl, k'_L0⟩ := rd_Disk h'
  exact eq_Disk k_L0 k'_L0
theorem owc_Disk {W : World} {S : Nat → Prop} {L0 : List (D_Region)} {x1 : Int} {cs : List Value} (h : R_Disk.ow W S (L0, x1) cs) : ∃ a0 c0, cs = [.slice a0 L0.length c0, .int .i64 x1] ∧ R_Disk.ow W S (L0, x1) [.slice a0 L0.length c0, .int .i64 x1] := by
  have h0 := h
  obtain ⟨a0, c0, T0, rfl, _⟩ := ow_Disk h
  exact ⟨a0, c0, rfl, h0⟩
theorem rdc_Disk {W : World} {B : Nat} {L0 : List (D_Region)} {x1 : Int} {cs : List Value} (h : R_Disk.rd W B (L0, x1) cs) : ∃ a0 c0, cs = [.slice a0 L0.length c0, .int .i64 x1] ∧ R_Disk.rd W B (L0, x1) [.slice a0 L0.length c0, .int .i64 x1] := by
  have h0 := h
  obtain ⟨a0, c0, rfl, _⟩ := rd_Disk h
  exact ⟨a0, c0, rfl, h0⟩
theorem cvd_Disk {L0 : List (D_Region)} {x1 : Int} : R_Disk.cv (L0, x1) = sumL (R_Region).cm L0 := by
  simp only [R_Disk, Pr, Sl, I, Bo, atom] <;> omega
set_option maxRecDepth 100000 in
theorem gmark_Disk {d : D_Disk} {cs : List Value} {W : World} {S : Nat → Prop} {k : Int} (h0 : 0 ≤ k) (h1 : k + (R_Disk.cv d : Nat) ≤ 4611686018427387904) (hS : ∀ q, S q → q < W.heap.size) (h : R_Disk.ow W S d cs) : Calls Tryz.prog 12 #[.agg cs.toArray, .int .i64 k] W (MarkG R_Disk d cs S k W) := by
  obtain ⟨L0, x1⟩ := d
  obtain ⟨a0, c0, T0, rfl, hs0, k_L0⟩ := ow_Disk h
  have hcv := cvd_Disk (L0 := L0) (x1 := x1)
  refine (mark_Disk h0 (by rw [hcv] at h1; omega) (fun q hq => hS q (hs0 q hq)) k_L0).mono fun e w' hh => ?_
  obtain ⟨z0, y0, rfl, ⟨hl0, hm0, hz0, ho0⟩, hoff⟩ := hh
  have hmk := mkow_Disk (x1 := x1) hs0 ho0
  simp only [hl0] at hmk
  exact ⟨(y0, x1), _, rfl, ⟨z0, hm0, rfl⟩, by rw [hcv]; omega, hmk, hoff.more fun q hq => by exact hs0 q hq⟩
set_option maxRecDepth 100000 in
theorem gheld_Disk {d : D_Disk} {cs : List Value} {W : World} {k z : Int} (h0 : 0 ≤ k) (h1 : z ≤ 4611686018427387904) (hm : R_Disk.mv d k z) (h : R_Disk.rd W W.heap.size d cs) : Calls Tryz.prog 32 #[.agg cs.toArray, .int .i64 k] W (HeldC z W) := by
  obtain ⟨L0, x1⟩ := d
  obtain ⟨a0, c0, rfl, k_L0⟩ := rd_Disk h
  obtain ⟨_, hm0, rfl⟩ := hm
  exact held_Disk h0 h1 hm0 k_L0

theorem geq_DiskOut {d : D_DiskOut} {cs cs' : List Value} {W : World} (h : R_DiskOut.rd W W.heap.size d cs) (h' : R_DiskOut.rd W W.heap.size d cs') : Calls Tryz.prog 10 #[.agg cs.toArray, .agg cs'.toArray] W (IsB true W) := by
  obtain ⟨⟨L0, x1⟩, x2⟩ := d
  obtain ⟨a0, c0, rfl, k_L0⟩ := rd_DiskOut h
  obtain ⟨a0', c0', rfl, k'_L0⟩ := rd_DiskOut h'
  exact eq_DiskOut k_L0 k'_L0
theorem owc_DiskOut {W : World} {S : Nat → Prop} {L0 : List (D_Region)} {x1 : Int} {x2 : Int} {cs : List Value} (h : R_DiskOut.ow W S ((L0, x1), x2) cs) : ∃ a0 c0, cs = [.slice a0 L0.length c0, .int .i64 x1, .int .i64 x2] ∧ R_DiskOut.ow W S ((L0, x1), x2) [.slice a0 L0.length c0, .int .i64 x1, .int .i64 x2] := by
  have h0 := h
  obtain ⟨a0, c0, T0, rfl, _⟩ := ow_DiskOut h
  exact ⟨a0, c0, rfl, h0⟩
theorem rdc_DiskOut {W : World} {B : Nat} {L0 : List (D_Region)} {x1 : Int} {x2 : Int} {cs : List Value} (h : R_DiskOut.rd W B ((L0, x1), x2) cs) : ∃ a0 c0, cs = [.slice a0 L0.length c0, .int .i64 x1, .int .i64 x2] ∧ R_DiskOut.rd W B ((L0, x1), x2) [.slice a0 L0.length c0, .int .i64 x1, .int .i64 x2] := by
  have h0 := h
  obtain ⟨a0, c0, rfl, _⟩ := rd_DiskOut h
  exact ⟨a0, c0, rfl, h0⟩
theorem cvd_DiskOut {L0 : List (D_Region)} {x1 : Int} {x2 : Int} : R_DiskOut.cv ((L0, x1), x2) = sumL (R_Region).cm L0 := by
  simp only [R_DiskOut, R_Disk, Pr, Sl, I, Bo, atom] <;> omega
set_option maxRecDepth 100000 in
theorem gmark_DiskOut {d : D_DiskOut} {cs : List Value} {W : World} {S : Nat → Prop} {k : Int} (h0 : 0 ≤ k) (h1 : k + (R_DiskOut.cv d : Nat) ≤ 4611686018427387904) (hS : ∀ q, S q → q < W.heap.size) (h : R_DiskOut.ow W S d cs) : Calls Tryz.prog 13 #[.agg cs.toArray, .int .i64 k] W (MarkG R_DiskOut d cs S k W) := by
  obtain ⟨⟨L0, x1⟩, x2⟩ := d
  obtain ⟨a0, c0, T0, rfl, hs0, k_L0⟩ := ow_DiskOut h
  have hcv := cvd_DiskOut (L0 := L0) (x1 := x1) (x2 := x2)
  refine (mark_DiskOut h0 (by rw [hcv] at h1; omega) (fun q hq => hS q (hs0 q hq)) k_L0).mono fun e w' hh => ?_
  obtain ⟨z0, y0, rfl, ⟨hl0, hm0, hz0, ho0⟩, hoff⟩ := hh
  have hmk := mkow_DiskOut (x1 := x1) (x2 := x2) hs0 ho0
  simp only [hl0] at hmk
  exact ⟨((y0, x1), x2), _, rfl, ⟨z0, ⟨z0, hm0, rfl⟩, rfl⟩, by rw [hcv]; omega, hmk, hoff.more fun q hq => by exact hs0 q hq⟩
set_option maxRecDepth 100000 in
theorem gheld_DiskOut {d : D_DiskOut} {cs : List Value} {W : World} {k z : Int} (h0 : 0 ≤ k) (h1 : z ≤ 4611686018427387904) (hm : R_DiskOut.mv d k z) (h : R_DiskOut.rd W W.heap.size d cs) : Calls Tryz.prog 14 #[.agg cs.toArray, .int .i64 k] W (HeldC z W) := by
  obtain ⟨⟨L0, x1⟩, x2⟩ := d
  obtain ⟨a0, c0, rfl, k_L0⟩ := rd_DiskOut h
  obtain ⟨_, ⟨_, hm0, rfl⟩, rfl⟩ := hm
  exact held_DiskOut h0 h1 hm0 k_L0

end Go.Proofs.YtdedomfocljhaaaGreatDoor.RepC
