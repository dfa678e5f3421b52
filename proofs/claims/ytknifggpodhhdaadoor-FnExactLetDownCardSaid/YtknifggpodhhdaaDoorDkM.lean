/- BoxRight and Reads as the laws want them. -/
import Derived.Test.YtknifggpodhhdaaDoorDkL
namespace Go.Proofs.YtknifggpodhhdaaDoor.RepC
open Go.RowKit RowC ValC SpanC KeptC
set_option linter.unusedVariables false
set_option linter.unusedSimpArgs false

noncomputable def boxB (d : D_Desk) : Bool := by classical exact decide (DeskR d.1 d.2.1 d.2.2.1 d.2.2.2.1 d.2.2.2.2)
theorem boxB_iff {P B A : List D_Letter} {u n : Int} : boxB (P, B, A, u, n) = true ↔ DeskR P B A u n := by unfold boxB; simp
theorem gbox_spec {d : D_Desk} {cs : List Value} {W : World} (h : R_Desk.rd W W.heap.size d cs) : Calls Tryd.prog 38 #[.agg cs.toArray] W (IsB (boxB d) W) := by
  obtain ⟨P, B, A, u, n⟩ := d
  obtain ⟨a0, c0, a1, c1, a2, c2, rfl, k0, k1, k2⟩ := rd_Desk h
  exact (box_spec k0 k1 k2).mono fun _ _ => resB_at boxB_iff
theorem gbox_impl {d : D_Desk} {cs : List Value} {W : World} (h : R_Desk.rd W W.heap.size d cs) : Calls Tryd.prog 37 #[.agg cs.toArray] W (IsB (boxB d) W) := by
  obtain ⟨P, B, A, u, n⟩ := d
  obtain ⟨a0, c0, a1, c1, a2, c2, rfl, k0, k1, k2⟩ := rd_Desk h
  exact (box_impl k0 k1 k2).mono fun _ _ => resB_at boxB_iff
noncomputable def readG (d : D_Desk) (l s : Int) : List Int := readD d.1 d.2.1 d.2.2.1 d.2.2.2.1 d.2.2.2.2 l s
theorem greads_spec {d : D_Desk} {cs : List Value} {l s : Int} {W : World} (h : R_Desk.rd W W.heap.size d cs) : Calls Tryd.prog 36 #[.agg cs.toArray, .agg #[.int .i64 l, .int .i64 s]] W (NewS I (readG d l s) W) := by
  obtain ⟨P, B, A, u, n⟩ := d
  obtain ⟨a0, c0, a1, c1, a2, c2, rfl, k0, k1, k2⟩ := rd_Desk h
  exact reads_spec k0 k1 k2
theorem greads_impl {d : D_Desk} {cs : List Value} {l s : Int} {W : World} (h : R_Desk.rd W W.heap.size d cs) : Calls Tryd.prog 35 #[.agg cs.toArray, .agg #[.int .i64 l, .int .i64 s]] W (NewS I (readG d l s) W) := by
  obtain ⟨P, B, A, u, n⟩ := d
  obtain ⟨a0, c0, a1, c1, a2, c2, rfl, k0, k1, k2⟩ := rd_Desk h
  exact reads_impl k0 k1 k2
theorem cm_letters : ∀ L : List D_Letter, sumL R_Letter.cm L = 6 * L.length
  | [] => rfl
  | x :: xs => by
    simp only [sumL, cm_letters xs, List.length_cons]
    have : R_Letter.cm x = 6 := rfl
    omega
theorem szd_Desk2 {P B A : List D_Letter} {u n : Int} : R_Desk.sz (P, B, A, u, n) = P.length + B.length + A.length := by
  rw [szd_Desk, flat_LetterS, flat_LetterS, flat_LetterS]
theorem cvs_Desk {d : D_Desk} (h : R_Desk.sz d ≤ 1048576) : R_Desk.cv d ≤ 8388608 := by
  obtain ⟨P, B, A, u, n⟩ := d
  rw [szd_Desk2] at h
  rw [cvd_Desk, cm_letters, cm_letters, cm_letters]
  omega
theorem cm_nums : ∀ L : List Int, sumL I.cm L = L.length
  | [] => rfl
  | x :: xs => by simp only [sumL, cm_nums xs, List.length_cons]; show 1 + xs.length = _; omega
theorem reads_small {d : D_Desk} {l s : Int} {R : List Int} (h : R_Desk.sz d ≤ 1048576) (hd : readG d l s = R) : (Sl I).cv R ≤ 1048576 := by
  obtain ⟨P, B, A, u, n⟩ := d
  rw [szd_Desk2] at h
  show sumL I.cm R ≤ _
  rw [cm_nums, ← hd]
  unfold readG readD
  split
  · rw [List.length_map]
    have : (B.filter fun x => LabC.belowB x.2.1.1 x.2.1.2 l s).length ≤ B.length := List.length_filter_le _ _
    exact Nat.le_trans this (by omega)
  · simp
end Go.Proofs.YtknifggpodhhdaaDoor.RepC
