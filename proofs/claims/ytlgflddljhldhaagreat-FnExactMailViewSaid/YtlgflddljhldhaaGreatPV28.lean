/- Of this claim's texts the part 28: CfGv MlGv. -/
import Derived.Test.YtlgflddljhldhaaGreatPV19
import Derived.Test.YtlgflddljhldhaaGreatPV25
section
namespace Go.Proofs.YtlgflddljhldhaaGreat.RepC
open Go.RowKit RowC ValC SpanC KeptC
set_option linter.unusedVariables false
set_option linter.unusedSimpArgs false
theorem cm_labs : ∀ L : List D_Label, sumL R_Label.cm L = 2 * L.length
  | [] => rfl
  | x :: xs => by
    simp only [sumL, cm_labs xs, List.length_cons]
    have : R_Label.cm x = 2 := rfl
    omega
theorem sz_labs : ∀ L : List D_Label, sumL R_Label.sz L = 0
  | [] => rfl
  | x :: xs => by
    simp only [sumL, sz_labs xs]
    rfl
theorem cm_labss : ∀ C : List (List D_Label), sumL (Sl R_Label).cm C ≤ 2 * (Sl (Sl R_Label)).sz C
  | [] => Nat.zero_le _
  | x :: xs => by
    have h := cm_labss xs
    have e : (Sl (Sl R_Label)).sz (x :: xs) = (x :: xs).length + ((Sl R_Label).sz x + sumL (Sl R_Label).sz xs) := rfl
    have e2 : (Sl (Sl R_Label)).sz xs = xs.length + sumL (Sl R_Label).sz xs := rfl
    have e3 : (Sl R_Label).sz x = x.length + sumL R_Label.sz x := rfl
    have e4 : (Sl R_Label).cm x = sumL R_Label.cm x := rfl
    rw [e, e3, sz_labs]
    rw [e2] at h
    simp only [sumL, List.length_cons]
    rw [e4, cm_labs]
    omega
theorem cm_pairs : ∀ L : List D_Pair, sumL R_Pair.cm L = 5 * L.length
  | [] => rfl
  | x :: xs => by
    simp only [sumL, cm_pairs xs, List.length_cons]
    have : R_Pair.cm x = 5 := rfl
    omega
theorem cm_quotas : ∀ L : List D_Quota, sumL R_Quota.cm L = 3 * L.length
  | [] => rfl
  | x :: xs => by
    simp only [sumL, cm_quotas xs, List.length_cons]
    have : R_Quota.cm x = 3 := rfl
    omega
theorem cvs_Config {d : D_Config} (h : R_Config.sz d ≤ 1048576) : R_Config.cv d ≤ 8388608 := by
  obtain ⟨C, P, Q, hf⟩ := d
  rw [szd_Config, flat_PairS, flat_QuotaS] at h
  rw [cvd_Config, cm_pairs, cm_quotas]
  have := cm_labss C
  omega
end Go.Proofs.YtlgflddljhldhaaGreat.RepC
end
section
namespace Go.Proofs.YtlgflddljhldhaaGreat.RepC
open Go.RowKit RowC ValC SpanC KeptC CfC
set_option linter.unusedVariables false
set_option linter.unusedSimpArgs false
theorem cm_i64s : ∀ L : List Int, sumL I.cm L = L.length
  | [] => rfl
  | x :: xs => by
    simp only [sumL, cm_i64s xs, List.length_cons]
    have : I.cm x = 1 := rfl
    omega
theorem cm_notes : ∀ L : List D_Note, sumL R_Note.cm L = 2 * L.length
  | [] => rfl
  | x :: xs => by
    simp only [sumL, cm_notes xs, List.length_cons]
    have : R_Note.cm x = 2 := rfl
    omega
theorem cm_Box (b : D_Box) : R_Box.cm b = b.1.length + b.2.1.length + 2 * b.2.2.length := by
  show sumL I.cm b.1 + (sumL I.cm b.2.1 + sumL R_Note.cm b.2.2) = _
  rw [cm_i64s, cm_i64s, cm_notes]
  omega
theorem cm_boxes : ∀ L : List D_Box, sumL R_Box.cm L ≤ 2 * R_Mail.sz L
  | [] => Nat.zero_le _
  | x :: xs => by
    have h := cm_boxes xs
    have e : R_Mail.sz (x :: xs) = (x :: xs).length + (R_Box.sz x + sumL R_Box.sz xs) := rfl
    have e2 : R_Mail.sz xs = xs.length + sumL R_Box.sz xs := rfl
    have e3 : R_Box.sz x = (x.1.length + sumL I.sz x.1) + ((x.2.1.length + sumL I.sz x.2.1) + (x.2.2.length + sumL R_Note.sz x.2.2)) := rfl
    have e4 := cm_Box x
    simp only [sumL, List.length_cons] at e ⊢
    omega
theorem cvs_Mail {m : D_Mail} (h : R_Mail.sz m ≤ 1048576) : R_Mail.cv m ≤ 8388608 := by
  have h1 := cm_boxes m
  show sumL R_Box.cm m ≤ _
  omega
end Go.Proofs.YtlgflddljhldhaaGreat.RepC
end
