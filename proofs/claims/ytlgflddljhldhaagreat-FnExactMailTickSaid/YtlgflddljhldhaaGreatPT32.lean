/- Of this claim's texts the part 32: MlGv. -/
import Derived.Test.YtlgflddljhldhaaGreatPT28
import Derived.Test.YtlgflddljhldhaaGreatPT31
section
namespace Go.Proofs.YtlgflddljhldhaaGreat.RepC
open Go.RowKit RowC ValC SpanC KeptC CfC
set_option linter.unusedVariables false
set_option linter.unusedSimpArgs false
theorem cm_i64s : ∀ L : List Int, sumL I.cm L = L.length
  | [] => rfl
  | x :: xs => by
    simp only [sumL, cm_i64s xs, List.length_cons]
    have : I.cm x = 1 := rfl
    omega
theorem cm_notes : ∀ L : List D_Note, sumL R_Note.cm L = 2 * L.length
  | [] => rfl
  | x :: xs => by
    simp only [sumL, cm_notes xs, List.length_cons]
    have : R_Note.cm x = 2 := rfl
    omega
theorem cm_Box (b : D_Box) : R_Box.cm b = b.1.length + b.2.1.length + 2 * b.2.2.length := by
  show sumL I.cm b.1 + (sumL I.cm b.2.1 + sumL R_Note.cm b.2.2) = _
  rw [cm_i64s, cm_i64s, cm_notes]
  omega
theorem cm_boxes : ∀ L : List D_Box, sumL R_Box.cm L ≤ 2 * R_Mail.sz L
  | [] => Nat.zero_le _
  | x :: xs => by
    have h := cm_boxes xs
    have e : R_Mail.sz (x :: xs) = (x :: xs).length + (R_Box.sz x + sumL R_Box.sz xs) := rfl
    have e2 : R_Mail.sz xs = xs.length + sumL R_Box.sz xs := rfl
    have e3 : R_Box.sz x = (x.1.length + sumL I.sz x.1) + ((x.2.1.length + sumL I.sz x.2.1) + (x.2.2.length + sumL R_Note.sz x.2.2)) := rfl
    have e4 := cm_Box x
    simp only [sumL, List.length_cons] at e ⊢
    omega
theorem cvs_Mail {m : D_Mail} (h : R_Mail.sz m ≤ 1048576) : R_Mail.cv m ≤ 8388608 := by
  have h1 := cm_boxes m
  show sumL R_Box.cm m ≤ _
  omega
end Go.Proofs.YtlgflddljhldhaaGreat.RepC
end
