/- Of this claim's texts the part 31: CfGv MlGv MlGTick MlGLay. -/
import Derived.Test.YtlgflddljhldhaaGreatPN28
import Derived.Test.YtlgflddljhldhaaGreatPN30
section
namespace Go.Proofs.YtlgflddljhldhaaGreat.RepC
open Go.RowKit RowC ValC SpanC KeptC
set_option linter.unusedVariables false
set_option linter.unusedSimpArgs false
theorem cm_labs : ∀ L : List D_Label, sumL R_Label.cm L = 2 * L.length
  | [] => rfl
  | x :: xs => by
    simp only [sumL, cm_labs xs, List.length_cons]
    have : R_Label.cm x = 2 := rfl
    omega
theorem sz_labs : ∀ L : List D_Label, sumL R_Label.sz L = 0
  | [] => rfl
  | x :: xs => by
    simp only [sumL, sz_labs xs]
    rfl
theorem cm_labss : ∀ C : List (List D_Label), sumL (Sl R_Label).cm C ≤ 2 * (Sl (Sl R_Label)).sz C
  | [] => Nat.zero_le _
  | x :: xs => by
    have h := cm_labss xs
    have e : (Sl (Sl R_Label)).sz (x :: xs) = (x :: xs).length + ((Sl R_Label).sz x + sumL (Sl R_Label).sz xs) := rfl
    have e2 : (Sl (Sl R_Label)).sz xs = xs.length + sumL (Sl R_Label).sz xs := rfl
    have e3 : (Sl R_Label).sz x = x.length + sumL R_Label.sz x := rfl
    have e4 : (Sl R_Label).cm x = sumL R_Label.cm x := rfl
    rw [e, e3, sz_labs]
    rw [e2] at h
    simp only [sumL, List.length_cons]
    rw [e4, cm_labs]
    omega
theorem cm_pairs : ∀ L : List D_Pair, sumL R_Pair.cm L = 5 * L.length
  | [] => rfl
  | x :: xs => by
    simp only [sumL, cm_pairs xs, List.length_cons]
    have : R_Pair.cm x = 5 := rfl
    omega
theorem cm_quotas : ∀ L : List D_Quota, sumL R_Quota.cm L = 3 * L.length
  | [] => rfl
  | x :: xs => by
    simp only [sumL, cm_quotas xs, List.length_cons]
    have : R_Quota.cm x = 3 := rfl
    omega
theorem cvs_Config {d : D_Config} (h : R_Config.sz d ≤ 1048576) : R_Config.cv d ≤ 8388608 := by
  obtain ⟨C, P, Q, hf⟩ := d
  rw [szd_Config, flat_PairS, flat_QuotaS] at h
  rw [cvd_Config, cm_pairs, cm_quotas]
  have := cm_labss C
  omega
end Go.Proofs.YtlgflddljhldhaaGreat.RepC
end
section
namespace Go.Proofs.YtlgflddljhldhaaGreat.RepC
open Go.RowKit RowC ValC SpanC KeptC CfC
set_option linter.unusedVariables false
set_option linter.unusedSimpArgs false
theorem cm_i64s : ∀ L : List Int, sumL I.cm L = L.length
  | [] => rfl
  | x :: xs => by
    simp only [sumL, cm_i64s xs, List.length_cons]
    have : I.cm x = 1 := rfl
    omega
theorem cm_notes : ∀ L : List D_Note, sumL R_Note.cm L = 2 * L.length
  | [] => rfl
  | x :: xs => by
    simp only [sumL, cm_notes xs, List.length_cons]
    have : R_Note.cm x = 2 := rfl
    omega
theorem cm_Box (b : D_Box) : R_Box.cm b = b.1.length + b.2.1.length + 2 * b.2.2.length := by
  show sumL I.cm b.1 + (sumL I.cm b.2.1 + sumL R_Note.cm b.2.2) = _
  rw [cm_i64s, cm_i64s, cm_notes]
  omega
theorem cm_boxes : ∀ L : List D_Box, sumL R_Box.cm L ≤ 2 * R_Mail.sz L
  | [] => Nat.zero_le _
  | x :: xs => by
    have h := cm_boxes xs
    have e : R_Mail.sz (x :: xs) = (x :: xs).length + (R_Box.sz x + sumL R_Box.sz xs) := rfl
    have e2 : R_Mail.sz xs = xs.length + sumL R_Box.sz xs := rfl
    have e3 : R_Box.sz x = (x.1.length + sumL I.sz x.1) + ((x.2.1.length + sumL I.sz x.2.1) + (x.2.2.length + sumL R_Note.sz x.2.2)) := rfl
    have e4 := cm_Box x
    simp only [sumL, List.length_cons] at e ⊢
    omega
theorem cvs_Mail {m : D_Mail} (h : R_Mail.sz m ≤ 1048576) : R_Mail.cv m ≤ 8388608 := by
  have h1 := cm_boxes m
  show sumL R_Box.cm m ≤ _
  omega
end Go.Proofs.YtlgflddljhldhaaGreat.RepC
end
section
namespace Go.Proofs.YtlgflddljhldhaaGreat.RepC
open Go.RowKit RowC ValC SpanC KeptC CfC
set_option linter.unusedVariables false
set_option linter.unusedSimpArgs false
theorem sum_le {α : Type} {f : α → Nat} {c : Nat} : ∀ {L : List α}, (∀ x ∈ L, f x ≤ c) → sumL f L ≤ c * L.length
  | [], _ => Nat.zero_le _
  | x :: xs, h => by
    have h1 := sum_le (L := xs) fun y hy => h y (List.mem_cons_of_mem _ hy)
    have h2 := h x List.mem_cons_self
    simp only [sumL, List.length_cons, Nat.mul_add, Nat.mul_one]
    omega
theorem right_box {d : D_Config} {m : D_Mail} (h : mailP d m) {x : D_Box} (hx : x ∈ m) : x.1.length ≤ 3 ∧ x.2.1.length ≤ 3 ∧ x.2.2.length ≤ 12 := by
  obtain ⟨i, hi⟩ := List.getElem?_of_mem hx
  obtain ⟨p, _, hb, _, h3⟩ := mail_pair h hi
  have h1 := hb.1
  have h2 := hb.2.1
  exact ⟨by omega, by omega, hb.2.2.1⟩
theorem out_small {L : List D_Box} {n : Int} (hl : L.length ≤ 4) (h : ∀ x ∈ L, x.1.length ≤ 4 ∧ x.2.1.length ≤ 4 ∧ x.2.2.length ≤ 13) : R_MailOut.cv (L, n) ≤ 1048576 := by
  rw [cvd_MailOut]
  have h1 := sum_le (f := R_Box.cm) (c := 34) (L := L) fun x hx => by
    have h2 := h x hx
    rw [cm_Box]
    omega
  omega
theorem sets_MailOut {w : World} {g : Nat} {v0 v1 : Value} {t : TypeId} (h : Blk w g t #[.slice none 0 0, .int .i64 0]) : Blk ((w.setCell ⟨g, 0, none⟩ v0).setCell ⟨g, 1, none⟩ v1) g t #[v0, v1] := Blk.as ((h.set 0 v0).set 1 v1) (by kernel_rfl)
theorem soff_MailOut (w : World) (g : Nat) (v0 v1 : Value) : Off (fun x => x = g) w ((w.setCell ⟨g, 0, none⟩ v0).setCell ⟨g, 1, none⟩ v1) := (((Off.refl (fun x => x = g) w).setCell (p := ⟨g, 0, none⟩) rfl v0).setCell (p := ⟨g, 1, none⟩) rfl v1)
end Go.Proofs.YtlgflddljhldhaaGreat.RepC
end
section
namespace Go.Proofs.YtlgflddljhldhaaGreat.RepC
open Go.RowKit RowC ValC SpanC KeptC CfC
set_option linter.unusedVariables false
set_option linter.unusedSimpArgs false
theorem set_small {d : D_Config} {m : D_Mail} {k : Nat} {b : D_Box} {y : D_Box} (h : mailB d m = true) (hb : m[k]? = some b) (h0 : y.1.length ≤ b.1.length + 1) (h1 : y.2.1.length ≤ b.2.1.length) (h2 : y.2.2.length ≤ b.2.2.length + 1) : R_MailOut.cv (m.set k y, 0) ≤ 1048576 := by
  have hm := mailB_iff.1 h
  refine out_small (by rw [List.length_set]; exact mail_len hm) fun x hx => ?_
  rcases List.mem_or_eq_of_mem_set hx with h3 | rfl
  · have h4 := right_box hm h3
    omega
  · have h4 := right_box hm (List.mem_of_getElem? hb)
    omega
theorem code_small (n : Int) : R_MailOut.cv ([], n) ≤ 1048576 := out_small (Nat.zero_le _) fun x hx => by cases hx
end Go.Proofs.YtlgflddljhldhaaGreat.RepC
end
