/- Of this claim's texts the part 21: MlTk MlTb. -/
import Derived.Test.YtlgflddljhldhaaGreatPN18
import Derived.Test.YtlgflddljhldhaaGreatPN20
section
namespace Go.Proofs.YtlgflddljhldhaaGreat.RepC
open Go.RowKit RowC ValC SpanC KeptC CfC
set_option linter.unusedVariables false
set_option linter.unusedSimpArgs false
theorem nil_ow {α : Type} {E : Rp α} {W : World} {S : Nat → Prop} : OwSl E W S ([] : List α) none 0 := ⟨Nat.le_refl _, by unfold maxLen; omega, fun h => absurd h (Nat.lt_irrefl _)⟩
theorem out_code {W : World} {S : Nat → Prop} (n : Int) : R_MailOut.ow W S ([], n) [.slice none 0 0, .int .i64 n] := mkow_MailOut (L0 := []) (T0 := fun _ => False) (fun k h => h.elim) nil_ow
end Go.Proofs.YtlgflddljhldhaaGreat.RepC
end
section
namespace Go.Proofs.YtlgflddljhldhaaGreat.RepC
open Go.RowKit RowC ValC SpanC KeptC CfC
set_option linter.unusedVariables false
theorem box_small {d : D_Config} {m : D_Mail} (h : mailP d m) : ∀ x ∈ m, x.1.length ≤ 1048576 ∧ x.2.1.length ≤ 1048576 ∧ x.2.2.length ≤ 1048576 := fun x hx => by
  obtain ⟨i, hi⟩ := List.getElem?_of_mem hx
  obtain ⟨p, _, hb, _, h3⟩ := mail_pair h hi
  have h1 := hb.1
  have h2 := hb.2.1
  have h4 := hb.2.2.1
  exact ⟨by omega, by omega, by omega⟩
theorem mail_len {d : D_Config} {m : D_Mail} (h : mailP d m) : m.length ≤ 4 := by rw [h.2.1]; exact pairs4 h
end Go.Proofs.YtlgflddljhldhaaGreat.RepC
end
