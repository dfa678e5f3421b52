/- A label and its text, there and back: what the law on labels asks. -/
import Derived.Test.YtdimpopkkjpddaaDoorReadMath
namespace Go.Proofs.YtdimpopkkjpddaaDoor.LabC
open Go.RowKit KeptC
set_option linter.unusedVariables false

theorem textV_small (l s : Int) : (textV l s).size ≤ 8000 := by
  unfold textV
  split
  · rename_i h
    obtain ⟨h1, h2, h3, h4⟩ := (rB_iff _ _).1 h
    obtain ⟨a, rfl⟩ : ∃ a : Nat, l = (a : Int) := ⟨l.toNat, by omega⟩
    obtain ⟨b, rfl⟩ : ∃ b : Nat, s = (b : Int) := ⟨s.toNat, by omega⟩
    have ha : a = 0 ∨ a = 1 ∨ a = 2 ∨ a = 3 := by omega
    have hb : b = 0 ∨ b = 1 ∨ b = 2 ∨ b = 3 ∨ b = 4 ∨ b = 5 ∨ b = 6 ∨ b = 7 := by omega
    rcases ha with rfl | rfl | rfl | rfl <;> rcases hb with rfl | rfl | rfl | rfl | rfl | rfl | rfl | rfl <;> decide +kernel
  · show (0 : Nat) ≤ 8000
    omega
/-- the label whose text is not empty is read from it -/
theorem text_back {l s l' s' c' : Int} (h : ReadP (textV l s) l' s' c') (hne : textV l s ≠ { data := #[] }) : l' = l ∧ s' = s ∧ c' = 0 := by
  have hz := textV_small l s
  have hr : rB l s = true := by
    cases hq : rB l s with
    | true => rfl
    | false => exact absurd (by unfold textV; rw [hq]; rfl) hne
  obtain ⟨h1, h2, h3, h4⟩ := (rB_iff _ _).1 hr
  have ht : textV l s = txt l s 3 := text_yes hr
  have hT : IsText (textV l s) l.toNat s.toNat := ⟨by omega, by omega, by rw [ht, Int.toNat_of_nonneg h1, Int.toNat_of_nonneg (by omega)]⟩
  have hP : ReadP (textV l s) l s 0 := .inr (.inl ⟨hz, l.toNat, s.toNat, hT, by omega, by omega, rfl⟩)
  exact read_one h hP
/-- the text that is read is the label's text -/
theorem read_back {t : ByteArray} {l s c : Int} (h : ReadP t l s c) (hc : c = 0) : textV l s = t := by
  subst hc
  rcases h with ⟨_, _, _, h⟩ | ⟨_, a, b, hT, rfl, rfl, _⟩ | ⟨_, _, _, _, h⟩
  · exact absurd h (by decide)
  · rw [text_nat a b hT.1 hT.2.1]
    exact (bytes_inj hT.2.2).symm
  · exact absurd h (by decide)
end Go.Proofs.YtdimpopkkjpddaaDoor.LabC
