/- The law on Chain, out of the contracts. -/
import Derived.Test.YtdapbomppjhdgaaChainImpl
namespace Go.Proofs.Ytdapbomppjhdgaa.LabC
open Go.RowKit KeptC

theorem resB_elim {P : Prop} {w : World} {e : Ending} {w' : World} (h : ResB P w e w') : ∃ b : Bool, e = .returned (.bool b) ∧ (b = true ↔ P) ∧ Below w.heap.size w w' := h
theorem made_elim {w : World} {n : Nat} {f : Nat → Int × Int} {e : Ending} {w' : World} (h : MadeRow w n f e w') : e = .returned (.slice (some ⟨w.heap.size, 0, none⟩) n n) ∧ Fill w n f n w' := h

set_option maxHeartbeats 1600000 in
theorem law_chain (a : Option Addr) (n cap : Nat) (f : Nat → Int × Int) (w : World) (hm : n ≤ 9223372036854775807) (HT : n ≤ 1048576 → ∀ W, Below w.heap.size w W → Calls Try.prog 20 #[.slice a n cap] W (MadeRow W n f)) :
    Calls Try.prog 7 #[.slice a n cap] w fun e w' => e = .returned (.bool true) ∧ Below w.heap.size w w' := by
  have hs := fun W => szS a n cap W hm
  by_cases hn : n ≤ 1048576
  · have HT := Lib.hid (HT hn)
    rename_i HT0
    clear HT0
    have hl : (0 : Int) ≤ 1048576 - (n : Int) := by omega
    simp only [hn, if_true] at hs
    go_enter Try.func7, Try.ntmps7
    go_wp2_with fail
    refine (hs _).mono ?_
    rintro e w' ⟨rfl, rfl⟩
    clear hs
    go_wp2_with fail
    refine (HT.out _ (Below.refl _ _)).mono ?_
    intro e w1 h1
    obtain ⟨rfl, F1⟩ := made_elim h1
    have HF1 := Lib.hid F1
    clear h1 F1
    go_wp2_with fail
    refine (chain_spec _ n f _ hn HF1.out.row HF1.out.lt).mono ?_
    intro e w2 h2
    obtain ⟨b, rfl, hb, hB⟩ := resB_elim h2
    have Hb := Lib.hid hb
    have HB2 := Lib.hid (HF1.out.below.trans (hB.mono (Nat.le_of_lt HF1.out.lt)))
    clear h2 hb hB
    go_wp2_with fail
    refine (HT.out _ HB2.out).mono ?_
    intro e w3 h3
    obtain ⟨rfl, F3⟩ := made_elim h3
    have HF3 := Lib.hid F3
    have HB3 := Lib.hid (HB2.out.trans (F3.below.mono HB2.out.size))
    clear h3 F3
    go_wp2_with fail
    refine (chain_impl _ n f _ hn HF3.out.row HF3.out.lt).mono ?_
    intro e w4 h4
    obtain ⟨c, rfl, hc, hB⟩ := resB_elim h4
    have hbc : c = b := by rw [Bool.eq_iff_iff]; exact hc.trans Hb.out.symm
    subst hbc
    have HB34 := Lib.hid hB
    have HB4 := Lib.hid (HB3.out.trans (hB.mono HB3.out.size))
    clear h4 hc hB Hb
    go_wp2_with fail
    refine (HT.out _ HB4.out).mono ?_
    intro e w5 h5
    obtain ⟨rfl, F5⟩ := made_elim h5
    have HF5 := Lib.hid F5
    have HB5 := Lib.hid (HB4.out.trans (F5.below.mono HB4.out.size))
    clear h5 F5
    go_wp2_with fail
    refine (eqS _ _ n f _ hn ((HF3.out.row.below HB34.out HF3.out.lt).below HF5.out.below (Nat.lt_of_lt_of_le HF3.out.lt HB34.out.size)) HF5.out.row (Nat.lt_of_lt_of_le (Nat.lt_of_lt_of_le HF3.out.lt HB34.out.size) HF5.out.below.size) HF5.out.lt).mono ?_
    rintro e w6 ⟨rfl, hb6⟩
    have HB6 := Lib.hid (HB5.out.trans (hb6.mono HB5.out.size))
    clear hb6
    go_wp2
    all_goals
      go_ret
      exact ⟨rfl, HB6.out⟩
  · simp only [hn, if_false] at hs
    go_enter Try.func7, Try.ntmps7
    go_wp2_with (go_at_call 18; refine (hs _).mono ?_; rintro e w' ⟨rfl, rfl⟩)
    go_ret
    exact ⟨rfl, Below.refl _ _⟩
end Go.Proofs.Ytdapbomppjhdgaa.LabC
