/- The laws' comparisons of spans and of numbers; what an inserted span leaves. -/
import Derived.Test.YtphklknaagjmpaaSpDraw3
import Derived.Test.YtphklknaagjmpaaSqFirst3
import Derived.Deep.QuietTactic
namespace Go.Proofs.Ytphklknaagjmpaa.SpanC
open Go.RowKit KeptC RowC ValC
set_option linter.unusedVariables false
set_option linter.unusedSimpArgs false

theorem bdrewN' {B : Nat} {w W : World} (h : Below B w W) (n : Nat) : Below B w (W.drewN n) := ⟨h.os, h.tape, h.output, h.size, h.block⟩
set_option maxRecDepth 100000 in
set_option maxHeartbeats 1600000 in
theorem lwspans_v {qa qb : Option Addr} {n ca cb : Nat} {f h : Nat → Int × Int} {w : World} (hn : n ≤ 1048576) (h1 : PA w qa n f) (h2 : PA w qb n h) (he : ∀ i, i < n → f i = h i) :
    Calls Try.prog 10 #[.slice qa n ca, .slice qb n cb] w fun e w' => e = .returned (.bool true) ∧ Below w.heap.size w w' := by
  have H1 := Lib.hid h1
  have H2 := Lib.hid h2
  have HE := Lib.hid he
  clear h1 h2 he
  go_enter Try.func10, Try.ntmps10
  go_wp2
  go_loopw [5] (fun i wr => ∃ k : Nat, k ≤ n ∧ i = .int .i64 k ∧ Below w.heap.size w wr) (fun i _ => n - (intOf i).toNat)
  case atStart => exact ⟨0, Nat.zero_le _, rfl, Below.refl _ _⟩
  case round =>
    obtain ⟨k, hk, rfl, hb⟩ := hrel
    have HB := Lib.hid hb
    by_cases hlt : k < n
    · obtain ⟨g, o, rfl, hgl, hc0, hc1⟩ := (H1.out.bel hb) k hlt
      obtain ⟨g', o', rfl, hgl', hd0, hd1⟩ := (H2.out.bel hb) k hlt
      rw [← HE.out k hlt] at hd0 hd1
      have hi0 : (0 : Int) ≤ (k : Int) := Int.natCast_nonneg _
      have hi1 : (k : Int) < (n : Int) := by omega
      clear hb
      go_wp2_with fail
      go_quiet (fail)
      all_goals
        go_wp2
        go_roundw
        case rel => exact ⟨k + 1, by omega, by go_num, by first | exact bdrewN' HB.out _ | exact HB.out.drew | exact HB.out⟩
        case measure => simp [intOf]; omega
    · clear hb
      go_wp2
      go_ret
      exact ⟨rfl, HB.out⟩
/-- n numbers at the slice's address -/
def PI (W : World) (qa : Option Addr) (n : Nat) (L : List Nat) : Prop := ∀ i, i < n → ∃ g o, qa = some ⟨g, o, none⟩ ∧ g < W.heap.size ∧ W.cell? ⟨g, o + i, none⟩ = some (.int .i64 (L.getD i 0 : Nat))
theorem PI.bel {W W' : World} {qa : Option Addr} {n : Nat} {L : List Nat} (h : PI W qa n L) (hb : Below W.heap.size W W') : PI W' qa n L := fun i hi => by
  obtain ⟨g, o, e, hg, h1⟩ := h i hi
  exact ⟨g, o, e, Nat.lt_of_lt_of_le hg hb.size, (hb.cell (p := ⟨g, _, none⟩) hg).trans h1⟩
theorem resN_pi {Q : List Nat → Prop} {w : World} {e : Ending} {w' : World} (h : ResN Q w e w') : ∃ a c L, e = .returned (.slice a L.length c) ∧ Q L ∧ PI w' a L.length L ∧ Below w.heap.size w w' := by
  obtain ⟨v, L, rfl, hq, hrow, hb⟩ := resN_elim h
  obtain ⟨h1, a, c, rfl, hnc, h3⟩ := hrow
  refine ⟨a, c, L, rfl, hq, fun i hi => ?_, hb⟩
  obtain ⟨g, rfl, hg, hc, _⟩ := h3 (by omega)
  exact ⟨g, 0, rfl, h1 g hg, by have := hc i (by omega); simpa [ic] using this⟩
set_option maxRecDepth 100000 in
set_option maxHeartbeats 1600000 in
theorem lwnums_v {qa qb : Option Addr} {n ca cb : Nat} {L : List Nat} {w : World} (hn : n ≤ 1048576) (h1 : PI w qa n L) (h2 : PI w qb n L) :
    Calls Try.prog 13 #[.slice qa n ca, .slice qb n cb] w fun e w' => e = .returned (.bool true) ∧ Below w.heap.size w w' := by
  have H1 := Lib.hid h1
  have H2 := Lib.hid h2
  clear h1 h2
  go_enter Try.func13, Try.ntmps13
  go_wp2
  go_loopw [5] (fun i wr => ∃ k : Nat, k ≤ n ∧ i = .int .i64 k ∧ Below w.heap.size w wr) (fun i _ => n - (intOf i).toNat)
  case atStart => exact ⟨0, Nat.zero_le _, rfl, Below.refl _ _⟩
  case round =>
    obtain ⟨k, hk, rfl, hb⟩ := hrel
    have HB := Lib.hid hb
    by_cases hlt : k < n
    · obtain ⟨g, o, rfl, hgl, hc0⟩ := (H1.out.bel hb) k hlt
      obtain ⟨g', o', rfl, hgl', hd0⟩ := (H2.out.bel hb) k hlt
      have hi0 : (0 : Int) ≤ (k : Int) := Int.natCast_nonneg _
      have hi1 : (k : Int) < (n : Int) := by omega
      clear hb
      go_wp2_with fail
      go_quiet (fail)
      all_goals
        go_wp2
        go_roundw
        case rel => exact ⟨k + 1, by omega, by go_num, by first | exact bdrewN' HB.out _ | exact HB.out.drew | exact HB.out⟩
        case measure => simp [intOf]; omega
    · clear hb
      go_wp2
      go_ret
      exact ⟨rfl, HB.out⟩
/-- a row with a free span put into it is right -/
theorem ins_right {n : Nat} {f : Nat → Int × Int} {a b : Int} {p : Nat} {h : Nat → Int × Int} (hF : FreeB n f a b) (hn : n < 20) (hp : PlaceP n f a p) (hh : ∀ i, i < n + 1 → h i = insF f p (a, b) i) : SpR (n + 1) h := by
  obtain ⟨hS, hP, hf⟩ := hF
  have hpn := hp.1
  have hfi := (fits_iff hS hP.2.1 hp).2 hf
  refine ⟨by omega, fun i hi => ⟨?_, fun hpos => ?_⟩⟩
  · rw [hh i hi]
    unfold insF
    by_cases h1 : i < p
    · rw [if_pos h1]; exact (hS.2 i (by omega)).1
    · rw [if_neg h1]
      by_cases h2 : i = p
      · rw [if_pos h2]; exact (spB_iff _ _).2 hP
      · rw [if_neg h2]; exact (hS.2 (i - 1) (by omega)).1
  · rw [hh i hi, hh (i - 1) (by omega)]
    unfold insF
    by_cases h1 : i < p
    · rw [if_pos h1, if_pos (by omega)]; exact (hS.2 i (by omega)).2 hpos
    · rw [if_neg h1]
      by_cases h2 : i = p
      · rw [if_pos h2, if_pos (by omega)]; exact hp.2.1 (i - 1) (by omega)
      · rw [if_neg h2]
        by_cases h3 : i - 1 = p
        · rw [if_neg (by omega), if_pos h3, h3]
          rcases hfi with e | e
          · omega
          · exact e
        · rw [if_neg (by omega), if_neg h3]
          have := (hS.2 (i - 1) (by omega)).2 (by omega)
          exact this
/-- and what was put is no longer free -/
theorem ins_taken {n : Nat} {f : Nat → Int × Int} {a b : Int} {p : Nat} {h : Nat → Int × Int} (hF : FreeB n f a b) (hp : PlaceP n f a p) (hh : ∀ i, i < n + 1 → h i = insF f p (a, b) i) : ¬ FreeB (n + 1) h a b := fun hG => by
  have hpn := hp.1
  have h1 := hG.2.2 p (by omega)
  rw [hh p (by omega)] at h1
  simp only [insF, Nat.lt_irrefl, if_false, if_true] at h1
  have := hF.2.1.2.1
  exact h1 ⟨this, this⟩
end Go.Proofs.Ytphklknaagjmpaa.SpanC
