/- copyUses: a contract. -/
import Derived.Test.YtjhcphmehlihcaaUsB2
namespace Go.Proofs.Ytjhcphmehlihcaa.RepC
open Go.RowKit RowC ValC SpanC KeptC NameC SortC Go.ChangeShapes Go.Maps
set_option linter.unusedVariables false
set_option linter.unusedSimpArgs false
set_option maxRecDepth 100000

theorem setCell_same {w : World} {g i : Nat} {v : Value} (h : w.cell? ⟨g, i, none⟩ = some v) : w.setCell ⟨g, i, none⟩ v = w := by
  have e : (w.setCell ⟨g, i, none⟩ v).heap = w.heap := by
    unfold World.setCell
    apply Array.ext_getElem?
    intro j
    show (Array.modify _ _ _)[j]? = _
    rw [Array.getElem?_modify]
    by_cases hj : g = j
    · subst hj
      rw [if_pos rfl]
      unfold World.cell? at h
      cases ho : w.heap[g]? with
      | none => rfl
      | some o =>
        rw [ho] at h
        cases o with
        | cells c t f =>
          simp at h
          simp only [Option.map_some, Option.isSome_none, Bool.false_eq_true, if_false]
          congr 2
          apply Array.ext_getElem?
          intro q
          rw [Array.getElem?_setIfInBounds]
          by_cases hq : i = q
          · subst hq
            rw [if_pos rfl]
            have := (Array.getElem?_eq_some_iff.1 h).1
            rw [if_pos this, h]
          · rw [if_neg hq]
        | _ => simp at h
    · rw [if_neg hj]
  have e2 : w.setCell ⟨g, i, none⟩ v = { w with heap := (w.setCell ⟨g, i, none⟩ v).heap } := rfl
  rw [e2, e]
/-- the cells of a row of uses -/
theorem URow.row {w : World} {lo : Nat} {v : Value} {L : List D_Use} (h : URow w lo v L) : ∃ a c, v = .slice a L.length c ∧ ∀ i x0 x1 x2 x3, L[i]? = some ((x0, x1), x2, x3) → ∃ g, a = some ⟨g, 0, none⟩ ∧ g < w.heap.size ∧ (∀ j, w.frozen? ⟨g, j, none⟩ = false) ∧ x2.size ≤ maxLen ∧
    w.cell? ⟨g, i * 4, none⟩ = some (.int .i64 x0) ∧ w.cell? ⟨g, i * 4 + 1, none⟩ = some (.int .i64 x1) ∧ w.cell? ⟨g, i * 4 + 2, none⟩ = some (.string x2) ∧ w.cell? ⟨g, i * 4 + 3, none⟩ = some (.int .i64 x3) := by
  obtain ⟨xs, hi, h0, h1⟩ := h
  obtain ⟨a, c, rfl, h2, h3, h4⟩ := h1.done
  refine ⟨a, c, rfl, fun i x0 x1 x2 x3 hx => ?_⟩
  obtain ⟨g, Sf, rfl, hg, hf, _, _, hel⟩ := h4 (Nat.lt_of_le_of_lt (Nat.zero_le i) (List.getElem?_eq_some_iff.1 hx).1)
  obtain ⟨us, hu, ho⟩ := hel i _ hx
  obtain ⟨rfl, hb⟩ := ow0_Use ho
  refine ⟨g, rfl, Nat.lt_of_lt_of_le hg.2 h1.le, hf, hb, ?_, ?_, ?_, ?_⟩
  · simpa [size_UseS, Nat.add_assoc] using hu 0 _ rfl
  · simpa [size_UseS, Nat.add_assoc] using hu 1 _ rfl
  · simpa [size_UseS, Nat.add_assoc] using hu 2 _ rfl
  · simpa [size_UseS, Nat.add_assoc] using hu 3 _ rfl
set_option maxHeartbeats 1600000 in
theorem copy_impl {L : List D_Use} {a : Option Addr} {cap : Nat} {W : World} (hn : L.length ≤ 1048576) (hs : ∀ x ∈ L, x.2.1.size ≤ 1048576) (h : RdSl R_Use W W.heap.size L a cap) :
    Calls Try.prog 42 #[.slice a L.length cap] W (NewS R_Use L W) := by
  have HC := Lib.hid (clone_use (by omega) h)
  have HS := Lib.hid hs
  clear hs h
  go_enter Try.func42, Try.ntmps42
  go_wp2_with fail
  refine HC.out.mono ?_
  rintro e w1 ⟨v, rfl, hv, hb⟩
  have HV := Lib.hid hv
  have HB := Lib.hid hb
  obtain ⟨b, c, rfl, hrow⟩ := hv.row
  have HR := Lib.hid hrow
  clear hv hb hrow
  go_wp2_with fail
  go_loopw [10] (fun i wr => ∃ k : Nat, k ≤ L.length ∧ i = .int .i64 k ∧ Below w1.heap.size w1 wr) (fun i _ => L.length - (intOf i).toNat)
  case atStart => exact ⟨0, Nat.zero_le _, rfl, Below.refl _ _⟩
  case round =>
    obtain ⟨k, hk, rfl, hB⟩ := hrel
    obtain ⟨wo, rfl⟩ : ∃ x, x = wr := ⟨_, rfl⟩
    have HBB := Lib.hid hB
    have hsz := hB.size
    by_cases hlt : k < L.length
    · skip
      obtain ⟨⟨⟨x0, x1⟩, x2, x3⟩, hx⟩ := el_some hlt
      obtain ⟨g, rfl, hg, hf, b_x2, f0, f1, f2, f3⟩ := HR.out k _ _ _ _ hx
      have H8 := Lib.hid (HS.out _ (List.mem_of_getElem? hx))
      have e0 := (hB.cell (p := ⟨g, k * 4, none⟩) hg).trans f0
      have e1 := (hB.cell (p := ⟨g, k * 4 + 1, none⟩) hg).trans f1
      have e2 := (hB.cell (p := ⟨g, k * 4 + 2, none⟩) hg).trans f2
      have e3 := (hB.cell (p := ⟨g, k * 4 + 3, none⟩) hg).trans f3
      have hi0 : (0 : Int) ≤ (k : Int) := Int.natCast_nonneg _
      have hi1 : (k : Int) < (L.length : Int) := by omega
      have HF2 := Lib.hid f2
      have HFF := Lib.hid hf
      obtain ⟨w2, hw2⟩ : ∃ w, w = wo.alloc (.cells #[.int .i64 x0, .int .i64 x1, .string x2, .int .i64 x3] 68) := ⟨_, rfl⟩
      have hbA : Below wo.heap.size wo w2 := by rw [hw2]; exact (Below.refl _ _).alloc (Nat.le_refl _) _
      have HB2 := Lib.hid (hB.trans (hbA.mono hsz))
      clear hx b_x2 f0 f1 f2 f3 hB hf hbA
      go_wp2_with fail
      rw [← hw2]
      clear hw2 e0 e1 e2 e3
      refine (CloneM.clone_any x2 _ H8.out).mono ?_
      rintro e w3 ⟨rfl, hb3⟩
      have HB3 := Lib.hid (HB2.out.trans (hb3.mono HB2.out.size))
      have e2 := (HB3.out.cell (p := ⟨g, k * 4 + 2, none⟩) hg).trans HF2.out
      have ef := (HB3.out.frozen (p := ⟨g, k * 4 + 2, none⟩) hg).trans (HFF.out _)
      have HSM := Lib.hid (setCell_same e2)
      clear hb3
      go_wp2
      go_roundw
      case rel => exact ⟨k + 1, by omega, by go_num, by first | exact HB3.out | (rw [HSM.out]; exact HB3.out)⟩
      case measure => simp [intOf]; omega
    · have hdl : decide ((k : Int) < (L.length : Int)) = false := decide_eq_false (by omega)
      clear hB
      go_wp2
      go_ret
      exact (HV.out.call HBB.out).news (Nat.le_refl _) (HB.out.trans (HBB.out.mono HB.out.size))
end Go.Proofs.Ytjhcphmehlihcaa.RepC
