/- UseOf of the model: a contract. -/
import Derived.Test.YtjhcphmehlihcaaUsU1
namespace Go.Proofs.Ytjhcphmehlihcaa.RepC
open Go.RowKit RowC ValC SpanC KeptC NameC SortC Go.ChangeShapes Go.Maps
set_option linter.unusedVariables false
set_option linter.unusedSimpArgs false

theorem FU_long {L : List D_Use} (h : UsesR L) {a : AC} (ha : 20 < a.2.size) : FU L a = none := FU_miss fun i y hi hy e => by
  have := (h.2 i y hy).1.2.1.2.1
  rw [← e] at ha
  simp only [ku] at ha
  omega
theorem ofV_long {L : List D_Use} {a : AC} (ha : 20 < a.2.size) : ofV L a = 0 := by
  unfold ofV
  split
  · rename_i h; rw [FU_long (usesB_iff.1 h) ha]; rfl
  · rfl
theorem ku_iff {x0 x1 x3 l0 l1 : Int} {x2 s : ByteArray} : ku ((x0, x1), x2, x3) = ((l0, l1), s) ↔ decide (((x0, x1) : Int × Int) = (l0, l1)) = true ∧ (x2.toList == s.toList) = true := by
  simp only [ku, Prod.mk.injEq, decide_eq_true_eq, beq_iff_eq]
  constructor
  · rintro ⟨h, rfl⟩; exact ⟨h, rfl⟩
  · rintro ⟨h, e⟩; exact ⟨h, bl_inj e⟩
theorem nk_step {L : List D_Use} {k : Nat} {x : D_Use} {a : AC} (h : ∀ i y, i < k → L[i]? = some y → ku y ≠ a) (hx : L[k]? = some x) (hk : ku x ≠ a) : ∀ i y, i < k + 1 → L[i]? = some y → ku y ≠ a := fun i y hi hy => by
  rcases Nat.lt_succ_iff_lt_or_eq.1 hi with h1 | h1
  · exact h i y h1 hy
  · subst h1; rw [hx] at hy; cases hy; exact hk
set_option maxRecDepth 100000 in
set_option maxHeartbeats 3200000 in
theorem useof_spec {L : List D_Use} {a : Option Addr} {cap : Nat} {l0 l1 : Int} {s : ByteArray} {W : World} (h : RdSl R_Use W W.heap.size L a cap) (hs : s.size ≤ maxLen) :
    Calls Try.prog 19 #[.slice a L.length cap, .agg #[.int .i64 l0, .int .i64 l1], .string s] W (OfC L ((l0, l1), s) W) := by
  have hn := us_len h
  have H := Lib.hid h
  clear h
  unfold maxLen at hs
  obtain ⟨wa, hwa⟩ : ∃ w, w = W.alloc (.cells #[.int .i64 l0, .int .i64 l1] 25) := ⟨_, rfl⟩
  have HBA := Lib.hid (show Below W.heap.size W wa from by rw [hwa]; exact (Below.refl _ _).alloc (Nat.le_refl _) _)
  have HPA := Lib.hid (show Blk wa W.heap.size 25 #[.int .i64 l0, .int .i64 l1] from by rw [hwa]; exact Blk.new _ _ _)
  have HA := Lib.hid ((H.out.below R_Use_ok HBA.out).more R_Use_ok HBA.out.size)
  by_cases h8 : s.size ≤ 8000
  rotate_left
  · have hd : decide ((8000 : Int) < (s.size : Int)) = true := decide_eq_true (by omega)
    have HE := Lib.hid (ofV_long (L := L) (a := ((l0, l1), s)) (by show 20 < s.size; omega))
    rw [hwa] at HBA
    clear hwa HPA HA
    go_enter Try.func19, Try.ntmps19
    go_wp2
    go_ret
    exact ⟨by rw [HE.out]; rfl, HBA.out⟩
  have hd : decide ((8000 : Int) < (s.size : Int)) = false := decide_eq_false (by omega)
  go_enter Try.func19, Try.ntmps19
  go_wp2_with fail
  rw [← hwa]
  clear hwa
  refine (uses_spec HA.out).mono ?_
  intro e w1 h
  obtain ⟨rfl, hb⟩ := isB_elim h
  have HB1 := Lib.hid (HBA.out.trans (hb.mono HBA.out.size))
  have HP1 := Lib.hid (HPA.out.call hb)
  have HA1 := Lib.hid ((HA.out.below R_Use_ok hb).more R_Use_ok hb.size)
  clear h hb HPA HA
  cases hq : usesB L with
  | false =>
    have HE := Lib.hid (ofV_no (L := L) ((l0, l1), s) hq)
    clear hq
    go_wp2
    go_ret
    exact ⟨by rw [HE.out]; rfl, HB1.out⟩
  | true =>
    have HE := Lib.hid (ofV_yes (L := L) ((l0, l1), s) hq)
    have HR := Lib.hid (usesB_iff.1 hq)
    clear hq
    go_wp2
    go_loopw [7] (fun i wr => ∃ k : Nat, k ≤ L.length ∧ i = .int .i64 k ∧ Hid (∀ i y, i < k → L[i]? = some y → ku y ≠ ((l0, l1), s)) ∧ Below w1.heap.size w1 wr) (fun i _ => L.length - (intOf i).toNat)
    case atStart => exact ⟨0, Nat.zero_le _, rfl, Lib.hid fun i y h => absurd h (Nat.not_lt_zero _), Below.refl _ _⟩
    case round =>
      obtain ⟨k, hk, rfl, HN, hB⟩ := hrel
      have HB := Lib.hid hB
      have HBW := Lib.hid (HB1.out.trans (hB.mono HB1.out.size))
      have hsz := hB.size
      by_cases hlt : k < L.length
      · skip
        obtain ⟨⟨⟨x0, x1⟩, x2, x3⟩, hx⟩ := el_some hlt
        have HX := Lib.hid hx
        obtain ⟨g, o, us, rfl, hg, hu, hr⟩ := (HA1.out.below R_Use_ok hB).at_ hx
        obtain ⟨rfl, b_x2⟩ := rd_Use hr
        have e0 : wr.cell? ⟨g, o + k * 4, none⟩ = some (.int .i64 x0) := by simpa [size_UseS, Nat.add_assoc] using hu 0 _ rfl
        have e1 : wr.cell? ⟨g, o + k * 4 + 1, none⟩ = some (.int .i64 x1) := by simpa [size_UseS, Nat.add_assoc] using hu 1 _ rfl
        have e2 : wr.cell? ⟨g, o + k * 4 + 2, none⟩ = some (.string x2) := by simpa [size_UseS, Nat.add_assoc] using hu 2 _ rfl
        have e3 : wr.cell? ⟨g, o + k * 4 + 3, none⟩ = some (.int .i64 x3) := by simpa [size_UseS, Nat.add_assoc] using hu 3 _ rfl
        have HPR := Lib.hid (HP1.out.call hB)
        have q0 : wr.cell? ⟨W.heap.size, 0, none⟩ = some (.int .i64 l0) := HPR.out.at_ 0 rfl
        have q1 : wr.cell? ⟨W.heap.size, 1, none⟩ = some (.int .i64 l1) := HPR.out.at_ 1 rfl
        have hi0 : (0 : Int) ≤ (k : Int) := Int.natCast_nonneg _
        have hi1 : (k : Int) < (L.length : Int) := by omega
        obtain ⟨b, hb⟩ : ∃ b, decide (((x0, x1) : Int × Int) = (l0, l1)) = b := ⟨_, rfl⟩
        have hq := eql_lab x0 x1 l0 l1 b hb
        clear hu hr hg hB hx
        cases b with
        | false =>
          have HN2 := Lib.hid (nk_step HN.out HX.out (fun he => by have := (ku_iff.1 he).1; rw [hb] at this; cases this))
          clear hb
          go_wp2_with fail
          go_quiet (fail)
          all_goals
            go_wp2
            go_roundw
            case rel => exact ⟨k + 1, by omega, by go_num, Lib.hid HN2.out, by first | exact HB.out | exact HB.out.drew | exact bdrewN HB.out _⟩
            case measure => simp [intOf]; omega
        | true =>
          obtain ⟨c, hc⟩ : ∃ c, (x2.toList == s.toList) = c := ⟨_, rfl⟩
          cases c with
          | false =>
            have HN2 := Lib.hid (nk_step HN.out HX.out (fun he => by have := (ku_iff.1 he).2; rw [hc] at this; cases this))
            clear hb
            go_wp2_with fail
            go_quiet (fail)
            all_goals
              go_wp2
              go_roundw
              case rel => exact ⟨k + 1, by omega, by go_num, Lib.hid HN2.out, by first | exact HB.out | exact HB.out.drew | exact bdrewN HB.out _⟩
              case measure => simp [intOf]; omega
          | true =>
            have HF := Lib.hid (show ofV L ((l0, l1), s) = x3 from by rw [HE.out, FU_hit HN.out HX.out (ku_iff.2 ⟨hb, hc⟩)]; rfl)
            clear hb
            go_wp2_with fail
            go_quiet (fail)
            all_goals
              go_wp2
              go_ret
              exact ⟨by rw [HF.out]; rfl, by first | exact HBW.out | exact HBW.out.drew | exact bdrewN HBW.out _⟩
      · have hdl : decide ((k : Int) < (L.length : Int)) = false := decide_eq_false (by omega)
        obtain rfl : k = L.length := by omega
        have HF := Lib.hid (show ofV L ((l0, l1), s) = 0 from by rw [HE.out, FU_miss HN.out]; rfl)
        clear hB
        go_wp2
        go_ret
        exact ⟨by rw [HF.out]; rfl, HBW.out⟩
end Go.Proofs.Ytjhcphmehlihcaa.RepC
