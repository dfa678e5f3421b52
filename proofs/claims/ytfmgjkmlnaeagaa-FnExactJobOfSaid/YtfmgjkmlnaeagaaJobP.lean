/- Lists of jobs numbered by label; JobsRight of the program: contracts. -/
import Derived.Test.YtfmgjkmlnaeagaaJobW
import Derived.WalkArith
namespace Go.Proofs.Ytfmgjkmlnaeagaa.RepC
open Go.RowKit RowC ValC SpanC KeptC Go.Maps
set_option linter.unusedVariables false
set_option linter.unusedSimpArgs false

theorem count_snoc (G : List D_Job) (d : D_Job) : CountUp (G ++ [d]) ↔ CountUp G ∧ d.2.1 = (G.length : Int) + 1 := by
  constructor
  · intro h
    refine ⟨fun i e he => h i e ?_, h G.length d (by simp)⟩
    rw [List.getElem?_append_left (List.getElem?_eq_some_iff.1 he).1]
    exact he
  · rintro ⟨h1, h2⟩ i e he
    by_cases hi : i < G.length
    · rw [List.getElem?_append_left hi] at he
      exact h1 i e he
    · rw [List.getElem?_append_right (by omega)] at he
      have hi2 : i = G.length := by
        have := (List.getElem?_eq_some_iff.1 he).1
        simp at this
        omega
      subst hi2
      simp at he
      subst he
      exact h2
theorem ofL_self (d : D_Job) : ofL d.1.1 d.1.2 d = true := by simp [ofL]
theorem ofL_eq {l s : Int} {d : D_Job} (h : ofL l s d = true) : l = d.1.1 ∧ s = d.1.2 := by
  simp [ofL] at h
  exact ⟨h.1.symm, h.2.symm⟩
theorem filt_snoc (L : List D_Job) (d : D_Job) (l s : Int) : (L ++ [d]).filter (ofL l s) = if ofL l s d = true then L.filter (ofL l s) ++ [d] else L.filter (ofL l s) := by
  rw [List.filter_append]
  split
  · rename_i h; simp [List.filter, h]
  · rename_i h; simp [List.filter, h]
/-- the numbers of the jobs of each label, one by one, are those of the lists by label -/
theorem ids_iff (L : List D_Job) : ∀ k, k ≤ L.length → ((∀ j, j < k → ∀ d, L[j]? = some d → d.2.1 = (cnt (L.take (j + 1)) d.1.1 d.1.2 : Nat)) ↔ ∀ l s, CountUp ((L.take k).filter (ofL l s))) := by
  intro k
  induction k with
  | zero => exact fun _ => ⟨fun _ l s i d hd => by simp at hd, fun _ j hj => absurd hj (Nat.not_lt_zero _)⟩
  | succ k ih =>
    intro hk
    obtain ⟨d, hd⟩ := el_some (L := L) (k := k) (by omega)
    have ih := ih (by omega)
    have ht := take_at hd
    have hc : (cnt (L.take (k + 1)) d.1.1 d.1.2 : Nat) = ((L.take k).filter (ofL d.1.1 d.1.2)).length + 1 := by
      unfold cnt
      rw [ht, filt_snoc, if_pos (ofL_self d)]
      simp
    constructor
    · intro h l s
      have h1 := ih.1 (fun j hj => h j (by omega)) l s
      rw [ht, filt_snoc]
      split
      · rename_i he
        obtain ⟨rfl, rfl⟩ := ofL_eq he
        refine (count_snoc _ _).2 ⟨h1, ?_⟩
        rw [h k (by omega) d hd, hc]
        simp
      · exact h1
    · intro h
      have hpre : ∀ l s, CountUp ((L.take k).filter (ofL l s)) := fun l s => by
        have := h l s
        rw [ht, filt_snoc] at this
        split at this
        · exact ((count_snoc _ _).1 this).1
        · exact this
      intro j hj e he
      by_cases hjk : j = k
      · subst hjk
        rw [hd] at he
        obtain rfl := Option.some.inj he
        have := h d.1.1 d.1.2
        rw [ht, filt_snoc, if_pos (ofL_self d)] at this
        have h2 := ((count_snoc _ _).1 this).2
        rw [hc, h2]
        simp
      · exact ih.2 hpre j (by omega) e he
theorem jobsR_of (L : List D_Job) : JobsR L ↔ L.length ≤ 96 ∧ (∀ (i : Nat) (d : D_Job), L[i]? = some d → JobRD d) ∧ ∀ l s, CountUp (L.filter (ofL l s)) := by
  have h := ids_iff L L.length (Nat.le_refl _)
  rw [List.take_of_length_le (Nat.le_refl _)] at h
  unfold JobsR okJ
  constructor
  · rintro ⟨h1, h2⟩
    exact ⟨h1, fun i d hd => (h2 i (el_lt hd) d hd).1, h.1 fun j hj d hd => (h2 j hj d hd).2⟩
  · rintro ⟨h1, h2, h3⟩
    exact ⟨h1, fun j hj d hd => ⟨h2 j d hd, h.2 h3 j hj d hd⟩⟩
theorem wf_of {n lo hi : Int} (h1 : lo ≤ n) (h2 : n ≤ hi) (hl : -100 ≤ lo) (hh : hi ≤ 100) : Wf n := WalkArith.wf_i64 (by omega)
theorem jobRD_wf {d : D_Job} (h : JobRD d) : Wf d.1.1 ∧ Wf d.1.2 := by
  have h1 := (LabC.rB_iff _ _).1 h.1
  unfold LabC.rP at h1
  exact ⟨WalkArith.wf_i64 (by omega), WalkArith.wf_i64 (by omega)⟩

set_option maxRecDepth 100000 in
set_option maxHeartbeats 3200000 in
theorem jobs_impl {L : List D_Job} {a : Option Addr} {cap : Nat} {W : World} (h : RdSl R_Job W W.heap.size L a cap) :
    Calls Try.prog 15 #[.slice a L.length cap] W (ResB (JobsR L) W) := by
  have hn : L.length ≤ 9223372036854775807 := by have h1 := h.1; have h2 := h.2.1; unfold maxLen at h2; omega
  have H := Lib.hid h
  clear h
  have JO := Lib.hid (jobsR_of L)
  by_cases h96 : 96 < L.length
  · have hd : decide ((96 : Int) < (L.length : Int)) = true := decide_eq_true (by omega)
    have HN := Lib.hid (show ¬ JobsR L from fun h => by have := h.1; omega)
    go_enter Try.func15, Try.ntmps15
    go_wp2
    go_ret
    exact resB_no HN.out (Below.refl _ _)
  have hd : decide ((96 : Int) < (L.length : Int)) = false := decide_eq_false (by omega)
  go_enter Try.func15, Try.ntmps15
  go_wp2
  go_loopw [10] (fun i wr => ∃ k : Nat, k ≤ L.length ∧ i = .int .i64 k ∧ Hid (∀ (j : Nat) (d : D_Job), j < k → L[j]? = some d → JobRD d) ∧ Below W.heap.size W wr) (fun i _ => L.length - (intOf i).toNat)
  case atStart => exact ⟨0, Nat.zero_le _, rfl, Lib.hid fun j d h => absurd h (Nat.not_lt_zero _), Below.refl _ _⟩
  case round =>
    obtain ⟨k, hk, rfl, HA, hB⟩ := hrel
    have HB := Lib.hid hB
    have hsz := hB.size
    by_cases hlt : k < L.length
    · obtain ⟨⟨⟨x0, x1⟩, x2, x3, x4, x5, x6, x7, L0⟩, hx⟩ := el_some hlt
      have HX := Lib.hid hx
      obtain ⟨g, o, us, rfl, hg, hu, hr⟩ := (H.out.below R_Job_ok hB).at_ hx
      obtain ⟨a0, c0, rfl, k_L0⟩ := rd_Job hr
      have e0 : wr.cell? ⟨g, o + k * 9, none⟩ = some (.int .i64 x0) := by simpa [sizeq_JobS, Nat.add_assoc] using hu 0 _ rfl
      have e1 : wr.cell? ⟨g, o + k * 9 + 1, none⟩ = some (.int .i64 x1) := by simpa [sizeq_JobS, Nat.add_assoc] using hu 1 _ rfl
      have e2 : wr.cell? ⟨g, o + k * 9 + 2, none⟩ = some (.int .i64 x2) := by simpa [sizeq_JobS, Nat.add_assoc] using hu 2 _ rfl
      have e3 : wr.cell? ⟨g, o + k * 9 + 3, none⟩ = some (.int .i64 x3) := by simpa [sizeq_JobS, Nat.add_assoc] using hu 3 _ rfl
      have e4 : wr.cell? ⟨g, o + k * 9 + 4, none⟩ = some (.int .i64 x4) := by simpa [sizeq_JobS, Nat.add_assoc] using hu 4 _ rfl
      have e5 : wr.cell? ⟨g, o + k * 9 + 5, none⟩ = some (.int .i64 x5) := by simpa [sizeq_JobS, Nat.add_assoc] using hu 5 _ rfl
      have e6 : wr.cell? ⟨g, o + k * 9 + 6, none⟩ = some (.int .i64 x6) := by simpa [sizeq_JobS, Nat.add_assoc] using hu 6 _ rfl
      have e7 : wr.cell? ⟨g, o + k * 9 + 7, none⟩ = some (.int .i64 x7) := by simpa [sizeq_JobS, Nat.add_assoc] using hu 7 _ rfl
      have e8 : wr.cell? ⟨g, o + k * 9 + 8, none⟩ = some (.slice a0 L0.length c0) := by simpa [sizeq_JobS, Nat.add_assoc] using hu 8 _ rfl
      have hi0 : (0 : Int) ≤ (k : Int) := Int.natCast_nonneg _
      have hi1 : (k : Int) < (L.length : Int) := by omega
      have hA : Below wr.heap.size wr (wr.alloc (.cells #[.int .i64 x0, .int .i64 x1, .int .i64 x2, .int .i64 x3, .int .i64 x4, .int .i64 x5, .int .i64 x6, .int .i64 x7, .slice a0 L0.length c0] 31)) := (Below.refl _ _).alloc (Nat.le_refl _) _
      have HR := Lib.hid (rd_mv I_ok (show RdSl I wr wr.heap.size L0 a0 c0 from k_L0.more I_ok hsz) hA)
      have HB1 := Lib.hid (hB.trans (hA.mono hsz))
      clear hB hx hu hr k_L0 hA
      go_wp2_with fail
      refine (jobright_impl HR.out).mono ?_
      intro e w2 h
      obtain ⟨q, rfl, hq, hb⟩ := resB_elim h
      have HB2 := Lib.hid (HB1.out.trans (hb.mono HB1.out.size))
      clear h hb e0 e1 e2 e3 e4 e5 e6 e7 e8
      cases q with
      | false =>
        have HN := Lib.hid (show ¬ JobsR L from fun h => by have := hq.2 ((JO.out.1 h).2.1 k _ HX.out); cases this)
        clear hq
        go_wp2
        go_ret
        exact resB_no HN.out HB2.out
      | true =>
        have HS := Lib.hid (show ∀ (j : Nat) (d : D_Job), j < k + 1 → L[j]? = some d → JobRD d from fun j d hj hd => by
          by_cases e : j = k
          · subst e
            have := HX.out
            rw [hd] at this
            obtain rfl := Option.some.inj this
            exact hq.1 rfl
          · exact HA.out j d (by omega) hd)
        clear hq
        go_wp2
        go_roundw
        case rel => exact ⟨k + 1, by omega, by go_num, HS, HB2.out⟩
        case measure => simp [intOf]; omega
    · have HY := Lib.hid (show ∀ (j : Nat) (d : D_Job), L[j]? = some d → JobRD d from fun j d hd => HA.out j d (by have := el_lt hd; omega) hd)
      have HR := Lib.hid ((H.out.below R_Job_ok hB).more R_Job_ok hsz)
      clear hB
      go_wp2_with fail
      refine (by_impl (by omega) (fun i d hd => jobRD_wf (HY.out i d hd)) HR.out).mono ?_
      intro e w2 h
      obtain ⟨B, D, V, rfl, hG, hb⟩ := mapC_elim h
      have HG := Lib.hid hG
      have HB2 := Lib.hid (HB.out.trans (hb.mono hsz))
      have HBB := Lib.hid hb
      clear h hG hb
      go_wp2_with fail
      refine (numbered_impl HG.out HBB.out).mono ?_
      intro e w3 h
      obtain ⟨q, rfl, hq, hb⟩ := numC_elim h
      have HB3 := Lib.hid (HB2.out.trans (hb.mono hsz))
      have HQ := Lib.hid (show (q = true ↔ JobsR L) from hq.trans ⟨fun h => JO.out.2 ⟨by omega, HY.out, fun l s => by
        by_cases hw : Wf l ∧ Wf s
        · exact h l s hw.1 hw.2
        · intro i d hd
          have hm := List.mem_filter.1 (List.mem_of_getElem? hd)
          obtain ⟨j, hj⟩ := List.getElem?_of_mem hm.1
          obtain ⟨rfl, rfl⟩ := ofL_eq hm.2
          exact absurd (jobRD_wf (HY.out j d hj)) hw⟩, fun h l s _ _ => (JO.out.1 h).2.2 l s⟩)
      clear h hq hb
      go_wp2
      go_ret
      exact ⟨q, rfl, HQ.out, HB3.out⟩
end Go.Proofs.Ytfmgjkmlnaeagaa.RepC
