/- Quotas of a configuration in the program: contract. -/
import Derived.Test.YtmmnkdilnlhbfaaTk
import Derived.Test.YtmmnkdilnlhbfaaTk
import Derived.Test.YtmmnkdilnlhbfaaCfI2
namespace Go.Proofs.Ytmmnkdilnlhbfaa.RepC
open Go.RowKit RowC ValC SpanC KeptC CfC
set_option linter.unusedVariables false
set_option linter.unusedSimpArgs false

theorem bylab_b {a0 a1 b0 b1 i : Int} {W : World} (h : SortC.labI a0 a1 b0 b1 = i) : Calls Try.prog 107 #[.agg #[.int .i64 a0, .int .i64 a1], .agg #[.int .i64 b0, .int .i64 b1]] W (IsI i W) := by
  subst h
  exact (SortC.bylab_v a0 a1 b0 b1 W).mono fun e w' ⟨he, hw⟩ => ⟨he, by rw [hw]; exact ((((Below.refl _ _).alloc (Nat.le_refl _) _).alloc (by simp) _).drew).alloc (by show _ ≤ _; simp; omega) _⟩
set_option maxRecDepth 100000 in
set_option maxHeartbeats 3200000 in
theorem quotas_impl {L : List D_Label} {Q : List D_Quota} {la qa : Option Addr} {lc qc : Nat} {W : World} (hL : RdSl R_Label W W.heap.size L la lc) (hQ : RdSl R_Quota W W.heap.size Q qa qc) :
    Calls Try.prog 86 #[.slice qa Q.length qc, .slice la L.length lc] W (ResB (QuotasR L Q) W) := by
  have hn : Q.length ≤ 9223372036854775807 := by have h1 := hQ.1; have h2 := hQ.2.1; unfold maxLen at h2; omega
  have HL := Lib.hid hL
  have HQ := Lib.hid hQ
  clear hL hQ
  go_enter Try.func86, Try.ntmps86
  go_wp2
  go_loopw [9] (fun i wr => ∃ k : Nat, k ≤ Q.length ∧ i = .int .i64 k ∧ Hid (∀ (j : Nat) x, j < k → Q[j]? = some x → okQ L Q j x) ∧ Below W.heap.size W wr) (fun i _ => Q.length - (intOf i).toNat)
  case atStart => exact ⟨0, Nat.zero_le _, rfl, Lib.hid fun j x h => absurd h (Nat.not_lt_zero _), Below.refl _ _⟩
  case round =>
    obtain ⟨k, hk, rfl, HA, hB⟩ := hrel
    obtain ⟨wo, rfl⟩ : ∃ x, x = wr := ⟨_, rfl⟩
    have HB := Lib.hid hB
    have hsz := hB.size
    by_cases hlt : k < Q.length
    · have hdl : decide ((k : Int) < (Q.length : Int)) = true := decide_eq_true (by omega)
      obtain ⟨⟨⟨x0, x1⟩, x2⟩, hx⟩ := el_some hlt
      have HX := Lib.hid hx
      obtain ⟨g, o, us, rfl, hg, hu, hr⟩ := (HQ.out.below R_Quota_ok hB).at_ hx
      obtain rfl := rd_Quota hr
      have e0 : wo.cell? ⟨g, o + k * 3, none⟩ = some (.int .i64 x0) := by simpa [size_QuotaS, Nat.add_assoc] using hu 0 _ rfl
      have e1 : wo.cell? ⟨g, o + k * 3 + 1, none⟩ = some (.int .i64 x1) := by simpa [size_QuotaS, Nat.add_assoc] using hu 1 _ rfl
      have e2 : wo.cell? ⟨g, o + k * 3 + 2, none⟩ = some (.int .i64 x2) := by simpa [size_QuotaS, Nat.add_assoc] using hu 2 _ rfl
      have hi0 : (0 : Int) ≤ (k : Int) := Int.natCast_nonneg _
      have hi1 : (k : Int) < (Q.length : Int) := by omega
      obtain ⟨w1, hw1⟩ : ∃ w, w = wo.alloc (.cells #[.int .i64 x0, .int .i64 x1, .int .i64 x2] 86) := ⟨_, rfl⟩
      have hbA : Below wo.heap.size wo w1 := by rw [hw1]; exact (Below.refl _ _).alloc (Nat.le_refl _) _
      have HP1 := Lib.hid (show Blk w1 wo.heap.size 86 #[.int .i64 x0, .int .i64 x1, .int .i64 x2] from by rw [hw1]; exact Blk.new _ _ _)
      have HB1 := Lib.hid (HB.out.trans (hbA.mono hsz))
      have hz1 := HB1.out.size
      obtain ⟨zi, hzi⟩ : ∃ z, isB x2 1 9 = z := ⟨_, rfl⟩
      have HI := Lib.hid hzi
      clear hzi hB hx hu hr
      cases k with
      | zero =>
        rw [Nat.zero_mul] at e0 e1 e2
        simp only [Nat.add_zero] at e0 e1 e2
        go_wp2_with fail
        rw [← hw1]
        clear hw1 hbA e0 e1 e2
        refine wp_region_held_drew (S := (fun V => Below (w1).heap.size (w1) V)) (by kernel_rfl) ((Below.refl _ _).drew) (fun hHeld => ?_)
        refine tk 0 hHeld ?_
        refine tk 1 hHeld ?_
        refine tk 2 hHeld ?_
        refine tn 3 hHeld ?_
        refine tn 4 hHeld ?_
        refine tn 5 hHeld ?_
        refine tn 6 hHeld ?_
        refine tn 7 hHeld ?_
        refine tn 8 hHeld ?_
        refine tn 9 hHeld ?_
        refine tn 10 hHeld ?_
        refine tn 11 hHeld ?_
        refine tn 12 hHeld ?_
        refine tk 13 hHeld ?_
        refine rd0 ?_
        have HF := Lib.hid hHeld
        clear hHeld
        have HB2 := Lib.hid (HB1.out.trans (HF.out.mono hz1))
        have HP2 := Lib.hid (HP1.out.call HF.out)
        clear HF
        obtain ⟨w2, hw2⟩ : ∃ w, w = w1.drew := ⟨_, rfl⟩
        rw [← hw2] at HB2 HP2
        rw [← hw2]
        clear hw2
        have q0 := HP2.out.at_ 0 rfl
        have q1 := HP2.out.at_ 1 rfl
        have q2 := HP2.out.at_ 2 rfl
        go_wp2_with fail
        refine (contains_lab (rd_mv R_Label_ok HL.out HB2.out)).mono ?_
        intro e w7 h
        obtain ⟨z, rfl, hz, hb⟩ := resB_elim h
        have HZ1 := Lib.hid hz
        have HB7 := Lib.hid (HB2.out.trans (hb.mono HB2.out.size))
        have HP7 := Lib.hid (HP2.out.call hb)
        clear h hz hb q0 q1 q2
        have q0 := HP7.out.at_ 0 rfl
        have q1 := HP7.out.at_ 1 rfl
        have q2 := HP7.out.at_ 2 rfl
        cases z with
        | false =>
          have HN := Lib.hid (show ¬ QuotasR L Q from fun h => by have := HZ1.out.2 (h 0 _ HX.out).1; cases this)
          go_wp2
          go_ret
          exact resB_no HN.out HB7.out
        | true =>
        have HM1 := Lib.hid (HZ1.out.1 rfl)
        go_wp2_with fail
        refine (wi_at _ _ _ HI.out _).mono ?_
        rintro e w8 ⟨rfl, rfl⟩
        cases zi with
        | false =>
          have HN := Lib.hid (show ¬ QuotasR L Q from fun h => by have h2 : isB x2 1 9 = true := (h 0 _ HX.out).2.1; rw [HI.out] at h2; cases h2)
          go_wp2
          go_ret
          exact resB_no HN.out HB7.out
        | true =>
          have HA2 := Lib.hid (show ∀ (j : Nat) x, j < 0 + 1 → Q[j]? = some x → okQ L Q j x from fun q y hq hy => by
            by_cases e : q = 0
            · subst e; rw [HX.out] at hy; obtain rfl := Option.some.inj hy
              exact ⟨HM1.out, HI.out, fun h => absurd h (Nat.lt_irrefl _)⟩
            · exact HA.out q y (by omega) hy)
          go_wp2
          go_roundw
          case rel => exact ⟨0 + 1, by omega, by go_num, HA2, HB7.out⟩
          case measure => simp [intOf]; omega
      | succ m =>
        obtain ⟨⟨⟨y0, y1⟩, y2⟩, hy⟩ := el_some (show m < Q.length by omega)
        have HY := Lib.hid hy
        obtain ⟨g2, o2, us, hgg, hg2, hu, hr⟩ := (HQ.out.below R_Quota_ok HB1.out).at_ hy
        obtain ⟨rfl, rfl⟩ : g = g2 ∧ o = o2 := by cases hgg; exact ⟨rfl, rfl⟩
        obtain rfl := rd_Quota hr
        have d0 : w1.cell? ⟨g, o + m * 3, none⟩ = some (.int .i64 y0) := by simpa [size_QuotaS, Nat.add_assoc] using hu 0 _ rfl
        have d1 : w1.cell? ⟨g, o + m * 3 + 1, none⟩ = some (.int .i64 y1) := by simpa [size_QuotaS, Nat.add_assoc] using hu 1 _ rfl
        have HG := Lib.hid (show g < w1.heap.size by omega)
        have hj0 : (0 : Int) ≤ (m : Int) := Int.natCast_nonneg _
        have hj1 : (m : Int) < (Q.length : Int) := by omega
        have hgt : decide ((((m + 1 : Nat) : Int)) > 0) = true := decide_eq_true (by omega)
        have hgt2 : decide (0 < m + 1) = true := decide_eq_true (by omega)
        have hgt3 : decide (0 < (m : Int) + 1) = true := decide_eq_true (by omega)
        have hi0' : (0 : Int) ≤ (m : Int) + 1 := by omega
        have hi1' : (m : Int) + 1 < (Q.length : Int) := by omega
        have hsub2 : IntKind.i64.wrap (m : Int) = (m : Int) := IntWalk.i64_in _ (by omega)
        have hsub3 : IntKind.i64.wrap ((m : Int) + 1 - 1) = (m : Int) := by rw [show (m : Int) + 1 - 1 = (m : Int) by omega]; exact IntWalk.i64_in _ (by omega)
        obtain ⟨li, hli⟩ : ∃ i, SortC.labI y0 y1 x0 x1 = i := ⟨_, rfl⟩
        have HLI := Lib.hid hli
        clear hy hu hr hgg hg2 hli
        by_cases hge : 0 ≤ li
        · have hdg : decide (li ≥ 0) = true := decide_eq_true hge
          have hdg2 : decide (0 ≤ li) = true := decide_eq_true hge
          have HN := Lib.hid (show ¬ QuotasR L Q from fun h => by
            have h2 := (h (m + 1) _ HX.out).2.2 (by omega) _ (by rw [Nat.add_sub_cancel]; exact HY.out)
            rw [← HLI.out] at hge
            exact (SortC.labI_ge _ _ _ _).1 hge h2)
          clear hge
          go_wp2_with fail
          rw [← hw1]
          clear hw1 hbA e0 e1 e2
          refine wp_region_held_drew (S := (fun V => Below (w1).heap.size (w1) V)) (by kernel_rfl) ((Below.refl _ _).drew) (fun hHeld => ?_)
          refine tk 0 hHeld ?_
          refine tk 1 hHeld ?_
          refine tk 2 hHeld ?_
          refine tk 3 hHeld ?_
          refine tk 4 hHeld ?_
          refine tk 5 hHeld ?_
          refine tk 6 hHeld ?_
          refine tk 7 hHeld ?_
          refine tk 8 hHeld ?_ (hy := fun w hSw => by (try dsimp only at hSw); have k0 := (hSw.cell (p := ⟨g, o + m * 3, none⟩) HG.out).trans d0; have k1 := (hSw.cell (p := ⟨g, o + m * 3 + 1, none⟩) HG.out).trans d1; clear hSw; go_simp; try with_reducible rfl)
          refine tk 9 hHeld ?_
          refine tk 10 hHeld ?_ (hy := fun w hSw => by (try dsimp only at hSw); have k0 := (hSw.cell (p := ⟨wo.heap.size, 0, none⟩) HP1.out.lt).trans (HP1.out.at_ 0 rfl); have k1 := (hSw.cell (p := ⟨wo.heap.size, 1, none⟩) HP1.out.lt).trans (HP1.out.at_ 1 rfl); clear hSw; go_simp; try with_reducible rfl)
          refine rd1 11 (fun K hK => ?_)
          go_simp
          go_at_call 107
          refine (bylab_b HLI.out).mono ?_
          intro e w2 h
          obtain ⟨rfl, hb⟩ := isI_elim h
          clear h
          refine hK.out _ _ (hHeld.trans (hb.mono hHeld.size)) (fun hHeld => ?_)
          clear hK K hb
          refine tk 12 hHeld ?_
          refine tk 13 hHeld ?_
          refine rd0 ?_
          have HF := Lib.hid hHeld
          clear hHeld
          have HB2 := Lib.hid (HB1.out.trans (HF.out.mono hz1))
          clear HF
          go_wp2
          go_ret
          exact resB_no HN.out HB2.out
        · have hdg : decide (li ≥ 0) = false := decide_eq_false hge
          have hdg2 : decide (0 ≤ li) = false := decide_eq_false hge
          have HLT := Lib.hid (show ltB (y0, y1) (x0, x1) from Classical.byContradiction fun h => hge (by rw [← HLI.out]; exact (SortC.labI_ge _ _ _ _).2 h))
          clear hge
          go_wp2_with fail
          rw [← hw1]
          clear hw1 hbA e0 e1 e2
          refine wp_region_held_drew (S := (fun V => Below (w1).heap.size (w1) V)) (by kernel_rfl) ((Below.refl _ _).drew) (fun hHeld => ?_)
          refine tk 0 hHeld ?_
          refine tk 1 hHeld ?_
          refine tk 2 hHeld ?_
          refine tk 3 hHeld ?_
          refine tk 4 hHeld ?_
          refine tk 5 hHeld ?_
          refine tk 6 hHeld ?_
          refine tk 7 hHeld ?_
          refine tk 8 hHeld ?_ (hy := fun w hSw => by (try dsimp only at hSw); have k0 := (hSw.cell (p := ⟨g, o + m * 3, none⟩) HG.out).trans d0; have k1 := (hSw.cell (p := ⟨g, o + m * 3 + 1, none⟩) HG.out).trans d1; clear hSw; go_simp; try with_reducible rfl)
          refine tk 9 hHeld ?_
          refine tk 10 hHeld ?_ (hy := fun w hSw => by (try dsimp only at hSw); have k0 := (hSw.cell (p := ⟨wo.heap.size, 0, none⟩) HP1.out.lt).trans (HP1.out.at_ 0 rfl); have k1 := (hSw.cell (p := ⟨wo.heap.size, 1, none⟩) HP1.out.lt).trans (HP1.out.at_ 1 rfl); clear hSw; go_simp; try with_reducible rfl)
          refine rd1 11 (fun K hK => ?_)
          go_simp
          go_at_call 107
          refine (bylab_b HLI.out).mono ?_
          intro e w2 h
          obtain ⟨rfl, hb⟩ := isI_elim h
          clear h
          refine hK.out _ _ (hHeld.trans (hb.mono hHeld.size)) (fun hHeld => ?_)
          clear hK K hb
          refine tk 12 hHeld ?_
          refine tk 13 hHeld ?_
          refine rd0 ?_
          have HF := Lib.hid hHeld
          clear hHeld
          have HB2 := Lib.hid (HB1.out.trans (HF.out.mono hz1))
          have HP2 := Lib.hid (HP1.out.call HF.out)
          clear HF d0 d1
          have q0 := HP2.out.at_ 0 rfl
          have q1 := HP2.out.at_ 1 rfl
          have q2 := HP2.out.at_ 2 rfl
          go_wp2_with fail
          refine (contains_lab (rd_mv R_Label_ok HL.out HB2.out)).mono ?_
          intro e w7 h
          obtain ⟨z, rfl, hz, hb⟩ := resB_elim h
          have HZ1 := Lib.hid hz
          have HB7 := Lib.hid (HB2.out.trans (hb.mono HB2.out.size))
          have HP7 := Lib.hid (HP2.out.call hb)
          clear h hz hb q0 q1 q2
          have q0 := HP7.out.at_ 0 rfl
          have q1 := HP7.out.at_ 1 rfl
          have q2 := HP7.out.at_ 2 rfl
          cases z with
          | false =>
            have HN := Lib.hid (show ¬ QuotasR L Q from fun h => by have := HZ1.out.2 (h (m + 1) _ HX.out).1; cases this)
            go_wp2
            go_ret
            exact resB_no HN.out HB7.out
          | true =>
          have HM1 := Lib.hid (HZ1.out.1 rfl)
          go_wp2_with fail
          refine (wi_at _ _ _ HI.out _).mono ?_
          rintro e w8 ⟨rfl, rfl⟩
          cases zi with
          | false =>
            have HN := Lib.hid (show ¬ QuotasR L Q from fun h => by have h2 : isB x2 1 9 = true := (h (m + 1) _ HX.out).2.1; rw [HI.out] at h2; cases h2)
            go_wp2
            go_ret
            exact resB_no HN.out HB7.out
          | true =>
            have HA2 := Lib.hid (show ∀ (j : Nat) x, j < (m + 1) + 1 → Q[j]? = some x → okQ L Q j x from fun q y hq hy => by
              by_cases e : q = (m + 1)
              · subst e; rw [HX.out] at hy; obtain rfl := Option.some.inj hy
                exact ⟨HM1.out, HI.out, fun _ z hz => by rw [Nat.add_sub_cancel, HY.out] at hz; obtain rfl := Option.some.inj hz; exact HLT.out⟩
              · exact HA.out q y (by omega) hy)
            go_wp2
            go_roundw
            case rel => exact ⟨(m + 1) + 1, by omega, by go_num, HA2, HB7.out⟩
            case measure => simp [intOf]; omega
    · have hdl : decide ((k : Int) < (Q.length : Int)) = false := decide_eq_false (by omega)
      have HY := Lib.hid (show QuotasR L Q from fun i x hx => HA.out i x (by have := el_lt hx; omega) hx)
      clear hB
      go_wp2
      go_ret
      exact resB_yes HY.out HB.out
end Go.Proofs.Ytmmnkdilnlhbfaa.RepC
