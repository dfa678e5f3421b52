/- Quotas of a configuration in the model, ConfigRight, LabelsOf: contracts. -/
import Derived.Test.YtmmnkdilnlhbfaaTk
import Derived.Test.YtmmnkdilnlhbfaaTk
import Derived.Test.YtmmnkdilnlhbfaaCfS2
namespace Go.Proofs.Ytmmnkdilnlhbfaa.RepC
open Go.RowKit RowC ValC SpanC KeptC CfC
set_option linter.unusedVariables false
set_option linter.unusedSimpArgs false

theorem ord_at {l s : Int} (h : LabC.rP l s) (w : World) : Calls Try.prog 59 #[.agg #[.int .i64 l, .int .i64 s]] w fun e w' => e = .returned (.int .i64 (8 * l + s)) ∧ Below w.heap.size w w' := by
  obtain ⟨h1, h2, h3, h4⟩ := h
  have e1 : IntKind.i64.wrap (8 * l) = 8 * l := IntWalk.i64_in _ (by omega)
  have e2 : IntKind.i64.wrap (8 * l + s) = 8 * l + s := IntWalk.i64_in _ (by omega)
  go_enter Try.func59, Try.ntmps59
  go_wp2
  go_ret
  exact ⟨by first | rfl | simp [e1, e2], (Below.refl _ _).alloc (Nat.le_refl _) _⟩
theorem ltB_ord {a b : Lb} (ha : LabC.rP a.1 a.2) (hb : LabC.rP b.1 b.2) : ltB a b ↔ ¬ (8 * a.1 + a.2 ≥ 8 * b.1 + b.2) := by
  obtain ⟨h1, h2, h3, h4⟩ := ha
  obtain ⟨g1, g2, g3, g4⟩ := hb
  unfold ltB
  omega

set_option maxRecDepth 100000 in
set_option maxHeartbeats 3200000 in
theorem quotas_spec {L : List D_Label} {Q : List D_Quota} {la qa : Option Addr} {lc qc : Nat} {W : World} (hLR : ∀ a ∈ L, LabC.rP a.1 a.2) (hLS : L.Pairwise ltB) (hL8 : L.length ≤ 8) (hL : RdSl R_Label W W.heap.size L la lc) (hQ : RdSl R_Quota W W.heap.size Q qa qc) :
    Calls Try.prog 79 #[.slice la L.length lc, .slice qa Q.length qc] W (ResB (QuotasR L Q) W) := by
  have hn : Q.length ≤ 9223372036854775807 := by have h1 := hQ.1; have h2 := hQ.2.1; unfold maxLen at h2; omega
  have HL := Lib.hid hL
  have HQ := Lib.hid hQ
  have HLR := Lib.hid hLR
  have HLS := Lib.hid (And.intro hLS hL8)
  clear hL hQ hLR hLS hL8
  by_cases h8 : Q.length ≤ 8
  rotate_left
  · have hd : decide ((Q.length : Int) > 8) = true := decide_eq_true (by omega)
    have hd' : decide (8 < Q.length) = true := decide_eq_true (by omega)
    have HN := Lib.hid (show ¬ QuotasR L Q from fun h => h8 (Nat.le_trans (quotas_len HLS.out.1 h) HLS.out.2))
    go_enter Try.func79, Try.ntmps79
    go_wp2
    go_ret
    exact resB_no HN.out (Below.refl _ _)
  have hd : decide ((Q.length : Int) > 8) = false := decide_eq_false (by omega)
  have hd' : decide (8 < Q.length) = false := decide_eq_false (by omega)
  go_enter Try.func79, Try.ntmps79
  go_wp2
  go_loopw [5] (fun i wr => ∃ k : Nat, k ≤ Q.length ∧ i = .int .i64 k ∧ Hid (∀ (j : Nat) x, j < k → Q[j]? = some x → okQ L Q j x) ∧ Below W.heap.size W wr) (fun i _ => Q.length - (intOf i).toNat)
  case atStart => exact ⟨0, Nat.zero_le _, rfl, Lib.hid fun j x h => absurd h (Nat.not_lt_zero _), Below.refl _ _⟩
  case round =>
    obtain ⟨k, hk, rfl, HA, hB⟩ := hrel
    have HB := Lib.hid hB
    have hsz := hB.size
    by_cases hlt : k < Q.length
    · have hdl : decide ((k : Int) < (Q.length : Int)) = true := decide_eq_true (by omega)
      obtain ⟨⟨⟨x0, x1⟩, x2⟩, hx⟩ := el_some hlt
      have HX := Lib.hid hx
      obtain ⟨g, o, us, rfl, hg, hu, hr⟩ := (HQ.out.below R_Quota_ok hB).at_ hx
      obtain rfl := rd_Quota hr
      have e0 : wr.cell? ⟨g, o + k * 3, none⟩ = some (.int .i64 x0) := by simpa [size_QuotaS, Nat.add_assoc] using hu 0 _ rfl
      have e1 : wr.cell? ⟨g, o + k * 3 + 1, none⟩ = some (.int .i64 x1) := by simpa [size_QuotaS, Nat.add_assoc] using hu 1 _ rfl
      have e2 : wr.cell? ⟨g, o + k * 3 + 2, none⟩ = some (.int .i64 x2) := by simpa [size_QuotaS, Nat.add_assoc] using hu 2 _ rfl
      have HG := Lib.hid (show g < wr.heap.size by omega)
      have hi0 : (0 : Int) ≤ (k : Int) := Int.natCast_nonneg _
      have hi1 : (k : Int) < (Q.length : Int) := by omega
      have HL1 := Lib.hid (rd_mv R_Label_ok HL.out HB.out)
      clear hB hx hu hr
      by_cases hm : (x0, x1) ∈ L
      rotate_left
      · have HM := Lib.hid hm
        have HN := Lib.hid (show ¬ QuotasR L Q from fun h => HM.out (h k _ HX.out).1)
        clear hm
        go_wp2_with fail
        refine wp_region_held_drew (S := (fun V => Below (wr).heap.size (wr) V)) (by kernel_rfl) ((Below.refl _ _).drew) (fun hHeld => ?_)
        refine tk 0 hHeld ?_
        refine tk 1 hHeld ?_
        refine tk 2 hHeld ?_
        refine tk 3 hHeld ?_
        refine tk 4 hHeld ?_
        refine tk 5 hHeld ?_ (hy := fun w hSw => by (try dsimp only at hSw); have k0 := (hSw.cell (p := ⟨g, o + k * 3, none⟩) HG.out).trans e0; have k1 := (hSw.cell (p := ⟨g, o + k * 3 + 1, none⟩) HG.out).trans e1; clear hSw; go_simp; try with_reducible rfl)
        refine rd1 6 (fun K hK => ?_)
        go_simp
        go_at_call 42
        refine (cleared_spec (rd_mv R_Label_ok HL1.out hHeld)).mono ?_
        intro e w2 h
        obtain ⟨z, rfl, hz, hb⟩ := resB_elim h
        obtain rfl : z = false := Bool.eq_false_iff.2 fun h => HM.out (hz.1 h)
        clear h hz
        refine hK.out _ _ (hHeld.trans (hb.mono hHeld.size)) (fun hHeld => ?_)
        clear hK K hb
        refine tk 7 hHeld ?_
        refine tk 8 hHeld ?_
        refine tn 9 hHeld ?_
        refine tn 10 hHeld ?_
        refine tn 11 hHeld ?_
        refine tn 12 hHeld ?_
        refine tn 13 hHeld ?_
        refine tn 14 hHeld ?_
        refine tn 15 hHeld ?_
        refine tk 16 hHeld ?_
        refine tk 17 hHeld ?_
        refine tn 18 hHeld ?_
        refine tn 19 hHeld ?_
        refine tn 20 hHeld ?_
        refine tn 21 hHeld ?_
        refine tn 22 hHeld ?_
        refine tn 23 hHeld ?_
        refine tn 24 hHeld ?_
        refine tn 25 hHeld ?_
        refine tn 26 hHeld ?_
        refine tn 27 hHeld ?_
        refine tn 28 hHeld ?_
        refine tn 29 hHeld ?_
        refine tn 30 hHeld ?_
        refine tn 31 hHeld ?_
        refine tn 32 hHeld ?_
        refine tn 33 hHeld ?_
        refine tn 34 hHeld ?_
        refine tn 35 hHeld ?_
        refine tk 36 hHeld ?_
        refine rd0 ?_
        have HF := Lib.hid hHeld
        clear hHeld
        have HB2 := Lib.hid (HB.out.trans (HF.out.mono hsz))
        clear HF
        go_wp2
        go_ret
        exact resB_no HN.out HB2.out
      have HM := Lib.hid hm
      have HOx := Lib.hid (HLR.out _ hm)
      clear hm
      obtain ⟨zi, hzi⟩ : ∃ z, isB x2 1 9 = z := ⟨_, rfl⟩
      have HI := Lib.hid hzi
      clear hzi
      cases zi with
      | false =>
        have HN := Lib.hid (show ¬ QuotasR L Q from fun h => by have h2 : isB x2 1 9 = true := (h k _ HX.out).2.1; rw [HI.out] at h2; cases h2)
        go_wp2_with fail
        refine wp_region_held_drew (S := (fun V => Below (wr).heap.size (wr) V)) (by kernel_rfl) ((Below.refl _ _).drew) (fun hHeld => ?_)
        refine tk 0 hHeld ?_
        refine tk 1 hHeld ?_
        refine tk 2 hHeld ?_
        refine tk 3 hHeld ?_
        refine tk 4 hHeld ?_
        refine tk 5 hHeld ?_ (hy := fun w hSw => by (try dsimp only at hSw); have k0 := (hSw.cell (p := ⟨g, o + k * 3, none⟩) HG.out).trans e0; have k1 := (hSw.cell (p := ⟨g, o + k * 3 + 1, none⟩) HG.out).trans e1; clear hSw; go_simp; try with_reducible rfl)
        refine rd1 6 (fun K hK => ?_)
        go_simp
        go_at_call 42
        refine (cleared_spec (rd_mv R_Label_ok HL1.out hHeld)).mono ?_
        intro e w2 h
        obtain ⟨z, rfl, hz, hb⟩ := resB_elim h
        obtain rfl : z = true := hz.2 HM.out
        clear h hz
        refine hK.out _ _ (hHeld.trans (hb.mono hHeld.size)) (fun hHeld => ?_)
        clear hK K hb
        refine tk 7 hHeld ?_
        refine tk 8 hHeld ?_
        refine tk 9 hHeld ?_
        refine tk 10 hHeld ?_
        refine tk 11 hHeld ?_
        refine tk 12 hHeld ?_
        refine tk 13 hHeld ?_ (hy := fun w hSw => by (try dsimp only at hSw); have k0 := (hSw.cell (p := ⟨g, o + k * 3 + 2, none⟩) HG.out).trans e2; clear hSw; go_simp; try with_reducible rfl)
        refine rd1 14 (fun K hK => ?_)
        go_simp
        go_at_call 76
        refine (is_at _ _ _ HI.out _).mono ?_
        rintro e w3 ⟨rfl, rfl⟩
        have hb := Below.refl w2.heap.size w2
        refine hK.out _ _ (hHeld.trans (hb.mono hHeld.size)) (fun hHeld => ?_)
        clear hK K hb
        refine tk 15 hHeld ?_
        refine tk 16 hHeld ?_
        refine tk 17 hHeld ?_
        refine tn 18 hHeld ?_
        refine tn 19 hHeld ?_
        refine tn 20 hHeld ?_
        refine tn 21 hHeld ?_
        refine tn 22 hHeld ?_
        refine tn 23 hHeld ?_
        refine tn 24 hHeld ?_
        refine tn 25 hHeld ?_
        refine tn 26 hHeld ?_
        refine tn 27 hHeld ?_
        refine tn 28 hHeld ?_
        refine tn 29 hHeld ?_
        refine tn 30 hHeld ?_
        refine tn 31 hHeld ?_
        refine tn 32 hHeld ?_
        refine tn 33 hHeld ?_
        refine tn 34 hHeld ?_
        refine tn 35 hHeld ?_
        refine tk 36 hHeld ?_
        refine rd0 ?_
        have HF := Lib.hid hHeld
        clear hHeld
        have HB2 := Lib.hid (HB.out.trans (HF.out.mono hsz))
        clear HF
        go_wp2
        go_ret
        exact resB_no HN.out HB2.out
      | true =>
      cases k with
      | zero =>
        rw [Nat.zero_mul] at e0 e1 e2
        simp only [Nat.add_zero] at e0 e1 e2
        have HA2 := Lib.hid (show ∀ (j : Nat) x, j < 0 + 1 → Q[j]? = some x → okQ L Q j x from fun q y hq hy => by
          obtain rfl : q = 0 := by omega
          rw [HX.out] at hy; obtain rfl := Option.some.inj hy
          exact ⟨HM.out, HI.out, fun h => absurd h (Nat.lt_irrefl _)⟩)
        go_wp2_with fail
        refine wp_region_held_drew (S := (fun V => Below (wr).heap.size (wr) V)) (by kernel_rfl) ((Below.refl _ _).drew) (fun hHeld => ?_)
        refine tk 0 hHeld ?_
        refine tk 1 hHeld ?_
        refine tk 2 hHeld ?_
        refine tk 3 hHeld ?_
        refine tk 4 hHeld ?_
        refine tk 5 hHeld ?_ (hy := fun w hSw => by (try dsimp only at hSw); have k0 := (hSw.cell (p := ⟨g, o, none⟩) HG.out).trans e0; have k1 := (hSw.cell (p := ⟨g, o + 1, none⟩) HG.out).trans e1; clear hSw; go_simp; try with_reducible rfl)
        refine rd1 6 (fun K hK => ?_)
        go_simp
        go_at_call 42
        refine (cleared_spec (rd_mv R_Label_ok HL1.out hHeld)).mono ?_
        intro e w2 h
        obtain ⟨z, rfl, hz, hb⟩ := resB_elim h
        obtain rfl : z = true := hz.2 HM.out
        clear h hz
        refine hK.out _ _ (hHeld.trans (hb.mono hHeld.size)) (fun hHeld => ?_)
        clear hK K hb
        refine tk 7 hHeld ?_
        refine tk 8 hHeld ?_
        refine tk 9 hHeld ?_
        refine tk 10 hHeld ?_
        refine tk 11 hHeld ?_
        refine tk 12 hHeld ?_
        refine tk 13 hHeld ?_ (hy := fun w hSw => by (try dsimp only at hSw); have k0 := (hSw.cell (p := ⟨g, o + 2, none⟩) HG.out).trans e2; clear hSw; go_simp; try with_reducible rfl)
        refine rd1 14 (fun K hK => ?_)
        go_simp
        go_at_call 76
        refine (is_at _ _ _ HI.out _).mono ?_
        rintro e w3 ⟨rfl, rfl⟩
        have hb := Below.refl w2.heap.size w2
        refine hK.out _ _ (hHeld.trans (hb.mono hHeld.size)) (fun hHeld => ?_)
        clear hK K hb
        refine tk 15 hHeld ?_
        refine tk 16 hHeld ?_
        refine tk 17 hHeld ?_
        refine tk 18 hHeld ?_
        refine tk 19 hHeld ?_
        refine tk 20 hHeld ?_
        refine tn 21 hHeld ?_
        refine tn 22 hHeld ?_
        refine tn 23 hHeld ?_
        refine tn 24 hHeld ?_
        refine tn 25 hHeld ?_
        refine tn 26 hHeld ?_
        refine tn 27 hHeld ?_
        refine tn 28 hHeld ?_
        refine tn 29 hHeld ?_
        refine tn 30 hHeld ?_
        refine tn 31 hHeld ?_
        refine tn 32 hHeld ?_
        refine tn 33 hHeld ?_
        refine tn 34 hHeld ?_
        refine tk 35 hHeld ?_
        refine tk 36 hHeld ?_
        refine rd0 ?_
        have HF := Lib.hid hHeld
        clear hHeld
        have HB2 := Lib.hid (HB.out.trans (HF.out.mono hsz))
        clear HF
        go_wp2
        go_roundw
        case rel => exact ⟨0 + 1, by omega, by go_num, HA2, HB2.out⟩
        case measure => simp [intOf]; omega
      | succ m =>
        obtain ⟨⟨⟨y0, y1⟩, y2⟩, hy⟩ := el_some (show m < Q.length by omega)
        have HY := Lib.hid hy
        have HMy := Lib.hid (HA.out m _ (Nat.lt_succ_self m) hy).1
        have HOy := Lib.hid (HLR.out _ HMy.out)
        obtain ⟨g2, o2, us, hgg, hg2, hu, hr⟩ := (HQ.out.below R_Quota_ok HB.out).at_ hy
        obtain ⟨rfl, rfl⟩ : g = g2 ∧ o = o2 := by cases hgg; exact ⟨rfl, rfl⟩
        obtain rfl := rd_Quota hr
        have d0 : wr.cell? ⟨g, o + m * 3, none⟩ = some (.int .i64 y0) := by simpa [size_QuotaS, Nat.add_assoc] using hu 0 _ rfl
        have d1 : wr.cell? ⟨g, o + m * 3 + 1, none⟩ = some (.int .i64 y1) := by simpa [size_QuotaS, Nat.add_assoc] using hu 1 _ rfl
        have hj0 : (0 : Int) ≤ (m : Int) := Int.natCast_nonneg _
        have hj1 : (m : Int) < (Q.length : Int) := by omega
        have hgt : decide ((((m + 1 : Nat) : Int)) > 0) = true := decide_eq_true (by omega)
        have hgt2 : decide (0 < m + 1) = true := decide_eq_true (by omega)
        have hsub : IntKind.i64.wrap (((m + 1 : Nat) : Int) - 1) = (m : Int) := by rw [show ((m + 1 : Nat) : Int) - 1 = (m : Int) by omega]; exact IntWalk.i64_in _ (by omega)
        have hsub2 : IntKind.i64.wrap (m : Int) = (m : Int) := IntWalk.i64_in _ (by omega)
        have hi0' : (0 : Int) ≤ (m : Int) + 1 := by omega
        have hi1' : (m : Int) + 1 < (Q.length : Int) := by omega
        have hgt3 : decide (0 < (m : Int) + 1) = true := decide_eq_true (by omega)
        have hsub3 : IntKind.i64.wrap ((m : Int) + 1 - 1) = (m : Int) := by rw [show (m : Int) + 1 - 1 = (m : Int) by omega]; exact IntWalk.i64_in _ (by omega)
        clear hy hu hr hgg hg2
        by_cases hlb : ltB (y0, y1) (x0, x1)
        · have hge : decide (8 * y0 + y1 ≥ 8 * x0 + x1) = false := decide_eq_false ((ltB_ord HOy.out HOx.out).1 hlb)
          have hge2 : decide (8 * x0 + x1 ≤ 8 * y0 + y1) = false := hge
          have HA2 := Lib.hid (show ∀ (j : Nat) x, j < m + 1 + 1 → Q[j]? = some x → okQ L Q j x from fun q y hq hy => by
            by_cases e : q = m + 1
            · subst e; rw [HX.out] at hy; obtain rfl := Option.some.inj hy
              refine ⟨HM.out, HI.out, fun _ z hz => ?_⟩
              rw [Nat.add_sub_cancel, HY.out] at hz; obtain rfl := Option.some.inj hz
              exact hlb
            · exact HA.out q y (by omega) hy)
          clear hlb
          go_wp2_with fail
          refine wp_region_held_drew (S := (fun V => Below (wr).heap.size (wr) V)) (by kernel_rfl) ((Below.refl _ _).drew) (fun hHeld => ?_)
          refine tk 0 hHeld ?_
          refine tk 1 hHeld ?_
          refine tk 2 hHeld ?_
          refine tk 3 hHeld ?_
          refine tk 4 hHeld ?_
          refine tk 5 hHeld ?_ (hy := fun w hSw => by (try dsimp only at hSw); have k0 := (hSw.cell (p := ⟨g, o + (m + 1) * 3, none⟩) HG.out).trans e0; have k1 := (hSw.cell (p := ⟨g, o + (m + 1) * 3 + 1, none⟩) HG.out).trans e1; clear hSw; go_simp; try with_reducible rfl)
          refine rd1 6 (fun K hK => ?_)
          go_simp
          go_at_call 42
          refine (cleared_spec (rd_mv R_Label_ok HL1.out hHeld)).mono ?_
          intro e w2 h
          obtain ⟨z, rfl, hz, hb⟩ := resB_elim h
          obtain rfl : z = true := hz.2 HM.out
          clear h hz
          refine hK.out _ _ (hHeld.trans (hb.mono hHeld.size)) (fun hHeld => ?_)
          clear hK K hb
          refine tk 7 hHeld ?_
          refine tk 8 hHeld ?_
          refine tk 9 hHeld ?_
          refine tk 10 hHeld ?_
          refine tk 11 hHeld ?_
          refine tk 12 hHeld ?_
          refine tk 13 hHeld ?_ (hy := fun w hSw => by (try dsimp only at hSw); have k0 := (hSw.cell (p := ⟨g, o + (m + 1) * 3 + 2, none⟩) HG.out).trans e2; clear hSw; go_simp; try with_reducible rfl)
          refine rd1 14 (fun K hK => ?_)
          go_simp
          go_at_call 76
          refine (is_at _ _ _ HI.out _).mono ?_
          rintro e w3 ⟨rfl, rfl⟩
          have hb := Below.refl w2.heap.size w2
          refine hK.out _ _ (hHeld.trans (hb.mono hHeld.size)) (fun hHeld => ?_)
          clear hK K hb
          refine tk 15 hHeld ?_
          refine tk 16 hHeld ?_
          refine tk 17 hHeld ?_
          refine tk 18 hHeld ?_
          refine tk 19 hHeld ?_
          refine tk 20 hHeld ?_
          refine tk 21 hHeld ?_
          refine tk 22 hHeld ?_
          refine tk 23 hHeld ?_
          refine tk 24 hHeld ?_
          refine tk 25 hHeld ?_
          refine tk 26 hHeld ?_ (hy := fun w hSw => by (try dsimp only at hSw); have k0 := (hSw.cell (p := ⟨g, o + m * 3, none⟩) HG.out).trans d0; have k1 := (hSw.cell (p := ⟨g, o + m * 3 + 1, none⟩) HG.out).trans d1; clear hSw; go_simp; try with_reducible rfl)
          refine tk 28 hHeld ?_
          refine tk 29 hHeld ?_
          refine tk 30 hHeld ?_
          refine tk 31 hHeld ?_
          refine tk 32 hHeld ?_ (hy := fun w hSw => by (try dsimp only at hSw); have k0 := (hSw.cell (p := ⟨g, o + (m + 1) * 3, none⟩) HG.out).trans e0; have k1 := (hSw.cell (p := ⟨g, o + (m + 1) * 3 + 1, none⟩) HG.out).trans e1; clear hSw; go_simp; try with_reducible rfl)
          refine rd1 27 (fun K hK => ?_)
          go_simp
          go_at_call 59
          refine (ord_at HOy.out _).mono ?_
          rintro e w4 ⟨rfl, hb⟩
          refine hK.out _ _ (hHeld.trans (hb.mono hHeld.size)) (fun hHeld => ?_)
          clear hK K hb
          refine rd1 33 (fun K hK => ?_)
          go_simp
          go_at_call 59
          refine (ord_at HOx.out _).mono ?_
          rintro e w5 ⟨rfl, hb⟩
          refine hK.out _ _ (hHeld.trans (hb.mono hHeld.size)) (fun hHeld => ?_)
          clear hK K hb
          refine tk 34 hHeld ?_
          refine tk 35 hHeld ?_
          refine tk 36 hHeld ?_
          refine rd0 ?_
          have HF := Lib.hid hHeld
          clear hHeld
          have HB2 := Lib.hid (HB.out.trans (HF.out.mono hsz))
          clear HF
          go_wp2
          go_roundw
          case rel => exact ⟨m + 1 + 1, by omega, by go_num, HA2, HB2.out⟩
          case measure => simp [intOf]; omega
        · have hge : decide (8 * y0 + y1 ≥ 8 * x0 + x1) = true := decide_eq_true (Classical.byContradiction fun h => hlb ((ltB_ord HOy.out HOx.out).2 h))
          have hge2 : decide (8 * x0 + x1 ≤ 8 * y0 + y1) = true := hge
          have HN := Lib.hid (show ¬ QuotasR L Q from fun h => hlb ((h (m + 1) _ HX.out).2.2 (by omega) _ (by rw [Nat.add_sub_cancel]; exact HY.out)))
          clear hlb
          go_wp2_with fail
          refine wp_region_held_drew (S := (fun V => Below (wr).heap.size (wr) V)) (by kernel_rfl) ((Below.refl _ _).drew) (fun hHeld => ?_)
          refine tk 0 hHeld ?_
          refine tk 1 hHeld ?_
          refine tk 2 hHeld ?_
          refine tk 3 hHeld ?_
          refine tk 4 hHeld ?_
          refine tk 5 hHeld ?_ (hy := fun w hSw => by (try dsimp only at hSw); have k0 := (hSw.cell (p := ⟨g, o + (m + 1) * 3, none⟩) HG.out).trans e0; have k1 := (hSw.cell (p := ⟨g, o + (m + 1) * 3 + 1, none⟩) HG.out).trans e1; clear hSw; go_simp; try with_reducible rfl)
          refine rd1 6 (fun K hK => ?_)
          go_simp
          go_at_call 42
          refine (cleared_spec (rd_mv R_Label_ok HL1.out hHeld)).mono ?_
          intro e w2 h
          obtain ⟨z, rfl, hz, hb⟩ := resB_elim h
          obtain rfl : z = true := hz.2 HM.out
          clear h hz
          refine hK.out _ _ (hHeld.trans (hb.mono hHeld.size)) (fun hHeld => ?_)
          clear hK K hb
          refine tk 7 hHeld ?_
          refine tk 8 hHeld ?_
          refine tk 9 hHeld ?_
          refine tk 10 hHeld ?_
          refine tk 11 hHeld ?_
          refine tk 12 hHeld ?_
          refine tk 13 hHeld ?_ (hy := fun w hSw => by (try dsimp only at hSw); have k0 := (hSw.cell (p := ⟨g, o + (m + 1) * 3 + 2, none⟩) HG.out).trans e2; clear hSw; go_simp; try with_reducible rfl)
          refine rd1 14 (fun K hK => ?_)
          go_simp
          go_at_call 76
          refine (is_at _ _ _ HI.out _).mono ?_
          rintro e w3 ⟨rfl, rfl⟩
          have hb := Below.refl w2.heap.size w2
          refine hK.out _ _ (hHeld.trans (hb.mono hHeld.size)) (fun hHeld => ?_)
          clear hK K hb
          refine tk 15 hHeld ?_
          refine tk 16 hHeld ?_
          refine tk 17 hHeld ?_
          refine tk 18 hHeld ?_
          refine tk 19 hHeld ?_
          refine tk 20 hHeld ?_
          refine tk 21 hHeld ?_
          refine tk 22 hHeld ?_
          refine tk 23 hHeld ?_
          refine tk 24 hHeld ?_
          refine tk 25 hHeld ?_
          refine tk 26 hHeld ?_ (hy := fun w hSw => by (try dsimp only at hSw); have k0 := (hSw.cell (p := ⟨g, o + m * 3, none⟩) HG.out).trans d0; have k1 := (hSw.cell (p := ⟨g, o + m * 3 + 1, none⟩) HG.out).trans d1; clear hSw; go_simp; try with_reducible rfl)
          refine tk 28 hHeld ?_
          refine tk 29 hHeld ?_
          refine tk 30 hHeld ?_
          refine tk 31 hHeld ?_
          refine tk 32 hHeld ?_ (hy := fun w hSw => by (try dsimp only at hSw); have k0 := (hSw.cell (p := ⟨g, o + (m + 1) * 3, none⟩) HG.out).trans e0; have k1 := (hSw.cell (p := ⟨g, o + (m + 1) * 3 + 1, none⟩) HG.out).trans e1; clear hSw; go_simp; try with_reducible rfl)
          refine rd1 27 (fun K hK => ?_)
          go_simp
          go_at_call 59
          refine (ord_at HOy.out _).mono ?_
          rintro e w4 ⟨rfl, hb⟩
          refine hK.out _ _ (hHeld.trans (hb.mono hHeld.size)) (fun hHeld => ?_)
          clear hK K hb
          refine rd1 33 (fun K hK => ?_)
          go_simp
          go_at_call 59
          refine (ord_at HOx.out _).mono ?_
          rintro e w5 ⟨rfl, hb⟩
          refine hK.out _ _ (hHeld.trans (hb.mono hHeld.size)) (fun hHeld => ?_)
          clear hK K hb
          refine tk 34 hHeld ?_
          refine tk 35 hHeld ?_
          refine tk 36 hHeld ?_
          refine rd0 ?_
          have HF := Lib.hid hHeld
          clear hHeld
          have HB2 := Lib.hid (HB.out.trans (HF.out.mono hsz))
          clear HF
          go_wp2
          go_ret
          exact resB_no HN.out HB2.out
    · have hdl : decide ((k : Int) < (Q.length : Int)) = false := decide_eq_false (by omega)
      have HY := Lib.hid (show QuotasR L Q from fun i x hx => HA.out i x (by have := el_lt hx; omega) hx)
      clear hB
      go_wp2
      go_ret
      exact resB_yes HY.out HB.out
/-- what a right configuration is -/
def CfgR (C : List (List D_Label)) (P : List D_Pair) (Q : List D_Quota) (hf : Int) : Prop := ClearR C ∧ isB hf 1 9 = true ∧ (labsOf C).length ≤ 8 ∧ PairsR (labsOf C) P ∧ QuotasR (labsOf C) Q
end Go.Proofs.Ytmmnkdilnlhbfaa.RepC
