/- Of this claim's texts the part 25: CfI2 CfI3 CfV2. -/
import Derived.Test.YtlgflddljhldhaaGreatPN18
section
namespace Go.Proofs.YtlgflddljhldhaaGreat.RepC
open Go.RowKit RowC ValC SpanC KeptC CfC
set_option linter.unusedVariables false
set_option linter.unusedSimpArgs false
theorem below_rP {a b : Lb} (ha : LabC.rP a.1 a.2) (hb : LabC.rP b.1 b.2) : LabC.belowB a.1 a.2 b.1 b.2 = LabC.bB a.1 a.2 b.1 b.2 := LabC.below_yes ((LabC.rB_iff _ _).2 ha) ((LabC.rB_iff _ _).2 hb)
theorem pairix_at {P : List D_Pair} {pa : Option Addr} {pc n : Nat} {f0 f1 t0 t1 ix : Int} {W : World} (hn : P.length = n) (hix : ixP P (f0, f1) (t0, t1) = ix) (hP : RdSl R_Pair W W.heap.size P pa pc) :
    Calls Tryz.prog 45 #[.slice pa n pc, .agg #[.int .i64 f0, .int .i64 f1], .agg #[.int .i64 t0, .int .i64 t1]] W (IsI ix W) := by
  subst hn hix
  exact pairix_impl hP
set_option maxRecDepth 100000 in
set_option maxHeartbeats 3200000 in
theorem pairs_impl {L : List D_Label} {P : List D_Pair} {la pa : Option Addr} {lc pc : Nat} {W : World} (hLR : ∀ a ∈ L, LabC.rP a.1 a.2) (hL : RdSl R_Label W W.heap.size L la lc) (hP : RdSl R_Pair W W.heap.size P pa pc) :
    Calls Tryz.prog 110 #[.slice pa P.length pc, .slice la L.length lc] W (ResB (PairsR L P) W) := by
  have hn : P.length ≤ 9223372036854775807 := by have h1 := hP.1; have h2 := hP.2.1; unfold maxLen at h2; omega
  have hpc := hP.1
  have HL := Lib.hid hL
  have HP := Lib.hid hP
  have HLR := Lib.hid hLR
  clear hL hP hLR
  by_cases h4 : P.length ≤ 4
  rotate_left
  · have hd : decide ((P.length : Int) > 4) = true := decide_eq_true (by omega)
    have hd' : decide (4 < P.length) = true := decide_eq_true (by omega)
    have HN := Lib.hid (show ¬ PairsR L P from fun h => h4 h.1)
    go_enter Tryz.func110, Tryz.ntmps110
    go_wp2
    go_ret
    exact resB_no HN.out (Below.refl _ _)
  have hd : decide ((P.length : Int) > 4) = false := decide_eq_false (by omega)
  have hd' : decide (4 < P.length) = false := decide_eq_false (by omega)
  go_enter Tryz.func110, Tryz.ntmps110
  go_wp2
  go_loopw [12] (fun i wr => ∃ k : Nat, k ≤ P.length ∧ i = .int .i64 k ∧ Hid (∀ (j : Nat) x, j < k → P[j]? = some x → okP L P j x) ∧ Below W.heap.size W wr) (fun i _ => P.length - (intOf i).toNat)
  case atStart => exact ⟨0, Nat.zero_le _, rfl, Lib.hid fun j x h => absurd h (Nat.not_lt_zero _), Below.refl _ _⟩
  case round =>
    obtain ⟨k, hk, rfl, HA, hB⟩ := hrel
    obtain ⟨wo, rfl⟩ : ∃ x, x = wr := ⟨_, rfl⟩
    have HB := Lib.hid hB
    have hsz := hB.size
    by_cases hlt : k < P.length
    · have hdl : decide ((k : Int) < (P.length : Int)) = true := decide_eq_true (by omega)
      obtain ⟨⟨⟨x0, x1⟩, ⟨x2, x3⟩, x4⟩, hx⟩ := el_some hlt
      have HX := Lib.hid hx
      obtain ⟨g, o, us, rfl, hg, hu, hr⟩ := (HP.out.below R_Pair_ok hB).at_ hx
      obtain rfl := rd_Pair hr
      have e0 : wo.cell? ⟨g, o + k * 5, none⟩ = some (.int .i64 x0) := by simpa [size_PairS, Nat.add_assoc] using hu 0 _ rfl
      have e1 : wo.cell? ⟨g, o + k * 5 + 1, none⟩ = some (.int .i64 x1) := by simpa [size_PairS, Nat.add_assoc] using hu 1 _ rfl
      have e2 : wo.cell? ⟨g, o + k * 5 + 2, none⟩ = some (.int .i64 x2) := by simpa [size_PairS, Nat.add_assoc] using hu 2 _ rfl
      have e3 : wo.cell? ⟨g, o + k * 5 + 3, none⟩ = some (.int .i64 x3) := by simpa [size_PairS, Nat.add_assoc] using hu 3 _ rfl
      have e4 : wo.cell? ⟨g, o + k * 5 + 4, none⟩ = some (.int .i64 x4) := by simpa [size_PairS, Nat.add_assoc] using hu 4 _ rfl
      have hi0 : (0 : Int) ≤ (k : Int) := Int.natCast_nonneg _
      have hi1 : (k : Int) < (P.length : Int) := by omega
      obtain ⟨w1, hw1⟩ : ∃ w, w = wo.alloc (.cells #[.int .i64 x0, .int .i64 x1, .int .i64 x2, .int .i64 x3, .int .i64 x4] 77) := ⟨_, rfl⟩
      have hbA : Below wo.heap.size wo w1 := by rw [hw1]; exact (Below.refl _ _).alloc (Nat.le_refl _) _
      have HP1 := Lib.hid (show Blk w1 wo.heap.size 77 #[.int .i64 x0, .int .i64 x1, .int .i64 x2, .int .i64 x3, .int .i64 x4] from by rw [hw1]; exact Blk.new _ _ _)
      have HB1 := Lib.hid (HB.out.trans (hbA.mono hsz))
      have HL1 := Lib.hid (rd_mv R_Label_ok HL.out HB1.out)
      have hz1 := HB1.out.size
      have q0 := HP1.out.at_ 0 rfl
      have q1 := HP1.out.at_ 1 rfl
      have q2 := HP1.out.at_ 2 rfl
      have q3 := HP1.out.at_ 3 rfl
      have q4 := HP1.out.at_ 4 rfl
      clear hB hx hu hr
      go_wp2_with fail
      rw [← hw1]
      clear hw1 hbA e0 e1 e2 e3 e4
      refine (contains_lab HL1.out).mono ?_
      intro e w2 h
      obtain ⟨z, rfl, hz, hb⟩ := resB_elim h
      have HZ1 := Lib.hid hz
      have HB2 := Lib.hid (HB1.out.trans (hb.mono hz1))
      have HL2 := Lib.hid (rd_mv R_Label_ok HL1.out hb)
      have HP2 := Lib.hid (HP1.out.call hb)
      have hz2 := HB2.out.size
      clear h hz hb q0 q1 q2 q3 q4 HP1
      have q0 := HP2.out.at_ 0 rfl
      have q1 := HP2.out.at_ 1 rfl
      have q2 := HP2.out.at_ 2 rfl
      have q3 := HP2.out.at_ 3 rfl
      have q4 := HP2.out.at_ 4 rfl
      cases z with
      | false =>
        have HN := Lib.hid (show ¬ PairsR L P from fun h => by have := HZ1.out.2 (h.2 k _ HX.out).1; cases this)
        go_wp2
        go_ret
        exact resB_no HN.out HB2.out
      | true =>
      have HM1 := Lib.hid (HZ1.out.1 rfl)
      go_wp2_with fail
      refine (contains_lab HL2.out).mono ?_
      intro e w3 h
      obtain ⟨z, rfl, hz, hb⟩ := resB_elim h
      have HZ2 := Lib.hid hz
      have HB3 := Lib.hid (HB2.out.trans (hb.mono hz2))
      have HP3 := Lib.hid (HP2.out.call hb)
      have hz3 := HB3.out.size
      clear h hz hb q0 q1 q2 q3 q4 HP2
      have q0 := HP3.out.at_ 0 rfl
      have q1 := HP3.out.at_ 1 rfl
      have q2 := HP3.out.at_ 2 rfl
      have q3 := HP3.out.at_ 3 rfl
      have q4 := HP3.out.at_ 4 rfl
      cases z with
      | false =>
        have HN := Lib.hid (show ¬ PairsR L P from fun h => by have := HZ2.out.2 (h.2 k _ HX.out).2.1; cases this)
        go_wp2
        go_ret
        exact resB_no HN.out HB3.out
      | true =>
      have HM2 := Lib.hid (HZ2.out.1 rfl)
      obtain ⟨z3, hz3e⟩ : ∃ z, LabC.belowB x0 x1 x2 x3 = z := ⟨_, rfl⟩
      have HZ3 := Lib.hid hz3e
      have HZB := Lib.hid ((below_rP (HLR.out _ HM1.out) (HLR.out _ HM2.out)).symm.trans hz3e)
      clear hz3e
      go_wp2_with fail
      refine (bi_at _ _ _ _ HZ3.out _).mono ?_
      rintro e w4 ⟨rfl, hb⟩
      have HB4 := Lib.hid (HB3.out.trans (hb.mono hz3))
      have HP4 := Lib.hid (HP3.out.call hb)
      have HPk := Lib.hid (rd_mv R_Pair_ok HP.out HB4.out)
      have hz4 := HB4.out.size
      clear hb q0 q1 q2 q3 q4 HP3
      have q0 := HP4.out.at_ 0 rfl
      have q1 := HP4.out.at_ 1 rfl
      have q2 := HP4.out.at_ 2 rfl
      have q3 := HP4.out.at_ 3 rfl
      have q4 := HP4.out.at_ 4 rfl
      cases z3 with
      | true =>
        have HN := Lib.hid (show ¬ PairsR L P from fun h => by have := (h.2 k _ HX.out).2.2.1; rw [HZB.out] at this; cases this)
        go_wp2
        go_ret
        exact resB_no HN.out HB4.out
      | false =>
      obtain ⟨z4, hz4e⟩ : ∃ z, isB x4 1 3 = z := ⟨_, rfl⟩
      have HZ4 := Lib.hid hz4e
      have hkc : (k : Int) ≤ (pc : Int) := by omega
      have hkc2 : k ≤ pc := by omega
      clear hz4e q0 q1 q2 q3 q4
      cases z4 with
      | false =>
        have HN := Lib.hid (show ¬ PairsR L P from fun h => by have := (h.2 k _ HX.out).2.2.2.1; rw [HZ4.out] at this; cases this)
        go_wp2_with fail
        refine wp_region_held_drew (S := (fun V => Below (w4).heap.size (w4) V)) (by kernel_rfl) ((Below.refl _ _).drew) (fun hHeld => ?_)
        refine tk 0 hHeld ?_
        refine tk 1 hHeld ?_ (hy := fun w hSw => by (try dsimp only at hSw); have k0 := (hSw.cell (p := ⟨wo.heap.size, 4, none⟩) HP4.out.lt).trans (HP4.out.at_ 4 rfl); clear hSw; go_simp; try with_reducible rfl)
        refine rd1 2 (fun K hK => ?_)
        go_simp
        go_at_call 60
        refine (wi_at _ _ _ HZ4.out _).mono ?_
        rintro e w5 ⟨rfl, rfl⟩
        have hb := Below.refl w4.drew.heap.size w4.drew
        refine hK.out _ _ (hHeld.trans (hb.mono hHeld.size)) (fun hHeld => ?_)
        clear hK K hb
        refine tk 3 hHeld ?_
        refine tk 4 hHeld ?_
        refine tn 5 hHeld ?_
        refine tn 6 hHeld ?_
        refine tn 7 hHeld ?_
        refine tn 8 hHeld ?_
        refine tn 9 hHeld ?_
        refine tn 10 hHeld ?_
        refine tn 11 hHeld ?_
        refine tn 12 hHeld ?_
        refine tn 13 hHeld ?_
        refine tk 14 hHeld ?_
        refine rd0 ?_
        have HF := Lib.hid hHeld
        clear hHeld
        have HB5 := Lib.hid (HB4.out.trans (HF.out.mono hz4))
        clear HF
        go_wp2
        go_ret
        exact resB_no HN.out HB5.out
      | true =>
      have hkt : (P.take k).length = k := by rw [List.length_take]; omega
      obtain ⟨ix, hix⟩ : ∃ i, ixP (P.take k) (x0, x1) (x2, x3) = i := ⟨_, rfl⟩
      have HIX := Lib.hid hix
      by_cases hge : 0 ≤ ix
      · have hdg : decide (ix ≥ 0) = true := decide_eq_true hge
        have hdg2 : decide (0 ≤ ix) = true := decide_eq_true hge
        have HN := Lib.hid (show ¬ PairsR L P from fun h => by
          obtain ⟨q, y, hy, hh⟩ := ixP_ge.1 (by rw [hix]; exact hge)
          have hqk : q < k := by have := el_lt hy; omega
          rw [List.getElem?_take, if_pos hqk] at hy
          exact (h.2 k _ HX.out).2.2.2.2 q y hqk hy hh)
        clear hix hge
        go_wp2_with fail
        refine wp_region_held_drew (S := (fun V => Below (w4).heap.size (w4) V)) (by kernel_rfl) ((Below.refl _ _).drew) (fun hHeld => ?_)
        refine tk 0 hHeld ?_
        refine tk 1 hHeld ?_ (hy := fun w hSw => by (try dsimp only at hSw); have k0 := (hSw.cell (p := ⟨wo.heap.size, 4, none⟩) HP4.out.lt).trans (HP4.out.at_ 4 rfl); clear hSw; go_simp; try with_reducible rfl)
        refine rd1 2 (fun K hK => ?_)
        go_simp
        go_at_call 60
        refine (wi_at _ _ _ HZ4.out _).mono ?_
        rintro e w5 ⟨rfl, rfl⟩
        have hb := Below.refl w4.drew.heap.size w4.drew
        refine hK.out _ _ (hHeld.trans (hb.mono hHeld.size)) (fun hHeld => ?_)
        clear hK K hb
        refine tk 3 hHeld ?_
        refine tk 4 hHeld ?_
        refine tk 5 hHeld ?_
        refine tk 6 hHeld ?_
        refine tk 7 hHeld ?_
        refine tk 8 hHeld ?_
        refine tk 9 hHeld ?_ (hy := fun w hSw => by (try dsimp only at hSw); have k0 := (hSw.cell (p := ⟨wo.heap.size, 0, none⟩) HP4.out.lt).trans (HP4.out.at_ 0 rfl); have k1 := (hSw.cell (p := ⟨wo.heap.size, 1, none⟩) HP4.out.lt).trans (HP4.out.at_ 1 rfl); clear hSw; go_simp; try with_reducible rfl)
        refine tk 10 hHeld ?_
        refine tk 11 hHeld ?_ (hy := fun w hSw => by (try dsimp only at hSw); have k0 := (hSw.cell (p := ⟨wo.heap.size, 2, none⟩) HP4.out.lt).trans (HP4.out.at_ 2 rfl); have k1 := (hSw.cell (p := ⟨wo.heap.size, 3, none⟩) HP4.out.lt).trans (HP4.out.at_ 3 rfl); clear hSw; go_simp; try with_reducible rfl)
        refine rd1 12 (fun K hK => ?_)
        go_simp
        go_at_call 45
        refine (pairix_at hkt HIX.out (rd_take (rd_mv R_Pair_ok HPk.out hHeld) k)).mono ?_
        intro e w6 h
        obtain ⟨rfl, hb⟩ := isI_elim h
        clear h
        refine hK.out _ _ (hHeld.trans (hb.mono hHeld.size)) (fun hHeld => ?_)
        clear hK K hb
        refine tk 13 hHeld ?_
        refine tk 14 hHeld ?_
        refine rd0 ?_
        have HF := Lib.hid hHeld
        clear hHeld
        have HB5 := Lib.hid (HB4.out.trans (HF.out.mono hz4))
        clear HF
        go_wp2
        go_ret
        exact resB_no HN.out HB5.out
      · have hdg : decide (ix ≥ 0) = false := decide_eq_false hge
        have hdg2 : decide (0 ≤ ix) = false := decide_eq_false hge
        have HA2 := Lib.hid (show ∀ (j : Nat) x, j < k + 1 → P[j]? = some x → okP L P j x from fun q y hq hy => by
          by_cases e : q = k
          · subst e; rw [HX.out] at hy; obtain rfl := Option.some.inj hy
            refine ⟨HM1.out, HM2.out, HZB.out, HZ4.out, fun r z hr hz hh => hge ?_⟩
            rw [← hix]
            exact ixP_ge.2 ⟨r, z, by rw [List.getElem?_take, if_pos hr]; exact hz, hh⟩
          · exact HA.out q y (by omega) hy)
        clear hix hge
        go_wp2_with fail
        refine wp_region_held_drew (S := (fun V => Below (w4).heap.size (w4) V)) (by kernel_rfl) ((Below.refl _ _).drew) (fun hHeld => ?_)
        refine tk 0 hHeld ?_
        refine tk 1 hHeld ?_ (hy := fun w hSw => by (try dsimp only at hSw); have k0 := (hSw.cell (p := ⟨wo.heap.size, 4, none⟩) HP4.out.lt).trans (HP4.out.at_ 4 rfl); clear hSw; go_simp; try with_reducible rfl)
        refine rd1 2 (fun K hK => ?_)
        go_simp
        go_at_call 60
        refine (wi_at _ _ _ HZ4.out _).mono ?_
        rintro e w5 ⟨rfl, rfl⟩
        have hb := Below.refl w4.drew.heap.size w4.drew
        refine hK.out _ _ (hHeld.trans (hb.mono hHeld.size)) (fun hHeld => ?_)
        clear hK K hb
        refine tk 3 hHeld ?_
        refine tk 4 hHeld ?_
        refine tk 5 hHeld ?_
        refine tk 6 hHeld ?_
        refine tk 7 hHeld ?_
        refine tk 8 hHeld ?_
        refine tk 9 hHeld ?_ (hy := fun w hSw => by (try dsimp only at hSw); have k0 := (hSw.cell (p := ⟨wo.heap.size, 0, none⟩) HP4.out.lt).trans (HP4.out.at_ 0 rfl); have k1 := (hSw.cell (p := ⟨wo.heap.size, 1, none⟩) HP4.out.lt).trans (HP4.out.at_ 1 rfl); clear hSw; go_simp; try with_reducible rfl)
        refine tk 10 hHeld ?_
        refine tk 11 hHeld ?_ (hy := fun w hSw => by (try dsimp only at hSw); have k0 := (hSw.cell (p := ⟨wo.heap.size, 2, none⟩) HP4.out.lt).trans (HP4.out.at_ 2 rfl); have k1 := (hSw.cell (p := ⟨wo.heap.size, 3, none⟩) HP4.out.lt).trans (HP4.out.at_ 3 rfl); clear hSw; go_simp; try with_reducible rfl)
        refine rd1 12 (fun K hK => ?_)
        go_simp
        go_at_call 45
        refine (pairix_at hkt HIX.out (rd_take (rd_mv R_Pair_ok HPk.out hHeld) k)).mono ?_
        intro e w6 h
        obtain ⟨rfl, hb⟩ := isI_elim h
        clear h
        refine hK.out _ _ (hHeld.trans (hb.mono hHeld.size)) (fun hHeld => ?_)
        clear hK K hb
        refine tk 13 hHeld ?_
        refine tk 14 hHeld ?_
        refine rd0 ?_
        have HF := Lib.hid hHeld
        clear hHeld
        have HB5 := Lib.hid (HB4.out.trans (HF.out.mono hz4))
        clear HF
        go_wp2
        go_roundw
        case rel => exact ⟨k + 1, by omega, by go_num, HA2, HB5.out⟩
        case measure => simp [intOf]; omega
    · have hdl : decide ((k : Int) < (P.length : Int)) = false := decide_eq_false (by omega)
      have HY := Lib.hid (show PairsR L P from ⟨h4, fun i x hx => HA.out i x (by have := el_lt hx; omega) hx⟩)
      clear hB
      go_wp2
      go_ret
      exact resB_yes HY.out HB.out
end Go.Proofs.YtlgflddljhldhaaGreat.RepC
end
section
namespace Go.Proofs.YtlgflddljhldhaaGreat.RepC
open Go.RowKit RowC ValC SpanC KeptC CfC
set_option linter.unusedVariables false
set_option linter.unusedSimpArgs false
theorem bylab_b {a0 a1 b0 b1 i : Int} {W : World} (h : SortC.labI a0 a1 b0 b1 = i) : Calls Tryz.prog 129 #[.agg #[.int .i64 a0, .int .i64 a1], .agg #[.int .i64 b0, .int .i64 b1]] W (IsI i W) := by
  subst h
  exact (SortC.bylab_v a0 a1 b0 b1 W).mono fun e w' ⟨he, hw⟩ => ⟨he, by rw [hw]; exact ((((Below.refl _ _).alloc (Nat.le_refl _) _).alloc (by simp) _).drew).alloc (by show _ ≤ _; simp; omega) _⟩
set_option maxRecDepth 100000 in
set_option maxHeartbeats 3200000 in
theorem quotas_impl {L : List D_Label} {Q : List D_Quota} {la qa : Option Addr} {lc qc : Nat} {W : World} (hL : RdSl R_Label W W.heap.size L la lc) (hQ : RdSl R_Quota W W.heap.size Q qa qc) :
    Calls Tryz.prog 111 #[.slice qa Q.length qc, .slice la L.length lc] W (ResB (QuotasR L Q) W) := by
  have hn : Q.length ≤ 9223372036854775807 := by have h1 := hQ.1; have h2 := hQ.2.1; unfold maxLen at h2; omega
  have HL := Lib.hid hL
  have HQ := Lib.hid hQ
  clear hL hQ
  go_enter Tryz.func111, Tryz.ntmps111
  go_wp2
  go_loopw [9] (fun i wr => ∃ k : Nat, k ≤ Q.length ∧ i = .int .i64 k ∧ Hid (∀ (j : Nat) x, j < k → Q[j]? = some x → okQ L Q j x) ∧ Below W.heap.size W wr) (fun i _ => Q.length - (intOf i).toNat)
  case atStart => exact ⟨0, Nat.zero_le _, rfl, Lib.hid fun j x h => absurd h (Nat.not_lt_zero _), Below.refl _ _⟩
  case round =>
    obtain ⟨k, hk, rfl, HA, hB⟩ := hrel
    obtain ⟨wo, rfl⟩ : ∃ x, x = wr := ⟨_, rfl⟩
    have HB := Lib.hid hB
    have hsz := hB.size
    by_cases hlt : k < Q.length
    · have hdl : decide ((k : Int) < (Q.length : Int)) = true := decide_eq_true (by omega)
      obtain ⟨⟨⟨x0, x1⟩, x2⟩, hx⟩ := el_some hlt
      have HX := Lib.hid hx
      obtain ⟨g, o, us, rfl, hg, hu, hr⟩ := (HQ.out.below R_Quota_ok hB).at_ hx
      obtain rfl := rd_Quota hr
      have e0 : wo.cell? ⟨g, o + k * 3, none⟩ = some (.int .i64 x0) := by simpa [size_QuotaS, Nat.add_assoc] using hu 0 _ rfl
      have e1 : wo.cell? ⟨g, o + k * 3 + 1, none⟩ = some (.int .i64 x1) := by simpa [size_QuotaS, Nat.add_assoc] using hu 1 _ rfl
      have e2 : wo.cell? ⟨g, o + k * 3 + 2, none⟩ = some (.int .i64 x2) := by simpa [size_QuotaS, Nat.add_assoc] using hu 2 _ rfl
      have hi0 : (0 : Int) ≤ (k : Int) := Int.natCast_nonneg _
      have hi1 : (k : Int) < (Q.length : Int) := by omega
      obtain ⟨w1, hw1⟩ : ∃ w, w = wo.alloc (.cells #[.int .i64 x0, .int .i64 x1, .int .i64 x2] 125) := ⟨_, rfl⟩
      have hbA : Below wo.heap.size wo w1 := by rw [hw1]; exact (Below.refl _ _).alloc (Nat.le_refl _) _
      have HP1 := Lib.hid (show Blk w1 wo.heap.size 125 #[.int .i64 x0, .int .i64 x1, .int .i64 x2] from by rw [hw1]; exact Blk.new _ _ _)
      have HB1 := Lib.hid (HB.out.trans (hbA.mono hsz))
      have hz1 := HB1.out.size
      obtain ⟨zi, hzi⟩ : ∃ z, isB x2 1 9 = z := ⟨_, rfl⟩
      have HI := Lib.hid hzi
      clear hzi hB hx hu hr
      cases k with
      | zero =>
        rw [Nat.zero_mul] at e0 e1 e2
        simp only [Nat.add_zero] at e0 e1 e2
        go_wp2_with fail
        rw [← hw1]
        clear hw1 hbA e0 e1 e2
        refine wp_region_held_drew (S := (fun V => Below (w1).heap.size (w1) V)) (by kernel_rfl) ((Below.refl _ _).drew) (fun hHeld => ?_)
        refine tk 0 hHeld ?_
        refine tk 1 hHeld ?_
        refine tk 2 hHeld ?_
        refine tn 3 hHeld ?_
        refine tn 4 hHeld ?_
        refine tn 5 hHeld ?_
        refine tn 6 hHeld ?_
        refine tn 7 hHeld ?_
        refine tn 8 hHeld ?_
        refine tn 9 hHeld ?_
        refine tn 10 hHeld ?_
        refine tn 11 hHeld ?_
        refine tn 12 hHeld ?_
        refine tk 13 hHeld ?_
        refine rd0 ?_
        have HF := Lib.hid hHeld
        clear hHeld
        have HB2 := Lib.hid (HB1.out.trans (HF.out.mono hz1))
        have HP2 := Lib.hid (HP1.out.call HF.out)
        clear HF
        obtain ⟨w2, hw2⟩ : ∃ w, w = w1.drew := ⟨_, rfl⟩
        rw [← hw2] at HB2 HP2
        rw [← hw2]
        clear hw2
        have q0 := HP2.out.at_ 0 rfl
        have q1 := HP2.out.at_ 1 rfl
        have q2 := HP2.out.at_ 2 rfl
        go_wp2_with fail
        refine (contains_lab (rd_mv R_Label_ok HL.out HB2.out)).mono ?_
        intro e w7 h
        obtain ⟨z, rfl, hz, hb⟩ := resB_elim h
        have HZ1 := Lib.hid hz
        have HB7 := Lib.hid (HB2.out.trans (hb.mono HB2.out.size))
        have HP7 := Lib.hid (HP2.out.call hb)
        clear h hz hb q0 q1 q2
        have q0 := HP7.out.at_ 0 rfl
        have q1 := HP7.out.at_ 1 rfl
        have q2 := HP7.out.at_ 2 rfl
        cases z with
        | false =>
          have HN := Lib.hid (show ¬ QuotasR L Q from fun h => by have := HZ1.out.2 (h 0 _ HX.out).1; cases this)
          go_wp2
          go_ret
          exact resB_no HN.out HB7.out
        | true =>
        have HM1 := Lib.hid (HZ1.out.1 rfl)
        go_wp2_with fail
        refine (wi_at _ _ _ HI.out _).mono ?_
        rintro e w8 ⟨rfl, rfl⟩
        cases zi with
        | false =>
          have HN := Lib.hid (show ¬ QuotasR L Q from fun h => by have h2 : isB x2 1 9 = true := (h 0 _ HX.out).2.1; rw [HI.out] at h2; cases h2)
          go_wp2
          go_ret
          exact resB_no HN.out HB7.out
        | true =>
          have HA2 := Lib.hid (show ∀ (j : Nat) x, j < 0 + 1 → Q[j]? = some x → okQ L Q j x from fun q y hq hy => by
            by_cases e : q = 0
            · subst e; rw [HX.out] at hy; obtain rfl := Option.some.inj hy
              exact ⟨HM1.out, HI.out, fun h => absurd h (Nat.lt_irrefl _)⟩
            · exact HA.out q y (by omega) hy)
          go_wp2
          go_roundw
          case rel => exact ⟨0 + 1, by omega, by go_num, HA2, HB7.out⟩
          case measure => simp [intOf]; omega
      | succ m =>
        obtain ⟨⟨⟨y0, y1⟩, y2⟩, hy⟩ := el_some (show m < Q.length by omega)
        have HY := Lib.hid hy
        obtain ⟨g2, o2, us, hgg, hg2, hu, hr⟩ := (HQ.out.below R_Quota_ok HB1.out).at_ hy
        obtain ⟨rfl, rfl⟩ : g = g2 ∧ o = o2 := by cases hgg; exact ⟨rfl, rfl⟩
        obtain rfl := rd_Quota hr
        have d0 : w1.cell? ⟨g, o + m * 3, none⟩ = some (.int .i64 y0) := by simpa [size_QuotaS, Nat.add_assoc] using hu 0 _ rfl
        have d1 : w1.cell? ⟨g, o + m * 3 + 1, none⟩ = some (.int .i64 y1) := by simpa [size_QuotaS, Nat.add_assoc] using hu 1 _ rfl
        have HG := Lib.hid (show g < w1.heap.size by omega)
        have hj0 : (0 : Int) ≤ (m : Int) := Int.natCast_nonneg _
        have hj1 : (m : Int) < (Q.length : Int) := by omega
        have hgt : decide ((((m + 1 : Nat) : Int)) > 0) = true := decide_eq_true (by omega)
        have hgt2 : decide (0 < m + 1) = true := decide_eq_true (by omega)
        have hgt3 : decide (0 < (m : Int) + 1) = true := decide_eq_true (by omega)
        have hi0' : (0 : Int) ≤ (m : Int) + 1 := by omega
        have hi1' : (m : Int) + 1 < (Q.length : Int) := by omega
        have hsub2 : IntKind.i64.wrap (m : Int) = (m : Int) := IntWalk.i64_in _ (by omega)
        have hsub3 : IntKind.i64.wrap ((m : Int) + 1 - 1) = (m : Int) := by rw [show (m : Int) + 1 - 1 = (m : Int) by omega]; exact IntWalk.i64_in _ (by omega)
        obtain ⟨li, hli⟩ : ∃ i, SortC.labI y0 y1 x0 x1 = i := ⟨_, rfl⟩
        have HLI := Lib.hid hli
        clear hy hu hr hgg hg2 hli
        by_cases hge : 0 ≤ li
        · have hdg : decide (li ≥ 0) = true := decide_eq_true hge
          have hdg2 : decide (0 ≤ li) = true := decide_eq_true hge
          have HN := Lib.hid (show ¬ QuotasR L Q from fun h => by
            have h2 := (h (m + 1) _ HX.out).2.2 (by omega) _ (by rw [Nat.add_sub_cancel]; exact HY.out)
            rw [← HLI.out] at hge
            exact (SortC.labI_ge _ _ _ _).1 hge h2)
          clear hge
          go_wp2_with fail
          rw [← hw1]
          clear hw1 hbA e0 e1 e2
          refine wp_region_held_drew (S := (fun V => Below (w1).heap.size (w1) V)) (by kernel_rfl) ((Below.refl _ _).drew) (fun hHeld => ?_)
          refine tk 0 hHeld ?_
          refine tk 1 hHeld ?_
          refine tk 2 hHeld ?_
          refine tk 3 hHeld ?_
          refine tk 4 hHeld ?_
          refine tk 5 hHeld ?_
          refine tk 6 hHeld ?_
          refine tk 7 hHeld ?_
          refine tk 8 hHeld ?_ (hy := fun w hSw => by (try dsimp only at hSw); have k0 := (hSw.cell (p := ⟨g, o + m * 3, none⟩) HG.out).trans d0; have k1 := (hSw.cell (p := ⟨g, o + m * 3 + 1, none⟩) HG.out).trans d1; clear hSw; go_simp; try with_reducible rfl)
          refine tk 9 hHeld ?_
          refine tk 10 hHeld ?_ (hy := fun w hSw => by (try dsimp only at hSw); have k0 := (hSw.cell (p := ⟨wo.heap.size, 0, none⟩) HP1.out.lt).trans (HP1.out.at_ 0 rfl); have k1 := (hSw.cell (p := ⟨wo.heap.size, 1, none⟩) HP1.out.lt).trans (HP1.out.at_ 1 rfl); clear hSw; go_simp; try with_reducible rfl)
          refine rd1 11 (fun K hK => ?_)
          go_simp
          go_at_call 129
          refine (bylab_b HLI.out).mono ?_
          intro e w2 h
          obtain ⟨rfl, hb⟩ := isI_elim h
          clear h
          refine hK.out _ _ (hHeld.trans (hb.mono hHeld.size)) (fun hHeld => ?_)
          clear hK K hb
          refine tk 12 hHeld ?_
          refine tk 13 hHeld ?_
          refine rd0 ?_
          have HF := Lib.hid hHeld
          clear hHeld
          have HB2 := Lib.hid (HB1.out.trans (HF.out.mono hz1))
          clear HF
          go_wp2
          go_ret
          exact resB_no HN.out HB2.out
        · have hdg : decide (li ≥ 0) = false := decide_eq_false hge
          have hdg2 : decide (0 ≤ li) = false := decide_eq_false hge
          have HLT := Lib.hid (show ltB (y0, y1) (x0, x1) from Classical.byContradiction fun h => hge (by rw [← HLI.out]; exact (SortC.labI_ge _ _ _ _).2 h))
          clear hge
          go_wp2_with fail
          rw [← hw1]
          clear hw1 hbA e0 e1 e2
          refine wp_region_held_drew (S := (fun V => Below (w1).heap.size (w1) V)) (by kernel_rfl) ((Below.refl _ _).drew) (fun hHeld => ?_)
          refine tk 0 hHeld ?_
          refine tk 1 hHeld ?_
          refine tk 2 hHeld ?_
          refine tk 3 hHeld ?_
          refine tk 4 hHeld ?_
          refine tk 5 hHeld ?_
          refine tk 6 hHeld ?_
          refine tk 7 hHeld ?_
          refine tk 8 hHeld ?_ (hy := fun w hSw => by (try dsimp only at hSw); have k0 := (hSw.cell (p := ⟨g, o + m * 3, none⟩) HG.out).trans d0; have k1 := (hSw.cell (p := ⟨g, o + m * 3 + 1, none⟩) HG.out).trans d1; clear hSw; go_simp; try with_reducible rfl)
          refine tk 9 hHeld ?_
          refine tk 10 hHeld ?_ (hy := fun w hSw => by (try dsimp only at hSw); have k0 := (hSw.cell (p := ⟨wo.heap.size, 0, none⟩) HP1.out.lt).trans (HP1.out.at_ 0 rfl); have k1 := (hSw.cell (p := ⟨wo.heap.size, 1, none⟩) HP1.out.lt).trans (HP1.out.at_ 1 rfl); clear hSw; go_simp; try with_reducible rfl)
          refine rd1 11 (fun K hK => ?_)
          go_simp
          go_at_call 129
          refine (bylab_b HLI.out).mono ?_
          intro e w2 h
          obtain ⟨rfl, hb⟩ := isI_elim h
          clear h
          refine hK.out _ _ (hHeld.trans (hb.mono hHeld.size)) (fun hHeld => ?_)
          clear hK K hb
          refine tk 12 hHeld ?_
          refine tk 13 hHeld ?_
          refine rd0 ?_
          have HF := Lib.hid hHeld
          clear hHeld
          have HB2 := Lib.hid (HB1.out.trans (HF.out.mono hz1))
          have HP2 := Lib.hid (HP1.out.call HF.out)
          clear HF d0 d1
          have q0 := HP2.out.at_ 0 rfl
          have q1 := HP2.out.at_ 1 rfl
          have q2 := HP2.out.at_ 2 rfl
          go_wp2_with fail
          refine (contains_lab (rd_mv R_Label_ok HL.out HB2.out)).mono ?_
          intro e w7 h
          obtain ⟨z, rfl, hz, hb⟩ := resB_elim h
          have HZ1 := Lib.hid hz
          have HB7 := Lib.hid (HB2.out.trans (hb.mono HB2.out.size))
          have HP7 := Lib.hid (HP2.out.call hb)
          clear h hz hb q0 q1 q2
          have q0 := HP7.out.at_ 0 rfl
          have q1 := HP7.out.at_ 1 rfl
          have q2 := HP7.out.at_ 2 rfl
          cases z with
          | false =>
            have HN := Lib.hid (show ¬ QuotasR L Q from fun h => by have := HZ1.out.2 (h (m + 1) _ HX.out).1; cases this)
            go_wp2
            go_ret
            exact resB_no HN.out HB7.out
          | true =>
          have HM1 := Lib.hid (HZ1.out.1 rfl)
          go_wp2_with fail
          refine (wi_at _ _ _ HI.out _).mono ?_
          rintro e w8 ⟨rfl, rfl⟩
          cases zi with
          | false =>
            have HN := Lib.hid (show ¬ QuotasR L Q from fun h => by have h2 : isB x2 1 9 = true := (h (m + 1) _ HX.out).2.1; rw [HI.out] at h2; cases h2)
            go_wp2
            go_ret
            exact resB_no HN.out HB7.out
          | true =>
            have HA2 := Lib.hid (show ∀ (j : Nat) x, j < (m + 1) + 1 → Q[j]? = some x → okQ L Q j x from fun q y hq hy => by
              by_cases e : q = (m + 1)
              · subst e; rw [HX.out] at hy; obtain rfl := Option.some.inj hy
                exact ⟨HM1.out, HI.out, fun _ z hz => by rw [Nat.add_sub_cancel, HY.out] at hz; obtain rfl := Option.some.inj hz; exact HLT.out⟩
              · exact HA.out q y (by omega) hy)
            go_wp2
            go_roundw
            case rel => exact ⟨(m + 1) + 1, by omega, by go_num, HA2, HB7.out⟩
            case measure => simp [intOf]; omega
    · have hdl : decide ((k : Int) < (Q.length : Int)) = false := decide_eq_false (by omega)
      have HY := Lib.hid (show QuotasR L Q from fun i x hx => HA.out i x (by have := el_lt hx; omega) hx)
      clear hB
      go_wp2
      go_ret
      exact resB_yes HY.out HB.out
end Go.Proofs.YtlgflddljhldhaaGreat.RepC
end
section
namespace Go.Proofs.YtlgflddljhldhaaGreat.RepC
open Go.RowKit RowC ValC SpanC KeptC CfC
set_option linter.unusedVariables false
set_option linter.unusedSimpArgs false
set_option maxRecDepth 100000 in
set_option maxHeartbeats 1600000 in
theorem config_impl {C : List (List D_Label)} {P : List D_Pair} {Q : List D_Quota} {hf : Int} {ca pa qa : Option Addr} {cc pc qc : Nat} {W : World} (hC : RdSl (Sl R_Label) W W.heap.size C ca cc) (hP : RdSl R_Pair W W.heap.size P pa pc) (hQ : RdSl R_Quota W W.heap.size Q qa qc) :
    Calls Tryz.prog 79 #[.agg #[.slice ca C.length cc, .slice pa P.length pc, .slice qa Q.length qc, .int .i64 hf]] W (IsB (cfgB C P Q hf) W) := by
  obtain ⟨z, hz⟩ : ∃ z, cfgB C P Q hf = z := ⟨_, rfl⟩
  have HZ := Lib.hid (show z = true ↔ CfgR C P Q hf from by rw [← hz]; exact cfgB_iff)
  rw [hz]
  clear hz
  refine Calls.mono ?_ fun e w' h => resB_at HZ.out h
  obtain ⟨zh, hzh⟩ : ∃ z, isB hf 1 9 = z := ⟨_, rfl⟩
  have HH := Lib.hid hzh
  clear hzh HZ
  obtain ⟨M, hM⟩ : ∃ M, labsOf C = M := ⟨_, rfl⟩
  have HMr := Lib.hid (show ∀ a ∈ M, LabC.rP a.1 a.2 from by rw [← hM]; exact fun a ha => (mem_labs.1 ha).1)
  have HMs := Lib.hid (show M.Pairwise ltB from by rw [← hM]; exact labs_sorted C 32)
  have HM := Lib.hid hM
  clear hM
  obtain ⟨w0, hw0⟩ : ∃ w, w = W.alloc (.cells #[.slice ca C.length cc, .slice pa P.length pc, .slice qa Q.length qc, .int .i64 hf] 44) := ⟨_, rfl⟩
  have hb0 : Below W.heap.size W w0 := by rw [hw0]; exact (Below.refl _ _).alloc (Nat.le_refl _) _
  have x0 : Blk w0 (W.heap.size) 44 #[.slice ca C.length cc, .slice pa P.length pc, .slice qa Q.length qc, .int .i64 hf] := by
    have h9 := Blk.new W 44 #[.slice ca C.length cc, .slice pa P.length pc, .slice qa Q.length qc, .int .i64 hf]
    try simp only [World.size_alloc] at h9
    rw [hw0]; exact h9
  have X0 := Lib.hid x0
  have HC := Lib.hid (rd_mv (Sl_ok R_Label_ok) hC hb0)
  have HP := Lib.hid (rd_mv R_Pair_ok hP hb0)
  have HQ := Lib.hid (rd_mv R_Quota_ok hQ hb0)
  have HB0 := Lib.hid hb0
  have hz0 := hb0.size
  clear hb0 hC hP hQ x0
  go_enter Tryz.func79, Tryz.ntmps79
  have qX0_0 := X0.out.at_ 0 rfl
  have qX0_1 := X0.out.at_ 1 rfl
  have qX0_2 := X0.out.at_ 2 rfl
  have qX0_3 := X0.out.at_ 3 rfl
  go_wp2_with fail
  rw [← hw0]
  clear hw0
  refine (clearright_impl HC.out).mono ?_
  intro e v1 h
  obtain ⟨z1, rfl, hz1, hb1⟩ := resB_elim h
  have HZ1 := Lib.hid hz1
  have HC := Lib.hid (rd_mv (Sl_ok R_Label_ok) HC.out hb1)
  have HP := Lib.hid (rd_mv R_Pair_ok HP.out hb1)
  have HQ := Lib.hid (rd_mv R_Quota_ok HQ.out hb1)
  have X0 := Lib.hid (X0.out.call hb1)
  have HB0 := Lib.hid (HB0.out.trans (hb1.mono HB0.out.size))
  clear h hz1 hb1 qX0_0 qX0_1 qX0_2 qX0_3
  have qX0_0 := X0.out.at_ 0 rfl
  have qX0_1 := X0.out.at_ 1 rfl
  have qX0_2 := X0.out.at_ 2 rfl
  have qX0_3 := X0.out.at_ 3 rfl
  cases z1 with
  | false =>
    have HN := Lib.hid (show ¬ CfgR C P Q hf from fun h => by have := HZ1.out.2 (h.1); cases this)
    go_wp2
    go_ret
    exact resB_no HN.out HB0.out
  | true =>
  have HY1 := Lib.hid (HZ1.out.1 rfl)
  go_wp2_with fail
  have hlb := labs_impl HY1.out HC.out
  rw [HM.out] at hlb
  refine hlb.mono ?_
  intro e v2 h
  obtain ⟨la, lc, rfl, ho, hb2⟩ := newS_elim h
  have HL := Lib.hid (ho.rd R_Label_ok (B := v2.heap.size) fun k hk => hk.2)
  have HC := Lib.hid (rd_mv (Sl_ok R_Label_ok) HC.out hb2)
  have HP := Lib.hid (rd_mv R_Pair_ok HP.out hb2)
  have HQ := Lib.hid (rd_mv R_Quota_ok HQ.out hb2)
  have X0 := Lib.hid (X0.out.call hb2)
  have HB0 := Lib.hid (HB0.out.trans (hb2.mono HB0.out.size))
  clear h ho hlb hb2 qX0_0 qX0_1 qX0_2 qX0_3
  have qX0_0 := X0.out.at_ 0 rfl
  have qX0_1 := X0.out.at_ 1 rfl
  have qX0_2 := X0.out.at_ 2 rfl
  have qX0_3 := X0.out.at_ 3 rfl
  by_cases h8 : M.length ≤ 8
  rotate_left
  · have hd : decide ((M.length : Int) ≤ 8) = false := decide_eq_false (by omega)
    have hd' : decide (M.length ≤ 8) = false := decide_eq_false h8
    have HN := Lib.hid (show ¬ CfgR C P Q hf from fun h => h8 (by rw [← HM.out]; exact h.2.2.1))
    go_wp2
    go_ret
    exact resB_no HN.out HB0.out
  have hd : decide ((M.length : Int) ≤ 8) = true := decide_eq_true (by omega)
  have hd' : decide (M.length ≤ 8) = true := decide_eq_true h8
  go_wp2_with fail
  refine (pairs_impl HMr.out HL.out HP.out).mono ?_
  intro e v3 h
  obtain ⟨z3, rfl, hz3, hb3⟩ := resB_elim h
  have HZ3 := Lib.hid hz3
  have HC := Lib.hid (rd_mv (Sl_ok R_Label_ok) HC.out hb3)
  have HP := Lib.hid (rd_mv R_Pair_ok HP.out hb3)
  have HQ := Lib.hid (rd_mv R_Quota_ok HQ.out hb3)
  have HL := Lib.hid (rd_mv R_Label_ok HL.out hb3)
  have X0 := Lib.hid (X0.out.call hb3)
  have HB0 := Lib.hid (HB0.out.trans (hb3.mono HB0.out.size))
  clear h hz3 hb3 qX0_0 qX0_1 qX0_2 qX0_3
  have qX0_0 := X0.out.at_ 0 rfl
  have qX0_1 := X0.out.at_ 1 rfl
  have qX0_2 := X0.out.at_ 2 rfl
  have qX0_3 := X0.out.at_ 3 rfl
  cases z3 with
  | false =>
    have HN := Lib.hid (show ¬ CfgR C P Q hf from fun h => by have := HZ3.out.2 (by rw [← HM.out]; exact h.2.2.2.1); cases this)
    go_wp2
    go_ret
    exact resB_no HN.out HB0.out
  | true =>
  have HY3 := Lib.hid (HZ3.out.1 rfl)
  go_wp2_with fail
  refine (quotas_impl HL.out HQ.out).mono ?_
  intro e v4 h
  obtain ⟨z4, rfl, hz4, hb4⟩ := resB_elim h
  have HZ4 := Lib.hid hz4
  have HC := Lib.hid (rd_mv (Sl_ok R_Label_ok) HC.out hb4)
  have HP := Lib.hid (rd_mv R_Pair_ok HP.out hb4)
  have HQ := Lib.hid (rd_mv R_Quota_ok HQ.out hb4)
  have HL := Lib.hid (rd_mv R_Label_ok HL.out hb4)
  have X0 := Lib.hid (X0.out.call hb4)
  have HB0 := Lib.hid (HB0.out.trans (hb4.mono HB0.out.size))
  clear h hz4 hb4 qX0_0 qX0_1 qX0_2 qX0_3
  have qX0_0 := X0.out.at_ 0 rfl
  have qX0_1 := X0.out.at_ 1 rfl
  have qX0_2 := X0.out.at_ 2 rfl
  have qX0_3 := X0.out.at_ 3 rfl
  cases z4 with
  | false =>
    have HN := Lib.hid (show ¬ CfgR C P Q hf from fun h => by have := HZ4.out.2 (by rw [← HM.out]; exact h.2.2.2.2); cases this)
    go_wp2
    go_ret
    exact resB_no HN.out HB0.out
  | true =>
  have HY4 := Lib.hid (HZ4.out.1 rfl)
  go_wp2_with fail
  refine (wi_at _ _ _ HH.out _).mono ?_
  rintro e w9 ⟨rfl, rfl⟩
  cases zh with
  | false =>
    have HN := Lib.hid (show ¬ CfgR C P Q hf from fun h => by have := h.2.1; rw [HH.out] at this; cases this)
    go_wp2
    go_ret
    exact resB_no HN.out HB0.out
  | true =>
  have HY := Lib.hid (show CfgR C P Q hf from ⟨HY1.out, HH.out, by rw [HM.out]; exact h8, by rw [HM.out]; exact HY3.out, by rw [HM.out]; exact HY4.out⟩)
  go_wp2
  go_ret
  exact resB_yes HY.out HB0.out
end Go.Proofs.YtlgflddljhldhaaGreat.RepC
end
