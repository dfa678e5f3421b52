/- Pairs and quotas of a configuration in the program: contracts. -/
import Derived.Test.YtmmnkdilnlhbfaaTk
import Derived.Test.YtmmnkdilnlhbfaaTk
import Derived.Test.YtmmnkdilnlhbfaaCfI
namespace Go.Proofs.Ytmmnkdilnlhbfaa.RepC
open Go.RowKit RowC ValC SpanC KeptC CfC
set_option linter.unusedVariables false
set_option linter.unusedSimpArgs false

theorem labs_rP {C : List (List D_Label)} : ∀ a ∈ labsOf C, LabC.rP a.1 a.2 := fun a ha => (mem_labs.1 ha).1
theorem below_rP {a b : Lb} (ha : LabC.rP a.1 a.2) (hb : LabC.rP b.1 b.2) : LabC.belowB a.1 a.2 b.1 b.2 = LabC.bB a.1 a.2 b.1 b.2 := LabC.below_yes ((LabC.rB_iff _ _).2 ha) ((LabC.rB_iff _ _).2 hb)
theorem pairix_at {P : List D_Pair} {pa : Option Addr} {pc n : Nat} {f0 f1 t0 t1 ix : Int} {W : World} (hn : P.length = n) (hix : ixP P (f0, f1) (t0, t1) = ix) (hP : RdSl R_Pair W W.heap.size P pa pc) :
    Calls Try.prog 121 #[.slice pa n pc, .agg #[.int .i64 f0, .int .i64 f1], .agg #[.int .i64 t0, .int .i64 t1]] W (IsI ix W) := by
  subst hn hix
  exact pairix_impl hP
set_option maxRecDepth 100000 in
set_option maxHeartbeats 3200000 in
theorem pairs_impl {L : List D_Label} {P : List D_Pair} {la pa : Option Addr} {lc pc : Nat} {W : World} (hLR : ∀ a ∈ L, LabC.rP a.1 a.2) (hL : RdSl R_Label W W.heap.size L la lc) (hP : RdSl R_Pair W W.heap.size P pa pc) :
    Calls Try.prog 85 #[.slice pa P.length pc, .slice la L.length lc] W (ResB (PairsR L P) W) := by
  have hn : P.length ≤ 9223372036854775807 := by have h1 := hP.1; have h2 := hP.2.1; unfold maxLen at h2; omega
  have hpc := hP.1
  have HL := Lib.hid hL
  have HP := Lib.hid hP
  have HLR := Lib.hid hLR
  clear hL hP hLR
  by_cases h4 : P.length ≤ 4
  rotate_left
  · have hd : decide ((P.length : Int) > 4) = true := decide_eq_true (by omega)
    have hd' : decide (4 < P.length) = true := decide_eq_true (by omega)
    have HN := Lib.hid (show ¬ PairsR L P from fun h => h4 h.1)
    go_enter Try.func85, Try.ntmps85
    go_wp2
    go_ret
    exact resB_no HN.out (Below.refl _ _)
  have hd : decide ((P.length : Int) > 4) = false := decide_eq_false (by omega)
  have hd' : decide (4 < P.length) = false := decide_eq_false (by omega)
  go_enter Try.func85, Try.ntmps85
  go_wp2
  go_loopw [12] (fun i wr => ∃ k : Nat, k ≤ P.length ∧ i = .int .i64 k ∧ Hid (∀ (j : Nat) x, j < k → P[j]? = some x → okP L P j x) ∧ Below W.heap.size W wr) (fun i _ => P.length - (intOf i).toNat)
  case atStart => exact ⟨0, Nat.zero_le _, rfl, Lib.hid fun j x h => absurd h (Nat.not_lt_zero _), Below.refl _ _⟩
  case round =>
    obtain ⟨k, hk, rfl, HA, hB⟩ := hrel
    obtain ⟨wo, rfl⟩ : ∃ x, x = wr := ⟨_, rfl⟩
    have HB := Lib.hid hB
    have hsz := hB.size
    by_cases hlt : k < P.length
    · have hdl : decide ((k : Int) < (P.length : Int)) = true := decide_eq_true (by omega)
      obtain ⟨⟨⟨x0, x1⟩, ⟨x2, x3⟩, x4⟩, hx⟩ := el_some hlt
      have HX := Lib.hid hx
      obtain ⟨g, o, us, rfl, hg, hu, hr⟩ := (HP.out.below R_Pair_ok hB).at_ hx
      obtain rfl := rd_Pair hr
      have e0 : wo.cell? ⟨g, o + k * 5, none⟩ = some (.int .i64 x0) := by simpa [size_PairS, Nat.add_assoc] using hu 0 _ rfl
      have e1 : wo.cell? ⟨g, o + k * 5 + 1, none⟩ = some (.int .i64 x1) := by simpa [size_PairS, Nat.add_assoc] using hu 1 _ rfl
      have e2 : wo.cell? ⟨g, o + k * 5 + 2, none⟩ = some (.int .i64 x2) := by simpa [size_PairS, Nat.add_assoc] using hu 2 _ rfl
      have e3 : wo.cell? ⟨g, o + k * 5 + 3, none⟩ = some (.int .i64 x3) := by simpa [size_PairS, Nat.add_assoc] using hu 3 _ rfl
      have e4 : wo.cell? ⟨g, o + k * 5 + 4, none⟩ = some (.int .i64 x4) := by simpa [size_PairS, Nat.add_assoc] using hu 4 _ rfl
      have hi0 : (0 : Int) ≤ (k : Int) := Int.natCast_nonneg _
      have hi1 : (k : Int) < (P.length : Int) := by omega
      obtain ⟨w1, hw1⟩ : ∃ w, w = wo.alloc (.cells #[.int .i64 x0, .int .i64 x1, .int .i64 x2, .int .i64 x3, .int .i64 x4] 105) := ⟨_, rfl⟩
      have hbA : Below wo.heap.size wo w1 := by rw [hw1]; exact (Below.refl _ _).alloc (Nat.le_refl _) _
      have HP1 := Lib.hid (show Blk w1 wo.heap.size 105 #[.int .i64 x0, .int .i64 x1, .int .i64 x2, .int .i64 x3, .int .i64 x4] from by rw [hw1]; exact Blk.new _ _ _)
      have HB1 := Lib.hid (HB.out.trans (hbA.mono hsz))
      have HL1 := Lib.hid (rd_mv R_Label_ok HL.out HB1.out)
      have hz1 := HB1.out.size
      have q0 := HP1.out.at_ 0 rfl
      have q1 := HP1.out.at_ 1 rfl
      have q2 := HP1.out.at_ 2 rfl
      have q3 := HP1.out.at_ 3 rfl
      have q4 := HP1.out.at_ 4 rfl
      clear hB hx hu hr
      go_wp2_with fail
      rw [← hw1]
      clear hw1 hbA e0 e1 e2 e3 e4
      refine (contains_lab HL1.out).mono ?_
      intro e w2 h
      obtain ⟨z, rfl, hz, hb⟩ := resB_elim h
      have HZ1 := Lib.hid hz
      have HB2 := Lib.hid (HB1.out.trans (hb.mono hz1))
      have HL2 := Lib.hid (rd_mv R_Label_ok HL1.out hb)
      have HP2 := Lib.hid (HP1.out.call hb)
      have hz2 := HB2.out.size
      clear h hz hb q0 q1 q2 q3 q4 HP1
      have q0 := HP2.out.at_ 0 rfl
      have q1 := HP2.out.at_ 1 rfl
      have q2 := HP2.out.at_ 2 rfl
      have q3 := HP2.out.at_ 3 rfl
      have q4 := HP2.out.at_ 4 rfl
      cases z with
      | false =>
        have HN := Lib.hid (show ¬ PairsR L P from fun h => by have := HZ1.out.2 (h.2 k _ HX.out).1; cases this)
        go_wp2
        go_ret
        exact resB_no HN.out HB2.out
      | true =>
      have HM1 := Lib.hid (HZ1.out.1 rfl)
      go_wp2_with fail
      refine (contains_lab HL2.out).mono ?_
      intro e w3 h
      obtain ⟨z, rfl, hz, hb⟩ := resB_elim h
      have HZ2 := Lib.hid hz
      have HB3 := Lib.hid (HB2.out.trans (hb.mono hz2))
      have HP3 := Lib.hid (HP2.out.call hb)
      have hz3 := HB3.out.size
      clear h hz hb q0 q1 q2 q3 q4 HP2
      have q0 := HP3.out.at_ 0 rfl
      have q1 := HP3.out.at_ 1 rfl
      have q2 := HP3.out.at_ 2 rfl
      have q3 := HP3.out.at_ 3 rfl
      have q4 := HP3.out.at_ 4 rfl
      cases z with
      | false =>
        have HN := Lib.hid (show ¬ PairsR L P from fun h => by have := HZ2.out.2 (h.2 k _ HX.out).2.1; cases this)
        go_wp2
        go_ret
        exact resB_no HN.out HB3.out
      | true =>
      have HM2 := Lib.hid (HZ2.out.1 rfl)
      obtain ⟨z3, hz3e⟩ : ∃ z, LabC.belowB x0 x1 x2 x3 = z := ⟨_, rfl⟩
      have HZ3 := Lib.hid hz3e
      have HZB := Lib.hid ((below_rP (HLR.out _ HM1.out) (HLR.out _ HM2.out)).symm.trans hz3e)
      clear hz3e
      go_wp2_with fail
      refine (bi_at _ _ _ _ HZ3.out _).mono ?_
      rintro e w4 ⟨rfl, hb⟩
      have HB4 := Lib.hid (HB3.out.trans (hb.mono hz3))
      have HP4 := Lib.hid (HP3.out.call hb)
      have HPk := Lib.hid (rd_mv R_Pair_ok HP.out HB4.out)
      have hz4 := HB4.out.size
      clear hb q0 q1 q2 q3 q4 HP3
      have q0 := HP4.out.at_ 0 rfl
      have q1 := HP4.out.at_ 1 rfl
      have q2 := HP4.out.at_ 2 rfl
      have q3 := HP4.out.at_ 3 rfl
      have q4 := HP4.out.at_ 4 rfl
      cases z3 with
      | true =>
        have HN := Lib.hid (show ¬ PairsR L P from fun h => by have := (h.2 k _ HX.out).2.2.1; rw [HZB.out] at this; cases this)
        go_wp2
        go_ret
        exact resB_no HN.out HB4.out
      | false =>
      obtain ⟨z4, hz4e⟩ : ∃ z, isB x4 1 3 = z := ⟨_, rfl⟩
      have HZ4 := Lib.hid hz4e
      have hkc : (k : Int) ≤ (pc : Int) := by omega
      have hkc2 : k ≤ pc := by omega
      clear hz4e q0 q1 q2 q3 q4
      cases z4 with
      | false =>
        have HN := Lib.hid (show ¬ PairsR L P from fun h => by have := (h.2 k _ HX.out).2.2.2.1; rw [HZ4.out] at this; cases this)
        go_wp2_with fail
        refine wp_region_held_drew (S := (fun V => Below (w4).heap.size (w4) V)) (by kernel_rfl) ((Below.refl _ _).drew) (fun hHeld => ?_)
        refine tk 0 hHeld ?_
        refine tk 1 hHeld ?_ (hy := fun w hSw => by (try dsimp only at hSw); have k0 := (hSw.cell (p := ⟨wo.heap.size, 4, none⟩) HP4.out.lt).trans (HP4.out.at_ 4 rfl); clear hSw; go_simp; try with_reducible rfl)
        refine rd1 2 (fun K hK => ?_)
        go_simp
        go_at_call 87
        refine (wi_at _ _ _ HZ4.out _).mono ?_
        rintro e w5 ⟨rfl, rfl⟩
        have hb := Below.refl w4.drew.heap.size w4.drew
        refine hK.out _ _ (hHeld.trans (hb.mono hHeld.size)) (fun hHeld => ?_)
        clear hK K hb
        refine tk 3 hHeld ?_
        refine tk 4 hHeld ?_
        refine tn 5 hHeld ?_
        refine tn 6 hHeld ?_
        refine tn 7 hHeld ?_
        refine tn 8 hHeld ?_
        refine tn 9 hHeld ?_
        refine tn 10 hHeld ?_
        refine tn 11 hHeld ?_
        refine tn 12 hHeld ?_
        refine tn 13 hHeld ?_
        refine tk 14 hHeld ?_
        refine rd0 ?_
        have HF := Lib.hid hHeld
        clear hHeld
        have HB5 := Lib.hid (HB4.out.trans (HF.out.mono hz4))
        clear HF
        go_wp2
        go_ret
        exact resB_no HN.out HB5.out
      | true =>
      have hkt : (P.take k).length = k := by rw [List.length_take]; omega
      obtain ⟨ix, hix⟩ : ∃ i, ixP (P.take k) (x0, x1) (x2, x3) = i := ⟨_, rfl⟩
      have HIX := Lib.hid hix
      by_cases hge : 0 ≤ ix
      · have hdg : decide (ix ≥ 0) = true := decide_eq_true hge
        have hdg2 : decide (0 ≤ ix) = true := decide_eq_true hge
        have HN := Lib.hid (show ¬ PairsR L P from fun h => by
          obtain ⟨q, y, hy, hh⟩ := ixP_ge.1 (by rw [hix]; exact hge)
          have hqk : q < k := by have := el_lt hy; omega
          rw [List.getElem?_take, if_pos hqk] at hy
          exact (h.2 k _ HX.out).2.2.2.2 q y hqk hy hh)
        clear hix hge
        go_wp2_with fail
        refine wp_region_held_drew (S := (fun V => Below (w4).heap.size (w4) V)) (by kernel_rfl) ((Below.refl _ _).drew) (fun hHeld => ?_)
        refine tk 0 hHeld ?_
        refine tk 1 hHeld ?_ (hy := fun w hSw => by (try dsimp only at hSw); have k0 := (hSw.cell (p := ⟨wo.heap.size, 4, none⟩) HP4.out.lt).trans (HP4.out.at_ 4 rfl); clear hSw; go_simp; try with_reducible rfl)
        refine rd1 2 (fun K hK => ?_)
        go_simp
        go_at_call 87
        refine (wi_at _ _ _ HZ4.out _).mono ?_
        rintro e w5 ⟨rfl, rfl⟩
        have hb := Below.refl w4.drew.heap.size w4.drew
        refine hK.out _ _ (hHeld.trans (hb.mono hHeld.size)) (fun hHeld => ?_)
        clear hK K hb
        refine tk 3 hHeld ?_
        refine tk 4 hHeld ?_
        refine tk 5 hHeld ?_
        refine tk 6 hHeld ?_
        refine tk 7 hHeld ?_
        refine tk 8 hHeld ?_
        refine tk 9 hHeld ?_ (hy := fun w hSw => by (try dsimp only at hSw); have k0 := (hSw.cell (p := ⟨wo.heap.size, 0, none⟩) HP4.out.lt).trans (HP4.out.at_ 0 rfl); have k1 := (hSw.cell (p := ⟨wo.heap.size, 1, none⟩) HP4.out.lt).trans (HP4.out.at_ 1 rfl); clear hSw; go_simp; try with_reducible rfl)
        refine tk 10 hHeld ?_
        refine tk 11 hHeld ?_ (hy := fun w hSw => by (try dsimp only at hSw); have k0 := (hSw.cell (p := ⟨wo.heap.size, 2, none⟩) HP4.out.lt).trans (HP4.out.at_ 2 rfl); have k1 := (hSw.cell (p := ⟨wo.heap.size, 3, none⟩) HP4.out.lt).trans (HP4.out.at_ 3 rfl); clear hSw; go_simp; try with_reducible rfl)
        refine rd1 12 (fun K hK => ?_)
        go_simp
        go_at_call 121
        refine (pairix_at hkt HIX.out (rd_take (rd_mv R_Pair_ok HPk.out hHeld) k)).mono ?_
        intro e w6 h
        obtain ⟨rfl, hb⟩ := isI_elim h
        clear h
        refine hK.out _ _ (hHeld.trans (hb.mono hHeld.size)) (fun hHeld => ?_)
        clear hK K hb
        refine tk 13 hHeld ?_
        refine tk 14 hHeld ?_
        refine rd0 ?_
        have HF := Lib.hid hHeld
        clear hHeld
        have HB5 := Lib.hid (HB4.out.trans (HF.out.mono hz4))
        clear HF
        go_wp2
        go_ret
        exact resB_no HN.out HB5.out
      · have hdg : decide (ix ≥ 0) = false := decide_eq_false hge
        have hdg2 : decide (0 ≤ ix) = false := decide_eq_false hge
        have HA2 := Lib.hid (show ∀ (j : Nat) x, j < k + 1 → P[j]? = some x → okP L P j x from fun q y hq hy => by
          by_cases e : q = k
          · subst e; rw [HX.out] at hy; obtain rfl := Option.some.inj hy
            refine ⟨HM1.out, HM2.out, HZB.out, HZ4.out, fun r z hr hz hh => hge ?_⟩
            rw [← hix]
            exact ixP_ge.2 ⟨r, z, by rw [List.getElem?_take, if_pos hr]; exact hz, hh⟩
          · exact HA.out q y (by omega) hy)
        clear hix hge
        go_wp2_with fail
        refine wp_region_held_drew (S := (fun V => Below (w4).heap.size (w4) V)) (by kernel_rfl) ((Below.refl _ _).drew) (fun hHeld => ?_)
        refine tk 0 hHeld ?_
        refine tk 1 hHeld ?_ (hy := fun w hSw => by (try dsimp only at hSw); have k0 := (hSw.cell (p := ⟨wo.heap.size, 4, none⟩) HP4.out.lt).trans (HP4.out.at_ 4 rfl); clear hSw; go_simp; try with_reducible rfl)
        refine rd1 2 (fun K hK => ?_)
        go_simp
        go_at_call 87
        refine (wi_at _ _ _ HZ4.out _).mono ?_
        rintro e w5 ⟨rfl, rfl⟩
        have hb := Below.refl w4.drew.heap.size w4.drew
        refine hK.out _ _ (hHeld.trans (hb.mono hHeld.size)) (fun hHeld => ?_)
        clear hK K hb
        refine tk 3 hHeld ?_
        refine tk 4 hHeld ?_
        refine tk 5 hHeld ?_
        refine tk 6 hHeld ?_
        refine tk 7 hHeld ?_
        refine tk 8 hHeld ?_
        refine tk 9 hHeld ?_ (hy := fun w hSw => by (try dsimp only at hSw); have k0 := (hSw.cell (p := ⟨wo.heap.size, 0, none⟩) HP4.out.lt).trans (HP4.out.at_ 0 rfl); have k1 := (hSw.cell (p := ⟨wo.heap.size, 1, none⟩) HP4.out.lt).trans (HP4.out.at_ 1 rfl); clear hSw; go_simp; try with_reducible rfl)
        refine tk 10 hHeld ?_
        refine tk 11 hHeld ?_ (hy := fun w hSw => by (try dsimp only at hSw); have k0 := (hSw.cell (p := ⟨wo.heap.size, 2, none⟩) HP4.out.lt).trans (HP4.out.at_ 2 rfl); have k1 := (hSw.cell (p := ⟨wo.heap.size, 3, none⟩) HP4.out.lt).trans (HP4.out.at_ 3 rfl); clear hSw; go_simp; try with_reducible rfl)
        refine rd1 12 (fun K hK => ?_)
        go_simp
        go_at_call 121
        refine (pairix_at hkt HIX.out (rd_take (rd_mv R_Pair_ok HPk.out hHeld) k)).mono ?_
        intro e w6 h
        obtain ⟨rfl, hb⟩ := isI_elim h
        clear h
        refine hK.out _ _ (hHeld.trans (hb.mono hHeld.size)) (fun hHeld => ?_)
        clear hK K hb
        refine tk 13 hHeld ?_
        refine tk 14 hHeld ?_
        refine rd0 ?_
        have HF := Lib.hid hHeld
        clear hHeld
        have HB5 := Lib.hid (HB4.out.trans (HF.out.mono hz4))
        clear HF
        go_wp2
        go_roundw
        case rel => exact ⟨k + 1, by omega, by go_num, HA2, HB5.out⟩
        case measure => simp [intOf]; omega
    · have hdl : decide ((k : Int) < (P.length : Int)) = false := decide_eq_false (by omega)
      have HY := Lib.hid (show PairsR L P from ⟨h4, fun i x hx => HA.out i x (by have := el_lt hx; omega) hx⟩)
      clear hB
      go_wp2
      go_ret
      exact resB_yes HY.out HB.out
end Go.Proofs.Ytmmnkdilnlhbfaa.RepC
