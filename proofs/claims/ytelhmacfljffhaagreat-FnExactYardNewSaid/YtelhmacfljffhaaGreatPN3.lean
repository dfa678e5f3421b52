/- Of this claim's texts the part 3: CfS2 CfS3 YbC NdT St Draws MkT UsT TaT YaT YbS. -/
import Derived.Test.YtelhmacfljffhaaGreatProg
import Derived.WalkKit
import Derived.ProofKit
import Derived.Below
import Derived.LoopTactic
import Derived.RegionTactic
import Derived.BigRegion
import Derived.BigQuiet
import Derived.Deep.QuietTactic
import Derived.WalkSpells
import Derived.WalkLawsBesides
import Derived.Lib.Hide
import Derived.OwnWalk
import Derived.OpenShut
import Derived.Laws.Bits64
import Derived.Laws.MakeOwn
import Derived.Test.YtelhmacfljffhaaGreatPN2
section
namespace Go.Proofs.YtelhmacfljffhaaGreat.RepC
open Go.RowKit RowC ValC SpanC KeptC CfC
set_option linter.unusedVariables false
set_option linter.unusedSimpArgs false
set_option maxRecDepth 100000 in
set_option maxHeartbeats 3200000 in
theorem pairs_spec {L : List D_Label} {P : List D_Pair} {la pa : Option Addr} {lc pc : Nat} {W : World} (hL : RdSl R_Label W W.heap.size L la lc) (hP : RdSl R_Pair W W.heap.size P pa pc) :
    Calls Tryz.prog 69 #[.slice la L.length lc, .slice pa P.length pc] W (ResB (PairsR L P) W) := by
  have hn : P.length ≤ 9223372036854775807 := by have h1 := hP.1; have h2 := hP.2.1; unfold maxLen at h2; omega
  have HL := Lib.hid hL
  have HP := Lib.hid hP
  clear hL hP
  by_cases h4 : P.length ≤ 4
  rotate_left
  · have hd : decide ((P.length : Int) > 4) = true := decide_eq_true (by omega)
    have hd' : decide (4 < P.length) = true := decide_eq_true (by omega)
    have HN := Lib.hid (show ¬ PairsR L P from fun h => h4 h.1)
    go_enter Tryz.func69, Tryz.ntmps69
    go_wp2
    go_ret
    exact resB_no HN.out (Below.refl _ _)
  have hd : decide ((P.length : Int) > 4) = false := decide_eq_false (by omega)
  have hd' : decide (4 < P.length) = false := decide_eq_false (by omega)
  go_enter Tryz.func69, Tryz.ntmps69
  go_wp2
  go_loopw [5] (fun i wr => ∃ k : Nat, k ≤ P.length ∧ i = .int .i64 k ∧ Hid (∀ (j : Nat) x, j < k → P[j]? = some x → okP L P j x) ∧ Below W.heap.size W wr) (fun i _ => P.length - (intOf i).toNat)
  case atStart => exact ⟨0, Nat.zero_le _, rfl, Lib.hid fun j x h => absurd h (Nat.not_lt_zero _), Below.refl _ _⟩
  case round =>
    obtain ⟨k, hk, rfl, HA, hB⟩ := hrel
    obtain ⟨wo, rfl⟩ : ∃ x, x = wr := ⟨_, rfl⟩
    have HB := Lib.hid hB
    have hsz := hB.size
    by_cases hlt : k < P.length
    · have hdl : decide ((k : Int) < (P.length : Int)) = true := decide_eq_true (by omega)
      obtain ⟨⟨⟨x0, x1⟩, ⟨x2, x3⟩, x4⟩, hx⟩ := el_some hlt
      have HX := Lib.hid hx
      obtain ⟨g, o, us, rfl, hg, hu, hr⟩ := (HP.out.below R_Pair_ok hB).at_ hx
      obtain rfl := rd_Pair hr
      have e0 : wo.cell? ⟨g, o + k * 5, none⟩ = some (.int .i64 x0) := by simpa [size_PairS, Nat.add_assoc] using hu 0 _ rfl
      have e1 : wo.cell? ⟨g, o + k * 5 + 1, none⟩ = some (.int .i64 x1) := by simpa [size_PairS, Nat.add_assoc] using hu 1 _ rfl
      have e2 : wo.cell? ⟨g, o + k * 5 + 2, none⟩ = some (.int .i64 x2) := by simpa [size_PairS, Nat.add_assoc] using hu 2 _ rfl
      have e3 : wo.cell? ⟨g, o + k * 5 + 3, none⟩ = some (.int .i64 x3) := by simpa [size_PairS, Nat.add_assoc] using hu 3 _ rfl
      have e4 : wo.cell? ⟨g, o + k * 5 + 4, none⟩ = some (.int .i64 x4) := by simpa [size_PairS, Nat.add_assoc] using hu 4 _ rfl
      have hi0 : (0 : Int) ≤ (k : Int) := Int.natCast_nonneg _
      have hi1 : (k : Int) < (P.length : Int) := by omega
      obtain ⟨w1, hw1⟩ : ∃ w, w = wo.alloc (.cells #[.int .i64 x0, .int .i64 x1, .int .i64 x2, .int .i64 x3, .int .i64 x4] 149) := ⟨_, rfl⟩
      have hbA : Below wo.heap.size wo w1 := by rw [hw1]; exact (Below.refl _ _).alloc (Nat.le_refl _) _
      have HP1 := Lib.hid (show Blk w1 wo.heap.size 149 #[.int .i64 x0, .int .i64 x1, .int .i64 x2, .int .i64 x3, .int .i64 x4] from by rw [hw1]; exact Blk.new _ _ _)
      have HB1 := Lib.hid (HB.out.trans (hbA.mono hsz))
      have HL1 := Lib.hid (rd_mv R_Label_ok HL.out HB1.out)
      have hz1 := HB1.out.size
      have q0 := HP1.out.at_ 0 rfl
      have q1 := HP1.out.at_ 1 rfl
      have q2 := HP1.out.at_ 2 rfl
      have q3 := HP1.out.at_ 3 rfl
      have q4 := HP1.out.at_ 4 rfl
      clear hB hx hu hr
      go_wp2_with fail
      rw [← hw1]
      clear hw1 hbA e0 e1 e2 e3 e4
      refine (cleared_spec HL1.out).mono ?_
      intro e w2 h
      obtain ⟨z, rfl, hz, hb⟩ := resB_elim h
      have HZ1 := Lib.hid hz
      have HB2 := Lib.hid (HB1.out.trans (hb.mono hz1))
      have HL2 := Lib.hid (rd_mv R_Label_ok HL1.out hb)
      have HP2 := Lib.hid (HP1.out.call hb)
      have hz2 := HB2.out.size
      clear h hz hb q0 q1 q2 q3 q4 HP1
      have q0 := HP2.out.at_ 0 rfl
      have q1 := HP2.out.at_ 1 rfl
      have q2 := HP2.out.at_ 2 rfl
      have q3 := HP2.out.at_ 3 rfl
      have q4 := HP2.out.at_ 4 rfl
      cases z with
      | false =>
        have HN := Lib.hid (show ¬ PairsR L P from fun h => by have := HZ1.out.2 (h.2 k _ HX.out).1; cases this)
        go_wp2
        go_ret
        exact resB_no HN.out HB2.out
      | true =>
      have HM1 := Lib.hid (HZ1.out.1 rfl)
      go_wp2_with fail
      refine (cleared_spec HL2.out).mono ?_
      intro e w3 h
      obtain ⟨z, rfl, hz, hb⟩ := resB_elim h
      have HZ2 := Lib.hid hz
      have HB3 := Lib.hid (HB2.out.trans (hb.mono hz2))
      have HP3 := Lib.hid (HP2.out.call hb)
      have hz3 := HB3.out.size
      clear h hz hb q0 q1 q2 q3 q4 HP2
      have q0 := HP3.out.at_ 0 rfl
      have q1 := HP3.out.at_ 1 rfl
      have q2 := HP3.out.at_ 2 rfl
      have q3 := HP3.out.at_ 3 rfl
      have q4 := HP3.out.at_ 4 rfl
      cases z with
      | false =>
        have HN := Lib.hid (show ¬ PairsR L P from fun h => by have := HZ2.out.2 (h.2 k _ HX.out).2.1; cases this)
        go_wp2
        go_ret
        exact resB_no HN.out HB3.out
      | true =>
      have HM2 := Lib.hid (HZ2.out.1 rfl)
      obtain ⟨z3, hz3e⟩ : ∃ z, LabC.bB x0 x1 x2 x3 = z := ⟨_, rfl⟩
      have HZ3 := Lib.hid hz3e
      clear hz3e
      go_wp2_with fail
      refine (below2_at _ _ _ _ HZ3.out _).mono ?_
      rintro e w4 ⟨rfl, hb⟩
      have HB4 := Lib.hid (HB3.out.trans (hb.mono hz3))
      have HP4 := Lib.hid (HP3.out.call hb)
      have hz4 := HB4.out.size
      clear hb q0 q1 q2 q3 q4 HP3
      have q0 := HP4.out.at_ 0 rfl
      have q1 := HP4.out.at_ 1 rfl
      have q2 := HP4.out.at_ 2 rfl
      have q3 := HP4.out.at_ 3 rfl
      have q4 := HP4.out.at_ 4 rfl
      cases z3 with
      | true =>
        have HN := Lib.hid (show ¬ PairsR L P from fun h => by have := (h.2 k _ HX.out).2.2.1; rw [HZ3.out] at this; cases this)
        go_wp2
        go_ret
        exact resB_no HN.out HB4.out
      | false =>
      obtain ⟨z4, hz4e⟩ : ∃ z, isB x4 1 3 = z := ⟨_, rfl⟩
      have HZ4 := Lib.hid hz4e
      clear hz4e
      go_wp2_with fail
      refine (is_at _ _ _ HZ4.out _).mono ?_
      rintro e w5 ⟨rfl, rfl⟩
      cases z4 with
      | false =>
        have HN := Lib.hid (show ¬ PairsR L P from fun h => by have := (h.2 k _ HX.out).2.2.2.1; rw [HZ4.out] at this; cases this)
        go_wp2
        go_ret
        exact resB_no HN.out HB4.out
      | true =>
      clear q0 q1 q2 q3 q4
      go_wp2
      go_loopw [7] (fun i wr => ∃ j : Nat, j ≤ k ∧ i = .int .i64 j ∧ Hid (∀ (q : Nat) y, q < j → P[q]? = some y → ¬ (y.1 = (x0, x1) ∧ y.2.1 = (x2, x3))) ∧ Below w4.heap.size w4 wr) (fun i _ => k - (intOf i).toNat)
      case atStart => exact ⟨0, Nat.zero_le _, rfl, Lib.hid fun q y h => absurd h (Nat.not_lt_zero _), Below.refl _ _⟩
      case round =>
        obtain ⟨j, hj, rfl, HQ, hB⟩ := hrel
        have HBw := Lib.hid hB
        have HB5 := Lib.hid (HB4.out.trans (hB.mono hz4))
        have HP3 := Lib.hid (HP4.out.call hB)
        have hz5 := hB.size
        clear hB
        by_cases hjl : j < k
        · have hd2 : decide ((j : Int) < (k : Int)) = true := decide_eq_true (by omega)
          obtain ⟨⟨⟨y0, y1⟩, ⟨y2, y3⟩, y4⟩, hy⟩ := el_some (show j < P.length by omega)
          have HY := Lib.hid hy
          obtain ⟨g2, o2, us, hgg, hg2, hu, hr⟩ := (HP.out.below R_Pair_ok HB5.out).at_ hy
          obtain ⟨rfl, rfl⟩ : g = g2 ∧ o = o2 := by cases hgg; exact ⟨rfl, rfl⟩
          obtain rfl := rd_Pair hr
          have d0 : wr.cell? ⟨g, o + j * 5, none⟩ = some (.int .i64 y0) := by simpa [size_PairS, Nat.add_assoc] using hu 0 _ rfl
          have d1 : wr.cell? ⟨g, o + j * 5 + 1, none⟩ = some (.int .i64 y1) := by simpa [size_PairS, Nat.add_assoc] using hu 1 _ rfl
          have d2 : wr.cell? ⟨g, o + j * 5 + 2, none⟩ = some (.int .i64 y2) := by simpa [size_PairS, Nat.add_assoc] using hu 2 _ rfl
          have d3 : wr.cell? ⟨g, o + j * 5 + 3, none⟩ = some (.int .i64 y3) := by simpa [size_PairS, Nat.add_assoc] using hu 3 _ rfl
          have HG2 := Lib.hid (show g < wr.heap.size by omega)
          have hj0 : (0 : Int) ≤ (j : Int) := Int.natCast_nonneg _
          have hj1 : (j : Int) < (P.length : Int) := by omega
          obtain ⟨b1, hb1⟩ : ∃ b, decide (((y0, y1) : Lb) = (x0, x1)) = b := ⟨_, rfl⟩
          obtain ⟨b2, hb2⟩ : ∃ b, decide (((y2, y3) : Lb) = (x2, x3)) = b := ⟨_, rfl⟩
          have hE1 := eql_lab _ _ _ _ _ hb1
          have hE2 := eql_lab _ _ _ _ _ hb2
          have HE := Lib.hid (And.intro hb1 hb2)
          clear hy hu hr hgg hb1 hb2 hg2
          cases b1 with
          | false =>
            have HQ2 := Lib.hid (show ∀ (q : Nat) y, q < j + 1 → P[q]? = some y → ¬ (y.1 = (x0, x1) ∧ y.2.1 = (x2, x3)) from fun q y hq hy => by
              by_cases e : q = j
              · subst e; rw [HY.out] at hy; obtain rfl := Option.some.inj hy
                exact fun h => of_decide_eq_false HE.out.1 h.1
              · exact HQ.out q y (by omega) hy)
            go_wp2_with fail
            refine wp_region_held_drew (S := (fun V => Below (wr).heap.size (wr) V)) (by kernel_rfl) ((Below.refl _ _).drew) (fun hHeld => ?_)
            refine tk 0 hHeld ?_
            refine tk 1 hHeld ?_
            refine tk 2 hHeld ?_
            refine tk 3 hHeld ?_
            refine tk 4 hHeld ?_ (hy := fun w hSw => by (try dsimp only at hSw); have k0 := (hSw.cell (p := ⟨g, o + j * 5, none⟩) HG2.out).trans d0; have k1 := (hSw.cell (p := ⟨g, o + j * 5 + 1, none⟩) HG2.out).trans d1; clear hSw; go_simp; try with_reducible rfl)
            refine tk 5 hHeld ?_
            refine tk 6 hHeld ?_ (hy := fun w hSw => by (try dsimp only at hSw); have k0 := (hSw.cell (p := ⟨wo.heap.size, 0, none⟩) HP3.out.lt).trans (HP3.out.at_ 0 rfl); have k1 := (hSw.cell (p := ⟨wo.heap.size, 1, none⟩) HP3.out.lt).trans (HP3.out.at_ 1 rfl); clear hSw; go_simp; try with_reducible rfl)
            refine tk 7 hHeld ?_
            refine tk 8 hHeld ?_
            refine tn 9 hHeld ?_
            refine tn 10 hHeld ?_
            refine tn 11 hHeld ?_
            refine tn 12 hHeld ?_
            refine tn 13 hHeld ?_
            refine tn 14 hHeld ?_
            refine tn 15 hHeld ?_
            refine tn 16 hHeld ?_
            refine tk 17 hHeld ?_
            refine rd0 ?_
            have HF := Lib.hid hHeld
            clear hHeld
            have HB6 := Lib.hid (HBw.out.trans (HF.out.mono hz5))
            clear HF
            go_wp2
            go_roundw
            case rel => exact ⟨j + 1, by omega, by go_num, HQ2, HB6.out⟩
            case measure => simp [intOf]; omega
          | true =>
          cases b2 with
          | false =>
            have HQ2 := Lib.hid (show ∀ (q : Nat) y, q < j + 1 → P[q]? = some y → ¬ (y.1 = (x0, x1) ∧ y.2.1 = (x2, x3)) from fun q y hq hy => by
              by_cases e : q = j
              · subst e; rw [HY.out] at hy; obtain rfl := Option.some.inj hy
                exact fun h => of_decide_eq_false HE.out.2 h.2
              · exact HQ.out q y (by omega) hy)
            go_wp2_with fail
            refine wp_region_held_drew (S := (fun V => Below (wr).heap.size (wr) V)) (by kernel_rfl) ((Below.refl _ _).drew) (fun hHeld => ?_)
            refine tk 0 hHeld ?_
            refine tk 1 hHeld ?_
            refine tk 2 hHeld ?_
            refine tk 3 hHeld ?_
            refine tk 4 hHeld ?_ (hy := fun w hSw => by (try dsimp only at hSw); have k0 := (hSw.cell (p := ⟨g, o + j * 5, none⟩) HG2.out).trans d0; have k1 := (hSw.cell (p := ⟨g, o + j * 5 + 1, none⟩) HG2.out).trans d1; clear hSw; go_simp; try with_reducible rfl)
            refine tk 5 hHeld ?_
            refine tk 6 hHeld ?_ (hy := fun w hSw => by (try dsimp only at hSw); have k0 := (hSw.cell (p := ⟨wo.heap.size, 0, none⟩) HP3.out.lt).trans (HP3.out.at_ 0 rfl); have k1 := (hSw.cell (p := ⟨wo.heap.size, 1, none⟩) HP3.out.lt).trans (HP3.out.at_ 1 rfl); clear hSw; go_simp; try with_reducible rfl)
            refine tk 7 hHeld ?_
            refine tk 8 hHeld ?_
            refine tk 9 hHeld ?_
            refine tk 10 hHeld ?_
            refine tk 11 hHeld ?_
            refine tk 12 hHeld ?_
            refine tk 13 hHeld ?_ (hy := fun w hSw => by (try dsimp only at hSw); have k0 := (hSw.cell (p := ⟨g, o + j * 5 + 2, none⟩) HG2.out).trans d2; have k1 := (hSw.cell (p := ⟨g, o + j * 5 + 3, none⟩) HG2.out).trans d3; clear hSw; go_simp; try with_reducible rfl)
            refine tk 14 hHeld ?_
            refine tk 15 hHeld ?_ (hy := fun w hSw => by (try dsimp only at hSw); have k0 := (hSw.cell (p := ⟨wo.heap.size, 2, none⟩) HP3.out.lt).trans (HP3.out.at_ 2 rfl); have k1 := (hSw.cell (p := ⟨wo.heap.size, 3, none⟩) HP3.out.lt).trans (HP3.out.at_ 3 rfl); clear hSw; go_simp; try with_reducible rfl)
            refine tk 16 hHeld ?_
            refine tk 17 hHeld ?_
            refine rd0 ?_
            have HF := Lib.hid hHeld
            clear hHeld
            have HB6 := Lib.hid (HBw.out.trans (HF.out.mono hz5))
            clear HF
            go_wp2
            go_roundw
            case rel => exact ⟨j + 1, by omega, by go_num, HQ2, HB6.out⟩
            case measure => simp [intOf]; omega
          | true =>
            have HN := Lib.hid (show ¬ PairsR L P from fun h => (h.2 k _ HX.out).2.2.2.2 j _ hjl HY.out ⟨of_decide_eq_true HE.out.1, of_decide_eq_true HE.out.2⟩)
            go_wp2_with fail
            refine wp_region_held_drew (S := (fun V => Below (wr).heap.size (wr) V)) (by kernel_rfl) ((Below.refl _ _).drew) (fun hHeld => ?_)
            refine tk 0 hHeld ?_
            refine tk 1 hHeld ?_
            refine tk 2 hHeld ?_
            refine tk 3 hHeld ?_
            refine tk 4 hHeld ?_ (hy := fun w hSw => by (try dsimp only at hSw); have k0 := (hSw.cell (p := ⟨g, o + j * 5, none⟩) HG2.out).trans d0; have k1 := (hSw.cell (p := ⟨g, o + j * 5 + 1, none⟩) HG2.out).trans d1; clear hSw; go_simp; try with_reducible rfl)
            refine tk 5 hHeld ?_
            refine tk 6 hHeld ?_ (hy := fun w hSw => by (try dsimp only at hSw); have k0 := (hSw.cell (p := ⟨wo.heap.size, 0, none⟩) HP3.out.lt).trans (HP3.out.at_ 0 rfl); have k1 := (hSw.cell (p := ⟨wo.heap.size, 1, none⟩) HP3.out.lt).trans (HP3.out.at_ 1 rfl); clear hSw; go_simp; try with_reducible rfl)
            refine tk 7 hHeld ?_
            refine tk 8 hHeld ?_
            refine tk 9 hHeld ?_
            refine tk 10 hHeld ?_
            refine tk 11 hHeld ?_
            refine tk 12 hHeld ?_
            refine tk 13 hHeld ?_ (hy := fun w hSw => by (try dsimp only at hSw); have k0 := (hSw.cell (p := ⟨g, o + j * 5 + 2, none⟩) HG2.out).trans d2; have k1 := (hSw.cell (p := ⟨g, o + j * 5 + 3, none⟩) HG2.out).trans d3; clear hSw; go_simp; try with_reducible rfl)
            refine tk 14 hHeld ?_
            refine tk 15 hHeld ?_ (hy := fun w hSw => by (try dsimp only at hSw); have k0 := (hSw.cell (p := ⟨wo.heap.size, 2, none⟩) HP3.out.lt).trans (HP3.out.at_ 2 rfl); have k1 := (hSw.cell (p := ⟨wo.heap.size, 3, none⟩) HP3.out.lt).trans (HP3.out.at_ 3 rfl); clear hSw; go_simp; try with_reducible rfl)
            refine tk 16 hHeld ?_
            refine tk 17 hHeld ?_
            refine rd0 ?_
            have HF := Lib.hid hHeld
            clear hHeld
            have HB6 := Lib.hid (HB5.out.trans (HF.out.mono (by omega)))
            clear HF
            go_wp2
            go_ret
            exact resB_no HN.out HB6.out
        · have hd2 : decide ((j : Int) < (k : Int)) = false := decide_eq_false (by omega)
          have HA2 := Lib.hid (show ∀ (j : Nat) x, j < k + 1 → P[j]? = some x → okP L P j x from fun q y hq hy => by
            by_cases e : q = k
            · subst e; rw [HX.out] at hy; obtain rfl := Option.some.inj hy
              exact ⟨HM1.out, HM2.out, HZ3.out, HZ4.out, fun r z hr hz => HQ.out r z (by omega) hz⟩
            · exact HA.out q y (by omega) hy)
          go_wp2
          go_roundw
          case rel => exact ⟨k + 1, by omega, by go_num, HA2, HB5.out⟩
          case measure => simp [intOf]; omega
    · have hdl : decide ((k : Int) < (P.length : Int)) = false := decide_eq_false (by omega)
      have HY := Lib.hid (show PairsR L P from ⟨h4, fun i x hx => HA.out i x (by have := el_lt hx; omega) hx⟩)
      clear hB
      go_wp2
      go_ret
      exact resB_yes HY.out HB.out
end Go.Proofs.YtelhmacfljffhaaGreat.RepC
end
section
namespace Go.Proofs.YtelhmacfljffhaaGreat.RepC
open Go.RowKit RowC ValC SpanC KeptC CfC
set_option linter.unusedVariables false
set_option linter.unusedSimpArgs false
theorem ord_at {l s : Int} (h : LabC.rP l s) (w : World) : Calls Tryz.prog 74 #[.agg #[.int .i64 l, .int .i64 s]] w fun e w' => e = .returned (.int .i64 (8 * l + s)) ∧ Below w.heap.size w w' := by
  obtain ⟨h1, h2, h3, h4⟩ := h
  have e1 : IntKind.i64.wrap (8 * l) = 8 * l := IntWalk.i64_in _ (by omega)
  have e2 : IntKind.i64.wrap (8 * l + s) = 8 * l + s := IntWalk.i64_in _ (by omega)
  go_enter Tryz.func74, Tryz.ntmps74
  go_wp2
  go_ret
  exact ⟨by first | rfl | simp [e1, e2], (Below.refl _ _).alloc (Nat.le_refl _) _⟩
theorem ltB_ord {a b : Lb} (ha : LabC.rP a.1 a.2) (hb : LabC.rP b.1 b.2) : ltB a b ↔ ¬ (8 * a.1 + a.2 ≥ 8 * b.1 + b.2) := by
  obtain ⟨h1, h2, h3, h4⟩ := ha
  obtain ⟨g1, g2, g3, g4⟩ := hb
  unfold ltB
  omega
set_option maxRecDepth 100000 in
set_option maxHeartbeats 3200000 in
theorem quotas_spec {L : List D_Label} {Q : List D_Quota} {la qa : Option Addr} {lc qc : Nat} {W : World} (hLR : ∀ a ∈ L, LabC.rP a.1 a.2) (hLS : L.Pairwise ltB) (hL8 : L.length ≤ 8) (hL : RdSl R_Label W W.heap.size L la lc) (hQ : RdSl R_Quota W W.heap.size Q qa qc) :
    Calls Tryz.prog 70 #[.slice la L.length lc, .slice qa Q.length qc] W (ResB (QuotasR L Q) W) := by
  have hn : Q.length ≤ 9223372036854775807 := by have h1 := hQ.1; have h2 := hQ.2.1; unfold maxLen at h2; omega
  have HL := Lib.hid hL
  have HQ := Lib.hid hQ
  have HLR := Lib.hid hLR
  have HLS := Lib.hid (And.intro hLS hL8)
  clear hL hQ hLR hLS hL8
  by_cases h8 : Q.length ≤ 8
  rotate_left
  · have hd : decide ((Q.length : Int) > 8) = true := decide_eq_true (by omega)
    have hd' : decide (8 < Q.length) = true := decide_eq_true (by omega)
    have HN := Lib.hid (show ¬ QuotasR L Q from fun h => h8 (Nat.le_trans (quotas_len HLS.out.1 h) HLS.out.2))
    go_enter Tryz.func70, Tryz.ntmps70
    go_wp2
    go_ret
    exact resB_no HN.out (Below.refl _ _)
  have hd : decide ((Q.length : Int) > 8) = false := decide_eq_false (by omega)
  have hd' : decide (8 < Q.length) = false := decide_eq_false (by omega)
  go_enter Tryz.func70, Tryz.ntmps70
  go_wp2
  go_loopw [5] (fun i wr => ∃ k : Nat, k ≤ Q.length ∧ i = .int .i64 k ∧ Hid (∀ (j : Nat) x, j < k → Q[j]? = some x → okQ L Q j x) ∧ Below W.heap.size W wr) (fun i _ => Q.length - (intOf i).toNat)
  case atStart => exact ⟨0, Nat.zero_le _, rfl, Lib.hid fun j x h => absurd h (Nat.not_lt_zero _), Below.refl _ _⟩
  case round =>
    obtain ⟨k, hk, rfl, HA, hB⟩ := hrel
    have HB := Lib.hid hB
    have hsz := hB.size
    by_cases hlt : k < Q.length
    · have hdl : decide ((k : Int) < (Q.length : Int)) = true := decide_eq_true (by omega)
      obtain ⟨⟨⟨x0, x1⟩, x2⟩, hx⟩ := el_some hlt
      have HX := Lib.hid hx
      obtain ⟨g, o, us, rfl, hg, hu, hr⟩ := (HQ.out.below R_Quota_ok hB).at_ hx
      obtain rfl := rd_Quota hr
      have e0 : wr.cell? ⟨g, o + k * 3, none⟩ = some (.int .i64 x0) := by simpa [size_QuotaS, Nat.add_assoc] using hu 0 _ rfl
      have e1 : wr.cell? ⟨g, o + k * 3 + 1, none⟩ = some (.int .i64 x1) := by simpa [size_QuotaS, Nat.add_assoc] using hu 1 _ rfl
      have e2 : wr.cell? ⟨g, o + k * 3 + 2, none⟩ = some (.int .i64 x2) := by simpa [size_QuotaS, Nat.add_assoc] using hu 2 _ rfl
      have HG := Lib.hid (show g < wr.heap.size by omega)
      have hi0 : (0 : Int) ≤ (k : Int) := Int.natCast_nonneg _
      have hi1 : (k : Int) < (Q.length : Int) := by omega
      have HL1 := Lib.hid (rd_mv R_Label_ok HL.out HB.out)
      clear hB hx hu hr
      by_cases hm : (x0, x1) ∈ L
      rotate_left
      · have HM := Lib.hid hm
        have HN := Lib.hid (show ¬ QuotasR L Q from fun h => HM.out (h k _ HX.out).1)
        clear hm
        go_wp2_with fail
        refine wp_region_held_drew (S := (fun V => Below (wr).heap.size (wr) V)) (by kernel_rfl) ((Below.refl _ _).drew) (fun hHeld => ?_)
        refine tk 0 hHeld ?_
        refine tk 1 hHeld ?_
        refine tk 2 hHeld ?_
        refine tk 3 hHeld ?_
        refine tk 4 hHeld ?_
        refine tk 5 hHeld ?_ (hy := fun w hSw => by (try dsimp only at hSw); have k0 := (hSw.cell (p := ⟨g, o + k * 3, none⟩) HG.out).trans e0; have k1 := (hSw.cell (p := ⟨g, o + k * 3 + 1, none⟩) HG.out).trans e1; clear hSw; go_simp; try with_reducible rfl)
        refine rd1 6 (fun K hK => ?_)
        go_simp
        go_at_call 29
        refine (cleared_spec (rd_mv R_Label_ok HL1.out hHeld)).mono ?_
        intro e w2 h
        obtain ⟨z, rfl, hz, hb⟩ := resB_elim h
        obtain rfl : z = false := Bool.eq_false_iff.2 fun h => HM.out (hz.1 h)
        clear h hz
        refine hK.out _ _ (hHeld.trans (hb.mono hHeld.size)) (fun hHeld => ?_)
        clear hK K hb
        refine tk 7 hHeld ?_
        refine tk 8 hHeld ?_
        refine tn 9 hHeld ?_
        refine tn 10 hHeld ?_
        refine tn 11 hHeld ?_
        refine tn 12 hHeld ?_
        refine tn 13 hHeld ?_
        refine tn 14 hHeld ?_
        refine tn 15 hHeld ?_
        refine tk 16 hHeld ?_
        refine tk 17 hHeld ?_
        refine tn 18 hHeld ?_
        refine tn 19 hHeld ?_
        refine tn 20 hHeld ?_
        refine tn 21 hHeld ?_
        refine tn 22 hHeld ?_
        refine tn 23 hHeld ?_
        refine tn 24 hHeld ?_
        refine tn 25 hHeld ?_
        refine tn 26 hHeld ?_
        refine tn 27 hHeld ?_
        refine tn 28 hHeld ?_
        refine tn 29 hHeld ?_
        refine tn 30 hHeld ?_
        refine tn 31 hHeld ?_
        refine tn 32 hHeld ?_
        refine tn 33 hHeld ?_
        refine tn 34 hHeld ?_
        refine tn 35 hHeld ?_
        refine tk 36 hHeld ?_
        refine rd0 ?_
        have HF := Lib.hid hHeld
        clear hHeld
        have HB2 := Lib.hid (HB.out.trans (HF.out.mono hsz))
        clear HF
        go_wp2
        go_ret
        exact resB_no HN.out HB2.out
      have HM := Lib.hid hm
      have HOx := Lib.hid (HLR.out _ hm)
      clear hm
      obtain ⟨zi, hzi⟩ : ∃ z, isB x2 1 9 = z := ⟨_, rfl⟩
      have HI := Lib.hid hzi
      clear hzi
      cases zi with
      | false =>
        have HN := Lib.hid (show ¬ QuotasR L Q from fun h => by have h2 : isB x2 1 9 = true := (h k _ HX.out).2.1; rw [HI.out] at h2; cases h2)
        go_wp2_with fail
        refine wp_region_held_drew (S := (fun V => Below (wr).heap.size (wr) V)) (by kernel_rfl) ((Below.refl _ _).drew) (fun hHeld => ?_)
        refine tk 0 hHeld ?_
        refine tk 1 hHeld ?_
        refine tk 2 hHeld ?_
        refine tk 3 hHeld ?_
        refine tk 4 hHeld ?_
        refine tk 5 hHeld ?_ (hy := fun w hSw => by (try dsimp only at hSw); have k0 := (hSw.cell (p := ⟨g, o + k * 3, none⟩) HG.out).trans e0; have k1 := (hSw.cell (p := ⟨g, o + k * 3 + 1, none⟩) HG.out).trans e1; clear hSw; go_simp; try with_reducible rfl)
        refine rd1 6 (fun K hK => ?_)
        go_simp
        go_at_call 29
        refine (cleared_spec (rd_mv R_Label_ok HL1.out hHeld)).mono ?_
        intro e w2 h
        obtain ⟨z, rfl, hz, hb⟩ := resB_elim h
        obtain rfl : z = true := hz.2 HM.out
        clear h hz
        refine hK.out _ _ (hHeld.trans (hb.mono hHeld.size)) (fun hHeld => ?_)
        clear hK K hb
        refine tk 7 hHeld ?_
        refine tk 8 hHeld ?_
        refine tk 9 hHeld ?_
        refine tk 10 hHeld ?_
        refine tk 11 hHeld ?_
        refine tk 12 hHeld ?_
        refine tk 13 hHeld ?_ (hy := fun w hSw => by (try dsimp only at hSw); have k0 := (hSw.cell (p := ⟨g, o + k * 3 + 2, none⟩) HG.out).trans e2; clear hSw; go_simp; try with_reducible rfl)
        refine rd1 14 (fun K hK => ?_)
        go_simp
        go_at_call 67
        refine (is_at _ _ _ HI.out _).mono ?_
        rintro e w3 ⟨rfl, rfl⟩
        have hb := Below.refl w2.heap.size w2
        refine hK.out _ _ (hHeld.trans (hb.mono hHeld.size)) (fun hHeld => ?_)
        clear hK K hb
        refine tk 15 hHeld ?_
        refine tk 16 hHeld ?_
        refine tk 17 hHeld ?_
        refine tn 18 hHeld ?_
        refine tn 19 hHeld ?_
        refine tn 20 hHeld ?_
        refine tn 21 hHeld ?_
        refine tn 22 hHeld ?_
        refine tn 23 hHeld ?_
        refine tn 24 hHeld ?_
        refine tn 25 hHeld ?_
        refine tn 26 hHeld ?_
        refine tn 27 hHeld ?_
        refine tn 28 hHeld ?_
        refine tn 29 hHeld ?_
        refine tn 30 hHeld ?_
        refine tn 31 hHeld ?_
        refine tn 32 hHeld ?_
        refine tn 33 hHeld ?_
        refine tn 34 hHeld ?_
        refine tn 35 hHeld ?_
        refine tk 36 hHeld ?_
        refine rd0 ?_
        have HF := Lib.hid hHeld
        clear hHeld
        have HB2 := Lib.hid (HB.out.trans (HF.out.mono hsz))
        clear HF
        go_wp2
        go_ret
        exact resB_no HN.out HB2.out
      | true =>
      cases k with
      | zero =>
        rw [Nat.zero_mul] at e0 e1 e2
        simp only [Nat.add_zero] at e0 e1 e2
        have HA2 := Lib.hid (show ∀ (j : Nat) x, j < 0 + 1 → Q[j]? = some x → okQ L Q j x from fun q y hq hy => by
          obtain rfl : q = 0 := by omega
          rw [HX.out] at hy; obtain rfl := Option.some.inj hy
          exact ⟨HM.out, HI.out, fun h => absurd h (Nat.lt_irrefl _)⟩)
        go_wp2_with fail
        refine wp_region_held_drew (S := (fun V => Below (wr).heap.size (wr) V)) (by kernel_rfl) ((Below.refl _ _).drew) (fun hHeld => ?_)
        refine tk 0 hHeld ?_
        refine tk 1 hHeld ?_
        refine tk 2 hHeld ?_
        refine tk 3 hHeld ?_
        refine tk 4 hHeld ?_
        refine tk 5 hHeld ?_ (hy := fun w hSw => by (try dsimp only at hSw); have k0 := (hSw.cell (p := ⟨g, o, none⟩) HG.out).trans e0; have k1 := (hSw.cell (p := ⟨g, o + 1, none⟩) HG.out).trans e1; clear hSw; go_simp; try with_reducible rfl)
        refine rd1 6 (fun K hK => ?_)
        go_simp
        go_at_call 29
        refine (cleared_spec (rd_mv R_Label_ok HL1.out hHeld)).mono ?_
        intro e w2 h
        obtain ⟨z, rfl, hz, hb⟩ := resB_elim h
        obtain rfl : z = true := hz.2 HM.out
        clear h hz
        refine hK.out _ _ (hHeld.trans (hb.mono hHeld.size)) (fun hHeld => ?_)
        clear hK K hb
        refine tk 7 hHeld ?_
        refine tk 8 hHeld ?_
        refine tk 9 hHeld ?_
        refine tk 10 hHeld ?_
        refine tk 11 hHeld ?_
        refine tk 12 hHeld ?_
        refine tk 13 hHeld ?_ (hy := fun w hSw => by (try dsimp only at hSw); have k0 := (hSw.cell (p := ⟨g, o + 2, none⟩) HG.out).trans e2; clear hSw; go_simp; try with_reducible rfl)
        refine rd1 14 (fun K hK => ?_)
        go_simp
        go_at_call 67
        refine (is_at _ _ _ HI.out _).mono ?_
        rintro e w3 ⟨rfl, rfl⟩
        have hb := Below.refl w2.heap.size w2
        refine hK.out _ _ (hHeld.trans (hb.mono hHeld.size)) (fun hHeld => ?_)
        clear hK K hb
        refine tk 15 hHeld ?_
        refine tk 16 hHeld ?_
        refine tk 17 hHeld ?_
        refine tk 18 hHeld ?_
        refine tk 19 hHeld ?_
        refine tk 20 hHeld ?_
        refine tn 21 hHeld ?_
        refine tn 22 hHeld ?_
        refine tn 23 hHeld ?_
        refine tn 24 hHeld ?_
        refine tn 25 hHeld ?_
        refine tn 26 hHeld ?_
        refine tn 27 hHeld ?_
        refine tn 28 hHeld ?_
        refine tn 29 hHeld ?_
        refine tn 30 hHeld ?_
        refine tn 31 hHeld ?_
        refine tn 32 hHeld ?_
        refine tn 33 hHeld ?_
        refine tn 34 hHeld ?_
        refine tk 35 hHeld ?_
        refine tk 36 hHeld ?_
        refine rd0 ?_
        have HF := Lib.hid hHeld
        clear hHeld
        have HB2 := Lib.hid (HB.out.trans (HF.out.mono hsz))
        clear HF
        go_wp2
        go_roundw
        case rel => exact ⟨0 + 1, by omega, by go_num, HA2, HB2.out⟩
        case measure => simp [intOf]; omega
      | succ m =>
        obtain ⟨⟨⟨y0, y1⟩, y2⟩, hy⟩ := el_some (show m < Q.length by omega)
        have HY := Lib.hid hy
        have HMy := Lib.hid (HA.out m _ (Nat.lt_succ_self m) hy).1
        have HOy := Lib.hid (HLR.out _ HMy.out)
        obtain ⟨g2, o2, us, hgg, hg2, hu, hr⟩ := (HQ.out.below R_Quota_ok HB.out).at_ hy
        obtain ⟨rfl, rfl⟩ : g = g2 ∧ o = o2 := by cases hgg; exact ⟨rfl, rfl⟩
        obtain rfl := rd_Quota hr
        have d0 : wr.cell? ⟨g, o + m * 3, none⟩ = some (.int .i64 y0) := by simpa [size_QuotaS, Nat.add_assoc] using hu 0 _ rfl
        have d1 : wr.cell? ⟨g, o + m * 3 + 1, none⟩ = some (.int .i64 y1) := by simpa [size_QuotaS, Nat.add_assoc] using hu 1 _ rfl
        have hj0 : (0 : Int) ≤ (m : Int) := Int.natCast_nonneg _
        have hj1 : (m : Int) < (Q.length : Int) := by omega
        have hgt : decide ((((m + 1 : Nat) : Int)) > 0) = true := decide_eq_true (by omega)
        have hgt2 : decide (0 < m + 1) = true := decide_eq_true (by omega)
        have hsub : IntKind.i64.wrap (((m + 1 : Nat) : Int) - 1) = (m : Int) := by rw [show ((m + 1 : Nat) : Int) - 1 = (m : Int) by omega]; exact IntWalk.i64_in _ (by omega)
        have hsub2 : IntKind.i64.wrap (m : Int) = (m : Int) := IntWalk.i64_in _ (by omega)
        have hi0' : (0 : Int) ≤ (m : Int) + 1 := by omega
        have hi1' : (m : Int) + 1 < (Q.length : Int) := by omega
        have hgt3 : decide (0 < (m : Int) + 1) = true := decide_eq_true (by omega)
        have hsub3 : IntKind.i64.wrap ((m : Int) + 1 - 1) = (m : Int) := by rw [show (m : Int) + 1 - 1 = (m : Int) by omega]; exact IntWalk.i64_in _ (by omega)
        clear hy hu hr hgg hg2
        by_cases hlb : ltB (y0, y1) (x0, x1)
        · have hge : decide (8 * y0 + y1 ≥ 8 * x0 + x1) = false := decide_eq_false ((ltB_ord HOy.out HOx.out).1 hlb)
          have hge2 : decide (8 * x0 + x1 ≤ 8 * y0 + y1) = false := hge
          have HA2 := Lib.hid (show ∀ (j : Nat) x, j < m + 1 + 1 → Q[j]? = some x → okQ L Q j x from fun q y hq hy => by
            by_cases e : q = m + 1
            · subst e; rw [HX.out] at hy; obtain rfl := Option.some.inj hy
              refine ⟨HM.out, HI.out, fun _ z hz => ?_⟩
              rw [Nat.add_sub_cancel, HY.out] at hz; obtain rfl := Option.some.inj hz
              exact hlb
            · exact HA.out q y (by omega) hy)
          clear hlb
          go_wp2_with fail
          refine wp_region_held_drew (S := (fun V => Below (wr).heap.size (wr) V)) (by kernel_rfl) ((Below.refl _ _).drew) (fun hHeld => ?_)
          refine tk 0 hHeld ?_
          refine tk 1 hHeld ?_
          refine tk 2 hHeld ?_
          refine tk 3 hHeld ?_
          refine tk 4 hHeld ?_
          refine tk 5 hHeld ?_ (hy := fun w hSw => by (try dsimp only at hSw); have k0 := (hSw.cell (p := ⟨g, o + (m + 1) * 3, none⟩) HG.out).trans e0; have k1 := (hSw.cell (p := ⟨g, o + (m + 1) * 3 + 1, none⟩) HG.out).trans e1; clear hSw; go_simp; try with_reducible rfl)
          refine rd1 6 (fun K hK => ?_)
          go_simp
          go_at_call 29
          refine (cleared_spec (rd_mv R_Label_ok HL1.out hHeld)).mono ?_
          intro e w2 h
          obtain ⟨z, rfl, hz, hb⟩ := resB_elim h
          obtain rfl : z = true := hz.2 HM.out
          clear h hz
          refine hK.out _ _ (hHeld.trans (hb.mono hHeld.size)) (fun hHeld => ?_)
          clear hK K hb
          refine tk 7 hHeld ?_
          refine tk 8 hHeld ?_
          refine tk 9 hHeld ?_
          refine tk 10 hHeld ?_
          refine tk 11 hHeld ?_
          refine tk 12 hHeld ?_
          refine tk 13 hHeld ?_ (hy := fun w hSw => by (try dsimp only at hSw); have k0 := (hSw.cell (p := ⟨g, o + (m + 1) * 3 + 2, none⟩) HG.out).trans e2; clear hSw; go_simp; try with_reducible rfl)
          refine rd1 14 (fun K hK => ?_)
          go_simp
          go_at_call 67
          refine (is_at _ _ _ HI.out _).mono ?_
          rintro e w3 ⟨rfl, rfl⟩
          have hb := Below.refl w2.heap.size w2
          refine hK.out _ _ (hHeld.trans (hb.mono hHeld.size)) (fun hHeld => ?_)
          clear hK K hb
          refine tk 15 hHeld ?_
          refine tk 16 hHeld ?_
          refine tk 17 hHeld ?_
          refine tk 18 hHeld ?_
          refine tk 19 hHeld ?_
          refine tk 20 hHeld ?_
          refine tk 21 hHeld ?_
          refine tk 22 hHeld ?_
          refine tk 23 hHeld ?_
          refine tk 24 hHeld ?_
          refine tk 25 hHeld ?_
          refine tk 26 hHeld ?_ (hy := fun w hSw => by (try dsimp only at hSw); have k0 := (hSw.cell (p := ⟨g, o + m * 3, none⟩) HG.out).trans d0; have k1 := (hSw.cell (p := ⟨g, o + m * 3 + 1, none⟩) HG.out).trans d1; clear hSw; go_simp; try with_reducible rfl)
          refine tk 28 hHeld ?_
          refine tk 29 hHeld ?_
          refine tk 30 hHeld ?_
          refine tk 31 hHeld ?_
          refine tk 32 hHeld ?_ (hy := fun w hSw => by (try dsimp only at hSw); have k0 := (hSw.cell (p := ⟨g, o + (m + 1) * 3, none⟩) HG.out).trans e0; have k1 := (hSw.cell (p := ⟨g, o + (m + 1) * 3 + 1, none⟩) HG.out).trans e1; clear hSw; go_simp; try with_reducible rfl)
          refine rd1 27 (fun K hK => ?_)
          go_simp
          go_at_call 74
          refine (ord_at HOy.out _).mono ?_
          rintro e w4 ⟨rfl, hb⟩
          refine hK.out _ _ (hHeld.trans (hb.mono hHeld.size)) (fun hHeld => ?_)
          clear hK K hb
          refine rd1 33 (fun K hK => ?_)
          go_simp
          go_at_call 74
          refine (ord_at HOx.out _).mono ?_
          rintro e w5 ⟨rfl, hb⟩
          refine hK.out _ _ (hHeld.trans (hb.mono hHeld.size)) (fun hHeld => ?_)
          clear hK K hb
          refine tk 34 hHeld ?_
          refine tk 35 hHeld ?_
          refine tk 36 hHeld ?_
          refine rd0 ?_
          have HF := Lib.hid hHeld
          clear hHeld
          have HB2 := Lib.hid (HB.out.trans (HF.out.mono hsz))
          clear HF
          go_wp2
          go_roundw
          case rel => exact ⟨m + 1 + 1, by omega, by go_num, HA2, HB2.out⟩
          case measure => simp [intOf]; omega
        · have hge : decide (8 * y0 + y1 ≥ 8 * x0 + x1) = true := decide_eq_true (Classical.byContradiction fun h => hlb ((ltB_ord HOy.out HOx.out).2 h))
          have hge2 : decide (8 * x0 + x1 ≤ 8 * y0 + y1) = true := hge
          have HN := Lib.hid (show ¬ QuotasR L Q from fun h => hlb ((h (m + 1) _ HX.out).2.2 (by omega) _ (by rw [Nat.add_sub_cancel]; exact HY.out)))
          clear hlb
          go_wp2_with fail
          refine wp_region_held_drew (S := (fun V => Below (wr).heap.size (wr) V)) (by kernel_rfl) ((Below.refl _ _).drew) (fun hHeld => ?_)
          refine tk 0 hHeld ?_
          refine tk 1 hHeld ?_
          refine tk 2 hHeld ?_
          refine tk 3 hHeld ?_
          refine tk 4 hHeld ?_
          refine tk 5 hHeld ?_ (hy := fun w hSw => by (try dsimp only at hSw); have k0 := (hSw.cell (p := ⟨g, o + (m + 1) * 3, none⟩) HG.out).trans e0; have k1 := (hSw.cell (p := ⟨g, o + (m + 1) * 3 + 1, none⟩) HG.out).trans e1; clear hSw; go_simp; try with_reducible rfl)
          refine rd1 6 (fun K hK => ?_)
          go_simp
          go_at_call 29
          refine (cleared_spec (rd_mv R_Label_ok HL1.out hHeld)).mono ?_
          intro e w2 h
          obtain ⟨z, rfl, hz, hb⟩ := resB_elim h
          obtain rfl : z = true := hz.2 HM.out
          clear h hz
          refine hK.out _ _ (hHeld.trans (hb.mono hHeld.size)) (fun hHeld => ?_)
          clear hK K hb
          refine tk 7 hHeld ?_
          refine tk 8 hHeld ?_
          refine tk 9 hHeld ?_
          refine tk 10 hHeld ?_
          refine tk 11 hHeld ?_
          refine tk 12 hHeld ?_
          refine tk 13 hHeld ?_ (hy := fun w hSw => by (try dsimp only at hSw); have k0 := (hSw.cell (p := ⟨g, o + (m + 1) * 3 + 2, none⟩) HG.out).trans e2; clear hSw; go_simp; try with_reducible rfl)
          refine rd1 14 (fun K hK => ?_)
          go_simp
          go_at_call 67
          refine (is_at _ _ _ HI.out _).mono ?_
          rintro e w3 ⟨rfl, rfl⟩
          have hb := Below.refl w2.heap.size w2
          refine hK.out _ _ (hHeld.trans (hb.mono hHeld.size)) (fun hHeld => ?_)
          clear hK K hb
          refine tk 15 hHeld ?_
          refine tk 16 hHeld ?_
          refine tk 17 hHeld ?_
          refine tk 18 hHeld ?_
          refine tk 19 hHeld ?_
          refine tk 20 hHeld ?_
          refine tk 21 hHeld ?_
          refine tk 22 hHeld ?_
          refine tk 23 hHeld ?_
          refine tk 24 hHeld ?_
          refine tk 25 hHeld ?_
          refine tk 26 hHeld ?_ (hy := fun w hSw => by (try dsimp only at hSw); have k0 := (hSw.cell (p := ⟨g, o + m * 3, none⟩) HG.out).trans d0; have k1 := (hSw.cell (p := ⟨g, o + m * 3 + 1, none⟩) HG.out).trans d1; clear hSw; go_simp; try with_reducible rfl)
          refine tk 28 hHeld ?_
          refine tk 29 hHeld ?_
          refine tk 30 hHeld ?_
          refine tk 31 hHeld ?_
          refine tk 32 hHeld ?_ (hy := fun w hSw => by (try dsimp only at hSw); have k0 := (hSw.cell (p := ⟨g, o + (m + 1) * 3, none⟩) HG.out).trans e0; have k1 := (hSw.cell (p := ⟨g, o + (m + 1) * 3 + 1, none⟩) HG.out).trans e1; clear hSw; go_simp; try with_reducible rfl)
          refine rd1 27 (fun K hK => ?_)
          go_simp
          go_at_call 74
          refine (ord_at HOy.out _).mono ?_
          rintro e w4 ⟨rfl, hb⟩
          refine hK.out _ _ (hHeld.trans (hb.mono hHeld.size)) (fun hHeld => ?_)
          clear hK K hb
          refine rd1 33 (fun K hK => ?_)
          go_simp
          go_at_call 74
          refine (ord_at HOx.out _).mono ?_
          rintro e w5 ⟨rfl, hb⟩
          refine hK.out _ _ (hHeld.trans (hb.mono hHeld.size)) (fun hHeld => ?_)
          clear hK K hb
          refine tk 34 hHeld ?_
          refine tk 35 hHeld ?_
          refine tk 36 hHeld ?_
          refine rd0 ?_
          have HF := Lib.hid hHeld
          clear hHeld
          have HB2 := Lib.hid (HB.out.trans (HF.out.mono hsz))
          clear HF
          go_wp2
          go_ret
          exact resB_no HN.out HB2.out
    · have hdl : decide ((k : Int) < (Q.length : Int)) = false := decide_eq_false (by omega)
      have HY := Lib.hid (show QuotasR L Q from fun i x hx => HA.out i x (by have := el_lt hx; omega) hx)
      clear hB
      go_wp2
      go_ret
      exact resB_yes HY.out HB.out
def CfgR (C : List (List D_Label)) (P : List D_Pair) (Q : List D_Quota) (hf : Int) : Prop := ClearR C ∧ isB hf 1 9 = true ∧ (labsOf C).length ≤ 8 ∧ PairsR (labsOf C) P ∧ QuotasR (labsOf C) Q
end Go.Proofs.YtelhmacfljffhaaGreat.RepC
end
section
namespace Go.Proofs.YtelhmacfljffhaaGreat.RepC
open Go.RowKit RowC ValC SpanC KeptC
set_option linter.unusedVariables false
set_option linter.unusedSimpArgs false
theorem infoSL : ∃ i, Tryz.prog.info? 72 = some i ∧ i.zero = some (.slice none 0 0) ∧ i.size = 1 ∧ i.bytes = 24 := infoOf (by kernel_rfl)
theorem infoPair : ∃ i, Tryz.prog.info? 149 = some i ∧ i.zero = some (.agg #[.int .i64 0, .int .i64 0, .int .i64 0, .int .i64 0, .int .i64 0]) ∧ i.size = 5 ∧ i.bytes = 40 := infoOf (by kernel_rfl)
theorem infoQuota : ∃ i, Tryz.prog.info? 131 = some i ∧ i.zero = some (.agg #[.int .i64 0, .int .i64 0, .int .i64 0]) ∧ i.size = 3 ∧ i.bytes = 24 := infoOf (by kernel_rfl)
theorem flat_Pair : Flat R_Pair (fun x => [.int .i64 x.1.1, .int .i64 x.1.2, .int .i64 x.2.1.1, .int .i64 x.2.1.2, .int .i64 x.2.2]) := ⟨fun {W B x us} h => by obtain ⟨⟨a, b⟩, ⟨c, d⟩, e⟩ := x; exact rd_Pair h, fun W S x => by obtain ⟨⟨a, b⟩, ⟨c, d⟩, e⟩ := x; exact mkow_Pair⟩
theorem flat_Quota : Flat R_Quota (fun x => [.int .i64 x.1.1, .int .i64 x.1.2, .int .i64 x.2]) := ⟨fun {W B x us} h => by obtain ⟨⟨a, b⟩, c⟩ := x; exact rd_Quota h, fun W S x => by obtain ⟨⟨a, b⟩, c⟩ := x; exact mkow_Quota⟩
set_option maxHeartbeats 1600000 in
theorem clone_pair {L : List (D_Pair)} {a : Option Addr} {cap : Nat} {W : World} (hn : L.length ≤ 1048576) (h : RdSl (R_Pair) W W.heap.size L a cap) :
    Calls Tryz.prog 115 #[.slice a L.length cap] W (NewS R_Pair L W) := by
  have qT : ∀ (w : World) (a : Option Addr) (n c n' c' : Nat), (binOp .eql 35 (.slice a n c) (.slice none n' c')).run Tryz.prog w = .ok (.bool a.isNone) w := fun w a n c n' c' => Lib.run_eql_slice_nil w _ _ a n c n' c' Tryz.underlying35
  cases a with
  | none =>
    have h0 : L.length = 0 := by
      by_cases hp : 0 < L.length
      · obtain ⟨g, o, he, _⟩ := h.2.2 hp
        cases he
      · omega
    have hL : L = [] := List.eq_nil_of_length_eq_zero h0
    subst hL
    go_enter Tryz.func115, Tryz.ntmps115
    go_wp2
    go_ret
    exact ⟨none, 0, rfl, ⟨Nat.le_refl _, Nat.zero_le _, fun h => absurd h (Nat.lt_irrefl _)⟩, Below.refl _ _⟩
  | some x =>
    obtain ⟨iL, hiL, hzL1, hsL, hbL⟩ := infoPair
    obtain ⟨a', c', w5, hr, hos, hb⟩ := app_flat (P := Tryz.prog) (ty := 35) R_Pair_ok flat_Pair Tryz.underlying35 hiL hzL1 hsL hbL rfl (by decide) (by unfold maxLen; omega) (by omega) h
    clear hiL hzL1 hsL hbL
    have HR := Lib.hid hr
    have HO := Lib.hid hos
    have HB := Lib.hid hb
    clear hr hos hb h
    go_enter Tryz.func115, Tryz.ntmps115
    go_wp2_with (at_builtin; refine wpList_app rfl (.tmp 5) (.tmp 6) 35 rfl rfl rfl HR.out ?_)
    go_ret
    exact ⟨a', c', rfl, HO.out, HB.out⟩
set_option maxHeartbeats 1600000 in
theorem clone_quota {L : List (D_Quota)} {a : Option Addr} {cap : Nat} {W : World} (hn : L.length ≤ 1048576) (h : RdSl (R_Quota) W W.heap.size L a cap) :
    Calls Tryz.prog 116 #[.slice a L.length cap] W (NewS R_Quota L W) := by
  have qT : ∀ (w : World) (a : Option Addr) (n c n' c' : Nat), (binOp .eql 36 (.slice a n c) (.slice none n' c')).run Tryz.prog w = .ok (.bool a.isNone) w := fun w a n c n' c' => Lib.run_eql_slice_nil w _ _ a n c n' c' Tryz.underlying36
  cases a with
  | none =>
    have h0 : L.length = 0 := by
      by_cases hp : 0 < L.length
      · obtain ⟨g, o, he, _⟩ := h.2.2 hp
        cases he
      · omega
    have hL : L = [] := List.eq_nil_of_length_eq_zero h0
    subst hL
    go_enter Tryz.func116, Tryz.ntmps116
    go_wp2
    go_ret
    exact ⟨none, 0, rfl, ⟨Nat.le_refl _, Nat.zero_le _, fun h => absurd h (Nat.lt_irrefl _)⟩, Below.refl _ _⟩
  | some x =>
    obtain ⟨iL, hiL, hzL1, hsL, hbL⟩ := infoQuota
    obtain ⟨a', c', w5, hr, hos, hb⟩ := app_flat (P := Tryz.prog) (ty := 36) R_Quota_ok flat_Quota Tryz.underlying36 hiL hzL1 hsL hbL rfl (by decide) (by unfold maxLen; omega) (by omega) h
    clear hiL hzL1 hsL hbL
    have HR := Lib.hid hr
    have HO := Lib.hid hos
    have HB := Lib.hid hb
    clear hr hos hb h
    go_enter Tryz.func116, Tryz.ntmps116
    go_wp2_with (at_builtin; refine wpList_app rfl (.tmp 5) (.tmp 6) 36 rfl rfl rfl HR.out ?_)
    go_ret
    exact ⟨a', c', rfl, HO.out, HB.out⟩
set_option maxHeartbeats 1600000 in
theorem clone_sl {L : List (List D_Label)} {a : Option Addr} {cap : Nat} {W : World} (hn : L.length ≤ 1048576) (h : RdSl (Sl R_Label) W W.heap.size L a cap) :
    Calls Tryz.prog 166 #[.slice a L.length cap] W (HalfR (Sl R_Label) 72 L W) := by
  have qT : ∀ (w : World) (a : Option Addr) (n c n' c' : Nat), (binOp .eql 34 (.slice a n c) (.slice none n' c')).run Tryz.prog w = .ok (.bool a.isNone) w := fun w a n c n' c' => Lib.run_eql_slice_nil w _ _ a n c n' c' Tryz.underlying34
  cases a with
  | none =>
    have h0 : L.length = 0 := by
      by_cases hp : 0 < L.length
      · obtain ⟨g, o, he, _⟩ := h.2.2 hp
        cases he
      · omega
    have hL : L = [] := List.eq_nil_of_length_eq_zero h0
    subst hL
    go_enter Tryz.func166, Tryz.ntmps166
    go_wp2
    go_ret
    exact ⟨none, 0, _, rfl, half_nil (Sl R_Label) _ _, Below.refl _ _⟩
  | some x =>
    obtain ⟨iL, hiL, hzL1, hsL, hbL⟩ := infoSL
    obtain ⟨a', c', w5, xs, hr, hos, hb⟩ := app_half (P := Tryz.prog) (ty := 34) (Sl_ok R_Label_ok) Tryz.underlying34 hiL hzL1 hsL hbL rfl (by decide) (by unfold maxLen; omega) (by omega) h
    clear hiL hzL1 hsL hbL
    have HR := Lib.hid hr
    have HO := Lib.hid hos
    have HB := Lib.hid hb
    clear hr hos hb h
    go_enter Tryz.func166, Tryz.ntmps166
    go_wp2_with (at_builtin; refine wpList_app rfl (.tmp 5) (.tmp 6) 34 rfl rfl rfl HR.out ?_)
    go_ret
    exact ⟨a', c', xs, rfl, HO.out, HB.out⟩
set_option maxRecDepth 100000 in
set_option maxHeartbeats 1600000 in
theorem copyclear_impl {L : List (List D_Label)} {a : Option Addr} {cap : Nat} {W : World} (hR : ClearR L) (h : RdSl (Sl R_Label) W W.heap.size L a cap) :
    Calls Tryz.prog 114 #[.slice a L.length cap] W (NewS (Sl R_Label) L W) := by
  have hn : L.length ≤ 6 := hR.2.1
  have HRR := Lib.hid hR
  have HCL := Lib.hid (clone_sl (by omega) h)
  clear h hR
  go_enter Tryz.func114, Tryz.ntmps114
  go_wp2_with fail
  refine HCL.out.mono ?_
  intro e w1 h
  obtain ⟨ja, jc, xs0, rfl, hh, hb⟩ := halfR_elim h
  have HH1 := Lib.hid hh
  have HB1 := Lib.hid hb
  clear h hh hb HCL
  go_wp2
  go_loopw [10] (fun i wr => ∃ k : Nat, k ≤ L.length ∧ i = .int .i64 k ∧ Hid (∃ hi xs Sf, Half (Sl R_Label) W.heap.size wr W.heap.size hi 72 (.slice ja L.length jc) L k xs Sf) ∧ Below W.heap.size W wr) (fun i _ => L.length - (intOf i).toNat)
  case atStart => exact ⟨0, Nat.zero_le _, rfl, Lib.hid ⟨_, _, _, HH1.out⟩, HB1.out⟩
  case round =>
    obtain ⟨k, hk, rfl, HH, hB⟩ := hrel
    obtain ⟨hi, xs, Sf, hh⟩ := HH.out
    have HHx := Lib.hid hh
    have HB := Lib.hid hB
    have hsz := hB.size
    by_cases hlt : k < L.length
    · have hdl : decide ((k : Int) < (L.length : Int)) = true := decide_eq_true (by omega)
      obtain ⟨x, hx⟩ := el_some hlt
      have HX := Lib.hid hx
      have hch := HRR.out.2.2 k x hx
      have hx1 : 0 < x.length := hch.1
      have hx4 : x.length ≤ 4 := hch.2.1
      obtain ⟨g, rfl⟩ : ∃ g, ja = some ⟨g, 0, none⟩ := by
        obtain ⟨h0, h1⟩ := hh.own
        rcases h1 with ⟨e, h1⟩ | ⟨g, c', cur, e, _⟩
        · omega
        · cases e; exact ⟨g, rfl⟩
      obtain ⟨us, hu, hr, hus⟩ := HHx.out.at_ (Nat.le_refl _) hx
      have hgb := HHx.out.blk g rfl
      have hgl : g < wr.heap.size := Nat.lt_of_lt_of_le hgb.2 HHx.out.le
      obtain ⟨ba, bc, rfl, k_M⟩ := hr
      have e0 : wr.cell? ⟨g, k, none⟩ = some (.slice ba x.length bc) := by simpa [size_SLab] using hu 0 _ rfl
      have HUS := Lib.hid hus
      have hi0 : (0 : Int) ≤ (k : Int) := Int.natCast_nonneg _
      have hi1 : (k : Int) < (L.length : Int) := by omega
      have HK2 := Lib.hid (RdSl.more R_Label_ok k_M hsz)
      clear hB hx hu hh k_M hus hch
      go_upto_region 5 with fail
      go_wp2_with fail
      refine (clone_labs (by omega) hx1 HK2.out).mono ?_
      intro e w5 h
      obtain ⟨a5, c5, rfl, ho, hb⟩ := newS_elim h
      obtain ⟨xs', Sf', hH, hsf⟩ := HHx.out.step (Sl_ok R_Label_ok) HX.out HUS.out (p := 0) (by decide) rfl (u := .slice a5 x.length c5) hb ⟨a5, c5, rfl, ho⟩
      rw [show k * (Sl R_Label).size + 0 = k from by show k * 1 + 0 = k; omega] at hH
      have HH5 := Lib.hid hH
      have HBN := Lib.hid (show Below W.heap.size W (w5.setCell ⟨g, k, none⟩ (.slice a5 x.length c5)) from (HB.out.trans (hb.mono hsz)).setCell (p := ⟨g, k, none⟩) hgb.1 _)
      have e0' : w5.cell? ⟨g, k, none⟩ = some (.slice ba x.length bc) := (hb.cell (p := ⟨g, k, none⟩) hgl).trans e0
      have f0' := (hb.frozen (p := ⟨g, k, none⟩) hgl).trans (HHx.out.soft k)
      clear e0 h ho hH hsf hb
      go_wp2
      go_roundw
      case rel => exact ⟨k + 1, by omega, by go_num, Lib.hid ⟨_, _, _, HH5.out⟩, HBN.out⟩
      case measure => simp [intOf]; omega
    · have hdl : decide ((k : Int) < (L.length : Int)) = false := decide_eq_false (by omega)
      obtain rfl : k = L.length := by omega
      obtain ⟨ra, rc, hv, ho⟩ := HHx.out.done.done
      have HO := Lib.hid (show OwSl (Sl R_Label) wr (Rg W.heap.size wr.heap.size) L ja jc from by cases hv; exact ho.more fun q hq => ⟨hq.1, Nat.lt_of_lt_of_le hq.2 HHx.out.le⟩)
      clear hB hv ho hh
      go_wp2
      go_ret
      exact ⟨ja, jc, rfl, HO.out, HB.out⟩
end Go.Proofs.YtelhmacfljffhaaGreat.RepC
end
section
namespace Go.Proofs.YtelhmacfljffhaaGreat.RepC
open Go.RowKit RowC ValC
set_option linter.unusedVariables false
set_option linter.unusedSimpArgs false
abbrev D_Span : Type := (Int) × (Int)
def R_Span : Rp D_Span := (Pr I I)
theorem R_Span_ok : Ok R_Span := (Pr_ok I_ok I_ok)
theorem rd_Span {W : World} {B : Nat} {x0 : Int} {x1 : Int} {cs : List Value} (h : R_Span.rd W B (x0, x1) cs) : cs = [.int .i64 x0, .int .i64 x1] := by
  obtain ⟨u1, v1, rfl, h1, g1⟩ := h
  obtain rfl : u1 = [_] := h1
  obtain rfl : v1 = [_] := g1
  rfl
theorem mkow_Span {W : World} {S : Nat → Prop} {x0 : Int} {x1 : Int}  : R_Span.ow W S (x0, x1) [.int .i64 x0, .int .i64 x1] := ⟨[.int .i64 x0], [.int .i64 x1], (fun _ => False), (fun _ => False), rfl, (fun k h => h.elim), (fun k h => h.elim), (fun k h h' => h.elim), rfl, rfl⟩
theorem ow0_Span {W : World} {S : Nat → Prop} {x0 : Int} {x1 : Int} {cs : List Value} (h : R_Span.ow W S (x0, x1) cs) : cs = [.int .i64 x0, .int .i64 x1] := by
  obtain ⟨u1, v1, A1, B1, rfl, sa1, sb1, dd1, h1, g1⟩ := h
  obtain rfl : u1 = [_] := h1
  obtain rfl : v1 = [_] := g1
  rfl
abbrev D_Node : Type := (Int) × (List (D_Span))
def R_Node : Rp D_Node := (Pr I (Sl R_Span))
theorem R_Node_ok : Ok R_Node := (Pr_ok I_ok (Sl_ok R_Span_ok))
theorem rd_Node {W : World} {B : Nat} {x0 : Int} {L0 : List (D_Span)} {cs : List Value} (h : R_Node.rd W B (x0, L0) cs) : ∃ a0 c0, cs = [.int .i64 x0, .slice a0 L0.length c0] ∧ RdSl R_Span W B L0 a0 c0 := by
  obtain ⟨u1, v1, rfl, h1, g1⟩ := h
  obtain rfl : u1 = [_] := h1
  obtain ⟨a0, c0, rfl, k_L0⟩ := g1
  exact ⟨a0, c0, rfl, k_L0⟩
theorem mkow_Node {W : World} {S : Nat → Prop} {x0 : Int} {L0 : List (D_Span)} {a0 : Option Addr} {c0 : Nat} {T0 : Nat → Prop} (hs0 : ∀ k, T0 k → S k) (h_L0 : OwSl R_Span W T0 L0 a0 c0) : R_Node.ow W S (x0, L0) [.int .i64 x0, .slice a0 L0.length c0] := ⟨[.int .i64 x0], [.slice a0 L0.length c0], (fun _ => False), T0, rfl, (fun k h => h.elim), (fun k h => hs0 k h), (fun k h h' => h.elim), rfl, ⟨a0, c0, rfl, h_L0⟩⟩
theorem ow_Node {W : World} {S : Nat → Prop} {x0 : Int} {L0 : List (D_Span)} {cs : List Value} (h : R_Node.ow W S (x0, L0) cs) : ∃ a0 c0, ∃ T0 : Nat → Prop, cs = [.int .i64 x0, .slice a0 L0.length c0] ∧ (∀ k, T0 k → S k) ∧ OwSl R_Span W T0 L0 a0 c0 := by
  obtain ⟨u1, v1, A1, B1, rfl, sa1, sb1, dd1, h1, g1⟩ := h
  obtain rfl : u1 = [_] := h1
  obtain ⟨a0, c0, rfl, k_L0⟩ := g1
  exact ⟨a0, c0, B1, rfl, fun k h => sb1 k (h), k_L0⟩
theorem size_NodeS : (R_Node).size = 2 := rfl
def zs_NodeS (n : Nat) : Array Value := madeCells #[.int .i64 0, .slice none 0 0] (n * 2)
theorem make_NodeS (n : Nat) (hn : n ≤ 1048576) : ∀ W : World, (Instr.makeSlice 39 (.int .i64 (n : Int)) (.int .i64 (n : Int))).run Tryz.prog W = .ok (.slice (some ⟨W.heap.size, 0, none⟩) n n) (W.alloc (.cells (zs_NodeS n) 120)) := by
  intro W
  obtain ⟨i, hi, hz, hs, hb⟩ : ∃ i, Tryz.prog.info? 120 = some i ∧ i.zero = some (.agg #[.int .i64 0, .slice none 0 0]) ∧ i.size = 2 ∧ i.bytes = 32 := by
    have h : (Tryz.prog.info? 120).map (fun i => (i.zero, i.size, i.bytes)) = some (some (.agg #[.int .i64 0, .slice none 0 0]), 2, 32) := by kernel_rfl
    cases hx : Tryz.prog.info? 120 with
    | none => rw [hx] at h; simp at h
    | some i => rw [hx] at h; simp at h; exact ⟨i, rfl, h.1, h.2.1, h.2.2⟩
  have hr := run_make (P := Tryz.prog) W 39 120 i _ Tryz.underlying39 hi hz .i64 .i64 n n (by omega) (by omega) (by rw [hb]; omega) (by omega)
  rw [hs] at hr
  simp only [Int.toNat_natCast] at hr
  exact hr
set_option maxRecDepth 100000 in
set_option maxHeartbeats 3200000 in
theorem eq_Span {x0 : Int} {x1 : Int}   {W : World} : Calls Tryz.prog 193 #[.agg #[.int .i64 x0, .int .i64 x1], .agg #[.int .i64 x0, .int .i64 x1]] W (IsB true W) := by
  have HB0 := Lib.hid (show Below W.heap.size W ((W.alloc (.cells #[.int .i64 x0, .int .i64 x1] 172)).alloc (.cells #[.int .i64 x0, .int .i64 x1] 172)) from ((Below.refl _ _).alloc (Nat.le_refl _) _).alloc (by simp) _)
  go_enter Tryz.func193, Tryz.ntmps193
  go_wp2
  all_goals
    go_ret
    exact ⟨rfl, HB0.out⟩
theorem sizeq_SpanS : (R_Span).size = 2 := rfl
set_option maxRecDepth 100000 in
set_option maxHeartbeats 3200000 in
theorem eq_SpanS {L : List (D_Span)} {a a' : Option Addr} {cap cap' : Nat} {W : World} (h : RdSl R_Span W W.heap.size L a cap) (h' : RdSl R_Span W W.heap.size L a' cap') : Calls Tryz.prog 163 #[.slice a L.length cap, .slice a' L.length cap'] W (IsB true W) := by
  have hn : L.length ≤ 9223372036854775807 := by have h1 := h.1; have h2 := h.2.1; unfold maxLen at h2; omega
  have H := Lib.hid h
  have H' := Lib.hid h'
  clear h h'
  go_enter Tryz.func163, Tryz.ntmps163
  go_wp2
  go_loopw [5] (fun i wr => ∃ k : Nat, k ≤ L.length ∧ i = .int .i64 k ∧ Below W.heap.size W wr) (fun i _ => L.length - (intOf i).toNat)
  case atStart => exact ⟨0, Nat.zero_le _, rfl, Below.refl _ _⟩
  case round =>
    obtain ⟨k, hk, rfl, hB⟩ := hrel
    have HB := Lib.hid hB
    have hsz := hB.size
    by_cases hlt : k < L.length
    · obtain ⟨⟨x0, x1⟩, hx⟩ := el_some hlt
      have HX := Lib.hid hx
      obtain ⟨g, o, us, rfl, hg, hu, hr⟩ := (H.out.below R_Span_ok hB).at_ hx
      obtain ⟨g', o', vs, rfl, hg', hu', hr'⟩ := (H'.out.below R_Span_ok hB).at_ hx
      obtain rfl := rd_Span hr
      obtain rfl := rd_Span hr'
      have e0 : wr.cell? ⟨g, o + k * 2, none⟩ = some (.int .i64 x0) := by simpa [sizeq_SpanS, Nat.add_assoc] using hu 0 _ rfl
      have d0 : wr.cell? ⟨g', o' + k * 2, none⟩ = some (.int .i64 x0) := by simpa [sizeq_SpanS, Nat.add_assoc] using hu' 0 _ rfl
      have e1 : wr.cell? ⟨g, o + k * 2 + 1, none⟩ = some (.int .i64 x1) := by simpa [sizeq_SpanS, Nat.add_assoc] using hu 1 _ rfl
      have d1 : wr.cell? ⟨g', o' + k * 2 + 1, none⟩ = some (.int .i64 x1) := by simpa [sizeq_SpanS, Nat.add_assoc] using hu' 1 _ rfl
      have hi0 : (0 : Int) ≤ (k : Int) := Int.natCast_nonneg _
      have hi1 : (k : Int) < (L.length : Int) := by omega
      have hgl : g < wr.heap.size := Nat.lt_of_lt_of_le hg hsz
      have hgl' : g' < wr.heap.size := Nat.lt_of_lt_of_le hg' hsz
      clear hB hx hu hu'
      go_wp2_with fail
      refine wp_region_held_drew (S := (fun W => W.cell? ⟨g, o + k * 2, none⟩ = some (.int .i64 x0) ∧ W.cell? ⟨g, o + k * 2 + 1, none⟩ = some (.int .i64 x1) ∧ W.cell? ⟨g', o' + k * 2, none⟩ = some (.int .i64 x0) ∧ W.cell? ⟨g', o' + k * 2 + 1, none⟩ = some (.int .i64 x1) ∧ wr.heap.size ≤ W.heap.size ∧ Below wr.heap.size wr W)) (by kernel_rfl) (⟨e0, e1, d0, d1, Nat.le_refl _, (Below.refl _ _).drew⟩) (fun hHeld => ?_)
      refine wpAnyH_take (i := 0) (v := ?hv1) rfl (by kernel_rfl) (by kernel_rfl) (by kernel_rfl) (fun _ _ _ h => h) (Or.inl ⟨by kernel_rfl, ?hy1⟩) hHeld ?hr1
      case hy1 => (intro w hSw; (try dsimp only at hSw); go_simp; try with_reducible rfl)
      refine wpAnyH_take (i := 1) (v := ?hv2) rfl (by kernel_rfl) (by kernel_rfl) (by kernel_rfl) (fun _ _ _ h => h) (Or.inl ⟨by kernel_rfl, ?hy2⟩) hHeld ?hr2
      case hy2 => (intro w hSw; (try dsimp only at hSw); go_simp; try with_reducible rfl)
      refine wpAnyH_take (i := 2) (v := ?hv3) rfl (by kernel_rfl) (by kernel_rfl) (by kernel_rfl) (fun _ _ _ h => h) (Or.inl ⟨by kernel_rfl, ?hy3⟩) hHeld ?hr3
      case hy3 => (intro w hSw; (try dsimp only at hSw); go_simp; try with_reducible rfl)
      refine wpAnyH_take (i := 3) (v := ?hv4) rfl (by kernel_rfl) (by kernel_rfl) (by kernel_rfl) (fun _ _ _ h => h) (Or.inl ⟨by kernel_rfl, ?hy4⟩) hHeld ?hr4
      case hy4 => (intro w hSw; (try dsimp only at hSw); go_simp; try with_reducible rfl)
      refine wpAnyH_take (i := 4) (v := ?hv5) rfl (by kernel_rfl) (by kernel_rfl) (by kernel_rfl) (fun _ _ _ h => h) (Or.inl ⟨by kernel_rfl, ?hy5⟩) hHeld ?hr5
      case hy5 => (intro w hSw; (try dsimp only at hSw); go_simp; try with_reducible rfl)
      refine wpAnyH_take (i := 5) (v := ?hv6) rfl (by kernel_rfl) (by kernel_rfl) (by kernel_rfl) (fun _ _ _ h => h) (Or.inl ⟨by kernel_rfl, ?hy6⟩) hHeld ?hr6
      case hy6 => (intro w hSw; (try dsimp only at hSw); go_simp; try with_reducible rfl)
      refine wpAnyH_take (i := 6) (v := ?hv7) rfl (by kernel_rfl) (by kernel_rfl) (by kernel_rfl) (fun _ _ _ h => h) (Or.inl ⟨by kernel_rfl, ?hy7⟩) hHeld ?hr7
      case hy7 => (intro w hSw; (try dsimp only at hSw); go_simp; try with_reducible rfl)
      refine wpAnyH_take (i := 7) (v := ?hv8) rfl (by kernel_rfl) (by kernel_rfl) (by kernel_rfl) (fun _ _ _ h => h) (Or.inl ⟨by kernel_rfl, ?hy8⟩) hHeld ?hr8
      case hy8 => (intro w hSw; (try dsimp only at hSw); go_simp; try with_reducible rfl)
      refine rd1 8 (fun K hK => ?_)
      go_simp
      refine (eq_Span).mono ?_
      intro e w1 h
      obtain ⟨rfl, hb⟩ := isB_elim h
      refine hK.out _ _ (⟨(hb.cell (p := ⟨g, o + k * 2, none⟩) (Nat.lt_of_lt_of_le hgl hHeld.2.2.2.2.1)).trans hHeld.1, (hb.cell (p := ⟨g, o + k * 2 + 1, none⟩) (Nat.lt_of_lt_of_le hgl hHeld.2.2.2.2.1)).trans hHeld.2.1, (hb.cell (p := ⟨g', o' + k * 2, none⟩) (Nat.lt_of_lt_of_le hgl' hHeld.2.2.2.2.1)).trans hHeld.2.2.1, (hb.cell (p := ⟨g', o' + k * 2 + 1, none⟩) (Nat.lt_of_lt_of_le hgl' hHeld.2.2.2.2.1)).trans hHeld.2.2.2.1, Nat.le_trans hHeld.2.2.2.2.1 hb.size, hHeld.2.2.2.2.2.trans (hb.mono hHeld.2.2.2.2.1)⟩) (fun hHeld => ?_)
      clear hK K h
      refine tk 9 hHeld ?_
      refine rd0 ?_
      have HB2 := Lib.hid (HB.out.trans (hHeld.2.2.2.2.2.mono hsz))
      clear hHeld
      go_wp2
      go_roundw
      case rel => exact ⟨k + 1, by omega, by go_num, HB2.out⟩
      case measure => simp [intOf]; omega
    · clear hB
      go_wp2
      go_ret
      exact ⟨rfl, HB.out⟩
set_option maxRecDepth 100000 in
set_option maxHeartbeats 3200000 in
theorem eq_Node {x0 : Int} {L0 : List (D_Span)} {a0 : Option Addr} {c0 : Nat} {a0' : Option Addr} {c0' : Nat} {W : World} (h_L0 : RdSl R_Span W W.heap.size L0 a0 c0) (h'_L0 : RdSl R_Span W W.heap.size L0 a0' c0') : Calls Tryz.prog 107 #[.agg #[.int .i64 x0, .slice a0 L0.length c0], .agg #[.int .i64 x0, .slice a0' L0.length c0']] W (IsB true W) := by
  have H_L0 := Lib.hid h_L0
  have H'_L0 := Lib.hid h'_L0
  clear h_L0 h'_L0
  have HB0 := Lib.hid (show Below W.heap.size W ((W.alloc (.cells #[.int .i64 x0, .slice a0 L0.length c0] 120)).alloc (.cells #[.int .i64 x0, .slice a0' L0.length c0'] 120)) from ((Below.refl _ _).alloc (Nat.le_refl _) _).alloc (by simp) _)
  have hP := (Blk.new W 120 #[.int .i64 x0, .slice a0 L0.length c0]).alloc (.cells #[.int .i64 x0, .slice a0' L0.length c0'] 120)
  have hQ := Blk.new (W.alloc (.cells #[.int .i64 x0, .slice a0 L0.length c0] 120)) 120 #[.int .i64 x0, .slice a0' L0.length c0']
  simp only [World.size_alloc] at hP hQ
  have HP0 := Lib.hid hP
  have HQ0 := Lib.hid hQ
  have hz0 : W.heap.size ≤ ((W.alloc (.cells #[.int .i64 x0, .slice a0 L0.length c0] 120)).alloc (.cells #[.int .i64 x0, .slice a0' L0.length c0'] 120)).heap.size := HB0.out.size
  clear hP hQ
  go_enter Tryz.func107, Tryz.ntmps107
  go_wp2_with fail
  refine (eq_SpanS ((H_L0.out.below R_Span_ok HB0.out).more R_Span_ok hz0) ((H'_L0.out.below R_Span_ok HB0.out).more R_Span_ok hz0)).mono ?_
  intro e w1 h
  obtain ⟨rfl, hb⟩ := isB_elim h
  have HP1 := Lib.hid (HP0.out.call hb)
  have HQ1 := Lib.hid (HQ0.out.call hb)
  have HB1 := Lib.hid (HB0.out.trans (hb.mono hz0))
  have hz1 : W.heap.size ≤ w1.heap.size := HB1.out.size
  clear h hb
  go_wp2
  all_goals
    go_ret
    exact ⟨rfl, HB1.out⟩
theorem sizeq_NodeS : (R_Node).size = 2 := rfl
set_option maxRecDepth 100000 in
set_option maxHeartbeats 3200000 in
theorem eq_NodeS {L : List (D_Node)} {a a' : Option Addr} {cap cap' : Nat} {W : World} (h : RdSl R_Node W W.heap.size L a cap) (h' : RdSl R_Node W W.heap.size L a' cap') : Calls Tryz.prog 42 #[.slice a L.length cap, .slice a' L.length cap'] W (IsB true W) := by
  have hn : L.length ≤ 9223372036854775807 := by have h1 := h.1; have h2 := h.2.1; unfold maxLen at h2; omega
  have H := Lib.hid h
  have H' := Lib.hid h'
  clear h h'
  go_enter Tryz.func42, Tryz.ntmps42
  go_wp2
  go_loopw [5] (fun i wr => ∃ k : Nat, k ≤ L.length ∧ i = .int .i64 k ∧ Below W.heap.size W wr) (fun i _ => L.length - (intOf i).toNat)
  case atStart => exact ⟨0, Nat.zero_le _, rfl, Below.refl _ _⟩
  case round =>
    obtain ⟨k, hk, rfl, hB⟩ := hrel
    have HB := Lib.hid hB
    have hsz := hB.size
    by_cases hlt : k < L.length
    · obtain ⟨⟨x0, L0⟩, hx⟩ := el_some hlt
      have HX := Lib.hid hx
      obtain ⟨g, o, us, rfl, hg, hu, hr⟩ := (H.out.below R_Node_ok hB).at_ hx
      obtain ⟨g', o', vs, rfl, hg', hu', hr'⟩ := (H'.out.below R_Node_ok hB).at_ hx
      obtain ⟨a0, c0, rfl, k_L0⟩ := rd_Node hr
      obtain ⟨a0', c0', rfl, k'_L0⟩ := rd_Node hr'
      have e0 : wr.cell? ⟨g, o + k * 2, none⟩ = some (.int .i64 x0) := by simpa [sizeq_NodeS, Nat.add_assoc] using hu 0 _ rfl
      have d0 : wr.cell? ⟨g', o' + k * 2, none⟩ = some (.int .i64 x0) := by simpa [sizeq_NodeS, Nat.add_assoc] using hu' 0 _ rfl
      have e1 : wr.cell? ⟨g, o + k * 2 + 1, none⟩ = some (.slice a0 L0.length c0) := by simpa [sizeq_NodeS, Nat.add_assoc] using hu 1 _ rfl
      have d1 : wr.cell? ⟨g', o' + k * 2 + 1, none⟩ = some (.slice a0' L0.length c0') := by simpa [sizeq_NodeS, Nat.add_assoc] using hu' 1 _ rfl
      have hi0 : (0 : Int) ≤ (k : Int) := Int.natCast_nonneg _
      have hi1 : (k : Int) < (L.length : Int) := by omega
      have hgl : g < wr.heap.size := Nat.lt_of_lt_of_le hg hsz
      have hgl' : g' < wr.heap.size := Nat.lt_of_lt_of_le hg' hsz
      have K_L0 := Lib.hid (k_L0.more R_Span_ok hsz)
      have K'_L0 := Lib.hid (k'_L0.more R_Span_ok hsz)
      clear hB hx hu hu' k_L0 k'_L0
      go_wp2_with fail
      refine wp_region_held_drew (S := (fun W => W.cell? ⟨g, o + k * 2, none⟩ = some (.int .i64 x0) ∧ W.cell? ⟨g, o + k * 2 + 1, none⟩ = some (.slice a0 L0.length c0) ∧ W.cell? ⟨g', o' + k * 2, none⟩ = some (.int .i64 x0) ∧ W.cell? ⟨g', o' + k * 2 + 1, none⟩ = some (.slice a0' L0.length c0') ∧ wr.heap.size ≤ W.heap.size ∧ Below wr.heap.size wr W)) (by kernel_rfl) (⟨e0, e1, d0, d1, Nat.le_refl _, (Below.refl _ _).drew⟩) (fun hHeld => ?_)
      refine wpAnyH_take (i := 0) (v := ?hv10) rfl (by kernel_rfl) (by kernel_rfl) (by kernel_rfl) (fun _ _ _ h => h) (Or.inl ⟨by kernel_rfl, ?hy10⟩) hHeld ?hr10
      case hy10 => (intro w hSw; (try dsimp only at hSw); go_simp; try with_reducible rfl)
      refine wpAnyH_take (i := 1) (v := ?hv11) rfl (by kernel_rfl) (by kernel_rfl) (by kernel_rfl) (fun _ _ _ h => h) (Or.inl ⟨by kernel_rfl, ?hy11⟩) hHeld ?hr11
      case hy11 => (intro w hSw; (try dsimp only at hSw); go_simp; try with_reducible rfl)
      refine wpAnyH_take (i := 2) (v := ?hv12) rfl (by kernel_rfl) (by kernel_rfl) (by kernel_rfl) (fun _ _ _ h => h) (Or.inl ⟨by kernel_rfl, ?hy12⟩) hHeld ?hr12
      case hy12 => (intro w hSw; (try dsimp only at hSw); go_simp; try with_reducible rfl)
      refine wpAnyH_take (i := 3) (v := ?hv13) rfl (by kernel_rfl) (by kernel_rfl) (by kernel_rfl) (fun _ _ _ h => h) (Or.inl ⟨by kernel_rfl, ?hy13⟩) hHeld ?hr13
      case hy13 => (intro w hSw; (try dsimp only at hSw); go_simp; try with_reducible rfl)
      refine wpAnyH_take (i := 4) (v := ?hv14) rfl (by kernel_rfl) (by kernel_rfl) (by kernel_rfl) (fun _ _ _ h => h) (Or.inl ⟨by kernel_rfl, ?hy14⟩) hHeld ?hr14
      case hy14 => (intro w hSw; (try dsimp only at hSw); go_simp; try with_reducible rfl)
      refine wpAnyH_take (i := 5) (v := ?hv15) rfl (by kernel_rfl) (by kernel_rfl) (by kernel_rfl) (fun _ _ _ h => h) (Or.inl ⟨by kernel_rfl, ?hy15⟩) hHeld ?hr15
      case hy15 => (intro w hSw; (try dsimp only at hSw); go_simp; try with_reducible rfl)
      refine wpAnyH_take (i := 6) (v := ?hv16) rfl (by kernel_rfl) (by kernel_rfl) (by kernel_rfl) (fun _ _ _ h => h) (Or.inl ⟨by kernel_rfl, ?hy16⟩) hHeld ?hr16
      case hy16 => (intro w hSw; (try dsimp only at hSw); go_simp; try with_reducible rfl)
      refine wpAnyH_take (i := 7) (v := ?hv17) rfl (by kernel_rfl) (by kernel_rfl) (by kernel_rfl) (fun _ _ _ h => h) (Or.inl ⟨by kernel_rfl, ?hy17⟩) hHeld ?hr17
      case hy17 => (intro w hSw; (try dsimp only at hSw); go_simp; try with_reducible rfl)
      refine rd1 8 (fun K hK => ?_)
      go_simp
      refine (eq_Node ((K_L0.out.below R_Span_ok (by exact hHeld.2.2.2.2.2)).more R_Span_ok (by exact hHeld.2.2.2.2.1)) ((K'_L0.out.below R_Span_ok (by exact hHeld.2.2.2.2.2)).more R_Span_ok (by exact hHeld.2.2.2.2.1))).mono ?_
      intro e w1 h
      obtain ⟨rfl, hb⟩ := isB_elim h
      refine hK.out _ _ (⟨(hb.cell (p := ⟨g, o + k * 2, none⟩) (Nat.lt_of_lt_of_le hgl hHeld.2.2.2.2.1)).trans hHeld.1, (hb.cell (p := ⟨g, o + k * 2 + 1, none⟩) (Nat.lt_of_lt_of_le hgl hHeld.2.2.2.2.1)).trans hHeld.2.1, (hb.cell (p := ⟨g', o' + k * 2, none⟩) (Nat.lt_of_lt_of_le hgl' hHeld.2.2.2.2.1)).trans hHeld.2.2.1, (hb.cell (p := ⟨g', o' + k * 2 + 1, none⟩) (Nat.lt_of_lt_of_le hgl' hHeld.2.2.2.2.1)).trans hHeld.2.2.2.1, Nat.le_trans hHeld.2.2.2.2.1 hb.size, hHeld.2.2.2.2.2.trans (hb.mono hHeld.2.2.2.2.1)⟩) (fun hHeld => ?_)
      clear hK K h
      refine wpAnyH_take (i := 9) (v := ?hv18) rfl (by kernel_rfl) (by kernel_rfl) (by kernel_rfl) (fun _ _ _ h => h) (Or.inl ⟨by kernel_rfl, ?hy18⟩) hHeld ?hr18
      case hy18 => (intro w hSw; (try dsimp only at hSw); go_simp; try with_reducible rfl)
      refine rd0 ?_
      have HB2 := Lib.hid (HB.out.trans (hHeld.2.2.2.2.2.mono hsz))
      clear hHeld
      go_wp2
      go_roundw
      case rel => exact ⟨k + 1, by omega, by go_num, HB2.out⟩
      case measure => simp [intOf]; omega
    · clear hB
      go_wp2
      go_ret
      exact ⟨rfl, HB.out⟩
end Go.Proofs.YtelhmacfljffhaaGreat.RepC
end
section
namespace Go.Proofs.YtelhmacfljffhaaGreat.RepC
open Go.RowKit RowC ValC
set_option linter.unusedVariables false
def mtl (k : Nat) (out : ByteArray) : ByteArray := if h : k = 0 then out else mtl (k / 10) (⟨#[48 + UInt8.ofNat (k % 10)]⟩ ++ out)
termination_by k
decreasing_by omega
theorem mtl_zero (out : ByteArray) : mtl 0 out = out := by unfold mtl; simp
theorem mtl_pos {k : Nat} (h : 0 < k) (out : ByteArray) : mtl k out = mtl (k / 10) (⟨#[48 + UInt8.ofNat (k % 10)]⟩ ++ out) := by
  rw [mtl]; rw [dif_neg (by omega)]
def mtI (k : Int) : ByteArray := if k ≤ 0 then ⟨#[109, 48]⟩ else ⟨#[109]⟩ ++ mtl k.toNat ⟨#[]⟩
def St : Rp ByteArray where
  size := 1
  rd _ _ d cs := cs = [.string d] ∧ d.size ≤ maxLen
  ow _ _ d cs := cs = [.string d] ∧ d.size ≤ maxLen
  mm d k k' := d = mtI k ∧ k' = k + 1
  mv _ k k' := k' = k
  cm _ := 1
  cv _ := 0
  sz d := d.size
theorem St_ok : Ok St where
  rd_len h := by rw [h.1]; rfl
  ow_len h := by rw [h.1]; rfl
  rd_below h _ := h
  rd_more h _ := h
  ow_keep h _ := h
  ow_more h _ := h
  ow_rd h _ := h
  one h u hu := by rw [h.1] at hu; simp at hu; subst hu; rfl
theorem St_mn : Mn St := fun x k k' h => by have := h.2; omega
end Go.Proofs.YtelhmacfljffhaaGreat.RepC
end
section
namespace Go.Proofs.YtelhmacfljffhaaGreat.DrawC
open Go.RowKit
structure But (g : Nat) (w w' : World) : Prop where
  os : w'.os = w.os
  tape : w'.tape = w.tape
  output : w'.output = w.output
  size : w.heap.size ≤ w'.heap.size
  block : ∀ k, k < w.heap.size → k ≠ g → w'.heap[k]? = w.heap[k]?
theorem But.refl (g : Nat) (w : World) : But g w w := ⟨rfl, rfl, rfl, Nat.le_refl _, fun _ _ _ => rfl⟩
theorem But.trans {g : Nat} {a b c : World} (h : But g a b) (k : But g b c) : But g a c :=
  ⟨k.os.trans h.os, k.tape.trans h.tape, k.output.trans h.output, Nat.le_trans h.size k.size, fun i hi hg => (k.block i (Nat.lt_of_lt_of_le hi h.size) hg).trans (h.block i hi hg)⟩
theorem But.drew {g : Nat} {a w : World} (h : But g a w) : But g a w.drew := ⟨h.os, h.tape, h.output, h.size, h.block⟩
theorem But.alloc {g : Nat} {a w : World} (h : But g a w) (o : Obj) : But g a (w.alloc o) :=
  h.trans ⟨rfl, rfl, rfl, by simp, fun _ hk _ => Below.heap_alloc _ _ _ hk⟩
theorem But.setCell {g : Nat} {a w : World} (h : But g a w) (o : Nat) (u : Value) : But g a (w.setCell ⟨g, o, none⟩ u) :=
  h.trans ⟨rfl, rfl, rfl, by simp [World.setCell], fun _ _ hg => Below.heap_setCell _ _ _ _ hg⟩
theorem But.of_below {g : Nat} {a w w' : World} (h : But g a w) (k : Below w.heap.size w w') : But g a w' :=
  h.trans ⟨k.os, k.tape, k.output, k.size, fun i hi _ => k.block i hi⟩
theorem But.below {g B : Nat} {w w' : World} (h : But g w w') (hB : B ≤ w.heap.size) (hg : B ≤ g) : Below B w w' :=
  ⟨h.os, h.tape, h.output, h.size, fun k hk => h.block k (by omega) (by omega)⟩
theorem But.cell {g : Nat} {w w' : World} (h : But g w w') {p : Addr} (hp : p.block < w.heap.size) (hg : p.block ≠ g) : w'.cell? p = w.cell? p := World.cell?_of_block (w := w) (h.block p.block hp hg)
theorem But.frozen {g : Nat} {w w' : World} (h : But g w w') {p : Addr} (hp : p.block < w.heap.size) (hg : p.block ≠ g) : w'.frozen? p = w.frozen? p := World.frozen?_of_block (w := w) (h.block p.block hp hg)
def Code' (g : Nat) (w : World) (b : Option Addr) (len : Nat) : Prop := ∀ x, b = some x → ∀ i, i < len → (x.block < g ∧ ∃ c : Nat, c < 256 ∧ w.cell? (x.add i) = some (.int .u8 c))
structure Src (g : Nat) (b : Option Addr) (len cap : Nat) (w : World) : Prop where
  lt : g < w.heap.size
  len0 : len ≤ 1048576
  nil : b = none → len = 0
  code : Code' g w b len
  cells : ∃ (at' mix : Nat) (size : Int), at' ≤ len ∧ mix < 18446744073709551616 ∧ 0 ≤ size ∧ size ≤ 12 ∧ w.cell? ⟨g, 0, none⟩ = some (.slice b len cap) ∧ w.cell? ⟨g, 1, none⟩ = some (.int .i64 at') ∧ w.cell? ⟨g, 2, none⟩ = some (.int .u64 mix) ∧ w.cell? ⟨g, 3, none⟩ = some (.int .i64 size)
  soft : ∀ j, w.frozen? ⟨g, j, none⟩ = false
theorem But.drewN {g : Nat} {a w : World} (h : But g a w) (k : Nat) : But g a (w.drewN k) := ⟨h.os, h.tape, h.output, h.size, h.block⟩
structure Mid (g : Nat) (b : Option Addr) (len cap : Nat) (a : Int) (size : Int) (w W : World) : Prop where
  but : But g w W
  c0 : W.cell? ⟨g, 0, none⟩ = some (.slice b len cap)
  c1 : W.cell? ⟨g, 1, none⟩ = some (.int .i64 a)
  c2 : ∃ m : Nat, m < 18446744073709551616 ∧ W.cell? ⟨g, 2, none⟩ = some (.int .u64 m)
  c3 : W.cell? ⟨g, 3, none⟩ = some (.int .i64 size)
  soft : ∀ j, W.frozen? ⟨g, j, none⟩ = false
theorem Mid.mix {g : Nat} {b : Option Addr} {len cap : Nat} {a size : Int} {w W : World} (h : Mid g b len cap a size w W) {v : Int} (h0 : 0 ≤ v) (h1 : v < 18446744073709551616) :
    Mid g b len cap a size w ((W.setCell ⟨g, 2, none⟩ (.int .u64 v)).drew) := by
  obtain ⟨m, _, c2⟩ := h.c2
  refine ⟨(h.but.setCell 2 _).drew, ?_, ?_, ⟨v.toNat, by omega, ?_⟩, ?_, fun j => ?_⟩
  · simp [go_sem, h.c0]
  · simp [go_sem, h.c1]
  · rw [show ((v.toNat : Nat) : Int) = v by omega]; simp [go_sem, c2]
  · simp [go_sem, h.c3]
  · simpa using h.soft j
theorem Mid.drewN {g : Nat} {b : Option Addr} {len cap : Nat} {a size : Int} {w W : World} (h : Mid g b len cap a size w W) (k : Nat) : Mid g b len cap a size w (W.drewN k) :=
  ⟨h.but.drewN k, by simpa using h.c0, by simpa using h.c1, by simpa using h.c2, by simpa using h.c3, fun j => by simpa using h.soft j⟩
theorem Src.mono {g : Nat} {b : Option Addr} {len cap : Nat} {w w' : World} (h : Src g b len cap w) (hb : Below (g + 1) w w') : Src g b len cap w' := by
  obtain ⟨a, m, s, h1, h2, h3, h4, c0, c1, c2, c3⟩ := h.cells
  refine ⟨Nat.lt_of_lt_of_le h.lt hb.size, h.len0, h.nil, fun x hx => ?_, ⟨a, m, s, h1, h2, h3, h4, (hb.cell (p := ⟨g, 0, none⟩) (Nat.lt_succ_self _)).trans c0, (hb.cell (p := ⟨g, 1, none⟩) (Nat.lt_succ_self _)).trans c1, (hb.cell (p := ⟨g, 2, none⟩) (Nat.lt_succ_self _)).trans c2, (hb.cell (p := ⟨g, 3, none⟩) (Nat.lt_succ_self _)).trans c3⟩, fun j => (hb.frozen (p := ⟨g, j, none⟩) (Nat.lt_succ_self _)).trans (h.soft j)⟩
  intro i hi
  obtain ⟨hg, c, hc, e⟩ := h.code x hx i hi
  refine ⟨hg, ?_⟩
  have hx' : (x.add i).block = x.block := by cases i <;> simp [Addr.add]
  exact ⟨c, hc, (hb.cell (p := x.add i) (by rw [hx']; omega)).trans e⟩
theorem Src.alloc {g : Nat} {b : Option Addr} {len cap : Nat} {w : World} (h : Src g b len cap w) (o : Obj) : Src g b len cap (w.alloc o) :=
  h.mono ((Below.refl _ _).alloc h.lt _)
def CodeIn (w : World) (b : Option Addr) (len : Nat) : Prop := (b = none → len = 0) ∧ ∀ x, b = some x → ∀ i, i < len → (x.block < w.heap.size ∧ ∃ c : Nat, c < 256 ∧ w.cell? (x.add i) = some (.int .u8 c))
theorem Mid.size {g : Nat} {b : Option Addr} {len cap : Nat} {a size : Int} {w W : World} (h : Mid g b len cap a size w W) (s2 : Int) :
    Mid g b len cap a s2 w (W.setCell ⟨g, 3, none⟩ (.int .i64 s2)) := by
  obtain ⟨m, hm, c2⟩ := h.c2
  refine ⟨h.but.setCell 3 _, ?_, ?_, ⟨m, hm, ?_⟩, ?_, fun j => ?_⟩
  · simp [go_sem, h.c0]
  · simp [go_sem, h.c1]
  · simp [go_sem, c2]
  · simp [go_sem, h.c3]
  · simpa using h.soft j
theorem CodeIn.at {w : World} {x : Addr} {len i : Nat} (h : CodeIn w (some x) len) (hi : i < len) {o : Obj} {W : World} (hb : But w.heap.size (w.alloc o) W) : ∃ c : Nat, c < 256 ∧ W.cell? (x.add i) = some (.int .u8 c) := by
  obtain ⟨hx, c, hc, e⟩ := h.2 x rfl i hi
  have hx' : (x.add i).block = x.block := by cases i <;> simp [Addr.add]
  exact ⟨c, hc, ((hb.cell (p := x.add i) (by rw [hx']; simp; omega) (by rw [hx']; omega)).trans (World.cell?_alloc_lt _ _ _ (by rw [hx']; exact hx))).trans e⟩
theorem Mid.made {b : Option Addr} {len cap a : Nat} {size : Int} {w W : World} {o : Obj} (h : Mid w.heap.size b len cap a size (w.alloc o) W) (hc : CodeIn w b len) (hl : len ≤ 1048576) (ha : a ≤ len) (s0 : 0 ≤ size) (s1 : size ≤ 12) :
    Src w.heap.size b len cap W ∧ Below w.heap.size w W := by
  obtain ⟨m, hm, c2⟩ := h.c2
  refine ⟨⟨Nat.lt_of_lt_of_le (by simp) h.but.size, hl, hc.1, fun x hx => ?_, ⟨a, m, size, ha, hm, s0, s1, h.c0, h.c1, c2, h.c3⟩, h.soft⟩, ((Below.refl _ _).alloc (Nat.le_refl _) o).trans (h.but.below (by simp) (Nat.le_refl _))⟩
  subst hx
  exact fun i hi => ⟨(hc.2 x rfl i hi).1, hc.at hi h.but⟩
def bytesOf (l : List UInt8) : ByteArray := ⟨l.toArray⟩
theorem conv_nil (w : World) : (convert 213 9 (.slice none 0 0)).run Tryz.prog w = .ok (.string { data := #[] }) w := by kernel_rfl
theorem conv_of_own {B : Nat} {w : World} {v : Value} {l : List UInt8} (h : w.ownsRow B 5 1 v l.length (l.map fun c => Value.int .u8 (c.toNat : Int))) :
    (convert 213 9 v).run Tryz.prog w = .ok (.string (bytesOf l)) w := by
  have hc := fun g hg j u hj => World.ownsRow.cells h (g := g) hg j u hj
  rcases h with ⟨_, ⟨rfl, hn⟩ | ⟨g, cap, cur, rfl, _⟩⟩
  · obtain rfl := List.length_eq_zero_iff.1 hn
    exact conv_nil w
  · exact run_convert_bytes_back w 213 9 5 ⟨g, 0, none⟩ cap l Tryz.underlying213 Tryz.underlying5 Tryz.underlying9 (fun j hj => hc g rfl j _ (by simp [List.getElem?_eq_getElem hj]))
theorem But.grown {g : Nat} {a w w' : World} {row : Option Nat} (h : But g a w) (hg : w.grownBy w' row) (hr : ∀ k, row = some k → a.heap.size ≤ k) : But g a w' :=
  ⟨hg.os.trans h.os, hg.tape.trans h.tape, hg.output.trans h.output, Nat.le_trans h.size hg.size, fun k hk hkg => (hg.block k (Nat.lt_of_lt_of_le hk h.size) (fun e => by have := hr k e.symm; omega)).trans (h.block k hk hkg)⟩
theorem Src.grown {g : Nat} {b : Option Addr} {len cap : Nat} {w w' : World} {row : Option Nat} (h : Src g b len cap w) (hg : w.grownBy w' row) (hr : ∀ k, row = some k → g < k) : Src g b len cap w' :=
  h.mono ((Below.refl _ _).grown hg h.lt (fun k hk => hr k hk))
theorem CodeIn.below {w w' : World} {b : Option Addr} {len : Nat} (h : CodeIn w b len) (hb : Below w.heap.size w w') : CodeIn w' b len := by
  refine ⟨h.1, fun x hx i hi => ?_⟩
  obtain ⟨hl, c, hc, e⟩ := h.2 x hx i hi
  refine ⟨Nat.lt_of_lt_of_le hl hb.size, ?_⟩
  have hx' : (x.add i).block = x.block := by cases i <;> simp [Addr.add]
  exact ⟨c, hc, (hb.cell (p := x.add i) (by rw [hx']; exact hl)).trans e⟩
end Go.Proofs.YtelhmacfljffhaaGreat.DrawC
end
section
namespace Go.Proofs.YtelhmacfljffhaaGreat.RepC
open Go.RowKit RowC ValC
set_option linter.unusedSimpArgs false
set_option linter.unusedVariables false
theorem sz1 (c : UInt8) (out : ByteArray) : ((⟨#[c]⟩ : ByteArray) ++ out).size = 1 + out.size := by rw [ByteArray.size_append]; rfl
theorem conv_one (W : World) (c : UInt8) : (convert 213 9 (.slice (some ⟨W.heap.size, 0, none⟩) 1 1)).run Tryz.prog (W.alloc (.cells #[.int .u8 (c.toNat : Int)] 5)) = .ok (.string ⟨#[c]⟩) (W.alloc (.cells #[.int .u8 (c.toNat : Int)] 5)) := by
  have h := DrawC.conv_of_own (B := 0) (w := W.alloc (.cells #[.int .u8 (c.toNat : Int)] 5)) (v := .slice (some ⟨W.heap.size, 0, none⟩) 1 1) (l := [c]) ?_
  · simpa [DrawC.bytesOf] using h
  · exact ⟨by simp, .inr ⟨W.heap.size, 1, #[.int .u8 (c.toNat : Int)], rfl, Nat.zero_le _, heap_alloc_new W _, Nat.le_refl _, by decide, rfl, rfl⟩⟩
theorem mt_step {q n k : Nat} (hq : 0 < q) (h : 2 ^ n * (q + 1) ≤ k) : 2 ^ (1 + n) * (q / 10 + 1) ≤ k := by
  have h1 : 2 * (q / 10 + 1) ≤ q + 1 := by omega
  calc 2 ^ (1 + n) * (q / 10 + 1) = 2 ^ n * (2 * (q / 10 + 1)) := by rw [Nat.add_comm, Nat.pow_succ, Nat.mul_assoc]
    _ ≤ 2 ^ n * (q + 1) := Nat.mul_le_mul_left _ h1
    _ ≤ k := h
theorem mt_small {q n k : Nat} (h : 2 ^ n * (q + 1) ≤ k + 1) (hk : k ≤ 4611686018427387904) : n ≤ 63 := by
  have h1 : 2 ^ n ≤ 2 ^ 63 := by
    have := Nat.le_mul_of_pos_right (2 ^ n) (show 0 < q + 1 by omega)
    have h2 : (2 : Nat) ^ 63 = 9223372036854775808 := by decide
    omega
  exact (Nat.pow_le_pow_iff_right (by decide)).1 h1
def MkT (k : Int) (w : World) (e : Ending) (w' : World) : Prop := e = .returned (.string (mtI k)) ∧ (mtI k).size ≤ maxLen ∧ Below w.heap.size w w'
theorem mkT_elim {k : Int} {w : World} {e : Ending} {w' : World} (h : MkT k w e w') : e = .returned (.string (mtI k)) ∧ (mtI k).size ≤ maxLen ∧ Below w.heap.size w w' := h
set_option maxRecDepth 100000 in
set_option maxHeartbeats 1600000 in
theorem marktext_v (z : Int) (w : World) (h0 : 0 ≤ z) (h2 : z ≤ 4611686018427387904) : Calls Tryz.prog 169 #[.int .i64 z] w (MkT z w) := by
  by_cases hz : z ≤ 0
  · have hd : decide (z ≤ 0) = true := decide_eq_true hz
    have HE := Lib.hid (show mtI z = ⟨#[109, 48]⟩ from if_pos hz)
    go_enter Tryz.func169, Tryz.ntmps169
    go_wp2
    go_ret
    exact ⟨by rw [HE.out]; rfl, by rw [HE.out]; decide, Below.refl _ _⟩
  have hd : decide (z ≤ 0) = false := decide_eq_false hz
  obtain ⟨k, rfl⟩ : ∃ k : Nat, z = k := ⟨z.toNat, by omega⟩
  have HK := Lib.hid (show mtI k = ⟨#[109]⟩ ++ mtl k ⟨#[]⟩ from by unfold mtI; rw [if_neg hz]; rfl)
  go_enter Tryz.func169, Tryz.ntmps169
  go_wp2
  go_loopw [0, 3] (fun i v wr => ∃ (q : Nat) (out : ByteArray), 2 ^ out.size * (q + 1) ≤ k + 1 ∧ i = .int .i64 q ∧ v = .string out ∧ q ≤ k ∧ mtl q out = mtl k ⟨#[]⟩ ∧ Below w.heap.size w wr) (fun i _ _ => (intOf i).toNat)
  case atStart => exact ⟨k, ⟨#[]⟩, by simp [ByteArray.size], rfl, rfl, Nat.le_refl _, rfl, Below.refl _ _⟩
  case round =>
    obtain ⟨q, out, hpw, rfl, rfl, hqk, hm, hb⟩ := hrel
    have HM := Lib.hid hm
    have HB := Lib.hid hb
    have HPW := Lib.hid hpw
    have hs1 : out.size ≤ 63 := mt_small hpw (by omega)
    clear hm hb hpw
    by_cases hq : 0 < q
    · have hpos : (0 : Int) < (q : Int) := by omega
      have hd2 : decide ((0 : Int) < (q : Int)) = true := decide_eq_true hpos
      have hc : ((48 + UInt8.ofNat (q % 10)).toNat : Int) = 48 + (q : Int) % 10 := by rw [show 48 + UInt8.ofNat (q % 10) = UInt8.ofNat (48 + q % 10) by simp, UInt8.toNat_ofNat']; omega
      have hconv := conv_one wr (48 + UInt8.ofNat (q % 10))
      rw [hc] at hconv
      have HC := Lib.hid (mtl_pos hq out)
      have HQ := Lib.hid hq
      clear hc
      go_wp2
      go_roundw
      case rel => exact ⟨q / 10, _, by rw [sz1]; exact mt_step HQ.out HPW.out, by go_num, rfl, by omega, by rw [← HC.out]; exact HM.out, HB.out.alloc HB.out.size _⟩
      case measure => simp [intOf]; omega
    · obtain rfl : q = 0 := by omega
      have HE := Lib.hid (show mtI k = ⟨#[109]⟩ ++ out from by rw [HK.out, ← HM.out, mtl_zero])
      have HL := Lib.hid (show (mtI k).size ≤ maxLen from by rw [HE.out, sz1]; unfold maxLen; omega)
      go_wp2
      go_ret
      exact ⟨by rw [HE.out]; rfl, HL.out, HB.out⟩
end Go.Proofs.YtelhmacfljffhaaGreat.RepC
end
section
namespace Go.Proofs.YtelhmacfljffhaaGreat.RepC
open Go.RowKit RowC ValC
set_option linter.unusedVariables false
set_option linter.unusedSimpArgs false
abbrev D_Use : Type := (D_Label) × (ByteArray) × (Int)
def R_Use : Rp D_Use := (Pr R_Label (Pr St I))
theorem R_Use_ok : Ok R_Use := (Pr_ok R_Label_ok (Pr_ok St_ok I_ok))
theorem rd_Use {W : World} {B : Nat} {x0 : Int} {x1 : Int} {x2 : ByteArray} {x3 : Int} {cs : List Value} (h : R_Use.rd W B ((x0, x1), x2, x3) cs) : cs = [.int .i64 x0, .int .i64 x1, .string x2, .int .i64 x3] ∧ x2.size ≤ maxLen := by
  obtain ⟨u1, v1, rfl, h1, g1⟩ := h
  obtain ⟨u2, v2, rfl, h2, g2⟩ := h1
  obtain rfl : u2 = [_] := h2
  obtain rfl : v2 = [_] := g2
  obtain ⟨u3, v3, rfl, h3, g3⟩ := g1
  obtain ⟨hq_x2, b_x2⟩ := h3
  obtain rfl : u3 = [_] := hq_x2
  obtain rfl : v3 = [_] := g3
  exact ⟨rfl, b_x2⟩
theorem mkow_Use {W : World} {S : Nat → Prop} {x0 : Int} {x1 : Int} {x2 : ByteArray} {x3 : Int}  (b_x2 : x2.size ≤ maxLen) : R_Use.ow W S ((x0, x1), x2, x3) [.int .i64 x0, .int .i64 x1, .string x2, .int .i64 x3] := ⟨[.int .i64 x0, .int .i64 x1], [.string x2, .int .i64 x3], (fun _ => False), (fun _ => False), rfl, (fun k h => h.elim), (fun k h => h.elim), (fun k h h' => h.elim), ⟨[.int .i64 x0], [.int .i64 x1], (fun _ => False), (fun _ => False), rfl, (fun k h => h.elim), (fun k h => h.elim), (fun k h h' => h.elim), rfl, rfl⟩, ⟨[.string x2], [.int .i64 x3], (fun _ => False), (fun _ => False), rfl, (fun k h => h.elim), (fun k h => h.elim), (fun k h h' => h.elim), ⟨rfl, b_x2⟩, rfl⟩⟩
theorem ow0_Use {W : World} {S : Nat → Prop} {x0 : Int} {x1 : Int} {x2 : ByteArray} {x3 : Int} {cs : List Value} (h : R_Use.ow W S ((x0, x1), x2, x3) cs) : cs = [.int .i64 x0, .int .i64 x1, .string x2, .int .i64 x3] ∧ x2.size ≤ maxLen := by
  obtain ⟨u1, v1, A1, B1, rfl, sa1, sb1, dd1, h1, g1⟩ := h
  obtain ⟨u2, v2, A2, B2, rfl, sa2, sb2, dd2, h2, g2⟩ := h1
  obtain rfl : u2 = [_] := h2
  obtain rfl : v2 = [_] := g2
  obtain ⟨u3, v3, A3, B3, rfl, sa3, sb3, dd3, h3, g3⟩ := g1
  obtain ⟨hq_x2, b_x2⟩ := h3
  obtain rfl : u3 = [_] := hq_x2
  obtain rfl : v3 = [_] := g3
  exact ⟨rfl, b_x2⟩
set_option maxRecDepth 100000 in
set_option maxHeartbeats 3200000 in
theorem eq_Use {x0 : Int} {x1 : Int} {x2 : ByteArray} {x3 : Int}   {W : World} : Calls Tryz.prog 109 #[.agg #[.int .i64 x0, .int .i64 x1, .string x2, .int .i64 x3], .agg #[.int .i64 x0, .int .i64 x1, .string x2, .int .i64 x3]] W (IsB true W) := by
  have HB0 := Lib.hid (show Below W.heap.size W ((W.alloc (.cells #[.int .i64 x0, .int .i64 x1, .string x2, .int .i64 x3] 76)).alloc (.cells #[.int .i64 x0, .int .i64 x1, .string x2, .int .i64 x3] 76)) from ((Below.refl _ _).alloc (Nat.le_refl _) _).alloc (by simp) _)
  have hP := (Blk.new W 76 #[.int .i64 x0, .int .i64 x1, .string x2, .int .i64 x3]).alloc (.cells #[.int .i64 x0, .int .i64 x1, .string x2, .int .i64 x3] 76)
  have hQ := Blk.new (W.alloc (.cells #[.int .i64 x0, .int .i64 x1, .string x2, .int .i64 x3] 76)) 76 #[.int .i64 x0, .int .i64 x1, .string x2, .int .i64 x3]
  simp only [World.size_alloc] at hP hQ
  have HP0 := Lib.hid hP
  have HQ0 := Lib.hid hQ
  have hz0 : W.heap.size ≤ ((W.alloc (.cells #[.int .i64 x0, .int .i64 x1, .string x2, .int .i64 x3] 76)).alloc (.cells #[.int .i64 x0, .int .i64 x1, .string x2, .int .i64 x3] 76)).heap.size := HB0.out.size
  clear hP hQ
  go_enter Tryz.func109, Tryz.ntmps109
  go_wp2_with fail
  refine (eq_Label).mono ?_
  intro e w1 h
  obtain ⟨rfl, hb⟩ := isB_elim h
  have HP1 := Lib.hid (HP0.out.call hb)
  have HQ1 := Lib.hid (HQ0.out.call hb)
  have HB1 := Lib.hid (HB0.out.trans (hb.mono hz0))
  have hz1 : W.heap.size ≤ w1.heap.size := HB1.out.size
  clear h hb
  have p1_2 := HP1.out.at_ 2 rfl
  have q1_2 := HQ1.out.at_ 2 rfl
  have p1_3 := HP1.out.at_ 3 rfl
  have q1_3 := HQ1.out.at_ 3 rfl
  go_wp2
  all_goals
    go_ret
    exact ⟨rfl, HB1.out⟩
theorem sizeq_UseS : (R_Use).size = 4 := rfl
set_option maxRecDepth 100000 in
set_option maxHeartbeats 3200000 in
theorem eq_UseS {L : List (D_Use)} {a a' : Option Addr} {cap cap' : Nat} {W : World} (h : RdSl R_Use W W.heap.size L a cap) (h' : RdSl R_Use W W.heap.size L a' cap') : Calls Tryz.prog 44 #[.slice a L.length cap, .slice a' L.length cap'] W (IsB true W) := by
  have hn : L.length ≤ 9223372036854775807 := by have h1 := h.1; have h2 := h.2.1; unfold maxLen at h2; omega
  have H := Lib.hid h
  have H' := Lib.hid h'
  clear h h'
  go_enter Tryz.func44, Tryz.ntmps44
  go_wp2
  go_loopw [5] (fun i wr => ∃ k : Nat, k ≤ L.length ∧ i = .int .i64 k ∧ Below W.heap.size W wr) (fun i _ => L.length - (intOf i).toNat)
  case atStart => exact ⟨0, Nat.zero_le _, rfl, Below.refl _ _⟩
  case round =>
    obtain ⟨k, hk, rfl, hB⟩ := hrel
    have HB := Lib.hid hB
    have hsz := hB.size
    by_cases hlt : k < L.length
    · obtain ⟨⟨⟨x0, x1⟩, x2, x3⟩, hx⟩ := el_some hlt
      have HX := Lib.hid hx
      obtain ⟨g, o, us, rfl, hg, hu, hr⟩ := (H.out.below R_Use_ok hB).at_ hx
      obtain ⟨g', o', vs, rfl, hg', hu', hr'⟩ := (H'.out.below R_Use_ok hB).at_ hx
      obtain ⟨rfl, b_x2⟩ := rd_Use hr
      obtain ⟨rfl, b'_x2⟩ := rd_Use hr'
      have e0 : wr.cell? ⟨g, o + k * 4, none⟩ = some (.int .i64 x0) := by simpa [sizeq_UseS, Nat.add_assoc] using hu 0 _ rfl
      have d0 : wr.cell? ⟨g', o' + k * 4, none⟩ = some (.int .i64 x0) := by simpa [sizeq_UseS, Nat.add_assoc] using hu' 0 _ rfl
      have e1 : wr.cell? ⟨g, o + k * 4 + 1, none⟩ = some (.int .i64 x1) := by simpa [sizeq_UseS, Nat.add_assoc] using hu 1 _ rfl
      have d1 : wr.cell? ⟨g', o' + k * 4 + 1, none⟩ = some (.int .i64 x1) := by simpa [sizeq_UseS, Nat.add_assoc] using hu' 1 _ rfl
      have e2 : wr.cell? ⟨g, o + k * 4 + 2, none⟩ = some (.string x2) := by simpa [sizeq_UseS, Nat.add_assoc] using hu 2 _ rfl
      have d2 : wr.cell? ⟨g', o' + k * 4 + 2, none⟩ = some (.string x2) := by simpa [sizeq_UseS, Nat.add_assoc] using hu' 2 _ rfl
      have e3 : wr.cell? ⟨g, o + k * 4 + 3, none⟩ = some (.int .i64 x3) := by simpa [sizeq_UseS, Nat.add_assoc] using hu 3 _ rfl
      have d3 : wr.cell? ⟨g', o' + k * 4 + 3, none⟩ = some (.int .i64 x3) := by simpa [sizeq_UseS, Nat.add_assoc] using hu' 3 _ rfl
      have hi0 : (0 : Int) ≤ (k : Int) := Int.natCast_nonneg _
      have hi1 : (k : Int) < (L.length : Int) := by omega
      have hgl : g < wr.heap.size := Nat.lt_of_lt_of_le hg hsz
      have hgl' : g' < wr.heap.size := Nat.lt_of_lt_of_le hg' hsz
      clear hB hx hu hu'
      go_wp2_with fail
      refine wp_region_held_drew (S := (fun W => W.cell? ⟨g, o + k * 4, none⟩ = some (.int .i64 x0) ∧ W.cell? ⟨g, o + k * 4 + 1, none⟩ = some (.int .i64 x1) ∧ W.cell? ⟨g, o + k * 4 + 2, none⟩ = some (.string x2) ∧ W.cell? ⟨g, o + k * 4 + 3, none⟩ = some (.int .i64 x3) ∧ W.cell? ⟨g', o' + k * 4, none⟩ = some (.int .i64 x0) ∧ W.cell? ⟨g', o' + k * 4 + 1, none⟩ = some (.int .i64 x1) ∧ W.cell? ⟨g', o' + k * 4 + 2, none⟩ = some (.string x2) ∧ W.cell? ⟨g', o' + k * 4 + 3, none⟩ = some (.int .i64 x3) ∧ wr.heap.size ≤ W.heap.size ∧ Below wr.heap.size wr W)) (by kernel_rfl) (⟨e0, e1, e2, e3, d0, d1, d2, d3, Nat.le_refl _, (Below.refl _ _).drew⟩) (fun hHeld => ?_)
      refine wpAnyH_take (i := 0) (v := ?hv1) rfl (by kernel_rfl) (by kernel_rfl) (by kernel_rfl) (fun _ _ _ h => h) (Or.inl ⟨by kernel_rfl, ?hy1⟩) hHeld ?hr1
      case hy1 => (intro w hSw; (try dsimp only at hSw); go_simp; try with_reducible rfl)
      refine wpAnyH_take (i := 1) (v := ?hv2) rfl (by kernel_rfl) (by kernel_rfl) (by kernel_rfl) (fun _ _ _ h => h) (Or.inl ⟨by kernel_rfl, ?hy2⟩) hHeld ?hr2
      case hy2 => (intro w hSw; (try dsimp only at hSw); go_simp; try with_reducible rfl)
      refine wpAnyH_take (i := 2) (v := ?hv3) rfl (by kernel_rfl) (by kernel_rfl) (by kernel_rfl) (fun _ _ _ h => h) (Or.inl ⟨by kernel_rfl, ?hy3⟩) hHeld ?hr3
      case hy3 => (intro w hSw; (try dsimp only at hSw); go_simp; try with_reducible rfl)
      refine wpAnyH_take (i := 3) (v := ?hv4) rfl (by kernel_rfl) (by kernel_rfl) (by kernel_rfl) (fun _ _ _ h => h) (Or.inl ⟨by kernel_rfl, ?hy4⟩) hHeld ?hr4
      case hy4 => (intro w hSw; (try dsimp only at hSw); go_simp; try with_reducible rfl)
      refine wpAnyH_take (i := 4) (v := ?hv5) rfl (by kernel_rfl) (by kernel_rfl) (by kernel_rfl) (fun _ _ _ h => h) (Or.inl ⟨by kernel_rfl, ?hy5⟩) hHeld ?hr5
      case hy5 => (intro w hSw; (try dsimp only at hSw); go_simp; try with_reducible rfl)
      refine wpAnyH_take (i := 5) (v := ?hv6) rfl (by kernel_rfl) (by kernel_rfl) (by kernel_rfl) (fun _ _ _ h => h) (Or.inl ⟨by kernel_rfl, ?hy6⟩) hHeld ?hr6
      case hy6 => (intro w hSw; (try dsimp only at hSw); go_simp; try with_reducible rfl)
      refine wpAnyH_take (i := 6) (v := ?hv7) rfl (by kernel_rfl) (by kernel_rfl) (by kernel_rfl) (fun _ _ _ h => h) (Or.inl ⟨by kernel_rfl, ?hy7⟩) hHeld ?hr7
      case hy7 => (intro w hSw; (try dsimp only at hSw); go_simp; try with_reducible rfl)
      refine wpAnyH_take (i := 7) (v := ?hv8) rfl (by kernel_rfl) (by kernel_rfl) (by kernel_rfl) (fun _ _ _ h => h) (Or.inl ⟨by kernel_rfl, ?hy8⟩) hHeld ?hr8
      case hy8 => (intro w hSw; (try dsimp only at hSw); go_simp; try with_reducible rfl)
      refine rd1 8 (fun K hK => ?_)
      go_simp
      refine (eq_Use).mono ?_
      intro e w1 h
      obtain ⟨rfl, hb⟩ := isB_elim h
      refine hK.out _ _ (⟨(hb.cell (p := ⟨g, o + k * 4, none⟩) (Nat.lt_of_lt_of_le hgl hHeld.2.2.2.2.2.2.2.2.1)).trans hHeld.1, (hb.cell (p := ⟨g, o + k * 4 + 1, none⟩) (Nat.lt_of_lt_of_le hgl hHeld.2.2.2.2.2.2.2.2.1)).trans hHeld.2.1, (hb.cell (p := ⟨g, o + k * 4 + 2, none⟩) (Nat.lt_of_lt_of_le hgl hHeld.2.2.2.2.2.2.2.2.1)).trans hHeld.2.2.1, (hb.cell (p := ⟨g, o + k * 4 + 3, none⟩) (Nat.lt_of_lt_of_le hgl hHeld.2.2.2.2.2.2.2.2.1)).trans hHeld.2.2.2.1, (hb.cell (p := ⟨g', o' + k * 4, none⟩) (Nat.lt_of_lt_of_le hgl' hHeld.2.2.2.2.2.2.2.2.1)).trans hHeld.2.2.2.2.1, (hb.cell (p := ⟨g', o' + k * 4 + 1, none⟩) (Nat.lt_of_lt_of_le hgl' hHeld.2.2.2.2.2.2.2.2.1)).trans hHeld.2.2.2.2.2.1, (hb.cell (p := ⟨g', o' + k * 4 + 2, none⟩) (Nat.lt_of_lt_of_le hgl' hHeld.2.2.2.2.2.2.2.2.1)).trans hHeld.2.2.2.2.2.2.1, (hb.cell (p := ⟨g', o' + k * 4 + 3, none⟩) (Nat.lt_of_lt_of_le hgl' hHeld.2.2.2.2.2.2.2.2.1)).trans hHeld.2.2.2.2.2.2.2.1, Nat.le_trans hHeld.2.2.2.2.2.2.2.2.1 hb.size, hHeld.2.2.2.2.2.2.2.2.2.trans (hb.mono hHeld.2.2.2.2.2.2.2.2.1)⟩) (fun hHeld => ?_)
      clear hK K h
      refine tk 9 hHeld ?_
      refine rd0 ?_
      have HB2 := Lib.hid (HB.out.trans (hHeld.2.2.2.2.2.2.2.2.2.mono hsz))
      clear hHeld
      go_wp2
      go_roundw
      case rel => exact ⟨k + 1, by omega, by go_num, HB2.out⟩
      case measure => simp [intOf]; omega
    · clear hB
      go_wp2
      go_ret
      exact ⟨rfl, HB.out⟩
end Go.Proofs.YtelhmacfljffhaaGreat.RepC
end
section
namespace Go.Proofs.YtelhmacfljffhaaGreat.RepC
open Go.RowKit RowC ValC
set_option linter.unusedVariables false
set_option linter.unusedSimpArgs false
abbrev D_Task : Type := (D_Label) × (Int) × (ByteArray) × (Int) × (Int) × (Int) × (D_Label) × (Int) × (Int) × (Int) × (Int) × (List (Int))
def R_Task : Rp D_Task := (Pr R_Label (Pr I (Pr St (Pr I (Pr I (Pr I (Pr R_Label (Pr I (Pr I (Pr I (Pr I (Sl I))))))))))))
theorem R_Task_ok : Ok R_Task := (Pr_ok R_Label_ok (Pr_ok I_ok (Pr_ok St_ok (Pr_ok I_ok (Pr_ok I_ok (Pr_ok I_ok (Pr_ok R_Label_ok (Pr_ok I_ok (Pr_ok I_ok (Pr_ok I_ok (Pr_ok I_ok (Sl_ok I_ok))))))))))))
theorem rd_Task {W : World} {B : Nat} {x0 : Int} {x1 : Int} {x2 : Int} {x3 : ByteArray} {x4 : Int} {x5 : Int} {x6 : Int} {x7 : Int} {x8 : Int} {x9 : Int} {x10 : Int} {x11 : Int} {x12 : Int} {L0 : List (Int)} {cs : List Value} (h : R_Task.rd W B ((x0, x1), x2, x3, x4, x5, x6, (x7, x8), x9, x10, x11, x12, L0) cs) : ∃ a0 c0, cs = [.int .i64 x0, .int .i64 x1, .int .i64 x2, .string x3, .int .i64 x4, .int .i64 x5, .int .i64 x6, .int .i64 x7, .int .i64 x8, .int .i64 x9, .int .i64 x10, .int .i64 x11, .int .i64 x12, .slice a0 L0.length c0] ∧ RdSl I W B L0 a0 c0 ∧ x3.size ≤ maxLen := by
  obtain ⟨u1, v1, rfl, h1, g1⟩ := h
  obtain ⟨u2, v2, rfl, h2, g2⟩ := h1
  obtain rfl : u2 = [_] := h2
  obtain rfl : v2 = [_] := g2
  obtain ⟨u3, v3, rfl, h3, g3⟩ := g1
  obtain rfl : u3 = [_] := h3
  obtain ⟨u4, v4, rfl, h4, g4⟩ := g3
  obtain ⟨hq_x3, b_x3⟩ := h4
  obtain rfl : u4 = [_] := hq_x3
  obtain ⟨u5, v5, rfl, h5, g5⟩ := g4
  obtain rfl : u5 = [_] := h5
  obtain ⟨u6, v6, rfl, h6, g6⟩ := g5
  obtain rfl : u6 = [_] := h6
  obtain ⟨u7, v7, rfl, h7, g7⟩ := g6
  obtain rfl : u7 = [_] := h7
  obtain ⟨u8, v8, rfl, h8, g8⟩ := g7
  obtain ⟨u9, v9, rfl, h9, g9⟩ := h8
  obtain rfl : u9 = [_] := h9
  obtain rfl : v9 = [_] := g9
  obtain ⟨u10, v10, rfl, h10, g10⟩ := g8
  obtain rfl : u10 = [_] := h10
  obtain ⟨u11, v11, rfl, h11, g11⟩ := g10
  obtain rfl : u11 = [_] := h11
  obtain ⟨u12, v12, rfl, h12, g12⟩ := g11
  obtain rfl : u12 = [_] := h12
  obtain ⟨u13, v13, rfl, h13, g13⟩ := g12
  obtain rfl : u13 = [_] := h13
  obtain ⟨a0, c0, rfl, k_L0⟩ := g13
  exact ⟨a0, c0, rfl, k_L0, b_x3⟩
theorem mkow_Task {W : World} {S : Nat → Prop} {x0 : Int} {x1 : Int} {x2 : Int} {x3 : ByteArray} {x4 : Int} {x5 : Int} {x6 : Int} {x7 : Int} {x8 : Int} {x9 : Int} {x10 : Int} {x11 : Int} {x12 : Int} {L0 : List (Int)} {a0 : Option Addr} {c0 : Nat} {T0 : Nat → Prop} (hs0 : ∀ k, T0 k → S k) (h_L0 : OwSl I W T0 L0 a0 c0) (b_x3 : x3.size ≤ maxLen) : R_Task.ow W S ((x0, x1), x2, x3, x4, x5, x6, (x7, x8), x9, x10, x11, x12, L0) [.int .i64 x0, .int .i64 x1, .int .i64 x2, .string x3, .int .i64 x4, .int .i64 x5, .int .i64 x6, .int .i64 x7, .int .i64 x8, .int .i64 x9, .int .i64 x10, .int .i64 x11, .int .i64 x12, .slice a0 L0.length c0] := ⟨[.int .i64 x0, .int .i64 x1], [.int .i64 x2, .string x3, .int .i64 x4, .int .i64 x5, .int .i64 x6, .int .i64 x7, .int .i64 x8, .int .i64 x9, .int .i64 x10, .int .i64 x11, .int .i64 x12, .slice a0 L0.length c0], (fun _ => False), T0, rfl, (fun k h => h.elim), (fun k h => hs0 k h), (fun k h h' => h.elim), ⟨[.int .i64 x0], [.int .i64 x1], (fun _ => False), (fun _ => False), rfl, (fun k h => h.elim), (fun k h => h.elim), (fun k h h' => h.elim), rfl, rfl⟩, ⟨[.int .i64 x2], [.string x3, .int .i64 x4, .int .i64 x5, .int .i64 x6, .int .i64 x7, .int .i64 x8, .int .i64 x9, .int .i64 x10, .int .i64 x11, .int .i64 x12, .slice a0 L0.length c0], (fun _ => False), T0, rfl, (fun k h => h.elim), (fun k h => h), (fun k h h' => h.elim), rfl, ⟨[.string x3], [.int .i64 x4, .int .i64 x5, .int .i64 x6, .int .i64 x7, .int .i64 x8, .int .i64 x9, .int .i64 x10, .int .i64 x11, .int .i64 x12, .slice a0 L0.length c0], (fun _ => False), T0, rfl, (fun k h => h.elim), (fun k h => h), (fun k h h' => h.elim), ⟨rfl, b_x3⟩, ⟨[.int .i64 x4], [.int .i64 x5, .int .i64 x6, .int .i64 x7, .int .i64 x8, .int .i64 x9, .int .i64 x10, .int .i64 x11, .int .i64 x12, .slice a0 L0.length c0], (fun _ => False), T0, rfl, (fun k h => h.elim), (fun k h => h), (fun k h h' => h.elim), rfl, ⟨[.int .i64 x5], [.int .i64 x6, .int .i64 x7, .int .i64 x8, .int .i64 x9, .int .i64 x10, .int .i64 x11, .int .i64 x12, .slice a0 L0.length c0], (fun _ => False), T0, rfl, (fun k h => h.elim), (fun k h => h), (fun k h h' => h.elim), rfl, ⟨[.int .i64 x6], [.int .i64 x7, .int .i64 x8, .int .i64 x9, .int .i64 x10, .int .i64 x11, .int .i64 x12, .slice a0 L0.length c0], (fun _ => False), T0, rfl, (fun k h => h.elim), (fun k h => h), (fun k h h' => h.elim), rfl, ⟨[.int .i64 x7, .int .i64 x8], [.int .i64 x9, .int .i64 x10, .int .i64 x11, .int .i64 x12, .slice a0 L0.length c0], (fun _ => False), T0, rfl, (fun k h => h.elim), (fun k h => h), (fun k h h' => h.elim), ⟨[.int .i64 x7], [.int .i64 x8], (fun _ => False), (fun _ => False), rfl, (fun k h => h.elim), (fun k h => h.elim), (fun k h h' => h.elim), rfl, rfl⟩, ⟨[.int .i64 x9], [.int .i64 x10, .int .i64 x11, .int .i64 x12, .slice a0 L0.length c0], (fun _ => False), T0, rfl, (fun k h => h.elim), (fun k h => h), (fun k h h' => h.elim), rfl, ⟨[.int .i64 x10], [.int .i64 x11, .int .i64 x12, .slice a0 L0.length c0], (fun _ => False), T0, rfl, (fun k h => h.elim), (fun k h => h), (fun k h h' => h.elim), rfl, ⟨[.int .i64 x11], [.int .i64 x12, .slice a0 L0.length c0], (fun _ => False), T0, rfl, (fun k h => h.elim), (fun k h => h), (fun k h h' => h.elim), rfl, ⟨[.int .i64 x12], [.slice a0 L0.length c0], (fun _ => False), T0, rfl, (fun k h => h.elim), (fun k h => h), (fun k h h' => h.elim), rfl, ⟨a0, c0, rfl, h_L0⟩⟩⟩⟩⟩⟩⟩⟩⟩⟩⟩⟩
theorem ow_Task {W : World} {S : Nat → Prop} {x0 : Int} {x1 : Int} {x2 : Int} {x3 : ByteArray} {x4 : Int} {x5 : Int} {x6 : Int} {x7 : Int} {x8 : Int} {x9 : Int} {x10 : Int} {x11 : Int} {x12 : Int} {L0 : List (Int)} {cs : List Value} (h : R_Task.ow W S ((x0, x1), x2, x3, x4, x5, x6, (x7, x8), x9, x10, x11, x12, L0) cs) : ∃ a0 c0, ∃ T0 : Nat → Prop, cs = [.int .i64 x0, .int .i64 x1, .int .i64 x2, .string x3, .int .i64 x4, .int .i64 x5, .int .i64 x6, .int .i64 x7, .int .i64 x8, .int .i64 x9, .int .i64 x10, .int .i64 x11, .int .i64 x12, .slice a0 L0.length c0] ∧ (∀ k, T0 k → S k) ∧ OwSl I W T0 L0 a0 c0 ∧ x3.size ≤ maxLen := by
  obtain ⟨u1, v1, A1, B1, rfl, sa1, sb1, dd1, h1, g1⟩ := h
  obtain ⟨u2, v2, A2, B2, rfl, sa2, sb2, dd2, h2, g2⟩ := h1
  obtain rfl : u2 = [_] := h2
  obtain rfl : v2 = [_] := g2
  obtain ⟨u3, v3, A3, B3, rfl, sa3, sb3, dd3, h3, g3⟩ := g1
  obtain rfl : u3 = [_] := h3
  obtain ⟨u4, v4, A4, B4, rfl, sa4, sb4, dd4, h4, g4⟩ := g3
  obtain ⟨hq_x3, b_x3⟩ := h4
  obtain rfl : u4 = [_] := hq_x3
  obtain ⟨u5, v5, A5, B5, rfl, sa5, sb5, dd5, h5, g5⟩ := g4
  obtain rfl : u5 = [_] := h5
  obtain ⟨u6, v6, A6, B6, rfl, sa6, sb6, dd6, h6, g6⟩ := g5
  obtain rfl : u6 = [_] := h6
  obtain ⟨u7, v7, A7, B7, rfl, sa7, sb7, dd7, h7, g7⟩ := g6
  obtain rfl : u7 = [_] := h7
  obtain ⟨u8, v8, A8, B8, rfl, sa8, sb8, dd8, h8, g8⟩ := g7
  obtain ⟨u9, v9, A9, B9, rfl, sa9, sb9, dd9, h9, g9⟩ := h8
  obtain rfl : u9 = [_] := h9
  obtain rfl : v9 = [_] := g9
  obtain ⟨u10, v10, A10, B10, rfl, sa10, sb10, dd10, h10, g10⟩ := g8
  obtain rfl : u10 = [_] := h10
  obtain ⟨u11, v11, A11, B11, rfl, sa11, sb11, dd11, h11, g11⟩ := g10
  obtain rfl : u11 = [_] := h11
  obtain ⟨u12, v12, A12, B12, rfl, sa12, sb12, dd12, h12, g12⟩ := g11
  obtain rfl : u12 = [_] := h12
  obtain ⟨u13, v13, A13, B13, rfl, sa13, sb13, dd13, h13, g13⟩ := g12
  obtain rfl : u13 = [_] := h13
  obtain ⟨a0, c0, rfl, k_L0⟩ := g13
  exact ⟨a0, c0, B13, rfl, fun k h => sb1 k (sb3 k (sb4 k (sb5 k (sb6 k (sb7 k (sb8 k (sb10 k (sb11 k (sb12 k (sb13 k (h))))))))))), k_L0, b_x3⟩
set_option maxRecDepth 100000 in
set_option maxHeartbeats 3200000 in
theorem eq_Task {x0 : Int} {x1 : Int} {x2 : Int} {x3 : ByteArray} {x4 : Int} {x5 : Int} {x6 : Int} {x7 : Int} {x8 : Int} {x9 : Int} {x10 : Int} {x11 : Int} {x12 : Int} {L0 : List (Int)} {a0 : Option Addr} {c0 : Nat} {a0' : Option Addr} {c0' : Nat} {W : World} (h_L0 : RdSl I W W.heap.size L0 a0 c0) (h'_L0 : RdSl I W W.heap.size L0 a0' c0') : Calls Tryz.prog 108 #[.agg #[.int .i64 x0, .int .i64 x1, .int .i64 x2, .string x3, .int .i64 x4, .int .i64 x5, .int .i64 x6, .int .i64 x7, .int .i64 x8, .int .i64 x9, .int .i64 x10, .int .i64 x11, .int .i64 x12, .slice a0 L0.length c0], .agg #[.int .i64 x0, .int .i64 x1, .int .i64 x2, .string x3, .int .i64 x4, .int .i64 x5, .int .i64 x6, .int .i64 x7, .int .i64 x8, .int .i64 x9, .int .i64 x10, .int .i64 x11, .int .i64 x12, .slice a0' L0.length c0']] W (IsB true W) := by
  have H_L0 := Lib.hid h_L0
  have H'_L0 := Lib.hid h'_L0
  clear h_L0 h'_L0
  have HB0 := Lib.hid (show Below W.heap.size W ((W.alloc (.cells #[.int .i64 x0, .int .i64 x1, .int .i64 x2, .string x3, .int .i64 x4, .int .i64 x5, .int .i64 x6, .int .i64 x7, .int .i64 x8, .int .i64 x9, .int .i64 x10, .int .i64 x11, .int .i64 x12, .slice a0 L0.length c0] 70)).alloc (.cells #[.int .i64 x0, .int .i64 x1, .int .i64 x2, .string x3, .int .i64 x4, .int .i64 x5, .int .i64 x6, .int .i64 x7, .int .i64 x8, .int .i64 x9, .int .i64 x10, .int .i64 x11, .int .i64 x12, .slice a0' L0.length c0'] 70)) from ((Below.refl _ _).alloc (Nat.le_refl _) _).alloc (by simp) _)
  have hP := (Blk.new W 70 #[.int .i64 x0, .int .i64 x1, .int .i64 x2, .string x3, .int .i64 x4, .int .i64 x5, .int .i64 x6, .int .i64 x7, .int .i64 x8, .int .i64 x9, .int .i64 x10, .int .i64 x11, .int .i64 x12, .slice a0 L0.length c0]).alloc (.cells #[.int .i64 x0, .int .i64 x1, .int .i64 x2, .string x3, .int .i64 x4, .int .i64 x5, .int .i64 x6, .int .i64 x7, .int .i64 x8, .int .i64 x9, .int .i64 x10, .int .i64 x11, .int .i64 x12, .slice a0' L0.length c0'] 70)
  have hQ := Blk.new (W.alloc (.cells #[.int .i64 x0, .int .i64 x1, .int .i64 x2, .string x3, .int .i64 x4, .int .i64 x5, .int .i64 x6, .int .i64 x7, .int .i64 x8, .int .i64 x9, .int .i64 x10, .int .i64 x11, .int .i64 x12, .slice a0 L0.length c0] 70)) 70 #[.int .i64 x0, .int .i64 x1, .int .i64 x2, .string x3, .int .i64 x4, .int .i64 x5, .int .i64 x6, .int .i64 x7, .int .i64 x8, .int .i64 x9, .int .i64 x10, .int .i64 x11, .int .i64 x12, .slice a0' L0.length c0']
  simp only [World.size_alloc] at hP hQ
  have HP0 := Lib.hid hP
  have HQ0 := Lib.hid hQ
  have hz0 : W.heap.size ≤ ((W.alloc (.cells #[.int .i64 x0, .int .i64 x1, .int .i64 x2, .string x3, .int .i64 x4, .int .i64 x5, .int .i64 x6, .int .i64 x7, .int .i64 x8, .int .i64 x9, .int .i64 x10, .int .i64 x11, .int .i64 x12, .slice a0 L0.length c0] 70)).alloc (.cells #[.int .i64 x0, .int .i64 x1, .int .i64 x2, .string x3, .int .i64 x4, .int .i64 x5, .int .i64 x6, .int .i64 x7, .int .i64 x8, .int .i64 x9, .int .i64 x10, .int .i64 x11, .int .i64 x12, .slice a0' L0.length c0'] 70)).heap.size := HB0.out.size
  clear hP hQ
  go_enter Tryz.func108, Tryz.ntmps108
  go_wp2_with fail
  refine (eq_Label).mono ?_
  intro e w1 h
  obtain ⟨rfl, hb⟩ := isB_elim h
  have HP1 := Lib.hid (HP0.out.call hb)
  have HQ1 := Lib.hid (HQ0.out.call hb)
  have HB1 := Lib.hid (HB0.out.trans (hb.mono hz0))
  have hz1 : W.heap.size ≤ w1.heap.size := HB1.out.size
  clear h hb
  have p1_2 := HP1.out.at_ 2 rfl
  have q1_2 := HQ1.out.at_ 2 rfl
  have p1_3 := HP1.out.at_ 3 rfl
  have q1_3 := HQ1.out.at_ 3 rfl
  have p1_4 := HP1.out.at_ 4 rfl
  have q1_4 := HQ1.out.at_ 4 rfl
  have p1_5 := HP1.out.at_ 5 rfl
  have q1_5 := HQ1.out.at_ 5 rfl
  have p1_6 := HP1.out.at_ 6 rfl
  have q1_6 := HQ1.out.at_ 6 rfl
  have p1_7 := HP1.out.at_ 7 rfl
  have q1_7 := HQ1.out.at_ 7 rfl
  have p1_8 := HP1.out.at_ 8 rfl
  have q1_8 := HQ1.out.at_ 8 rfl
  have p1_9 := HP1.out.at_ 9 rfl
  have q1_9 := HQ1.out.at_ 9 rfl
  have p1_10 := HP1.out.at_ 10 rfl
  have q1_10 := HQ1.out.at_ 10 rfl
  have p1_11 := HP1.out.at_ 11 rfl
  have q1_11 := HQ1.out.at_ 11 rfl
  have p1_12 := HP1.out.at_ 12 rfl
  have q1_12 := HQ1.out.at_ 12 rfl
  have p1_13 := HP1.out.at_ 13 rfl
  have q1_13 := HQ1.out.at_ 13 rfl
  go_wp2_with fail
  refine (eq_Label).mono ?_
  intro e w2 h
  obtain ⟨rfl, hb⟩ := isB_elim h
  have HP2 := Lib.hid (HP1.out.call hb)
  have HQ2 := Lib.hid (HQ1.out.call hb)
  have HB2 := Lib.hid (HB1.out.trans (hb.mono hz1))
  have hz2 : W.heap.size ≤ w2.heap.size := HB2.out.size
  clear h hb
  clear p1_2 q1_2 p1_3 q1_3 p1_4 q1_4 p1_5 q1_5 p1_6 q1_6 p1_7 q1_7 p1_8 q1_8 p1_9 q1_9 p1_10 q1_10 p1_11 q1_11 p1_12 q1_12 p1_13 q1_13
  have p2_9 := HP2.out.at_ 9 rfl
  have q2_9 := HQ2.out.at_ 9 rfl
  have p2_10 := HP2.out.at_ 10 rfl
  have q2_10 := HQ2.out.at_ 10 rfl
  have p2_11 := HP2.out.at_ 11 rfl
  have q2_11 := HQ2.out.at_ 11 rfl
  have p2_12 := HP2.out.at_ 12 rfl
  have q2_12 := HQ2.out.at_ 12 rfl
  have p2_13 := HP2.out.at_ 13 rfl
  have q2_13 := HQ2.out.at_ 13 rfl
  go_wp2_with fail
  refine (eq_Int64S ((H_L0.out.below I_ok HB2.out).more I_ok hz2) ((H'_L0.out.below I_ok HB2.out).more I_ok hz2)).mono ?_
  intro e w3 h
  obtain ⟨rfl, hb⟩ := isB_elim h
  have HP3 := Lib.hid (HP2.out.call hb)
  have HQ3 := Lib.hid (HQ2.out.call hb)
  have HB3 := Lib.hid (HB2.out.trans (hb.mono hz2))
  have hz3 : W.heap.size ≤ w3.heap.size := HB3.out.size
  clear h hb
  clear p2_9 q2_9 p2_10 q2_10 p2_11 q2_11 p2_12 q2_12 p2_13 q2_13
  go_wp2
  all_goals
    go_ret
    exact ⟨rfl, HB3.out⟩
theorem sizeq_TaskS : (R_Task).size = 14 := rfl
set_option maxRecDepth 100000 in
set_option maxHeartbeats 3200000 in
theorem eq_TaskS {L : List (D_Task)} {a a' : Option Addr} {cap cap' : Nat} {W : World} (h : RdSl R_Task W W.heap.size L a cap) (h' : RdSl R_Task W W.heap.size L a' cap') : Calls Tryz.prog 43 #[.slice a L.length cap, .slice a' L.length cap'] W (IsB true W) := by
  have hn : L.length ≤ 9223372036854775807 := by have h1 := h.1; have h2 := h.2.1; unfold maxLen at h2; omega
  have H := Lib.hid h
  have H' := Lib.hid h'
  clear h h'
  go_enter Tryz.func43, Tryz.ntmps43
  go_wp2
  go_loopw [5] (fun i wr => ∃ k : Nat, k ≤ L.length ∧ i = .int .i64 k ∧ Below W.heap.size W wr) (fun i _ => L.length - (intOf i).toNat)
  case atStart => exact ⟨0, Nat.zero_le _, rfl, Below.refl _ _⟩
  case round =>
    obtain ⟨k, hk, rfl, hB⟩ := hrel
    have HB := Lib.hid hB
    have hsz := hB.size
    by_cases hlt : k < L.length
    · obtain ⟨⟨⟨x0, x1⟩, x2, x3, x4, x5, x6, ⟨x7, x8⟩, x9, x10, x11, x12, L0⟩, hx⟩ := el_some hlt
      have HX := Lib.hid hx
      obtain ⟨g, o, us, rfl, hg, hu, hr⟩ := (H.out.below R_Task_ok hB).at_ hx
      obtain ⟨g', o', vs, rfl, hg', hu', hr'⟩ := (H'.out.below R_Task_ok hB).at_ hx
      obtain ⟨a0, c0, rfl, k_L0, b_x3⟩ := rd_Task hr
      obtain ⟨a0', c0', rfl, k'_L0, b'_x3⟩ := rd_Task hr'
      have e0 : wr.cell? ⟨g, o + k * 14, none⟩ = some (.int .i64 x0) := by simpa [sizeq_TaskS, Nat.add_assoc] using hu 0 _ rfl
      have d0 : wr.cell? ⟨g', o' + k * 14, none⟩ = some (.int .i64 x0) := by simpa [sizeq_TaskS, Nat.add_assoc] using hu' 0 _ rfl
      have e1 : wr.cell? ⟨g, o + k * 14 + 1, none⟩ = some (.int .i64 x1) := by simpa [sizeq_TaskS, Nat.add_assoc] using hu 1 _ rfl
      have d1 : wr.cell? ⟨g', o' + k * 14 + 1, none⟩ = some (.int .i64 x1) := by simpa [sizeq_TaskS, Nat.add_assoc] using hu' 1 _ rfl
      have e2 : wr.cell? ⟨g, o + k * 14 + 2, none⟩ = some (.int .i64 x2) := by simpa [sizeq_TaskS, Nat.add_assoc] using hu 2 _ rfl
      have d2 : wr.cell? ⟨g', o' + k * 14 + 2, none⟩ = some (.int .i64 x2) := by simpa [sizeq_TaskS, Nat.add_assoc] using hu' 2 _ rfl
      have e3 : wr.cell? ⟨g, o + k * 14 + 3, none⟩ = some (.string x3) := by simpa [sizeq_TaskS, Nat.add_assoc] using hu 3 _ rfl
      have d3 : wr.cell? ⟨g', o' + k * 14 + 3, none⟩ = some (.string x3) := by simpa [sizeq_TaskS, Nat.add_assoc] using hu' 3 _ rfl
      have e4 : wr.cell? ⟨g, o + k * 14 + 4, none⟩ = some (.int .i64 x4) := by simpa [sizeq_TaskS, Nat.add_assoc] using hu 4 _ rfl
      have d4 : wr.cell? ⟨g', o' + k * 14 + 4, none⟩ = some (.int .i64 x4) := by simpa [sizeq_TaskS, Nat.add_assoc] using hu' 4 _ rfl
      have e5 : wr.cell? ⟨g, o + k * 14 + 5, none⟩ = some (.int .i64 x5) := by simpa [sizeq_TaskS, Nat.add_assoc] using hu 5 _ rfl
      have d5 : wr.cell? ⟨g', o' + k * 14 + 5, none⟩ = some (.int .i64 x5) := by simpa [sizeq_TaskS, Nat.add_assoc] using hu' 5 _ rfl
      have e6 : wr.cell? ⟨g, o + k * 14 + 6, none⟩ = some (.int .i64 x6) := by simpa [sizeq_TaskS, Nat.add_assoc] using hu 6 _ rfl
      have d6 : wr.cell? ⟨g', o' + k * 14 + 6, none⟩ = some (.int .i64 x6) := by simpa [sizeq_TaskS, Nat.add_assoc] using hu' 6 _ rfl
      have e7 : wr.cell? ⟨g, o + k * 14 + 7, none⟩ = some (.int .i64 x7) := by simpa [sizeq_TaskS, Nat.add_assoc] using hu 7 _ rfl
      have d7 : wr.cell? ⟨g', o' + k * 14 + 7, none⟩ = some (.int .i64 x7) := by simpa [sizeq_TaskS, Nat.add_assoc] using hu' 7 _ rfl
      have e8 : wr.cell? ⟨g, o + k * 14 + 8, none⟩ = some (.int .i64 x8) := by simpa [sizeq_TaskS, Nat.add_assoc] using hu 8 _ rfl
      have d8 : wr.cell? ⟨g', o' + k * 14 + 8, none⟩ = some (.int .i64 x8) := by simpa [sizeq_TaskS, Nat.add_assoc] using hu' 8 _ rfl
      have e9 : wr.cell? ⟨g, o + k * 14 + 9, none⟩ = some (.int .i64 x9) := by simpa [sizeq_TaskS, Nat.add_assoc] using hu 9 _ rfl
      have d9 : wr.cell? ⟨g', o' + k * 14 + 9, none⟩ = some (.int .i64 x9) := by simpa [sizeq_TaskS, Nat.add_assoc] using hu' 9 _ rfl
      have e10 : wr.cell? ⟨g, o + k * 14 + 10, none⟩ = some (.int .i64 x10) := by simpa [sizeq_TaskS, Nat.add_assoc] using hu 10 _ rfl
      have d10 : wr.cell? ⟨g', o' + k * 14 + 10, none⟩ = some (.int .i64 x10) := by simpa [sizeq_TaskS, Nat.add_assoc] using hu' 10 _ rfl
      have e11 : wr.cell? ⟨g, o + k * 14 + 11, none⟩ = some (.int .i64 x11) := by simpa [sizeq_TaskS, Nat.add_assoc] using hu 11 _ rfl
      have d11 : wr.cell? ⟨g', o' + k * 14 + 11, none⟩ = some (.int .i64 x11) := by simpa [sizeq_TaskS, Nat.add_assoc] using hu' 11 _ rfl
      have e12 : wr.cell? ⟨g, o + k * 14 + 12, none⟩ = some (.int .i64 x12) := by simpa [sizeq_TaskS, Nat.add_assoc] using hu 12 _ rfl
      have d12 : wr.cell? ⟨g', o' + k * 14 + 12, none⟩ = some (.int .i64 x12) := by simpa [sizeq_TaskS, Nat.add_assoc] using hu' 12 _ rfl
      have e13 : wr.cell? ⟨g, o + k * 14 + 13, none⟩ = some (.slice a0 L0.length c0) := by simpa [sizeq_TaskS, Nat.add_assoc] using hu 13 _ rfl
      have d13 : wr.cell? ⟨g', o' + k * 14 + 13, none⟩ = some (.slice a0' L0.length c0') := by simpa [sizeq_TaskS, Nat.add_assoc] using hu' 13 _ rfl
      have hi0 : (0 : Int) ≤ (k : Int) := Int.natCast_nonneg _
      have hi1 : (k : Int) < (L.length : Int) := by omega
      have hgl : g < wr.heap.size := Nat.lt_of_lt_of_le hg hsz
      have hgl' : g' < wr.heap.size := Nat.lt_of_lt_of_le hg' hsz
      have K_L0 := Lib.hid (k_L0.more I_ok hsz)
      have K'_L0 := Lib.hid (k'_L0.more I_ok hsz)
      clear hB hx hu hu' k_L0 k'_L0
      go_wp2_with fail
      refine wp_region_held_drew (S := (fun W => W.cell? ⟨g, o + k * 14, none⟩ = some (.int .i64 x0) ∧ W.cell? ⟨g, o + k * 14 + 1, none⟩ = some (.int .i64 x1) ∧ W.cell? ⟨g, o + k * 14 + 2, none⟩ = some (.int .i64 x2) ∧ W.cell? ⟨g, o + k * 14 + 3, none⟩ = some (.string x3) ∧ W.cell? ⟨g, o + k * 14 + 4, none⟩ = some (.int .i64 x4) ∧ W.cell? ⟨g, o + k * 14 + 5, none⟩ = some (.int .i64 x5) ∧ W.cell? ⟨g, o + k * 14 + 6, none⟩ = some (.int .i64 x6) ∧ W.cell? ⟨g, o + k * 14 + 7, none⟩ = some (.int .i64 x7) ∧ W.cell? ⟨g, o + k * 14 + 8, none⟩ = some (.int .i64 x8) ∧ W.cell? ⟨g, o + k * 14 + 9, none⟩ = some (.int .i64 x9) ∧ W.cell? ⟨g, o + k * 14 + 10, none⟩ = some (.int .i64 x10) ∧ W.cell? ⟨g, o + k * 14 + 11, none⟩ = some (.int .i64 x11) ∧ W.cell? ⟨g, o + k * 14 + 12, none⟩ = some (.int .i64 x12) ∧ W.cell? ⟨g, o + k * 14 + 13, none⟩ = some (.slice a0 L0.length c0) ∧ W.cell? ⟨g', o' + k * 14, none⟩ = some (.int .i64 x0) ∧ W.cell? ⟨g', o' + k * 14 + 1, none⟩ = some (.int .i64 x1) ∧ W.cell? ⟨g', o' + k * 14 + 2, none⟩ = some (.int .i64 x2) ∧ W.cell? ⟨g', o' + k * 14 + 3, none⟩ = some (.string x3) ∧ W.cell? ⟨g', o' + k * 14 + 4, none⟩ = some (.int .i64 x4) ∧ W.cell? ⟨g', o' + k * 14 + 5, none⟩ = some (.int .i64 x5) ∧ W.cell? ⟨g', o' + k * 14 + 6, none⟩ = some (.int .i64 x6) ∧ W.cell? ⟨g', o' + k * 14 + 7, none⟩ = some (.int .i64 x7) ∧ W.cell? ⟨g', o' + k * 14 + 8, none⟩ = some (.int .i64 x8) ∧ W.cell? ⟨g', o' + k * 14 + 9, none⟩ = some (.int .i64 x9) ∧ W.cell? ⟨g', o' + k * 14 + 10, none⟩ = some (.int .i64 x10) ∧ W.cell? ⟨g', o' + k * 14 + 11, none⟩ = some (.int .i64 x11) ∧ W.cell? ⟨g', o' + k * 14 + 12, none⟩ = some (.int .i64 x12) ∧ W.cell? ⟨g', o' + k * 14 + 13, none⟩ = some (.slice a0' L0.length c0') ∧ wr.heap.size ≤ W.heap.size ∧ Below wr.heap.size wr W)) (by kernel_rfl) (⟨e0, e1, e2, e3, e4, e5, e6, e7, e8, e9, e10, e11, e12, e13, d0, d1, d2, d3, d4, d5, d6, d7, d8, d9, d10, d11, d12, d13, Nat.le_refl _, (Below.refl _ _).drew⟩) (fun hHeld => ?_)
      refine wpAnyH_take (i := 0) (v := ?hv1) rfl (by kernel_rfl) (by kernel_rfl) (by kernel_rfl) (fun _ _ _ h => h) (Or.inl ⟨by kernel_rfl, ?hy1⟩) hHeld ?hr1
      case hy1 => (intro w hSw; (try dsimp only at hSw); go_simp; try with_reducible rfl)
      refine wpAnyH_take (i := 1) (v := ?hv2) rfl (by kernel_rfl) (by kernel_rfl) (by kernel_rfl) (fun _ _ _ h => h) (Or.inl ⟨by kernel_rfl, ?hy2⟩) hHeld ?hr2
      case hy2 => (intro w hSw; (try dsimp only at hSw); go_simp; try with_reducible rfl)
      refine wpAnyH_take (i := 2) (v := ?hv3) rfl (by kernel_rfl) (by kernel_rfl) (by kernel_rfl) (fun _ _ _ h => h) (Or.inl ⟨by kernel_rfl, ?hy3⟩) hHeld ?hr3
      case hy3 => (intro w hSw; (try dsimp only at hSw); go_simp; try with_reducible rfl)
      refine wpAnyH_take (i := 3) (v := ?hv4) rfl (by kernel_rfl) (by kernel_rfl) (by kernel_rfl) (fun _ _ _ h => h) (Or.inl ⟨by kernel_rfl, ?hy4⟩) hHeld ?hr4
      case hy4 => (intro w hSw; (try dsimp only at hSw); go_simp; try with_reducible rfl)
      refine wpAnyH_take (i := 4) (v := ?hv5) rfl (by kernel_rfl) (by kernel_rfl) (by kernel_rfl) (fun _ _ _ h => h) (Or.inl ⟨by kernel_rfl, ?hy5⟩) hHeld ?hr5
      case hy5 => (intro w hSw; (try dsimp only at hSw); go_simp; try with_reducible rfl)
      refine wpAnyH_take (i := 5) (v := ?hv6) rfl (by kernel_rfl) (by kernel_rfl) (by kernel_rfl) (fun _ _ _ h => h) (Or.inl ⟨by kernel_rfl, ?hy6⟩) hHeld ?hr6
      case hy6 => (intro w hSw; (try dsimp only at hSw); go_simp; try with_reducible rfl)
      refine wpAnyH_take (i := 6) (v := ?hv7) rfl (by kernel_rfl) (by kernel_rfl) (by kernel_rfl) (fun _ _ _ h => h) (Or.inl ⟨by kernel_rfl, ?hy7⟩) hHeld ?hr7
      case hy7 => (intro w hSw; (try dsimp only at hSw); go_simp; try with_reducible rfl)
      refine wpAnyH_take (i := 7) (v := ?hv8) rfl (by kernel_rfl) (by kernel_rfl) (by kernel_rfl) (fun _ _ _ h => h) (Or.inl ⟨by kernel_rfl, ?hy8⟩) hHeld ?hr8
      case hy8 => (intro w hSw; (try dsimp only at hSw); go_simp; try with_reducible rfl)
      refine rd1 8 (fun K hK => ?_)
      go_simp
      refine (eq_Task ((K_L0.out.below I_ok (by exact hHeld.2.2.2.2.2.2.2.2.2.2.2.2.2.2.2.2.2.2.2.2.2.2.2.2.2.2.2.2.2)).more I_ok (by exact hHeld.2.2.2.2.2.2.2.2.2.2.2.2.2.2.2.2.2.2.2.2.2.2.2.2.2.2.2.2.1)) ((K'_L0.out.below I_ok (by exact hHeld.2.2.2.2.2.2.2.2.2.2.2.2.2.2.2.2.2.2.2.2.2.2.2.2.2.2.2.2.2)).more I_ok (by exact hHeld.2.2.2.2.2.2.2.2.2.2.2.2.2.2.2.2.2.2.2.2.2.2.2.2.2.2.2.2.1))).mono ?_
      intro e w1 h
      obtain ⟨rfl, hb⟩ := isB_elim h
      refine hK.out _ _ (⟨(hb.cell (p := ⟨g, o + k * 14, none⟩) (Nat.lt_of_lt_of_le hgl hHeld.2.2.2.2.2.2.2.2.2.2.2.2.2.2.2.2.2.2.2.2.2.2.2.2.2.2.2.2.1)).trans hHeld.1, (hb.cell (p := ⟨g, o + k * 14 + 1, none⟩) (Nat.lt_of_lt_of_le hgl hHeld.2.2.2.2.2.2.2.2.2.2.2.2.2.2.2.2.2.2.2.2.2.2.2.2.2.2.2.2.1)).trans hHeld.2.1, (hb.cell (p := ⟨g, o + k * 14 + 2, none⟩) (Nat.lt_of_lt_of_le hgl hHeld.2.2.2.2.2.2.2.2.2.2.2.2.2.2.2.2.2.2.2.2.2.2.2.2.2.2.2.2.1)).trans hHeld.2.2.1, (hb.cell (p := ⟨g, o + k * 14 + 3, none⟩) (Nat.lt_of_lt_of_le hgl hHeld.2.2.2.2.2.2.2.2.2.2.2.2.2.2.2.2.2.2.2.2.2.2.2.2.2.2.2.2.1)).trans hHeld.2.2.2.1, (hb.cell (p := ⟨g, o + k * 14 + 4, none⟩) (Nat.lt_of_lt_of_le hgl hHeld.2.2.2.2.2.2.2.2.2.2.2.2.2.2.2.2.2.2.2.2.2.2.2.2.2.2.2.2.1)).trans hHeld.2.2.2.2.1, (hb.cell (p := ⟨g, o + k * 14 + 5, none⟩) (Nat.lt_of_lt_of_le hgl hHeld.2.2.2.2.2.2.2.2.2.2.2.2.2.2.2.2.2.2.2.2.2.2.2.2.2.2.2.2.1)).trans hHeld.2.2.2.2.2.1, (hb.cell (p := ⟨g, o + k * 14 + 6, none⟩) (Nat.lt_of_lt_of_le hgl hHeld.2.2.2.2.2.2.2.2.2.2.2.2.2.2.2.2.2.2.2.2.2.2.2.2.2.2.2.2.1)).trans hHeld.2.2.2.2.2.2.1, (hb.cell (p := ⟨g, o + k * 14 + 7, none⟩) (Nat.lt_of_lt_of_le hgl hHeld.2.2.2.2.2.2.2.2.2.2.2.2.2.2.2.2.2.2.2.2.2.2.2.2.2.2.2.2.1)).trans hHeld.2.2.2.2.2.2.2.1, (hb.cell (p := ⟨g, o + k * 14 + 8, none⟩) (Nat.lt_of_lt_of_le hgl hHeld.2.2.2.2.2.2.2.2.2.2.2.2.2.2.2.2.2.2.2.2.2.2.2.2.2.2.2.2.1)).trans hHeld.2.2.2.2.2.2.2.2.1, (hb.cell (p := ⟨g, o + k * 14 + 9, none⟩) (Nat.lt_of_lt_of_le hgl hHeld.2.2.2.2.2.2.2.2.2.2.2.2.2.2.2.2.2.2.2.2.2.2.2.2.2.2.2.2.1)).trans hHeld.2.2.2.2.2.2.2.2.2.1, (hb.cell (p := ⟨g, o + k * 14 + 10, none⟩) (Nat.lt_of_lt_of_le hgl hHeld.2.2.2.2.2.2.2.2.2.2.2.2.2.2.2.2.2.2.2.2.2.2.2.2.2.2.2.2.1)).trans hHeld.2.2.2.2.2.2.2.2.2.2.1, (hb.cell (p := ⟨g, o + k * 14 + 11, none⟩) (Nat.lt_of_lt_of_le hgl hHeld.2.2.2.2.2.2.2.2.2.2.2.2.2.2.2.2.2.2.2.2.2.2.2.2.2.2.2.2.1)).trans hHeld.2.2.2.2.2.2.2.2.2.2.2.1, (hb.cell (p := ⟨g, o + k * 14 + 12, none⟩) (Nat.lt_of_lt_of_le hgl hHeld.2.2.2.2.2.2.2.2.2.2.2.2.2.2.2.2.2.2.2.2.2.2.2.2.2.2.2.2.1)).trans hHeld.2.2.2.2.2.2.2.2.2.2.2.2.1, (hb.cell (p := ⟨g, o + k * 14 + 13, none⟩) (Nat.lt_of_lt_of_le hgl hHeld.2.2.2.2.2.2.2.2.2.2.2.2.2.2.2.2.2.2.2.2.2.2.2.2.2.2.2.2.1)).trans hHeld.2.2.2.2.2.2.2.2.2.2.2.2.2.1, (hb.cell (p := ⟨g', o' + k * 14, none⟩) (Nat.lt_of_lt_of_le hgl' hHeld.2.2.2.2.2.2.2.2.2.2.2.2.2.2.2.2.2.2.2.2.2.2.2.2.2.2.2.2.1)).trans hHeld.2.2.2.2.2.2.2.2.2.2.2.2.2.2.1, (hb.cell (p := ⟨g', o' + k * 14 + 1, none⟩) (Nat.lt_of_lt_of_le hgl' hHeld.2.2.2.2.2.2.2.2.2.2.2.2.2.2.2.2.2.2.2.2.2.2.2.2.2.2.2.2.1)).trans hHeld.2.2.2.2.2.2.2.2.2.2.2.2.2.2.2.1, (hb.cell (p := ⟨g', o' + k * 14 + 2, none⟩) (Nat.lt_of_lt_of_le hgl' hHeld.2.2.2.2.2.2.2.2.2.2.2.2.2.2.2.2.2.2.2.2.2.2.2.2.2.2.2.2.1)).trans hHeld.2.2.2.2.2.2.2.2.2.2.2.2.2.2.2.2.1, (hb.cell (p := ⟨g', o' + k * 14 + 3, none⟩) (Nat.lt_of_lt_of_le hgl' hHeld.2.2.2.2.2.2.2.2.2.2.2.2.2.2.2.2.2.2.2.2.2.2.2.2.2.2.2.2.1)).trans hHeld.2.2.2.2.2.2.2.2.2.2.2.2.2.2.2.2.2.1, (hb.cell (p := ⟨g', o' + k * 14 + 4, none⟩) (Nat.lt_of_lt_of_le hgl' hHeld.2.2.2.2.2.2.2.2.2.2.2.2.2.2.2.2.2.2.2.2.2.2.2.2.2.2.2.2.1)).trans hHeld.2.2.2.2.2.2.2.2.2.2.2.2.2.2.2.2.2.2.1, (hb.cell (p := ⟨g', o' + k * 14 + 5, none⟩) (Nat.lt_of_lt_of_le hgl' hHeld.2.2.2.2.2.2.2.2.2.2.2.2.2.2.2.2.2.2.2.2.2.2.2.2.2.2.2.2.1)).trans hHeld.2.2.2.2.2.2.2.2.2.2.2.2.2.2.2.2.2.2.2.1, (hb.cell (p := ⟨g', o' + k * 14 + 6, none⟩) (Nat.lt_of_lt_of_le hgl' hHeld.2.2.2.2.2.2.2.2.2.2.2.2.2.2.2.2.2.2.2.2.2.2.2.2.2.2.2.2.1)).trans hHeld.2.2.2.2.2.2.2.2.2.2.2.2.2.2.2.2.2.2.2.2.1, (hb.cell (p := ⟨g', o' + k * 14 + 7, none⟩) (Nat.lt_of_lt_of_le hgl' hHeld.2.2.2.2.2.2.2.2.2.2.2.2.2.2.2.2.2.2.2.2.2.2.2.2.2.2.2.2.1)).trans hHeld.2.2.2.2.2.2.2.2.2.2.2.2.2.2.2.2.2.2.2.2.2.1, (hb.cell (p := ⟨g', o' + k * 14 + 8, none⟩) (Nat.lt_of_lt_of_le hgl' hHeld.2.2.2.2.2.2.2.2.2.2.2.2.2.2.2.2.2.2.2.2.2.2.2.2.2.2.2.2.1)).trans hHeld.2.2.2.2.2.2.2.2.2.2.2.2.2.2.2.2.2.2.2.2.2.2.1, (hb.cell (p := ⟨g', o' + k * 14 + 9, none⟩) (Nat.lt_of_lt_of_le hgl' hHeld.2.2.2.2.2.2.2.2.2.2.2.2.2.2.2.2.2.2.2.2.2.2.2.2.2.2.2.2.1)).trans hHeld.2.2.2.2.2.2.2.2.2.2.2.2.2.2.2.2.2.2.2.2.2.2.2.1, (hb.cell (p := ⟨g', o' + k * 14 + 10, none⟩) (Nat.lt_of_lt_of_le hgl' hHeld.2.2.2.2.2.2.2.2.2.2.2.2.2.2.2.2.2.2.2.2.2.2.2.2.2.2.2.2.1)).trans hHeld.2.2.2.2.2.2.2.2.2.2.2.2.2.2.2.2.2.2.2.2.2.2.2.2.1, (hb.cell (p := ⟨g', o' + k * 14 + 11, none⟩) (Nat.lt_of_lt_of_le hgl' hHeld.2.2.2.2.2.2.2.2.2.2.2.2.2.2.2.2.2.2.2.2.2.2.2.2.2.2.2.2.1)).trans hHeld.2.2.2.2.2.2.2.2.2.2.2.2.2.2.2.2.2.2.2.2.2.2.2.2.2.1, (hb.cell (p := ⟨g', o' + k * 14 + 12, none⟩) (Nat.lt_of_lt_of_le hgl' hHeld.2.2.2.2.2.2.2.2.2.2.2.2.2.2.2.2.2.2.2.2.2.2.2.2.2.2.2.2.1)).trans hHeld.2.2.2.2.2.2.2.2.2.2.2.2.2.2.2.2.2.2.2.2.2.2.2.2.2.2.1, (hb.cell (p := ⟨g', o' + k * 14 + 13, none⟩) (Nat.lt_of_lt_of_le hgl' hHeld.2.2.2.2.2.2.2.2.2.2.2.2.2.2.2.2.2.2.2.2.2.2.2.2.2.2.2.2.1)).trans hHeld.2.2.2.2.2.2.2.2.2.2.2.2.2.2.2.2.2.2.2.2.2.2.2.2.2.2.2.1, Nat.le_trans hHeld.2.2.2.2.2.2.2.2.2.2.2.2.2.2.2.2.2.2.2.2.2.2.2.2.2.2.2.2.1 hb.size, hHeld.2.2.2.2.2.2.2.2.2.2.2.2.2.2.2.2.2.2.2.2.2.2.2.2.2.2.2.2.2.trans (hb.mono hHeld.2.2.2.2.2.2.2.2.2.2.2.2.2.2.2.2.2.2.2.2.2.2.2.2.2.2.2.2.1)⟩) (fun hHeld => ?_)
      clear hK K h
      refine tk 9 hHeld ?_
      refine rd0 ?_
      have HB2 := Lib.hid (HB.out.trans (hHeld.2.2.2.2.2.2.2.2.2.2.2.2.2.2.2.2.2.2.2.2.2.2.2.2.2.2.2.2.2.mono hsz))
      clear hHeld
      go_wp2
      go_roundw
      case rel => exact ⟨k + 1, by omega, by go_num, HB2.out⟩
      case measure => simp [intOf]; omega
    · clear hB
      go_wp2
      go_ret
      exact ⟨rfl, HB.out⟩
end Go.Proofs.YtelhmacfljffhaaGreat.RepC
end
section
namespace Go.Proofs.YtelhmacfljffhaaGreat.RepC
open Go.RowKit RowC ValC
set_option linter.unusedVariables false
set_option linter.unusedSimpArgs false
abbrev D_Yard : Type := (D_Config) × (List (D_Node)) × (List (D_Task)) × (List (D_Use)) × (Int)
def R_Yard : Rp D_Yard := (Pr R_Config (Pr (Sl R_Node) (Pr (Sl R_Task) (Pr (Sl R_Use) I))))
theorem R_Yard_ok : Ok R_Yard := (Pr_ok R_Config_ok (Pr_ok (Sl_ok R_Node_ok) (Pr_ok (Sl_ok R_Task_ok) (Pr_ok (Sl_ok R_Use_ok) I_ok))))
abbrev D_YardOut : Type := (D_Yard) × (Int) × (Int)
def R_YardOut : Rp D_YardOut := (Pr R_Yard (Pr I I))
theorem R_YardOut_ok : Ok R_YardOut := (Pr_ok R_Yard_ok (Pr_ok I_ok I_ok))
theorem rd_YardOut {W : World} {B : Nat} {L0 : List (List (D_Label))} {L1 : List (D_Pair)} {L2 : List (D_Quota)} {x3 : Int} {L3 : List (D_Node)} {L4 : List (D_Task)} {L5 : List (D_Use)} {x7 : Int} {x8 : Int} {x9 : Int} {cs : List Value} (h : R_YardOut.rd W B (((L0, L1, L2, x3), L3, L4, L5, x7), x8, x9) cs) : ∃ a0 c0 a1 c1 a2 c2 a3 c3 a4 c4 a5 c5, cs = [.slice a0 L0.length c0, .slice a1 L1.length c1, .slice a2 L2.length c2, .int .i64 x3, .slice a3 L3.length c3, .slice a4 L4.length c4, .slice a5 L5.length c5, .int .i64 x7, .int .i64 x8, .int .i64 x9] ∧ RdSl (Sl R_Label) W B L0 a0 c0 ∧ RdSl R_Pair W B L1 a1 c1 ∧ RdSl R_Quota W B L2 a2 c2 ∧ RdSl R_Node W B L3 a3 c3 ∧ RdSl R_Task W B L4 a4 c4 ∧ RdSl R_Use W B L5 a5 c5 := by
  obtain ⟨u1, v1, rfl, h1, g1⟩ := h
  obtain ⟨u2, v2, rfl, h2, g2⟩ := h1
  obtain ⟨u3, v3, rfl, h3, g3⟩ := h2
  obtain ⟨a0, c0, rfl, k_L0⟩ := h3
  obtain ⟨u4, v4, rfl, h4, g4⟩ := g3
  obtain ⟨a1, c1, rfl, k_L1⟩ := h4
  obtain ⟨u5, v5, rfl, h5, g5⟩ := g4
  obtain ⟨a2, c2, rfl, k_L2⟩ := h5
  obtain rfl : v5 = [_] := g5
  obtain ⟨u6, v6, rfl, h6, g6⟩ := g2
  obtain ⟨a3, c3, rfl, k_L3⟩ := h6
  obtain ⟨u7, v7, rfl, h7, g7⟩ := g6
  obtain ⟨a4, c4, rfl, k_L4⟩ := h7
  obtain ⟨u8, v8, rfl, h8, g8⟩ := g7
  obtain ⟨a5, c5, rfl, k_L5⟩ := h8
  obtain rfl : v8 = [_] := g8
  obtain ⟨u9, v9, rfl, h9, g9⟩ := g1
  obtain rfl : u9 = [_] := h9
  obtain rfl : v9 = [_] := g9
  exact ⟨a0, c0, a1, c1, a2, c2, a3, c3, a4, c4, a5, c5, rfl, k_L0, k_L1, k_L2, k_L3, k_L4, k_L5⟩
theorem mkow_YardOut {W : World} {S : Nat → Prop} {L0 : List (List (D_Label))} {L1 : List (D_Pair)} {L2 : List (D_Quota)} {x3 : Int} {L3 : List (D_Node)} {L4 : List (D_Task)} {L5 : List (D_Use)} {x7 : Int} {x8 : Int} {x9 : Int} {a0 : Option Addr} {c0 : Nat} {a1 : Option Addr} {c1 : Nat} {a2 : Option Addr} {c2 : Nat} {a3 : Option Addr} {c3 : Nat} {a4 : Option Addr} {c4 : Nat} {a5 : Option Addr} {c5 : Nat} {T0 : Nat → Prop} {T1 : Nat → Prop} {T2 : Nat → Prop} {T3 : Nat → Prop} {T4 : Nat → Prop} {T5 : Nat → Prop} (hs0 : ∀ k, T0 k → S k) (hs1 : ∀ k, T1 k → S k) (hs2 : ∀ k, T2 k → S k) (hs3 : ∀ k, T3 k → S k) (hs4 : ∀ k, T4 k → S k) (hs5 : ∀ k, T5 k → S k) (hd0_1 : ∀ k, T0 k → ¬ T1 k) (hd0_2 : ∀ k, T0 k → ¬ T2 k) (hd0_3 : ∀ k, T0 k → ¬ T3 k) (hd0_4 : ∀ k, T0 k → ¬ T4 k) (hd0_5 : ∀ k, T0 k → ¬ T5 k) (hd1_2 : ∀ k, T1 k → ¬ T2 k) (hd1_3 : ∀ k, T1 k → ¬ T3 k) (hd1_4 : ∀ k, T1 k → ¬ T4 k) (hd1_5 : ∀ k, T1 k → ¬ T5 k) (hd2_3 : ∀ k, T2 k → ¬ T3 k) (hd2_4 : ∀ k, T2 k → ¬ T4 k) (hd2_5 : ∀ k, T2 k → ¬ T5 k) (hd3_4 : ∀ k, T3 k → ¬ T4 k) (hd3_5 : ∀ k, T3 k → ¬ T5 k) (hd4_5 : ∀ k, T4 k → ¬ T5 k) (h_L0 : OwSl (Sl R_Label) W T0 L0 a0 c0) (h_L1 : OwSl R_Pair W T1 L1 a1 c1) (h_L2 : OwSl R_Quota W T2 L2 a2 c2) (h_L3 : OwSl R_Node W T3 L3 a3 c3) (h_L4 : OwSl R_Task W T4 L4 a4 c4) (h_L5 : OwSl R_Use W T5 L5 a5 c5) : R_YardOut.ow W S (((L0, L1, L2, x3), L3, L4, L5, x7), x8, x9) [.slice a0 L0.length c0, .slice a1 L1.length c1, .slice a2 L2.length c2, .int .i64 x3, .slice a3 L3.length c3, .slice a4 L4.length c4, .slice a5 L5.length c5, .int .i64 x7, .int .i64 x8, .int .i64 x9] := ⟨[.slice a0 L0.length c0, .slice a1 L1.length c1, .slice a2 L2.length c2, .int .i64 x3, .slice a3 L3.length c3, .slice a4 L4.length c4, .slice a5 L5.length c5, .int .i64 x7], [.int .i64 x8, .int .i64 x9], (fun k => T0 k ∨ T1 k ∨ T2 k ∨ T3 k ∨ T4 k ∨ T5 k), (fun _ => False), rfl, (fun k h => by rcases h with h | h | h | h | h | h <;> first | exact hs0 k h | exact hs1 k h | exact hs2 k h | exact hs3 k h | exact hs4 k h | exact hs5 k h), (fun k h => h.elim), (fun k h h' => h'.elim), ⟨[.slice a0 L0.length c0, .slice a1 L1.length c1, .slice a2 L2.length c2, .int .i64 x3], [.slice a3 L3.length c3, .slice a4 L4.length c4, .slice a5 L5.length c5, .int .i64 x7], (fun k => T0 k ∨ T1 k ∨ T2 k), (fun k => T3 k ∨ T4 k ∨ T5 k), rfl, (fun k h => by rcases h with h | h | h <;> first | exact .inl h | exact .inr (.inl h) | exact .inr (.inr (.inl h))), (fun k h => by rcases h with h | h | h <;> first | exact .inr (.inr (.inr (.inl h))) | exact .inr (.inr (.inr (.inr (.inl h)))) | exact .inr (.inr (.inr (.inr (.inr (h)))))), (fun k h h' => by rcases h with h | h | h <;> rcases h' with h' | h' | h' <;> first | exact hd0_3 k h h' | exact hd0_4 k h h' | exact hd0_5 k h h' | exact hd1_3 k h h' | exact hd1_4 k h h' | exact hd1_5 k h h' | exact hd2_3 k h h' | exact hd2_4 k h h' | exact hd2_5 k h h'), ⟨[.slice a0 L0.length c0], [.slice a1 L1.length c1, .slice a2 L2.length c2, .int .i64 x3], T0, (fun k => T1 k ∨ T2 k), rfl, (fun k h => .inl h), (fun k h => by rcases h with h | h <;> first | exact .inr (.inl h) | exact .inr (.inr (h))), (fun k h h' => by rcases h' with h' | h' <;> first | exact hd0_1 k h h' | exact hd0_2 k h h'), ⟨a0, c0, rfl, h_L0⟩, ⟨[.slice a1 L1.length c1], [.slice a2 L2.length c2, .int .i64 x3], T1, T2, rfl, (fun k h => .inl h), (fun k h => .inr (h)), hd1_2, ⟨a1, c1, rfl, h_L1⟩, ⟨[.slice a2 L2.length c2], [.int .i64 x3], T2, (fun _ => False), rfl, (fun k h => h), (fun k h => h.elim), (fun k h h' => h'.elim), ⟨a2, c2, rfl, h_L2⟩, rfl⟩⟩⟩, ⟨[.slice a3 L3.length c3], [.slice a4 L4.length c4, .slice a5 L5.length c5, .int .i64 x7], T3, (fun k => T4 k ∨ T5 k), rfl, (fun k h => .inl h), (fun k h => by rcases h with h | h <;> first | exact .inr (.inl h) | exact .inr (.inr (h))), (fun k h h' => by rcases h' with h' | h' <;> first | exact hd3_4 k h h' | exact hd3_5 k h h'), ⟨a3, c3, rfl, h_L3⟩, ⟨[.slice a4 L4.length c4], [.slice a5 L5.length c5, .int .i64 x7], T4, T5, rfl, (fun k h => .inl h), (fun k h => .inr (h)), hd4_5, ⟨a4, c4, rfl, h_L4⟩, ⟨[.slice a5 L5.length c5], [.int .i64 x7], T5, (fun _ => False), rfl, (fun k h => h), (fun k h => h.elim), (fun k h h' => h'.elim), ⟨a5, c5, rfl, h_L5⟩, rfl⟩⟩⟩⟩, ⟨[.int .i64 x8], [.int .i64 x9], (fun _ => False), (fun _ => False), rfl, (fun k h => h.elim), (fun k h => h.elim), (fun k h h' => h.elim), rfl, rfl⟩⟩
theorem ow_YardOut {W : World} {S : Nat → Prop} {L0 : List (List (D_Label))} {L1 : List (D_Pair)} {L2 : List (D_Quota)} {x3 : Int} {L3 : List (D_Node)} {L4 : List (D_Task)} {L5 : List (D_Use)} {x7 : Int} {x8 : Int} {x9 : Int} {cs : List Value} (h : R_YardOut.ow W S (((L0, L1, L2, x3), L3, L4, L5, x7), x8, x9) cs) : ∃ a0 c0 a1 c1 a2 c2 a3 c3 a4 c4 a5 c5, ∃ T0 T1 T2 T3 T4 T5 : Nat → Prop, cs = [.slice a0 L0.length c0, .slice a1 L1.length c1, .slice a2 L2.length c2, .int .i64 x3, .slice a3 L3.length c3, .slice a4 L4.length c4, .slice a5 L5.length c5, .int .i64 x7, .int .i64 x8, .int .i64 x9] ∧ (∀ k, T0 k → S k) ∧ (∀ k, T1 k → S k) ∧ (∀ k, T2 k → S k) ∧ (∀ k, T3 k → S k) ∧ (∀ k, T4 k → S k) ∧ (∀ k, T5 k → S k) ∧ (∀ k, T0 k → ¬ T1 k) ∧ (∀ k, T0 k → ¬ T2 k) ∧ (∀ k, T0 k → ¬ T3 k) ∧ (∀ k, T0 k → ¬ T4 k) ∧ (∀ k, T0 k → ¬ T5 k) ∧ (∀ k, T1 k → ¬ T2 k) ∧ (∀ k, T1 k → ¬ T3 k) ∧ (∀ k, T1 k → ¬ T4 k) ∧ (∀ k, T1 k → ¬ T5 k) ∧ (∀ k, T2 k → ¬ T3 k) ∧ (∀ k, T2 k → ¬ T4 k) ∧ (∀ k, T2 k → ¬ T5 k) ∧ (∀ k, T3 k → ¬ T4 k) ∧ (∀ k, T3 k → ¬ T5 k) ∧ (∀ k, T4 k → ¬ T5 k) ∧ OwSl (Sl R_Label) W T0 L0 a0 c0 ∧ OwSl R_Pair W T1 L1 a1 c1 ∧ OwSl R_Quota W T2 L2 a2 c2 ∧ OwSl R_Node W T3 L3 a3 c3 ∧ OwSl R_Task W T4 L4 a4 c4 ∧ OwSl R_Use W T5 L5 a5 c5 := by
  obtain ⟨u1, v1, A1, B1, rfl, sa1, sb1, dd1, h1, g1⟩ := h
  obtain ⟨u2, v2, A2, B2, rfl, sa2, sb2, dd2, h2, g2⟩ := h1
  obtain ⟨u3, v3, A3, B3, rfl, sa3, sb3, dd3, h3, g3⟩ := h2
  obtain ⟨a0, c0, rfl, k_L0⟩ := h3
  obtain ⟨u4, v4, A4, B4, rfl, sa4, sb4, dd4, h4, g4⟩ := g3
  obtain ⟨a1, c1, rfl, k_L1⟩ := h4
  obtain ⟨u5, v5, A5, B5, rfl, sa5, sb5, dd5, h5, g5⟩ := g4
  obtain ⟨a2, c2, rfl, k_L2⟩ := h5
  obtain rfl : v5 = [_] := g5
  obtain ⟨u6, v6, A6, B6, rfl, sa6, sb6, dd6, h6, g6⟩ := g2
  obtain ⟨a3, c3, rfl, k_L3⟩ := h6
  obtain ⟨u7, v7, A7, B7, rfl, sa7, sb7, dd7, h7, g7⟩ := g6
  obtain ⟨a4, c4, rfl, k_L4⟩ := h7
  obtain ⟨u8, v8, A8, B8, rfl, sa8, sb8, dd8, h8, g8⟩ := g7
  obtain ⟨a5, c5, rfl, k_L5⟩ := h8
  obtain rfl : v8 = [_] := g8
  obtain ⟨u9, v9, A9, B9, rfl, sa9, sb9, dd9, h9, g9⟩ := g1
  obtain rfl : u9 = [_] := h9
  obtain rfl : v9 = [_] := g9
  exact ⟨a0, c0, a1, c1, a2, c2, a3, c3, a4, c4, a5, c5, A3, A4, A5, A6, A7, A8, rfl, fun k h => sa1 k (sa2 k (sa3 k (h))), fun k h => sa1 k (sa2 k (sb3 k (sa4 k (h)))), fun k h => sa1 k (sa2 k (sb3 k (sb4 k (sa5 k (h))))), fun k h => sa1 k (sb2 k (sa6 k (h))), fun k h => sa1 k (sb2 k (sb6 k (sa7 k (h)))), fun k h => sa1 k (sb2 k (sb6 k (sb7 k (sa8 k (h))))), fun k h h' => dd3 k (h) (sa4 k (h')), fun k h h' => dd3 k (h) (sb4 k (sa5 k (h'))), fun k h h' => dd2 k (sa3 k (h)) (sa6 k (h')), fun k h h' => dd2 k (sa3 k (h)) (sb6 k (sa7 k (h'))), fun k h h' => dd2 k (sa3 k (h)) (sb6 k (sb7 k (sa8 k (h')))), fun k h h' => dd4 k (h) (sa5 k (h')), fun k h h' => dd2 k (sb3 k (sa4 k (h))) (sa6 k (h')), fun k h h' => dd2 k (sb3 k (sa4 k (h))) (sb6 k (sa7 k (h'))), fun k h h' => dd2 k (sb3 k (sa4 k (h))) (sb6 k (sb7 k (sa8 k (h')))), fun k h h' => dd2 k (sb3 k (sb4 k (sa5 k (h)))) (sa6 k (h')), fun k h h' => dd2 k (sb3 k (sb4 k (sa5 k (h)))) (sb6 k (sa7 k (h'))), fun k h h' => dd2 k (sb3 k (sb4 k (sa5 k (h)))) (sb6 k (sb7 k (sa8 k (h')))), fun k h h' => dd6 k (h) (sa7 k (h')), fun k h h' => dd6 k (h) (sb7 k (sa8 k (h'))), fun k h h' => dd7 k (h) (sa8 k (h')), k_L0, k_L1, k_L2, k_L3, k_L4, k_L5⟩
set_option maxRecDepth 100000 in
set_option maxHeartbeats 3200000 in
theorem eq_Yard {L0 : List (List (D_Label))} {L1 : List (D_Pair)} {L2 : List (D_Quota)} {x3 : Int} {L3 : List (D_Node)} {L4 : List (D_Task)} {L5 : List (D_Use)} {x7 : Int} {a0 : Option Addr} {c0 : Nat} {a1 : Option Addr} {c1 : Nat} {a2 : Option Addr} {c2 : Nat} {a3 : Option Addr} {c3 : Nat} {a4 : Option Addr} {c4 : Nat} {a5 : Option Addr} {c5 : Nat} {a0' : Option Addr} {c0' : Nat} {a1' : Option Addr} {c1' : Nat} {a2' : Option Addr} {c2' : Nat} {a3' : Option Addr} {c3' : Nat} {a4' : Option Addr} {c4' : Nat} {a5' : Option Addr} {c5' : Nat} {W : World} (h_L0 : RdSl (Sl R_Label) W W.heap.size L0 a0 c0) (h_L1 : RdSl R_Pair W W.heap.size L1 a1 c1) (h_L2 : RdSl R_Quota W W.heap.size L2 a2 c2) (h_L3 : RdSl R_Node W W.heap.size L3 a3 c3) (h_L4 : RdSl R_Task W W.heap.size L4 a4 c4) (h_L5 : RdSl R_Use W W.heap.size L5 a5 c5) (h'_L0 : RdSl (Sl R_Label) W W.heap.size L0 a0' c0') (h'_L1 : RdSl R_Pair W W.heap.size L1 a1' c1') (h'_L2 : RdSl R_Quota W W.heap.size L2 a2' c2') (h'_L3 : RdSl R_Node W W.heap.size L3 a3' c3') (h'_L4 : RdSl R_Task W W.heap.size L4 a4' c4') (h'_L5 : RdSl R_Use W W.heap.size L5 a5' c5') : Calls Tryz.prog 9 #[.agg #[.slice a0 L0.length c0, .slice a1 L1.length c1, .slice a2 L2.length c2, .int .i64 x3, .slice a3 L3.length c3, .slice a4 L4.length c4, .slice a5 L5.length c5, .int .i64 x7], .agg #[.slice a0' L0.length c0', .slice a1' L1.length c1', .slice a2' L2.length c2', .int .i64 x3, .slice a3' L3.length c3', .slice a4' L4.length c4', .slice a5' L5.length c5', .int .i64 x7]] W (IsB true W) := by
  have H_L0 := Lib.hid h_L0
  have H'_L0 := Lib.hid h'_L0
  have H_L1 := Lib.hid h_L1
  have H'_L1 := Lib.hid h'_L1
  have H_L2 := Lib.hid h_L2
  have H'_L2 := Lib.hid h'_L2
  have H_L3 := Lib.hid h_L3
  have H'_L3 := Lib.hid h'_L3
  have H_L4 := Lib.hid h_L4
  have H'_L4 := Lib.hid h'_L4
  have H_L5 := Lib.hid h_L5
  have H'_L5 := Lib.hid h'_L5
  clear h_L0 h'_L0 h_L1 h'_L1 h_L2 h'_L2 h_L3 h'_L3 h_L4 h'_L4 h_L5 h'_L5
  have HB0 := Lib.hid (show Below W.heap.size W ((W.alloc (.cells #[.slice a0 L0.length c0, .slice a1 L1.length c1, .slice a2 L2.length c2, .int .i64 x3, .slice a3 L3.length c3, .slice a4 L4.length c4, .slice a5 L5.length c5, .int .i64 x7] 43)).alloc (.cells #[.slice a0' L0.length c0', .slice a1' L1.length c1', .slice a2' L2.length c2', .int .i64 x3, .slice a3' L3.length c3', .slice a4' L4.length c4', .slice a5' L5.length c5', .int .i64 x7] 43)) from ((Below.refl _ _).alloc (Nat.le_refl _) _).alloc (by simp) _)
  have hP := (Blk.new W 43 #[.slice a0 L0.length c0, .slice a1 L1.length c1, .slice a2 L2.length c2, .int .i64 x3, .slice a3 L3.length c3, .slice a4 L4.length c4, .slice a5 L5.length c5, .int .i64 x7]).alloc (.cells #[.slice a0' L0.length c0', .slice a1' L1.length c1', .slice a2' L2.length c2', .int .i64 x3, .slice a3' L3.length c3', .slice a4' L4.length c4', .slice a5' L5.length c5', .int .i64 x7] 43)
  have hQ := Blk.new (W.alloc (.cells #[.slice a0 L0.length c0, .slice a1 L1.length c1, .slice a2 L2.length c2, .int .i64 x3, .slice a3 L3.length c3, .slice a4 L4.length c4, .slice a5 L5.length c5, .int .i64 x7] 43)) 43 #[.slice a0' L0.length c0', .slice a1' L1.length c1', .slice a2' L2.length c2', .int .i64 x3, .slice a3' L3.length c3', .slice a4' L4.length c4', .slice a5' L5.length c5', .int .i64 x7]
  simp only [World.size_alloc] at hP hQ
  have HP0 := Lib.hid hP
  have HQ0 := Lib.hid hQ
  have hz0 : W.heap.size ≤ ((W.alloc (.cells #[.slice a0 L0.length c0, .slice a1 L1.length c1, .slice a2 L2.length c2, .int .i64 x3, .slice a3 L3.length c3, .slice a4 L4.length c4, .slice a5 L5.length c5, .int .i64 x7] 43)).alloc (.cells #[.slice a0' L0.length c0', .slice a1' L1.length c1', .slice a2' L2.length c2', .int .i64 x3, .slice a3' L3.length c3', .slice a4' L4.length c4', .slice a5' L5.length c5', .int .i64 x7] 43)).heap.size := HB0.out.size
  clear hP hQ
  go_enter Tryz.func9, Tryz.ntmps9
  go_wp2_with fail
  refine (eq_Config ((H_L0.out.below (Sl_ok R_Label_ok) HB0.out).more (Sl_ok R_Label_ok) hz0) ((H_L1.out.below R_Pair_ok HB0.out).more R_Pair_ok hz0) ((H_L2.out.below R_Quota_ok HB0.out).more R_Quota_ok hz0) ((H'_L0.out.below (Sl_ok R_Label_ok) HB0.out).more (Sl_ok R_Label_ok) hz0) ((H'_L1.out.below R_Pair_ok HB0.out).more R_Pair_ok hz0) ((H'_L2.out.below R_Quota_ok HB0.out).more R_Quota_ok hz0)).mono ?_
  intro e w1 h
  obtain ⟨rfl, hb⟩ := isB_elim h
  have HP1 := Lib.hid (HP0.out.call hb)
  have HQ1 := Lib.hid (HQ0.out.call hb)
  have HB1 := Lib.hid (HB0.out.trans (hb.mono hz0))
  have hz1 : W.heap.size ≤ w1.heap.size := HB1.out.size
  clear h hb
  have p1_4 := HP1.out.at_ 4 rfl
  have q1_4 := HQ1.out.at_ 4 rfl
  have p1_5 := HP1.out.at_ 5 rfl
  have q1_5 := HQ1.out.at_ 5 rfl
  have p1_6 := HP1.out.at_ 6 rfl
  have q1_6 := HQ1.out.at_ 6 rfl
  have p1_7 := HP1.out.at_ 7 rfl
  have q1_7 := HQ1.out.at_ 7 rfl
  go_wp2_with fail
  refine (eq_NodeS ((H_L3.out.below R_Node_ok HB1.out).more R_Node_ok hz1) ((H'_L3.out.below R_Node_ok HB1.out).more R_Node_ok hz1)).mono ?_
  intro e w2 h
  obtain ⟨rfl, hb⟩ := isB_elim h
  have HP2 := Lib.hid (HP1.out.call hb)
  have HQ2 := Lib.hid (HQ1.out.call hb)
  have HB2 := Lib.hid (HB1.out.trans (hb.mono hz1))
  have hz2 : W.heap.size ≤ w2.heap.size := HB2.out.size
  clear h hb
  clear p1_4 q1_4 p1_5 q1_5 p1_6 q1_6 p1_7 q1_7
  have p2_5 := HP2.out.at_ 5 rfl
  have q2_5 := HQ2.out.at_ 5 rfl
  have p2_6 := HP2.out.at_ 6 rfl
  have q2_6 := HQ2.out.at_ 6 rfl
  have p2_7 := HP2.out.at_ 7 rfl
  have q2_7 := HQ2.out.at_ 7 rfl
  go_wp2_with fail
  refine (eq_TaskS ((H_L4.out.below R_Task_ok HB2.out).more R_Task_ok hz2) ((H'_L4.out.below R_Task_ok HB2.out).more R_Task_ok hz2)).mono ?_
  intro e w3 h
  obtain ⟨rfl, hb⟩ := isB_elim h
  have HP3 := Lib.hid (HP2.out.call hb)
  have HQ3 := Lib.hid (HQ2.out.call hb)
  have HB3 := Lib.hid (HB2.out.trans (hb.mono hz2))
  have hz3 : W.heap.size ≤ w3.heap.size := HB3.out.size
  clear h hb
  clear p2_5 q2_5 p2_6 q2_6 p2_7 q2_7
  have p3_6 := HP3.out.at_ 6 rfl
  have q3_6 := HQ3.out.at_ 6 rfl
  have p3_7 := HP3.out.at_ 7 rfl
  have q3_7 := HQ3.out.at_ 7 rfl
  go_wp2_with fail
  refine (eq_UseS ((H_L5.out.below R_Use_ok HB3.out).more R_Use_ok hz3) ((H'_L5.out.below R_Use_ok HB3.out).more R_Use_ok hz3)).mono ?_
  intro e w4 h
  obtain ⟨rfl, hb⟩ := isB_elim h
  have HP4 := Lib.hid (HP3.out.call hb)
  have HQ4 := Lib.hid (HQ3.out.call hb)
  have HB4 := Lib.hid (HB3.out.trans (hb.mono hz3))
  have hz4 : W.heap.size ≤ w4.heap.size := HB4.out.size
  clear h hb
  clear p3_6 q3_6 p3_7 q3_7
  have p4_7 := HP4.out.at_ 7 rfl
  have q4_7 := HQ4.out.at_ 7 rfl
  go_wp2
  all_goals
    go_ret
    exact ⟨rfl, HB4.out⟩
set_option maxRecDepth 100000 in
set_option maxHeartbeats 3200000 in
theorem eq_YardOut {L0 : List (List (D_Label))} {L1 : List (D_Pair)} {L2 : List (D_Quota)} {x3 : Int} {L3 : List (D_Node)} {L4 : List (D_Task)} {L5 : List (D_Use)} {x7 : Int} {x8 : Int} {x9 : Int} {a0 : Option Addr} {c0 : Nat} {a1 : Option Addr} {c1 : Nat} {a2 : Option Addr} {c2 : Nat} {a3 : Option Addr} {c3 : Nat} {a4 : Option Addr} {c4 : Nat} {a5 : Option Addr} {c5 : Nat} {a0' : Option Addr} {c0' : Nat} {a1' : Option Addr} {c1' : Nat} {a2' : Option Addr} {c2' : Nat} {a3' : Option Addr} {c3' : Nat} {a4' : Option Addr} {c4' : Nat} {a5' : Option Addr} {c5' : Nat} {W : World} (h_L0 : RdSl (Sl R_Label) W W.heap.size L0 a0 c0) (h_L1 : RdSl R_Pair W W.heap.size L1 a1 c1) (h_L2 : RdSl R_Quota W W.heap.size L2 a2 c2) (h_L3 : RdSl R_Node W W.heap.size L3 a3 c3) (h_L4 : RdSl R_Task W W.heap.size L4 a4 c4) (h_L5 : RdSl R_Use W W.heap.size L5 a5 c5) (h'_L0 : RdSl (Sl R_Label) W W.heap.size L0 a0' c0') (h'_L1 : RdSl R_Pair W W.heap.size L1 a1' c1') (h'_L2 : RdSl R_Quota W W.heap.size L2 a2' c2') (h'_L3 : RdSl R_Node W W.heap.size L3 a3' c3') (h'_L4 : RdSl R_Task W W.heap.size L4 a4' c4') (h'_L5 : RdSl R_Use W W.heap.size L5 a5' c5') : Calls Tryz.prog 14 #[.agg #[.slice a0 L0.length c0, .slice a1 L1.length c1, .slice a2 L2.length c2, .int .i64 x3, .slice a3 L3.length c3, .slice a4 L4.length c4, .slice a5 L5.length c5, .int .i64 x7, .int .i64 x8, .int .i64 x9], .agg #[.slice a0' L0.length c0', .slice a1' L1.length c1', .slice a2' L2.length c2', .int .i64 x3, .slice a3' L3.length c3', .slice a4' L4.length c4', .slice a5' L5.length c5', .int .i64 x7, .int .i64 x8, .int .i64 x9]] W (IsB true W) := by
  have H_L0 := Lib.hid h_L0
  have H'_L0 := Lib.hid h'_L0
  have H_L1 := Lib.hid h_L1
  have H'_L1 := Lib.hid h'_L1
  have H_L2 := Lib.hid h_L2
  have H'_L2 := Lib.hid h'_L2
  have H_L3 := Lib.hid h_L3
  have H'_L3 := Lib.hid h'_L3
  have H_L4 := Lib.hid h_L4
  have H'_L4 := Lib.hid h'_L4
  have H_L5 := Lib.hid h_L5
  have H'_L5 := Lib.hid h'_L5
  clear h_L0 h'_L0 h_L1 h'_L1 h_L2 h'_L2 h_L3 h'_L3 h_L4 h'_L4 h_L5 h'_L5
  have HB0 := Lib.hid (show Below W.heap.size W ((W.alloc (.cells #[.slice a0 L0.length c0, .slice a1 L1.length c1, .slice a2 L2.length c2, .int .i64 x3, .slice a3 L3.length c3, .slice a4 L4.length c4, .slice a5 L5.length c5, .int .i64 x7, .int .i64 x8, .int .i64 x9] 49)).alloc (.cells #[.slice a0' L0.length c0', .slice a1' L1.length c1', .slice a2' L2.length c2', .int .i64 x3, .slice a3' L3.length c3', .slice a4' L4.length c4', .slice a5' L5.length c5', .int .i64 x7, .int .i64 x8, .int .i64 x9] 49)) from ((Below.refl _ _).alloc (Nat.le_refl _) _).alloc (by simp) _)
  have hP := (Blk.new W 49 #[.slice a0 L0.length c0, .slice a1 L1.length c1, .slice a2 L2.length c2, .int .i64 x3, .slice a3 L3.length c3, .slice a4 L4.length c4, .slice a5 L5.length c5, .int .i64 x7, .int .i64 x8, .int .i64 x9]).alloc (.cells #[.slice a0' L0.length c0', .slice a1' L1.length c1', .slice a2' L2.length c2', .int .i64 x3, .slice a3' L3.length c3', .slice a4' L4.length c4', .slice a5' L5.length c5', .int .i64 x7, .int .i64 x8, .int .i64 x9] 49)
  have hQ := Blk.new (W.alloc (.cells #[.slice a0 L0.length c0, .slice a1 L1.length c1, .slice a2 L2.length c2, .int .i64 x3, .slice a3 L3.length c3, .slice a4 L4.length c4, .slice a5 L5.length c5, .int .i64 x7, .int .i64 x8, .int .i64 x9] 49)) 49 #[.slice a0' L0.length c0', .slice a1' L1.length c1', .slice a2' L2.length c2', .int .i64 x3, .slice a3' L3.length c3', .slice a4' L4.length c4', .slice a5' L5.length c5', .int .i64 x7, .int .i64 x8, .int .i64 x9]
  simp only [World.size_alloc] at hP hQ
  have HP0 := Lib.hid hP
  have HQ0 := Lib.hid hQ
  have hz0 : W.heap.size ≤ ((W.alloc (.cells #[.slice a0 L0.length c0, .slice a1 L1.length c1, .slice a2 L2.length c2, .int .i64 x3, .slice a3 L3.length c3, .slice a4 L4.length c4, .slice a5 L5.length c5, .int .i64 x7, .int .i64 x8, .int .i64 x9] 49)).alloc (.cells #[.slice a0' L0.length c0', .slice a1' L1.length c1', .slice a2' L2.length c2', .int .i64 x3, .slice a3' L3.length c3', .slice a4' L4.length c4', .slice a5' L5.length c5', .int .i64 x7, .int .i64 x8, .int .i64 x9] 49)).heap.size := HB0.out.size
  clear hP hQ
  go_enter Tryz.func14, Tryz.ntmps14
  go_wp2_with fail
  refine (eq_Yard ((H_L0.out.below (Sl_ok R_Label_ok) HB0.out).more (Sl_ok R_Label_ok) hz0) ((H_L1.out.below R_Pair_ok HB0.out).more R_Pair_ok hz0) ((H_L2.out.below R_Quota_ok HB0.out).more R_Quota_ok hz0) ((H_L3.out.below R_Node_ok HB0.out).more R_Node_ok hz0) ((H_L4.out.below R_Task_ok HB0.out).more R_Task_ok hz0) ((H_L5.out.below R_Use_ok HB0.out).more R_Use_ok hz0) ((H'_L0.out.below (Sl_ok R_Label_ok) HB0.out).more (Sl_ok R_Label_ok) hz0) ((H'_L1.out.below R_Pair_ok HB0.out).more R_Pair_ok hz0) ((H'_L2.out.below R_Quota_ok HB0.out).more R_Quota_ok hz0) ((H'_L3.out.below R_Node_ok HB0.out).more R_Node_ok hz0) ((H'_L4.out.below R_Task_ok HB0.out).more R_Task_ok hz0) ((H'_L5.out.below R_Use_ok HB0.out).more R_Use_ok hz0)).mono ?_
  intro e w1 h
  obtain ⟨rfl, hb⟩ := isB_elim h
  have HP1 := Lib.hid (HP0.out.call hb)
  have HQ1 := Lib.hid (HQ0.out.call hb)
  have HB1 := Lib.hid (HB0.out.trans (hb.mono hz0))
  have hz1 : W.heap.size ≤ w1.heap.size := HB1.out.size
  clear h hb
  have p1_8 := HP1.out.at_ 8 rfl
  have q1_8 := HQ1.out.at_ 8 rfl
  have p1_9 := HP1.out.at_ 9 rfl
  have q1_9 := HQ1.out.at_ 9 rfl
  go_wp2
  all_goals
    go_ret
    exact ⟨rfl, HB1.out⟩
end Go.Proofs.YtelhmacfljffhaaGreat.RepC
end
section
namespace Go.Proofs.YtelhmacfljffhaaGreat.RepC
open Go.RowKit RowC ValC
set_option linter.unusedVariables false
set_option linter.unusedSimpArgs false
theorem sets_Config {w : World} {g : Nat} {v0 v1 v2 v3 : Value} {t : TypeId} (h : Blk w g t #[.slice none 0 0, .slice none 0 0, .slice none 0 0, .int .i64 0]) : Blk ((((w.setCell ⟨g, 0, none⟩ v0).setCell ⟨g, 1, none⟩ v1).setCell ⟨g, 2, none⟩ v2).setCell ⟨g, 3, none⟩ v3) g t #[v0, v1, v2, v3] := Blk.as ((((h.set 0 v0).set 1 v1).set 2 v2).set 3 v3) (by kernel_rfl)
theorem soff_Config (w : World) (g : Nat) (v0 v1 v2 v3 : Value) : Off (fun x => x = g) w ((((w.setCell ⟨g, 0, none⟩ v0).setCell ⟨g, 1, none⟩ v1).setCell ⟨g, 2, none⟩ v2).setCell ⟨g, 3, none⟩ v3) := (((((Off.refl (fun x => x = g) w).setCell (p := ⟨g, 0, none⟩) rfl v0).setCell (p := ⟨g, 1, none⟩) rfl v1).setCell (p := ⟨g, 2, none⟩) rfl v2).setCell (p := ⟨g, 3, none⟩) rfl v3)
theorem sets_YardOut {w : World} {g : Nat} {v0 v1 v2 v3 v4 v5 v6 v7 v8 v9 : Value} {t : TypeId} (h : Blk w g t #[.slice none 0 0, .slice none 0 0, .slice none 0 0, .int .i64 0, .slice none 0 0, .slice none 0 0, .slice none 0 0, .int .i64 0, .int .i64 0, .int .i64 0]) : Blk ((((((((((w.setCell ⟨g, 0, none⟩ v0).setCell ⟨g, 1, none⟩ v1).setCell ⟨g, 2, none⟩ v2).setCell ⟨g, 3, none⟩ v3).setCell ⟨g, 4, none⟩ v4).setCell ⟨g, 5, none⟩ v5).setCell ⟨g, 6, none⟩ v6).setCell ⟨g, 7, none⟩ v7).setCell ⟨g, 8, none⟩ v8).setCell ⟨g, 9, none⟩ v9) g t #[v0, v1, v2, v3, v4, v5, v6, v7, v8, v9] := Blk.as ((((((((((h.set 0 v0).set 1 v1).set 2 v2).set 3 v3).set 4 v4).set 5 v5).set 6 v6).set 7 v7).set 8 v8).set 9 v9) (by kernel_rfl)
theorem soff_YardOut (w : World) (g : Nat) (v0 v1 v2 v3 v4 v5 v6 v7 v8 v9 : Value) : Off (fun x => x = g) w ((((((((((w.setCell ⟨g, 0, none⟩ v0).setCell ⟨g, 1, none⟩ v1).setCell ⟨g, 2, none⟩ v2).setCell ⟨g, 3, none⟩ v3).setCell ⟨g, 4, none⟩ v4).setCell ⟨g, 5, none⟩ v5).setCell ⟨g, 6, none⟩ v6).setCell ⟨g, 7, none⟩ v7).setCell ⟨g, 8, none⟩ v8).setCell ⟨g, 9, none⟩ v9) := (((((((((((Off.refl (fun x => x = g) w).setCell (p := ⟨g, 0, none⟩) rfl v0).setCell (p := ⟨g, 1, none⟩) rfl v1).setCell (p := ⟨g, 2, none⟩) rfl v2).setCell (p := ⟨g, 3, none⟩) rfl v3).setCell (p := ⟨g, 4, none⟩) rfl v4).setCell (p := ⟨g, 5, none⟩) rfl v5).setCell (p := ⟨g, 6, none⟩) rfl v6).setCell (p := ⟨g, 7, none⟩) rfl v7).setCell (p := ⟨g, 8, none⟩) rfl v8).setCell (p := ⟨g, 9, none⟩) rfl v9)
theorem bel_off {B : Nat} {S : Nat → Prop} {W w w' : World} (h : Below B W w) (ho : Off S w w') (hS : ∀ k, S k → B ≤ k) (hB : B ≤ w.heap.size) : Below B W w' :=
  h.trans ⟨ho.os, ho.tape, ho.output, ho.size, fun k hk => ho.block k (Nat.lt_of_lt_of_le hk hB) (fun hs => by have := hS k hs; omega)⟩
theorem ow_off {α : Type} {E : Rp α} (hE : Ok E) {w w' : World} {T S : Nat → Prop} {L : List α} {a : Option Addr} {c : Nat} (h : OwSl E w T L a c) (ho : Off S w w') (hT : ∀ q, T q → q < w.heap.size ∧ ¬ S q) : OwSl E w' T L a c := h.keep hE fun q hq => ho.block q (hT q hq).1 (hT q hq).2
end Go.Proofs.YtelhmacfljffhaaGreat.RepC
end
