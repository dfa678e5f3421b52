/- Of this claim's texts the part 7: YaD4 UsO TaO TaGv TaB TaR4 UsR1 AccS UsR2 SqImpl SqImpl2. -/
import Derived.Test.YtelhmacfljffhaaGreatPR6
section
namespace Go.Proofs.YtelhmacfljffhaaGreat.RepC
open Go.RowKit RowC ValC SpanC KeptC NameC CfC
set_option linter.unusedVariables false
set_option linter.unusedSimpArgs false
set_option maxRecDepth 100000 in
set_option maxHeartbeats 6400000 in
theorem tasksfit_impl {C : List (List D_Label)} {P : List D_Pair} {Q : List D_Quota} {hf : Int} {ca pa qa : Option Addr} {cc pc qc : Nat} {N : List D_Node} {T : List D_Task} {U : List D_Use} {now : Int} {na ta ua : Option Addr} {nc tc uc : Nat} {W : World} (h6 : C.length ≤ 6) (hR : TasksR T) (hnow : 0 ≤ now ∧ now ≤ 999900) (hC : RdSl (Sl R_Label) W W.heap.size C ca cc) (hT : RdSl R_Task W W.heap.size T ta tc) :
    Calls Tryz.prog 40 #[.agg #[.slice ca C.length cc, .slice pa P.length pc, .slice qa Q.length qc, .int .i64 hf, .slice na N.length nc, .slice ta T.length tc, .slice ua U.length uc, .int .i64 now]] W (ResB (fitTo C now T T.length) W) := by
  have hTn : T.length ≤ 9223372036854775807 := by have h1 := hT.1; have h2 := hT.2.1; unfold maxLen at h2; omega
  have HRR := Lib.hid hR
  clear hR
  obtain ⟨w0, hw0⟩ : ∃ w, w = W.alloc (.cells #[.slice ca C.length cc, .slice pa P.length pc, .slice qa Q.length qc, .int .i64 hf, .slice na N.length nc, .slice ta T.length tc, .slice ua U.length uc, .int .i64 now] 43) := ⟨_, rfl⟩
  have hb0 : Below W.heap.size W w0 := by rw [hw0]; exact (Below.refl _ _).alloc (Nat.le_refl _) _
  have x0_ : Blk w0 (W.heap.size) 43 #[.slice ca C.length cc, .slice pa P.length pc, .slice qa Q.length qc, .int .i64 hf, .slice na N.length nc, .slice ta T.length tc, .slice ua U.length uc, .int .i64 now] := by
    have h9 := Blk.new W 43 #[.slice ca C.length cc, .slice pa P.length pc, .slice qa Q.length qc, .int .i64 hf, .slice na N.length nc, .slice ta T.length tc, .slice ua U.length uc, .int .i64 now]
    try simp only [World.size_alloc] at h9
    rw [hw0]; exact h9
  have X0 := Lib.hid x0_
  have HC := Lib.hid (rd_mv (Sl_ok R_Label_ok) hC hb0)
  have HT := Lib.hid (rd_mv R_Task_ok hT hb0)
  have HB0 := Lib.hid hb0
  have hz0 := hb0.size
  clear hb0 hC hT x0_
  obtain ⟨w1, hw1⟩ : ∃ w, w = w0.alloc (.cells #[.bool false, .bool false, .bool false, .bool false, .bool false, .bool false] 142) := ⟨_, rfl⟩
  have HUS0 := Lib.hid (show Usd w1 w0.heap.size 142 (fun n => takenT T 0 n) from by rw [hw1]; exact (Usd.new w0 _).more fun m _ => ⟨fun h => h.elim, fun h => takenT_zero h⟩)
  have hb1 : Below w0.heap.size w0 w1 := by rw [hw1]; exact (Below.refl _ _).alloc (Nat.le_refl _) _
  have HB1 := Lib.hid hb1
  have Z1 := Lib.hid (X0.out.call hb1)
  have hszW : w0.heap.size = W.heap.size + 1 := by rw [hw0]; simp
  obtain ⟨gu, hgu⟩ : ∃ g, g = W.heap.size + 1 := ⟨_, rfl⟩
  have HGU := Lib.hid (show gu = w0.heap.size from by rw [hgu, hszW])
  rw [hszW, ← hgu] at HUS0
  have hww : w1 = (W.alloc (.cells #[.slice ca C.length cc, .slice pa P.length pc, .slice qa Q.length qc, .int .i64 hf, .slice na N.length nc, .slice ta T.length tc, .slice ua U.length uc, .int .i64 now] 43)).alloc (.cells #[.bool false, .bool false, .bool false, .bool false, .bool false, .bool false] 142) := by rw [hw1, hw0]
  clear hb1 hw1 hw0 hszW
  go_enter Tryz.func40, Tryz.ntmps40
  go_upto_region 2 with fail
  rw [← hww, ← hgu]
  clear hww hgu
  have q5 := Z1.out.at_ 5 rfl
  go_wp2
  go_loopw [11] (fun i wr => ∃ k : Nat, k ≤ T.length ∧ i = .int .i64 k ∧ Hid (fitTo C now T k) ∧ Hid (Usd wr gu 142 (fun n => takenT T k n)) ∧ Below w0.heap.size w0 wr) (fun i _ => T.length - (intOf i).toNat)
  case atStart => exact ⟨0, Nat.zero_le _, rfl, Lib.hid fitTo_zero, HUS0, HB1.out⟩
  case round =>
    obtain ⟨k, hk, rfl, HFT, HUS, hB⟩ := hrel
    obtain ⟨wo, rfl⟩ : ∃ x, x = wr := ⟨_, rfl⟩
    have HB := Lib.hid hB
    have hsz := hB.size
    have HBW := Lib.hid (HB0.out.trans (hB.mono hz0))
    have Z0 := Lib.hid (X0.out.call hB)
    by_cases hlt : k < T.length
    · have hdl : decide ((k : Int) < (T.length : Int)) = true := decide_eq_true (by omega)
      obtain ⟨⟨⟨x0, x1⟩, x2, x3, x4, x5, x6, ⟨x7, x8⟩, x9, x10, x11, x12, M⟩, hx⟩ := el_some hlt
      have HX := Lib.hid hx
      have HTR := Lib.hid (show TaskR ((x0, x1), x2, x3, x4, x5, x6, (x7, x8), x9, x10, x11, x12, M) from (HRR.out.2 k _ hx).1)
      have hst := taskR_start HTR.out
      have hlg := taskR_long HTR.out
      simp only [tStart, tLong] at hst hlg
      obtain ⟨g, o, us, rfl, hg, hu, hr⟩ := HT.out.at_ hx
      obtain ⟨ma, mc, rfl, k_M, b_x3⟩ := rd_Task hr
      have e0 : wo.cell? ⟨g, o + k * 14, none⟩ = some (.int .i64 x0) := (hB.cell (p := ⟨g, _, none⟩) hg).trans (by simpa [size_TaskS, Nat.add_assoc] using hu 0 _ rfl)
      have e1 : wo.cell? ⟨g, o + k * 14 + 1, none⟩ = some (.int .i64 x1) := (hB.cell (p := ⟨g, _, none⟩) hg).trans (by simpa [size_TaskS, Nat.add_assoc] using hu 1 _ rfl)
      have e2 : wo.cell? ⟨g, o + k * 14 + 2, none⟩ = some (.int .i64 x2) := (hB.cell (p := ⟨g, _, none⟩) hg).trans (by simpa [size_TaskS, Nat.add_assoc] using hu 2 _ rfl)
      have e3 : wo.cell? ⟨g, o + k * 14 + 3, none⟩ = some (.string x3) := (hB.cell (p := ⟨g, _, none⟩) hg).trans (by simpa [size_TaskS, Nat.add_assoc] using hu 3 _ rfl)
      have e4 : wo.cell? ⟨g, o + k * 14 + 4, none⟩ = some (.int .i64 x4) := (hB.cell (p := ⟨g, _, none⟩) hg).trans (by simpa [size_TaskS, Nat.add_assoc] using hu 4 _ rfl)
      have e5 : wo.cell? ⟨g, o + k * 14 + 5, none⟩ = some (.int .i64 x5) := (hB.cell (p := ⟨g, _, none⟩) hg).trans (by simpa [size_TaskS, Nat.add_assoc] using hu 5 _ rfl)
      have e6 : wo.cell? ⟨g, o + k * 14 + 6, none⟩ = some (.int .i64 x6) := (hB.cell (p := ⟨g, _, none⟩) hg).trans (by simpa [size_TaskS, Nat.add_assoc] using hu 6 _ rfl)
      have e7 : wo.cell? ⟨g, o + k * 14 + 7, none⟩ = some (.int .i64 x7) := (hB.cell (p := ⟨g, _, none⟩) hg).trans (by simpa [size_TaskS, Nat.add_assoc] using hu 7 _ rfl)
      have e8 : wo.cell? ⟨g, o + k * 14 + 8, none⟩ = some (.int .i64 x8) := (hB.cell (p := ⟨g, _, none⟩) hg).trans (by simpa [size_TaskS, Nat.add_assoc] using hu 8 _ rfl)
      have e9 : wo.cell? ⟨g, o + k * 14 + 9, none⟩ = some (.int .i64 x9) := (hB.cell (p := ⟨g, _, none⟩) hg).trans (by simpa [size_TaskS, Nat.add_assoc] using hu 9 _ rfl)
      have e10 : wo.cell? ⟨g, o + k * 14 + 10, none⟩ = some (.int .i64 x10) := (hB.cell (p := ⟨g, _, none⟩) hg).trans (by simpa [size_TaskS, Nat.add_assoc] using hu 10 _ rfl)
      have e11 : wo.cell? ⟨g, o + k * 14 + 11, none⟩ = some (.int .i64 x11) := (hB.cell (p := ⟨g, _, none⟩) hg).trans (by simpa [size_TaskS, Nat.add_assoc] using hu 11 _ rfl)
      have e12 : wo.cell? ⟨g, o + k * 14 + 12, none⟩ = some (.int .i64 x12) := (hB.cell (p := ⟨g, _, none⟩) hg).trans (by simpa [size_TaskS, Nat.add_assoc] using hu 12 _ rfl)
      have e13 : wo.cell? ⟨g, o + k * 14 + 13, none⟩ = some (.slice ma M.length mc) := (hB.cell (p := ⟨g, _, none⟩) hg).trans (by simpa [size_TaskS, Nat.add_assoc] using hu 13 _ rfl)
      have hi0 : (0 : Int) ≤ (k : Int) := Int.natCast_nonneg _
      have hi1 : (k : Int) < (T.length : Int) := by omega
      have HK := Lib.hid k_M
      have hMn : M.length ≤ 9223372036854775807 := by have h1 := k_M.1; have h2 := k_M.2.1; unfold maxLen at h2; omega
      obtain ⟨w2, hw2⟩ : ∃ w, w = wo.alloc (.cells #[.int .i64 x0, .int .i64 x1, .int .i64 x2, .string x3, .int .i64 x4, .int .i64 x5, .int .i64 x6, .int .i64 x7, .int .i64 x8, .int .i64 x9, .int .i64 x10, .int .i64 x11, .int .i64 x12, .slice ma M.length mc] 70) := ⟨_, rfl⟩
      have hb2 : Below wo.heap.size wo w2 := by rw [hw2]; exact (Below.refl _ _).alloc (Nat.le_refl _) _
      have Y2 := Lib.hid (show Blk w2 wo.heap.size 70 #[.int .i64 x0, .int .i64 x1, .int .i64 x2, .string x3, .int .i64 x4, .int .i64 x5, .int .i64 x6, .int .i64 x7, .int .i64 x8, .int .i64 x9, .int .i64 x10, .int .i64 x11, .int .i64 x12, .slice ma M.length mc] from by rw [hw2]; exact Blk.new _ _ _)
      have Z2 := Lib.hid (Z0.out.call hb2)
      have HB2 := Lib.hid (HB.out.trans (hb2.mono hsz))
      have HBW2 := Lib.hid (HB0.out.trans (HB2.out.mono hz0))
      have HUS2 := Lib.hid (HUS.out.call hb2)
      have HC2 := Lib.hid (rd_mv (Sl_ok R_Label_ok) HC.out HB2.out)
      have HM2 := Lib.hid (rd_mv I_ok HK.out HB2.out)
      obtain ⟨b1, hb1⟩ : ∃ b, decide (now < x10) = b := ⟨_, rfl⟩
      have HE1 := Lib.hid hb1
      clear hB hx hr hu hg k_M hb2
      go_upto_region 5 with fail
      rw [← hw2]
      clear hw2 e0 e1 e2 e3 e4 e5 e6 e7 e8 e9 e10 e11 e12 e13
      have zz0 := Z2.out.at_ 0 rfl
      have zz1 := Z2.out.at_ 1 rfl
      have zz2 := Z2.out.at_ 2 rfl
      have zz3 := Z2.out.at_ 3 rfl
      have zz4 := Z2.out.at_ 4 rfl
      have zz5 := Z2.out.at_ 5 rfl
      have zz6 := Z2.out.at_ 6 rfl
      have zz7 := Z2.out.at_ 7 rfl
      have yy0 := Y2.out.at_ 0 rfl
      have yy1 := Y2.out.at_ 1 rfl
      have yy2 := Y2.out.at_ 2 rfl
      have yy3 := Y2.out.at_ 3 rfl
      have yy4 := Y2.out.at_ 4 rfl
      have yy5 := Y2.out.at_ 5 rfl
      have yy6 := Y2.out.at_ 6 rfl
      have yy7 := Y2.out.at_ 7 rfl
      have yy8 := Y2.out.at_ 8 rfl
      have yy9 := Y2.out.at_ 9 rfl
      have yy10 := Y2.out.at_ 10 rfl
      have yy11 := Y2.out.at_ 11 rfl
      have yy12 := Y2.out.at_ 12 rfl
      have yy13 := Y2.out.at_ 13 rfl
      cases b1 with
      | true =>
        have HV := Lib.hid (show ¬ fitTo C now T T.length from fun h => by have h2 := (h k _ hlt HX.out).1.2.1; have h3 := of_decide_eq_true HE1.out; simp only [tBorn] at h2; omega)
        go_wp2
        go_ret
        exact resB_no HV.out HBW2.out
      | false =>
      go_wp2_with fail
      refine (nodesfit_impl h6 HC2.out HM2.out).mono ?_
      intro e w3 h
      obtain ⟨b, rfl, hb, hbl⟩ := resB_elim h
      have HFB := Lib.hid hb
      have HB3 := Lib.hid (HB2.out.trans (hbl.mono HB2.out.size))
      have HBW3 := Lib.hid (HB0.out.trans (HB3.out.mono hz0))
      have Y3 := Lib.hid (Y2.out.call hbl)
      have Z3 := Lib.hid (Z2.out.call hbl)
      have HUS3 := Lib.hid (HUS2.out.call hbl)
      clear h hb hbl hb1 zz0 zz1 zz2 zz3 zz4 zz5 zz6 zz7 yy0 yy1 yy2 yy3 yy4 yy5 yy6 yy7 yy8 yy9 yy10 yy11 yy12 yy13
      cases b with
      | false =>
        have HV := Lib.hid (show ¬ fitTo C now T T.length from fun h => by have h2 := (h k _ hlt HX.out).1; have := HFB.out.2 ⟨h2.2.2.1, h2.1⟩; cases this)
        go_wp2
        go_ret
        exact resB_no HV.out HBW3.out
      | true =>
      have HF1 := Lib.hid (HFB.out.1 rfl)
      have zz0 := Z3.out.at_ 0 rfl
      have zz1 := Z3.out.at_ 1 rfl
      have zz2 := Z3.out.at_ 2 rfl
      have zz3 := Z3.out.at_ 3 rfl
      have zz4 := Z3.out.at_ 4 rfl
      have zz5 := Z3.out.at_ 5 rfl
      have zz6 := Z3.out.at_ 6 rfl
      have zz7 := Z3.out.at_ 7 rfl
      have yy0 := Y3.out.at_ 0 rfl
      have yy1 := Y3.out.at_ 1 rfl
      have yy2 := Y3.out.at_ 2 rfl
      have yy3 := Y3.out.at_ 3 rfl
      have yy4 := Y3.out.at_ 4 rfl
      have yy5 := Y3.out.at_ 5 rfl
      have yy6 := Y3.out.at_ 6 rfl
      have yy7 := Y3.out.at_ 7 rfl
      have yy8 := Y3.out.at_ 8 rfl
      have yy9 := Y3.out.at_ 9 rfl
      have yy10 := Y3.out.at_ 10 rfl
      have yy11 := Y3.out.at_ 11 rfl
      have yy12 := Y3.out.at_ 12 rfl
      have yy13 := Y3.out.at_ 13 rfl
      go_wp2_with fail
      refine (startfits_impl hst hlg hnow).mono ?_
      intro e w4 h
      obtain ⟨b, rfl, hb, hbl⟩ := resB_elim h
      have HSB := Lib.hid hb
      have HB4 := Lib.hid (HB3.out.trans (hbl.mono HB3.out.size))
      have HBW4 := Lib.hid (HB0.out.trans (HB4.out.mono hz0))
      have Y4 := Lib.hid (Y3.out.call hbl)
      have HUS4 := Lib.hid (HUS3.out.call hbl)
      clear h hb hbl zz0 zz1 zz2 zz3 zz4 zz5 zz6 zz7 yy0 yy1 yy2 yy3 yy4 yy5 yy6 yy7 yy8 yy9 yy10 yy11 yy12 yy13
      cases b with
      | false =>
        have HV := Lib.hid (show ¬ fitTo C now T T.length from fun h => by have h2 := (h k _ hlt HX.out).1.2.2.2; have := HSB.out.2 h2; cases this)
        go_wp2
        go_ret
        exact resB_no HV.out HBW4.out
      | true =>
      have HFIT := Lib.hid (show fitT C now ((x0, x1), x2, x3, x4, x5, x6, (x7, x8), x9, x10, x11, x12, M) from ⟨HF1.out.2, by have := of_decide_eq_false HE1.out; show x10 ≤ now; omega, HF1.out.1, HSB.out.1 rfl⟩)
      have yy0 := Y4.out.at_ 0 rfl
      have yy1 := Y4.out.at_ 1 rfl
      have yy2 := Y4.out.at_ 2 rfl
      have yy3 := Y4.out.at_ 3 rfl
      have yy4 := Y4.out.at_ 4 rfl
      have yy5 := Y4.out.at_ 5 rfl
      have yy6 := Y4.out.at_ 6 rfl
      have yy7 := Y4.out.at_ 7 rfl
      have yy8 := Y4.out.at_ 8 rfl
      have yy9 := Y4.out.at_ 9 rfl
      have yy10 := Y4.out.at_ 10 rfl
      have yy11 := Y4.out.at_ 11 rfl
      have yy12 := Y4.out.at_ 12 rfl
      have yy13 := Y4.out.at_ 13 rfl
      obtain ⟨br, hbr⟩ : ∃ b, (x11 == 2) = b := ⟨_, rfl⟩
      have HRU := Lib.hid hbr
      clear hbr
      go_wp2_with fail
      refine (runsI_at HRU.out _).mono ?_
      rintro e w5 ⟨rfl, hb⟩
      have HB5 := Lib.hid (HB4.out.trans (hb.mono HB4.out.size))
      have Y5 := Lib.hid (Y4.out.call hb)
      have HUS5 := Lib.hid (HUS4.out.call hb)
      clear hb yy0 yy1 yy2 yy3 yy4 yy5 yy6 yy7 yy8 yy9 yy10 yy11 yy12 yy13
      cases br with
      | false =>
        have hs2 := beq_eq_false_iff_ne.1 HRU.out
        have HOK := Lib.hid (show okY C now T k ((x0, x1), x2, x3, x4, x5, x6, (x7, x8), x9, x10, x11, x12, M) from ⟨HFIT.out, fun h => absurd h hs2⟩)
        have HFT2 := Lib.hid (fitTo_step HFT.out HX.out HOK.out)
        have HU7 := Lib.hid (HUS5.out.more (q := fun n => takenT T (k + 1) n) fun i _ => by
          rw [takenT_step HX.out]
          exact ⟨fun h => .inl h, fun h => h.elim id fun h => absurd h.1 hs2⟩)
        clear hs2
        go_wp2
        go_roundw
        case rel => exact ⟨k + 1, by omega, by go_num, HFT2, HU7, HB5.out⟩
        case measure => simp [intOf]; omega
      | true =>
        have HS2 := Lib.hid (beq_iff_eq.1 HRU.out)
        have y13 := Y5.out.at_ 13 rfl
        have HUS6 := Lib.hid (HUS5.out.more (q := fun n => takenT T k n ∨ n ∈ M.take 0) fun m _ => by simp)
        go_wp2
        go_loopw [38] (fun i wr => ∃ j : Nat, j ≤ M.length ∧ i = .int .i64 j ∧ Hid (Usd wr gu 142 (fun n => takenT T k n ∨ n ∈ M.take j)) ∧ Hid (∀ (q : Nat) (n : Int), q < j → M[q]? = some n → ¬ takenT T k n) ∧ Below w0.heap.size w0 wr) (fun i _ => M.length - (intOf i).toNat)
        case atStart => exact ⟨0, Nat.zero_le _, rfl, HUS6, Lib.hid fun q n h => absurd h (Nat.not_lt_zero _), HB5.out⟩
        case round =>
          obtain ⟨j, hj, rfl, HU5, HNT, hB5⟩ := hrel
          have HB6 := Lib.hid hB5
          have HBW6 := Lib.hid (HB0.out.trans (hB5.mono hz0))
          have hz5 := hB5.size
          have HM5 := Lib.hid (rd_mv I_ok HK.out hB5)
          clear hB5 y13
          by_cases hjl : j < M.length
          · have hdj : decide ((j : Int) < (M.length : Int)) = true := decide_eq_true (by omega)
            obtain ⟨n, hn⟩ := el_some hjl
            have hrg := nodesR_rng (has_nodes HTR.out hjl) hn
            obtain ⟨m, rfl⟩ : ∃ m : Nat, n = (m : Int) := ⟨n.toNat, by omega⟩
            have hm6 : m < 6 := by omega
            have HN := Lib.hid hn
            obtain ⟨gm, om, us5, rfl, hgm, hum, hrm⟩ := HM5.out.at_ hn
            obtain rfl : us5 = [_] := hrm
            have em : wr.cell? ⟨gm, om + j, none⟩ = some (.int .i64 (m : Int)) := by simpa [show I.size = 1 from rfl] using hum 0 _ rfl
            obtain ⟨c, hc1, hc2, hc3⟩ := HU5.out.get hm6
            have HC3 := Lib.hid hc3
            have hj0 : (0 : Int) ≤ (j : Int) := Int.natCast_nonneg _
            have hj1 : (j : Int) < (M.length : Int) := by omega
            have hm0 : (0 : Int) ≤ (m : Int) := Int.natCast_nonneg _
            have hm1 : (m : Int) < 6 := by omega
            have HNOT := Lib.hid (show ¬ ((m : Int) ∈ M.take j) from fun h => by
              obtain ⟨q, hq, he⟩ := List.mem_iff_getElem.1 h
              have hqj : q < j := by have := hq; rw [List.length_take, Nat.min_eq_left (Nat.le_of_lt hjl)] at this; exact this
              rw [List.getElem_take] at he
              have hql : q < M.length := by omega
              have hqe : M[q]? = some (m : Int) := by rw [← he]; exact List.getElem?_eq_getElem hql
              have := nodesR_once (has_nodes HTR.out hjl) (i := q) (j := j) hqe hn
              omega)
            clear hn hum hgm hc3 hrg
            cases c with
            | true =>
              have HV := Lib.hid (show ¬ fitTo C now T T.length from fun h => by have h2 := (h k _ hlt HX.out).2 HS2.out _ (List.mem_of_getElem? HN.out); rcases HC3.out.1 rfl with h3 | h3; exact h2 h3; exact HNOT.out h3)
              go_wp2
              go_ret
              exact resB_no HV.out HBW6.out
            | false =>
              have HFREE := Lib.hid (show ¬ takenT T k (m : Int) from fun h => by have := HC3.out.2 (.inl h); cases this)
              have HNT2 := Lib.hid (show ∀ (q : Nat) (n : Int), q < j + 1 → M[q]? = some n → ¬ takenT T k n from fun q n hq hn => by
                by_cases e : q = j
                · subst e; rw [HN.out] at hn; cases hn; exact HFREE.out
                · exact HNT.out q n (by omega) hn)
              have HU6 := Lib.hid ((HU5.out.put hm6).more (q := fun n => takenT T k n ∨ n ∈ M.take (j + 1)) fun i _ => by
                rw [List.take_add_one, HN.out]
                simp only [Option.toList_some, List.mem_append, List.mem_singleton]
                exact or_assoc)
              have HB7 := Lib.hid (HB6.out.setCell (p := ⟨gu, m, none⟩) (by show w0.heap.size ≤ gu; rw [HGU.out]; exact Nat.le_refl _) (.bool true))
              go_wp2
              go_roundw
              case rel => exact ⟨j + 1, by omega, by go_num, HU6, HNT2, HB7.out⟩
              case measure => simp [intOf]; omega
          · have hdj : decide ((j : Int) < (M.length : Int)) = false := decide_eq_false (by omega)
            obtain rfl : j = M.length := by omega
            have HOK := Lib.hid (show okY C now T k ((x0, x1), x2, x3, x4, x5, x6, (x7, x8), x9, x10, x11, x12, M) from ⟨HFIT.out, fun _ n hn => by
              obtain ⟨q, hq, rfl⟩ := List.mem_iff_getElem.1 hn
              exact HNT.out q _ hq (List.getElem?_eq_getElem hq)⟩)
            have HFT2 := Lib.hid (fitTo_step HFT.out HX.out HOK.out)
            have HU7 := Lib.hid (HU5.out.more (q := fun n => takenT T (k + 1) n) fun i _ => by
              rw [takenT_step HX.out, List.take_length]
              exact ⟨fun h => h.imp id fun h => ⟨HS2.out, h⟩, fun h => h.imp id fun h => h.2⟩)
            go_wp2
            go_roundw
            case rel => exact ⟨k + 1, by omega, by go_num, HFT2, HU7, HB6.out⟩
            case measure => simp [intOf]; omega
    · have hdl : decide ((k : Int) < (T.length : Int)) = false := decide_eq_false (by omega)
      obtain rfl : k = T.length := by omega
      clear hB
      go_wp2
      go_ret
      exact resB_yes HFT.out HBW.out
end Go.Proofs.YtelhmacfljffhaaGreat.RepC
end
section
namespace Go.Proofs.YtelhmacfljffhaaGreat.RepC
open Go.ChangeShapes Go.WideShapes Go.ChangeAt Go.RowKit Go.Joins Go.Deep RowC ValC
set_option maxRecDepth 100000
set_option linter.unusedVariables false
set_option linter.unusedSimpArgs false
theorem c_String : Tryz.prog.cellsOf 9 = 1 := by kernel_rfl
theorem opn_String : Opn St 9 := fun enc W fuel cs y h => by
  obtain ⟨s, rfl, _, hw⟩ := DataW.trod_string Tryz.underlying9 h
  exact ⟨s, rfl, hw⟩
theorem c_Use : Tryz.prog.cellsOf 113 = 4 := by kernel_rfl
theorem opn_Use : Opn R_Use 113 := fun enc W fuel cs y h => by
  obtain ⟨xs, n, _, _, hl, hlen, hf⟩ := DataW.trod_struct Tryz.underlying113 h
  rw [c_Use] at hl
  match cs, hl with
  | [c0, c1, c2, c3], _ =>
    have e2 : xs.length = 3 := hlen
    match xs, e2 with
    | [y0, y1, y2], _ =>
      have g0 := fld hf 0 108 0 2 rfl c_Label
      have g1 := fld hf 1 9 2 1 rfl c_String
      have g2 := fld hf 2 2 3 1 rfl c_int64
      obtain ⟨d0, h0⟩ := opn_Label enc W n [c0, c1] y0 g0
      obtain ⟨d1, h1⟩ := opn_String enc W n [c2] y1 g1
      obtain ⟨d2, h2⟩ := opn_i64 enc W n [c3] y2 g2
      exact ⟨(d0, d1, d2), ⟨[c0, c1], [c2, c3], rfl, h0, ⟨[c2], [c3], rfl, h1, h2⟩⟩⟩
theorem c_UseS : Tryz.prog.cellsOf 29 = 1 := by kernel_rfl
theorem opn_UseS : Opn (Sl R_Use) 29 := opn_sl opn_Use (by decide) Tryz.underlying29 c_Use
end Go.Proofs.YtelhmacfljffhaaGreat.RepC
end
section
namespace Go.Proofs.YtelhmacfljffhaaGreat.RepC
open Go.ChangeShapes Go.WideShapes Go.ChangeAt Go.RowKit Go.Joins Go.Deep RowC ValC
set_option maxRecDepth 100000
set_option linter.unusedVariables false
set_option linter.unusedSimpArgs false
theorem c_Task : Tryz.prog.cellsOf 110 = 14 := by kernel_rfl
theorem opn_Task : Opn R_Task 110 := fun enc W fuel cs y h => by
  obtain ⟨xs, n, _, _, hl, hlen, hf⟩ := DataW.trod_struct Tryz.underlying110 h
  rw [c_Task] at hl
  match cs, hl with
  | [c0, c1, c2, c3, c4, c5, c6, c7, c8, c9, c10, c11, c12, c13], _ =>
    have e2 : xs.length = 12 := hlen
    match xs, e2 with
    | [y0, y1, y2, y3, y4, y5, y6, y7, y8, y9, y10, y11], _ =>
      have g0 := fld hf 0 108 0 2 rfl c_Label
      have g1 := fld hf 1 2 2 1 rfl c_int64
      have g2 := fld hf 2 9 3 1 rfl c_String
      have g3 := fld hf 3 2 4 1 rfl c_int64
      have g4 := fld hf 4 2 5 1 rfl c_int64
      have g5 := fld hf 5 2 6 1 rfl c_int64
      have g6 := fld hf 6 108 7 2 rfl c_Label
      have g7 := fld hf 7 2 9 1 rfl c_int64
      have g8 := fld hf 8 2 10 1 rfl c_int64
      have g9 := fld hf 9 2 11 1 rfl c_int64
      have g10 := fld hf 10 2 12 1 rfl c_int64
      have g11 := fld hf 11 68 13 1 rfl c_i64s
      obtain ⟨d0, h0⟩ := opn_Label enc W n [c0, c1] y0 g0
      obtain ⟨d1, h1⟩ := opn_i64 enc W n [c2] y1 g1
      obtain ⟨d2, h2⟩ := opn_String enc W n [c3] y2 g2
      obtain ⟨d3, h3⟩ := opn_i64 enc W n [c4] y3 g3
      obtain ⟨d4, h4⟩ := opn_i64 enc W n [c5] y4 g4
      obtain ⟨d5, h5⟩ := opn_i64 enc W n [c6] y5 g5
      obtain ⟨d6, h6⟩ := opn_Label enc W n [c7, c8] y6 g6
      obtain ⟨d7, h7⟩ := opn_i64 enc W n [c9] y7 g7
      obtain ⟨d8, h8⟩ := opn_i64 enc W n [c10] y8 g8
      obtain ⟨d9, h9⟩ := opn_i64 enc W n [c11] y9 g9
      obtain ⟨d10, h10⟩ := opn_i64 enc W n [c12] y10 g10
      obtain ⟨d11, h11⟩ := opn_i64s enc W n [c13] y11 g11
      exact ⟨(d0, d1, d2, d3, d4, d5, d6, d7, d8, d9, d10, d11), ⟨[c0, c1], [c2, c3, c4, c5, c6, c7, c8, c9, c10, c11, c12, c13], rfl, h0, ⟨[c2], [c3, c4, c5, c6, c7, c8, c9, c10, c11, c12, c13], rfl, h1, ⟨[c3], [c4, c5, c6, c7, c8, c9, c10, c11, c12, c13], rfl, h2, ⟨[c4], [c5, c6, c7, c8, c9, c10, c11, c12, c13], rfl, h3, ⟨[c5], [c6, c7, c8, c9, c10, c11, c12, c13], rfl, h4, ⟨[c6], [c7, c8, c9, c10, c11, c12, c13], rfl, h5, ⟨[c7, c8], [c9, c10, c11, c12, c13], rfl, h6, ⟨[c9], [c10, c11, c12, c13], rfl, h7, ⟨[c10], [c11, c12, c13], rfl, h8, ⟨[c11], [c12, c13], rfl, h9, ⟨[c12], [c13], rfl, h10, h11⟩⟩⟩⟩⟩⟩⟩⟩⟩⟩⟩⟩
theorem c_TaskS : Tryz.prog.cellsOf 28 = 1 := by kernel_rfl
theorem opn_TaskS : Opn (Sl R_Task) 28 := opn_sl opn_Task (by decide) Tryz.underlying28 c_Task
end Go.Proofs.YtelhmacfljffhaaGreat.RepC
end
section
namespace Go.Proofs.YtelhmacfljffhaaGreat.RepC
open Go.RowKit RowC ValC SpanC KeptC
set_option linter.unusedVariables false
set_option linter.unusedSimpArgs false
theorem taskI_w {x : D_Task} {cs : List Value} {W : World} (h : R_Task.rd W W.heap.size x cs) : Calls Tryz.prog 93 #[.agg cs.toArray] W fun e w' => e = .returned (.bool (taskB x)) ∧ Below W.heap.size W w' := by
  obtain ⟨⟨x0, x1⟩, x2, x3, x4, x5, x6, ⟨x7, x8⟩, x9, x10, x11, x12, M⟩ := x
  obtain ⟨ba, bc, rfl, k, b⟩ := rd_Task h
  exact (taskP_impl b k).mono fun e w' h => resB_is taskB_iff h
end Go.Proofs.YtelhmacfljffhaaGreat.RepC
end
section
namespace Go.Proofs.YtelhmacfljffhaaGreat.RepC
open Go.RowKit RowC ValC SpanC KeptC NameC SortC
set_option linter.unusedVariables false
set_option linter.unusedSimpArgs false
theorem bylab_w (a0 a1 b0 b1 : Int) (V : World) : Calls Tryz.prog 143 #[.agg #[.int .i64 a0, .int .i64 a1], .agg #[.int .i64 b0, .int .i64 b1]] V fun e w' => e = .returned (.int .i64 (labI a0 a1 b0 b1)) ∧ Below V.heap.size V w' :=
  (bylab_v a0 a1 b0 b1 V).mono fun e w' ⟨h1, h2⟩ => ⟨h1, by rw [h2]; exact (((Below.refl V.heap.size V).alloc (Nat.le_refl _) _).alloc (by simp) _).drew.alloc (by simp; omega) _⟩
theorem labI3 (a0 a1 b0 b1 : Int) : (labI a0 a1 b0 b1 = -1 ∧ ltLb (a0, a1) (b0, b1)) ∨ (labI a0 a1 b0 b1 = 0 ∧ ((a0, a1) : Int × Int) = (b0, b1)) ∨ (labI a0 a1 b0 b1 = 1 ∧ ltLb (b0, b1) (a0, a1)) := by
  unfold labI orI ltLb
  rcases cmpI a0 b0 with ⟨e1, h1⟩ | ⟨e1, h1⟩ | ⟨e1, h1⟩ <;> rcases cmpI a1 b1 with ⟨e2, h2⟩ | ⟨e2, h2⟩ | ⟨e2, h2⟩ <;> rw [e1, e2] <;> simp <;> omega
def cfK (x y : D_Label × Int) : Int := orI [labI x.1.1 x.1.2 y.1.1 y.1.2, Lib.compareInt x.2 y.2]
theorem cfK_cases (x y : D_Label × Int) : (cfK x y = -1 ∧ ltK x y) ∨ (cfK x y = 0 ∧ x = y) ∨ (cfK x y = 1 ∧ ltK y x) := by
  obtain ⟨⟨a0, a1⟩, a2⟩ := x
  obtain ⟨⟨b0, b1⟩, b2⟩ := y
  unfold cfK ltK
  simp only
  rcases labI3 a0 a1 b0 b1 with ⟨e1, h1⟩ | ⟨e1, h1⟩ | ⟨e1, h1⟩
  · left; rw [e1]; exact ⟨rfl, .inl h1⟩
  · obtain ⟨rfl, rfl⟩ : a0 = b0 ∧ a1 = b1 := by simpa using h1
    rcases cmpI a2 b2 with ⟨e2, h2⟩ | ⟨e2, h2⟩ | ⟨e2, h2⟩
    · left; rw [e1, e2]; exact ⟨rfl, .inr ⟨rfl, h2⟩⟩
    · right; left; subst h2; rw [e1, e2]; exact ⟨rfl, rfl⟩
    · right; right; rw [e1, e2]; exact ⟨rfl, .inr ⟨rfl, h2⟩⟩
  · right; right; rw [e1]; exact ⟨rfl, .inl h1⟩
theorem cfK_neg (x y : D_Label × Int) : cfK x y < 0 ↔ ltK x y := by
  rcases cfK_cases x y with ⟨e, h⟩ | ⟨e, h⟩ | ⟨e, h⟩ <;> rw [e]
  · simp [h]
  · subst h; simp [ltK_irrefl]
  · constructor
    · intro h2; omega
    · intro h2; exact absurd (ltK_trans h h2) ltK_irrefl
theorem cfK_zero (x y : D_Label × Int) : cfK x y = 0 ↔ x = y := by
  rcases cfK_cases x y with ⟨e, h⟩ | ⟨e, h⟩ | ⟨e, h⟩ <;> rw [e]
  · constructor
    · intro h2; omega
    · intro h2; subst h2; exact absurd h ltK_irrefl
  · simp [h]
  · constructor
    · intro h2; omega
    · intro h2; subst h2; exact absurd h ltK_irrefl
set_option maxRecDepth 100000 in
set_option maxHeartbeats 3200000 in
theorem cmpT_w {x0 x1 x2 : Int} {x3 : ByteArray} {x4 x5 x6 x7 x8 x9 x10 x11 x12 : Int} {L : List Int} {a : Option Addr} {c : Nat} {y0 y1 y2 : Int} {y3 : ByteArray} {y4 y5 y6 y7 y8 y9 y10 y11 y12 : Int} {M : List Int} {b : Option Addr} {d : Nat} {W : World} :
    Calls Tryz.prog 187 #[.agg #[.int .i64 x0, .int .i64 x1, .int .i64 x2, .string x3, .int .i64 x4, .int .i64 x5, .int .i64 x6, .int .i64 x7, .int .i64 x8, .int .i64 x9, .int .i64 x10, .int .i64 x11, .int .i64 x12, .slice a L.length c], .agg #[.int .i64 y0, .int .i64 y1, .int .i64 y2, .string y3, .int .i64 y4, .int .i64 y5, .int .i64 y6, .int .i64 y7, .int .i64 y8, .int .i64 y9, .int .i64 y10, .int .i64 y11, .int .i64 y12, .slice b M.length d]] W fun e w' => e = .returned (.int .i64 (cfK ((x0, x1), x2) ((y0, y1), y2))) ∧ Below W.heap.size W w' := by
  obtain ⟨V0, hV0⟩ : ∃ V0, V0 = ((W.alloc (.cells #[.int .i64 x0, .int .i64 x1, .int .i64 x2, .string x3, .int .i64 x4, .int .i64 x5, .int .i64 x6, .int .i64 x7, .int .i64 x8, .int .i64 x9, .int .i64 x10, .int .i64 x11, .int .i64 x12, .slice a L.length c] 70)).alloc (.cells #[.int .i64 y0, .int .i64 y1, .int .i64 y2, .string y3, .int .i64 y4, .int .i64 y5, .int .i64 y6, .int .i64 y7, .int .i64 y8, .int .i64 y9, .int .i64 y10, .int .i64 y11, .int .i64 y12, .slice b M.length d] 70)) := ⟨_, rfl⟩
  have HB0 := Lib.hid (show Below W.heap.size W V0 from by rw [hV0]; exact ((Below.refl _ _).alloc (Nat.le_refl _) _).alloc (by simp) _)
  have BA := Lib.hid (show Blk V0 W.heap.size 70 #[.int .i64 x0, .int .i64 x1, .int .i64 x2, .string x3, .int .i64 x4, .int .i64 x5, .int .i64 x6, .int .i64 x7, .int .i64 x8, .int .i64 x9, .int .i64 x10, .int .i64 x11, .int .i64 x12, .slice a L.length c] from by rw [hV0]; exact (Blk.new W _ _).alloc _)
  have BB := Lib.hid (show Blk V0 (W.heap.size + 1) 70 #[.int .i64 y0, .int .i64 y1, .int .i64 y2, .string y3, .int .i64 y4, .int .i64 y5, .int .i64 y6, .int .i64 y7, .int .i64 y8, .int .i64 y9, .int .i64 y10, .int .i64 y11, .int .i64 y12, .slice b M.length d] from by
    have h9 := Blk.new (W.alloc (.cells #[.int .i64 x0, .int .i64 x1, .int .i64 x2, .string x3, .int .i64 x4, .int .i64 x5, .int .i64 x6, .int .i64 x7, .int .i64 x8, .int .i64 x9, .int .i64 x10, .int .i64 x11, .int .i64 x12, .slice a L.length c] 70)) 70 #[.int .i64 y0, .int .i64 y1, .int .i64 y2, .string y3, .int .i64 y4, .int .i64 y5, .int .i64 y6, .int .i64 y7, .int .i64 y8, .int .i64 y9, .int .i64 y10, .int .i64 y11, .int .i64 y12, .slice b M.length d]
    simp only [World.size_alloc] at h9
    rw [hV0]; exact h9)
  go_enter Tryz.func187, Tryz.ntmps187
  go_wp2_with fail
  rw [← hV0]
  clear hV0
  refine wp_region_held_drew (S := (fun V => Below (V0).heap.size (V0) V)) (by kernel_rfl) ((Below.refl _ _).drew) (fun hHeld => ?_)
  refine tk 0 hHeld ?_
  refine tk 1 hHeld ?_ (hy := fun w hSw => by (try dsimp only at hSw); have k0 := (hSw.cell (p := ⟨W.heap.size, 0, none⟩) BA.out.lt).trans (BA.out.at_ 0 rfl); have k1 := (hSw.cell (p := ⟨W.heap.size, 1, none⟩) BA.out.lt).trans (BA.out.at_ 1 rfl); clear hSw; go_simp; try with_reducible rfl)
  refine tk 2 hHeld ?_
  refine tk 3 hHeld ?_ (hy := fun w hSw => by (try dsimp only at hSw); have k0 := (hSw.cell (p := ⟨W.heap.size + 1, 0, none⟩) BB.out.lt).trans (BB.out.at_ 0 rfl); have k1 := (hSw.cell (p := ⟨W.heap.size + 1, 1, none⟩) BB.out.lt).trans (BB.out.at_ 1 rfl); clear hSw; go_simp; try with_reducible rfl)
  refine tk 5 hHeld ?_
  refine tk 6 hHeld ?_ (hy := fun w hSw => by (try dsimp only at hSw); have k0 := (hSw.cell (p := ⟨W.heap.size, 2, none⟩) BA.out.lt).trans (BA.out.at_ 2 rfl); clear hSw; go_simp; try with_reducible rfl)
  refine tk 7 hHeld ?_
  refine tk 8 hHeld ?_ (hy := fun w hSw => by (try dsimp only at hSw); have k0 := (hSw.cell (p := ⟨W.heap.size + 1, 2, none⟩) BB.out.lt).trans (BB.out.at_ 2 rfl); clear hSw; go_simp; try with_reducible rfl)
  refine rd1 4 (fun K hK => ?_)
  go_simp
  go_at_call 143
  refine (bylab_w x0 x1 y0 y1 _).mono ?_
  rintro e w1 ⟨rfl, hb⟩
  refine hK.out _ _ (hHeld.trans (hb.mono hHeld.size)) (fun hHeld => ?_)
  clear hK K hb
  refine rd1 9 (fun K hK => ?_)
  go_simp
  go_at_call 179
  refine (cmp64 x2 y2 _).mono ?_
  rintro e w2 ⟨rfl, rfl⟩
  have hb := Below.refl w2.heap.size w2
  refine hK.out _ _ (hHeld.trans (hb.mono hHeld.size)) (fun hHeld => ?_)
  clear hK K hb
  refine rd1 10 (fun K hK => ?_)
  go_simp
  have hb := (Below.refl w2.heap.size w2).alloc (Nat.le_refl _) (.cells #[.int .i64 (labI x0 x1 y0 y1), .int .i64 (Lib.compareInt x2 y2)] 3)
  have HS4 := Lib.hid (Blk.new w2 3 #[.int .i64 (labI x0 x1 y0 y1), .int .i64 (Lib.compareInt x2 y2)])
  refine hK.out _ _ (hHeld.trans (hb.mono hHeld.size)) (fun hHeld => ?_)
  clear hK K hb
  refine rd1 11 (fun K hK => ?_)
  go_simp
  go_at_call 155
  refine (or2_v _ _ _ _ HS4.out).mono ?_
  rintro e w3 ⟨rfl, rfl⟩
  have hb := Below.refl (w2.alloc (.cells #[.int .i64 (labI x0 x1 y0 y1), .int .i64 (Lib.compareInt x2 y2)] 3)).heap.size (w2.alloc (.cells #[.int .i64 (labI x0 x1 y0 y1), .int .i64 (Lib.compareInt x2 y2)] 3))
  refine hK.out _ _ (hHeld.trans (hb.mono hHeld.size)) (fun hHeld => ?_)
  clear hK K hb
  refine tk 12 hHeld ?_
  refine rd0 ?_
  have HF := Lib.hid hHeld
  clear hHeld
  have HB1 := Lib.hid (HB0.out.trans (HF.out.mono HB0.out.size))
  go_wp2
  go_ret
  exact ⟨rfl, HB1.out⟩
abbrev tgt (y0 y1 y2 : Int) : Value := .agg #[.int .i64 y0, .int .i64 y1, .int .i64 y2, .string ⟨#[]⟩, .int .i64 0, .int .i64 0, .int .i64 0, .int .i64 0, .int .i64 0, .int .i64 0, .int .i64 0, .int .i64 0, .int .i64 0, .slice none 0 0]
def Cut (L : List D_Task) (a : D_Label × Int) (lo hi : Nat) : Prop := (∀ i x, i < lo → L[i]? = some x → ltK (tKey x) a) ∧ (∀ i x, hi ≤ i → L[i]? = some x → ¬ ltK (tKey x) a)
theorem cut_up {L : List D_Task} {a : D_Label × Int} {lo hi m : Nat} {x : D_Task} (h : Cut L a lo hi) (hi' : IncT L L.length) (hx : L[m]? = some x) (hk : ltK (tKey x) a) : Cut L a (m + 1) hi := ⟨fun i y hi1 hy => by
  by_cases e : i = m
  · subst e; rw [hx] at hy; cases hy; exact hk
  · exact ltK_trans (hi' i m y x (by omega) (List.getElem?_eq_some_iff.1 hx).1 hy hx) hk, h.2⟩
theorem cut_dn {L : List D_Task} {a : D_Label × Int} {lo hi m : Nat} {x : D_Task} (h : Cut L a lo hi) (hi' : IncT L L.length) (hx : L[m]? = some x) (hk : ¬ ltK (tKey x) a) : Cut L a lo m := ⟨h.1, fun i y hi1 hy hl => by
  by_cases e : i = m
  · subst e; rw [hx] at hy; cases hy; exact hk hl
  · exact hk (ltK_trans (hi' m i x y (by omega) (List.getElem?_eq_some_iff.1 hy).1 hx hy) hl)⟩
theorem cut_hit {L : List D_Task} {a : D_Label × Int} {k : Nat} {x : D_Task} (h : Cut L a k k) (hx : L[k]? = some x) (hk : tKey x = a) : atT L a = (k : Int) :=
  atT_hit (fun i y hi hy he => by have := h.1 i y hi hy; rw [he] at this; exact ltK_irrefl this) hx hk
theorem cut_miss {L : List D_Task} {a : D_Label × Int} {k : Nat} (h : Cut L a k k) (hi' : IncT L L.length) (hk : ∀ x, L[k]? = some x → tKey x ≠ a) : atT L a = -1 :=
  atT_miss fun i y hi hy he => by
    rcases Nat.lt_trichotomy i k with h1 | h1 | h1
    · have := h.1 i y h1 hy; rw [he] at this; exact ltK_irrefl this
    · subst h1; exact hk y hy he
    · obtain ⟨x, hx⟩ : ∃ x, L[k]? = some x := ⟨L[k], List.getElem?_eq_getElem (by omega)⟩
      have := hi' k i x y h1 hi hx hy
      rw [he] at this
      exact h.2 k x (Nat.le_refl _) hx this
set_option maxRecDepth 100000 in
set_option maxHeartbeats 3200000 in
theorem bsT_w {L : List D_Task} {a : Option Addr} {cap : Nat} {y0 y1 y2 : Int} {W : World} (hn : L.length ≤ 1048576) (hI : IncT L L.length) (h : RdSl R_Task W W.heap.size L a cap) :
    Calls Tryz.prog 186 #[.slice a L.length cap, tgt y0 y1 y2, .func (.func 187) #[] #[]] W fun e w' => (∃ k : Nat, ∃ b : Bool, e = .returned (.tuple #[.int .i64 k, .bool b]) ∧ (b = true → atT L ((y0, y1), y2) = (k : Int)) ∧ (b = false → atT L ((y0, y1), y2) = -1) ∧ Cut L ((y0, y1), y2) k k) ∧ Below W.heap.size W w' := by
  have H := Lib.hid h
  have HI := Lib.hid hI
  clear h hI
  obtain ⟨wo, hwo⟩ : ∃ w, w = W.alloc (.cells #[.int .i64 y0, .int .i64 y1, .int .i64 y2, .string ⟨#[]⟩, .int .i64 0, .int .i64 0, .int .i64 0, .int .i64 0, .int .i64 0, .int .i64 0, .int .i64 0, .int .i64 0, .int .i64 0, .slice none 0 0] 70) := ⟨_, rfl⟩
  have HB0 := Lib.hid (show Below W.heap.size W wo from by rw [hwo]; exact (Below.refl _ _).alloc (Nat.le_refl _) _)
  have HP0 := Lib.hid (show Blk wo W.heap.size 70 #[.int .i64 y0, .int .i64 y1, .int .i64 y2, .string ⟨#[]⟩, .int .i64 0, .int .i64 0, .int .i64 0, .int .i64 0, .int .i64 0, .int .i64 0, .int .i64 0, .int .i64 0, .int .i64 0, .slice none 0 0] from by rw [hwo]; exact Blk.new _ _ _)
  have eg : ∀ args w, (callFunc 187 args).run Tryz.prog w = .ok (.enter 187 args) w := fun _ _ => rfl
  have HCT := Lib.hid (⟨fun i x hi => absurd hi (Nat.not_lt_zero _), fun i x hi hx => absurd (List.getElem?_eq_some_iff.1 hx).1 (by omega)⟩ : Cut L ((y0, y1), y2) 0 L.length)
  go_enter Tryz.func186, Tryz.ntmps186
  go_wp2_with fail
  rw [← hwo]
  clear hwo
  go_loopw [9, 10] (fun s9 s10 wr => ∃ lo hi : Nat, s9 = .int .i64 lo ∧ s10 = .int .i64 hi ∧ lo ≤ hi ∧ hi ≤ L.length ∧ Hid (Cut L ((y0, y1), y2) lo hi) ∧ Below wo.heap.size wo wr) (fun s9 s10 _ => (intOf s10).toNat - (intOf s9).toNat)
  case atStart => exact ⟨0, L.length, rfl, rfl, Nat.zero_le _, Nat.le_refl _, HCT, Below.refl _ _⟩
  case round =>
    obtain ⟨lo, hi, rfl, rfl, hlh, hin, HC, hB⟩ := hrel
    have HB := Lib.hid (HB0.out.trans (hB.mono HB0.out.size))
    have HP := Lib.hid (HP0.out.call hB)
    have hszW := HB.out.size
    have hB0 := Lib.hid hB
    clear hB
    by_cases hlt : lo < hi
    · obtain ⟨m, hm⟩ : ∃ m, m = (lo + hi) / 2 := ⟨_, rfl⟩
      have hm1 : lo ≤ m := by omega
      have hm2 : m < hi := by omega
      have hmid : ((lo : Int) + (hi : Int)) / 2 = (m : Int) := by omega
      clear hm
      obtain ⟨⟨⟨x0, x1⟩, x2, x3, x4, x5, x6, ⟨x7, x8⟩, x9, x10, x11, x12, M⟩, hx⟩ := el_some (show m < L.length by omega)
      have HX := Lib.hid hx
      obtain ⟨g, o, us, rfl, hg, hu, hr⟩ := (H.out.below R_Task_ok HB.out).at_ hx
      obtain ⟨ba, bc, rfl, k_M, b_x3⟩ := rd_Task hr
      have e0 : wr.cell? ⟨g, o + m * 14, none⟩ = some (.int .i64 x0) := by simpa [size_TaskS, Nat.add_assoc] using hu 0 _ rfl
      have e1 : wr.cell? ⟨g, o + m * 14 + 1, none⟩ = some (.int .i64 x1) := by simpa [size_TaskS, Nat.add_assoc] using hu 1 _ rfl
      have e2 : wr.cell? ⟨g, o + m * 14 + 2, none⟩ = some (.int .i64 x2) := by simpa [size_TaskS, Nat.add_assoc] using hu 2 _ rfl
      have e3 : wr.cell? ⟨g, o + m * 14 + 3, none⟩ = some (.string x3) := by simpa [size_TaskS, Nat.add_assoc] using hu 3 _ rfl
      have e4 : wr.cell? ⟨g, o + m * 14 + 4, none⟩ = some (.int .i64 x4) := by simpa [size_TaskS, Nat.add_assoc] using hu 4 _ rfl
      have e5 : wr.cell? ⟨g, o + m * 14 + 5, none⟩ = some (.int .i64 x5) := by simpa [size_TaskS, Nat.add_assoc] using hu 5 _ rfl
      have e6 : wr.cell? ⟨g, o + m * 14 + 6, none⟩ = some (.int .i64 x6) := by simpa [size_TaskS, Nat.add_assoc] using hu 6 _ rfl
      have e7 : wr.cell? ⟨g, o + m * 14 + 7, none⟩ = some (.int .i64 x7) := by simpa [size_TaskS, Nat.add_assoc] using hu 7 _ rfl
      have e8 : wr.cell? ⟨g, o + m * 14 + 8, none⟩ = some (.int .i64 x8) := by simpa [size_TaskS, Nat.add_assoc] using hu 8 _ rfl
      have e9 : wr.cell? ⟨g, o + m * 14 + 9, none⟩ = some (.int .i64 x9) := by simpa [size_TaskS, Nat.add_assoc] using hu 9 _ rfl
      have e10 : wr.cell? ⟨g, o + m * 14 + 10, none⟩ = some (.int .i64 x10) := by simpa [size_TaskS, Nat.add_assoc] using hu 10 _ rfl
      have e11 : wr.cell? ⟨g, o + m * 14 + 11, none⟩ = some (.int .i64 x11) := by simpa [size_TaskS, Nat.add_assoc] using hu 11 _ rfl
      have e12 : wr.cell? ⟨g, o + m * 14 + 12, none⟩ = some (.int .i64 x12) := by simpa [size_TaskS, Nat.add_assoc] using hu 12 _ rfl
      have e13 : wr.cell? ⟨g, o + m * 14 + 13, none⟩ = some (.slice ba M.length bc) := by simpa [size_TaskS, Nat.add_assoc] using hu 13 _ rfl
      have hi0 : (0 : Int) ≤ (m : Int) := Int.natCast_nonneg _
      have hi1 : (m : Int) < (L.length : Int) := by omega
      have hgl : g < wr.heap.size := Nat.lt_of_lt_of_le hg hszW
      have hC := fun V => cmpT_w (x0 := x0) (x1 := x1) (x2 := x2) (x3 := x3) (x4 := x4) (x5 := x5) (x6 := x6) (x7 := x7) (x8 := x8) (x9 := x9) (x10 := x10) (x11 := x11) (x12 := x12) (L := M) (a := ba) (c := bc) (y0 := y0) (y1 := y1) (y2 := y2) (y3 := ⟨#[]⟩) (y4 := 0) (y5 := 0) (y6 := 0) (y7 := 0) (y8 := 0) (y9 := 0) (y10 := 0) (y11 := 0) (y12 := 0) (M := []) (b := none) (d := 0) (W := V)
      obtain ⟨r, hr9⟩ : ∃ r, cfK ((x0, x1), x2) ((y0, y1), y2) = r := ⟨_, rfl⟩
      rw [hr9] at hC
      clear hu hr hg hx k_M
      by_cases hneg : r < 0
      · have HC2 := Lib.hid (cut_up HC.out HI.out HX.out ((cfK_neg _ _).1 (by show cfK ((x0, x1), x2) _ < 0; rw [hr9]; exact hneg)))
        have hd : decide (r < 0) = true := decide_eq_true hneg
        clear hr9
        go_wp2_with fail
        refine wp_region_held_drew (S := (fun V => Below (wr).heap.size (wr) V)) (by kernel_rfl) ((Below.refl _ _).drew) (fun hHeld => ?_)
        refine tk 0 hHeld ?_
        refine tk 1 hHeld ?_
        refine tk 2 hHeld ?_
        refine tk 3 hHeld ?_
        refine tk 4 hHeld ?_ (hy := fun w hSw => by (try dsimp only at hSw); have k0 := (hSw.cell (p := ⟨g, o + m * 14, none⟩) hgl).trans e0; have k1 := (hSw.cell (p := ⟨g, o + m * 14 + 1, none⟩) hgl).trans e1; have k2 := (hSw.cell (p := ⟨g, o + m * 14 + 2, none⟩) hgl).trans e2; have k3 := (hSw.cell (p := ⟨g, o + m * 14 + 3, none⟩) hgl).trans e3; have k4 := (hSw.cell (p := ⟨g, o + m * 14 + 4, none⟩) hgl).trans e4; have k5 := (hSw.cell (p := ⟨g, o + m * 14 + 5, none⟩) hgl).trans e5; have k6 := (hSw.cell (p := ⟨g, o + m * 14 + 6, none⟩) hgl).trans e6; have k7 := (hSw.cell (p := ⟨g, o + m * 14 + 7, none⟩) hgl).trans e7; have k8 := (hSw.cell (p := ⟨g, o + m * 14 + 8, none⟩) hgl).trans e8; have k9 := (hSw.cell (p := ⟨g, o + m * 14 + 9, none⟩) hgl).trans e9; have k10 := (hSw.cell (p := ⟨g, o + m * 14 + 10, none⟩) hgl).trans e10; have k11 := (hSw.cell (p := ⟨g, o + m * 14 + 11, none⟩) hgl).trans e11; have k12 := (hSw.cell (p := ⟨g, o + m * 14 + 12, none⟩) hgl).trans e12; have k13 := (hSw.cell (p := ⟨g, o + m * 14 + 13, none⟩) hgl).trans e13; clear hSw; go_simp; try with_reducible rfl)
        refine tk 5 hHeld ?_ (hy := fun w hSw => by (try dsimp only at hSw); have k0 := (hSw.cell (p := ⟨W.heap.size, 0, none⟩) HP.out.lt).trans (HP.out.at_ 0 rfl); have k1 := (hSw.cell (p := ⟨W.heap.size, 1, none⟩) HP.out.lt).trans (HP.out.at_ 1 rfl); have k2 := (hSw.cell (p := ⟨W.heap.size, 2, none⟩) HP.out.lt).trans (HP.out.at_ 2 rfl); have k3 := (hSw.cell (p := ⟨W.heap.size, 3, none⟩) HP.out.lt).trans (HP.out.at_ 3 rfl); have k4 := (hSw.cell (p := ⟨W.heap.size, 4, none⟩) HP.out.lt).trans (HP.out.at_ 4 rfl); have k5 := (hSw.cell (p := ⟨W.heap.size, 5, none⟩) HP.out.lt).trans (HP.out.at_ 5 rfl); have k6 := (hSw.cell (p := ⟨W.heap.size, 6, none⟩) HP.out.lt).trans (HP.out.at_ 6 rfl); have k7 := (hSw.cell (p := ⟨W.heap.size, 7, none⟩) HP.out.lt).trans (HP.out.at_ 7 rfl); have k8 := (hSw.cell (p := ⟨W.heap.size, 8, none⟩) HP.out.lt).trans (HP.out.at_ 8 rfl); have k9 := (hSw.cell (p := ⟨W.heap.size, 9, none⟩) HP.out.lt).trans (HP.out.at_ 9 rfl); have k10 := (hSw.cell (p := ⟨W.heap.size, 10, none⟩) HP.out.lt).trans (HP.out.at_ 10 rfl); have k11 := (hSw.cell (p := ⟨W.heap.size, 11, none⟩) HP.out.lt).trans (HP.out.at_ 11 rfl); have k12 := (hSw.cell (p := ⟨W.heap.size, 12, none⟩) HP.out.lt).trans (HP.out.at_ 12 rfl); have k13 := (hSw.cell (p := ⟨W.heap.size, 13, none⟩) HP.out.lt).trans (HP.out.at_ 13 rfl); clear hSw; go_simp; try with_reducible rfl)
        refine rd1 6 (fun K hK => ?_)
        go_simp
        go_at_fn 187
        refine (hC _).mono ?_
        rintro e w9 ⟨rfl, hb⟩
        refine hK.out _ _ (hHeld.trans (hb.mono hHeld.size)) (fun hHeld => ?_)
        clear hK K hb
        refine tk 7 hHeld ?_
        refine rd0 ?_
        have HF := Lib.hid hHeld
        clear hHeld
        have HB2 := Lib.hid (HB.out.trans (HF.out.mono hszW))
        have HB3 := Lib.hid (hB0.out.trans (HF.out.mono hB0.out.size))
        go_wp2
        go_roundw
        case rel => exact ⟨m + 1, hi, by go_num, rfl, by omega, hin, HC2, HB3.out⟩
        case measure => simp [intOf]; omega
      · have HC2 := Lib.hid (cut_dn HC.out HI.out HX.out (fun h => hneg (by have := (cfK_neg _ _).2 h; rw [← hr9]; exact this)))
        have hd : decide (r < 0) = false := decide_eq_false hneg
        clear hr9
        go_wp2_with fail
        refine wp_region_held_drew (S := (fun V => Below (wr).heap.size (wr) V)) (by kernel_rfl) ((Below.refl _ _).drew) (fun hHeld => ?_)
        refine tk 0 hHeld ?_
        refine tk 1 hHeld ?_
        refine tk 2 hHeld ?_
        refine tk 3 hHeld ?_
        refine tk 4 hHeld ?_ (hy := fun w hSw => by (try dsimp only at hSw); have k0 := (hSw.cell (p := ⟨g, o + m * 14, none⟩) hgl).trans e0; have k1 := (hSw.cell (p := ⟨g, o + m * 14 + 1, none⟩) hgl).trans e1; have k2 := (hSw.cell (p := ⟨g, o + m * 14 + 2, none⟩) hgl).trans e2; have k3 := (hSw.cell (p := ⟨g, o + m * 14 + 3, none⟩) hgl).trans e3; have k4 := (hSw.cell (p := ⟨g, o + m * 14 + 4, none⟩) hgl).trans e4; have k5 := (hSw.cell (p := ⟨g, o + m * 14 + 5, none⟩) hgl).trans e5; have k6 := (hSw.cell (p := ⟨g, o + m * 14 + 6, none⟩) hgl).trans e6; have k7 := (hSw.cell (p := ⟨g, o + m * 14 + 7, none⟩) hgl).trans e7; have k8 := (hSw.cell (p := ⟨g, o + m * 14 + 8, none⟩) hgl).trans e8; have k9 := (hSw.cell (p := ⟨g, o + m * 14 + 9, none⟩) hgl).trans e9; have k10 := (hSw.cell (p := ⟨g, o + m * 14 + 10, none⟩) hgl).trans e10; have k11 := (hSw.cell (p := ⟨g, o + m * 14 + 11, none⟩) hgl).trans e11; have k12 := (hSw.cell (p := ⟨g, o + m * 14 + 12, none⟩) hgl).trans e12; have k13 := (hSw.cell (p := ⟨g, o + m * 14 + 13, none⟩) hgl).trans e13; clear hSw; go_simp; try with_reducible rfl)
        refine tk 5 hHeld ?_ (hy := fun w hSw => by (try dsimp only at hSw); have k0 := (hSw.cell (p := ⟨W.heap.size, 0, none⟩) HP.out.lt).trans (HP.out.at_ 0 rfl); have k1 := (hSw.cell (p := ⟨W.heap.size, 1, none⟩) HP.out.lt).trans (HP.out.at_ 1 rfl); have k2 := (hSw.cell (p := ⟨W.heap.size, 2, none⟩) HP.out.lt).trans (HP.out.at_ 2 rfl); have k3 := (hSw.cell (p := ⟨W.heap.size, 3, none⟩) HP.out.lt).trans (HP.out.at_ 3 rfl); have k4 := (hSw.cell (p := ⟨W.heap.size, 4, none⟩) HP.out.lt).trans (HP.out.at_ 4 rfl); have k5 := (hSw.cell (p := ⟨W.heap.size, 5, none⟩) HP.out.lt).trans (HP.out.at_ 5 rfl); have k6 := (hSw.cell (p := ⟨W.heap.size, 6, none⟩) HP.out.lt).trans (HP.out.at_ 6 rfl); have k7 := (hSw.cell (p := ⟨W.heap.size, 7, none⟩) HP.out.lt).trans (HP.out.at_ 7 rfl); have k8 := (hSw.cell (p := ⟨W.heap.size, 8, none⟩) HP.out.lt).trans (HP.out.at_ 8 rfl); have k9 := (hSw.cell (p := ⟨W.heap.size, 9, none⟩) HP.out.lt).trans (HP.out.at_ 9 rfl); have k10 := (hSw.cell (p := ⟨W.heap.size, 10, none⟩) HP.out.lt).trans (HP.out.at_ 10 rfl); have k11 := (hSw.cell (p := ⟨W.heap.size, 11, none⟩) HP.out.lt).trans (HP.out.at_ 11 rfl); have k12 := (hSw.cell (p := ⟨W.heap.size, 12, none⟩) HP.out.lt).trans (HP.out.at_ 12 rfl); have k13 := (hSw.cell (p := ⟨W.heap.size, 13, none⟩) HP.out.lt).trans (HP.out.at_ 13 rfl); clear hSw; go_simp; try with_reducible rfl)
        refine rd1 6 (fun K hK => ?_)
        go_simp
        go_at_fn 187
        refine (hC _).mono ?_
        rintro e w9 ⟨rfl, hb⟩
        refine hK.out _ _ (hHeld.trans (hb.mono hHeld.size)) (fun hHeld => ?_)
        clear hK K hb
        refine tk 7 hHeld ?_
        refine rd0 ?_
        have HF := Lib.hid hHeld
        clear hHeld
        have HB2 := Lib.hid (HB.out.trans (HF.out.mono hszW))
        have HB3 := Lib.hid (hB0.out.trans (HF.out.mono hB0.out.size))
        go_wp2
        go_roundw
        case rel => exact ⟨lo, m, rfl, by go_num, by omega, by omega, HC2, HB3.out⟩
        case measure => simp [intOf]; omega
    · obtain rfl : lo = hi := by omega
      have hdl : decide ((lo : Int) < (lo : Int)) = false := by simp
      by_cases hlen : lo < L.length
      · obtain ⟨⟨⟨x0, x1⟩, x2, x3, x4, x5, x6, ⟨x7, x8⟩, x9, x10, x11, x12, M⟩, hx⟩ := el_some hlen
        have HX := Lib.hid hx
        obtain ⟨g, o, us, rfl, hg, hu, hr⟩ := (H.out.below R_Task_ok HB.out).at_ hx
        obtain ⟨ba, bc, rfl, k_M, b_x3⟩ := rd_Task hr
        have e0 : wr.cell? ⟨g, o + lo * 14, none⟩ = some (.int .i64 x0) := by simpa [size_TaskS, Nat.add_assoc] using hu 0 _ rfl
        have e1 : wr.cell? ⟨g, o + lo * 14 + 1, none⟩ = some (.int .i64 x1) := by simpa [size_TaskS, Nat.add_assoc] using hu 1 _ rfl
        have e2 : wr.cell? ⟨g, o + lo * 14 + 2, none⟩ = some (.int .i64 x2) := by simpa [size_TaskS, Nat.add_assoc] using hu 2 _ rfl
        have e3 : wr.cell? ⟨g, o + lo * 14 + 3, none⟩ = some (.string x3) := by simpa [size_TaskS, Nat.add_assoc] using hu 3 _ rfl
        have e4 : wr.cell? ⟨g, o + lo * 14 + 4, none⟩ = some (.int .i64 x4) := by simpa [size_TaskS, Nat.add_assoc] using hu 4 _ rfl
        have e5 : wr.cell? ⟨g, o + lo * 14 + 5, none⟩ = some (.int .i64 x5) := by simpa [size_TaskS, Nat.add_assoc] using hu 5 _ rfl
        have e6 : wr.cell? ⟨g, o + lo * 14 + 6, none⟩ = some (.int .i64 x6) := by simpa [size_TaskS, Nat.add_assoc] using hu 6 _ rfl
        have e7 : wr.cell? ⟨g, o + lo * 14 + 7, none⟩ = some (.int .i64 x7) := by simpa [size_TaskS, Nat.add_assoc] using hu 7 _ rfl
        have e8 : wr.cell? ⟨g, o + lo * 14 + 8, none⟩ = some (.int .i64 x8) := by simpa [size_TaskS, Nat.add_assoc] using hu 8 _ rfl
        have e9 : wr.cell? ⟨g, o + lo * 14 + 9, none⟩ = some (.int .i64 x9) := by simpa [size_TaskS, Nat.add_assoc] using hu 9 _ rfl
        have e10 : wr.cell? ⟨g, o + lo * 14 + 10, none⟩ = some (.int .i64 x10) := by simpa [size_TaskS, Nat.add_assoc] using hu 10 _ rfl
        have e11 : wr.cell? ⟨g, o + lo * 14 + 11, none⟩ = some (.int .i64 x11) := by simpa [size_TaskS, Nat.add_assoc] using hu 11 _ rfl
        have e12 : wr.cell? ⟨g, o + lo * 14 + 12, none⟩ = some (.int .i64 x12) := by simpa [size_TaskS, Nat.add_assoc] using hu 12 _ rfl
        have e13 : wr.cell? ⟨g, o + lo * 14 + 13, none⟩ = some (.slice ba M.length bc) := by simpa [size_TaskS, Nat.add_assoc] using hu 13 _ rfl
        have hi0 : (0 : Int) ≤ (lo : Int) := Int.natCast_nonneg _
        have hi1 : (lo : Int) < (L.length : Int) := by omega
        have hdn : decide ((lo : Int) < (L.length : Int)) = true := decide_eq_true hi1
        have hgl : g < wr.heap.size := Nat.lt_of_lt_of_le hg hszW
        have hC := fun V => cmpT_w (x0 := x0) (x1 := x1) (x2 := x2) (x3 := x3) (x4 := x4) (x5 := x5) (x6 := x6) (x7 := x7) (x8 := x8) (x9 := x9) (x10 := x10) (x11 := x11) (x12 := x12) (L := M) (a := ba) (c := bc) (y0 := y0) (y1 := y1) (y2 := y2) (y3 := ⟨#[]⟩) (y4 := 0) (y5 := 0) (y6 := 0) (y7 := 0) (y8 := 0) (y9 := 0) (y10 := 0) (y11 := 0) (y12 := 0) (M := []) (b := none) (d := 0) (W := V)
        obtain ⟨r, hr9⟩ : ∃ r, cfK ((x0, x1), x2) ((y0, y1), y2) = r := ⟨_, rfl⟩
        rw [hr9] at hC
        have HR9 := Lib.hid hr9
        clear hu hr hg hx k_M hr9
        obtain ⟨q, hq⟩ : ∃ q, (r == 0) = q := ⟨_, rfl⟩
        have HT := Lib.hid (show q = true → atT L ((y0, y1), y2) = (lo : Int) from fun h => cut_hit HC.out HX.out ((cfK_zero _ _).1 (HR9.out.trans (eq_of_beq (hq.trans h)))))
        have HM := Lib.hid (show q = false → atT L ((y0, y1), y2) = -1 from fun h => cut_miss HC.out HI.out fun x hx he => by
          obtain rfl := Option.some.inj (HX.out.symm.trans hx)
          have h2 : cfK ((x0, x1), x2) ((y0, y1), y2) = 0 := (cfK_zero _ _).2 he
          have h3 : r = 0 := HR9.out.symm.trans h2
          rw [← hq, h3] at h
          cases h)
        go_wp2_with fail
        refine wp_region_held_drew (S := (fun V => Below (wr).heap.size (wr) V)) (by kernel_rfl) ((Below.refl _ _).drew) (fun hHeld => ?_)
        refine tk 0 hHeld ?_
        refine tk 1 hHeld ?_
        refine tk 2 hHeld ?_
        refine tk 3 hHeld ?_
        refine tk 4 hHeld ?_
        refine tk 5 hHeld ?_
        refine tk 6 hHeld ?_
        refine tk 7 hHeld ?_
        refine tk 8 hHeld ?_
        refine tk 9 hHeld ?_ (hy := fun w hSw => by (try dsimp only at hSw); have k0 := (hSw.cell (p := ⟨g, o + lo * 14, none⟩) hgl).trans e0; have k1 := (hSw.cell (p := ⟨g, o + lo * 14 + 1, none⟩) hgl).trans e1; have k2 := (hSw.cell (p := ⟨g, o + lo * 14 + 2, none⟩) hgl).trans e2; have k3 := (hSw.cell (p := ⟨g, o + lo * 14 + 3, none⟩) hgl).trans e3; have k4 := (hSw.cell (p := ⟨g, o + lo * 14 + 4, none⟩) hgl).trans e4; have k5 := (hSw.cell (p := ⟨g, o + lo * 14 + 5, none⟩) hgl).trans e5; have k6 := (hSw.cell (p := ⟨g, o + lo * 14 + 6, none⟩) hgl).trans e6; have k7 := (hSw.cell (p := ⟨g, o + lo * 14 + 7, none⟩) hgl).trans e7; have k8 := (hSw.cell (p := ⟨g, o + lo * 14 + 8, none⟩) hgl).trans e8; have k9 := (hSw.cell (p := ⟨g, o + lo * 14 + 9, none⟩) hgl).trans e9; have k10 := (hSw.cell (p := ⟨g, o + lo * 14 + 10, none⟩) hgl).trans e10; have k11 := (hSw.cell (p := ⟨g, o + lo * 14 + 11, none⟩) hgl).trans e11; have k12 := (hSw.cell (p := ⟨g, o + lo * 14 + 12, none⟩) hgl).trans e12; have k13 := (hSw.cell (p := ⟨g, o + lo * 14 + 13, none⟩) hgl).trans e13; clear hSw; go_simp; try with_reducible rfl)
        refine tk 10 hHeld ?_ (hy := fun w hSw => by (try dsimp only at hSw); have k0 := (hSw.cell (p := ⟨W.heap.size, 0, none⟩) HP.out.lt).trans (HP.out.at_ 0 rfl); have k1 := (hSw.cell (p := ⟨W.heap.size, 1, none⟩) HP.out.lt).trans (HP.out.at_ 1 rfl); have k2 := (hSw.cell (p := ⟨W.heap.size, 2, none⟩) HP.out.lt).trans (HP.out.at_ 2 rfl); have k3 := (hSw.cell (p := ⟨W.heap.size, 3, none⟩) HP.out.lt).trans (HP.out.at_ 3 rfl); have k4 := (hSw.cell (p := ⟨W.heap.size, 4, none⟩) HP.out.lt).trans (HP.out.at_ 4 rfl); have k5 := (hSw.cell (p := ⟨W.heap.size, 5, none⟩) HP.out.lt).trans (HP.out.at_ 5 rfl); have k6 := (hSw.cell (p := ⟨W.heap.size, 6, none⟩) HP.out.lt).trans (HP.out.at_ 6 rfl); have k7 := (hSw.cell (p := ⟨W.heap.size, 7, none⟩) HP.out.lt).trans (HP.out.at_ 7 rfl); have k8 := (hSw.cell (p := ⟨W.heap.size, 8, none⟩) HP.out.lt).trans (HP.out.at_ 8 rfl); have k9 := (hSw.cell (p := ⟨W.heap.size, 9, none⟩) HP.out.lt).trans (HP.out.at_ 9 rfl); have k10 := (hSw.cell (p := ⟨W.heap.size, 10, none⟩) HP.out.lt).trans (HP.out.at_ 10 rfl); have k11 := (hSw.cell (p := ⟨W.heap.size, 11, none⟩) HP.out.lt).trans (HP.out.at_ 11 rfl); have k12 := (hSw.cell (p := ⟨W.heap.size, 12, none⟩) HP.out.lt).trans (HP.out.at_ 12 rfl); have k13 := (hSw.cell (p := ⟨W.heap.size, 13, none⟩) HP.out.lt).trans (HP.out.at_ 13 rfl); clear hSw; go_simp; try with_reducible rfl)
        refine rd1 11 (fun K hK => ?_)
        go_simp
        go_at_fn 187
        refine (hC _).mono ?_
        rintro e w9 ⟨rfl, hb⟩
        refine hK.out _ _ (hHeld.trans (hb.mono hHeld.size)) (fun hHeld => ?_)
        clear hK K hb
        refine tk 12 hHeld ?_
        refine tk 13 hHeld ?_
        refine tk 14 hHeld ?_
        refine tk 15 hHeld ?_
        refine rd0 ?_
        have HF := Lib.hid hHeld
        clear hHeld
        have HB2 := Lib.hid (HB.out.trans (HF.out.mono hszW))
        go_wp2
        go_ret2
        exact ⟨⟨lo, q, rfl, HT.out, HM.out, HC.out⟩, HB2.out⟩
      · have hdn : decide ((lo : Int) < (L.length : Int)) = false := decide_eq_false (by omega)
        have HM := Lib.hid (cut_miss HC.out HI.out fun x hx => absurd (List.getElem?_eq_some_iff.1 hx).1 hlen)
        go_wp2_with fail
        go_quiet (fail)
        all_goals
          go_wp2
          go_ret2
          exact ⟨⟨lo, false, rfl, fun h => (by cases h), fun _ => HM.out, HC.out⟩, by first | exact HB.out | exact HB.out.drew | exact bdrewN HB.out _⟩
set_option maxRecDepth 100000 in
set_option maxHeartbeats 1600000 in
theorem taskplace_impl {L : List D_Task} {a : Option Addr} {cap : Nat} {y0 y1 y2 : Int} {W : World} (hn : L.length ≤ 1048576) (hI : IncT L L.length) (h : RdSl R_Task W W.heap.size L a cap) :
    Calls Tryz.prog 152 #[.slice a L.length cap, .agg #[.int .i64 y0, .int .i64 y1], .int .i64 y2] W fun e w' => (∃ k : Nat, ∃ b : Bool, e = .returned (.tuple #[.int .i64 k, .bool b]) ∧ (b = true → atT L ((y0, y1), y2) = (k : Int)) ∧ (b = false → atT L ((y0, y1), y2) = -1) ∧ Cut L ((y0, y1), y2) k k) ∧ Below W.heap.size W w' := by
  have H := Lib.hid h
  have HI := Lib.hid hI
  clear h hI
  obtain ⟨wo, hwo⟩ : ∃ w, w = W.alloc (.cells #[.int .i64 y0, .int .i64 y1] 67) := ⟨_, rfl⟩
  have HB0 := Lib.hid (show Below W.heap.size W wo from by rw [hwo]; exact (Below.refl _ _).alloc (Nat.le_refl _) _)
  have HA := Lib.hid ((H.out.below R_Task_ok HB0.out).more R_Task_ok HB0.out.size)
  go_enter Tryz.func152, Tryz.ntmps152
  go_wp2_with fail
  rw [← hwo]
  clear hwo
  refine (bsT_w hn HI.out HA.out).mono ?_
  rintro e w1 ⟨⟨k, b, rfl, h1⟩, hb⟩
  have HB := Lib.hid (HB0.out.trans (hb.mono HB0.out.size))
  have H1 := Lib.hid h1
  clear hb h1
  go_wp2
  go_ret2
  exact ⟨⟨k, b, rfl, H1.out⟩, HB.out⟩
set_option maxRecDepth 100000 in
set_option maxHeartbeats 1600000 in
theorem taskat_impl {L : List D_Task} {a : Option Addr} {cap : Nat} {y0 y1 y2 : Int} {W : World} (hn : L.length ≤ 1048576) (hI : IncT L L.length) (h : RdSl R_Task W W.heap.size L a cap) :
    Calls Tryz.prog 95 #[.slice a L.length cap, .agg #[.int .i64 y0, .int .i64 y1], .int .i64 y2] W fun e w' => e = .returned (.int .i64 (atT L ((y0, y1), y2))) ∧ Below W.heap.size W w' := by
  have H := Lib.hid h
  have HI := Lib.hid hI
  clear h hI
  obtain ⟨wo, hwo⟩ : ∃ w, w = W.alloc (.cells #[.int .i64 y0, .int .i64 y1] 67) := ⟨_, rfl⟩
  have HB0 := Lib.hid (show Below W.heap.size W wo from by rw [hwo]; exact (Below.refl _ _).alloc (Nat.le_refl _) _)
  have HA := Lib.hid ((H.out.below R_Task_ok HB0.out).more R_Task_ok HB0.out.size)
  go_enter Tryz.func95, Tryz.ntmps95
  go_wp2_with fail
  rw [← hwo]
  clear hwo
  refine (taskplace_impl hn HI.out HA.out).mono ?_
  rintro e w1 ⟨⟨k, b, rfl, h1, h2, _⟩, hb⟩
  have HB := Lib.hid (HB0.out.trans (hb.mono HB0.out.size))
  have H1 := Lib.hid h1
  have H2 := Lib.hid h2
  clear hb h1 h2
  cases b with
  | true =>
    have HE := Lib.hid (H1.out rfl)
    go_wp2
    go_ret
    exact ⟨by rw [HE.out]; rfl, HB.out⟩
  | false =>
    have HE := Lib.hid (H2.out rfl)
    go_wp2
    go_ret
    exact ⟨by rw [HE.out]; rfl, HB.out⟩
end Go.Proofs.YtelhmacfljffhaaGreat.RepC
end
section
namespace Go.Proofs.YtelhmacfljffhaaGreat.RepC
open Go.RowKit RowC ValC SpanC KeptC NameC SortC
set_option linter.unusedVariables false
set_option linter.unusedSimpArgs false
def NextP (L : List D_Task) (x : D_Task) : Prop := (L.length = 0 → tId x = 1) ∧ ∀ y, 0 < L.length → L[L.length - 1]? = some y → NextT y x
open Classical in
noncomputable def nextB (L : List D_Task) (x : D_Task) : Bool := decide (NextP L x)
open Classical in
theorem nextB_iff {L : List D_Task} {x : D_Task} : nextB L x = true ↔ NextP L x := by unfold nextB; simp
theorem next_is {L : List D_Task} {x : D_Task} {b : Bool} (h : b = true ↔ NextP L x) : nextB L x = b := by
  cases b <;> cases hn : nextB L x
  · rfl
  · exact absurd (h.2 (nextB_iff.1 hn)) (by decide)
  · exact absurd (nextB_iff.2 (h.1 rfl)) (by rw [hn]; decide)
  · rfl
set_option maxRecDepth 100000 in
set_option maxHeartbeats 3200000 in
theorem comes_impl {L : List D_Task} {n : Nat} {a : Option Addr} {cap : Nat} {x0 x1 x2 : Int} {x3 : ByteArray} {x4 x5 x6 x7 x8 x9 x10 x11 x12 : Int} {M : List Int} {ba : Option Addr} {bc : Nat} {W : World} (hLn : L.length = n) (hid : ∀ y, L[L.length - 1]? = some y → 1 ≤ tId y ∧ tId y ≤ 12) (h : RdSl R_Task W W.heap.size L a cap) :
    Calls Tryz.prog 94 #[.slice a n cap, .agg #[.int .i64 x0, .int .i64 x1, .int .i64 x2, .string x3, .int .i64 x4, .int .i64 x5, .int .i64 x6, .int .i64 x7, .int .i64 x8, .int .i64 x9, .int .i64 x10, .int .i64 x11, .int .i64 x12, .slice ba M.length bc]] W fun e w' => e = .returned (.bool (nextB L ((x0, x1), x2, x3, x4, x5, x6, (x7, x8), x9, x10, x11, x12, M))) ∧ Below W.heap.size W w' := by
  subst hLn
  have hn : L.length ≤ 9223372036854775807 := by have h1 := h.1; have h2 := h.2.1; unfold maxLen at h2; omega
  have H := Lib.hid h
  have HID := Lib.hid hid
  clear h hid
  obtain ⟨wo, hwo⟩ : ∃ w, w = W.alloc (.cells #[.int .i64 x0, .int .i64 x1, .int .i64 x2, .string x3, .int .i64 x4, .int .i64 x5, .int .i64 x6, .int .i64 x7, .int .i64 x8, .int .i64 x9, .int .i64 x10, .int .i64 x11, .int .i64 x12, .slice ba M.length bc] 70) := ⟨_, rfl⟩
  have HB0 := Lib.hid (show Below W.heap.size W wo from by rw [hwo]; exact (Below.refl _ _).alloc (Nat.le_refl _) _)
  have HP0 := Lib.hid (show Blk wo W.heap.size 70 #[.int .i64 x0, .int .i64 x1, .int .i64 x2, .string x3, .int .i64 x4, .int .i64 x5, .int .i64 x6, .int .i64 x7, .int .i64 x8, .int .i64 x9, .int .i64 x10, .int .i64 x11, .int .i64 x12, .slice ba M.length bc] from by rw [hwo]; exact Blk.new _ _ _)
  have HA0 := Lib.hid ((H.out.below R_Task_ok HB0.out).more R_Task_ok HB0.out.size)
  by_cases h0 : L.length = 0
  · have hd : ((L.length : Int) == 0) = true := by simp [h0]
    obtain ⟨b, hb⟩ : ∃ b, (x2 == 1) = b := ⟨_, rfl⟩
    have HE := Lib.hid (show nextB L ((x0, x1), x2, x3, x4, x5, x6, (x7, x8), x9, x10, x11, x12, M) = b from next_is (by
      rw [← hb, beq_iff_eq]
      exact ⟨fun h => ⟨fun _ => h, fun y h2 => by omega⟩, fun h => h.1 h0⟩))
    rw [hwo] at HB0
    clear hwo h0 HP0 HA0
    go_enter Tryz.func94, Tryz.ntmps94
    go_wp2
    go_ret
    exact ⟨by rw [HE.out]; rfl, HB0.out⟩
  · have hd : ((L.length : Int) == 0) = false := by simp; exact fun h => h0 (by simp [h])
    obtain ⟨j, hj⟩ : ∃ j, L.length = j + 1 := ⟨L.length - 1, by omega⟩
    obtain ⟨⟨⟨y0, y1⟩, y2, y3, y4, y5, y6, ⟨y7, y8⟩, y9, y10, y11, y12, N⟩, hy⟩ := el_some (show j < L.length by omega)
    have HY := Lib.hid (show L[L.length - 1]? = some ((y0, y1), y2, y3, y4, y5, y6, (y7, y8), y9, y10, y11, y12, N) from by rw [hj, Nat.add_sub_cancel]; exact hy)
    have hjs : (L.length : Int) - 1 = (j : Int) := by omega
    have hj0 : (0 : Int) ≤ (j : Int) := Int.natCast_nonneg _
    have hj1 : (j : Int) < (L.length : Int) := by omega
    have hjw : IntKind.i64.wrap (j : Int) = (j : Int) := IntWalk.i64_in _ (by omega)
    obtain ⟨g, o, us, rfl, hg, hu, hr⟩ := HA0.out.at_ hy
    obtain ⟨da, dc, rfl, k_N, b_y3⟩ := rd_Task hr
    have e0 : wo.cell? ⟨g, o + j * 14, none⟩ = some (.int .i64 y0) := by simpa [size_TaskS, Nat.add_assoc] using hu 0 _ rfl
    have e1 : wo.cell? ⟨g, o + j * 14 + 1, none⟩ = some (.int .i64 y1) := by simpa [size_TaskS, Nat.add_assoc] using hu 1 _ rfl
    have e2 : wo.cell? ⟨g, o + j * 14 + 2, none⟩ = some (.int .i64 y2) := by simpa [size_TaskS, Nat.add_assoc] using hu 2 _ rfl
    have e3 : wo.cell? ⟨g, o + j * 14 + 3, none⟩ = some (.string y3) := by simpa [size_TaskS, Nat.add_assoc] using hu 3 _ rfl
    have e4 : wo.cell? ⟨g, o + j * 14 + 4, none⟩ = some (.int .i64 y4) := by simpa [size_TaskS, Nat.add_assoc] using hu 4 _ rfl
    have e5 : wo.cell? ⟨g, o + j * 14 + 5, none⟩ = some (.int .i64 y5) := by simpa [size_TaskS, Nat.add_assoc] using hu 5 _ rfl
    have e6 : wo.cell? ⟨g, o + j * 14 + 6, none⟩ = some (.int .i64 y6) := by simpa [size_TaskS, Nat.add_assoc] using hu 6 _ rfl
    have e7 : wo.cell? ⟨g, o + j * 14 + 7, none⟩ = some (.int .i64 y7) := by simpa [size_TaskS, Nat.add_assoc] using hu 7 _ rfl
    have e8 : wo.cell? ⟨g, o + j * 14 + 8, none⟩ = some (.int .i64 y8) := by simpa [size_TaskS, Nat.add_assoc] using hu 8 _ rfl
    have e9 : wo.cell? ⟨g, o + j * 14 + 9, none⟩ = some (.int .i64 y9) := by simpa [size_TaskS, Nat.add_assoc] using hu 9 _ rfl
    have e10 : wo.cell? ⟨g, o + j * 14 + 10, none⟩ = some (.int .i64 y10) := by simpa [size_TaskS, Nat.add_assoc] using hu 10 _ rfl
    have e11 : wo.cell? ⟨g, o + j * 14 + 11, none⟩ = some (.int .i64 y11) := by simpa [size_TaskS, Nat.add_assoc] using hu 11 _ rfl
    have e12 : wo.cell? ⟨g, o + j * 14 + 12, none⟩ = some (.int .i64 y12) := by simpa [size_TaskS, Nat.add_assoc] using hu 12 _ rfl
    have e13 : wo.cell? ⟨g, o + j * 14 + 13, none⟩ = some (.slice da N.length dc) := by simpa [size_TaskS, Nat.add_assoc] using hu 13 _ rfl
    have hy2 : 1 ≤ y2 ∧ y2 ≤ 12 := HID.out _ HY.out
    have hyw : IntKind.i64.wrap (y2 + 1) = y2 + 1 := IntWalk.i64_in _ (by omega)
    have HL0 := Lib.hid h0
    have HU := Lib.hid (fun (y : D_Task) (hy : L[L.length - 1]? = some y) => (Option.some.inj (HY.out.symm.trans hy)))
    obtain ⟨w1, hw1⟩ : ∃ w, w = wo.alloc (.cells #[.int .i64 y0, .int .i64 y1, .int .i64 y2, .string y3, .int .i64 y4, .int .i64 y5, .int .i64 y6, .int .i64 y7, .int .i64 y8, .int .i64 y9, .int .i64 y10, .int .i64 y11, .int .i64 y12, .slice da N.length dc] 70) := ⟨_, rfl⟩
    have hb1 : Below wo.heap.size wo w1 := by rw [hw1]; exact (Below.refl _ _).alloc (Nat.le_refl _) _
    have HB1 := Lib.hid (HB0.out.trans (hb1.mono HB0.out.size))
    have HPX := Lib.hid (HP0.out.call hb1)
    have HPY := Lib.hid (show Blk w1 wo.heap.size 70 #[.int .i64 y0, .int .i64 y1, .int .i64 y2, .string y3, .int .i64 y4, .int .i64 y5, .int .i64 y6, .int .i64 y7, .int .i64 y8, .int .i64 y9, .int .i64 y10, .int .i64 y11, .int .i64 y12, .slice da N.length dc] from by rw [hw1]; exact Blk.new _ _ _)
    have a0 := HPX.out.at_ 0 rfl
    have a1 := HPX.out.at_ 1 rfl
    have a2 := HPX.out.at_ 2 rfl
    have c0 := HPY.out.at_ 0 rfl
    have c1 := HPY.out.at_ 1 rfl
    have c2 := HPY.out.at_ 2 rfl
    obtain ⟨b, hb⟩ : ∃ b, decide (((x0, x1) : Int × Int) = (y0, y1)) = b := ⟨_, rfl⟩
    have hq := eql_lab x0 x1 y0 y1 b hb
    have HQ := Lib.hid hb
    clear hb hy hg hu hr k_N hb1 h0 hj
    cases b with
    | true =>
      obtain ⟨c, hc⟩ : ∃ c, (x2 == y2 + 1) = c := ⟨_, rfl⟩
      have HE := Lib.hid (show nextB L ((x0, x1), x2, x3, x4, x5, x6, (x7, x8), x9, x10, x11, x12, M) = c from next_is (by
        rw [← hc, beq_iff_eq]
        have e : ((x0, x1) : D_Label) = (y0, y1) := of_decide_eq_true HQ.out
        refine ⟨fun h => ⟨fun h2 => absurd h2 HL0.out, fun y _ hy => by rw [← HU.out y hy]; exact .inl ⟨e.symm, h⟩⟩, fun h => ?_⟩
        rcases h.2 _ (by have := HL0.out; omega) HY.out with h2 | h2
        · exact h2.2
        · have h3 : ltLb (y0, y1) (x0, x1) := h2.1
          rw [e] at h3
          exact absurd h3 ltLb_irrefl))
      go_enter Tryz.func94, Tryz.ntmps94
      go_upto_region 1 with fail
      rw [← hwo]
      clear hwo
      go_upto_region 4 with fail
      rw [← hw1]
      clear hw1 e0 e1 e2 e3 e4 e5 e6 e7 e8 e9 e10 e11 e12 e13
      go_wp2
      go_ret
      exact ⟨by rw [HE.out]; rfl, HB1.out⟩
    | false =>
      obtain ⟨r, hr9⟩ : ∃ r, labI y0 y1 x0 x1 = r := ⟨_, rfl⟩
      have hC := fun V => bylab_w y0 y1 x0 x1 V
      rw [hr9] at hC
      have HRL := Lib.hid (show r < 0 ↔ ltLb (y0, y1) (x0, x1) from by
        rcases labI3 y0 y1 x0 x1 with ⟨e1, h1⟩ | ⟨e1, h1⟩ | ⟨e1, h1⟩
        · rw [← hr9, e1]; simp [h1]
        · exact absurd h1.symm (of_decide_eq_false HQ.out)
        · rw [← hr9, e1]
          exact ⟨fun h => by omega, fun h => absurd (ltLb_trans h h1) ltLb_irrefl⟩)
      obtain ⟨f, hf⟩ : ∃ f, decide (r < 0) = f := ⟨_, rfl⟩
      obtain ⟨c, hc⟩ : ∃ c, (x2 == 1) = c := ⟨_, rfl⟩
      have HE := Lib.hid (show nextB L ((x0, x1), x2, x3, x4, x5, x6, (x7, x8), x9, x10, x11, x12, M) = (f && c) from next_is (by
        rw [← hf, ← hc]
        simp only [Bool.and_eq_true, decide_eq_true_eq, beq_iff_eq]
        refine ⟨fun h => ⟨fun h2 => absurd h2 HL0.out, fun y _ hy => by rw [← HU.out y hy]; exact .inr ⟨HRL.out.1 h.1, h.2⟩⟩, fun h => ?_⟩
        rcases h.2 _ (by have := HL0.out; omega) HY.out with h2 | h2
        · exact absurd h2.1.symm (of_decide_eq_false HQ.out)
        · exact ⟨HRL.out.2 h2.1, h2.2⟩))
      clear hr9
      go_enter Tryz.func94, Tryz.ntmps94
      go_upto_region 1 with fail
      rw [← hwo]
      clear hwo
      go_upto_region 4 with fail
      rw [← hw1]
      clear hw1 e0 e1 e2 e3 e4 e5 e6 e7 e8 e9 e10 e11 e12 e13
      go_wp2_with fail
      refine (hC _).mono ?_
      rintro e w2 ⟨rfl, hb⟩
      have HB2 := Lib.hid (HB1.out.trans (hb.mono HB1.out.size))
      have HPX2 := Lib.hid (HPX.out.call hb)
      clear hb a0 a1 a2 c0 c1 c2
      have a2 := HPX2.out.at_ 2 rfl
      cases f with
      | false =>
        go_wp2
        go_ret
        exact ⟨by rw [HE.out]; rfl, HB2.out⟩
      | true =>
        go_wp2
        go_ret
        exact ⟨by rw [HE.out]; rfl, HB2.out⟩
theorem taskat_n {L : List D_Task} {n : Nat} {a : Option Addr} {cap : Nat} {y0 y1 y2 : Int} {W : World} (hLn : L.length = n) (hn : L.length ≤ 1048576) (hI : IncT L L.length) (h : RdSl R_Task W W.heap.size L a cap) :
    Calls Tryz.prog 95 #[.slice a n cap, .agg #[.int .i64 y0, .int .i64 y1], .int .i64 y2] W fun e w' => e = .returned (.int .i64 (atT L ((y0, y1), y2))) ∧ Below W.heap.size W w' := by
  subst hLn
  exact taskat_impl hn hI h
set_option maxRecDepth 100000 in
set_option maxHeartbeats 3200000 in
theorem tasks_impl {L : List D_Task} {a : Option Addr} {cap : Nat} {W : World} (h : RdSl R_Task W W.heap.size L a cap) :
    Calls Tryz.prog 37 #[.slice a L.length cap] W (IsB (tasksB L) W) := by
  refine Calls.mono ?_ fun e w' h => resB_is tasksB_iff h
  have hn : L.length ≤ 9223372036854775807 := by have h1 := h.1; have h2 := h.2.1; unfold maxLen at h2; omega
  have H := Lib.hid h
  clear h
  by_cases h96 : L.length ≤ 96
  rotate_left
  · have HN := Lib.hid (show ¬ TasksR L from fun h => h96 h.1)
    have hd : decide ((96 : Int) < (L.length : Int)) = true := decide_eq_true (by omega)
    go_enter Tryz.func37, Tryz.ntmps37
    go_wp2
    go_ret
    exact resB_no HN.out (Below.refl _ _)
  have hd : decide ((96 : Int) < (L.length : Int)) = false := decide_eq_false (by omega)
  go_enter Tryz.func37, Tryz.ntmps37
  go_wp2
  go_loopw [10] (fun i wr => ∃ k : Nat, k ≤ L.length ∧ i = .int .i64 k ∧ Hid (tasTo L k) ∧ Below W.heap.size W wr) (fun i _ => L.length - (intOf i).toNat)
  case atStart => exact ⟨0, Nat.zero_le _, rfl, Lib.hid tasTo_zero, Below.refl _ _⟩
  case round =>
    obtain ⟨k, hk, rfl, HO, hB⟩ := hrel
    have HB := Lib.hid hB
    have hsz := hB.size
    by_cases hlt : k < L.length
    · skip
      obtain ⟨⟨⟨x0, x1⟩, x2, x3, x4, x5, x6, ⟨x7, x8⟩, x9, x10, x11, x12, M⟩, hx⟩ := el_some hlt
      have HX := Lib.hid hx
      obtain ⟨g, o, us, rfl, hg, hu, hr⟩ := (H.out.below R_Task_ok hB).at_ hx
      have HRX := Lib.hid hr
      obtain ⟨ba, bc, rfl, k_M, b_x3⟩ := rd_Task hr
      have e0 : wr.cell? ⟨g, o + k * 14, none⟩ = some (.int .i64 x0) := by simpa [size_TaskS, Nat.add_assoc] using hu 0 _ rfl
      have e1 : wr.cell? ⟨g, o + k * 14 + 1, none⟩ = some (.int .i64 x1) := by simpa [size_TaskS, Nat.add_assoc] using hu 1 _ rfl
      have e2 : wr.cell? ⟨g, o + k * 14 + 2, none⟩ = some (.int .i64 x2) := by simpa [size_TaskS, Nat.add_assoc] using hu 2 _ rfl
      have e3 : wr.cell? ⟨g, o + k * 14 + 3, none⟩ = some (.string x3) := by simpa [size_TaskS, Nat.add_assoc] using hu 3 _ rfl
      have e4 : wr.cell? ⟨g, o + k * 14 + 4, none⟩ = some (.int .i64 x4) := by simpa [size_TaskS, Nat.add_assoc] using hu 4 _ rfl
      have e5 : wr.cell? ⟨g, o + k * 14 + 5, none⟩ = some (.int .i64 x5) := by simpa [size_TaskS, Nat.add_assoc] using hu 5 _ rfl
      have e6 : wr.cell? ⟨g, o + k * 14 + 6, none⟩ = some (.int .i64 x6) := by simpa [size_TaskS, Nat.add_assoc] using hu 6 _ rfl
      have e7 : wr.cell? ⟨g, o + k * 14 + 7, none⟩ = some (.int .i64 x7) := by simpa [size_TaskS, Nat.add_assoc] using hu 7 _ rfl
      have e8 : wr.cell? ⟨g, o + k * 14 + 8, none⟩ = some (.int .i64 x8) := by simpa [size_TaskS, Nat.add_assoc] using hu 8 _ rfl
      have e9 : wr.cell? ⟨g, o + k * 14 + 9, none⟩ = some (.int .i64 x9) := by simpa [size_TaskS, Nat.add_assoc] using hu 9 _ rfl
      have e10 : wr.cell? ⟨g, o + k * 14 + 10, none⟩ = some (.int .i64 x10) := by simpa [size_TaskS, Nat.add_assoc] using hu 10 _ rfl
      have e11 : wr.cell? ⟨g, o + k * 14 + 11, none⟩ = some (.int .i64 x11) := by simpa [size_TaskS, Nat.add_assoc] using hu 11 _ rfl
      have e12 : wr.cell? ⟨g, o + k * 14 + 12, none⟩ = some (.int .i64 x12) := by simpa [size_TaskS, Nat.add_assoc] using hu 12 _ rfl
      have e13 : wr.cell? ⟨g, o + k * 14 + 13, none⟩ = some (.slice ba M.length bc) := by simpa [size_TaskS, Nat.add_assoc] using hu 13 _ rfl
      have hi0 : (0 : Int) ≤ (k : Int) := Int.natCast_nonneg _
      have hi1 : (k : Int) < (L.length : Int) := by omega
      obtain ⟨w1, hw1⟩ : ∃ w, w = wr.alloc (.cells #[.int .i64 x0, .int .i64 x1, .int .i64 x2, .string x3, .int .i64 x4, .int .i64 x5, .int .i64 x6, .int .i64 x7, .int .i64 x8, .int .i64 x9, .int .i64 x10, .int .i64 x11, .int .i64 x12, .slice ba M.length bc] 70) := ⟨_, rfl⟩
      have hbA : Below wr.heap.size wr w1 := by rw [hw1]; exact (Below.refl _ _).alloc (Nat.le_refl _) _
      have HP1 := Lib.hid (show Blk w1 wr.heap.size 70 #[.int .i64 x0, .int .i64 x1, .int .i64 x2, .string x3, .int .i64 x4, .int .i64 x5, .int .i64 x6, .int .i64 x7, .int .i64 x8, .int .i64 x9, .int .i64 x10, .int .i64 x11, .int .i64 x12, .slice ba M.length bc] from by rw [hw1]; exact Blk.new _ _ _)
      have HB1 := Lib.hid (HB.out.trans (hbA.mono hsz))
      have HR1 := Lib.hid ((R_Task_ok.rd_below HRX.out (hbA.mono hsz) |> fun h => R_Task_ok.rd_more h (Nat.le_trans hsz hbA.size)))
      have HA1 := Lib.hid (((H.out.below R_Task_ok HB1.out).more R_Task_ok HB1.out.size).take k)
      have hTL := Lib.hid (show (L.take k).length = k from by rw [List.length_take]; omega)
      have hkc : k ≤ cap := by have h8 := H.out.1; omega
      have hTN : (L.take k).length ≤ 1048576 := by rw [hTL.out]; omega
      have HLY := Lib.hid (show ∀ y, (L.take k)[(L.take k).length - 1]? = some y → 1 ≤ tId y ∧ tId y ≤ 12 from fun y hy => by
        rw [List.getElem?_take] at hy
        split at hy
        · rename_i h5
          exact (HO.out _ y h5 hy).1.id
        · cases hy)
      have HIN := Lib.hid ((tasTo_inc HO.out hk).take (Nat.le_refl _) hk)
      have HNP := Lib.hid (show NextP (L.take k) ((x0, x1), x2, x3, x4, x5, x6, (x7, x8), x9, x10, x11, x12, M) ↔ ((k = 0 → tId ((x0, x1), x2, x3, x4, x5, x6, (x7, x8), x9, x10, x11, x12, M) = 1) ∧ ∀ y, 0 < k → L[k - 1]? = some y → NextT y ((x0, x1), x2, x3, x4, x5, x6, (x7, x8), x9, x10, x11, x12, M)) from by
        unfold NextP
        rw [hTL.out]
        refine and_congr Iff.rfl (forall_congr' fun y => ?_)
        constructor
        · intro h h1 h2; exact h h1 (by rw [List.getElem?_take, if_pos (by omega)]; exact h2)
        · intro h h1 h2; rw [List.getElem?_take, if_pos (by omega)] at h2; exact h h1 h2)
      clear hu hr hg hB hx k_M
      go_upto_region 6 with fail
      rw [← hw1]
      clear hw1 hbA e0 e1 e2 e3 e4 e5 e6 e7 e8 e9 e10 e11 e12 e13
      cases hT : taskB ((x0, x1), x2, x3, x4, x5, x6, (x7, x8), x9, x10, x11, x12, M) with
      | false =>
        have HN := Lib.hid (not_tasks HX.out fun h => by have h2 := taskB_iff.2 h.1; rw [hT] at h2; cases h2)
        have hTI := fun V (h : R_Task.rd V V.heap.size ((x0, x1), x2, x3, x4, x5, x6, (x7, x8), x9, x10, x11, x12, M) [.int .i64 x0, .int .i64 x1, .int .i64 x2, .string x3, .int .i64 x4, .int .i64 x5, .int .i64 x6, .int .i64 x7, .int .i64 x8, .int .i64 x9, .int .i64 x10, .int .i64 x11, .int .i64 x12, .slice ba M.length bc]) => taskI_w h
        rw [hT] at hTI
        clear hT
        refine wp_region_held_drew (S := (fun V => Below (w1).heap.size (w1) V)) (by kernel_rfl) ((Below.refl _ _).drew) (fun hHeld => ?_)
        refine tk 0 hHeld ?_ (hy := fun w hSw => by (try dsimp only at hSw); have k0 := (hSw.cell (p := ⟨wr.heap.size, 0, none⟩) HP1.out.lt).trans (HP1.out.at_ 0 rfl); have k1 := (hSw.cell (p := ⟨wr.heap.size, 1, none⟩) HP1.out.lt).trans (HP1.out.at_ 1 rfl); have k2 := (hSw.cell (p := ⟨wr.heap.size, 2, none⟩) HP1.out.lt).trans (HP1.out.at_ 2 rfl); have k3 := (hSw.cell (p := ⟨wr.heap.size, 3, none⟩) HP1.out.lt).trans (HP1.out.at_ 3 rfl); have k4 := (hSw.cell (p := ⟨wr.heap.size, 4, none⟩) HP1.out.lt).trans (HP1.out.at_ 4 rfl); have k5 := (hSw.cell (p := ⟨wr.heap.size, 5, none⟩) HP1.out.lt).trans (HP1.out.at_ 5 rfl); have k6 := (hSw.cell (p := ⟨wr.heap.size, 6, none⟩) HP1.out.lt).trans (HP1.out.at_ 6 rfl); have k7 := (hSw.cell (p := ⟨wr.heap.size, 7, none⟩) HP1.out.lt).trans (HP1.out.at_ 7 rfl); have k8 := (hSw.cell (p := ⟨wr.heap.size, 8, none⟩) HP1.out.lt).trans (HP1.out.at_ 8 rfl); have k9 := (hSw.cell (p := ⟨wr.heap.size, 9, none⟩) HP1.out.lt).trans (HP1.out.at_ 9 rfl); have k10 := (hSw.cell (p := ⟨wr.heap.size, 10, none⟩) HP1.out.lt).trans (HP1.out.at_ 10 rfl); have k11 := (hSw.cell (p := ⟨wr.heap.size, 11, none⟩) HP1.out.lt).trans (HP1.out.at_ 11 rfl); have k12 := (hSw.cell (p := ⟨wr.heap.size, 12, none⟩) HP1.out.lt).trans (HP1.out.at_ 12 rfl); have k13 := (hSw.cell (p := ⟨wr.heap.size, 13, none⟩) HP1.out.lt).trans (HP1.out.at_ 13 rfl); clear hSw; go_simp; try with_reducible rfl)
        refine rd1 1 (fun K hK => ?_)
        go_simp
        go_at_call 93
        refine (hTI _ (R_Task_ok.rd_more (R_Task_ok.rd_below HR1.out hHeld) hHeld.size)).mono ?_
        rintro e w2 ⟨rfl, hb⟩
        refine hK.out _ _ (hHeld.trans (hb.mono hHeld.size)) (fun hHeld => ?_)
        clear hK K hb
        refine tk 2 hHeld ?_
        refine tk 3 hHeld ?_
        refine tn 4 hHeld ?_
        refine tn 5 hHeld ?_
        refine tn 6 hHeld ?_
        refine tn 7 hHeld ?_
        refine tn 8 hHeld ?_
        refine tn 9 hHeld ?_
        refine tk 10 hHeld ?_
        refine rd0 ?_
        have HF := Lib.hid hHeld
        clear hHeld
        have HB2 := Lib.hid (HB1.out.trans (HF.out.mono HB1.out.size))
        go_wp2
        go_ret
        exact resB_no HN.out HB2.out
      | true =>
      have HT := Lib.hid (taskB_iff.1 hT)
      have hTI := fun V (h : R_Task.rd V V.heap.size ((x0, x1), x2, x3, x4, x5, x6, (x7, x8), x9, x10, x11, x12, M) [.int .i64 x0, .int .i64 x1, .int .i64 x2, .string x3, .int .i64 x4, .int .i64 x5, .int .i64 x6, .int .i64 x7, .int .i64 x8, .int .i64 x9, .int .i64 x10, .int .i64 x11, .int .i64 x12, .slice ba M.length bc]) => taskI_w h
      rw [hT] at hTI
      clear hT
      have hCM := fun V h => comes_impl (W := V) (a := some ⟨g, o, none⟩) (cap := cap) (x0 := x0) (x1 := x1) (x2 := x2) (x3 := x3) (x4 := x4) (x5 := x5) (x6 := x6) (x7 := x7) (x8 := x8) (x9 := x9) (x10 := x10) (x11 := x11) (x12 := x12) (M := M) (ba := ba) (bc := bc) hTL.out HLY.out h
      cases hN : nextB (L.take k) ((x0, x1), x2, x3, x4, x5, x6, (x7, x8), x9, x10, x11, x12, M) with
      | false =>
        have HN := Lib.hid (not_tasks HX.out fun h => by have h2 := nextB_iff.2 (HNP.out.2 ⟨h.2.1, h.2.2.1⟩); rw [hN] at h2; cases h2)
        rw [hN] at hCM
        clear hN
        refine wp_region_held_drew (S := (fun V => Below (w1).heap.size (w1) V)) (by kernel_rfl) ((Below.refl _ _).drew) (fun hHeld => ?_)
        refine tk 0 hHeld ?_ (hy := fun w hSw => by (try dsimp only at hSw); have k0 := (hSw.cell (p := ⟨wr.heap.size, 0, none⟩) HP1.out.lt).trans (HP1.out.at_ 0 rfl); have k1 := (hSw.cell (p := ⟨wr.heap.size, 1, none⟩) HP1.out.lt).trans (HP1.out.at_ 1 rfl); have k2 := (hSw.cell (p := ⟨wr.heap.size, 2, none⟩) HP1.out.lt).trans (HP1.out.at_ 2 rfl); have k3 := (hSw.cell (p := ⟨wr.heap.size, 3, none⟩) HP1.out.lt).trans (HP1.out.at_ 3 rfl); have k4 := (hSw.cell (p := ⟨wr.heap.size, 4, none⟩) HP1.out.lt).trans (HP1.out.at_ 4 rfl); have k5 := (hSw.cell (p := ⟨wr.heap.size, 5, none⟩) HP1.out.lt).trans (HP1.out.at_ 5 rfl); have k6 := (hSw.cell (p := ⟨wr.heap.size, 6, none⟩) HP1.out.lt).trans (HP1.out.at_ 6 rfl); have k7 := (hSw.cell (p := ⟨wr.heap.size, 7, none⟩) HP1.out.lt).trans (HP1.out.at_ 7 rfl); have k8 := (hSw.cell (p := ⟨wr.heap.size, 8, none⟩) HP1.out.lt).trans (HP1.out.at_ 8 rfl); have k9 := (hSw.cell (p := ⟨wr.heap.size, 9, none⟩) HP1.out.lt).trans (HP1.out.at_ 9 rfl); have k10 := (hSw.cell (p := ⟨wr.heap.size, 10, none⟩) HP1.out.lt).trans (HP1.out.at_ 10 rfl); have k11 := (hSw.cell (p := ⟨wr.heap.size, 11, none⟩) HP1.out.lt).trans (HP1.out.at_ 11 rfl); have k12 := (hSw.cell (p := ⟨wr.heap.size, 12, none⟩) HP1.out.lt).trans (HP1.out.at_ 12 rfl); have k13 := (hSw.cell (p := ⟨wr.heap.size, 13, none⟩) HP1.out.lt).trans (HP1.out.at_ 13 rfl); clear hSw; go_simp; try with_reducible rfl)
        refine rd1 1 (fun K hK => ?_)
        go_simp
        go_at_call 93
        refine (hTI _ (R_Task_ok.rd_more (R_Task_ok.rd_below HR1.out hHeld) hHeld.size)).mono ?_
        rintro e w2 ⟨rfl, hb⟩
        refine hK.out _ _ (hHeld.trans (hb.mono hHeld.size)) (fun hHeld => ?_)
        clear hK K hb
        refine tk 2 hHeld ?_
        refine tk 3 hHeld ?_
        refine tk 4 hHeld ?_
        refine tk 5 hHeld ?_
        refine tk 6 hHeld ?_
        refine tk 7 hHeld ?_ (hy := fun w hSw => by (try dsimp only at hSw); have k0 := (hSw.cell (p := ⟨wr.heap.size, 0, none⟩) HP1.out.lt).trans (HP1.out.at_ 0 rfl); have k1 := (hSw.cell (p := ⟨wr.heap.size, 1, none⟩) HP1.out.lt).trans (HP1.out.at_ 1 rfl); have k2 := (hSw.cell (p := ⟨wr.heap.size, 2, none⟩) HP1.out.lt).trans (HP1.out.at_ 2 rfl); have k3 := (hSw.cell (p := ⟨wr.heap.size, 3, none⟩) HP1.out.lt).trans (HP1.out.at_ 3 rfl); have k4 := (hSw.cell (p := ⟨wr.heap.size, 4, none⟩) HP1.out.lt).trans (HP1.out.at_ 4 rfl); have k5 := (hSw.cell (p := ⟨wr.heap.size, 5, none⟩) HP1.out.lt).trans (HP1.out.at_ 5 rfl); have k6 := (hSw.cell (p := ⟨wr.heap.size, 6, none⟩) HP1.out.lt).trans (HP1.out.at_ 6 rfl); have k7 := (hSw.cell (p := ⟨wr.heap.size, 7, none⟩) HP1.out.lt).trans (HP1.out.at_ 7 rfl); have k8 := (hSw.cell (p := ⟨wr.heap.size, 8, none⟩) HP1.out.lt).trans (HP1.out.at_ 8 rfl); have k9 := (hSw.cell (p := ⟨wr.heap.size, 9, none⟩) HP1.out.lt).trans (HP1.out.at_ 9 rfl); have k10 := (hSw.cell (p := ⟨wr.heap.size, 10, none⟩) HP1.out.lt).trans (HP1.out.at_ 10 rfl); have k11 := (hSw.cell (p := ⟨wr.heap.size, 11, none⟩) HP1.out.lt).trans (HP1.out.at_ 11 rfl); have k12 := (hSw.cell (p := ⟨wr.heap.size, 12, none⟩) HP1.out.lt).trans (HP1.out.at_ 12 rfl); have k13 := (hSw.cell (p := ⟨wr.heap.size, 13, none⟩) HP1.out.lt).trans (HP1.out.at_ 13 rfl); clear hSw; go_simp; try with_reducible rfl)
        refine rd1 8 (fun K hK => ?_)
        go_simp
        go_at_call 94
        refine (hCM _ ((HA1.out.below R_Task_ok hHeld).more R_Task_ok hHeld.size)).mono ?_
        rintro e w3 ⟨rfl, hb⟩
        refine hK.out _ _ (hHeld.trans (hb.mono hHeld.size)) (fun hHeld => ?_)
        clear hK K hb
        refine tk 9 hHeld ?_
        refine tk 10 hHeld ?_
        refine rd0 ?_
        have HF := Lib.hid hHeld
        clear hHeld
        have HB2 := Lib.hid (HB1.out.trans (HF.out.mono HB1.out.size))
        go_wp2
        go_ret
        exact resB_no HN.out HB2.out
      | true =>
      have HNX := Lib.hid (HNP.out.1 (nextB_iff.1 hN))
      rw [hN] at hCM
      clear hN
      refine wp_region_held_drew (S := (fun V => Below (w1).heap.size (w1) V)) (by kernel_rfl) ((Below.refl _ _).drew) (fun hHeld => ?_)
      refine tk 0 hHeld ?_ (hy := fun w hSw => by (try dsimp only at hSw); have k0 := (hSw.cell (p := ⟨wr.heap.size, 0, none⟩) HP1.out.lt).trans (HP1.out.at_ 0 rfl); have k1 := (hSw.cell (p := ⟨wr.heap.size, 1, none⟩) HP1.out.lt).trans (HP1.out.at_ 1 rfl); have k2 := (hSw.cell (p := ⟨wr.heap.size, 2, none⟩) HP1.out.lt).trans (HP1.out.at_ 2 rfl); have k3 := (hSw.cell (p := ⟨wr.heap.size, 3, none⟩) HP1.out.lt).trans (HP1.out.at_ 3 rfl); have k4 := (hSw.cell (p := ⟨wr.heap.size, 4, none⟩) HP1.out.lt).trans (HP1.out.at_ 4 rfl); have k5 := (hSw.cell (p := ⟨wr.heap.size, 5, none⟩) HP1.out.lt).trans (HP1.out.at_ 5 rfl); have k6 := (hSw.cell (p := ⟨wr.heap.size, 6, none⟩) HP1.out.lt).trans (HP1.out.at_ 6 rfl); have k7 := (hSw.cell (p := ⟨wr.heap.size, 7, none⟩) HP1.out.lt).trans (HP1.out.at_ 7 rfl); have k8 := (hSw.cell (p := ⟨wr.heap.size, 8, none⟩) HP1.out.lt).trans (HP1.out.at_ 8 rfl); have k9 := (hSw.cell (p := ⟨wr.heap.size, 9, none⟩) HP1.out.lt).trans (HP1.out.at_ 9 rfl); have k10 := (hSw.cell (p := ⟨wr.heap.size, 10, none⟩) HP1.out.lt).trans (HP1.out.at_ 10 rfl); have k11 := (hSw.cell (p := ⟨wr.heap.size, 11, none⟩) HP1.out.lt).trans (HP1.out.at_ 11 rfl); have k12 := (hSw.cell (p := ⟨wr.heap.size, 12, none⟩) HP1.out.lt).trans (HP1.out.at_ 12 rfl); have k13 := (hSw.cell (p := ⟨wr.heap.size, 13, none⟩) HP1.out.lt).trans (HP1.out.at_ 13 rfl); clear hSw; go_simp; try with_reducible rfl)
      refine rd1 1 (fun K hK => ?_)
      go_simp
      go_at_call 93
      refine (hTI _ (R_Task_ok.rd_more (R_Task_ok.rd_below HR1.out hHeld) hHeld.size)).mono ?_
      rintro e w2 ⟨rfl, hb⟩
      refine hK.out _ _ (hHeld.trans (hb.mono hHeld.size)) (fun hHeld => ?_)
      clear hK K hb
      refine tk 2 hHeld ?_
      refine tk 3 hHeld ?_
      refine tk 4 hHeld ?_
      refine tk 5 hHeld ?_
      refine tk 6 hHeld ?_
      refine tk 7 hHeld ?_ (hy := fun w hSw => by (try dsimp only at hSw); have k0 := (hSw.cell (p := ⟨wr.heap.size, 0, none⟩) HP1.out.lt).trans (HP1.out.at_ 0 rfl); have k1 := (hSw.cell (p := ⟨wr.heap.size, 1, none⟩) HP1.out.lt).trans (HP1.out.at_ 1 rfl); have k2 := (hSw.cell (p := ⟨wr.heap.size, 2, none⟩) HP1.out.lt).trans (HP1.out.at_ 2 rfl); have k3 := (hSw.cell (p := ⟨wr.heap.size, 3, none⟩) HP1.out.lt).trans (HP1.out.at_ 3 rfl); have k4 := (hSw.cell (p := ⟨wr.heap.size, 4, none⟩) HP1.out.lt).trans (HP1.out.at_ 4 rfl); have k5 := (hSw.cell (p := ⟨wr.heap.size, 5, none⟩) HP1.out.lt).trans (HP1.out.at_ 5 rfl); have k6 := (hSw.cell (p := ⟨wr.heap.size, 6, none⟩) HP1.out.lt).trans (HP1.out.at_ 6 rfl); have k7 := (hSw.cell (p := ⟨wr.heap.size, 7, none⟩) HP1.out.lt).trans (HP1.out.at_ 7 rfl); have k8 := (hSw.cell (p := ⟨wr.heap.size, 8, none⟩) HP1.out.lt).trans (HP1.out.at_ 8 rfl); have k9 := (hSw.cell (p := ⟨wr.heap.size, 9, none⟩) HP1.out.lt).trans (HP1.out.at_ 9 rfl); have k10 := (hSw.cell (p := ⟨wr.heap.size, 10, none⟩) HP1.out.lt).trans (HP1.out.at_ 10 rfl); have k11 := (hSw.cell (p := ⟨wr.heap.size, 11, none⟩) HP1.out.lt).trans (HP1.out.at_ 11 rfl); have k12 := (hSw.cell (p := ⟨wr.heap.size, 12, none⟩) HP1.out.lt).trans (HP1.out.at_ 12 rfl); have k13 := (hSw.cell (p := ⟨wr.heap.size, 13, none⟩) HP1.out.lt).trans (HP1.out.at_ 13 rfl); clear hSw; go_simp; try with_reducible rfl)
      refine rd1 8 (fun K hK => ?_)
      go_simp
      go_at_call 94
      refine (hCM _ ((HA1.out.below R_Task_ok hHeld).more R_Task_ok hHeld.size)).mono ?_
      rintro e w3 ⟨rfl, hb⟩
      refine hK.out _ _ (hHeld.trans (hb.mono hHeld.size)) (fun hHeld => ?_)
      clear hK K hb
      refine tk 9 hHeld ?_
      refine tk 10 hHeld ?_
      refine rd0 ?_
      have HF := Lib.hid hHeld
      clear hHeld
      have HB2 := Lib.hid (HB1.out.trans (HF.out.mono HB1.out.size))
      have HP2 := Lib.hid (HP1.out.call HF.out)
      have HA2 := Lib.hid ((HA1.out.below R_Task_ok HF.out).more R_Task_ok HF.out.size)
      clear HF
      by_cases h9 : x9 = 0
      · have h9n : (x9 != 0) = false := by simp [h9]
        have HS := Lib.hid (tasTo_step HO.out HX.out ⟨HT.out, HNX.out.1, HNX.out.2, fun h => absurd h9 h⟩)
        clear h9
        go_wp2_with fail
        refine wp_region_held_drew (S := (fun V => Below (w3).heap.size (w3) V)) (by kernel_rfl) ((Below.refl _ _).drew) (fun hHeld => ?_)
        refine tk 0 hHeld ?_
        refine tk 1 hHeld ?_ (hy := fun w hSw => by (try dsimp only at hSw); have k0 := (hSw.cell (p := ⟨wr.heap.size, 9, none⟩) HP2.out.lt).trans (HP2.out.at_ 9 rfl); clear hSw; go_simp; try with_reducible rfl)
        refine tk 2 hHeld ?_
        refine tk 3 hHeld ?_
        refine tn 4 hHeld ?_
        refine tn 5 hHeld ?_
        refine tn 6 hHeld ?_
        refine tn 7 hHeld ?_
        refine tn 8 hHeld ?_
        refine tn 9 hHeld ?_
        refine tn 10 hHeld ?_
        refine tn 11 hHeld ?_
        refine tn 12 hHeld ?_
        refine tk 13 hHeld ?_
        refine rd0 ?_
        have HF := Lib.hid hHeld
        clear hHeld
        have HB12 := Lib.hid (HB2.out.trans (HF.out.mono HB2.out.size))
        go_wp2
        go_roundw
        case rel => exact ⟨k + 1, by omega, by go_num, HS, by first | exact HB12.out | exact HB12.out.drew | exact bdrewN HB12.out _⟩
        case measure => simp [intOf]; omega
      · have h9n : (x9 != 0) = true := by simp [h9]
        have H9 := Lib.hid h9
        clear h9
        obtain ⟨b, hb9⟩ : ∃ b, decide (atT (L.take k) ((x7, x8), x9) < 0) = b := ⟨_, rfl⟩
        have HB9 := Lib.hid hb9
        go_wp2_with fail
        refine wp_region_held_drew (S := (fun V => Below (w3).heap.size (w3) V)) (by kernel_rfl) ((Below.refl _ _).drew) (fun hHeld => ?_)
        refine tk 0 hHeld ?_
        refine tk 1 hHeld ?_ (hy := fun w hSw => by (try dsimp only at hSw); have k0 := (hSw.cell (p := ⟨wr.heap.size, 9, none⟩) HP2.out.lt).trans (HP2.out.at_ 9 rfl); clear hSw; go_simp; try with_reducible rfl)
        refine tk 2 hHeld ?_
        refine tk 3 hHeld ?_
        refine tk 4 hHeld ?_
        refine tk 5 hHeld ?_
        refine tk 6 hHeld ?_
        refine tk 7 hHeld ?_
        refine tk 8 hHeld ?_ (hy := fun w hSw => by (try dsimp only at hSw); have k0 := (hSw.cell (p := ⟨wr.heap.size, 7, none⟩) HP2.out.lt).trans (HP2.out.at_ 7 rfl); have k1 := (hSw.cell (p := ⟨wr.heap.size, 8, none⟩) HP2.out.lt).trans (HP2.out.at_ 8 rfl); clear hSw; go_simp; try with_reducible rfl)
        refine tk 9 hHeld ?_
        refine tk 10 hHeld ?_ (hy := fun w hSw => by (try dsimp only at hSw); have k0 := (hSw.cell (p := ⟨wr.heap.size, 9, none⟩) HP2.out.lt).trans (HP2.out.at_ 9 rfl); clear hSw; go_simp; try with_reducible rfl)
        refine rd1 11 (fun K hK => ?_)
        go_simp
        go_at_call 95
        refine (taskat_n hTL.out hTN HIN.out ((HA2.out.below R_Task_ok hHeld).more R_Task_ok hHeld.size)).mono ?_
        rintro e w12 ⟨rfl, hb⟩
        refine hK.out _ _ (hHeld.trans (hb.mono hHeld.size)) (fun hHeld => ?_)
        clear hK K hb
        refine tk 12 hHeld ?_
        refine tk 13 hHeld ?_
        refine rd0 ?_
        have HF := Lib.hid hHeld
        clear hHeld
        have HB12 := Lib.hid (HB2.out.trans (HF.out.mono HB2.out.size))
        cases b with
        | true =>
          have HN := Lib.hid (not_tasks HX.out fun h => by have h2 := h.2.2.2 H9.out; have h3 := of_decide_eq_true HB9.out; exact absurd h2 (by show ¬ 0 ≤ atT (L.take k) ((x7, x8), x9); omega))
          go_wp2
          go_ret
          exact resB_no HN.out HB12.out
        | false =>
          have HS := Lib.hid (tasTo_step HO.out HX.out ⟨HT.out, HNX.out.1, HNX.out.2, fun _ => by have h3 := of_decide_eq_false HB9.out; show 0 ≤ atT (L.take k) ((x7, x8), x9); omega⟩)
          go_wp2
          go_roundw
          case rel => exact ⟨k + 1, by omega, by go_num, HS, by first | exact HB12.out | exact HB12.out.drew | exact bdrewN HB12.out _⟩
          case measure => simp [intOf]; omega
    · have hdl : decide ((k : Int) < (L.length : Int)) = false := decide_eq_false (by omega)
      obtain rfl : k = L.length := by omega
      have HY := Lib.hid (tasksR_all h96 HO.out)
      clear hB
      go_wp2
      go_ret
      exact resB_yes HY.out HB.out
end Go.Proofs.YtelhmacfljffhaaGreat.RepC
end
section
namespace Go.Proofs.YtelhmacfljffhaaGreat.RepC
open Go.RowKit RowC ValC SpanC KeptC NameC
set_option linter.unusedVariables false
set_option linter.unusedSimpArgs false
theorem us_len {α : Type} {E : Rp α} {L : List α} {W : World} {B : Nat} {a : Option Addr} {cap : Nat} (h : RdSl E W B L a cap) : L.length ≤ 9223372036854775807 := by
  have h1 := h.1; have h2 := h.2.1; unfold maxLen at h2; omega
theorem not_uses {L : List D_Use} {k : Nat} {x : D_Use} (hx : L[k]? = some x) (h : ¬ okAt L k x) : ¬ UsesR L := fun hr => h (hr.2 k x hx)
set_option maxRecDepth 100000 in
set_option maxHeartbeats 3200000 in
theorem uses_spec {L : List D_Use} {a : Option Addr} {cap : Nat} {W : World} (h : RdSl R_Use W W.heap.size L a cap) :
    Calls Tryz.prog 26 #[.slice a L.length cap] W (IsB (usesB L) W) := by
  refine Calls.mono ?_ fun e w' h => resB_is usesB_iff h
  have hn := us_len h
  have H := Lib.hid h
  clear h
  by_cases h48 : L.length ≤ 48
  rotate_left
  · have HN := Lib.hid (show ¬ UsesR L from fun h => h48 h.1)
    have hd : decide ((48 : Int) < (L.length : Int)) = true := decide_eq_true (by omega)
    go_enter Tryz.func26, Tryz.ntmps26
    go_wp2
    go_ret
    exact resB_no HN.out (Below.refl _ _)
  have hd : decide ((48 : Int) < (L.length : Int)) = false := decide_eq_false (by omega)
  go_enter Tryz.func26, Tryz.ntmps26
  go_wp2
  go_loopw [4, 3] (fun i q wr => ∃ k c : Nat, k ≤ L.length ∧ i = .int .i64 k ∧ q = .int .i64 c ∧ c ≤ 6 ∧ Hid (usTo L k ∧ runU L k c) ∧ Below W.heap.size W wr) (fun i _ _ => L.length - (intOf i).toNat)
  case atStart => exact ⟨0, 0, Nat.zero_le _, rfl, rfl, by omega, Lib.hid ⟨usTo_zero, runU_zero⟩, Below.refl _ _⟩
  case round =>
    obtain ⟨k, c, hk, rfl, rfl, hc6, HO, hB⟩ := hrel
    have HB := Lib.hid hB
    have hsz := hB.size
    by_cases hlt : k < L.length
    · skip
      obtain ⟨⟨⟨x0, x1⟩, x2, x3⟩, hx⟩ := el_some hlt
      have HX := Lib.hid hx
      obtain ⟨g, o, us, rfl, hg, hu, hr⟩ := (H.out.below R_Use_ok hB).at_ hx
      obtain ⟨rfl, b_x2⟩ := rd_Use hr
      have e0 : wr.cell? ⟨g, o + k * 4, none⟩ = some (.int .i64 x0) := by simpa [size_UseS, Nat.add_assoc] using hu 0 _ rfl
      have e1 : wr.cell? ⟨g, o + k * 4 + 1, none⟩ = some (.int .i64 x1) := by simpa [size_UseS, Nat.add_assoc] using hu 1 _ rfl
      have e2 : wr.cell? ⟨g, o + k * 4 + 2, none⟩ = some (.string x2) := by simpa [size_UseS, Nat.add_assoc] using hu 2 _ rfl
      have e3 : wr.cell? ⟨g, o + k * 4 + 3, none⟩ = some (.int .i64 x3) := by simpa [size_UseS, Nat.add_assoc] using hu 3 _ rfl
      have hi0 : (0 : Int) ≤ (k : Int) := Int.natCast_nonneg _
      have hi1 : (k : Int) < (L.length : Int) := by omega
      have hgl : g < wr.heap.size := Nat.lt_of_lt_of_le hg hsz
      have HA := Lib.hid ((H.out.below R_Use_ok hB))
      clear hu hr hg hB hx
      have hL := fun V => LabC.rs_w x0 x1 V
      have hN := fun V => ns_w x2 b_x2 V
      have hI := fun V => is_w x3 1 100000 V
      cases h1 : LabC.rB x0 x1 with
      | false =>
        rw [h1] at hL
        have HN := Lib.hid (not_uses HX.out fun h => by have := h.1.1; simp only [h1] at this; cases this)
        clear h1
        go_wp2_with fail
        refine wp_region_held_drew (S := (fun V => Below (wr).heap.size (wr) V)) (by kernel_rfl) ((Below.refl _ _).drew) (fun hHeld => ?_)
        refine tk 0 hHeld ?_
        refine tk 1 hHeld ?_
        refine tk 2 hHeld ?_
        refine tk 3 hHeld ?_
        refine tk 4 hHeld ?_ (hy := fun w hSw => by (try dsimp only at hSw); have k0 := (hSw.cell (p := ⟨g, o + k * 4, none⟩) hgl).trans e0; have k1 := (hSw.cell (p := ⟨g, o + k * 4 + 1, none⟩) hgl).trans e1; clear hSw; go_simp; try with_reducible rfl)
        refine rd1 5 (fun K hK => ?_)
        go_simp
        go_at_call 76
        refine (hL _).mono ?_
        rintro e w1 ⟨rfl, hb⟩
        refine hK.out _ _ (hHeld.trans (hb.mono hHeld.size)) (fun hHeld => ?_)
        clear hK K hb
        refine tk 6 hHeld ?_
        refine tk 7 hHeld ?_
        refine tn 8 hHeld ?_
        refine tn 9 hHeld ?_
        refine tn 10 hHeld ?_
        refine tn 11 hHeld ?_
        refine tn 12 hHeld ?_
        refine tn 13 hHeld ?_
        refine tn 14 hHeld ?_
        refine tk 15 hHeld ?_
        refine tk 16 hHeld ?_
        refine tn 17 hHeld ?_
        refine tn 18 hHeld ?_
        refine tn 19 hHeld ?_
        refine tn 20 hHeld ?_
        refine tn 21 hHeld ?_
        refine tn 22 hHeld ?_
        refine tn 23 hHeld ?_
        refine tk 24 hHeld ?_
        refine tk 25 hHeld ?_
        refine tn 26 hHeld ?_
        refine tn 27 hHeld ?_
        refine tn 28 hHeld ?_
        refine tn 29 hHeld ?_
        refine tn 30 hHeld ?_
        refine tn 31 hHeld ?_
        refine tn 32 hHeld ?_
        refine tn 33 hHeld ?_
        refine tn 34 hHeld ?_
        refine tn 35 hHeld ?_
        refine tn 36 hHeld ?_
        refine tn 37 hHeld ?_
        refine tn 38 hHeld ?_
        refine tn 39 hHeld ?_
        refine tn 40 hHeld ?_
        refine tk 41 hHeld ?_
        refine rd0 ?_
        have HF := Lib.hid hHeld
        clear hHeld
        have HB2 := Lib.hid (HB.out.trans (HF.out.mono hsz))
        go_wp2
        go_ret
        exact resB_no HN.out HB2.out
      | true =>
      rw [h1] at hL
      have H1 := Lib.hid h1
      clear h1
      cases h2 : nameB x2 with
      | false =>
        rw [h2] at hN
        have HN := Lib.hid (not_uses HX.out fun h => by have := nameB_iff.2 h.1.2.1; simp only [h2] at this; cases this)
        clear h2
        go_wp2_with fail
        refine wp_region_held_drew (S := (fun V => Below (wr).heap.size (wr) V)) (by kernel_rfl) ((Below.refl _ _).drew) (fun hHeld => ?_)
        refine tk 0 hHeld ?_
        refine tk 1 hHeld ?_
        refine tk 2 hHeld ?_
        refine tk 3 hHeld ?_
        refine tk 4 hHeld ?_ (hy := fun w hSw => by (try dsimp only at hSw); have k0 := (hSw.cell (p := ⟨g, o + k * 4, none⟩) hgl).trans e0; have k1 := (hSw.cell (p := ⟨g, o + k * 4 + 1, none⟩) hgl).trans e1; clear hSw; go_simp; try with_reducible rfl)
        refine rd1 5 (fun K hK => ?_)
        go_simp
        go_at_call 76
        refine (hL _).mono ?_
        rintro e w1 ⟨rfl, hb⟩
        refine hK.out _ _ (hHeld.trans (hb.mono hHeld.size)) (fun hHeld => ?_)
        clear hK K hb
        refine tk 6 hHeld ?_
        refine tk 7 hHeld ?_
        refine tk 8 hHeld ?_
        refine tk 9 hHeld ?_
        refine tk 10 hHeld ?_
        refine tk 11 hHeld ?_
        refine tk 12 hHeld ?_ (hy := fun w hSw => by (try dsimp only at hSw); have k0 := (hSw.cell (p := ⟨g, o + k * 4 + 2, none⟩) hgl).trans e2; clear hSw; go_simp; try with_reducible rfl)
        refine rd1 13 (fun K hK => ?_)
        go_simp
        go_at_call 77
        refine (hN _).mono ?_
        rintro e w2 ⟨rfl, hb⟩
        refine hK.out _ _ (hHeld.trans (hb.mono hHeld.size)) (fun hHeld => ?_)
        clear hK K hb
        refine tk 14 hHeld ?_
        refine tk 15 hHeld ?_
        refine tk 16 hHeld ?_
        refine tn 17 hHeld ?_
        refine tn 18 hHeld ?_
        refine tn 19 hHeld ?_
        refine tn 20 hHeld ?_
        refine tn 21 hHeld ?_
        refine tn 22 hHeld ?_
        refine tn 23 hHeld ?_
        refine tk 24 hHeld ?_
        refine tk 25 hHeld ?_
        refine tn 26 hHeld ?_
        refine tn 27 hHeld ?_
        refine tn 28 hHeld ?_
        refine tn 29 hHeld ?_
        refine tn 30 hHeld ?_
        refine tn 31 hHeld ?_
        refine tn 32 hHeld ?_
        refine tn 33 hHeld ?_
        refine tn 34 hHeld ?_
        refine tn 35 hHeld ?_
        refine tn 36 hHeld ?_
        refine tn 37 hHeld ?_
        refine tn 38 hHeld ?_
        refine tn 39 hHeld ?_
        refine tn 40 hHeld ?_
        refine tk 41 hHeld ?_
        refine rd0 ?_
        have HF := Lib.hid hHeld
        clear hHeld
        have HB2 := Lib.hid (HB.out.trans (HF.out.mono hsz))
        go_wp2
        go_ret
        exact resB_no HN.out HB2.out
      | true =>
      rw [h2] at hN
      have H2 := Lib.hid (nameB_iff.1 h2)
      clear h2
      cases h3 : isB x3 1 100000 with
      | false =>
        rw [h3] at hI
        have HN := Lib.hid (not_uses HX.out fun h => by have := h.1.2.2; simp only [h3] at this; cases this)
        clear h3
        go_wp2_with fail
        refine wp_region_held_drew (S := (fun V => Below (wr).heap.size (wr) V)) (by kernel_rfl) ((Below.refl _ _).drew) (fun hHeld => ?_)
        refine tk 0 hHeld ?_
        refine tk 1 hHeld ?_
        refine tk 2 hHeld ?_
        refine tk 3 hHeld ?_
        refine tk 4 hHeld ?_ (hy := fun w hSw => by (try dsimp only at hSw); have k0 := (hSw.cell (p := ⟨g, o + k * 4, none⟩) hgl).trans e0; have k1 := (hSw.cell (p := ⟨g, o + k * 4 + 1, none⟩) hgl).trans e1; clear hSw; go_simp; try with_reducible rfl)
        refine rd1 5 (fun K hK => ?_)
        go_simp
        go_at_call 76
        refine (hL _).mono ?_
        rintro e w1 ⟨rfl, hb⟩
        refine hK.out _ _ (hHeld.trans (hb.mono hHeld.size)) (fun hHeld => ?_)
        clear hK K hb
        refine tk 6 hHeld ?_
        refine tk 7 hHeld ?_
        refine tk 8 hHeld ?_
        refine tk 9 hHeld ?_
        refine tk 10 hHeld ?_
        refine tk 11 hHeld ?_
        refine tk 12 hHeld ?_ (hy := fun w hSw => by (try dsimp only at hSw); have k0 := (hSw.cell (p := ⟨g, o + k * 4 + 2, none⟩) hgl).trans e2; clear hSw; go_simp; try with_reducible rfl)
        refine rd1 13 (fun K hK => ?_)
        go_simp
        go_at_call 77
        refine (hN _).mono ?_
        rintro e w2 ⟨rfl, hb⟩
        refine hK.out _ _ (hHeld.trans (hb.mono hHeld.size)) (fun hHeld => ?_)
        clear hK K hb
        refine tk 14 hHeld ?_
        refine tk 15 hHeld ?_
        refine tk 16 hHeld ?_
        refine tk 17 hHeld ?_
        refine tk 18 hHeld ?_
        refine tk 19 hHeld ?_
        refine tk 20 hHeld ?_
        refine tk 21 hHeld ?_ (hy := fun w hSw => by (try dsimp only at hSw); have k0 := (hSw.cell (p := ⟨g, o + k * 4 + 3, none⟩) hgl).trans e3; clear hSw; go_simp; try with_reducible rfl)
        refine rd1 22 (fun K hK => ?_)
        go_simp
        go_at_call 67
        refine (hI _).mono ?_
        rintro e w3 ⟨rfl, hb⟩
        refine hK.out _ _ (hHeld.trans (hb.mono hHeld.size)) (fun hHeld => ?_)
        clear hK K hb
        refine tk 23 hHeld ?_
        refine tk 24 hHeld ?_
        refine tk 25 hHeld ?_
        refine tn 26 hHeld ?_
        refine tn 27 hHeld ?_
        refine tn 28 hHeld ?_
        refine tn 29 hHeld ?_
        refine tn 30 hHeld ?_
        refine tn 31 hHeld ?_
        refine tn 32 hHeld ?_
        refine tn 33 hHeld ?_
        refine tn 34 hHeld ?_
        refine tn 35 hHeld ?_
        refine tn 36 hHeld ?_
        refine tn 37 hHeld ?_
        refine tn 38 hHeld ?_
        refine tn 39 hHeld ?_
        refine tn 40 hHeld ?_
        refine tk 41 hHeld ?_
        refine rd0 ?_
        have HF := Lib.hid hHeld
        clear hHeld
        have HB2 := Lib.hid (HB.out.trans (HF.out.mono hsz))
        go_wp2
        go_ret
        exact resB_no HN.out HB2.out
      | true =>
      rw [h3] at hI
      have HOK := Lib.hid (show okU ((x0, x1), x2, x3) from ⟨H1.out, H2.out, h3⟩)
      clear h3
      by_cases hk0 : k = 0
      · have hkp : ¬ 0 < k := by omega
        have hd0 : decide ((0 : Int) < (k : Int)) = false := decide_eq_false (by omega)
        have HS := Lib.hid (usTo_step HO.out.1 HX.out ⟨HOK.out, fun y h => by omega, fun y h => by omega⟩)
        have HR := Lib.hid (runU_new HX.out fun y h => by omega)
        clear hk0
        go_wp2_with fail
        refine wp_region_held_drew (S := (fun V => Below (wr).heap.size (wr) V)) (by kernel_rfl) ((Below.refl _ _).drew) (fun hHeld => ?_)
        refine tk 0 hHeld ?_
        refine tk 1 hHeld ?_
        refine tk 2 hHeld ?_
        refine tk 3 hHeld ?_
        refine tk 4 hHeld ?_ (hy := fun w hSw => by (try dsimp only at hSw); have k0 := (hSw.cell (p := ⟨g, o + k * 4, none⟩) hgl).trans e0; have k1 := (hSw.cell (p := ⟨g, o + k * 4 + 1, none⟩) hgl).trans e1; clear hSw; go_simp; try with_reducible rfl)
        refine rd1 5 (fun K hK => ?_)
        go_simp
        go_at_call 76
        refine (hL _).mono ?_
        rintro e w1 ⟨rfl, hb⟩
        refine hK.out _ _ (hHeld.trans (hb.mono hHeld.size)) (fun hHeld => ?_)
        clear hK K hb
        refine tk 6 hHeld ?_
        refine tk 7 hHeld ?_
        refine tk 8 hHeld ?_
        refine tk 9 hHeld ?_
        refine tk 10 hHeld ?_
        refine tk 11 hHeld ?_
        refine tk 12 hHeld ?_ (hy := fun w hSw => by (try dsimp only at hSw); have k0 := (hSw.cell (p := ⟨g, o + k * 4 + 2, none⟩) hgl).trans e2; clear hSw; go_simp; try with_reducible rfl)
        refine rd1 13 (fun K hK => ?_)
        go_simp
        go_at_call 77
        refine (hN _).mono ?_
        rintro e w2 ⟨rfl, hb⟩
        refine hK.out _ _ (hHeld.trans (hb.mono hHeld.size)) (fun hHeld => ?_)
        clear hK K hb
        refine tk 14 hHeld ?_
        refine tk 15 hHeld ?_
        refine tk 16 hHeld ?_
        refine tk 17 hHeld ?_
        refine tk 18 hHeld ?_
        refine tk 19 hHeld ?_
        refine tk 20 hHeld ?_
        refine tk 21 hHeld ?_ (hy := fun w hSw => by (try dsimp only at hSw); have k0 := (hSw.cell (p := ⟨g, o + k * 4 + 3, none⟩) hgl).trans e3; clear hSw; go_simp; try with_reducible rfl)
        refine rd1 22 (fun K hK => ?_)
        go_simp
        go_at_call 67
        refine (hI _).mono ?_
        rintro e w3 ⟨rfl, hb⟩
        refine hK.out _ _ (hHeld.trans (hb.mono hHeld.size)) (fun hHeld => ?_)
        clear hK K hb
        refine tk 23 hHeld ?_
        refine tk 24 hHeld ?_
        refine tk 25 hHeld ?_
        refine tk 26 hHeld ?_
        refine tk 27 hHeld ?_
        refine tk 28 hHeld ?_
        refine tn 29 hHeld ?_
        refine tn 30 hHeld ?_
        refine tn 31 hHeld ?_
        refine tn 32 hHeld ?_
        refine tn 33 hHeld ?_
        refine tn 34 hHeld ?_
        refine tn 35 hHeld ?_
        refine tn 36 hHeld ?_
        refine tn 37 hHeld ?_
        refine tn 38 hHeld ?_
        refine tn 39 hHeld ?_
        refine tk 40 hHeld ?_
        refine tk 41 hHeld ?_
        refine rd0 ?_
        have HF := Lib.hid hHeld
        clear hHeld
        have HB2 := Lib.hid (HB.out.trans (HF.out.mono hsz))
        go_wp2_with fail
        go_quiet (fail)
        all_goals
          go_wp2
          go_roundw
          case rel => exact ⟨k + 1, 1, by omega, by go_num, by go_num, by omega, Lib.hid ⟨HS.out, HR.out⟩, by first | exact HB2.out | exact HB2.out.drew | exact bdrewN HB2.out _⟩
          case measure => simp [intOf]; omega
      · have hkp : 0 < k := by omega
        have hd0 : decide ((0 : Int) < (k : Int)) = true := decide_eq_true (by omega)
        obtain ⟨j, hj⟩ : ∃ j, k = j + 1 := ⟨k - 1, by omega⟩
        have HJ := Lib.hid hj
        obtain ⟨⟨⟨y0, y1⟩, y2, y3⟩, hy⟩ := el_some (show j < L.length by omega)
        have HY := Lib.hid (show L[k - 1]? = some ((y0, y1), y2, y3) from by rw [hj, Nat.add_sub_cancel]; exact hy)
        obtain ⟨g', o', us', hgo, hg', hu', hr'⟩ := HA.out.at_ hy
        obtain ⟨rfl, rfl⟩ : g' = g ∧ o' = o := by cases hgo; exact ⟨rfl, rfl⟩
        obtain ⟨rfl, b_y2⟩ := rd_Use hr'
        have p0 : wr.cell? ⟨g', o' + j * 4, none⟩ = some (.int .i64 y0) := by simpa [size_UseS, Nat.add_assoc] using hu' 0 _ rfl
        have p1 : wr.cell? ⟨g', o' + j * 4 + 1, none⟩ = some (.int .i64 y1) := by simpa [size_UseS, Nat.add_assoc] using hu' 1 _ rfl
        have p2 : wr.cell? ⟨g', o' + j * 4 + 2, none⟩ = some (.string y2) := by simpa [size_UseS, Nat.add_assoc] using hu' 2 _ rfl
        have p3 : wr.cell? ⟨g', o' + j * 4 + 3, none⟩ = some (.int .i64 y3) := by simpa [size_UseS, Nat.add_assoc] using hu' 3 _ rfl
        have hjs : (k : Int) - 1 = (j : Int) := by omega
        have hj0 : (0 : Int) ≤ (j : Int) := Int.natCast_nonneg _
        have hj1 : (j : Int) < (L.length : Int) := by omega
        have hjw : IntKind.i64.wrap (j : Int) = (j : Int) := IntWalk.i64_in _ (by omega)
        have HRY := Lib.hid ((HO.out.1 (k - 1) _ (by omega) HY.out).1.1)
        have hZ := fun V => less_w (x2 := y2) (x3 := y3) (y2 := x2) (y3 := x3) HRY.out H1.out V
        clear hgo hg' hu' hr' hy hj hk0
        cases hz : lessB ((y0, y1), y2, y3) ((x0, x1), x2, x3) with
        | false =>
          rw [hz] at hZ
          have HN := Lib.hid (not_uses HX.out fun h => by have := (lessB_iff HRY.out H1.out).2 (h.2.1 _ (by have := HJ.out; omega) HY.out); rw [hz] at this; cases this)
          clear hz
          go_wp2_with fail
          refine wp_region_held_drew (S := (fun V => Below (wr).heap.size (wr) V)) (by kernel_rfl) ((Below.refl _ _).drew) (fun hHeld => ?_)
          refine tk 0 hHeld ?_
          refine tk 1 hHeld ?_
          refine tk 2 hHeld ?_
          refine tk 3 hHeld ?_
          refine tk 4 hHeld ?_ (hy := fun w hSw => by (try dsimp only at hSw); have k0 := (hSw.cell (p := ⟨g', o' + k * 4, none⟩) hgl).trans e0; have k1 := (hSw.cell (p := ⟨g', o' + k * 4 + 1, none⟩) hgl).trans e1; clear hSw; go_simp; try with_reducible rfl)
          refine rd1 5 (fun K hK => ?_)
          go_simp
          go_at_call 76
          refine (hL _).mono ?_
          rintro e w1 ⟨rfl, hb⟩
          refine hK.out _ _ (hHeld.trans (hb.mono hHeld.size)) (fun hHeld => ?_)
          clear hK K hb
          refine tk 6 hHeld ?_
          refine tk 7 hHeld ?_
          refine tk 8 hHeld ?_
          refine tk 9 hHeld ?_
          refine tk 10 hHeld ?_
          refine tk 11 hHeld ?_
          refine tk 12 hHeld ?_ (hy := fun w hSw => by (try dsimp only at hSw); have k0 := (hSw.cell (p := ⟨g', o' + k * 4 + 2, none⟩) hgl).trans e2; clear hSw; go_simp; try with_reducible rfl)
          refine rd1 13 (fun K hK => ?_)
          go_simp
          go_at_call 77
          refine (hN _).mono ?_
          rintro e w2 ⟨rfl, hb⟩
          refine hK.out _ _ (hHeld.trans (hb.mono hHeld.size)) (fun hHeld => ?_)
          clear hK K hb
          refine tk 14 hHeld ?_
          refine tk 15 hHeld ?_
          refine tk 16 hHeld ?_
          refine tk 17 hHeld ?_
          refine tk 18 hHeld ?_
          refine tk 19 hHeld ?_
          refine tk 20 hHeld ?_
          refine tk 21 hHeld ?_ (hy := fun w hSw => by (try dsimp only at hSw); have k0 := (hSw.cell (p := ⟨g', o' + k * 4 + 3, none⟩) hgl).trans e3; clear hSw; go_simp; try with_reducible rfl)
          refine rd1 22 (fun K hK => ?_)
          go_simp
          go_at_call 67
          refine (hI _).mono ?_
          rintro e w3 ⟨rfl, hb⟩
          refine hK.out _ _ (hHeld.trans (hb.mono hHeld.size)) (fun hHeld => ?_)
          clear hK K hb
          refine tk 23 hHeld ?_
          refine tk 24 hHeld ?_
          refine tk 25 hHeld ?_
          refine tk 26 hHeld ?_
          refine tk 27 hHeld ?_
          refine tk 28 hHeld ?_
          refine tk 29 hHeld ?_
          refine tk 30 hHeld ?_
          refine tk 31 hHeld ?_
          refine tk 32 hHeld ?_
          refine tk 33 hHeld ?_ (hy := fun w hSw => by (try dsimp only at hSw); have k0 := (hSw.cell (p := ⟨g', o' + j * 4, none⟩) hgl).trans p0; have k1 := (hSw.cell (p := ⟨g', o' + j * 4 + 1, none⟩) hgl).trans p1; have k2 := (hSw.cell (p := ⟨g', o' + j * 4 + 2, none⟩) hgl).trans p2; have k3 := (hSw.cell (p := ⟨g', o' + j * 4 + 3, none⟩) hgl).trans p3; clear hSw; go_simp; try with_reducible rfl)
          refine tk 34 hHeld ?_
          refine tk 35 hHeld ?_
          refine tk 36 hHeld ?_
          refine tk 37 hHeld ?_ (hy := fun w hSw => by (try dsimp only at hSw); have k0 := (hSw.cell (p := ⟨g', o' + k * 4, none⟩) hgl).trans e0; have k1 := (hSw.cell (p := ⟨g', o' + k * 4 + 1, none⟩) hgl).trans e1; have k2 := (hSw.cell (p := ⟨g', o' + k * 4 + 2, none⟩) hgl).trans e2; have k3 := (hSw.cell (p := ⟨g', o' + k * 4 + 3, none⟩) hgl).trans e3; clear hSw; go_simp; try with_reducible rfl)
          refine rd1 38 (fun K hK => ?_)
          go_simp
          go_at_call 78
          refine (hZ _).mono ?_
          rintro e w4 ⟨rfl, hb⟩
          refine hK.out _ _ (hHeld.trans (hb.mono hHeld.size)) (fun hHeld => ?_)
          clear hK K hb
          refine tk 39 hHeld ?_
          refine tk 40 hHeld ?_
          refine tk 41 hHeld ?_
          refine rd0 ?_
          have HF := Lib.hid hHeld
          clear hHeld
          have HB2 := Lib.hid (HB.out.trans (HF.out.mono hsz))
          go_wp2
          go_ret
          exact resB_no HN.out HB2.out
        | true =>
          rw [hz] at hZ
          have HLT := Lib.hid ((lessB_iff HRY.out H1.out).1 hz)
          clear hz
          obtain ⟨b, hb⟩ : ∃ b, decide (((y0, y1) : Int × Int) = (x0, x1)) = b := ⟨_, rfl⟩
          have hq := eql_lab y0 y1 x0 x1 b hb
          have HLU := Lib.hid (fun (u : D_Use) (_ : 0 < k) (hu : L[k - 1]? = some u) => show ltU u ((x0, x1), x2, x3) from by rw [HY.out] at hu; cases hu; exact HLT.out)
          go_wp2_with fail
          refine wp_region_held_drew (S := (fun V => Below (wr).heap.size (wr) V)) (by kernel_rfl) ((Below.refl _ _).drew) (fun hHeld => ?_)
          refine tk 0 hHeld ?_
          refine tk 1 hHeld ?_
          refine tk 2 hHeld ?_
          refine tk 3 hHeld ?_
          refine tk 4 hHeld ?_ (hy := fun w hSw => by (try dsimp only at hSw); have k0 := (hSw.cell (p := ⟨g', o' + k * 4, none⟩) hgl).trans e0; have k1 := (hSw.cell (p := ⟨g', o' + k * 4 + 1, none⟩) hgl).trans e1; clear hSw; go_simp; try with_reducible rfl)
          refine rd1 5 (fun K hK => ?_)
          go_simp
          go_at_call 76
          refine (hL _).mono ?_
          rintro e w1 ⟨rfl, hb⟩
          refine hK.out _ _ (hHeld.trans (hb.mono hHeld.size)) (fun hHeld => ?_)
          clear hK K hb
          refine tk 6 hHeld ?_
          refine tk 7 hHeld ?_
          refine tk 8 hHeld ?_
          refine tk 9 hHeld ?_
          refine tk 10 hHeld ?_
          refine tk 11 hHeld ?_
          refine tk 12 hHeld ?_ (hy := fun w hSw => by (try dsimp only at hSw); have k0 := (hSw.cell (p := ⟨g', o' + k * 4 + 2, none⟩) hgl).trans e2; clear hSw; go_simp; try with_reducible rfl)
          refine rd1 13 (fun K hK => ?_)
          go_simp
          go_at_call 77
          refine (hN _).mono ?_
          rintro e w2 ⟨rfl, hb⟩
          refine hK.out _ _ (hHeld.trans (hb.mono hHeld.size)) (fun hHeld => ?_)
          clear hK K hb
          refine tk 14 hHeld ?_
          refine tk 15 hHeld ?_
          refine tk 16 hHeld ?_
          refine tk 17 hHeld ?_
          refine tk 18 hHeld ?_
          refine tk 19 hHeld ?_
          refine tk 20 hHeld ?_
          refine tk 21 hHeld ?_ (hy := fun w hSw => by (try dsimp only at hSw); have k0 := (hSw.cell (p := ⟨g', o' + k * 4 + 3, none⟩) hgl).trans e3; clear hSw; go_simp; try with_reducible rfl)
          refine rd1 22 (fun K hK => ?_)
          go_simp
          go_at_call 67
          refine (hI _).mono ?_
          rintro e w3 ⟨rfl, hb⟩
          refine hK.out _ _ (hHeld.trans (hb.mono hHeld.size)) (fun hHeld => ?_)
          clear hK K hb
          refine tk 23 hHeld ?_
          refine tk 24 hHeld ?_
          refine tk 25 hHeld ?_
          refine tk 26 hHeld ?_
          refine tk 27 hHeld ?_
          refine tk 28 hHeld ?_
          refine tk 29 hHeld ?_
          refine tk 30 hHeld ?_
          refine tk 31 hHeld ?_
          refine tk 32 hHeld ?_
          refine tk 33 hHeld ?_ (hy := fun w hSw => by (try dsimp only at hSw); have k0 := (hSw.cell (p := ⟨g', o' + j * 4, none⟩) hgl).trans p0; have k1 := (hSw.cell (p := ⟨g', o' + j * 4 + 1, none⟩) hgl).trans p1; have k2 := (hSw.cell (p := ⟨g', o' + j * 4 + 2, none⟩) hgl).trans p2; have k3 := (hSw.cell (p := ⟨g', o' + j * 4 + 3, none⟩) hgl).trans p3; clear hSw; go_simp; try with_reducible rfl)
          refine tk 34 hHeld ?_
          refine tk 35 hHeld ?_
          refine tk 36 hHeld ?_
          refine tk 37 hHeld ?_ (hy := fun w hSw => by (try dsimp only at hSw); have k0 := (hSw.cell (p := ⟨g', o' + k * 4, none⟩) hgl).trans e0; have k1 := (hSw.cell (p := ⟨g', o' + k * 4 + 1, none⟩) hgl).trans e1; have k2 := (hSw.cell (p := ⟨g', o' + k * 4 + 2, none⟩) hgl).trans e2; have k3 := (hSw.cell (p := ⟨g', o' + k * 4 + 3, none⟩) hgl).trans e3; clear hSw; go_simp; try with_reducible rfl)
          refine rd1 38 (fun K hK => ?_)
          go_simp
          go_at_call 78
          refine (hZ _).mono ?_
          rintro e w4 ⟨rfl, hb⟩
          refine hK.out _ _ (hHeld.trans (hb.mono hHeld.size)) (fun hHeld => ?_)
          clear hK K hb
          refine tk 39 hHeld ?_
          refine tk 40 hHeld ?_
          refine tk 41 hHeld ?_
          refine rd0 ?_
          have HF := Lib.hid hHeld
          clear hHeld
          have HB2 := Lib.hid (HB.out.trans (HF.out.mono hsz))
          have e0' := (HF.out.cell (p := ⟨g', o' + k * 4, none⟩) hgl).trans e0
          have e1' := (HF.out.cell (p := ⟨g', o' + k * 4 + 1, none⟩) hgl).trans e1
          have p0' := (HF.out.cell (p := ⟨g', o' + j * 4, none⟩) hgl).trans p0
          have p1' := (HF.out.cell (p := ⟨g', o' + j * 4 + 1, none⟩) hgl).trans p1
          clear e0 e1 e2 e3 p0 p1 p2 p3 hL hN hI hZ
          cases b with
          | true =>
            have HR := Lib.hid (runU_more HO.out.2 (by have := HJ.out; omega) HY.out HX.out (of_decide_eq_true hb))
            clear hb
            by_cases h6 : c = 6
            · have HN := Lib.hid (not_uses HX.out fun h => by have := (run_six HO.out.1 HX.out HOK.out HLU.out HR.out).2 h.2.2; omega)
              have hd6 : decide ((6 : Int) < (c : Int) + 1) = true := decide_eq_true (by omega)
              clear h6
              go_wp2_with fail
              go_quiet (fail)
              all_goals
                go_wp2
                go_ret
                exact resB_no HN.out (by first | exact HB2.out | exact HB2.out.drew | exact bdrewN HB2.out _)
            · have HS := Lib.hid (usTo_step HO.out.1 HX.out ⟨HOK.out, HLU.out, (run_six HO.out.1 HX.out HOK.out HLU.out HR.out).1 (by omega)⟩)
              have hd6 : decide ((6 : Int) < (c : Int) + 1) = false := decide_eq_false (by omega)
              go_wp2_with fail
              go_quiet (fail)
              all_goals
                go_wp2
                go_roundw
                case rel => exact ⟨k + 1, c + 1, by omega, by go_num, by go_num, by omega, Lib.hid ⟨HS.out, HR.out⟩, by first | exact HB2.out | exact HB2.out.drew | exact bdrewN HB2.out _⟩
                case measure => simp [intOf]; omega
          | false =>
            have HR := Lib.hid (runU_new HX.out fun u h hu he => by rw [HY.out] at hu; cases hu; exact of_decide_eq_false hb he)
            have HS := Lib.hid (usTo_step HO.out.1 HX.out ⟨HOK.out, HLU.out, (run_six HO.out.1 HX.out HOK.out HLU.out HR.out).1 (by omega)⟩)
            clear hb
            go_wp2_with fail
            go_quiet (fail)
            all_goals
              go_wp2
              go_roundw
              case rel => exact ⟨k + 1, 1, by omega, by go_num, by go_num, by omega, Lib.hid ⟨HS.out, HR.out⟩, by first | exact HB2.out | exact HB2.out.drew | exact bdrewN HB2.out _⟩
              case measure => simp [intOf]; omega
    · have hdl : decide ((k : Int) < (L.length : Int)) = false := decide_eq_false (by omega)
      obtain rfl : k = L.length := by omega
      have HY := Lib.hid (usesR_all h48 HO.out.1)
      clear hB
      go_wp2
      go_ret
      exact resB_yes HY.out HB.out
end Go.Proofs.YtelhmacfljffhaaGreat.RepC
end
section
namespace Go.Proofs.YtelhmacfljffhaaGreat.SortC
open Go.Shelf Go.RowKit RepC Go.Lib Go.Sort
set_option linter.unusedVariables false
set_option linter.unusedSimpArgs false
def cmpS (a b : ByteArray) : Int := if sLt a b = true then -1 else if sLt b a = true then 1 else 0
theorem nan_v (a : ByteArray) (w : World) : Calls Tryz.prog 188 #[.string a] w fun e w' => e = .returned (.bool false) ∧ w' = w := by
  go_enter Tryz.func188, Tryz.ntmps188
  go_wp2
  go_ret
  exact ⟨by simp, rfl⟩
set_option maxHeartbeats 1600000 in
theorem cmpstr_v (a b : ByteArray) (w : World) : Calls Tryz.prog 156 #[.string a, .string b] w fun e w' => e = .returned (.int .i64 (cmpS a b)) ∧ w' = w := by
  cases h1 : sLt a b with
  | true =>
    have HE := Lib.hid (show cmpS a b = -1 from if_pos h1)
    have hl : Op.bytesLess a.toList b.toList = true := h1
    clear h1
    go_enter Tryz.func156, Tryz.ntmps156
    go_wp2_with (go_at_call 188; refine (nan_v _ _).mono ?_; rintro e w' ⟨rfl, rfl⟩)
    go_ret
    exact ⟨by rw [HE.out]; rfl, rfl⟩
  | false =>
    have hl : Op.bytesLess a.toList b.toList = false := h1
    cases h2 : sLt b a with
    | true =>
      have HE := Lib.hid (show cmpS a b = 1 from by unfold cmpS; rw [if_neg (by rw [h1]; decide), if_pos h2])
      have he : (a.toList == b.toList) = false := by
        rw [Bool.eq_false_iff]
        intro h
        have := bl_inj (eq_of_beq h)
        rw [this, sLt_irrefl] at h2
        cases h2
      clear h1 h2
      go_enter Tryz.func156, Tryz.ntmps156
      go_wp2_with (go_at_call 188; refine (nan_v _ _).mono ?_; rintro e w' ⟨rfl, rfl⟩)
      go_ret
      exact ⟨by rw [HE.out]; rfl, rfl⟩
    | false =>
      have HE := Lib.hid (show cmpS a b = 0 from by unfold cmpS; rw [if_neg (by rw [h1]; decide), if_neg (by rw [h2]; decide)])
      have he : (a.toList == b.toList) = true := by rw [sLt_tri h1 h2]; simp
      clear h1 h2
      go_enter Tryz.func156, Tryz.ntmps156
      go_wp2_with (go_at_call 188; refine (nan_v _ _).mono ?_; rintro e w' ⟨rfl, rfl⟩)
      go_ret
      exact ⟨by rw [HE.out]; rfl, rfl⟩
theorem bylab_b (a0 a1 b0 b1 : Int) (V : World) : Calls Tryz.prog 143 #[.agg #[.int .i64 a0, .int .i64 a1], .agg #[.int .i64 b0, .int .i64 b1]] V fun e w' => e = .returned (.int .i64 (labI a0 a1 b0 b1)) ∧ w' = ((((V.alloc (.cells #[.int .i64 a0, .int .i64 a1] 67)).alloc (.cells #[.int .i64 b0, .int .i64 b1] 67)).drew).alloc (.cells #[.int .i64 (Lib.compareInt a0 b0), .int .i64 (Lib.compareInt a1 b1)] 3)) ∧ RowKit.Below V.heap.size V w' :=
  (bylab_v a0 a1 b0 b1 V).mono fun e w' ⟨h1, h2⟩ => ⟨h1, h2, by rw [h2]; exact (((RowKit.Below.refl V.heap.size V).alloc (Nat.le_refl _) _).alloc (by simp) _).drew.alloc (by simp; omega) _⟩
def accI (a0 a1 : Int) (a2 : ByteArray) (b0 b1 : Int) (b2 : ByteArray) : Int := orI [labI a0 a1 b0 b1, cmpS a2 b2]
set_option maxRecDepth 100000 in
set_option maxHeartbeats 3200000 in
theorem byacc_v (a0 a1 b0 b1 : Int) (a2 b2 : ByteArray) (W : World) :
    Calls Tryz.prog 99 #[.agg #[.int .i64 a0, .int .i64 a1, .string a2], .agg #[.int .i64 b0, .int .i64 b1, .string b2]] W
      fun e w' => e = .returned (.int .i64 (accI a0 a1 a2 b0 b1 b2)) ∧ w' = (((((((W.alloc (.cells #[.int .i64 a0, .int .i64 a1, .string a2] 140)).alloc (.cells #[.int .i64 b0, .int .i64 b1, .string b2] 140)).drew.alloc (.cells #[.int .i64 a0, .int .i64 a1] 67)).alloc (.cells #[.int .i64 b0, .int .i64 b1] 67)).drew).alloc (.cells #[.int .i64 (Lib.compareInt a0 b0), .int .i64 (Lib.compareInt a1 b1)] 3)).alloc (.cells #[.int .i64 (labI a0 a1 b0 b1), .int .i64 (cmpS a2 b2)] 3)) := by
  obtain ⟨V0, hV0⟩ : ∃ V0, V0 = ((W.alloc (.cells #[.int .i64 a0, .int .i64 a1, .string a2] 140)).alloc (.cells #[.int .i64 b0, .int .i64 b1, .string b2] 140)) := ⟨_, rfl⟩
  have HV := Lib.hid hV0
  have BA := Lib.hid (show Blk V0 W.heap.size 140 #[.int .i64 a0, .int .i64 a1, .string a2] from by rw [hV0]; exact (Blk.new W _ _).alloc _)
  have BB := Lib.hid (show Blk V0 (W.heap.size + 1) 140 #[.int .i64 b0, .int .i64 b1, .string b2] from by
    have h9 := Blk.new (W.alloc (.cells #[.int .i64 a0, .int .i64 a1, .string a2] 140)) 140 #[.int .i64 b0, .int .i64 b1, .string b2]
    simp only [World.size_alloc] at h9
    rw [hV0]; exact h9)
  go_enter Tryz.func99, Tryz.ntmps99
  go_wp2_with fail
  rw [← hV0]
  clear hV0
  refine wp_region_held_drew (S := (fun V => Below (V0).heap.size (V0) V)) (by kernel_rfl) ((Below.refl _ _).drew) (fun hHeld => ?_)
  refine tk 0 hHeld ?_
  refine tk 1 hHeld ?_ (hy := fun w hSw => by (try dsimp only at hSw); have k0 := (hSw.cell (p := ⟨W.heap.size, 0, none⟩) BA.out.lt).trans (BA.out.at_ 0 rfl); have k1 := (hSw.cell (p := ⟨W.heap.size, 1, none⟩) BA.out.lt).trans (BA.out.at_ 1 rfl); clear hSw; go_simp; try with_reducible rfl)
  refine tk 2 hHeld ?_
  refine tk 3 hHeld ?_ (hy := fun w hSw => by (try dsimp only at hSw); have k0 := (hSw.cell (p := ⟨W.heap.size + 1, 0, none⟩) BB.out.lt).trans (BB.out.at_ 0 rfl); have k1 := (hSw.cell (p := ⟨W.heap.size + 1, 1, none⟩) BB.out.lt).trans (BB.out.at_ 1 rfl); clear hSw; go_simp; try with_reducible rfl)
  refine tk 5 hHeld ?_
  refine tk 6 hHeld ?_ (hy := fun w hSw => by (try dsimp only at hSw); have k0 := (hSw.cell (p := ⟨W.heap.size, 2, none⟩) BA.out.lt).trans (BA.out.at_ 2 rfl); clear hSw; go_simp; try with_reducible rfl)
  refine tk 7 hHeld ?_
  refine tk 8 hHeld ?_ (hy := fun w hSw => by (try dsimp only at hSw); have k0 := (hSw.cell (p := ⟨W.heap.size + 1, 2, none⟩) BB.out.lt).trans (BB.out.at_ 2 rfl); clear hSw; go_simp; try with_reducible rfl)
  refine rd1 4 (fun K hK => ?_)
  go_simp
  go_at_call 143
  refine (bylab_b a0 a1 b0 b1 _).mono ?_
  rintro e w1 ⟨rfl, hw1, hb⟩
  have HV1 := Lib.hid hw1
  clear hw1
  refine hK.out _ _ (hHeld.trans (hb.mono hHeld.size)) (fun hHeld => ?_)
  clear hK K hb
  refine rd1 9 (fun K hK => ?_)
  go_simp
  go_at_call 156
  refine (cmpstr_v a2 b2 _).mono ?_
  rintro e w2 ⟨rfl, rfl⟩
  have hb := Below.refl w2.heap.size w2
  refine hK.out _ _ (hHeld.trans (hb.mono hHeld.size)) (fun hHeld => ?_)
  clear hK K hb
  refine rd1 10 (fun K hK => ?_)
  go_simp
  have hb := (Below.refl w2.heap.size w2).alloc (Nat.le_refl _) (.cells #[.int .i64 (labI a0 a1 b0 b1), .int .i64 (cmpS a2 b2)] 3)
  have HS4 := Lib.hid (Blk.new w2 3 #[.int .i64 (labI a0 a1 b0 b1), .int .i64 (cmpS a2 b2)])
  refine hK.out _ _ (hHeld.trans (hb.mono hHeld.size)) (fun hHeld => ?_)
  clear hK K hb
  refine rd1 11 (fun K hK => ?_)
  go_simp
  go_at_call 155
  refine (or2_v _ _ _ _ HS4.out).mono ?_
  rintro e w3 ⟨rfl, rfl⟩
  have hb := Below.refl (w2.alloc (.cells #[.int .i64 (labI a0 a1 b0 b1), .int .i64 (cmpS a2 b2)] 3)).heap.size (w2.alloc (.cells #[.int .i64 (labI a0 a1 b0 b1), .int .i64 (cmpS a2 b2)] 3))
  refine hK.out _ _ (hHeld.trans (hb.mono hHeld.size)) (fun hHeld => ?_)
  clear hK K hb
  refine tk 12 hHeld ?_
  refine rd0 ?_
  have HF := Lib.hid hHeld
  clear hHeld
  go_wp2
  go_ret
  exact ⟨rfl, by rw [HV1.out, HV.out]⟩
abbrev AC := (Int × Int) × ByteArray
def cfA (x y : AC) : Int := accI x.1.1 x.1.2 x.2 y.1.1 y.1.2 y.2
def ltA (x y : AC) : Prop := ltLb x.1 y.1 ∨ (x.1 = y.1 ∧ sLt x.2 y.2 = true)
theorem labI_cases (a0 a1 b0 b1 : Int) : (labI a0 a1 b0 b1 = -1 ∧ ltLb (a0, a1) (b0, b1)) ∨ (labI a0 a1 b0 b1 = 0 ∧ ((a0, a1) : Int × Int) = (b0, b1)) ∨ (labI a0 a1 b0 b1 = 1 ∧ ltLb (b0, b1) (a0, a1)) := by
  unfold labI orI ltLb
  rcases cmpI a0 b0 with ⟨e1, h1⟩ | ⟨e1, h1⟩ | ⟨e1, h1⟩ <;> rcases cmpI a1 b1 with ⟨e2, h2⟩ | ⟨e2, h2⟩ | ⟨e2, h2⟩ <;> rw [e1, e2] <;> simp <;> omega
theorem cmpS_cases (a b : ByteArray) : (cmpS a b = -1 ∧ sLt a b = true) ∨ (cmpS a b = 0 ∧ a = b) ∨ (cmpS a b = 1 ∧ sLt b a = true) := by
  unfold cmpS
  cases h1 : sLt a b
  · cases h2 : sLt b a
    · right; left; exact ⟨by simp, sLt_tri h1 h2⟩
    · right; right; exact ⟨by simp, rfl⟩
  · left; exact ⟨by simp, rfl⟩
theorem ltLb_asymm {a b : D_Label} (h1 : ltLb a b) : ¬ ltLb b a := fun h2 => ltLb_irrefl (ltLb_trans h1 h2)
theorem ltLb_ne {a b : D_Label} (h1 : ltLb a b) : a ≠ b := fun e => by rw [e] at h1; exact ltLb_irrefl h1
theorem cfA_neg (x y : AC) : cfA x y < 0 ↔ ltA x y := by
  obtain ⟨⟨a0, a1⟩, a2⟩ := x
  obtain ⟨⟨b0, b1⟩, b2⟩ := y
  unfold cfA accI ltA orI
  rcases labI_cases a0 a1 b0 b1 with ⟨e1, h1⟩ | ⟨e1, h1⟩ | ⟨e1, h1⟩
  · simp [e1, h1]
  · rcases cmpS_cases a2 b2 with ⟨e2, h2⟩ | ⟨e2, h2⟩ | ⟨e2, h2⟩
    · simp [e1, e2, h1, h2]
    · subst h2; simp [e1, e2, h1, sLt_irrefl, ltLb_irrefl]
    · simp [e1, e2, h1, sLt_asymm h2, ltLb_irrefl]
  · simp [e1, ltLb_asymm h1, (ltLb_ne h1).symm]
theorem accI_ge (x y : AC) : 0 ≤ cfA x y ↔ ¬ ltA x y := by rw [← cfA_neg]; omega
end Go.Proofs.YtelhmacfljffhaaGreat.SortC
end
section
namespace Go.Proofs.YtelhmacfljffhaaGreat.RepC
open Go.RowKit RowC ValC SpanC KeptC NameC SortC
set_option linter.unusedVariables false
set_option linter.unusedSimpArgs false
theorem acc_w {x0 x1 x3 : Int} {x2 : ByteArray} (W : World) : Calls Tryz.prog 100 #[.agg #[.int .i64 x0, .int .i64 x1, .string x2, .int .i64 x3]] W fun e w' => e = .returned (.agg #[.int .i64 x0, .int .i64 x1, .string x2]) ∧ Below W.heap.size W w' := by
  go_enter Tryz.func100, Tryz.ntmps100
  go_wp2
  refine bodyPost_ret (v := .agg #[.int .i64 x0, .int .i64 x1, .string x2]) (by simp [results, Tryz.results100, go_sem]) rfl ⟨rfl, ?_⟩
  repeat (first | exact Below.refl _ _ | refine Below.setCell ?_ (by first | omega | (simp; done) | (simp; omega)) _ | refine Below.alloc ?_ (by first | omega | (simp; done) | (simp; omega)) _)
theorem byacc_w (a0 a1 b0 b1 : Int) (a2 b2 : ByteArray) (W : World) : Calls Tryz.prog 99 #[.agg #[.int .i64 a0, .int .i64 a1, .string a2], .agg #[.int .i64 b0, .int .i64 b1, .string b2]] W fun e w' => e = .returned (.int .i64 (cfA ((a0, a1), a2) ((b0, b1), b2))) ∧ Below W.heap.size W w' :=
  (byacc_v a0 a1 b0 b1 a2 b2 W).mono fun e w' ⟨h1, h2⟩ => ⟨h1, by
    rw [h2]
    exact (((((((Below.refl W.heap.size W).alloc (Nat.le_refl _) _).alloc (by simp) _).drew.alloc (by simp; omega) _).alloc (by simp; omega) _).drew.alloc (by simp; omega) _).alloc (by simp; omega) _)⟩
set_option maxRecDepth 100000 in
set_option maxHeartbeats 3200000 in
theorem uses_impl {L : List D_Use} {a : Option Addr} {cap : Nat} {W : World} (h : RdSl R_Use W W.heap.size L a cap) :
    Calls Tryz.prog 38 #[.slice a L.length cap] W (IsB (usesB L) W) := by
  refine Calls.mono ?_ fun e w' h => resB_is usesB_iff h
  have hn := us_len h
  have H := Lib.hid h
  clear h
  by_cases h48 : L.length ≤ 48
  rotate_left
  · have HN := Lib.hid (show ¬ UsesR L from fun h => h48 h.1)
    have hd : decide ((48 : Int) < (L.length : Int)) = true := decide_eq_true (by omega)
    go_enter Tryz.func38, Tryz.ntmps38
    go_wp2
    go_ret
    exact resB_no HN.out (Below.refl _ _)
  have hd : decide ((48 : Int) < (L.length : Int)) = false := decide_eq_false (by omega)
  go_enter Tryz.func38, Tryz.ntmps38
  go_wp2
  go_loopw [10] (fun i wr => ∃ k : Nat, k ≤ L.length ∧ i = .int .i64 k ∧ Hid (usTo L k) ∧ Below W.heap.size W wr) (fun i _ => L.length - (intOf i).toNat)
  case atStart => exact ⟨0, Nat.zero_le _, rfl, Lib.hid usTo_zero, Below.refl _ _⟩
  case round =>
    obtain ⟨k, hk, rfl, HO, hB⟩ := hrel
    obtain ⟨wo, rfl⟩ : ∃ x, x = wr := ⟨_, rfl⟩
    have HB := Lib.hid hB
    have hsz := hB.size
    by_cases hlt : k < L.length
    · skip
      obtain ⟨⟨⟨x0, x1⟩, x2, x3⟩, hx⟩ := el_some hlt
      have HX := Lib.hid hx
      obtain ⟨g, o, us, rfl, hg, hu, hr⟩ := (H.out.below R_Use_ok hB).at_ hx
      obtain ⟨rfl, b_x2⟩ := rd_Use hr
      have e0 : wo.cell? ⟨g, o + k * 4, none⟩ = some (.int .i64 x0) := by simpa [size_UseS, Nat.add_assoc] using hu 0 _ rfl
      have e1 : wo.cell? ⟨g, o + k * 4 + 1, none⟩ = some (.int .i64 x1) := by simpa [size_UseS, Nat.add_assoc] using hu 1 _ rfl
      have e2 : wo.cell? ⟨g, o + k * 4 + 2, none⟩ = some (.string x2) := by simpa [size_UseS, Nat.add_assoc] using hu 2 _ rfl
      have e3 : wo.cell? ⟨g, o + k * 4 + 3, none⟩ = some (.int .i64 x3) := by simpa [size_UseS, Nat.add_assoc] using hu 3 _ rfl
      have hi0 : (0 : Int) ≤ (k : Int) := Int.natCast_nonneg _
      have hi1 : (k : Int) < (L.length : Int) := by omega
      have HA := Lib.hid ((H.out.below R_Use_ok hB))
      obtain ⟨w1, hw1⟩ : ∃ w, w = wo.alloc (.cells #[.int .i64 x0, .int .i64 x1, .string x2, .int .i64 x3] 76) := ⟨_, rfl⟩
      have hbA : Below wo.heap.size wo w1 := by rw [hw1]; exact (Below.refl _ _).alloc (Nat.le_refl _) _
      have HBA := Lib.hid hbA
      have HG := Lib.hid (Nat.lt_of_lt_of_le hg hsz)
      have HP1 := Lib.hid (show Blk w1 wo.heap.size 76 #[.int .i64 x0, .int .i64 x1, .string x2, .int .i64 x3] from by rw [hw1]; exact Blk.new _ _ _)
      have HB1 := Lib.hid (HB.out.trans (hbA.mono hsz))
      have hz1 := HB1.out.size
      have q0 := HP1.out.at_ 0 rfl
      have q1 := HP1.out.at_ 1 rfl
      have q2 := HP1.out.at_ 2 rfl
      have q3 := HP1.out.at_ 3 rfl
      clear hu hr hg hB hx
      have hL := fun V => LabC.ri_w x0 x1 V
      have hN := fun V => ni_w x2 b_x2 V
      have hI := fun V => ur_w x3 V
      go_wp2_with fail
      rw [← hw1]
      clear hw1 hbA e0 e1 e2 e3
      refine (hL _).mono ?_
      rintro e w2 ⟨rfl, hb⟩
      have HB2 := Lib.hid (HB1.out.trans (hb.mono hz1))
      have HP2 := Lib.hid (HP1.out.call hb)
      have hz2 := HB2.out.size
      have HS2 := Lib.hid hb.size
      clear hb q0 q1 q2 q3
      have q0 := HP2.out.at_ 0 rfl
      have q1 := HP2.out.at_ 1 rfl
      have q2 := HP2.out.at_ 2 rfl
      have q3 := HP2.out.at_ 3 rfl
      cases h1 : LabC.rB x0 x1 with
      | false =>
        have HN := Lib.hid (not_uses HX.out fun h => by have := h.1.1; simp only [h1] at this; cases this)
        clear h1
        go_wp2
        go_ret
        exact resB_no HN.out HB2.out
      | true =>
      have H1 := Lib.hid h1
      clear h1
      go_wp2_with fail
      refine (hN _).mono ?_
      rintro e w3 ⟨rfl, hb⟩
      have HB3 := Lib.hid (HB2.out.trans (hb.mono hz2))
      have HP3 := Lib.hid (HP2.out.call hb)
      have hz3 := HB3.out.size
      have HS3 := Lib.hid hb.size
      clear hb q0 q1 q2 q3
      have q0 := HP3.out.at_ 0 rfl
      have q1 := HP3.out.at_ 1 rfl
      have q2 := HP3.out.at_ 2 rfl
      have q3 := HP3.out.at_ 3 rfl
      cases h2 : nameB x2 with
      | false =>
        have HN := Lib.hid (not_uses HX.out fun h => by have := nameB_iff.2 h.1.2.1; simp only [h2] at this; cases this)
        clear h2
        go_wp2
        go_ret
        exact resB_no HN.out HB3.out
      | true =>
      have H2 := Lib.hid (nameB_iff.1 h2)
      clear h2
      go_wp2_with fail
      refine (hI _).mono ?_
      rintro e w4 ⟨rfl, hb⟩
      have HB4 := Lib.hid (HB3.out.trans (hb.mono hz3))
      have HP4 := Lib.hid (HP3.out.call hb)
      have hz4 := HB4.out.size
      have HS4z := Lib.hid hb.size
      clear hb q0 q1 q2 q3
      have q0 := HP4.out.at_ 0 rfl
      have q1 := HP4.out.at_ 1 rfl
      have q2 := HP4.out.at_ 2 rfl
      have q3 := HP4.out.at_ 3 rfl
      cases h3 : isB x3 1 100000 with
      | false =>
        have HN := Lib.hid (not_uses HX.out fun h => by have := h.1.2.2; simp only [h3] at this; cases this)
        clear h3
        go_wp2
        go_ret
        exact resB_no HN.out HB4.out
      | true =>
      have HOK := Lib.hid (show okU ((x0, x1), x2, x3) from ⟨H1.out, H2.out, h3⟩)
      clear h3
      have HA4 := Lib.hid (H.out.below R_Use_ok HB4.out)
      have HG4 := Lib.hid (show g < w4.heap.size from Nat.lt_of_lt_of_le HG.out (Nat.le_trans HBA.out.size (show w1.heap.size ≤ w4.heap.size from Nat.le_trans HS2.out (Nat.le_trans HS3.out HS4z.out))))
      clear q0 q1 q2 q3 hL hN hI
      by_cases hk0 : k = 0
      · have hkp : ¬ 0 < k := by omega
        have hd0 : decide ((0 : Int) < (k : Int)) = false := decide_eq_false (by omega)
        have hk6 : ¬ 6 ≤ k := by omega
        have hd6 : decide ((6 : Int) ≤ (k : Int)) = false := decide_eq_false (by omega)
        have HS := Lib.hid (usTo_step HO.out HX.out ⟨HOK.out, fun y h => by omega, fun y h => by omega⟩)
        clear hk0
        go_wp2_with fail
        refine wp_region_held_drew (S := (fun V => Below (w4).heap.size (w4) V)) (by kernel_rfl) ((Below.refl _ _).drew) (fun hHeld => ?_)
        refine tk 0 hHeld ?_
        refine tk 1 hHeld ?_
        refine tk 2 hHeld ?_
        refine tn 3 hHeld ?_
        refine tn 4 hHeld ?_
        refine tn 5 hHeld ?_
        refine tn 6 hHeld ?_
        refine tn 7 hHeld ?_
        refine tn 8 hHeld ?_
        refine tn 9 hHeld ?_
        refine tn 10 hHeld ?_
        refine tn 11 hHeld ?_
        refine tn 12 hHeld ?_
        refine tk 13 hHeld ?_
        refine rd0 ?_
        have HF := Lib.hid hHeld
        clear hHeld
        have HB5 := Lib.hid (HB4.out.trans (HF.out.mono hz4))
        go_wp2_with fail
        go_quiet (fail)
        all_goals
          go_wp2
          go_roundw
          case rel => exact ⟨k + 1, by omega, by go_num, HS, by first | exact HB5.out | exact HB5.out.drew | exact bdrewN HB4.out _ | exact bdrewN HB5.out _⟩
          case measure => simp [intOf]; omega
      · have hkp : 0 < k := by omega
        have hd0 : decide ((0 : Int) < (k : Int)) = true := decide_eq_true (by omega)
        obtain ⟨j, hj⟩ : ∃ j, k = j + 1 := ⟨k - 1, by omega⟩
        have HJ := Lib.hid hj
        obtain ⟨⟨⟨y0, y1⟩, y2, y3⟩, hy⟩ := el_some (show j < L.length by omega)
        have HY := Lib.hid (show L[k - 1]? = some ((y0, y1), y2, y3) from by rw [hj, Nat.add_sub_cancel]; exact hy)
        obtain ⟨g', o', us', hgo, hg', hu', hr'⟩ := HA4.out.at_ hy
        obtain ⟨rfl, rfl⟩ : g' = g ∧ o' = o := by cases hgo; exact ⟨rfl, rfl⟩
        obtain ⟨rfl, b_y2⟩ := rd_Use hr'
        have p0 : w4.cell? ⟨g', o' + j * 4, none⟩ = some (.int .i64 y0) := by simpa [size_UseS, Nat.add_assoc] using hu' 0 _ rfl
        have p1 : w4.cell? ⟨g', o' + j * 4 + 1, none⟩ = some (.int .i64 y1) := by simpa [size_UseS, Nat.add_assoc] using hu' 1 _ rfl
        have p2 : w4.cell? ⟨g', o' + j * 4 + 2, none⟩ = some (.string y2) := by simpa [size_UseS, Nat.add_assoc] using hu' 2 _ rfl
        have p3 : w4.cell? ⟨g', o' + j * 4 + 3, none⟩ = some (.int .i64 y3) := by simpa [size_UseS, Nat.add_assoc] using hu' 3 _ rfl
        have hjs : (k : Int) - 1 = (j : Int) := by omega
        have hj0 : (0 : Int) ≤ (j : Int) := Int.natCast_nonneg _
        have hj1 : (j : Int) < (L.length : Int) := by omega
        have hjw : IntKind.i64.wrap (j : Int) = (j : Int) := IntWalk.i64_in _ (by omega)
        obtain ⟨c, hc⟩ : ∃ c, cfA ((y0, y1), y2) ((x0, x1), x2) = c := ⟨_, rfl⟩
        have hC := fun V => byacc_w y0 y1 x0 x1 y2 x2 V
        rw [hc] at hC
        have HC := Lib.hid (show 0 ≤ c ↔ ¬ ltU ((y0, y1), y2, y3) ((x0, x1), x2, x3) from by rw [← hc]; exact accI_ge _ _)
        clear hgo hg' hu' hr' hy hj hk0 hc
        by_cases hz : 0 ≤ c
        · have HN := Lib.hid (not_uses HX.out fun h => HC.out.1 hz (h.2.1 _ (by have := HJ.out; omega) HY.out))
          have hge : decide (0 ≤ c) = true := decide_eq_true hz
          go_wp2_with fail
          refine wp_region_held_drew (S := (fun V => Below (w4).heap.size (w4) V)) (by kernel_rfl) ((Below.refl _ _).drew) (fun hHeld => ?_)
          refine tk 0 hHeld ?_
          refine tk 1 hHeld ?_
          refine tk 2 hHeld ?_
          refine tk 3 hHeld ?_
          refine tk 4 hHeld ?_
          refine tk 5 hHeld ?_
          refine tk 6 hHeld ?_
          refine tk 7 hHeld ?_ (hy := fun w hSw => by (try dsimp only at hSw); have k0 := (hSw.cell (p := ⟨g', o' + j * 4, none⟩) HG4.out).trans p0; have k1 := (hSw.cell (p := ⟨g', o' + j * 4 + 1, none⟩) HG4.out).trans p1; have k2 := (hSw.cell (p := ⟨g', o' + j * 4 + 2, none⟩) HG4.out).trans p2; have k3 := (hSw.cell (p := ⟨g', o' + j * 4 + 3, none⟩) HG4.out).trans p3; clear hSw; go_simp; try with_reducible rfl)
          refine tk 9 hHeld ?_ (hy := fun w hSw => by (try dsimp only at hSw); have k0 := (hSw.cell (p := ⟨wo.heap.size, 0, none⟩) HP4.out.lt).trans (HP4.out.at_ 0 rfl); have k1 := (hSw.cell (p := ⟨wo.heap.size, 1, none⟩) HP4.out.lt).trans (HP4.out.at_ 1 rfl); have k2 := (hSw.cell (p := ⟨wo.heap.size, 2, none⟩) HP4.out.lt).trans (HP4.out.at_ 2 rfl); have k3 := (hSw.cell (p := ⟨wo.heap.size, 3, none⟩) HP4.out.lt).trans (HP4.out.at_ 3 rfl); clear hSw; go_simp; try with_reducible rfl)
          refine rd1 8 (fun K hK => ?_)
          go_simp
          go_at_call 100
          refine (acc_w (x3 := y3) _).mono ?_
          rintro e w5 ⟨rfl, hb⟩
          refine hK.out _ _ (hHeld.trans (hb.mono hHeld.size)) (fun hHeld => ?_)
          clear hK K hb
          refine rd1 10 (fun K hK => ?_)
          go_simp
          go_at_call 100
          refine (acc_w (x3 := x3) _).mono ?_
          rintro e w6 ⟨rfl, hb⟩
          refine hK.out _ _ (hHeld.trans (hb.mono hHeld.size)) (fun hHeld => ?_)
          clear hK K hb
          refine rd1 11 (fun K hK => ?_)
          go_simp
          go_at_call 99
          refine (hC _).mono ?_
          rintro e w7 ⟨rfl, hb⟩
          refine hK.out _ _ (hHeld.trans (hb.mono hHeld.size)) (fun hHeld => ?_)
          clear hK K hb
          refine tk 12 hHeld ?_
          refine tk 13 hHeld ?_
          refine rd0 ?_
          have HF := Lib.hid hHeld
          clear hHeld
          have HB5 := Lib.hid (HB4.out.trans (HF.out.mono hz4))
          go_wp2
          go_ret
          exact resB_no HN.out HB5.out
        · have HLT := Lib.hid (Classical.not_not.1 fun h => hz (HC.out.2 h))
          have hge : decide (0 ≤ c) = false := decide_eq_false hz
          have HLU := Lib.hid (fun (u : D_Use) (_ : 0 < k) (hu : L[k - 1]? = some u) => show ltU u ((x0, x1), x2, x3) from by rw [HY.out] at hu; cases hu; exact HLT.out)
          go_wp2_with fail
          refine wp_region_held_drew (S := (fun V => Below (w4).heap.size (w4) V)) (by kernel_rfl) ((Below.refl _ _).drew) (fun hHeld => ?_)
          refine tk 0 hHeld ?_
          refine tk 1 hHeld ?_
          refine tk 2 hHeld ?_
          refine tk 3 hHeld ?_
          refine tk 4 hHeld ?_
          refine tk 5 hHeld ?_
          refine tk 6 hHeld ?_
          refine tk 7 hHeld ?_ (hy := fun w hSw => by (try dsimp only at hSw); have k0 := (hSw.cell (p := ⟨g', o' + j * 4, none⟩) HG4.out).trans p0; have k1 := (hSw.cell (p := ⟨g', o' + j * 4 + 1, none⟩) HG4.out).trans p1; have k2 := (hSw.cell (p := ⟨g', o' + j * 4 + 2, none⟩) HG4.out).trans p2; have k3 := (hSw.cell (p := ⟨g', o' + j * 4 + 3, none⟩) HG4.out).trans p3; clear hSw; go_simp; try with_reducible rfl)
          refine tk 9 hHeld ?_ (hy := fun w hSw => by (try dsimp only at hSw); have k0 := (hSw.cell (p := ⟨wo.heap.size, 0, none⟩) HP4.out.lt).trans (HP4.out.at_ 0 rfl); have k1 := (hSw.cell (p := ⟨wo.heap.size, 1, none⟩) HP4.out.lt).trans (HP4.out.at_ 1 rfl); have k2 := (hSw.cell (p := ⟨wo.heap.size, 2, none⟩) HP4.out.lt).trans (HP4.out.at_ 2 rfl); have k3 := (hSw.cell (p := ⟨wo.heap.size, 3, none⟩) HP4.out.lt).trans (HP4.out.at_ 3 rfl); clear hSw; go_simp; try with_reducible rfl)
          refine rd1 8 (fun K hK => ?_)
          go_simp
          go_at_call 100
          refine (acc_w (x3 := y3) _).mono ?_
          rintro e w5 ⟨rfl, hb⟩
          refine hK.out _ _ (hHeld.trans (hb.mono hHeld.size)) (fun hHeld => ?_)
          clear hK K hb
          refine rd1 10 (fun K hK => ?_)
          go_simp
          go_at_call 100
          refine (acc_w (x3 := x3) _).mono ?_
          rintro e w6 ⟨rfl, hb⟩
          refine hK.out _ _ (hHeld.trans (hb.mono hHeld.size)) (fun hHeld => ?_)
          clear hK K hb
          refine rd1 11 (fun K hK => ?_)
          go_simp
          go_at_call 99
          refine (hC _).mono ?_
          rintro e w7 ⟨rfl, hb⟩
          refine hK.out _ _ (hHeld.trans (hb.mono hHeld.size)) (fun hHeld => ?_)
          clear hK K hb
          refine tk 12 hHeld ?_
          refine tk 13 hHeld ?_
          refine rd0 ?_
          have HF := Lib.hid hHeld
          clear hHeld
          have HB7 := Lib.hid (HB4.out.trans (HF.out.mono hz4))
          have HP7 := Lib.hid (HP4.out.call HF.out)
          have HA7 := Lib.hid (H.out.below R_Use_ok HB7.out)
          clear p0 p1 p2 p3 hC hjs hj0 hj1 hjw hge hz
          by_cases h6 : 6 ≤ k
          rotate_left
          · have hd6 : decide ((6 : Int) ≤ (k : Int)) = false := decide_eq_false (by omega)
            have HS := Lib.hid (usTo_step HO.out HX.out ⟨HOK.out, HLU.out, fun y h => absurd h h6⟩)
            go_wp2_with fail
            go_quiet (fail)
            all_goals
              go_wp2
              go_roundw
              case rel => exact ⟨k + 1, by omega, by go_num, HS, by first | exact HB7.out | exact HB7.out.drew | exact bdrewN HB7.out _⟩
              case measure => simp [intOf]; omega
          · have hd6 : decide ((6 : Int) ≤ (k : Int)) = true := decide_eq_true (by omega)
            obtain ⟨q, hq⟩ : ∃ q, k = q + 6 := ⟨k - 6, by omega⟩
            obtain ⟨⟨⟨z0, z1⟩, z2, z3⟩, hy⟩ := el_some (show q < L.length by omega)
            have HQ := Lib.hid (show L[k - 6]? = some ((z0, z1), z2, z3) from by rw [hq, Nat.add_sub_cancel]; exact hy)
            obtain ⟨g, o, us', hgo, hg', hu', hr'⟩ := HA7.out.at_ hy
            obtain ⟨rfl, rfl⟩ : g' = g ∧ o' = o := by cases hgo; exact ⟨rfl, rfl⟩
            obtain ⟨rfl, b_z2⟩ := rd_Use hr'
            have p0 : w7.cell? ⟨g', o' + q * 4, none⟩ = some (.int .i64 z0) := by simpa [size_UseS, Nat.add_assoc] using hu' 0 _ rfl
            have p1 : w7.cell? ⟨g', o' + q * 4 + 1, none⟩ = some (.int .i64 z1) := by simpa [size_UseS, Nat.add_assoc] using hu' 1 _ rfl
            have q0 := HP7.out.at_ 0 rfl
            have q1 := HP7.out.at_ 1 rfl
            have hqs : (k : Int) - 6 = (q : Int) := by omega
            have hq0 : (0 : Int) ≤ (q : Int) := Int.natCast_nonneg _
            have hq1 : (q : Int) < (L.length : Int) := by omega
            have hqw : IntKind.i64.wrap (q : Int) = (q : Int) := IntWalk.i64_in _ (by omega)
            have HK6 := Lib.hid h6
            obtain ⟨b, hb⟩ : ∃ b, decide (((z0, z1) : Int × Int) = (x0, x1)) = b := ⟨_, rfl⟩
            have hqq := eql_lab z0 z1 x0 x1 b hb
            clear hgo hg' hu' hr' hy hq
            cases b with
            | true =>
              have HN := Lib.hid (not_uses HX.out fun h => h.2.2 _ HK6.out HQ.out (of_decide_eq_true hb))
              clear hb
              go_wp2_with fail
              go_quiet (fail)
              all_goals
                go_wp2
                go_ret
                exact resB_no HN.out (by first | exact HB7.out | exact HB7.out.drew | exact bdrewN HB7.out _)
            | false =>
              have HS := Lib.hid (usTo_step HO.out HX.out ⟨HOK.out, HLU.out, fun y _ hy he => by rw [HQ.out] at hy; cases hy; exact of_decide_eq_false hb he⟩)
              clear hb
              go_wp2_with fail
              go_quiet (fail)
              all_goals
                go_wp2
                go_roundw
                case rel => exact ⟨k + 1, by omega, by go_num, HS, by first | exact HB7.out | exact HB7.out.drew | exact bdrewN HB7.out _⟩
                case measure => simp [intOf]; omega
    · have hdl : decide ((k : Int) < (L.length : Int)) = false := decide_eq_false (by omega)
      obtain rfl : k = L.length := by omega
      have HY := Lib.hid (usesR_all h48 HO.out)
      clear hB
      go_wp2
      go_ret
      exact resB_yes HY.out HB.out
end Go.Proofs.YtelhmacfljffhaaGreat.RepC
end
section
namespace Go.Proofs.YtelhmacfljffhaaGreat.SpanC
open Go.RowKit KeptC
set_option linter.unusedSimpArgs false
theorem method_before (a b : Int) (w : World) : (Go.method 354 172 (.agg #[.int .i64 a, .int .i64 b]) "loop.example/g00658/impl.before").run Tryz.prog w = .ok (231, .agg #[.int .i64 a, .int .i64 b]) w := by kernel_rfl
def Ord (n : Nat) (f : Nat → Int × Int) : Prop := ∀ j, j + 1 < n → (f j).2 ≤ (f (j + 1)).1
set_option maxRecDepth 100000 in
set_option maxHeartbeats 3200000 in
theorem order_impl (qa : Option Addr) (n qc : Nat) (f : Nat → Int × Int) (w : World) (hn : n ≤ 1048576) (h1 : PA w qa n f) :
    Calls Tryz.prog 147 #[.slice qa n qc] w (ResB (Ord n f) w) := by
  have H1 := Lib.hid h1
  clear h1
  go_enter Tryz.func147, Tryz.ntmps147
  go_wp2
  go_loopw [3] (fun i wr => ∃ k : Nat, (k ≤ n ∨ k = 1) ∧ 1 ≤ k ∧ i = .int .i64 k ∧ (∀ j, j + 1 < k → (f j).2 ≤ (f (j + 1)).1) ∧ Below w.heap.size w wr) (fun i _ => n - (intOf i).toNat)
  case atStart => exact ⟨1, .inr rfl, by omega, rfl, fun j h => by omega, Below.refl _ _⟩
  case round =>
    obtain ⟨k, hk, hk1, rfl, hall, hb⟩ := hrel
    have HA := Lib.hid hall
    have HB := Lib.hid hb
    have hsz := hb.size
    clear hall
    by_cases hlt : k < n
    · obtain ⟨j, rfl⟩ : ∃ j, k = j + 1 := ⟨k - 1, by omega⟩
      obtain ⟨g, o, rfl, hgl, hc0, hc1⟩ := (H1.out.bel hb) _ hlt
      obtain ⟨g2, o2, e2, _, hd0, hd1⟩ := (H1.out.bel HB.out) j (by omega)
      cases e2
      have hj0 : (0 : Int) ≤ (j : Int) := Int.natCast_nonneg _
      have hj1 : (j : Int) < (n : Int) := by omega
      have hjw2 : IntKind.i64.wrap (j : Int) = (j : Int) := IntWalk.i64_in _ (by omega)
      have hi0p : (0 : Int) ≤ (j : Int) + 1 := by omega
      have hi1p : (j : Int) + 1 < (n : Int) := by omega
      have hjw : IntKind.i64.wrap ((j : Int) + 1 - 1) = (j : Int) := (by rw [show (j : Int) + 1 - 1 = (j : Int) by omega]; exact IntWalk.i64_in _ (by omega))
      clear hb
      have hm := method_before (f j).1 (f j).2
      have hrs := fun W => before_impl (f j).1 (f j).2 (f (j + 1)).1 (f (j + 1)).2 W
      by_cases hlo : (f j).2 ≤ (f (j + 1)).1
      · have HOK := Lib.hid (show ∀ i, i + 1 < j + 2 → (f i).2 ≤ (f (i + 1)).1 from fun i hi => by
          by_cases e : i = j
          · subst e; exact hlo
          · exact HA.out i (by omega))
        rw [decide_eq_true hlo] at hrs
        go_wp2_with fail
        refine wp_region_held_drew (S := (fun W => W.cell? ⟨g, o + j * 2, none⟩ = some (.int .i64 (f j).1) ∧ W.cell? ⟨g, o + j * 2 + 1, none⟩ = some (.int .i64 (f j).2) ∧ W.cell? ⟨g, o + (j + 1) * 2, none⟩ = some (.int .i64 (f (j + 1)).1) ∧ W.cell? ⟨g, o + (j + 1) * 2 + 1, none⟩ = some (.int .i64 (f (j + 1)).2) ∧ wr.heap.size ≤ W.heap.size ∧ Below w.heap.size w W)) (by kernel_rfl) (⟨hd0, hd1, hc0, hc1, Nat.le_refl _, HB.out.drew⟩) (fun hHeld => ?_)
        refine tk 0 hHeld ?_
        refine tk 1 hHeld ?_
        refine tk 2 hHeld ?_
        refine tk 3 hHeld ?_
        refine tk 4 hHeld ?_
        refine tk 5 hHeld ?_
        refine tk 6 hHeld ?_
        refine tk 7 hHeld ?_
        refine tk 8 hHeld ?_
        refine tk 9 hHeld ?_
        refine rd1 10 (fun K hK => ?_)
        go_simp
        go_at_call 231; refine (hrs _).mono ?_; rintro e w1 ⟨rfl, hb⟩
        refine hK.out _ _ (⟨(hb.cell (p := ⟨g, o + j * 2, none⟩) (Nat.lt_of_lt_of_le hgl hHeld.2.2.2.2.1)).trans hHeld.1, (hb.cell (p := ⟨g, o + j * 2 + 1, none⟩) (Nat.lt_of_lt_of_le hgl hHeld.2.2.2.2.1)).trans hHeld.2.1, (hb.cell (p := ⟨g, o + (j + 1) * 2, none⟩) (Nat.lt_of_lt_of_le hgl hHeld.2.2.2.2.1)).trans hHeld.2.2.1, (hb.cell (p := ⟨g, o + (j + 1) * 2 + 1, none⟩) (Nat.lt_of_lt_of_le hgl hHeld.2.2.2.2.1)).trans hHeld.2.2.2.1, Nat.le_trans hHeld.2.2.2.2.1 hb.size, hHeld.2.2.2.2.2.trans (hb.mono (Nat.le_trans hsz hHeld.2.2.2.2.1))⟩) (fun hHeld => ?_)
        clear hK K
        refine tk 11 hHeld ?_
        refine rd0 ?_
        have HF := Lib.hid hHeld.2.2.2.2.2
        clear hHeld
        go_wp2
        go_roundw
        case rel => exact ⟨j + 2, by omega, by omega, by go_num, HOK.out, HF.out⟩
        case measure => simp [intOf]; omega
      · have Hno := Lib.hid (show ¬ Ord n f from fun h => hlo (h j hlt))
        rw [decide_eq_false hlo] at hrs
        go_wp2_with fail
        refine wp_region_held_drew (S := (fun W => W.cell? ⟨g, o + j * 2, none⟩ = some (.int .i64 (f j).1) ∧ W.cell? ⟨g, o + j * 2 + 1, none⟩ = some (.int .i64 (f j).2) ∧ W.cell? ⟨g, o + (j + 1) * 2, none⟩ = some (.int .i64 (f (j + 1)).1) ∧ W.cell? ⟨g, o + (j + 1) * 2 + 1, none⟩ = some (.int .i64 (f (j + 1)).2) ∧ wr.heap.size ≤ W.heap.size ∧ Below w.heap.size w W)) (by kernel_rfl) (⟨hd0, hd1, hc0, hc1, Nat.le_refl _, HB.out.drew⟩) (fun hHeld => ?_)
        refine tk 0 hHeld ?_
        refine tk 1 hHeld ?_
        refine tk 2 hHeld ?_
        refine tk 3 hHeld ?_
        refine tk 4 hHeld ?_
        refine tk 5 hHeld ?_
        refine tk 6 hHeld ?_
        refine tk 7 hHeld ?_
        refine tk 8 hHeld ?_
        refine tk 9 hHeld ?_
        refine rd1 10 (fun K hK => ?_)
        go_simp
        go_at_call 231; refine (hrs _).mono ?_; rintro e w1 ⟨rfl, hb⟩
        refine hK.out _ _ (⟨(hb.cell (p := ⟨g, o + j * 2, none⟩) (Nat.lt_of_lt_of_le hgl hHeld.2.2.2.2.1)).trans hHeld.1, (hb.cell (p := ⟨g, o + j * 2 + 1, none⟩) (Nat.lt_of_lt_of_le hgl hHeld.2.2.2.2.1)).trans hHeld.2.1, (hb.cell (p := ⟨g, o + (j + 1) * 2, none⟩) (Nat.lt_of_lt_of_le hgl hHeld.2.2.2.2.1)).trans hHeld.2.2.1, (hb.cell (p := ⟨g, o + (j + 1) * 2 + 1, none⟩) (Nat.lt_of_lt_of_le hgl hHeld.2.2.2.2.1)).trans hHeld.2.2.2.1, Nat.le_trans hHeld.2.2.2.2.1 hb.size, hHeld.2.2.2.2.2.trans (hb.mono (Nat.le_trans hsz hHeld.2.2.2.2.1))⟩) (fun hHeld => ?_)
        clear hK K
        refine tk 11 hHeld ?_
        refine rd0 ?_
        have HF := Lib.hid hHeld.2.2.2.2.2
        clear hHeld
        go_wp2
        go_ret
        exact resB_no Hno.out HF.out
    · have Hy := Lib.hid (show Ord n f from fun j hj => HA.out j (by omega))
      clear hb
      go_wp2
      go_ret
      exact resB_yes Hy.out HB.out
end Go.Proofs.YtelhmacfljffhaaGreat.SpanC
end
section
namespace Go.Proofs.YtelhmacfljffhaaGreat.SpanC
open Go.RowKit KeptC
set_option linter.unusedSimpArgs false
theorem spR_of {n : Nat} {f : Nat → Int × Int} (h : n ≤ 20) (h1 : ∀ i, i < n → spB (f i).1 (f i).2 = true) (h2 : Ord n f) : SpR n f :=
  ⟨h, fun i hi => ⟨h1 i hi, fun h0 => by
    have := h2 (i - 1) (by omega)
    rwa [show i - 1 + 1 = i by omega] at this⟩⟩
theorem ord_of {n : Nat} {f : Nat → Int × Int} (h : SpR n f) : Ord n f := fun j hj => (h.2 (j + 1) hj).2 (Nat.succ_pos _)
set_option maxRecDepth 100000 in
set_option maxHeartbeats 3200000 in
theorem spans_impl (qa : Option Addr) (n qc : Nat) (f : Nat → Int × Int) (w : World) (hn : n ≤ 1048576) (h1 : PA w qa n f) :
    Calls Tryz.prog 92 #[.slice qa n qc] w (ResB (SpR n f) w) := by
  have H1 := Lib.hid h1
  clear h1
  by_cases h20 : n ≤ 20
  · have hd : decide ((20 : Int) < (n : Int)) = false := decide_eq_false (by omega)
    go_enter Tryz.func92, Tryz.ntmps92
    go_wp2
    go_loopw [10] (fun i wr => ∃ k : Nat, k ≤ n ∧ i = .int .i64 k ∧ (∀ j, j < k → spB (f j).1 (f j).2 = true) ∧ Below w.heap.size w wr) (fun i _ => n - (intOf i).toNat)
    case atStart => exact ⟨0, Nat.zero_le _, rfl, fun j h => absurd h (Nat.not_lt_zero _), Below.refl _ _⟩
    case round =>
      obtain ⟨k, hk, rfl, hall, hb⟩ := hrel
      have HA := Lib.hid hall
      have HB := Lib.hid hb
      have hsz := hb.size
      clear hall
      by_cases hlt : k < n
      · obtain ⟨g, o, rfl, hgl, hc0, hc1⟩ := (H1.out.bel hb) _ hlt
        have hi0 : (0 : Int) ≤ (k : Int) := Int.natCast_nonneg _
        have hi1 : (k : Int) < (n : Int) := by omega
        have hrs := fun W => right_impl (f k).1 (f k).2 W
        clear hb
        cases hr : spB (f k).1 (f k).2 with
        | false =>
          have Hno := Lib.hid (show ¬ SpR n f from fun h => by have := (h.2 k hlt).1; rw [hr] at this; cases this)
          rw [hr] at hrs
          clear hr
          go_wp2_with (go_at_call 146; refine (hrs _).mono ?_; rintro e w1 ⟨rfl, hb⟩; have HB2 := Lib.hid (Below.trans (B := w.heap.size) (a := w) (by repeat (first | exact HB.out | refine Below.drew ?_ | refine Below.setCell ?_ (by first | omega | (simp <;> omega)) _ | refine Below.alloc ?_ (by first | omega | (simp <;> omega)) _)) (hb.mono (by first | omega | (simp <;> omega)))); clear hb)
          go_ret
          exact resB_no Hno.out HB2.out
        | true =>
          have HOK := Lib.hid (all_step HA.out hr)
          rw [hr] at hrs
          clear hr
          go_wp2_with (go_at_call 146; refine (hrs _).mono ?_; rintro e w1 ⟨rfl, hb⟩; have HB2 := Lib.hid (Below.trans (B := w.heap.size) (a := w) (by repeat (first | exact HB.out | refine Below.drew ?_ | refine Below.setCell ?_ (by first | omega | (simp <;> omega)) _ | refine Below.alloc ?_ (by first | omega | (simp <;> omega)) _)) (hb.mono (by first | omega | (simp <;> omega)))); clear hb)
          go_roundw
          case rel => exact ⟨k + 1, by omega, by go_num, HOK.out, HB2.out⟩
          case measure => simp [intOf]; omega
      · clear hb
        obtain rfl : k = n := by omega
        go_wp2_with fail
        refine (order_impl qa k qc f _ hn (H1.out.bel HB.out)).mono ?_
        intro e w1 h
        obtain ⟨b, rfl, hb, hB⟩ := resB_elim h
        have HB2 := Lib.hid (HB.out.trans (hB.mono hsz))
        have Hb := Lib.hid (show b = true ↔ SpR k f from ⟨fun h => spR_of h20 HA.out (hb.1 h), fun h => hb.2 (ord_of h)⟩)
        clear h hB hb
        go_wp2
        go_ret
        exact ⟨b, rfl, Hb.out, HB2.out⟩
  · have Hno := Lib.hid (show ¬ SpR n f from fun h => h20 h.1)
    have hd : decide ((20 : Int) < (n : Int)) = true := decide_eq_true (by omega)
    go_enter Tryz.func92, Tryz.ntmps92
    go_wp2
    go_ret
    exact resB_no Hno.out (Below.refl _ _)
end Go.Proofs.YtelhmacfljffhaaGreat.SpanC
end
