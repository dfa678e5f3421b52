/- Of this claim's texts the part 35: YaD4. -/
import Derived.Test.YtelhmacfljffhabGreatPV0
import Derived.Test.YtelhmacfljffhabGreatPV1
import Derived.Test.YtelhmacfljffhabGreatPV2
import Derived.Test.YtelhmacfljffhabGreatPV3
import Derived.Test.YtelhmacfljffhabGreatPV4
import Derived.Test.YtelhmacfljffhabGreatPV5
import Derived.Test.YtelhmacfljffhabGreatPV6
import Derived.Test.YtelhmacfljffhabGreatPV7
import Derived.Test.YtelhmacfljffhabGreatPV8
import Derived.Test.YtelhmacfljffhabGreatPV9
import Derived.Test.YtelhmacfljffhabGreatPV10
import Derived.Test.YtelhmacfljffhabGreatPV11
import Derived.Test.YtelhmacfljffhabGreatPV12
import Derived.Test.YtelhmacfljffhabGreatPV13
import Derived.Test.YtelhmacfljffhabGreatPV14
import Derived.Test.YtelhmacfljffhabGreatPV15
import Derived.Test.YtelhmacfljffhabGreatPV16
import Derived.Test.YtelhmacfljffhabGreatPV17
import Derived.Test.YtelhmacfljffhabGreatPV18
import Derived.Test.YtelhmacfljffhabGreatPV19
import Derived.Test.YtelhmacfljffhabGreatPV20
import Derived.Test.YtelhmacfljffhabGreatPV21
import Derived.Test.YtelhmacfljffhabGreatPV22
import Derived.Test.YtelhmacfljffhabGreatPV23
import Derived.Test.YtelhmacfljffhabGreatPV29
import Derived.Test.YtelhmacfljffhabGreatPV30
import Derived.Test.YtelhmacfljffhabGreatPV31
import Derived.Test.YtelhmacfljffhabGreatPV32
import Derived.Test.YtelhmacfljffhabGreatPV33
import Derived.Test.YtelhmacfljffhabGreatPV34
section
namespace Go.Proofs.YtelhmacfljffhabGreat.RepC
open Go.RowKit RowC ValC SpanC KeptC NameC CfC
set_option linter.unusedVariables false
set_option linter.unusedSimpArgs false
set_option maxRecDepth 100000 in
set_option maxHeartbeats 6400000 in
theorem tasksfit_impl {C : List (List D_Label)} {P : List D_Pair} {Q : List D_Quota} {hf : Int} {ca pa qa : Option Addr} {cc pc qc : Nat} {N : List D_Node} {T : List D_Task} {U : List D_Use} {now : Int} {na ta ua : Option Addr} {nc tc uc : Nat} {W : World} (h6 : C.length ≤ 6) (hR : TasksR T) (hnow : 0 ≤ now ∧ now ≤ 999900) (hC : RdSl (Sl R_Label) W W.heap.size C ca cc) (hT : RdSl R_Task W W.heap.size T ta tc) :
    Calls Tryz.prog 67 #[.agg #[.slice ca C.length cc, .slice pa P.length pc, .slice qa Q.length qc, .int .i64 hf, .slice na N.length nc, .slice ta T.length tc, .slice ua U.length uc, .int .i64 now]] W (ResB (fitTo C now T T.length) W) := by
  have hTn : T.length ≤ 9223372036854775807 := by have h1 := hT.1; have h2 := hT.2.1; unfold maxLen at h2; omega
  have HRR := Lib.hid hR
  clear hR
  obtain ⟨w0, hw0⟩ : ∃ w, w = W.alloc (.cells #[.slice ca C.length cc, .slice pa P.length pc, .slice qa Q.length qc, .int .i64 hf, .slice na N.length nc, .slice ta T.length tc, .slice ua U.length uc, .int .i64 now] 45) := ⟨_, rfl⟩
  have hb0 : Below W.heap.size W w0 := by rw [hw0]; exact (Below.refl _ _).alloc (Nat.le_refl _) _
  have x0_ : Blk w0 (W.heap.size) 45 #[.slice ca C.length cc, .slice pa P.length pc, .slice qa Q.length qc, .int .i64 hf, .slice na N.length nc, .slice ta T.length tc, .slice ua U.length uc, .int .i64 now] := by
    have h9 := Blk.new W 45 #[.slice ca C.length cc, .slice pa P.length pc, .slice qa Q.length qc, .int .i64 hf, .slice na N.length nc, .slice ta T.length tc, .slice ua U.length uc, .int .i64 now]
    try simp only [World.size_alloc] at h9
    rw [hw0]; exact h9
  have X0 := Lib.hid x0_
  have HC := Lib.hid (rd_mv (Sl_ok R_Label_ok) hC hb0)
  have HT := Lib.hid (rd_mv R_Task_ok hT hb0)
  have HB0 := Lib.hid hb0
  have hz0 := hb0.size
  clear hb0 hC hT x0_
  obtain ⟨w1, hw1⟩ : ∃ w, w = w0.alloc (.cells #[.bool false, .bool false, .bool false, .bool false, .bool false, .bool false] 171) := ⟨_, rfl⟩
  have HUS0 := Lib.hid (show Usd w1 w0.heap.size 171 (fun n => takenT T 0 n) from by rw [hw1]; exact (Usd.new w0 _).more fun m _ => ⟨fun h => h.elim, fun h => takenT_zero h⟩)
  have hb1 : Below w0.heap.size w0 w1 := by rw [hw1]; exact (Below.refl _ _).alloc (Nat.le_refl _) _
  have HB1 := Lib.hid hb1
  have Z1 := Lib.hid (X0.out.call hb1)
  have hszW : w0.heap.size = W.heap.size + 1 := by rw [hw0]; simp
  obtain ⟨gu, hgu⟩ : ∃ g, g = W.heap.size + 1 := ⟨_, rfl⟩
  have HGU := Lib.hid (show gu = w0.heap.size from by rw [hgu, hszW])
  rw [hszW, ← hgu] at HUS0
  have hww : w1 = (W.alloc (.cells #[.slice ca C.length cc, .slice pa P.length pc, .slice qa Q.length qc, .int .i64 hf, .slice na N.length nc, .slice ta T.length tc, .slice ua U.length uc, .int .i64 now] 45)).alloc (.cells #[.bool false, .bool false, .bool false, .bool false, .bool false, .bool false] 171) := by rw [hw1, hw0]
  clear hb1 hw1 hw0 hszW
  go_enter Tryz.func67, Tryz.ntmps67
  go_upto_region 2 with fail
  rw [← hww, ← hgu]
  clear hww hgu
  have q5 := Z1.out.at_ 5 rfl
  go_wp2
  go_loopw [11] (fun i wr => ∃ k : Nat, k ≤ T.length ∧ i = .int .i64 k ∧ Hid (fitTo C now T k) ∧ Hid (Usd wr gu 171 (fun n => takenT T k n)) ∧ Below w0.heap.size w0 wr) (fun i _ => T.length - (intOf i).toNat)
  case atStart => exact ⟨0, Nat.zero_le _, rfl, Lib.hid fitTo_zero, HUS0, HB1.out⟩
  case round =>
    obtain ⟨k, hk, rfl, HFT, HUS, hB⟩ := hrel
    obtain ⟨wo, rfl⟩ : ∃ x, x = wr := ⟨_, rfl⟩
    have HB := Lib.hid hB
    have hsz := hB.size
    have HBW := Lib.hid (HB0.out.trans (hB.mono hz0))
    have Z0 := Lib.hid (X0.out.call hB)
    by_cases hlt : k < T.length
    · have hdl : decide ((k : Int) < (T.length : Int)) = true := decide_eq_true (by omega)
      obtain ⟨⟨⟨x0, x1⟩, x2, x3, x4, x5, x6, ⟨x7, x8⟩, x9, x10, x11, x12, M⟩, hx⟩ := el_some hlt
      have HX := Lib.hid hx
      have HTR := Lib.hid (show TaskR ((x0, x1), x2, x3, x4, x5, x6, (x7, x8), x9, x10, x11, x12, M) from (HRR.out.2 k _ hx).1)
      have hst := taskR_start HTR.out
      have hlg := taskR_long HTR.out
      simp only [tStart, tLong] at hst hlg
      obtain ⟨g, o, us, rfl, hg, hu, hr⟩ := HT.out.at_ hx
      obtain ⟨ma, mc, rfl, k_M, b_x3⟩ := rd_Task hr
      have e0 : wo.cell? ⟨g, o + k * 14, none⟩ = some (.int .i64 x0) := (hB.cell (p := ⟨g, _, none⟩) hg).trans (by simpa [size_TaskS, Nat.add_assoc] using hu 0 _ rfl)
      have e1 : wo.cell? ⟨g, o + k * 14 + 1, none⟩ = some (.int .i64 x1) := (hB.cell (p := ⟨g, _, none⟩) hg).trans (by simpa [size_TaskS, Nat.add_assoc] using hu 1 _ rfl)
      have e2 : wo.cell? ⟨g, o + k * 14 + 2, none⟩ = some (.int .i64 x2) := (hB.cell (p := ⟨g, _, none⟩) hg).trans (by simpa [size_TaskS, Nat.add_assoc] using hu 2 _ rfl)
      have e3 : wo.cell? ⟨g, o + k * 14 + 3, none⟩ = some (.string x3) := (hB.cell (p := ⟨g, _, none⟩) hg).trans (by simpa [size_TaskS, Nat.add_assoc] using hu 3 _ rfl)
      have e4 : wo.cell? ⟨g, o + k * 14 + 4, none⟩ = some (.int .i64 x4) := (hB.cell (p := ⟨g, _, none⟩) hg).trans (by simpa [size_TaskS, Nat.add_assoc] using hu 4 _ rfl)
      have e5 : wo.cell? ⟨g, o + k * 14 + 5, none⟩ = some (.int .i64 x5) := (hB.cell (p := ⟨g, _, none⟩) hg).trans (by simpa [size_TaskS, Nat.add_assoc] using hu 5 _ rfl)
      have e6 : wo.cell? ⟨g, o + k * 14 + 6, none⟩ = some (.int .i64 x6) := (hB.cell (p := ⟨g, _, none⟩) hg).trans (by simpa [size_TaskS, Nat.add_assoc] using hu 6 _ rfl)
      have e7 : wo.cell? ⟨g, o + k * 14 + 7, none⟩ = some (.int .i64 x7) := (hB.cell (p := ⟨g, _, none⟩) hg).trans (by simpa [size_TaskS, Nat.add_assoc] using hu 7 _ rfl)
      have e8 : wo.cell? ⟨g, o + k * 14 + 8, none⟩ = some (.int .i64 x8) := (hB.cell (p := ⟨g, _, none⟩) hg).trans (by simpa [size_TaskS, Nat.add_assoc] using hu 8 _ rfl)
      have e9 : wo.cell? ⟨g, o + k * 14 + 9, none⟩ = some (.int .i64 x9) := (hB.cell (p := ⟨g, _, none⟩) hg).trans (by simpa [size_TaskS, Nat.add_assoc] using hu 9 _ rfl)
      have e10 : wo.cell? ⟨g, o + k * 14 + 10, none⟩ = some (.int .i64 x10) := (hB.cell (p := ⟨g, _, none⟩) hg).trans (by simpa [size_TaskS, Nat.add_assoc] using hu 10 _ rfl)
      have e11 : wo.cell? ⟨g, o + k * 14 + 11, none⟩ = some (.int .i64 x11) := (hB.cell (p := ⟨g, _, none⟩) hg).trans (by simpa [size_TaskS, Nat.add_assoc] using hu 11 _ rfl)
      have e12 : wo.cell? ⟨g, o + k * 14 + 12, none⟩ = some (.int .i64 x12) := (hB.cell (p := ⟨g, _, none⟩) hg).trans (by simpa [size_TaskS, Nat.add_assoc] using hu 12 _ rfl)
      have e13 : wo.cell? ⟨g, o + k * 14 + 13, none⟩ = some (.slice ma M.length mc) := (hB.cell (p := ⟨g, _, none⟩) hg).trans (by simpa [size_TaskS, Nat.add_assoc] using hu 13 _ rfl)
      have hi0 : (0 : Int) ≤ (k : Int) := Int.natCast_nonneg _
      have hi1 : (k : Int) < (T.length : Int) := by omega
      have HK := Lib.hid k_M
      have hMn : M.length ≤ 9223372036854775807 := by have h1 := k_M.1; have h2 := k_M.2.1; unfold maxLen at h2; omega
      obtain ⟨w2, hw2⟩ : ∃ w, w = wo.alloc (.cells #[.int .i64 x0, .int .i64 x1, .int .i64 x2, .string x3, .int .i64 x4, .int .i64 x5, .int .i64 x6, .int .i64 x7, .int .i64 x8, .int .i64 x9, .int .i64 x10, .int .i64 x11, .int .i64 x12, .slice ma M.length mc] 66) := ⟨_, rfl⟩
      have hb2 : Below wo.heap.size wo w2 := by rw [hw2]; exact (Below.refl _ _).alloc (Nat.le_refl _) _
      have Y2 := Lib.hid (show Blk w2 wo.heap.size 66 #[.int .i64 x0, .int .i64 x1, .int .i64 x2, .string x3, .int .i64 x4, .int .i64 x5, .int .i64 x6, .int .i64 x7, .int .i64 x8, .int .i64 x9, .int .i64 x10, .int .i64 x11, .int .i64 x12, .slice ma M.length mc] from by rw [hw2]; exact Blk.new _ _ _)
      have Z2 := Lib.hid (Z0.out.call hb2)
      have HB2 := Lib.hid (HB.out.trans (hb2.mono hsz))
      have HBW2 := Lib.hid (HB0.out.trans (HB2.out.mono hz0))
      have HUS2 := Lib.hid (HUS.out.call hb2)
      have HC2 := Lib.hid (rd_mv (Sl_ok R_Label_ok) HC.out HB2.out)
      have HM2 := Lib.hid (rd_mv I_ok HK.out HB2.out)
      obtain ⟨b1, hb1⟩ : ∃ b, decide (now < x10) = b := ⟨_, rfl⟩
      have HE1 := Lib.hid hb1
      clear hB hx hr hu hg k_M hb2
      go_upto_region 5 with fail
      rw [← hw2]
      clear hw2 e0 e1 e2 e3 e4 e5 e6 e7 e8 e9 e10 e11 e12 e13
      have zz0 := Z2.out.at_ 0 rfl
      have zz1 := Z2.out.at_ 1 rfl
      have zz2 := Z2.out.at_ 2 rfl
      have zz3 := Z2.out.at_ 3 rfl
      have zz4 := Z2.out.at_ 4 rfl
      have zz5 := Z2.out.at_ 5 rfl
      have zz6 := Z2.out.at_ 6 rfl
      have zz7 := Z2.out.at_ 7 rfl
      have yy0 := Y2.out.at_ 0 rfl
      have yy1 := Y2.out.at_ 1 rfl
      have yy2 := Y2.out.at_ 2 rfl
      have yy3 := Y2.out.at_ 3 rfl
      have yy4 := Y2.out.at_ 4 rfl
      have yy5 := Y2.out.at_ 5 rfl
      have yy6 := Y2.out.at_ 6 rfl
      have yy7 := Y2.out.at_ 7 rfl
      have yy8 := Y2.out.at_ 8 rfl
      have yy9 := Y2.out.at_ 9 rfl
      have yy10 := Y2.out.at_ 10 rfl
      have yy11 := Y2.out.at_ 11 rfl
      have yy12 := Y2.out.at_ 12 rfl
      have yy13 := Y2.out.at_ 13 rfl
      cases b1 with
      | true =>
        have HV := Lib.hid (show ¬ fitTo C now T T.length from fun h => by have h2 := (h k _ hlt HX.out).1.2.1; have h3 := of_decide_eq_true HE1.out; simp only [tBorn] at h2; omega)
        go_wp2
        go_ret
        exact resB_no HV.out HBW2.out
      | false =>
      go_wp2_with fail
      refine (nodesfit_impl h6 HC2.out HM2.out).mono ?_
      intro e w3 h
      obtain ⟨b, rfl, hb, hbl⟩ := resB_elim h
      have HFB := Lib.hid hb
      have HB3 := Lib.hid (HB2.out.trans (hbl.mono HB2.out.size))
      have HBW3 := Lib.hid (HB0.out.trans (HB3.out.mono hz0))
      have Y3 := Lib.hid (Y2.out.call hbl)
      have Z3 := Lib.hid (Z2.out.call hbl)
      have HUS3 := Lib.hid (HUS2.out.call hbl)
      clear h hb hbl hb1 zz0 zz1 zz2 zz3 zz4 zz5 zz6 zz7 yy0 yy1 yy2 yy3 yy4 yy5 yy6 yy7 yy8 yy9 yy10 yy11 yy12 yy13
      cases b with
      | false =>
        have HV := Lib.hid (show ¬ fitTo C now T T.length from fun h => by have h2 := (h k _ hlt HX.out).1; have := HFB.out.2 ⟨h2.2.2.1, h2.1⟩; cases this)
        go_wp2
        go_ret
        exact resB_no HV.out HBW3.out
      | true =>
      have HF1 := Lib.hid (HFB.out.1 rfl)
      have zz0 := Z3.out.at_ 0 rfl
      have zz1 := Z3.out.at_ 1 rfl
      have zz2 := Z3.out.at_ 2 rfl
      have zz3 := Z3.out.at_ 3 rfl
      have zz4 := Z3.out.at_ 4 rfl
      have zz5 := Z3.out.at_ 5 rfl
      have zz6 := Z3.out.at_ 6 rfl
      have zz7 := Z3.out.at_ 7 rfl
      have yy0 := Y3.out.at_ 0 rfl
      have yy1 := Y3.out.at_ 1 rfl
      have yy2 := Y3.out.at_ 2 rfl
      have yy3 := Y3.out.at_ 3 rfl
      have yy4 := Y3.out.at_ 4 rfl
      have yy5 := Y3.out.at_ 5 rfl
      have yy6 := Y3.out.at_ 6 rfl
      have yy7 := Y3.out.at_ 7 rfl
      have yy8 := Y3.out.at_ 8 rfl
      have yy9 := Y3.out.at_ 9 rfl
      have yy10 := Y3.out.at_ 10 rfl
      have yy11 := Y3.out.at_ 11 rfl
      have yy12 := Y3.out.at_ 12 rfl
      have yy13 := Y3.out.at_ 13 rfl
      go_wp2_with fail
      refine (startfits_impl hst hlg hnow).mono ?_
      intro e w4 h
      obtain ⟨b, rfl, hb, hbl⟩ := resB_elim h
      have HSB := Lib.hid hb
      have HB4 := Lib.hid (HB3.out.trans (hbl.mono HB3.out.size))
      have HBW4 := Lib.hid (HB0.out.trans (HB4.out.mono hz0))
      have Y4 := Lib.hid (Y3.out.call hbl)
      have HUS4 := Lib.hid (HUS3.out.call hbl)
      clear h hb hbl zz0 zz1 zz2 zz3 zz4 zz5 zz6 zz7 yy0 yy1 yy2 yy3 yy4 yy5 yy6 yy7 yy8 yy9 yy10 yy11 yy12 yy13
      cases b with
      | false =>
        have HV := Lib.hid (show ¬ fitTo C now T T.length from fun h => by have h2 := (h k _ hlt HX.out).1.2.2.2; have := HSB.out.2 h2; cases this)
        go_wp2
        go_ret
        exact resB_no HV.out HBW4.out
      | true =>
      have HFIT := Lib.hid (show fitT C now ((x0, x1), x2, x3, x4, x5, x6, (x7, x8), x9, x10, x11, x12, M) from ⟨HF1.out.2, by have := of_decide_eq_false HE1.out; show x10 ≤ now; omega, HF1.out.1, HSB.out.1 rfl⟩)
      have yy0 := Y4.out.at_ 0 rfl
      have yy1 := Y4.out.at_ 1 rfl
      have yy2 := Y4.out.at_ 2 rfl
      have yy3 := Y4.out.at_ 3 rfl
      have yy4 := Y4.out.at_ 4 rfl
      have yy5 := Y4.out.at_ 5 rfl
      have yy6 := Y4.out.at_ 6 rfl
      have yy7 := Y4.out.at_ 7 rfl
      have yy8 := Y4.out.at_ 8 rfl
      have yy9 := Y4.out.at_ 9 rfl
      have yy10 := Y4.out.at_ 10 rfl
      have yy11 := Y4.out.at_ 11 rfl
      have yy12 := Y4.out.at_ 12 rfl
      have yy13 := Y4.out.at_ 13 rfl
      obtain ⟨br, hbr⟩ : ∃ b, (x11 == 2) = b := ⟨_, rfl⟩
      have HRU := Lib.hid hbr
      clear hbr
      go_wp2_with fail
      refine (runsI_at HRU.out _).mono ?_
      rintro e w5 ⟨rfl, hb⟩
      have HB5 := Lib.hid (HB4.out.trans (hb.mono HB4.out.size))
      have Y5 := Lib.hid (Y4.out.call hb)
      have HUS5 := Lib.hid (HUS4.out.call hb)
      clear hb yy0 yy1 yy2 yy3 yy4 yy5 yy6 yy7 yy8 yy9 yy10 yy11 yy12 yy13
      cases br with
      | false =>
        have hs2 := beq_eq_false_iff_ne.1 HRU.out
        have HOK := Lib.hid (show okY C now T k ((x0, x1), x2, x3, x4, x5, x6, (x7, x8), x9, x10, x11, x12, M) from ⟨HFIT.out, fun h => absurd h hs2⟩)
        have HFT2 := Lib.hid (fitTo_step HFT.out HX.out HOK.out)
        have HU7 := Lib.hid (HUS5.out.more (q := fun n => takenT T (k + 1) n) fun i _ => by
          rw [takenT_step HX.out]
          exact ⟨fun h => .inl h, fun h => h.elim id fun h => absurd h.1 hs2⟩)
        clear hs2
        go_wp2
        go_roundw
        case rel => exact ⟨k + 1, by omega, by go_num, HFT2, HU7, HB5.out⟩
        case measure => simp [intOf]; omega
      | true =>
        have HS2 := Lib.hid (beq_iff_eq.1 HRU.out)
        have y13 := Y5.out.at_ 13 rfl
        have HUS6 := Lib.hid (HUS5.out.more (q := fun n => takenT T k n ∨ n ∈ M.take 0) fun m _ => by simp)
        go_wp2
        go_loopw [38] (fun i wr => ∃ j : Nat, j ≤ M.length ∧ i = .int .i64 j ∧ Hid (Usd wr gu 171 (fun n => takenT T k n ∨ n ∈ M.take j)) ∧ Hid (∀ (q : Nat) (n : Int), q < j → M[q]? = some n → ¬ takenT T k n) ∧ Below w0.heap.size w0 wr) (fun i _ => M.length - (intOf i).toNat)
        case atStart => exact ⟨0, Nat.zero_le _, rfl, HUS6, Lib.hid fun q n h => absurd h (Nat.not_lt_zero _), HB5.out⟩
        case round =>
          obtain ⟨j, hj, rfl, HU5, HNT, hB5⟩ := hrel
          have HB6 := Lib.hid hB5
          have HBW6 := Lib.hid (HB0.out.trans (hB5.mono hz0))
          have hz5 := hB5.size
          have HM5 := Lib.hid (rd_mv I_ok HK.out hB5)
          clear hB5 y13
          by_cases hjl : j < M.length
          · have hdj : decide ((j : Int) < (M.length : Int)) = true := decide_eq_true (by omega)
            obtain ⟨n, hn⟩ := el_some hjl
            have hrg := nodesR_rng (has_nodes HTR.out hjl) hn
            obtain ⟨m, rfl⟩ : ∃ m : Nat, n = (m : Int) := ⟨n.toNat, by omega⟩
            have hm6 : m < 6 := by omega
            have HN := Lib.hid hn
            obtain ⟨gm, om, us5, rfl, hgm, hum, hrm⟩ := HM5.out.at_ hn
            obtain rfl : us5 = [_] := hrm
            have em : wr.cell? ⟨gm, om + j, none⟩ = some (.int .i64 (m : Int)) := by simpa [show I.size = 1 from rfl] using hum 0 _ rfl
            obtain ⟨c, hc1, hc2, hc3⟩ := HU5.out.get hm6
            have HC3 := Lib.hid hc3
            have hj0 : (0 : Int) ≤ (j : Int) := Int.natCast_nonneg _
            have hj1 : (j : Int) < (M.length : Int) := by omega
            have hm0 : (0 : Int) ≤ (m : Int) := Int.natCast_nonneg _
            have hm1 : (m : Int) < 6 := by omega
            have HNOT := Lib.hid (show ¬ ((m : Int) ∈ M.take j) from fun h => by
              obtain ⟨q, hq, he⟩ := List.mem_iff_getElem.1 h
              have hqj : q < j := by have := hq; rw [List.length_take, Nat.min_eq_left (Nat.le_of_lt hjl)] at this; exact this
              rw [List.getElem_take] at he
              have hql : q < M.length := by omega
              have hqe : M[q]? = some (m : Int) := by rw [← he]; exact List.getElem?_eq_getElem hql
              have := nodesR_once (has_nodes HTR.out hjl) (i := q) (j := j) hqe hn
              omega)
            clear hn hum hgm hc3 hrg
            cases c with
            | true =>
              have HV := Lib.hid (show ¬ fitTo C now T T.length from fun h => by have h2 := (h k _ hlt HX.out).2 HS2.out _ (List.mem_of_getElem? HN.out); rcases HC3.out.1 rfl with h3 | h3; exact h2 h3; exact HNOT.out h3)
              go_wp2
              go_ret
              exact resB_no HV.out HBW6.out
            | false =>
              have HFREE := Lib.hid (show ¬ takenT T k (m : Int) from fun h => by have := HC3.out.2 (.inl h); cases this)
              have HNT2 := Lib.hid (show ∀ (q : Nat) (n : Int), q < j + 1 → M[q]? = some n → ¬ takenT T k n from fun q n hq hn => by
                by_cases e : q = j
                · subst e; rw [HN.out] at hn; cases hn; exact HFREE.out
                · exact HNT.out q n (by omega) hn)
              have HU6 := Lib.hid ((HU5.out.put hm6).more (q := fun n => takenT T k n ∨ n ∈ M.take (j + 1)) fun i _ => by
                rw [List.take_add_one, HN.out]
                simp only [Option.toList_some, List.mem_append, List.mem_singleton]
                exact or_assoc)
              have HB7 := Lib.hid (HB6.out.setCell (p := ⟨gu, m, none⟩) (by show w0.heap.size ≤ gu; rw [HGU.out]; exact Nat.le_refl _) (.bool true))
              go_wp2
              go_roundw
              case rel => exact ⟨j + 1, by omega, by go_num, HU6, HNT2, HB7.out⟩
              case measure => simp [intOf]; omega
          · have hdj : decide ((j : Int) < (M.length : Int)) = false := decide_eq_false (by omega)
            obtain rfl : j = M.length := by omega
            have HOK := Lib.hid (show okY C now T k ((x0, x1), x2, x3, x4, x5, x6, (x7, x8), x9, x10, x11, x12, M) from ⟨HFIT.out, fun _ n hn => by
              obtain ⟨q, hq, rfl⟩ := List.mem_iff_getElem.1 hn
              exact HNT.out q _ hq (List.getElem?_eq_getElem hq)⟩)
            have HFT2 := Lib.hid (fitTo_step HFT.out HX.out HOK.out)
            have HU7 := Lib.hid (HU5.out.more (q := fun n => takenT T (k + 1) n) fun i _ => by
              rw [takenT_step HX.out, List.take_length]
              exact ⟨fun h => h.imp id fun h => ⟨HS2.out, h⟩, fun h => h.imp id fun h => h.2⟩)
            go_wp2
            go_roundw
            case rel => exact ⟨k + 1, by omega, by go_num, HFT2, HU7, HB6.out⟩
            case measure => simp [intOf]; omega
    · have hdl : decide ((k : Int) < (T.length : Int)) = false := decide_eq_false (by omega)
      obtain rfl : k = T.length := by omega
      clear hB
      go_wp2
      go_ret
      exact resB_yes HFT.out HBW.out
end Go.Proofs.YtelhmacfljffhabGreat.RepC
end
