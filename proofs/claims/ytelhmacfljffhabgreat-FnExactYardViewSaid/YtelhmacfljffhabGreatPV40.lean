/- Of this claim's texts the part 40: YvD2. -/
import Derived.Test.YtelhmacfljffhabGreatPV0
import Derived.Test.YtelhmacfljffhabGreatPV1
import Derived.Test.YtelhmacfljffhabGreatPV2
import Derived.Test.YtelhmacfljffhabGreatPV3
import Derived.Test.YtelhmacfljffhabGreatPV4
import Derived.Test.YtelhmacfljffhabGreatPV5
import Derived.Test.YtelhmacfljffhabGreatPV6
import Derived.Test.YtelhmacfljffhabGreatPV7
import Derived.Test.YtelhmacfljffhabGreatPV8
import Derived.Test.YtelhmacfljffhabGreatPV9
import Derived.Test.YtelhmacfljffhabGreatPV10
import Derived.Test.YtelhmacfljffhabGreatPV11
import Derived.Test.YtelhmacfljffhabGreatPV12
import Derived.Test.YtelhmacfljffhabGreatPV13
import Derived.Test.YtelhmacfljffhabGreatPV14
import Derived.Test.YtelhmacfljffhabGreatPV15
import Derived.Test.YtelhmacfljffhabGreatPV16
import Derived.Test.YtelhmacfljffhabGreatPV17
import Derived.Test.YtelhmacfljffhabGreatPV18
import Derived.Test.YtelhmacfljffhabGreatPV19
import Derived.Test.YtelhmacfljffhabGreatPV20
import Derived.Test.YtelhmacfljffhabGreatPV21
import Derived.Test.YtelhmacfljffhabGreatPV22
import Derived.Test.YtelhmacfljffhabGreatPV23
import Derived.Test.YtelhmacfljffhabGreatPV24
import Derived.Test.YtelhmacfljffhabGreatPV25
import Derived.Test.YtelhmacfljffhabGreatPV26
import Derived.Test.YtelhmacfljffhabGreatPV27
import Derived.Test.YtelhmacfljffhabGreatPV28
import Derived.Test.YtelhmacfljffhabGreatPV29
import Derived.Test.YtelhmacfljffhabGreatPV30
import Derived.Test.YtelhmacfljffhabGreatPV31
import Derived.Test.YtelhmacfljffhabGreatPV32
import Derived.Test.YtelhmacfljffhabGreatPV33
import Derived.Test.YtelhmacfljffhabGreatPV34
import Derived.Test.YtelhmacfljffhabGreatPV35
import Derived.Test.YtelhmacfljffhabGreatPV36
import Derived.Test.YtelhmacfljffhabGreatPV37
import Derived.Test.YtelhmacfljffhabGreatPV38
import Derived.Test.YtelhmacfljffhabGreatPV39
section
namespace Go.Proofs.YtelhmacfljffhabGreat.RepC
open Go.RowKit RowC ValC SpanC KeptC NameC CfC
set_option linter.unusedVariables false
set_option linter.unusedSimpArgs false
set_option maxRecDepth 100000 in
set_option maxHeartbeats 6400000 in
theorem view_impl {C : List (List D_Label)} {P : List D_Pair} {Q : List D_Quota} {hf : Int} {ca pa qa : Option Addr} {cc pc qc : Nat} {N : List D_Node} {T : List D_Task} {U : List D_Use} {now : Int} {na ta ua : Option Addr} {nc tc uc : Nat} {l s : Int} {W : World} (hC : RdSl (Sl R_Label) W W.heap.size C ca cc) (hP : RdSl R_Pair W W.heap.size P pa pc) (hQ : RdSl R_Quota W W.heap.size Q qa qc) (hN : RdSl R_Node W W.heap.size N na nc) (hT : RdSl R_Task W W.heap.size T ta tc) (hU : RdSl R_Use W W.heap.size U ua uc) :
    Calls Tryz.prog 8 #[.agg #[.slice ca C.length cc, .slice pa P.length pc, .slice qa Q.length qc, .int .i64 hf, .slice na N.length nc, .slice ta T.length tc, .slice ua U.length uc, .int .i64 now], .agg #[.int .i64 l, .int .i64 s]] W fun e w' => e = .returned (.string (viewV ((C, P, Q, hf), N, T, U, now) (l, s))) ∧ Below W.heap.size W w' := by
  have hNn : N.length ≤ 9223372036854775807 := by have h1 := hN.1; have h2 := hN.2.1; unfold maxLen at h2; omega
  have hTn : T.length ≤ 9223372036854775807 := by have h1 := hT.1; have h2 := hT.2.1; unfold maxLen at h2; omega
  have hUn : U.length ≤ 9223372036854775807 := by have h1 := hU.1; have h2 := hU.2.1; unfold maxLen at h2; omega
  obtain ⟨b0, hb0⟩ : ∃ b, yardB ((C, P, Q, hf), N, T, U, now) = b := ⟨_, rfl⟩
  have Hb0 := Lib.hid hb0
  clear hb0
  obtain ⟨b1, hb1⟩ : ∃ b, LabC.rB l s = b := ⟨_, rfl⟩
  have Hb1 := Lib.hid hb1
  clear hb1
  obtain ⟨w0, hw0⟩ : ∃ w, w = (W.alloc (.cells #[.slice ca C.length cc, .slice pa P.length pc, .slice qa Q.length qc, .int .i64 hf, .slice na N.length nc, .slice ta T.length tc, .slice ua U.length uc, .int .i64 now] 45)).alloc (.cells #[.int .i64 l, .int .i64 s] 47) := ⟨_, rfl⟩
  have hb0 : Below W.heap.size W w0 := by rw [hw0]; exact ((Below.refl _ _).alloc (Nat.le_refl _) _).alloc (by simp) _
  have x0_ : Blk w0 (W.heap.size) 45 #[.slice ca C.length cc, .slice pa P.length pc, .slice qa Q.length qc, .int .i64 hf, .slice na N.length nc, .slice ta T.length tc, .slice ua U.length uc, .int .i64 now] := by
    have h9 := Blk.new W 45 #[.slice ca C.length cc, .slice pa P.length pc, .slice qa Q.length qc, .int .i64 hf, .slice na N.length nc, .slice ta T.length tc, .slice ua U.length uc, .int .i64 now]
    try simp only [World.size_alloc] at h9
    rw [hw0]; exact (h9.alloc _)
  have X0 := Lib.hid x0_
  have x1_ : Blk w0 (W.heap.size + 1) 47 #[.int .i64 l, .int .i64 s] := by
    have h9 := Blk.new (W.alloc (.cells #[.slice ca C.length cc, .slice pa P.length pc, .slice qa Q.length qc, .int .i64 hf, .slice na N.length nc, .slice ta T.length tc, .slice ua U.length uc, .int .i64 now] 45)) 47 #[.int .i64 l, .int .i64 s]
    try simp only [World.size_alloc] at h9
    rw [hw0]; exact h9
  have X1 := Lib.hid x1_
  have HC := Lib.hid (rd_mv (Sl_ok R_Label_ok) hC hb0)
  have HP := Lib.hid (rd_mv R_Pair_ok hP hb0)
  have HQ := Lib.hid (rd_mv R_Quota_ok hQ hb0)
  have HN := Lib.hid (rd_mv R_Node_ok hN hb0)
  have HT := Lib.hid (rd_mv R_Task_ok hT hb0)
  have HU := Lib.hid (rd_mv R_Use_ok hU hb0)
  have HB0 := Lib.hid hb0
  have hz0 := hb0.size
  clear hb0 hC hP hQ hN hT hU x0_ x1_
  go_enter Tryz.func8, Tryz.ntmps8
  go_upto_region 1 with fail
  rw [← hw0]
  clear hw0
  have qX0_0 := X0.out.at_ 0 rfl
  have qX0_1 := X0.out.at_ 1 rfl
  have qX0_2 := X0.out.at_ 2 rfl
  have qX0_3 := X0.out.at_ 3 rfl
  have qX0_4 := X0.out.at_ 4 rfl
  have qX0_5 := X0.out.at_ 5 rfl
  have qX0_6 := X0.out.at_ 6 rfl
  have qX0_7 := X0.out.at_ 7 rfl
  have qX1_0 := X1.out.at_ 0 rfl
  have qX1_1 := X1.out.at_ 1 rfl
  go_wp2_with fail
  have hcx : Calls Tryz.prog 24 #[.agg #[.slice ca C.length cc, .slice pa P.length pc, .slice qa Q.length qc, .int .i64 hf, .slice na N.length nc, .slice ta T.length tc, .slice ua U.length uc, .int .i64 now]] w0 (IsB (yardB ((C, P, Q, hf), N, T, U, now)) w0) := (yard_impl HC.out HP.out HQ.out HN.out HT.out HU.out).mono fun e w' h => resB_is yardB_iff h
  rw [Hb0.out] at hcx
  refine hcx.mono ?_
  intro e v1 h
  obtain ⟨rfl, hb⟩ := isB_elim h
  have HC := Lib.hid (rd_mv (Sl_ok R_Label_ok) HC.out hb)
  have HP := Lib.hid (rd_mv R_Pair_ok HP.out hb)
  have HQ := Lib.hid (rd_mv R_Quota_ok HQ.out hb)
  have HN := Lib.hid (rd_mv R_Node_ok HN.out hb)
  have HT := Lib.hid (rd_mv R_Task_ok HT.out hb)
  have HU := Lib.hid (rd_mv R_Use_ok HU.out hb)
  have X0 := Lib.hid (X0.out.call hb)
  have X1 := Lib.hid (X1.out.call hb)
  have HB0 := Lib.hid (HB0.out.trans (hb.mono HB0.out.size))
  clear h hb hcx qX0_0 qX0_1 qX0_2 qX0_3 qX0_4 qX0_5 qX0_6 qX0_7 qX1_0 qX1_1
  have qX0_0 := X0.out.at_ 0 rfl
  have qX0_1 := X0.out.at_ 1 rfl
  have qX0_2 := X0.out.at_ 2 rfl
  have qX0_3 := X0.out.at_ 3 rfl
  have qX0_4 := X0.out.at_ 4 rfl
  have qX0_5 := X0.out.at_ 5 rfl
  have qX0_6 := X0.out.at_ 6 rfl
  have qX0_7 := X0.out.at_ 7 rfl
  have qX1_0 := X1.out.at_ 0 rfl
  have qX1_1 := X1.out.at_ 1 rfl
  cases b0 with
  | false =>
    have HE := Lib.hid (show (viewV ((C, P, Q, hf), N, T, U, now) (l, s)) = ⟨#[]⟩ from viewV_no1 Hb0.out)
    go_wp2
    go_ret
    exact ⟨by rw [HE.out]; rfl, HB0.out⟩
  | true =>
  go_wp2_with fail
  refine (ri_at l s Hb1.out _).mono ?_
  rintro e v2 ⟨rfl, hb⟩
  have HC := Lib.hid (rd_mv (Sl_ok R_Label_ok) HC.out hb)
  have HP := Lib.hid (rd_mv R_Pair_ok HP.out hb)
  have HQ := Lib.hid (rd_mv R_Quota_ok HQ.out hb)
  have HN := Lib.hid (rd_mv R_Node_ok HN.out hb)
  have HT := Lib.hid (rd_mv R_Task_ok HT.out hb)
  have HU := Lib.hid (rd_mv R_Use_ok HU.out hb)
  have X0 := Lib.hid (X0.out.call hb)
  have X1 := Lib.hid (X1.out.call hb)
  have HB0 := Lib.hid (HB0.out.trans (hb.mono HB0.out.size))
  clear hb qX0_0 qX0_1 qX0_2 qX0_3 qX0_4 qX0_5 qX0_6 qX0_7 qX1_0 qX1_1
  cases b1 with
  | false =>
    have HE := Lib.hid (show (viewV ((C, P, Q, hf), N, T, U, now) (l, s)) = ⟨#[]⟩ from viewV_no2 Hb1.out)
    go_wp2
    go_ret
    exact ⟨by rw [HE.out]; rfl, HB0.out⟩
  | true =>
  have HE := Lib.hid (show (viewV ((C, P, Q, hf), N, T, U, now) (l, s)) = viewT (l, s) ((C, P, Q, hf), N, T, U, now) from viewV_yes Hb0.out Hb1.out)
  have HY := Lib.hid (yardB_iff.1 Hb0.out)
  have HNR := Lib.hid HY.out.2.2.1
  have HTR := Lib.hid HY.out.2.2.2.2.1
  have HUR := Lib.hid HY.out.2.2.2.2.2.1
  have hN6 : N.length ≤ 6 := HNR.out.1.2
  have hT96 : T.length ≤ 96 := HTR.out.1
  have hU48 : U.length ≤ 48 := HUR.out.1
  have hNB : ∀ k, (catTo nodeB N k).size ≤ 600 := fun k => Nat.le_trans (catTo_size (c := 100) (n := 6) k hN6 fun x hx => nodeB_size (HNR.out.2 x hx)) (by decide)
  have HNB := Lib.hid hNB
  have HTB := Lib.hid (show ∀ k, (catTo (taskPart (l, s)) T k).size ≤ 28800 from fun k => Nat.le_trans (catTo_size (c := 300) (n := 96) k hT96 fun x hx => by
    obtain ⟨i, hi⟩ := List.getElem?_of_mem hx
    exact taskPart_size (HTR.out.2 i x hi).1) (by decide))
  have HUB := Lib.hid (show ∀ k, (catTo (usePart (l, s)) U k).size ≤ 2880 from fun k => Nat.le_trans (catTo_size (c := 60) (n := 48) k hU48 fun x hx => by
    obtain ⟨i, hi⟩ := List.getElem?_of_mem hx
    exact usePart_size (HUR.out.2 i x hi).1) (by decide))
  clear hNB
  have hnow : 0 ≤ now ∧ now ≤ 2000000 := by have h1 := (isB_iff _ _ _).1 HY.out.1; omega
  have HNW := Lib.hid (r64 hnow)
  obtain ⟨P0, hP0⟩ : ∃ b, PutM.encB now = b := ⟨_, rfl⟩
  have hs0 : P0.size ≤ 10 := by rw [← hP0]; exact enc10 hnow
  have HP0 := Lib.hid hP0
  clear hP0 hnow
  obtain ⟨V, hV⟩ : ∃ V, V = v2.alloc (.cells #[.pointer none, .slice none 0 0] 78) := ⟨_, rfl⟩
  have hbV : Below v2.heap.size v2 V := by rw [hV]; exact (Below.refl _ _).alloc (Nat.le_refl _) _
  have HI : Hid (Lib.IsBuilder 78 5 v2.heap.size v2.heap.size [] V) := Lib.hid (by rw [hV]; exact (Lib.fresh_isBuilder 78 5 v2))
  have HBV := Lib.hid hbV
  have hzv := HB0.out.size
  have XV := Lib.hid (X0.out.call hbV)
  clear hbV
  go_upto_region 4 with fail
  rw [← hV]
  clear hV
  have q4 := XV.out.at_ 7 rfl
  go_wp2_with fail
  refine (putI_at now HP0.out HNW.out _).mono ?_
  rintro e V1 ⟨rfl, hb⟩
  have HBV1 := Lib.hid (HBV.out.trans (hb.mono HBV.out.size))
  have HI1 := Lib.hid (BldC.is_below HI.out hb)
  clear hb q4
  go_wp2_with fail
  refine (BldC.write_any _ _ _ P0 _ HI1.out (by simp only [List.length_nil]; omega) HBV1.out.size).mono ?_
  rintro e V2 ⟨rfl, hw, hb⟩
  have HBV2 := Lib.hid (HBV1.out.trans hb)
  have HI2 := Lib.hid (show Lib.IsBuilder 78 5 v2.heap.size v2.heap.size (Lib.strCells (P0 ++ catTo nodeB N 0)) V2 from by rw [catTo_zero, ba_nil]; exact .inr hw)
  have XV2 := Lib.hid (X0.out.call HBV2.out)
  clear hw hb
  have q1 := XV2.out.at_ 4 rfl
  go_wp2
  go_loopw [27] (fun i wr => ∃ k : Nat, k ≤ N.length ∧ i = .int .i64 k ∧ Hid (Lib.IsBuilder 78 5 v2.heap.size v2.heap.size (Lib.strCells (P0 ++ catTo nodeB N k)) wr) ∧ Below v2.heap.size v2 wr) (fun i _ => N.length - (intOf i).toNat)
  case atStart => exact ⟨0, Nat.zero_le _, rfl, HI2, HBV2.out⟩
  case round =>
    obtain ⟨k, hk, rfl, HBu, hB⟩ := hrel
    obtain ⟨wo, rfl⟩ : ∃ x, x = wr := ⟨_, rfl⟩
    have HB := Lib.hid hB
    have hsz := hB.size
    have hpk := HNB.out k
    obtain ⟨PB, hP⟩ : ∃ PB, P0 ++ catTo nodeB N k = PB := ⟨_, rfl⟩
    have hPs : PB.size ≤ 610 := by rw [← hP, ByteArray.size_append]; omega
    have HPP := Lib.hid hP
    rw [hP] at HBu
    clear hpk hP
    by_cases hlt : k < N.length
    · have hdl : decide ((k : Int) < (N.length : Int)) = true := decide_eq_true (by omega)
      obtain ⟨⟨st, Bk⟩, hx⟩ := el_some hlt
      have HX := Lib.hid hx
      have HOK := Lib.hid (HNR.out.2 _ (List.mem_of_getElem? hx))
      obtain ⟨gn, on, us, rfl, hg, hu, hr⟩ := (rd_mv R_Node_ok HN.out hB).at_ hx
      obtain ⟨ba, bc, rfl, k_B⟩ := rd_Node hr
      have e0 : wo.cell? ⟨gn, on + k * 2, none⟩ = some (.int .i64 st) := by simpa [size_NodeS, Nat.add_assoc] using hu 0 _ rfl
      have e1 : wo.cell? ⟨gn, on + k * 2 + 1, none⟩ = some (.slice ba Bk.length bc) := by simpa [size_NodeS, Nat.add_assoc] using hu 1 _ rfl
      have hi0 : (0 : Int) ≤ (k : Int) := Int.natCast_nonneg _
      have hi1 : (k : Int) < (N.length : Int) := by omega
      obtain ⟨b, hbt⟩ : ∃ b, nodeB (st, Bk) = b := ⟨_, rfl⟩
      have hbs : b.size ≤ 100 := by rw [← hbt]; exact nodeB_size HOK.out
      have HBT := Lib.hid hbt
      have HST := Lib.hid (show PB ++ b = P0 ++ catTo nodeB N (k + 1) from by rw [catTo_step HX.out, hbt, ← HPP.out, ByteArray.append_assoc])
      obtain ⟨w3, hw3⟩ : ∃ w, w = wo.alloc (.cells #[.int .i64 st, .slice ba Bk.length bc] 60) := ⟨_, rfl⟩
      have hb3 : Below wo.heap.size wo w3 := by rw [hw3]; exact (Below.refl _ _).alloc (Nat.le_refl _) _
      have Y3 := Lib.hid (show Blk w3 wo.heap.size 60 #[.int .i64 st, .slice ba Bk.length bc] from by rw [hw3]; exact Blk.new _ _ _)
      have HB3 := Lib.hid (HB.out.trans (hb3.mono hsz))
      have HBu3 := Lib.hid (BldC.is_below HBu.out hb3)
      have HKB := Lib.hid (rd_mv R_Span_ok k_B hb3)
      clear hB hx hu hg hr k_B hb3 hbt
      go_upto_region 8 with fail
      rw [← hw3]
      clear hw3 e0 e1
      have y0 := Y3.out.at_ 0 rfl
      have y1 := Y3.out.at_ 1 rfl
      go_wp2_with fail
      have hnb := nodebytes_impl HOK.out HKB.out
      rw [HBT.out] at hnb
      refine hnb.mono ?_
      rintro e w4 ⟨rfl, hb⟩
      have HB4 := Lib.hid (HB3.out.trans (hb.mono HB3.out.size))
      have HBu4 := Lib.hid (BldC.is_below HBu3.out hb)
      clear hb hnb y0 y1
      go_wp2_with fail
      refine (BldC.write_any _ _ _ b _ HBu4.out (by rw [Lib.strCells_length]; omega) HB4.out.size).mono ?_
      rintro e w5 ⟨rfl, hw, hb⟩
      have HB5 := Lib.hid (HB4.out.trans hb)
      have HBu5 := Lib.hid (show Lib.IsBuilder 78 5 v2.heap.size v2.heap.size (Lib.strCells (P0 ++ catTo nodeB N (k + 1))) w5 from by rw [← HST.out, ← BldC.cells_cat]; exact .inr hw)
      clear hw hb
      go_wp2
      go_roundw
      case rel => exact ⟨k + 1, by omega, by go_num, HBu5, HB5.out⟩
      case measure => simp [intOf]; omega
    · have hdl : decide ((k : Int) < (N.length : Int)) = false := decide_eq_false (by omega)
      obtain rfl : k = N.length := by omega
      have HBuA := Lib.hid (show Lib.IsBuilder 78 5 v2.heap.size v2.heap.size (Lib.strCells (PB ++ catTo (taskPart (l, s)) T 0)) wo from by rw [catTo_zero, ba_nil]; exact HBu.out)
      have XA := Lib.hid (X0.out.call hB)
      clear hB HBu q1
      have q2 := XA.out.at_ 5 rfl
      go_wp2
      go_loopw [38] (fun i wr => ∃ k : Nat, k ≤ T.length ∧ i = .int .i64 k ∧ Hid (Lib.IsBuilder 78 5 v2.heap.size v2.heap.size (Lib.strCells (PB ++ catTo (taskPart (l, s)) T k)) wr) ∧ Below v2.heap.size v2 wr) (fun i _ => T.length - (intOf i).toNat)
      case atStart => exact ⟨0, Nat.zero_le _, rfl, HBuA, HB.out⟩
      case round =>
        obtain ⟨k, hk, rfl, HBu, hB⟩ := hrel
        obtain ⟨wp, rfl⟩ : ∃ x, x = wr := ⟨_, rfl⟩
        have HB := Lib.hid hB
        have hsz := hB.size
        have hpk := HTB.out k
        obtain ⟨P2, hP2⟩ : ∃ P2, PB ++ catTo (taskPart (l, s)) T k = P2 := ⟨_, rfl⟩
        have hPs2 : P2.size ≤ 29410 := by rw [← hP2, ByteArray.size_append]; omega
        have HPP2 := Lib.hid hP2
        rw [hP2] at HBu
        clear hpk hP2
        by_cases hlt : k < T.length
        · have hdl : decide ((k : Int) < (T.length : Int)) = true := decide_eq_true (by omega)
          obtain ⟨⟨⟨x0, x1⟩, x2, x3, x4, x5, x6, ⟨x7, x8⟩, x9, x10, x11, x12, M⟩, hx⟩ := el_some hlt
          have HX := Lib.hid hx
          have HTX := Lib.hid (show TaskR ((x0, x1), x2, x3, x4, x5, x6, (x7, x8), x9, x10, x11, x12, M) from (HTR.out.2 k _ hx).1)
          obtain ⟨g, o, us, rfl, hg, hu, hr⟩ := (rd_mv R_Task_ok HT.out hB).at_ hx
          obtain ⟨ma, mc, rfl, k_M, b_x3⟩ := rd_Task hr
          have e0 : wp.cell? ⟨g, o + k * 14, none⟩ = some (.int .i64 x0) := by simpa [size_TaskS, Nat.add_assoc] using hu 0 _ rfl
          have e1 : wp.cell? ⟨g, o + k * 14 + 1, none⟩ = some (.int .i64 x1) := by simpa [size_TaskS, Nat.add_assoc] using hu 1 _ rfl
          have e2 : wp.cell? ⟨g, o + k * 14 + 2, none⟩ = some (.int .i64 x2) := by simpa [size_TaskS, Nat.add_assoc] using hu 2 _ rfl
          have e3 : wp.cell? ⟨g, o + k * 14 + 3, none⟩ = some (.string x3) := by simpa [size_TaskS, Nat.add_assoc] using hu 3 _ rfl
          have e4 : wp.cell? ⟨g, o + k * 14 + 4, none⟩ = some (.int .i64 x4) := by simpa [size_TaskS, Nat.add_assoc] using hu 4 _ rfl
          have e5 : wp.cell? ⟨g, o + k * 14 + 5, none⟩ = some (.int .i64 x5) := by simpa [size_TaskS, Nat.add_assoc] using hu 5 _ rfl
          have e6 : wp.cell? ⟨g, o + k * 14 + 6, none⟩ = some (.int .i64 x6) := by simpa [size_TaskS, Nat.add_assoc] using hu 6 _ rfl
          have e7 : wp.cell? ⟨g, o + k * 14 + 7, none⟩ = some (.int .i64 x7) := by simpa [size_TaskS, Nat.add_assoc] using hu 7 _ rfl
          have e8 : wp.cell? ⟨g, o + k * 14 + 8, none⟩ = some (.int .i64 x8) := by simpa [size_TaskS, Nat.add_assoc] using hu 8 _ rfl
          have e9 : wp.cell? ⟨g, o + k * 14 + 9, none⟩ = some (.int .i64 x9) := by simpa [size_TaskS, Nat.add_assoc] using hu 9 _ rfl
          have e10 : wp.cell? ⟨g, o + k * 14 + 10, none⟩ = some (.int .i64 x10) := by simpa [size_TaskS, Nat.add_assoc] using hu 10 _ rfl
          have e11 : wp.cell? ⟨g, o + k * 14 + 11, none⟩ = some (.int .i64 x11) := by simpa [size_TaskS, Nat.add_assoc] using hu 11 _ rfl
          have e12 : wp.cell? ⟨g, o + k * 14 + 12, none⟩ = some (.int .i64 x12) := by simpa [size_TaskS, Nat.add_assoc] using hu 12 _ rfl
          have e13 : wp.cell? ⟨g, o + k * 14 + 13, none⟩ = some (.slice ma M.length mc) := by simpa [size_TaskS, Nat.add_assoc] using hu 13 _ rfl
          have hi0 : (0 : Int) ≤ (k : Int) := Int.natCast_nonneg _
          have hi1 : (k : Int) < (T.length : Int) := by omega
          have hMn : M.length ≤ 9223372036854775807 := by have h1 := k_M.1; have h2 := k_M.2.1; unfold maxLen at h2; omega
          obtain ⟨c, hc⟩ : ∃ c, LabC.bB x0 x1 l s = c := ⟨_, rfl⟩
          have HCB := Lib.hid hc
          have HCI := Lib.hid (show LabC.belowB x0 x1 l s = c from by rw [LabC.below_yes HTX.out.1 Hb1.out]; exact hc)
          have hts := bytesT_size HTX.out
          obtain ⟨bt, hbt⟩ : ∃ b, bytesT ((x0, x1), x2, x3, x4, x5, x6, (x7, x8), x9, x10, x11, x12, M) = b := ⟨_, rfl⟩
          rw [hbt] at hts
          have HBT := Lib.hid hbt
          obtain ⟨w3, hw3⟩ : ∃ w, w = wp.alloc (.cells #[.int .i64 x0, .int .i64 x1, .int .i64 x2, .string x3, .int .i64 x4, .int .i64 x5, .int .i64 x6, .int .i64 x7, .int .i64 x8, .int .i64 x9, .int .i64 x10, .int .i64 x11, .int .i64 x12, .slice ma M.length mc] 66) := ⟨_, rfl⟩
          have hb3 : Below wp.heap.size wp w3 := by rw [hw3]; exact (Below.refl _ _).alloc (Nat.le_refl _) _
          have Y3 := Lib.hid (show Blk w3 wp.heap.size 66 #[.int .i64 x0, .int .i64 x1, .int .i64 x2, .string x3, .int .i64 x4, .int .i64 x5, .int .i64 x6, .int .i64 x7, .int .i64 x8, .int .i64 x9, .int .i64 x10, .int .i64 x11, .int .i64 x12, .slice ma M.length mc] from by rw [hw3]; exact Blk.new _ _ _)
          have HRD := Lib.hid (R_Task_ok.rd_more (R_Task_ok.rd_below hr hb3) hb3.size)
          have HB3 := Lib.hid (HB.out.trans (hb3.mono hsz))
          have HBu3 := Lib.hid (BldC.is_below HBu.out hb3)
          have XB := Lib.hid (X1.out.call HB3.out)
          clear hB hx hu hr hg hc k_M b_x3 hbt hb3
          go_upto_region 13 with fail
          rw [← hw3]
          clear hw3 e0 e1 e2 e3 e4 e5 e6 e7 e8 e9 e10 e11 e12 e13
          have y0 := Y3.out.at_ 0 rfl
          have y1 := Y3.out.at_ 1 rfl
          have l0 := XB.out.at_ 0 rfl
          have l1 := XB.out.at_ 1 rfl
          go_wp2_with fail
          refine (belI_at x0 x1 l s HCI.out _).mono ?_
          rintro e w4 ⟨rfl, hb⟩
          have HB4 := Lib.hid (HB3.out.trans (hb.mono HB3.out.size))
          have HBu4 := Lib.hid (BldC.is_below HBu3.out hb)
          have Y4 := Lib.hid (Y3.out.call hb)
          have HRD4 := Lib.hid (R_Task_ok.rd_more (R_Task_ok.rd_below HRD.out hb) hb.size)
          clear hb y0 y1 l0 l1
          cases c with
          | true =>
            have HST := Lib.hid (show P2 ++ bt = PB ++ catTo (taskPart (l, s)) T (k + 1) from by rw [catTo_step HX.out, taskPart_yes (show seesB (tLab ((x0, x1), x2, x3, x4, x5, x6, (x7, x8), x9, x10, x11, x12, M)) (l, s) = true from HCB.out), HBT.out, ← HPP2.out, ByteArray.append_assoc])
            have y0 := Y4.out.at_ 0 rfl
            have y1 := Y4.out.at_ 1 rfl
            have y2 := Y4.out.at_ 2 rfl
            have y3 := Y4.out.at_ 3 rfl
            have y4 := Y4.out.at_ 4 rfl
            have y5 := Y4.out.at_ 5 rfl
            have y6 := Y4.out.at_ 6 rfl
            have y7 := Y4.out.at_ 7 rfl
            have y8 := Y4.out.at_ 8 rfl
            have y9 := Y4.out.at_ 9 rfl
            have y10 := Y4.out.at_ 10 rfl
            have y11 := Y4.out.at_ 11 rfl
            have y12 := Y4.out.at_ 12 rfl
            have y13 := Y4.out.at_ 13 rfl
            go_wp2_with fail
            have hbb := bytes_impl HRD4.out
            rw [HBT.out] at hbb
            refine hbb.mono ?_
            rintro e w5 ⟨rfl, hb⟩
            have HB5 := Lib.hid (HB4.out.trans (hb.mono HB4.out.size))
            have HBu5 := Lib.hid (BldC.is_below HBu4.out hb)
            clear hb hbb y0 y1 y2 y3 y4 y5 y6 y7 y8 y9 y10 y11 y12 y13
            go_wp2_with fail
            refine (BldC.write_any _ _ _ bt _ HBu5.out (by rw [Lib.strCells_length]; omega) HB5.out.size).mono ?_
            rintro e w6 ⟨rfl, hw, hb⟩
            have HB6 := Lib.hid (HB5.out.trans hb)
            have HBu6 := Lib.hid (show Lib.IsBuilder 78 5 v2.heap.size v2.heap.size (Lib.strCells (PB ++ catTo (taskPart (l, s)) T (k + 1))) w6 from by rw [← HST.out, ← BldC.cells_cat]; exact .inr hw)
            clear hw hb
            go_wp2
            go_roundw
            case rel => exact ⟨k + 1, by omega, by go_num, HBu6, HB6.out⟩
            case measure => simp [intOf]; omega
          | false =>
            have HST := Lib.hid (show P2 = PB ++ catTo (taskPart (l, s)) T (k + 1) from by rw [catTo_step HX.out, taskPart_no (show seesB (tLab ((x0, x1), x2, x3, x4, x5, x6, (x7, x8), x9, x10, x11, x12, M)) (l, s) = false from HCB.out), ba_nil, HPP2.out])
            rw [HST.out] at HBu4
            go_wp2
            go_roundw
            case rel => exact ⟨k + 1, by omega, by go_num, HBu4, HB4.out⟩
            case measure => simp [intOf]; omega
        · have hdl : decide ((k : Int) < (T.length : Int)) = false := decide_eq_false (by omega)
          obtain rfl : k = T.length := by omega
          have HBuA := Lib.hid (show Lib.IsBuilder 78 5 v2.heap.size v2.heap.size (Lib.strCells (P2 ++ catTo (usePart (l, s)) U 0)) wp from by rw [catTo_zero, ba_nil]; exact HBu.out)
          have XA := Lib.hid (X0.out.call hB)
          clear hB HBu q2
          have q3 := XA.out.at_ 6 rfl
          go_wp2
          go_loopw [53] (fun i wr => ∃ k : Nat, k ≤ U.length ∧ i = .int .i64 k ∧ Hid (Lib.IsBuilder 78 5 v2.heap.size v2.heap.size (Lib.strCells (P2 ++ catTo (usePart (l, s)) U k)) wr) ∧ Below v2.heap.size v2 wr) (fun i _ => U.length - (intOf i).toNat)
          case atStart => exact ⟨0, Nat.zero_le _, rfl, HBuA, HB.out⟩
          case round =>
            obtain ⟨k, hk, rfl, HBu, hB⟩ := hrel
            obtain ⟨wq, rfl⟩ : ∃ x, x = wr := ⟨_, rfl⟩
            have HB := Lib.hid hB
            have hsz := hB.size
            have hpk := HUB.out k
            obtain ⟨P3, hP3⟩ : ∃ P3, P2 ++ catTo (usePart (l, s)) U k = P3 := ⟨_, rfl⟩
            have hPs3 : P3.size ≤ 32290 := by rw [← hP3, ByteArray.size_append]; omega
            have HPP3 := Lib.hid hP3
            rw [hP3] at HBu
            clear hpk hP3
            by_cases hlt : k < U.length
            · have hdl : decide ((k : Int) < (U.length : Int)) = true := decide_eq_true (by omega)
              obtain ⟨⟨⟨u0, u1⟩, u2, u3⟩, hx⟩ := el_some hlt
              have HX := Lib.hid hx
              have HOU := Lib.hid (show okU ((u0, u1), u2, u3) from (HUR.out.2 k _ hx).1)
              obtain ⟨g, o, us, rfl, hg, hu, hr⟩ := (rd_mv R_Use_ok HU.out hB).at_ hx
              obtain ⟨rfl, hml⟩ := rd_Use hr
              have HML := Lib.hid hml
              have e0 : wq.cell? ⟨g, o + k * 4, none⟩ = some (.int .i64 u0) := by simpa [size_UseS, Nat.add_assoc] using hu 0 _ rfl
              have e1 : wq.cell? ⟨g, o + k * 4 + 1, none⟩ = some (.int .i64 u1) := by simpa [size_UseS, Nat.add_assoc] using hu 1 _ rfl
              have e2 : wq.cell? ⟨g, o + k * 4 + 2, none⟩ = some (.string u2) := by simpa [size_UseS, Nat.add_assoc] using hu 2 _ rfl
              have e3 : wq.cell? ⟨g, o + k * 4 + 3, none⟩ = some (.int .i64 u3) := by simpa [size_UseS, Nat.add_assoc] using hu 3 _ rfl
              have hi0 : (0 : Int) ≤ (k : Int) := Int.natCast_nonneg _
              have hi1 : (k : Int) < (U.length : Int) := by omega
              obtain ⟨c, hc⟩ : ∃ c, LabC.bB u0 u1 l s = c := ⟨_, rfl⟩
              have HCB := Lib.hid hc
              have HCI := Lib.hid (show LabC.belowB u0 u1 l s = c from by rw [LabC.below_yes HOU.out.1 Hb1.out]; exact hc)
              obtain ⟨b, hbt⟩ : ∃ b, useB ((u0, u1), u2, u3) = b := ⟨_, rfl⟩
              have hbs : b.size ≤ 60 := by rw [← hbt]; exact useB_size HOU.out
              have HBT := Lib.hid hbt
              obtain ⟨w3, hw3⟩ : ∃ w, w = wq.alloc (.cells #[.int .i64 u0, .int .i64 u1, .string u2, .int .i64 u3] 69) := ⟨_, rfl⟩
              have hb3 : Below wq.heap.size wq w3 := by rw [hw3]; exact (Below.refl _ _).alloc (Nat.le_refl _) _
              have Y3 := Lib.hid (show Blk w3 wq.heap.size 69 #[.int .i64 u0, .int .i64 u1, .string u2, .int .i64 u3] from by rw [hw3]; exact Blk.new _ _ _)
              have HB3 := Lib.hid (HB.out.trans (hb3.mono hsz))
              have HBu3 := Lib.hid (BldC.is_below HBu.out hb3)
              have XB := Lib.hid (X1.out.call HB3.out)
              clear hB hx hu hr hg hc hml hbt hb3
              go_upto_region 19 with fail
              rw [← hw3]
              clear hw3 e0 e1 e2 e3
              have y0 := Y3.out.at_ 0 rfl
              have y1 := Y3.out.at_ 1 rfl
              have l0 := XB.out.at_ 0 rfl
              have l1 := XB.out.at_ 1 rfl
              go_wp2_with fail
              refine (belI_at u0 u1 l s HCI.out _).mono ?_
              rintro e w4 ⟨rfl, hb⟩
              have HB4 := Lib.hid (HB3.out.trans (hb.mono HB3.out.size))
              have HBu4 := Lib.hid (BldC.is_below HBu3.out hb)
              have Y4 := Lib.hid (Y3.out.call hb)
              clear hb y0 y1 l0 l1
              cases c with
              | true =>
                have HST := Lib.hid (show P3 ++ b = P2 ++ catTo (usePart (l, s)) U (k + 1) from by rw [catTo_step HX.out, usePart_yes (show seesB ((u0, u1), u2, u3).1 (l, s) = true from HCB.out), HBT.out, ← HPP3.out, ByteArray.append_assoc])
                have y0 := Y4.out.at_ 0 rfl
                have y1 := Y4.out.at_ 1 rfl
                have y2 := Y4.out.at_ 2 rfl
                have y3 := Y4.out.at_ 3 rfl
                go_wp2_with fail
                have hub := usebytes_impl (W := w4) HOU.out HML.out
                rw [HBT.out] at hub
                refine hub.mono ?_
                rintro e w5 ⟨rfl, hb⟩
                have HB5 := Lib.hid (HB4.out.trans (hb.mono HB4.out.size))
                have HBu5 := Lib.hid (BldC.is_below HBu4.out hb)
                clear hb hub y0 y1 y2 y3
                go_wp2_with fail
                refine (BldC.write_any _ _ _ b _ HBu5.out (by rw [Lib.strCells_length]; omega) HB5.out.size).mono ?_
                rintro e w6 ⟨rfl, hw, hb⟩
                have HB6 := Lib.hid (HB5.out.trans hb)
                have HBu6 := Lib.hid (show Lib.IsBuilder 78 5 v2.heap.size v2.heap.size (Lib.strCells (P2 ++ catTo (usePart (l, s)) U (k + 1))) w6 from by rw [← HST.out, ← BldC.cells_cat]; exact .inr hw)
                clear hw hb
                go_wp2
                go_roundw
                case rel => exact ⟨k + 1, by omega, by go_num, HBu6, HB6.out⟩
                case measure => simp [intOf]; omega
              | false =>
                have HST := Lib.hid (show P3 = P2 ++ catTo (usePart (l, s)) U (k + 1) from by rw [catTo_step HX.out, usePart_no (show seesB ((u0, u1), u2, u3).1 (l, s) = false from HCB.out), ba_nil, HPP3.out])
                rw [HST.out] at HBu4
                go_wp2
                go_roundw
                case rel => exact ⟨k + 1, by omega, by go_num, HBu4, HB4.out⟩
                case measure => simp [intOf]; omega
            · have hdl : decide ((k : Int) < (U.length : Int)) = false := decide_eq_false (by omega)
              obtain rfl : k = U.length := by omega
              have HST := Lib.hid (show P3 = (viewV ((C, P, Q, hf), N, T, U, now) (l, s)) from by rw [HE.out, ← HPP3.out, ← HPP2.out, ← HPP.out, ← HP0.out]; rfl)
              rw [HST.out] at HBu
              clear hB
              go_wp2_with fail
              refine (BldC.str_any _ _ _ _ HBu.out HB.out.size).mono ?_
              rintro e w5 ⟨rfl, hb⟩
              have HB5 := Lib.hid (HB0.out.trans ((HB.out.trans hb).mono hzv))
              clear hb
              go_wp2
              go_ret
              exact ⟨rfl, HB5.out⟩
end Go.Proofs.YtelhmacfljffhabGreat.RepC
end
