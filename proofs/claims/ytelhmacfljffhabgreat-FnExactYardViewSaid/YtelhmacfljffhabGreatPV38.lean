/- Of this claim's texts the part 38: YaC3. -/
import Derived.Test.YtelhmacfljffhabGreatPV0
import Derived.Test.YtelhmacfljffhabGreatPV1
import Derived.Test.YtelhmacfljffhabGreatPV2
import Derived.Test.YtelhmacfljffhabGreatPV3
import Derived.Test.YtelhmacfljffhabGreatPV4
import Derived.Test.YtelhmacfljffhabGreatPV5
import Derived.Test.YtelhmacfljffhabGreatPV6
import Derived.Test.YtelhmacfljffhabGreatPV7
import Derived.Test.YtelhmacfljffhabGreatPV8
import Derived.Test.YtelhmacfljffhabGreatPV9
import Derived.Test.YtelhmacfljffhabGreatPV10
import Derived.Test.YtelhmacfljffhabGreatPV11
import Derived.Test.YtelhmacfljffhabGreatPV12
import Derived.Test.YtelhmacfljffhabGreatPV13
import Derived.Test.YtelhmacfljffhabGreatPV14
import Derived.Test.YtelhmacfljffhabGreatPV15
import Derived.Test.YtelhmacfljffhabGreatPV16
import Derived.Test.YtelhmacfljffhabGreatPV17
import Derived.Test.YtelhmacfljffhabGreatPV18
import Derived.Test.YtelhmacfljffhabGreatPV19
import Derived.Test.YtelhmacfljffhabGreatPV20
import Derived.Test.YtelhmacfljffhabGreatPV21
import Derived.Test.YtelhmacfljffhabGreatPV22
import Derived.Test.YtelhmacfljffhabGreatPV32
import Derived.Test.YtelhmacfljffhabGreatPV34
import Derived.Test.YtelhmacfljffhabGreatPV36
import Derived.Test.YtelhmacfljffhabGreatPV37
section
namespace Go.Proofs.YtelhmacfljffhabGreat.RepC
open Go.RowKit RowC ValC SpanC KeptC NameC CfC
set_option linter.unusedVariables false
set_option linter.unusedSimpArgs false
theorem nodes_le {C : List (List D_Label)} {P : List D_Pair} {Q : List D_Quota} {hf : Int} (h : CfgR C P Q hf) : 1 ≤ C.length ∧ C.length ≤ 6 := ⟨h.1.1, h.1.2.1⟩
structure Pre13 (C : List (List D_Label)) (P : List D_Pair) (Q : List D_Quota) (hf : Int) (N : List D_Node) (T : List D_Task) (U : List D_Use) (now : Int) : Prop where
  now : isB now 0 999900 = true
  cfg : CfgR C P Q hf
  nds : NdsR N
  len : N.length = C.length
  tas : TasksR T
  use : UsesR U
theorem quotaV_at {C : List (List D_Label)} {P : List D_Pair} {Q : List D_Quota} {hf : Int} {a : D_Label} (h : CfgR C P Q hf) (ha : a ∈ labsOf C) : quotaV C P Q hf a = quotaIn Q a := by
  have h1 : labsV C P Q hf = labsOf C := by unfold labsV; rw [cfgB_iff.2 h]; rfl
  unfold quotaV
  rw [h1]
  exact if_pos ha
theorem make_bool6 : ∀ W : World, (Instr.makeSlice 108 (.int .i64 6) (.int .i64 6)).run Tryz.prog W = .ok (.slice (some ⟨W.heap.size, 0, none⟩) 6 6) (W.alloc (.cells #[.bool false, .bool false, .bool false, .bool false, .bool false, .bool false] 4)) := fun W => (make_BoolS 6 (by decide) W).trans (by rw [show zs_BoolS 6 = #[.bool false, .bool false, .bool false, .bool false, .bool false, .bool false] from by kernel_rfl])
set_option maxRecDepth 100000 in
set_option maxHeartbeats 6400000 in
theorem yard_spec {C : List (List D_Label)} {P : List D_Pair} {Q : List D_Quota} {hf : Int} {ca pa qa : Option Addr} {cc pc qc : Nat} {N : List D_Node} {T : List D_Task} {U : List D_Use} {now : Int} {na ta ua : Option Addr} {nc tc uc : Nat} {W : World} (hC : RdSl (Sl R_Label) W W.heap.size C ca cc) (hP : RdSl R_Pair W W.heap.size P pa pc) (hQ : RdSl R_Quota W W.heap.size Q qa qc) (hN : RdSl R_Node W W.heap.size N na nc) (hT : RdSl R_Task W W.heap.size T ta tc) (hU : RdSl R_Use W W.heap.size U ua uc) :
    Calls Tryz.prog 14 #[.agg #[.slice ca C.length cc, .slice pa P.length pc, .slice qa Q.length qc, .int .i64 hf, .slice na N.length nc, .slice ta T.length tc, .slice ua U.length uc, .int .i64 now]] W (ResB (YardR ((C, P, Q, hf), N, T, U, now)) W) := by
  have hNn : N.length ≤ 9223372036854775807 := by have h1 := hN.1; have h2 := hN.2.1; unfold maxLen at h2; omega
  have hTn : T.length ≤ 9223372036854775807 := by have h1 := hT.1; have h2 := hT.2.1; unfold maxLen at h2; omega
  have hUn : U.length ≤ 9223372036854775807 := by have h1 := hU.1; have h2 := hU.2.1; unfold maxLen at h2; omega
  have hCn : C.length ≤ 9223372036854775807 := by have h1 := hC.1; have h2 := hC.2.1; unfold maxLen at h2; omega
  obtain ⟨b0, hb0⟩ : ∃ b, isB now 0 999900 = b := ⟨_, rfl⟩
  have Hb0 := Lib.hid hb0
  clear hb0
  obtain ⟨b1, hb1⟩ : ∃ b, cfgB C P Q hf = b := ⟨_, rfl⟩
  have Hb1 := Lib.hid hb1
  clear hb1
  obtain ⟨b2, hb2⟩ : ∃ b, nodesB N = b := ⟨_, rfl⟩
  have Hb2 := Lib.hid hb2
  clear hb2
  obtain ⟨b4, hb4⟩ : ∃ b, tasksB T = b := ⟨_, rfl⟩
  have Hb4 := Lib.hid hb4
  clear hb4
  obtain ⟨b5, hb5⟩ : ∃ b, usesB U = b := ⟨_, rfl⟩
  have Hb5 := Lib.hid hb5
  clear hb5
  obtain ⟨w0, hw0⟩ : ∃ w, w = W.alloc (.cells #[.slice ca C.length cc, .slice pa P.length pc, .slice qa Q.length qc, .int .i64 hf, .slice na N.length nc, .slice ta T.length tc, .slice ua U.length uc, .int .i64 now] 45) := ⟨_, rfl⟩
  have hb0 : Below W.heap.size W w0 := by rw [hw0]; exact (Below.refl _ _).alloc (Nat.le_refl _) _
  have x0_ : Blk w0 (W.heap.size) 45 #[.slice ca C.length cc, .slice pa P.length pc, .slice qa Q.length qc, .int .i64 hf, .slice na N.length nc, .slice ta T.length tc, .slice ua U.length uc, .int .i64 now] := by
    have h9 := Blk.new W 45 #[.slice ca C.length cc, .slice pa P.length pc, .slice qa Q.length qc, .int .i64 hf, .slice na N.length nc, .slice ta T.length tc, .slice ua U.length uc, .int .i64 now]
    try simp only [World.size_alloc] at h9
    rw [hw0]; exact h9
  have X0 := Lib.hid x0_
  have HC := Lib.hid (rd_mv (Sl_ok R_Label_ok) hC hb0)
  have HP := Lib.hid (rd_mv R_Pair_ok hP hb0)
  have HQ := Lib.hid (rd_mv R_Quota_ok hQ hb0)
  have HN := Lib.hid (rd_mv R_Node_ok hN hb0)
  have HT := Lib.hid (rd_mv R_Task_ok hT hb0)
  have HU := Lib.hid (rd_mv R_Use_ok hU hb0)
  have HB0 := Lib.hid hb0
  have hz0 := hb0.size
  clear hb0 hC hP hQ hN hT hU x0_
  go_enter Tryz.func14, Tryz.ntmps14
  go_wp2_with fail
  rw [← hw0]
  clear hw0
  have qX0_0 := X0.out.at_ 0 rfl
  have qX0_1 := X0.out.at_ 1 rfl
  have qX0_2 := X0.out.at_ 2 rfl
  have qX0_3 := X0.out.at_ 3 rfl
  have qX0_4 := X0.out.at_ 4 rfl
  have qX0_5 := X0.out.at_ 5 rfl
  have qX0_6 := X0.out.at_ 6 rfl
  have qX0_7 := X0.out.at_ 7 rfl
  refine (nowS_at _ Hb0.out _).mono ?_
  rintro e v0 ⟨rfl, rfl⟩
  cases b0 with
  | false =>
    have HV := Lib.hid (show ¬ YardR ((C, P, Q, hf), N, T, U, now) from fun h => by have h2 := h.1; rw [Hb0.out] at h2; cases h2)
    go_wp2
    go_ret
    exact resB_no HV.out HB0.out
  | true =>
  go_wp2_with fail
  have hcx := config_spec HC.out HP.out HQ.out (hf := hf)
  rw [Hb1.out] at hcx
  refine hcx.mono ?_
  intro e v1 h
  obtain ⟨rfl, hb⟩ := isB_elim h
  have HC := Lib.hid (rd_mv (Sl_ok R_Label_ok) HC.out hb)
  have HP := Lib.hid (rd_mv R_Pair_ok HP.out hb)
  have HQ := Lib.hid (rd_mv R_Quota_ok HQ.out hb)
  have HN := Lib.hid (rd_mv R_Node_ok HN.out hb)
  have HT := Lib.hid (rd_mv R_Task_ok HT.out hb)
  have HU := Lib.hid (rd_mv R_Use_ok HU.out hb)
  have X0 := Lib.hid (X0.out.call hb)
  have HB0 := Lib.hid (HB0.out.trans (hb.mono HB0.out.size))
  clear h hb hcx qX0_0 qX0_1 qX0_2 qX0_3 qX0_4 qX0_5 qX0_6 qX0_7
  have qX0_0 := X0.out.at_ 0 rfl
  have qX0_1 := X0.out.at_ 1 rfl
  have qX0_2 := X0.out.at_ 2 rfl
  have qX0_3 := X0.out.at_ 3 rfl
  have qX0_4 := X0.out.at_ 4 rfl
  have qX0_5 := X0.out.at_ 5 rfl
  have qX0_6 := X0.out.at_ 6 rfl
  have qX0_7 := X0.out.at_ 7 rfl
  cases b1 with
  | false =>
    have HV := Lib.hid (show ¬ YardR ((C, P, Q, hf), N, T, U, now) from fun h => by have h2 := cfgB_iff.2 h.2.1; rw [Hb1.out] at h2; cases h2)
    go_wp2
    go_ret
    exact resB_no HV.out HB0.out
  | true =>
  go_wp2_with fail
  have hcx := nds_spec HN.out
  rw [Hb2.out] at hcx
  refine hcx.mono ?_
  intro e v2 h
  obtain ⟨rfl, hb⟩ := isB_elim h
  have HC := Lib.hid (rd_mv (Sl_ok R_Label_ok) HC.out hb)
  have HP := Lib.hid (rd_mv R_Pair_ok HP.out hb)
  have HQ := Lib.hid (rd_mv R_Quota_ok HQ.out hb)
  have HN := Lib.hid (rd_mv R_Node_ok HN.out hb)
  have HT := Lib.hid (rd_mv R_Task_ok HT.out hb)
  have HU := Lib.hid (rd_mv R_Use_ok HU.out hb)
  have X0 := Lib.hid (X0.out.call hb)
  have HB0 := Lib.hid (HB0.out.trans (hb.mono HB0.out.size))
  clear h hb hcx qX0_0 qX0_1 qX0_2 qX0_3 qX0_4 qX0_5 qX0_6 qX0_7
  have qX0_0 := X0.out.at_ 0 rfl
  have qX0_1 := X0.out.at_ 1 rfl
  have qX0_2 := X0.out.at_ 2 rfl
  have qX0_3 := X0.out.at_ 3 rfl
  have qX0_4 := X0.out.at_ 4 rfl
  have qX0_5 := X0.out.at_ 5 rfl
  have qX0_6 := X0.out.at_ 6 rfl
  have qX0_7 := X0.out.at_ 7 rfl
  cases b2 with
  | false =>
    have HV := Lib.hid (show ¬ YardR ((C, P, Q, hf), N, T, U, now) from fun h => by have h2 := nodesB_iff.2 h.2.2.1; rw [Hb2.out] at h2; cases h2)
    go_wp2
    go_ret
    exact resB_no HV.out HB0.out
  | true =>
  by_cases hnl : N.length = C.length
  rotate_left
  · have hne : ((N.length : Int) != (C.length : Int)) = true := by simp; omega
    have HV := Lib.hid (show ¬ YardR ((C, P, Q, hf), N, T, U, now) from fun h => hnl h.2.2.2.1)
    go_wp2
    go_ret
    exact resB_no HV.out HB0.out
  have hne : ((N.length : Int) != (C.length : Int)) = false := by simp; omega
  have HNL := Lib.hid hnl
  clear hnl
  go_wp2_with fail
  have hcx := tasks_spec HT.out
  rw [Hb4.out] at hcx
  refine hcx.mono ?_
  intro e v4 h
  obtain ⟨rfl, hb⟩ := isB_elim h
  have HC := Lib.hid (rd_mv (Sl_ok R_Label_ok) HC.out hb)
  have HP := Lib.hid (rd_mv R_Pair_ok HP.out hb)
  have HQ := Lib.hid (rd_mv R_Quota_ok HQ.out hb)
  have HN := Lib.hid (rd_mv R_Node_ok HN.out hb)
  have HT := Lib.hid (rd_mv R_Task_ok HT.out hb)
  have HU := Lib.hid (rd_mv R_Use_ok HU.out hb)
  have X0 := Lib.hid (X0.out.call hb)
  have HB0 := Lib.hid (HB0.out.trans (hb.mono HB0.out.size))
  clear h hb hcx qX0_0 qX0_1 qX0_2 qX0_3 qX0_4 qX0_5 qX0_6 qX0_7
  have qX0_0 := X0.out.at_ 0 rfl
  have qX0_1 := X0.out.at_ 1 rfl
  have qX0_2 := X0.out.at_ 2 rfl
  have qX0_3 := X0.out.at_ 3 rfl
  have qX0_4 := X0.out.at_ 4 rfl
  have qX0_5 := X0.out.at_ 5 rfl
  have qX0_6 := X0.out.at_ 6 rfl
  have qX0_7 := X0.out.at_ 7 rfl
  cases b4 with
  | false =>
    have HV := Lib.hid (show ¬ YardR ((C, P, Q, hf), N, T, U, now) from fun h => by have h2 := tasksB_iff.2 h.2.2.2.2.1; rw [Hb4.out] at h2; cases h2)
    go_wp2
    go_ret
    exact resB_no HV.out HB0.out
  | true =>
  go_wp2_with fail
  have hcx := uses_spec HU.out
  rw [Hb5.out] at hcx
  refine hcx.mono ?_
  intro e v5 h
  obtain ⟨rfl, hb⟩ := isB_elim h
  have HC := Lib.hid (rd_mv (Sl_ok R_Label_ok) HC.out hb)
  have HP := Lib.hid (rd_mv R_Pair_ok HP.out hb)
  have HQ := Lib.hid (rd_mv R_Quota_ok HQ.out hb)
  have HN := Lib.hid (rd_mv R_Node_ok HN.out hb)
  have HT := Lib.hid (rd_mv R_Task_ok HT.out hb)
  have HU := Lib.hid (rd_mv R_Use_ok HU.out hb)
  have X0 := Lib.hid (X0.out.call hb)
  have HB0 := Lib.hid (HB0.out.trans (hb.mono HB0.out.size))
  clear h hb hcx qX0_0 qX0_1 qX0_2 qX0_3 qX0_4 qX0_5 qX0_6 qX0_7
  have qX0_0 := X0.out.at_ 0 rfl
  have qX0_1 := X0.out.at_ 1 rfl
  have qX0_2 := X0.out.at_ 2 rfl
  have qX0_3 := X0.out.at_ 3 rfl
  have qX0_4 := X0.out.at_ 4 rfl
  have qX0_5 := X0.out.at_ 5 rfl
  have qX0_6 := X0.out.at_ 6 rfl
  have qX0_7 := X0.out.at_ 7 rfl
  cases b5 with
  | false =>
    have HV := Lib.hid (show ¬ YardR ((C, P, Q, hf), N, T, U, now) from fun h => by have h2 := usesB_iff.2 h.2.2.2.2.2.1; rw [Hb5.out] at h2; cases h2)
    go_wp2
    go_ret
    exact resB_no HV.out HB0.out
  | true =>
  have HPRE := Lib.hid (⟨Hb0.out, cfgB_iff.1 Hb1.out, nodesB_iff.1 Hb2.out, HNL.out, tasksB_iff.1 Hb4.out, usesB_iff.1 Hb5.out⟩ : Pre13 C P Q hf N T U now)
  have hnow := (isB_iff _ _ _).1 Hb0.out
  have hT96 := HPRE.out.tas.1
  have hz1 := HB0.out.size
  clear hne qX0_0 qX0_1 qX0_2 qX0_3 qX0_4 qX0_5 qX0_6 qX0_7
  have hmk := make_bool6
  obtain ⟨w1, hw1⟩ : ∃ w, w = v5.alloc (.cells #[.bool false, .bool false, .bool false, .bool false, .bool false, .bool false] 4) := ⟨_, rfl⟩
  have HUS0 := Lib.hid (show Usd w1 v5.heap.size 4 (fun n => takenT T 0 n) from by rw [hw1]; exact (Usd.new v5 _).more fun m _ => ⟨fun h => h.elim, fun h => takenT_zero h⟩)
  have hb1 : Below v5.heap.size v5 w1 := by rw [hw1]; exact (Below.refl _ _).alloc (Nat.le_refl _) _
  have HB1 := Lib.hid hb1
  clear hb1
  obtain ⟨gu, hgu⟩ : ∃ g, g = v5.heap.size := ⟨_, rfl⟩
  have HGU := Lib.hid (show gu = v5.heap.size from hgu)
  rw [← hgu] at HUS0
  have qX0_0 := X0.out.at_ 0 rfl
  have qX0_1 := X0.out.at_ 1 rfl
  have qX0_2 := X0.out.at_ 2 rfl
  have qX0_3 := X0.out.at_ 3 rfl
  have qX0_4 := X0.out.at_ 4 rfl
  have qX0_5 := X0.out.at_ 5 rfl
  have qX0_6 := X0.out.at_ 6 rfl
  have qX0_7 := X0.out.at_ 7 rfl
  go_upto_region 4 with fail
  rw [← hw1, ← hgu]
  clear hw1 hgu qX0_0 qX0_1 qX0_2 qX0_3 qX0_4 qX0_5 qX0_6 qX0_7 hmk
  go_wp2
  go_loopw [4] (fun i wr => ∃ k : Nat, k ≤ T.length ∧ i = .int .i64 k ∧ Hid (fitTo C now T k) ∧ Hid (Usd wr gu 4 (fun n => takenT T k n)) ∧ Below v5.heap.size v5 wr) (fun i _ => T.length - (intOf i).toNat)
  case atStart => exact ⟨0, Nat.zero_le _, rfl, Lib.hid fitTo_zero, HUS0, HB1.out⟩
  case round =>
    obtain ⟨k, hk, rfl, HFT, HUS, hB⟩ := hrel
    obtain ⟨wo, rfl⟩ : ∃ x, x = wr := ⟨_, rfl⟩
    have HB := Lib.hid hB
    have hsz := hB.size
    have HBW := Lib.hid (HB0.out.trans (hB.mono hz1))
    have Z0 := Lib.hid (X0.out.call hB)
    have q5 := Z0.out.at_ 5 rfl
    by_cases hlt : k < T.length
    · have hdl : decide ((k : Int) < (T.length : Int)) = true := decide_eq_true (by omega)
      obtain ⟨⟨⟨x0, x1⟩, x2, x3, x4, x5, x6, ⟨x7, x8⟩, x9, x10, x11, x12, M⟩, hx⟩ := el_some hlt
      have HX := Lib.hid hx
      have HTR := Lib.hid (show TaskR ((x0, x1), x2, x3, x4, x5, x6, (x7, x8), x9, x10, x11, x12, M) from (HPRE.out.tas.2 k _ hx).1)
      obtain ⟨g, o, us, rfl, hg, hu, hr⟩ := HT.out.at_ hx
      obtain ⟨ma, mc, rfl, k_M, b_x3⟩ := rd_Task hr
      have e0 : wo.cell? ⟨g, o + k * 14, none⟩ = some (.int .i64 x0) := (hB.cell (p := ⟨g, _, none⟩) hg).trans (by simpa [size_TaskS, Nat.add_assoc] using hu 0 _ rfl)
      have e1 : wo.cell? ⟨g, o + k * 14 + 1, none⟩ = some (.int .i64 x1) := (hB.cell (p := ⟨g, _, none⟩) hg).trans (by simpa [size_TaskS, Nat.add_assoc] using hu 1 _ rfl)
      have e2 : wo.cell? ⟨g, o + k * 14 + 2, none⟩ = some (.int .i64 x2) := (hB.cell (p := ⟨g, _, none⟩) hg).trans (by simpa [size_TaskS, Nat.add_assoc] using hu 2 _ rfl)
      have e3 : wo.cell? ⟨g, o + k * 14 + 3, none⟩ = some (.string x3) := (hB.cell (p := ⟨g, _, none⟩) hg).trans (by simpa [size_TaskS, Nat.add_assoc] using hu 3 _ rfl)
      have e4 : wo.cell? ⟨g, o + k * 14 + 4, none⟩ = some (.int .i64 x4) := (hB.cell (p := ⟨g, _, none⟩) hg).trans (by simpa [size_TaskS, Nat.add_assoc] using hu 4 _ rfl)
      have e5 : wo.cell? ⟨g, o + k * 14 + 5, none⟩ = some (.int .i64 x5) := (hB.cell (p := ⟨g, _, none⟩) hg).trans (by simpa [size_TaskS, Nat.add_assoc] using hu 5 _ rfl)
      have e6 : wo.cell? ⟨g, o + k * 14 + 6, none⟩ = some (.int .i64 x6) := (hB.cell (p := ⟨g, _, none⟩) hg).trans (by simpa [size_TaskS, Nat.add_assoc] using hu 6 _ rfl)
      have e7 : wo.cell? ⟨g, o + k * 14 + 7, none⟩ = some (.int .i64 x7) := (hB.cell (p := ⟨g, _, none⟩) hg).trans (by simpa [size_TaskS, Nat.add_assoc] using hu 7 _ rfl)
      have e8 : wo.cell? ⟨g, o + k * 14 + 8, none⟩ = some (.int .i64 x8) := (hB.cell (p := ⟨g, _, none⟩) hg).trans (by simpa [size_TaskS, Nat.add_assoc] using hu 8 _ rfl)
      have e9 : wo.cell? ⟨g, o + k * 14 + 9, none⟩ = some (.int .i64 x9) := (hB.cell (p := ⟨g, _, none⟩) hg).trans (by simpa [size_TaskS, Nat.add_assoc] using hu 9 _ rfl)
      have e10 : wo.cell? ⟨g, o + k * 14 + 10, none⟩ = some (.int .i64 x10) := (hB.cell (p := ⟨g, _, none⟩) hg).trans (by simpa [size_TaskS, Nat.add_assoc] using hu 10 _ rfl)
      have e11 : wo.cell? ⟨g, o + k * 14 + 11, none⟩ = some (.int .i64 x11) := (hB.cell (p := ⟨g, _, none⟩) hg).trans (by simpa [size_TaskS, Nat.add_assoc] using hu 11 _ rfl)
      have e12 : wo.cell? ⟨g, o + k * 14 + 12, none⟩ = some (.int .i64 x12) := (hB.cell (p := ⟨g, _, none⟩) hg).trans (by simpa [size_TaskS, Nat.add_assoc] using hu 12 _ rfl)
      have e13 : wo.cell? ⟨g, o + k * 14 + 13, none⟩ = some (.slice ma M.length mc) := (hB.cell (p := ⟨g, _, none⟩) hg).trans (by simpa [size_TaskS, Nat.add_assoc] using hu 13 _ rfl)
      have hi0 : (0 : Int) ≤ (k : Int) := Int.natCast_nonneg _
      have hi1 : (k : Int) < (T.length : Int) := by omega
      have HK := Lib.hid k_M
      have hMn : M.length ≤ 9223372036854775807 := by have h1 := k_M.1; have h2 := k_M.2.1; unfold maxLen at h2; omega
      obtain ⟨w2, hw2⟩ : ∃ w, w = wo.alloc (.cells #[.int .i64 x0, .int .i64 x1, .int .i64 x2, .string x3, .int .i64 x4, .int .i64 x5, .int .i64 x6, .int .i64 x7, .int .i64 x8, .int .i64 x9, .int .i64 x10, .int .i64 x11, .int .i64 x12, .slice ma M.length mc] 66) := ⟨_, rfl⟩
      have hb2 : Below wo.heap.size wo w2 := by rw [hw2]; exact (Below.refl _ _).alloc (Nat.le_refl _) _
      have Y2 := Lib.hid (show Blk w2 wo.heap.size 66 #[.int .i64 x0, .int .i64 x1, .int .i64 x2, .string x3, .int .i64 x4, .int .i64 x5, .int .i64 x6, .int .i64 x7, .int .i64 x8, .int .i64 x9, .int .i64 x10, .int .i64 x11, .int .i64 x12, .slice ma M.length mc] from by rw [hw2]; exact Blk.new _ _ _)
      have Z2 := Lib.hid (Z0.out.call hb2)
      have HB2 := Lib.hid (HB.out.trans (hb2.mono hsz))
      have HUS2 := Lib.hid (HUS.out.call hb2)
      have HC2 := Lib.hid (rd_mv (Sl_ok R_Label_ok) (rd_mv (Sl_ok R_Label_ok) HC.out hB) hb2)
      have HM2 := Lib.hid (rd_mv I_ok HK.out HB2.out)
      clear hB hx hr hu hg k_M hb2
      go_upto_region 8 with fail
      rw [← hw2]
      clear hw2 e0 e1 e2 e3 e4 e5 e6 e7 e8 e9 e10 e11 e12 e13 q5
      have zz0 := Z2.out.at_ 0 rfl
      have zz1 := Z2.out.at_ 1 rfl
      have zz2 := Z2.out.at_ 2 rfl
      have zz3 := Z2.out.at_ 3 rfl
      have zz4 := Z2.out.at_ 4 rfl
      have zz5 := Z2.out.at_ 5 rfl
      have zz6 := Z2.out.at_ 6 rfl
      have zz7 := Z2.out.at_ 7 rfl
      have yy0 := Y2.out.at_ 0 rfl
      have yy1 := Y2.out.at_ 1 rfl
      have yy2 := Y2.out.at_ 2 rfl
      have yy3 := Y2.out.at_ 3 rfl
      have yy4 := Y2.out.at_ 4 rfl
      have yy5 := Y2.out.at_ 5 rfl
      have yy6 := Y2.out.at_ 6 rfl
      have yy7 := Y2.out.at_ 7 rfl
      have yy8 := Y2.out.at_ 8 rfl
      have yy9 := Y2.out.at_ 9 rfl
      have yy10 := Y2.out.at_ 10 rfl
      have yy11 := Y2.out.at_ 11 rfl
      have yy12 := Y2.out.at_ 12 rfl
      have yy13 := Y2.out.at_ 13 rfl
      go_wp2_with fail
      refine (task13_spec HC2.out HM2.out HTR.out (nodes_le HPRE.out.cfg).2 HPRE.out.len hnow).mono ?_
      intro e w3 h
      obtain ⟨b, rfl, hb, hbl⟩ := resB_elim h
      have HFB := Lib.hid hb
      have HB3 := Lib.hid (HB2.out.trans (hbl.mono HB2.out.size))
      have HBW3 := Lib.hid (HB0.out.trans (HB3.out.mono hz1))
      have Y3 := Lib.hid (Y2.out.call hbl)
      have Z3 := Lib.hid (Z2.out.call hbl)
      have HUS3 := Lib.hid (HUS2.out.call hbl)
      have hz3 := HB3.out.size
      clear h hb hbl zz0 zz1 zz2 zz3 zz4 zz5 zz6 zz7 yy0 yy1 yy2 yy3 yy4 yy5 yy6 yy7 yy8 yy9 yy10 yy11 yy12 yy13
      cases b with
      | false =>
        have HV := Lib.hid (show ¬ YardR ((C, P, Q, hf), N, T, U, now) from fun h => by have h2 := (h.2.2.2.2.2.2.1 k _ hlt HX.out).1; have := HFB.out.2 h2; cases this)
        go_wp2
        go_ret
        exact resB_no HV.out HBW3.out
      | true =>
      have HFIT := Lib.hid (HFB.out.1 rfl)
      have y9 := Y3.out.at_ 9 rfl
      have y11 := Y3.out.at_ 11 rfl
      have y13 := Y3.out.at_ 13 rfl
      by_cases hs2 : x11 = 2
      · have hs2' : (x11 == 2) = true := beq_iff_eq.2 hs2
        have HS2 := Lib.hid hs2
        clear hs2
        have HUS4 := Lib.hid (HUS3.out.more (q := fun n => takenT T k n ∨ n ∈ M.take 0) fun m _ => by simp)
        go_wp2
        go_loopw [6] (fun i wr => ∃ j : Nat, j ≤ M.length ∧ i = .int .i64 j ∧ Hid (Usd wr gu 4 (fun n => takenT T k n ∨ n ∈ M.take j)) ∧ Hid (∀ (q : Nat) (n : Int), q < j → M[q]? = some n → ¬ takenT T k n) ∧ Hid (Blk wr wo.heap.size 66 #[.int .i64 x0, .int .i64 x1, .int .i64 x2, .string x3, .int .i64 x4, .int .i64 x5, .int .i64 x6, .int .i64 x7, .int .i64 x8, .int .i64 x9, .int .i64 x10, .int .i64 x11, .int .i64 x12, .slice ma M.length mc]) ∧ Below v5.heap.size v5 wr) (fun i _ => M.length - (intOf i).toNat)
        case atStart => exact ⟨0, Nat.zero_le _, rfl, HUS4, Lib.hid fun q n h => absurd h (Nat.not_lt_zero _), Y3, HB3.out⟩
        case round =>
          obtain ⟨j, hj, rfl, HU5, HNT, HY5, hB5⟩ := hrel
          have HM5 := Lib.hid (rd_mv I_ok HK.out hB5)
          have HB5 := Lib.hid hB5
          have HBW5 := Lib.hid (HB0.out.trans (hB5.mono hz1))
          have u9 := HY5.out.at_ 9 rfl
          have u11 := HY5.out.at_ 11 rfl
          have u13 := HY5.out.at_ 13 rfl
          have hz5 := hB5.size
          clear hB5 y9 y11 y13
          by_cases hjl : j < M.length
          · have hdj : decide ((j : Int) < (M.length : Int)) = true := decide_eq_true (by omega)
            obtain ⟨n, hn⟩ := el_some hjl
            have hrg := nodesR_rng (has_nodes HTR.out hjl) hn
            obtain ⟨m, rfl⟩ : ∃ m : Nat, n = (m : Int) := ⟨n.toNat, by omega⟩
            have hm6 : m < 6 := by omega
            have HN := Lib.hid hn
            obtain ⟨gm, om, us5, rfl, hgm, hum, hrm⟩ := HM5.out.at_ hn
            obtain rfl : us5 = [_] := hrm
            have em : wr.cell? ⟨gm, om + j, none⟩ = some (.int .i64 (m : Int)) := by simpa [show I.size = 1 from rfl] using hum 0 _ rfl
            obtain ⟨c, hc1, hc2, hc3⟩ := HU5.out.get hm6
            have HC3 := Lib.hid hc3
            have hj0 : (0 : Int) ≤ (j : Int) := Int.natCast_nonneg _
            have hj1 : (j : Int) < (M.length : Int) := by omega
            have hm0 : (0 : Int) ≤ (m : Int) := Int.natCast_nonneg _
            have hm1 : (m : Int) < 6 := by omega
            have HNOT := Lib.hid (show ¬ ((m : Int) ∈ M.take j) from fun h => by
              obtain ⟨q, hq, he⟩ := List.mem_iff_getElem.1 h
              have hqj : q < j := by have := hq; rw [List.length_take, Nat.min_eq_left (Nat.le_of_lt hjl)] at this; exact this
              rw [List.getElem_take] at he
              have hql : q < M.length := by omega
              have hqe : M[q]? = some (m : Int) := by rw [← he]; exact List.getElem?_eq_getElem hql
              have := nodesR_once (has_nodes HTR.out hjl) (i := q) (j := j) hqe hn
              omega)
            clear hn hum hgm hc3 hrg
            cases c with
            | true =>
              have HV := Lib.hid (show ¬ YardR ((C, P, Q, hf), N, T, U, now) from fun h => by have h2 := (h.2.2.2.2.2.2.1 k _ hlt HX.out).2 HS2.out _ (List.mem_of_getElem? HN.out); rcases HC3.out.1 rfl with h3 | h3; exact h2 h3; exact HNOT.out h3)
              go_wp2
              go_ret
              exact resB_no HV.out HBW5.out
            | false =>
              have HFREE := Lib.hid (show ¬ takenT T k (m : Int) from fun h => by have := HC3.out.2 (.inl h); cases this)
              have HNT2 := Lib.hid (show ∀ (q : Nat) (n : Int), q < j + 1 → M[q]? = some n → ¬ takenT T k n from fun q n hq hn => by
                by_cases e : q = j
                · subst e; rw [HN.out] at hn; cases hn; exact HFREE.out
                · exact HNT.out q n (by omega) hn)
              have HU6 := Lib.hid ((HU5.out.put hm6).more (q := fun n => takenT T k n ∨ n ∈ M.take (j + 1)) fun i _ => by
                rw [List.take_add_one, HN.out]
                simp only [Option.toList_some, List.mem_append, List.mem_singleton]
                exact or_assoc)
              have HY6 := Lib.hid (HY5.out.far (b := gu) (o := m) (by have h1 := HUS.out.lt; omega) (.bool true))
              have HB6 := Lib.hid (HB5.out.setCell (p := ⟨gu, m, none⟩) (by show v5.heap.size ≤ gu; rw [HGU.out]; exact Nat.le_refl _) (.bool true))
              go_wp2
              go_roundw
              case rel => exact ⟨j + 1, by omega, by go_num, HU6, HNT2, HY6, HB6.out⟩
              case measure => simp [intOf]; omega
          · have hdj : decide ((j : Int) < (M.length : Int)) = false := decide_eq_false (by omega)
            obtain rfl : j = M.length := by omega
            have HOK := Lib.hid (show okY C now T k ((x0, x1), x2, x3, x4, x5, x6, (x7, x8), x9, x10, x11, x12, M) from ⟨HFIT.out, fun _ n hn => by
              obtain ⟨q, hq, rfl⟩ := List.mem_iff_getElem.1 hn
              exact HNT.out q _ hq (List.getElem?_eq_getElem hq)⟩)
            have HFT2 := Lib.hid (fitTo_step HFT.out HX.out HOK.out)
            have HU7 := Lib.hid (HU5.out.more (q := fun n => takenT T (k + 1) n) fun i _ => by
              rw [takenT_step HX.out, List.take_length]
              exact ⟨fun h => h.imp id fun h => ⟨HS2.out, h⟩, fun h => h.imp id fun h => h.2⟩)
            go_wp2
            go_roundw
            case rel => exact ⟨k + 1, by omega, by go_num, HFT2, HU7, HB5.out⟩
            case measure => simp [intOf]; omega
      · have hs2' : (x11 == 2) = false := beq_eq_false_iff_ne.2 hs2
        have HOK := Lib.hid (show okY C now T k ((x0, x1), x2, x3, x4, x5, x6, (x7, x8), x9, x10, x11, x12, M) from ⟨HFIT.out, fun h => absurd h hs2⟩)
        have HFT2 := Lib.hid (fitTo_step HFT.out HX.out HOK.out)
        have HU7 := Lib.hid (HUS3.out.more (q := fun n => takenT T (k + 1) n) fun i _ => by
          rw [takenT_step HX.out]
          exact ⟨fun h => .inl h, fun h => h.elim id fun h => absurd h.1 hs2⟩)
        clear hs2
        go_wp2
        go_loopw [6] (fun i wr => i = .int .i64 0 ∧ wr = w3) (fun i _ => 0)
        case atStart => exact ⟨rfl, rfl⟩
        case round =>
          obtain ⟨rfl, rfl⟩ := hrel
          by_cases hM0 : 0 < M.length
          · have hdM : decide ((0 : Int) < (M.length : Int)) = true := decide_eq_true (by omega)
            go_wp2
            go_roundw
            case rel => exact ⟨k + 1, by omega, by go_num, HFT2, HU7, HB3.out⟩
            case measure => simp [intOf]; omega
          · have hdM : decide ((0 : Int) < (M.length : Int)) = false := decide_eq_false (by omega)
            go_wp2
            go_roundw
            case rel => exact ⟨k + 1, by omega, by go_num, HFT2, HU7, HB3.out⟩
            case measure => simp [intOf]; omega
    · have hdl : decide ((k : Int) < (T.length : Int)) = false := decide_eq_false (by omega)
      obtain rfl : k = T.length := by omega
      have HCo := Lib.hid (rd_mv (Sl_ok R_Label_ok) HC.out hB)
      have HPo := Lib.hid (rd_mv R_Pair_ok HP.out hB)
      have HQo := Lib.hid (rd_mv R_Quota_ok HQ.out hB)
      have HTo := Lib.hid (rd_mv R_Task_ok HT.out hB)
      have HUo := Lib.hid (rd_mv R_Use_ok HU.out hB)
      obtain ⟨K, hK⟩ : ∃ K, labsOf C = K := ⟨_, rfl⟩
      have HKK := Lib.hid hK
      clear hB hK
      have q0 := Z0.out.at_ 0 rfl
      go_wp2_with fail
      have hlb := labs_spec HCo.out
      rw [HKK.out] at hlb
      refine hlb.mono ?_
      intro e w6 h
      obtain ⟨la, lc, rfl, ho, hb⟩ := newS_elim h
      have HL := Lib.hid (ho.rd R_Label_ok (B := w6.heap.size) fun k hk => hk.2)
      have HBL := Lib.hid (HBW.out.trans (hb.mono HBW.out.size))
      have Z6 := Lib.hid (Z0.out.call hb)
      have HC6 := Lib.hid (rd_mv (Sl_ok R_Label_ok) HCo.out hb)
      have HP6 := Lib.hid (rd_mv R_Pair_ok HPo.out hb)
      have HQ6 := Lib.hid (rd_mv R_Quota_ok HQo.out hb)
      have HT6 := Lib.hid (rd_mv R_Task_ok HTo.out hb)
      have HU6 := Lib.hid (rd_mv R_Use_ok HUo.out hb)
      have hKn : K.length ≤ 8 := by rw [← HKK.out]; exact HPRE.out.cfg.2.2.1
      have hz6 := HBL.out.size
      clear h ho hlb hb q0 q5
      have q6 := Z6.out.at_ 6 rfl
      go_wp2
      go_loopw [8] (fun i wr => ∃ j : Nat, j ≤ U.length ∧ i = .int .i64 j ∧ Hid (∀ (q : Nat) u, q < j → U[q]? = some u → u.1 ∈ K) ∧ Below w6.heap.size w6 wr) (fun i _ => U.length - (intOf i).toNat)
      case atStart => exact ⟨0, Nat.zero_le _, rfl, Lib.hid fun q u h => absurd h (Nat.not_lt_zero _), Below.refl _ _⟩
      case round =>
        obtain ⟨j, hj, rfl, HA, hB⟩ := hrel
        obtain ⟨wp, rfl⟩ : ∃ x, x = wr := ⟨_, rfl⟩
        have HBj := Lib.hid hB
        have HBWj := Lib.hid (HBL.out.trans (hB.mono hz6))
        have Zj := Lib.hid (Z6.out.call hB)
        have r6 := Zj.out.at_ 6 rfl
        by_cases hjl : j < U.length
        · have hdj : decide ((j : Int) < (U.length : Int)) = true := decide_eq_true (by omega)
          obtain ⟨⟨⟨u0, u1⟩, u2, u3⟩, hu⟩ := el_some hjl
          have HX2 := Lib.hid hu
          obtain ⟨gq, oq, usq, rfl, hgq, huq, hrq⟩ := (rd_mv R_Use_ok HU6.out hB).at_ hu
          obtain ⟨rfl, _⟩ := rd_Use hrq
          have e0 : wp.cell? ⟨gq, oq + j * 4, none⟩ = some (.int .i64 u0) := by simpa [size_UseS, Nat.add_assoc] using huq 0 _ rfl
          have e1 : wp.cell? ⟨gq, oq + j * 4 + 1, none⟩ = some (.int .i64 u1) := by simpa [size_UseS, Nat.add_assoc] using huq 1 _ rfl
          have hj0 : (0 : Int) ≤ (j : Int) := Int.natCast_nonneg _
          have hj1 : (j : Int) < (U.length : Int) := by omega
          have HLj := Lib.hid (rd_mv R_Label_ok HL.out hB)
          clear hB hu huq hgq q6
          go_wp2_with fail
          refine (cleared_spec HLj.out).mono ?_
          intro e w7 h
          obtain ⟨b, rfl, hb, hbl⟩ := resB_elim h
          have HMB := Lib.hid hb
          have HB7 := Lib.hid (HBj.out.trans (hbl.mono HBj.out.size))
          have HBW7 := Lib.hid (HBWj.out.trans (hbl.mono HBWj.out.size))
          clear h hb hbl e0 e1 r6
          cases b with
          | false =>
            have HV := Lib.hid (show ¬ YardR ((C, P, Q, hf), N, T, U, now) from fun h => by have h2 := h.2.2.2.2.2.2.2.1 _ _ HX2.out; rw [HKK.out] at h2; have := HMB.out.2 h2; cases this)
            go_wp2
            go_ret
            exact resB_no HV.out HBW7.out
          | true =>
            have HA2 := Lib.hid (show ∀ (q : Nat) u, q < j + 1 → U[q]? = some u → u.1 ∈ K from fun q u hq hu => by
              by_cases e : q = j
              · subst e; rw [HX2.out] at hu; cases hu; exact HMB.out.1 rfl
              · exact HA.out q u (by omega) hu)
            go_wp2
            go_roundw
            case rel => exact ⟨j + 1, by omega, by go_num, HA2, HB7.out⟩
            case measure => simp [intOf]; omega
        · have hdj : decide ((j : Int) < (U.length : Int)) = false := decide_eq_false (by omega)
          obtain rfl : j = U.length := by omega
          have HC7 := Lib.hid (rd_mv (Sl_ok R_Label_ok) HC6.out hB)
          have HP7 := Lib.hid (rd_mv R_Pair_ok HP6.out hB)
          have HQ7 := Lib.hid (rd_mv R_Quota_ok HQ6.out hB)
          have HT7 := Lib.hid (rd_mv R_Task_ok HT6.out hB)
          have HL7 := Lib.hid (rd_mv R_Label_ok HL.out hB)
          have HUI := Lib.hid (show usesIn C U from fun i u hu => by rw [HKK.out]; exact HA.out i u (List.getElem?_eq_some_iff.1 hu).1 hu)
          have hzp := HBWj.out.size
          clear hB q6
          go_wp2
          go_loopw [9] (fun i wr => ∃ j : Nat, j ≤ K.length ∧ i = .int .i64 j ∧ Hid (∀ (q : Nat) a, q < j → K[q]? = some a → (liveTo T a T.length : Int) ≤ quotaIn Q a) ∧ Below wp.heap.size wp wr) (fun i _ => K.length - (intOf i).toNat)
          case atStart => exact ⟨0, Nat.zero_le _, rfl, Lib.hid fun q u h => absurd h (Nat.not_lt_zero _), Below.refl _ _⟩
          case round =>
            obtain ⟨i, hi, rfl, HQA, hB⟩ := hrel
            have HBi := Lib.hid hB
            have hszi := hB.size
            have HBWi := Lib.hid (HBWj.out.trans (hB.mono hzp))
            have Zi := Lib.hid (Zj.out.call hB)
            by_cases hil : i < K.length
            · have hdi : decide ((i : Int) < (K.length : Int)) = true := decide_eq_true (by omega)
              obtain ⟨⟨l0, l1⟩, hl⟩ := el_some hil
              have HX3 := Lib.hid hl
              obtain ⟨gl, ol, usl, rfl, hgl, hul, hrl⟩ := (rd_mv R_Label_ok HL7.out hB).at_ hl
              obtain rfl := rd_Label hrl
              have e0 : wr.cell? ⟨gl, ol + i * 2, none⟩ = some (.int .i64 l0) := by simpa [size_LabelS, Nat.add_assoc] using hul 0 _ rfl
              have e1 : wr.cell? ⟨gl, ol + i * 2 + 1, none⟩ = some (.int .i64 l1) := by simpa [size_LabelS, Nat.add_assoc] using hul 1 _ rfl
              have HE0 := Lib.hid e0
              have HE1 := Lib.hid e1
              have HGL := Lib.hid hgl
              have hi0 : (0 : Int) ≤ (i : Int) := Int.natCast_nonneg _
              have hi1 : (i : Int) < (K.length : Int) := by omega
              have HCi := Lib.hid (rd_mv (Sl_ok R_Label_ok) HC7.out hB)
              have HPi := Lib.hid (rd_mv R_Pair_ok HP7.out hB)
              have HQi := Lib.hid (rd_mv R_Quota_ok HQ7.out hB)
              have HTi := Lib.hid (rd_mv R_Task_ok HT7.out hB)
              obtain ⟨n1, hn1⟩ : ∃ n, liveTo T (l0, l1) T.length = n := ⟨_, rfl⟩
              obtain ⟨n2, hn2⟩ : ∃ n, quotaIn Q (l0, l1) = n := ⟨_, rfl⟩
              have HL1 := Lib.hid (show liveOf T (l0, l1) = (n1 : Int) from by rw [liveOf_yes (tasksB_iff.2 HPRE.out.tas), hn1])
              have HL2 := Lib.hid (show quotaV C P Q hf (l0, l1) = n2 from by rw [quotaV_at HPRE.out.cfg (by rw [HKK.out]; exact List.mem_of_getElem? hl), hn2])
              have HN1 := Lib.hid hn1
              have HN2 := Lib.hid hn2
              obtain ⟨c, hc⟩ : ∃ c, decide (n2 < (n1 : Int)) = c := ⟨_, rfl⟩
              clear hB hl hul hgl hn1 hn2 e0 e1
              go_upto_region 25 with fail
              refine wp_region_held_drew (S := (fun V => Below (wr).heap.size (wr) V)) (by kernel_rfl) ((Below.refl _ _).drew) (fun hHeld => ?_)
              refine tk 0 hHeld ?_
              refine tk 1 hHeld ?_ (hy := fun w hSw => by (try dsimp only at hSw); have k0 := (hSw.cell (p := ⟨W.heap.size, 5, none⟩) Zi.out.lt).trans (Zi.out.at_ 5 rfl); clear hSw; go_simp; try with_reducible rfl)
              refine tk 2 hHeld ?_
              refine tk 3 hHeld ?_
              refine tk 4 hHeld ?_
              refine tk 5 hHeld ?_ (hy := fun w hSw => by (try dsimp only at hSw); have k0 := (hSw.cell (p := ⟨gl, ol + i * 2, none⟩) HGL.out).trans HE0.out; have k1 := (hSw.cell (p := ⟨gl, ol + i * 2 + 1, none⟩) HGL.out).trans HE1.out; clear hSw; go_simp; try with_reducible rfl)
              refine tk 7 hHeld ?_
              refine tk 8 hHeld ?_ (hy := fun w hSw => by (try dsimp only at hSw); have k0 := (hSw.cell (p := ⟨W.heap.size, 0, none⟩) Zi.out.lt).trans (Zi.out.at_ 0 rfl); have k1 := (hSw.cell (p := ⟨W.heap.size, 1, none⟩) Zi.out.lt).trans (Zi.out.at_ 1 rfl); have k2 := (hSw.cell (p := ⟨W.heap.size, 2, none⟩) Zi.out.lt).trans (Zi.out.at_ 2 rfl); have k3 := (hSw.cell (p := ⟨W.heap.size, 3, none⟩) Zi.out.lt).trans (Zi.out.at_ 3 rfl); clear hSw; go_simp; try with_reducible rfl)
              refine tk 9 hHeld ?_
              refine tk 10 hHeld ?_
              refine tk 11 hHeld ?_
              refine tk 12 hHeld ?_ (hy := fun w hSw => by (try dsimp only at hSw); have k0 := (hSw.cell (p := ⟨gl, ol + i * 2, none⟩) HGL.out).trans HE0.out; have k1 := (hSw.cell (p := ⟨gl, ol + i * 2 + 1, none⟩) HGL.out).trans HE1.out; clear hSw; go_simp; try with_reducible rfl)
              refine rd1 6 (fun K hK => ?_)
              go_simp
              go_at_call 51
              have hlv := live_spec (l0 := l0) (l1 := l1) (rd_mv R_Task_ok HTi.out hHeld)
              unfold OfL at hlv
              rw [HL1.out] at hlv
              refine hlv.mono ?_
              rintro e w8 ⟨rfl, hb⟩
              clear hlv
              refine hK.out _ _ (hHeld.trans (hb.mono hHeld.size)) (fun hHeld => ?_)
              clear hK K hb
              refine rd1 13 (fun K hK => ?_)
              go_simp
              go_at_call 52
              have hqv := quotaof_spec (l := l0) (s := l1) (hf := hf) (rd_mv (Sl_ok R_Label_ok) HCi.out hHeld) (rd_mv R_Pair_ok HPi.out hHeld) (rd_mv R_Quota_ok HQi.out hHeld)
              rw [HL2.out] at hqv
              refine hqv.mono ?_
              intro e w9 h
              obtain ⟨rfl, hb⟩ := isI_elim h
              clear h hqv
              refine hK.out _ _ (hHeld.trans (hb.mono hHeld.size)) (fun hHeld => ?_)
              clear hK K hb
              refine tk 14 hHeld ?_
              refine rd0 ?_
              have HF := Lib.hid hHeld
              clear hHeld
              have HB8 := Lib.hid (HBi.out.trans (HF.out.mono hszi))
              have HBW8 := Lib.hid (HBWi.out.trans (HF.out.mono HBWi.out.size))
              clear HF
              cases c with
              | true =>
                have HV := Lib.hid (show ¬ YardR ((C, P, Q, hf), N, T, U, now) from fun h => by have h2 := h.2.2.2.2.2.2.2.2 i (l0, l1) (by rw [HKK.out]; exact HX3.out); rw [HN1.out, HN2.out] at h2; have := of_decide_eq_true hc; omega)
                go_wp2
                go_ret
                exact resB_no HV.out HBW8.out
              | false =>
                have HQA2 := Lib.hid (show ∀ (q : Nat) a, q < i + 1 → K[q]? = some a → (liveTo T a T.length : Int) ≤ quotaIn Q a from fun q a hq ha => by
                  by_cases e : q = i
                  · subst e; rw [HX3.out] at ha; cases ha; rw [HN1.out, HN2.out]; have := of_decide_eq_false hc; omega
                  · exact HQA.out q a (by omega) ha)
                clear hc
                go_wp2
                go_roundw
                case rel => exact ⟨i + 1, by omega, by go_num, HQA2, HB8.out⟩
                case measure => simp [intOf]; omega
            · have hdi : decide ((i : Int) < (K.length : Int)) = false := decide_eq_false (by omega)
              obtain rfl : i = K.length := by omega
              clear hB
              have HV := Lib.hid (show YardR ((C, P, Q, hf), N, T, U, now) from ⟨HPRE.out.now, HPRE.out.cfg, HPRE.out.nds, HPRE.out.len, HPRE.out.tas, HPRE.out.use, HFT.out, HUI.out, fun q a ha => by rw [HKK.out] at ha; exact HQA.out q a (List.getElem?_eq_some_iff.1 ha).1 ha⟩)
              go_wp2
              go_ret
              exact resB_yes HV.out HBWi.out
end Go.Proofs.YtelhmacfljffhabGreat.RepC
end
