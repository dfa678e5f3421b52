/- ConfigRight, LabelsOf in the program: contracts. -/
import Derived.Test.YtmmnkdilnlhbfaaCfV
import Derived.Test.YtmmnkdilnlhbfaaCfI3
namespace Go.Proofs.Ytmmnkdilnlhbfaa.RepC
open Go.RowKit RowC ValC SpanC KeptC CfC
set_option linter.unusedVariables false
set_option linter.unusedSimpArgs false

set_option maxRecDepth 100000 in
set_option maxHeartbeats 1600000 in
theorem config_impl {C : List (List D_Label)} {P : List D_Pair} {Q : List D_Quota} {hf : Int} {ca pa qa : Option Addr} {cc pc qc : Nat} {W : World} (hC : RdSl (Sl R_Label) W W.heap.size C ca cc) (hP : RdSl R_Pair W W.heap.size P pa pc) (hQ : RdSl R_Quota W W.heap.size Q qa qc) :
    Calls Try.prog 46 #[.agg #[.slice ca C.length cc, .slice pa P.length pc, .slice qa Q.length qc, .int .i64 hf]] W (IsB (cfgB C P Q hf) W) := by
  obtain ⟨z, hz⟩ : ∃ z, cfgB C P Q hf = z := ⟨_, rfl⟩
  have HZ := Lib.hid (show z = true ↔ CfgR C P Q hf from by rw [← hz]; exact cfgB_iff)
  rw [hz]
  clear hz
  refine Calls.mono ?_ fun e w' h => resB_at HZ.out h
  obtain ⟨zh, hzh⟩ : ∃ z, isB hf 1 9 = z := ⟨_, rfl⟩
  have HH := Lib.hid hzh
  clear hzh HZ
  obtain ⟨M, hM⟩ : ∃ M, labsOf C = M := ⟨_, rfl⟩
  have HMr := Lib.hid (show ∀ a ∈ M, LabC.rP a.1 a.2 from by rw [← hM]; exact fun a ha => (mem_labs.1 ha).1)
  have HMs := Lib.hid (show M.Pairwise ltB from by rw [← hM]; exact labs_sorted C 32)
  have HM := Lib.hid hM
  clear hM
  obtain ⟨w0, hw0⟩ : ∃ w, w = W.alloc (.cells #[.slice ca C.length cc, .slice pa P.length pc, .slice qa Q.length qc, .int .i64 hf] 36) := ⟨_, rfl⟩
  have hb0 : Below W.heap.size W w0 := by rw [hw0]; exact (Below.refl _ _).alloc (Nat.le_refl _) _
  have x0 : Blk w0 (W.heap.size) 36 #[.slice ca C.length cc, .slice pa P.length pc, .slice qa Q.length qc, .int .i64 hf] := by
    have h9 := Blk.new W 36 #[.slice ca C.length cc, .slice pa P.length pc, .slice qa Q.length qc, .int .i64 hf]
    try simp only [World.size_alloc] at h9
    rw [hw0]; exact h9
  have X0 := Lib.hid x0
  have HC := Lib.hid (rd_mv (Sl_ok R_Label_ok) hC hb0)
  have HP := Lib.hid (rd_mv R_Pair_ok hP hb0)
  have HQ := Lib.hid (rd_mv R_Quota_ok hQ hb0)
  have HB0 := Lib.hid hb0
  have hz0 := hb0.size
  clear hb0 hC hP hQ x0
  go_enter Try.func46, Try.ntmps46
  have qX0_0 := X0.out.at_ 0 rfl
  have qX0_1 := X0.out.at_ 1 rfl
  have qX0_2 := X0.out.at_ 2 rfl
  have qX0_3 := X0.out.at_ 3 rfl
  go_wp2_with fail
  rw [← hw0]
  clear hw0
  refine (clearright_impl HC.out).mono ?_
  intro e v1 h
  obtain ⟨z1, rfl, hz1, hb1⟩ := resB_elim h
  have HZ1 := Lib.hid hz1
  have HC := Lib.hid (rd_mv (Sl_ok R_Label_ok) HC.out hb1)
  have HP := Lib.hid (rd_mv R_Pair_ok HP.out hb1)
  have HQ := Lib.hid (rd_mv R_Quota_ok HQ.out hb1)
  have X0 := Lib.hid (X0.out.call hb1)
  have HB0 := Lib.hid (HB0.out.trans (hb1.mono HB0.out.size))
  clear h hz1 hb1 qX0_0 qX0_1 qX0_2 qX0_3
  have qX0_0 := X0.out.at_ 0 rfl
  have qX0_1 := X0.out.at_ 1 rfl
  have qX0_2 := X0.out.at_ 2 rfl
  have qX0_3 := X0.out.at_ 3 rfl
  cases z1 with
  | false =>
    have HN := Lib.hid (show ¬ CfgR C P Q hf from fun h => by have := HZ1.out.2 (h.1); cases this)
    go_wp2
    go_ret
    exact resB_no HN.out HB0.out
  | true =>
  have HY1 := Lib.hid (HZ1.out.1 rfl)
  go_wp2_with fail
  have hlb := labs_impl HY1.out HC.out
  rw [HM.out] at hlb
  refine hlb.mono ?_
  intro e v2 h
  obtain ⟨la, lc, rfl, ho, hb2⟩ := newS_elim h
  have HL := Lib.hid (ho.rd R_Label_ok (B := v2.heap.size) fun k hk => hk.2)
  have HC := Lib.hid (rd_mv (Sl_ok R_Label_ok) HC.out hb2)
  have HP := Lib.hid (rd_mv R_Pair_ok HP.out hb2)
  have HQ := Lib.hid (rd_mv R_Quota_ok HQ.out hb2)
  have X0 := Lib.hid (X0.out.call hb2)
  have HB0 := Lib.hid (HB0.out.trans (hb2.mono HB0.out.size))
  clear h ho hlb hb2 qX0_0 qX0_1 qX0_2 qX0_3
  have qX0_0 := X0.out.at_ 0 rfl
  have qX0_1 := X0.out.at_ 1 rfl
  have qX0_2 := X0.out.at_ 2 rfl
  have qX0_3 := X0.out.at_ 3 rfl
  by_cases h8 : M.length ≤ 8
  rotate_left
  · have hd : decide ((M.length : Int) ≤ 8) = false := decide_eq_false (by omega)
    have hd' : decide (M.length ≤ 8) = false := decide_eq_false h8
    have HN := Lib.hid (show ¬ CfgR C P Q hf from fun h => h8 (by rw [← HM.out]; exact h.2.2.1))
    go_wp2
    go_ret
    exact resB_no HN.out HB0.out
  have hd : decide ((M.length : Int) ≤ 8) = true := decide_eq_true (by omega)
  have hd' : decide (M.length ≤ 8) = true := decide_eq_true h8
  go_wp2_with fail
  refine (pairs_impl HMr.out HL.out HP.out).mono ?_
  intro e v3 h
  obtain ⟨z3, rfl, hz3, hb3⟩ := resB_elim h
  have HZ3 := Lib.hid hz3
  have HC := Lib.hid (rd_mv (Sl_ok R_Label_ok) HC.out hb3)
  have HP := Lib.hid (rd_mv R_Pair_ok HP.out hb3)
  have HQ := Lib.hid (rd_mv R_Quota_ok HQ.out hb3)
  have HL := Lib.hid (rd_mv R_Label_ok HL.out hb3)
  have X0 := Lib.hid (X0.out.call hb3)
  have HB0 := Lib.hid (HB0.out.trans (hb3.mono HB0.out.size))
  clear h hz3 hb3 qX0_0 qX0_1 qX0_2 qX0_3
  have qX0_0 := X0.out.at_ 0 rfl
  have qX0_1 := X0.out.at_ 1 rfl
  have qX0_2 := X0.out.at_ 2 rfl
  have qX0_3 := X0.out.at_ 3 rfl
  cases z3 with
  | false =>
    have HN := Lib.hid (show ¬ CfgR C P Q hf from fun h => by have := HZ3.out.2 (by rw [← HM.out]; exact h.2.2.2.1); cases this)
    go_wp2
    go_ret
    exact resB_no HN.out HB0.out
  | true =>
  have HY3 := Lib.hid (HZ3.out.1 rfl)
  go_wp2_with fail
  refine (quotas_impl HL.out HQ.out).mono ?_
  intro e v4 h
  obtain ⟨z4, rfl, hz4, hb4⟩ := resB_elim h
  have HZ4 := Lib.hid hz4
  have HC := Lib.hid (rd_mv (Sl_ok R_Label_ok) HC.out hb4)
  have HP := Lib.hid (rd_mv R_Pair_ok HP.out hb4)
  have HQ := Lib.hid (rd_mv R_Quota_ok HQ.out hb4)
  have HL := Lib.hid (rd_mv R_Label_ok HL.out hb4)
  have X0 := Lib.hid (X0.out.call hb4)
  have HB0 := Lib.hid (HB0.out.trans (hb4.mono HB0.out.size))
  clear h hz4 hb4 qX0_0 qX0_1 qX0_2 qX0_3
  have qX0_0 := X0.out.at_ 0 rfl
  have qX0_1 := X0.out.at_ 1 rfl
  have qX0_2 := X0.out.at_ 2 rfl
  have qX0_3 := X0.out.at_ 3 rfl
  cases z4 with
  | false =>
    have HN := Lib.hid (show ¬ CfgR C P Q hf from fun h => by have := HZ4.out.2 (by rw [← HM.out]; exact h.2.2.2.2); cases this)
    go_wp2
    go_ret
    exact resB_no HN.out HB0.out
  | true =>
  have HY4 := Lib.hid (HZ4.out.1 rfl)
  go_wp2_with fail
  refine (wi_at _ _ _ HH.out _).mono ?_
  rintro e w9 ⟨rfl, rfl⟩
  cases zh with
  | false =>
    have HN := Lib.hid (show ¬ CfgR C P Q hf from fun h => by have := h.2.1; rw [HH.out] at this; cases this)
    go_wp2
    go_ret
    exact resB_no HN.out HB0.out
  | true =>
  have HY := Lib.hid (show CfgR C P Q hf from ⟨HY1.out, HH.out, by rw [HM.out]; exact h8, by rw [HM.out]; exact HY3.out, by rw [HM.out]; exact HY4.out⟩)
  go_wp2
  go_ret
  exact resB_yes HY.out HB0.out
set_option maxRecDepth 100000 in
set_option maxHeartbeats 1600000 in
theorem labelsof_impl {C : List (List D_Label)} {P : List D_Pair} {Q : List D_Quota} {hf : Int} {ca pa qa : Option Addr} {cc pc qc : Nat} {W : World} (hC : RdSl (Sl R_Label) W W.heap.size C ca cc) (hP : RdSl R_Pair W W.heap.size P pa pc) (hQ : RdSl R_Quota W W.heap.size Q qa qc) :
    Calls Try.prog 56 #[.agg #[.slice ca C.length cc, .slice pa P.length pc, .slice qa Q.length qc, .int .i64 hf]] W (NewS R_Label (labsV C P Q hf) W) := by
  obtain ⟨M, hM⟩ : ∃ M, labsV C P Q hf = M := ⟨_, rfl⟩
  have HM := Lib.hid hM
  rw [hM]
  clear hM
  obtain ⟨z, hz⟩ : ∃ z, cfgB C P Q hf = z := ⟨_, rfl⟩
  have HZ := Lib.hid hz
  clear hz
  obtain ⟨w0, hw0⟩ : ∃ w, w = W.alloc (.cells #[.slice ca C.length cc, .slice pa P.length pc, .slice qa Q.length qc, .int .i64 hf] 36) := ⟨_, rfl⟩
  have hb0 : Below W.heap.size W w0 := by rw [hw0]; exact (Below.refl _ _).alloc (Nat.le_refl _) _
  have x0 : Blk w0 (W.heap.size) 36 #[.slice ca C.length cc, .slice pa P.length pc, .slice qa Q.length qc, .int .i64 hf] := by
    have h9 := Blk.new W 36 #[.slice ca C.length cc, .slice pa P.length pc, .slice qa Q.length qc, .int .i64 hf]
    try simp only [World.size_alloc] at h9
    rw [hw0]; exact h9
  have X0 := Lib.hid x0
  have HC := Lib.hid (rd_mv (Sl_ok R_Label_ok) hC hb0)
  have HP := Lib.hid (rd_mv R_Pair_ok hP hb0)
  have HQ := Lib.hid (rd_mv R_Quota_ok hQ hb0)
  have HB0 := Lib.hid hb0
  have hz0 := hb0.size
  clear hb0 hC hP hQ x0
  go_enter Try.func56, Try.ntmps56
  have qX0_0 := X0.out.at_ 0 rfl
  have qX0_1 := X0.out.at_ 1 rfl
  have qX0_2 := X0.out.at_ 2 rfl
  have qX0_3 := X0.out.at_ 3 rfl
  go_wp2_with fail
  rw [← hw0]
  clear hw0
  have hcf := config_impl HC.out HP.out HQ.out (hf := hf)
  rw [HZ.out] at hcf
  refine hcf.mono ?_
  intro e v1 h
  obtain ⟨rfl, hb⟩ := isB_elim h
  have HC := Lib.hid (rd_mv (Sl_ok R_Label_ok) HC.out hb)
  have HP := Lib.hid (rd_mv R_Pair_ok HP.out hb)
  have HQ := Lib.hid (rd_mv R_Quota_ok HQ.out hb)
  have X0 := Lib.hid (X0.out.call hb)
  have HB0 := Lib.hid (HB0.out.trans (hb.mono HB0.out.size))
  clear h hb hcf qX0_0 qX0_1 qX0_2 qX0_3
  have qX0_0 := X0.out.at_ 0 rfl
  have qX0_1 := X0.out.at_ 1 rfl
  have qX0_2 := X0.out.at_ 2 rfl
  have qX0_3 := X0.out.at_ 3 rfl
  cases z with
  | false =>
    have HE := Lib.hid (show M = [] from by rw [← HM.out]; unfold labsV; rw [HZ.out]; rfl)
    obtain rfl := HE.out
    go_wp2
    go_ret
    exact ⟨_, _, rfl, ⟨Nat.le_refl _, by unfold maxLen; omega, fun h => absurd h (Nat.lt_irrefl _)⟩, HB0.out⟩
  | true =>
  have HE := Lib.hid (show M = labsOf C from by rw [← HM.out]; unfold labsV; rw [HZ.out]; rfl)
  have HCL := Lib.hid (cfgB_iff.1 HZ.out).1
  go_wp2_with fail
  have hlb := labs_impl HCL.out HC.out
  rw [← HE.out] at hlb
  refine hlb.mono ?_
  intro e v2 h
  obtain ⟨la, lc, rfl, ho, hb⟩ := newS_elim h
  have HO := Lib.hid (ho.more fun k (hk : Rg v1.heap.size v2.heap.size k) => (⟨Nat.le_trans HB0.out.size hk.1, hk.2⟩ : Rg W.heap.size v2.heap.size k))
  have HB1 := Lib.hid (HB0.out.trans (hb.mono HB0.out.size))
  clear h ho hb hlb
  go_wp2
  go_ret
  exact ⟨_, _, rfl, HO.out, HB1.out⟩
end Go.Proofs.Ytmmnkdilnlhbfaa.RepC
