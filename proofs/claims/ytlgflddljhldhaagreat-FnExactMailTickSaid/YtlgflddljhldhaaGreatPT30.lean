/- Of this claim's texts the part 30: MlTi. -/
import Derived.Test.YtlgflddljhldhaaGreatPT28
import Derived.Test.YtlgflddljhldhaaGreatPT29
section
namespace Go.Proofs.YtlgflddljhldhaaGreat.RepC
open Go.RowKit RowC ValC SpanC KeptC CfC
set_option linter.unusedVariables false
set_option linter.unusedSimpArgs false
set_option maxRecDepth 100000 in
set_option maxHeartbeats 6400000 in
theorem mtick_impl {C : List (List D_Label)} {P : List D_Pair} {Q : List D_Quota} {hf : Int} {ca pa qa : Option Addr} {cc pc qc : Nat} {M : List D_Box} {xa : Option Addr} {xc : Nat} {W : World} (hC : RdSl (Sl R_Label) W W.heap.size C ca cc) (hP : RdSl R_Pair W W.heap.size P pa pc) (hQ : RdSl R_Quota W W.heap.size Q qa qc) (hX : RdSl R_Box W W.heap.size M xa xc) :
    Calls Tryz.prog 25 #[.agg #[.slice ca C.length cc, .slice pa P.length pc, .slice qa Q.length qc, .int .i64 hf], .agg #[.slice xa M.length xc]] W (NewV R_MailOut (tickV (C, P, Q, hf) M) W) := by
  have hnM : M.length ≤ 9223372036854775807 := by have h1 := hX.1; have h2 := hX.2.1; unfold maxLen at h2; omega
  have hnP : P.length ≤ 9223372036854775807 := by have h1 := hP.1; have h2 := hP.2.1; unfold maxLen at h2; omega
  obtain ⟨b0, hb0⟩ : ∃ b, mailB (C, P, Q, hf) M = b := ⟨_, rfl⟩
  have Hb0 := Lib.hid hb0
  clear hb0
  obtain ⟨w0, hw0⟩ : ∃ w, w = ((W.alloc (.cells #[.slice ca C.length cc, .slice pa P.length pc, .slice qa Q.length qc, .int .i64 hf] 44)).alloc (.cells #[.slice xa M.length xc] 36)).alloc (.cells #[.slice none 0 0, .int .i64 0] 38) := ⟨_, rfl⟩
  have hb0 : Below W.heap.size W w0 := by rw [hw0]; exact (((Below.refl _ _).alloc (Nat.le_refl _) _).alloc (by simp) _).alloc (by simp <;> omega) _
  have x0_ : Blk w0 (W.heap.size) 44 #[.slice ca C.length cc, .slice pa P.length pc, .slice qa Q.length qc, .int .i64 hf] := by
    have h9 := Blk.new W 44 #[.slice ca C.length cc, .slice pa P.length pc, .slice qa Q.length qc, .int .i64 hf]
    try simp only [World.size_alloc] at h9
    rw [hw0]; exact ((h9.alloc _).alloc _)
  have X0 := Lib.hid x0_
  have x1_ : Blk w0 (W.heap.size + 1) 36 #[.slice xa M.length xc] := by
    have h9 := Blk.new (W.alloc (.cells #[.slice ca C.length cc, .slice pa P.length pc, .slice qa Q.length qc, .int .i64 hf] 44)) 36 #[.slice xa M.length xc]
    try simp only [World.size_alloc] at h9
    rw [hw0]; exact (h9.alloc _)
  have X1 := Lib.hid x1_
  have x2_ : Blk w0 (W.heap.size + 1 + 1) 38 #[.slice none 0 0, .int .i64 0] := by
    have h9 := Blk.new ((W.alloc (.cells #[.slice ca C.length cc, .slice pa P.length pc, .slice qa Q.length qc, .int .i64 hf] 44)).alloc (.cells #[.slice xa M.length xc] 36)) 38 #[.slice none 0 0, .int .i64 0]
    try simp only [World.size_alloc] at h9
    rw [hw0]; exact h9
  have X2 := Lib.hid x2_
  have HC := Lib.hid (rd_mv (Sl_ok R_Label_ok) hC hb0)
  have HP := Lib.hid (rd_mv R_Pair_ok hP hb0)
  have HQ := Lib.hid (rd_mv R_Quota_ok hQ hb0)
  have HX := Lib.hid (rd_mv R_Box_ok hX hb0)
  have HB0 := Lib.hid hb0
  have hz0 := hb0.size
  clear hb0 hC hP hQ hX x0_ x1_ x2_
  go_enter Tryz.func25, Tryz.ntmps25
  go_upto_region 1 with fail
  rw [← hw0]
  clear hw0
  have qX0_0 := X0.out.at_ 0 rfl
  have qX0_1 := X0.out.at_ 1 rfl
  have qX0_2 := X0.out.at_ 2 rfl
  have qX0_3 := X0.out.at_ 3 rfl
  have qX1_0 := X1.out.at_ 0 rfl
  go_wp2_with fail
  have hcx := mail_impl (hf := hf) HC.out HP.out HQ.out HX.out
  rw [Hb0.out] at hcx
  refine hcx.mono ?_
  intro e v1 h
  obtain ⟨rfl, hb⟩ := isB_elim h
  have HC := Lib.hid (rd_mv (Sl_ok R_Label_ok) HC.out hb)
  have HP := Lib.hid (rd_mv R_Pair_ok HP.out hb)
  have HQ := Lib.hid (rd_mv R_Quota_ok HQ.out hb)
  have HX := Lib.hid (rd_mv R_Box_ok HX.out hb)
  have X0 := Lib.hid (X0.out.call hb)
  have X1 := Lib.hid (X1.out.call hb)
  have X2 := Lib.hid (X2.out.call hb)
  have HB0 := Lib.hid (HB0.out.trans (hb.mono HB0.out.size))
  clear h hb hcx qX0_0 qX0_1 qX0_2 qX0_3 qX1_0
  cases b0 with
  | false =>
    have HE := Lib.hid (show tickV (C, P, Q, hf) M = ([], 1) from tickV_no Hb0.out)
    have X4 := X2
    have HB2 := HB0
    have q0 := X4.out.at_ 0 rfl
    have q1 := X4.out.at_ 1 rfl
    have s0 := X4.out.soft 0
    have s1 := X4.out.soft 1
    go_wp2
    refine bodyPost_ret (v := .agg #[.slice none 0 0, .int .i64 1]) (by simp [results, Tryz.results25, go_sem, *]) rfl ⟨[.slice none 0 0, .int .i64 1], rfl, ?_, (HB2.out.setCell (p := ⟨W.heap.size + 1 + 1, 0, none⟩) (by show W.heap.size ≤ W.heap.size + 1 + 1; omega) _).setCell (p := ⟨W.heap.size + 1 + 1, 1, none⟩) (by show W.heap.size ≤ W.heap.size + 1 + 1; omega) _⟩
    rw [HE.out]
    exact out_code 1
  | true =>
  have HE := Lib.hid (show tickV (C, P, Q, hf) M = (M.map tickB, 0) from tickV_yes Hb0.out)
  have HMP := Lib.hid (mailB_iff.1 Hb0.out)
  have hM4 : M.length ≤ 4 := mail_len HMP.out
  have q1 := X1.out.at_ 0 rfl
  have hz1 := HB0.out.size
  go_wp2_with fail
  refine (copied_m (by omega) (box_small HMP.out) HX.out).mono ?_
  intro e v2 h
  obtain ⟨us, rfl, ⟨a, c, rfl, ho⟩, hb⟩ := newV_elim h
  have HO := Lib.hid ho
  have HB2 := Lib.hid hb
  have X4 := Lib.hid (X2.out.call hb)
  have hz2 := hb.size
  clear h ho hb q1
  obtain ⟨w3, hw3⟩ : ∃ w, w = v2.alloc (.cells #[.slice a M.length c] 36) := ⟨_, rfl⟩
  have hb3 : Below v2.heap.size v2 w3 := by rw [hw3]; exact (Below.refl _ _).alloc (Nat.le_refl _) _
  have HT3 := Lib.hid (show Blk w3 v2.heap.size 36 #[.slice a M.length c] from by rw [hw3]; exact Blk.new _ _ _)
  have HO3 := Lib.hid (show OwSl R_Box w3 (Rg v1.heap.size v2.heap.size) (tickTo M 0) a c from by rw [tickTo_zero]; exact HO.out.keep R_Box_ok fun q hq => hb3.block q hq.2)
  have HB3 := Lib.hid (HB2.out.trans (hb3.mono hz2))
  clear hb3
  go_wp2
  rw [← hw3]
  clear hw3
  go_loopw [17] (fun i wr => ∃ k : Nat, k ≤ M.length ∧ i = .int .i64 k ∧ Hid (OwSl R_Box wr (Rg v1.heap.size v2.heap.size) (tickTo M k) a c) ∧ Hid (Blk wr v2.heap.size 36 #[.slice a M.length c]) ∧ Below v1.heap.size v1 wr) (fun i _ => M.length - (intOf i).toNat)
  case atStart => exact ⟨0, Nat.zero_le _, rfl, HO3, HT3, HB3.out⟩
  case round =>
    obtain ⟨k, hk, rfl, HOk, HTk, hB⟩ := hrel
    have HB := Lib.hid hB
    have t0 := HTk.out.at_ 0 rfl
    by_cases hlt : k < M.length
    · have hdl : decide ((k : Int) < (M.length : Int)) = true := decide_eq_true (by omega)
      obtain ⟨⟨F, G, L⟩, hx⟩ := el_some hlt
      have hT := tickTo_at hx
      have HST := Lib.hid (tickTo_step hx)
      obtain ⟨wd, hwd⟩ : ∃ w, w = wr.drew := ⟨_, rfl⟩
      have hbd : Below wr.heap.size wr wd := by rw [hwd]; exact (Below.refl _ _).drew
      have HTd := Lib.hid (HTk.out.call hbd)
      have hod := HOk.out.keep R_Box_ok (W' := wd) fun q hq => hbd.block q (Nat.lt_of_lt_of_le hq.2 (Nat.le_of_lt HTk.out.lt))
      obtain ⟨g, Sf, rfl, hrow⟩ := hod.row (by rw [tickTo_len]; omega)
      have hlc := hod.1
      have hlm := hod.2.1
      rw [tickTo_len] at hlc
      obtain ⟨a0, c0, a1, c1, a2, c2, e0, e1, e2, kF, hstep⟩ := row_box hrow (fun q hq => Nat.lt_trans hq.2 HTd.out.lt) hT
      have f0 := hrow.soft (k * 3)
      have f1 := hrow.soft (k * 3 + 1)
      have HRW := Lib.hid (hstep F.length (Nat.le_refl _) (Nat.le_trans kF.1 kF.2.1))
      rw [HST.out] at HRW
      have HG := Lib.hid (show v1.heap.size ≤ g ∧ g < v2.heap.size from hrow.own)
      have HLC := Lib.hid (And.intro hlc hlm)
      have HB9 := Lib.hid (HB.out.trans (hbd.mono HB.out.size))
      have hi0 : (0 : Int) ≤ (k : Int) := Int.natCast_nonneg _
      have hi1 : (k : Int) < (M.length : Int) := by omega
      have hFl : F.length ≤ 9223372036854775807 := by have h1 : F.length ≤ c0 := kF.1; have h2 := kF.2.1; unfold maxLen at h2; omega
      have kFl : F.length ≤ c0 ∧ c0 ≤ maxLen := ⟨kF.1, kF.2.1⟩
      have hne : g ≠ v2.heap.size := by have := HG.out.2; omega
      have hT2 := ((HTd.out.far (o := k * 3 + 1) (Ne.symm hne) (.slice a0 F.length F.length)).far (o := k * 3) (Ne.symm hne) (.slice none 0 0))
      have HT2 := Lib.hid hT2
      have HTm := Lib.hid (HTd.out.far (o := k * 3 + 1) (Ne.symm hne) (.slice a0 F.length F.length))
      have e0 : wr.cell? ⟨g, k * 3, none⟩ = some (.slice a0 F.length c0) := by rw [hwd] at e0; exact e0
      have e1 : wr.cell? ⟨g, k * 3 + 1, none⟩ = some (.slice a1 G.length c1) := by rw [hwd] at e1; exact e1
      have f0 : wr.frozen? ⟨g, k * 3, none⟩ = false := by rw [hwd] at f0; exact f0
      have f1 : wr.frozen? ⟨g, k * 3 + 1, none⟩ = false := by rw [hwd] at f1; exact f1
      clear hT2 hod hrow hstep hx hT hlc hlm kF hbd hB
      go_wp2_with fail
      refine (deliver_m kFl.1 kFl.2 e0 e1 f0 f1).mono ?_
      rintro e w9 ⟨rfl, rfl⟩
      rw [← hwd]
      clear e0 e1 e2 f0 f1 hwd
      go_wp2
      go_roundw
      case rel => exact ⟨k + 1, by omega, by go_num, Lib.hid (HRW.out.slice (by rw [tickTo_len]; exact HLC.out.1) HLC.out.2), HT2, (HB9.out.setCell (p := ⟨g, k * 3 + 1, none⟩) HG.out.1 _).setCell (p := ⟨g, k * 3, none⟩) HG.out.1 _⟩
      case measure => simp [intOf]; omega
    · have hdl : decide ((k : Int) < (M.length : Int)) = false := decide_eq_false (by omega)
      obtain rfl : k = M.length := by omega
      have X6 := Lib.hid (X2.out.call hB)
      have HBZ := Lib.hid (HB0.out.trans (hB.mono hz1))
      have q0 := X6.out.at_ 0 rfl
      have q1 := X6.out.at_ 1 rfl
      have s0 := X6.out.soft 0
      have s1 := X6.out.soft 1
      have hl9 : (tickTo M M.length).length = M.length := tickTo_len M M.length
      have HV2 := Lib.hid (Nat.lt_of_lt_of_le X2.out.lt hz2)
      clear hB
      go_wp2
      refine bodyPost_ret (v := .agg #[.slice a M.length c, .int .i64 0]) (by simp [results, Tryz.results25, go_sem, *]) rfl ⟨[.slice a M.length c, .int .i64 0], rfl, ?_, (HBZ.out.setCell (p := ⟨W.heap.size + 1 + 1, 0, none⟩) (by show W.heap.size ≤ W.heap.size + 1 + 1; omega) _).setCell (p := ⟨W.heap.size + 1 + 1, 1, none⟩) (by show W.heap.size ≤ W.heap.size + 1 + 1; omega) _⟩
      rw [HE.out]
      have hfin := mkow_MailOut (W := (wr.setCell ⟨W.heap.size + 1 + 1, 0, none⟩ (.slice a M.length c)).setCell ⟨W.heap.size + 1 + 1, 1, none⟩ (.int .i64 0)) (S := Rg W.heap.size wr.heap.size) (x1 := 0) (T0 := Rg v1.heap.size v2.heap.size) (fun q hq => ⟨Nat.le_trans hz1 hq.1, Nat.lt_trans hq.2 HTk.out.lt⟩) (HOk.out.keep R_Box_ok fun q hq => (Below.heap_setCell _ _ _ _ (fun e => by have h1 := hq.1; have h2 := X2.out.lt; have e2 : q = W.heap.size + 1 + 1 := e; omega)).trans (Below.heap_setCell _ _ _ _ (fun e => by have h1 := hq.1; have h2 := X2.out.lt; have e2 : q = W.heap.size + 1 + 1 := e; omega)))
      rw [tickTo_all, List.length_map] at hfin
      simpa [World.setCell] using hfin
end Go.Proofs.YtlgflddljhldhaaGreat.RepC
end
