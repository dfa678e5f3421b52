/- Of this claim's texts the part 24: MlSs. -/
import Derived.Test.YtlgflddljhldhaaGreatPN22
import Derived.Test.YtlgflddljhldhaaGreatPN23
section
namespace Go.Proofs.YtlgflddljhldhaaGreat.RepC
open Go.RowKit RowC ValC SpanC KeptC CfC
set_option linter.unusedVariables false
set_option linter.unusedSimpArgs false
theorem mnow_eq (n : Int) {b : Bool} (hb : isB n 0 999900 = b) (w : World) : Calls Tryz.prog 35 #[.int .i64 n] w fun e w' => e = .returned (.bool b) ∧ w' = w := by
  subst hb
  go_enter Tryz.func35, Tryz.ntmps35
  go_wp2_with (go_at_call 74; refine (is_spec _ _ _ _).mono ?_; rintro e w' ⟨rfl, rfl⟩)
  go_ret
  exact ⟨rfl, rfl⟩
theorem ixP_lt {P : List D_Pair} {f t : D_Label} {k : Nat} (h : ixP P f t = (k : Int)) : k < P.length := by
  unfold ixP at h
  split at h
  · rename_i q hq
    have h1 := (List.findIdx?_eq_some_iff_findIdx_eq.1 hq).1
    omega
  · omega
theorem pairV_right {C : List (List D_Label)} {P : List D_Pair} {Q : List D_Quota} {hf : Int} {f t : D_Label} (h : CfgR C P Q hf) : pairV C P Q hf f t = ixP P f t := by
  unfold pairV
  rw [if_pos (cfgB_iff.2 h)]
theorem last_none {N : List D_Note} (h : N.length = 0) : lastAt N N.length = 0 := by rw [h]; rfl
set_option maxRecDepth 100000 in
set_option maxHeartbeats 6400000 in
theorem msend_spec {C : List (List D_Label)} {P : List D_Pair} {Q : List D_Quota} {hf : Int} {ca pa qa : Option Addr} {cc pc qc : Nat} {M : List D_Box} {xa : Option Addr} {xc : Nat} {l0 s0 l1 s1 : Int} {x now : Int} {W : World} (hC : RdSl (Sl R_Label) W W.heap.size C ca cc) (hP : RdSl R_Pair W W.heap.size P pa pc) (hQ : RdSl R_Quota W W.heap.size Q qa qc) (hX : RdSl R_Box W W.heap.size M xa xc) :
    Calls Tryz.prog 10 #[.agg #[.slice ca C.length cc, .slice pa P.length pc, .slice qa Q.length qc, .int .i64 hf], .agg #[.slice xa M.length xc], .agg #[.int .i64 l0, .int .i64 s0], .agg #[.int .i64 l1, .int .i64 s1], .int .i64 x, .int .i64 now] W (NewV R_MailOut (sendV (C, P, Q, hf) M (l0, s0) (l1, s1) x now) W) := by
  have hnM : M.length ≤ 9223372036854775807 := by have h1 := hX.1; have h2 := hX.2.1; unfold maxLen at h2; omega
  have hnP : P.length ≤ 9223372036854775807 := by have h1 := hP.1; have h2 := hP.2.1; unfold maxLen at h2; omega
  obtain ⟨b0, hb0⟩ : ∃ b, mailB (C, P, Q, hf) M = b := ⟨_, rfl⟩
  have Hb0 := Lib.hid hb0
  clear hb0
  obtain ⟨nb, hnb⟩ : ∃ b, isB now 0 999900 = b := ⟨_, rfl⟩
  have HNB := Lib.hid hnb
  clear hnb
  obtain ⟨w0, hw0⟩ : ∃ w, w = ((((W.alloc (.cells #[.slice ca C.length cc, .slice pa P.length pc, .slice qa Q.length qc, .int .i64 hf] 44)).alloc (.cells #[.slice xa M.length xc] 36)).alloc (.cells #[.int .i64 l0, .int .i64 s0] 47)).alloc (.cells #[.int .i64 l1, .int .i64 s1] 47)).alloc (.cells #[.slice none 0 0, .int .i64 0] 38) := ⟨_, rfl⟩
  have hb0 : Below W.heap.size W w0 := by rw [hw0]; exact (((((Below.refl _ _).alloc (Nat.le_refl _) _).alloc (by simp) _).alloc (by simp <;> omega) _).alloc (by simp <;> omega) _).alloc (by simp <;> omega) _
  have x0_ : Blk w0 (W.heap.size) 44 #[.slice ca C.length cc, .slice pa P.length pc, .slice qa Q.length qc, .int .i64 hf] := by
    have h9 := Blk.new W 44 #[.slice ca C.length cc, .slice pa P.length pc, .slice qa Q.length qc, .int .i64 hf]
    try simp only [World.size_alloc] at h9
    rw [hw0]; exact ((((h9.alloc _).alloc _).alloc _).alloc _)
  have X0 := Lib.hid x0_
  have x1_ : Blk w0 (W.heap.size + 1) 36 #[.slice xa M.length xc] := by
    have h9 := Blk.new (W.alloc (.cells #[.slice ca C.length cc, .slice pa P.length pc, .slice qa Q.length qc, .int .i64 hf] 44)) 36 #[.slice xa M.length xc]
    try simp only [World.size_alloc] at h9
    rw [hw0]; exact (((h9.alloc _).alloc _).alloc _)
  have X1 := Lib.hid x1_
  have x2_ : Blk w0 (W.heap.size + 1 + 1) 47 #[.int .i64 l0, .int .i64 s0] := by
    have h9 := Blk.new ((W.alloc (.cells #[.slice ca C.length cc, .slice pa P.length pc, .slice qa Q.length qc, .int .i64 hf] 44)).alloc (.cells #[.slice xa M.length xc] 36)) 47 #[.int .i64 l0, .int .i64 s0]
    try simp only [World.size_alloc] at h9
    rw [hw0]; exact ((h9.alloc _).alloc _)
  have X2 := Lib.hid x2_
  have x3_ : Blk w0 (W.heap.size + 1 + 1 + 1) 47 #[.int .i64 l1, .int .i64 s1] := by
    have h9 := Blk.new (((W.alloc (.cells #[.slice ca C.length cc, .slice pa P.length pc, .slice qa Q.length qc, .int .i64 hf] 44)).alloc (.cells #[.slice xa M.length xc] 36)).alloc (.cells #[.int .i64 l0, .int .i64 s0] 47)) 47 #[.int .i64 l1, .int .i64 s1]
    try simp only [World.size_alloc] at h9
    rw [hw0]; exact (h9.alloc _)
  have X3 := Lib.hid x3_
  have x4_ : Blk w0 (W.heap.size + 1 + 1 + 1 + 1) 38 #[.slice none 0 0, .int .i64 0] := by
    have h9 := Blk.new ((((W.alloc (.cells #[.slice ca C.length cc, .slice pa P.length pc, .slice qa Q.length qc, .int .i64 hf] 44)).alloc (.cells #[.slice xa M.length xc] 36)).alloc (.cells #[.int .i64 l0, .int .i64 s0] 47)).alloc (.cells #[.int .i64 l1, .int .i64 s1] 47)) 38 #[.slice none 0 0, .int .i64 0]
    try simp only [World.size_alloc] at h9
    rw [hw0]; exact h9
  have X4 := Lib.hid x4_
  have HC := Lib.hid (rd_mv (Sl_ok R_Label_ok) hC hb0)
  have HP := Lib.hid (rd_mv R_Pair_ok hP hb0)
  have HQ := Lib.hid (rd_mv R_Quota_ok hQ hb0)
  have HX := Lib.hid (rd_mv R_Box_ok hX hb0)
  have HB0 := Lib.hid hb0
  have hz0 := hb0.size
  clear hb0 hC hP hQ hX x0_ x1_ x2_ x3_ x4_
  go_enter Tryz.func10, Tryz.ntmps10
  go_upto_region 1 with fail
  rw [← hw0]
  clear hw0
  have qX0_0 := X0.out.at_ 0 rfl
  have qX0_1 := X0.out.at_ 1 rfl
  have qX0_2 := X0.out.at_ 2 rfl
  have qX0_3 := X0.out.at_ 3 rfl
  have qX1_0 := X1.out.at_ 0 rfl
  go_wp2_with fail
  have hcx := mail_spec (hf := hf) HC.out HP.out HQ.out HX.out
  rw [Hb0.out] at hcx
  refine hcx.mono ?_
  intro e v1 h
  obtain ⟨rfl, hb⟩ := isB_elim h
  have HC := Lib.hid (rd_mv (Sl_ok R_Label_ok) HC.out hb)
  have HP := Lib.hid (rd_mv R_Pair_ok HP.out hb)
  have HQ := Lib.hid (rd_mv R_Quota_ok HQ.out hb)
  have HX := Lib.hid (rd_mv R_Box_ok HX.out hb)
  have X0 := Lib.hid (X0.out.call hb)
  have X1 := Lib.hid (X1.out.call hb)
  have X2 := Lib.hid (X2.out.call hb)
  have X3 := Lib.hid (X3.out.call hb)
  have X4 := Lib.hid (X4.out.call hb)
  have HB0 := Lib.hid (HB0.out.trans (hb.mono HB0.out.size))
  clear h hb hcx qX0_0 qX0_1 qX0_2 qX0_3 qX1_0
  have HBV := HB0
  have hz1 := HB0.out.size
  cases b0 with
  | false =>
    have HE := Lib.hid (show sendV (C, P, Q, hf) M (l0, s0) (l1, s1) x now = ([], 1) from sendV_form (fun h => absurd (Hb0.out.symm.trans h.1) (by decide)))
    go_wp2_with fail
    refine (ill15_at 1 _).mono ?_
    rintro e vR ⟨rfl, hb⟩
    have XZ := Lib.hid (X4.out.call hb)
    have HBR := Lib.hid (HB0.out.trans (hb.mono HB0.out.size))
    clear hb
    have q0 := XZ.out.at_ 0 rfl
    have q1 := XZ.out.at_ 1 rfl
    have s0 := XZ.out.soft 0
    have s1 := XZ.out.soft 1
    go_wp2
    refine bodyPost_ret (v := .agg #[.slice none 0 0, .int .i64 1]) (by simp [results, Tryz.results10, go_sem, *]) rfl ⟨[.slice none 0 0, .int .i64 1], rfl, ?_, (HBR.out.setCell (p := ⟨W.heap.size + 1 + 1 + 1 + 1, 0, none⟩) (by show W.heap.size ≤ W.heap.size + 1 + 1 + 1 + 1; omega) _).setCell (p := ⟨W.heap.size + 1 + 1 + 1 + 1, 1, none⟩) (by show W.heap.size ≤ W.heap.size + 1 + 1 + 1 + 1; omega) _⟩
    rw [HE.out]
    exact out_code 1
  | true =>
  go_wp2_with fail
  refine (mnow_eq now HNB.out _).mono ?_
  rintro e v2 ⟨rfl, rfl⟩
  cases nb with
  | false =>
    have HE := Lib.hid (show sendV (C, P, Q, hf) M (l0, s0) (l1, s1) x now = ([], 1) from sendV_form (fun h => absurd (HNB.out.symm.trans h.2) (by decide)))
    go_wp2_with fail
    refine (ill15_at 1 _).mono ?_
    rintro e vR ⟨rfl, hb⟩
    have XZ := Lib.hid (X4.out.call hb)
    have HBR := Lib.hid (HB0.out.trans (hb.mono HB0.out.size))
    clear hb
    have q0 := XZ.out.at_ 0 rfl
    have q1 := XZ.out.at_ 1 rfl
    have s0 := XZ.out.soft 0
    have s1 := XZ.out.soft 1
    go_wp2
    refine bodyPost_ret (v := .agg #[.slice none 0 0, .int .i64 1]) (by simp [results, Tryz.results10, go_sem, *]) rfl ⟨[.slice none 0 0, .int .i64 1], rfl, ?_, (HBR.out.setCell (p := ⟨W.heap.size + 1 + 1 + 1 + 1, 0, none⟩) (by show W.heap.size ≤ W.heap.size + 1 + 1 + 1 + 1; omega) _).setCell (p := ⟨W.heap.size + 1 + 1 + 1 + 1, 1, none⟩) (by show W.heap.size ≤ W.heap.size + 1 + 1 + 1 + 1; omega) _⟩
    rw [HE.out]
    exact out_code 1
  | true =>
  have HMP := Lib.hid (mailB_iff.1 Hb0.out)
  have HT := Lib.hid (And.intro Hb0.out HNB.out)
  have hM4 : M.length ≤ 4 := mail_len HMP.out
  have hLP := Lib.hid (show M.length = P.length from HMP.out.2.1)
  obtain ⟨ix, hix⟩ : ∃ i, ixP P (l0, s0) (l1, s1) = i := ⟨_, rfl⟩
  have HIX := Lib.hid hix
  clear hix
  have qX0_0 := X0.out.at_ 0 rfl
  have qX0_1 := X0.out.at_ 1 rfl
  have qX0_2 := X0.out.at_ 2 rfl
  have qX0_3 := X0.out.at_ 3 rfl
  have qX2_0 := X2.out.at_ 0 rfl
  have qX2_1 := X2.out.at_ 1 rfl
  have qX3_0 := X3.out.at_ 0 rfl
  have qX3_1 := X3.out.at_ 1 rfl
  go_wp2_with fail
  have hcx := pairat_spec (hf := hf) (f0 := l0) (f1 := s0) (t0 := l1) (t1 := s1) HC.out HP.out HQ.out
  rw [pairV_right HMP.out.1, HIX.out] at hcx
  refine hcx.mono ?_
  intro e v2 h
  obtain ⟨rfl, hb⟩ := isI_elim h
  have HC := Lib.hid (rd_mv (Sl_ok R_Label_ok) HC.out hb)
  have HP := Lib.hid (rd_mv R_Pair_ok HP.out hb)
  have HQ := Lib.hid (rd_mv R_Quota_ok HQ.out hb)
  have HX := Lib.hid (rd_mv R_Box_ok HX.out hb)
  have X0 := Lib.hid (X0.out.call hb)
  have X1 := Lib.hid (X1.out.call hb)
  have X2 := Lib.hid (X2.out.call hb)
  have X3 := Lib.hid (X3.out.call hb)
  have X4 := Lib.hid (X4.out.call hb)
  have HB0 := Lib.hid (HB0.out.trans (hb.mono HB0.out.size))
  clear h hb hcx HBV hz1 qX0_0 qX0_1 qX0_2 qX0_3 qX2_0 qX2_1 qX3_0 qX3_1
  have HBV := HB0
  have hz1 := HB0.out.size
  by_cases hneg : ix < 0
  · have HE := Lib.hid (show sendV (C, P, Q, hf) M (l0, s0) (l1, s1) x now = ([], 11) from sendV_label HT.out (show ixP P (l0, s0) (l1, s1) < 0 from by rw [HIX.out]; exact hneg))
    have hd : decide (ix < 0) = true := decide_eq_true hneg
    go_wp2_with fail
    refine (ill15_at 11 _).mono ?_
    rintro e vR ⟨rfl, hb⟩
    have XZ := Lib.hid (X4.out.call hb)
    have HBR := Lib.hid (HB0.out.trans (hb.mono HB0.out.size))
    clear hb
    have q0 := XZ.out.at_ 0 rfl
    have q1 := XZ.out.at_ 1 rfl
    have s0 := XZ.out.soft 0
    have s1 := XZ.out.soft 1
    go_wp2
    refine bodyPost_ret (v := .agg #[.slice none 0 0, .int .i64 11]) (by simp [results, Tryz.results10, go_sem, *]) rfl ⟨[.slice none 0 0, .int .i64 11], rfl, ?_, (HBR.out.setCell (p := ⟨W.heap.size + 1 + 1 + 1 + 1, 0, none⟩) (by show W.heap.size ≤ W.heap.size + 1 + 1 + 1 + 1; omega) _).setCell (p := ⟨W.heap.size + 1 + 1 + 1 + 1, 1, none⟩) (by show W.heap.size ≤ W.heap.size + 1 + 1 + 1 + 1; omega) _⟩
    rw [HE.out]
    exact out_code 11
  obtain ⟨k, rfl⟩ : ∃ k : Nat, ix = (k : Int) := ⟨ix.toNat, by omega⟩
  have hlt : k < P.length := ixP_lt HIX.out
  have hlm : k < M.length := by have h1 := hLP.out; omega
  have hd : decide ((k : Int) < 0) = false := decide_eq_false (by omega)
  obtain ⟨⟨⟨f0, f1⟩, ⟨t0, t1⟩, rt⟩, hp⟩ := el_some hlt
  obtain ⟨⟨F, G, N⟩, hx⟩ := el_some hlm
  have HX9 := Lib.hid hx
  have HP9 := Lib.hid hp
  have hsm := box_small HMP.out _ (List.mem_of_getElem? hx)
  have hl0 : F.length ≤ 1048576 := hsm.1
  have hl2 : N.length ≤ 1048576 := hsm.2.2
  obtain ⟨gp, op, us, rfl, hgp, hu, hr⟩ := HP.out.at_ hp
  obtain rfl := rd_Pair hr
  have HGP := Lib.hid hgp
  have A0 := Lib.hid (show v2.cell? ⟨gp, op + k * 5, none⟩ = some (.int .i64 f0) from by simpa [size_PairS, Nat.add_assoc] using hu 0 _ rfl)
  have A1 := Lib.hid (show v2.cell? ⟨gp, op + k * 5 + 1, none⟩ = some (.int .i64 f1) from by simpa [size_PairS, Nat.add_assoc] using hu 1 _ rfl)
  have A2 := Lib.hid (show v2.cell? ⟨gp, op + k * 5 + 2, none⟩ = some (.int .i64 t0) from by simpa [size_PairS, Nat.add_assoc] using hu 2 _ rfl)
  have A3 := Lib.hid (show v2.cell? ⟨gp, op + k * 5 + 3, none⟩ = some (.int .i64 t1) from by simpa [size_PairS, Nat.add_assoc] using hu 3 _ rfl)
  have A4 := Lib.hid (show v2.cell? ⟨gp, op + k * 5 + 4, none⟩ = some (.int .i64 rt) from by simpa [size_PairS, Nat.add_assoc] using hu 4 _ rfl)
  clear hu hr hgp hp
  obtain ⟨gm, om, us, rfl, hgm, hu, hr⟩ := HX.out.at_ hx
  obtain ⟨fa, fc, ga, gc, la, lc, rfl, k_F, k_G, k_N⟩ := rd_Box hr
  have HGM := Lib.hid hgm
  have HKF := Lib.hid k_F
  have HKN := Lib.hid k_N
  have B0 := Lib.hid (show v2.cell? ⟨gm, om + k * 3, none⟩ = some (.slice fa F.length fc) from by simpa [size_BoxS, Nat.add_assoc] using hu 0 _ rfl)
  have B1 := Lib.hid (show v2.cell? ⟨gm, om + k * 3 + 1, none⟩ = some (.slice ga G.length gc) from by simpa [size_BoxS, Nat.add_assoc] using hu 1 _ rfl)
  have B2 := Lib.hid (show v2.cell? ⟨gm, om + k * 3 + 2, none⟩ = some (.slice la N.length lc) from by simpa [size_BoxS, Nat.add_assoc] using hu 2 _ rfl)
  have hi0 : (0 : Int) ≤ (k : Int) := Int.natCast_nonneg _
  have hi1 : (k : Int) < (M.length : Int) := by omega
  have hi2 : (k : Int) < (P.length : Int) := by omega
  have hFn : F.length ≤ 9223372036854775807 := by omega
  have hNn : N.length ≤ 9223372036854775807 := by omega
  have hGn : G.length ≤ 9223372036854775807 := by have h1 := hsm.2.1; simp only at h1; omega
  have hMp : 0 < M.length := by omega
  clear hu hr hgm hx hsm k_F k_G k_N
  have q0 := X1.out.at_ 0 rfl
  have b0_ := B0.out
  have b1_ := B1.out
  have b2_ := B2.out
  go_upto_region 7 with fail
  clear q0 b0_ b1_ b2_
  obtain ⟨w2, hw2⟩ : ∃ u, u = v2.alloc (.cells #[.slice fa F.length fc, .slice ga G.length gc, .slice la N.length lc] 73) := ⟨_, rfl⟩
  have hbA : Below v2.heap.size v2 w2 := by rw [hw2]; exact (Below.refl _ _).alloc (Nat.le_refl _) _
  have XB := Lib.hid (show Blk w2 v2.heap.size 73 #[.slice fa F.length fc, .slice ga G.length gc, .slice la N.length lc] from by rw [hw2]; exact Blk.new _ _ _)
  rw [← hw2]
  clear hw2
  have HC := Lib.hid (rd_mv (Sl_ok R_Label_ok) HC.out hbA)
  have HP := Lib.hid (rd_mv R_Pair_ok HP.out hbA)
  have HQ := Lib.hid (rd_mv R_Quota_ok HQ.out hbA)
  have HX := Lib.hid (rd_mv R_Box_ok HX.out hbA)
  have X0 := Lib.hid (X0.out.call hbA)
  have X1 := Lib.hid (X1.out.call hbA)
  have X4 := Lib.hid (X4.out.call hbA)
  have HB0 := Lib.hid (HB0.out.trans (hbA.mono HB0.out.size))
  have A0 := Lib.hid ((hbA.cell (p := ⟨gp, op + k * 5, none⟩) HGP.out).trans A0.out)
  have A1 := Lib.hid ((hbA.cell (p := ⟨gp, op + k * 5 + 1, none⟩) HGP.out).trans A1.out)
  have A2 := Lib.hid ((hbA.cell (p := ⟨gp, op + k * 5 + 2, none⟩) HGP.out).trans A2.out)
  have A3 := Lib.hid ((hbA.cell (p := ⟨gp, op + k * 5 + 3, none⟩) HGP.out).trans A3.out)
  have A4 := Lib.hid ((hbA.cell (p := ⟨gp, op + k * 5 + 4, none⟩) HGP.out).trans A4.out)
  have HGP := Lib.hid (Nat.lt_of_lt_of_le HGP.out hbA.size)
  have HKF := Lib.hid (rd_mv I_ok HKF.out hbA)
  have HKN := Lib.hid (rd_mv R_Note_ok HKN.out hbA)
  clear hbA HBV hz1 HGM B0 B1 B2
  have HBV := HB0
  have hz1 := HB0.out.size
  have q2 := XB.out.at_ 2 rfl
  by_cases hn0 : N.length = 0
  · have HLT := Lib.hid (show ¬ now < lastAt N N.length from by rw [last_none hn0]; have h1 := (isB_iff _ _ _).1 HNB.out; omega)
    have e0_ : decide ((N.length : Int) > 0) = false := decide_eq_false (by omega)
    have e1_ : decide (0 < (N.length : Int)) = false := decide_eq_false (by omega)
    have e2_ : decide (0 < N.length) = false := decide_eq_false (by omega)
    have HN0 := Lib.hid hn0
    clear hn0
    go_upto_region 9 with fail
    clear q2 e0_ e1_ e2_
    obtain ⟨bt, hbt⟩ : ∃ b, decide ((F.length : Int) ≥ rt) = b := ⟨_, rfl⟩
    have hbt2 : decide (rt ≤ (F.length : Int)) = bt := hbt
    refine wp_region_held_drew (S := (fun V => Below (w2).heap.size (w2) V)) (by kernel_rfl) ((Below.refl _ _).drew) (fun hHeld => ?_)
    refine tk 0 hHeld ?_
    refine tk 1 hHeld ?_ (hy := fun w hSw => by (try dsimp only at hSw); have k0 := (hSw.cell (p := ⟨v2.heap.size, 0, none⟩) XB.out.lt).trans (XB.out.at_ 0 rfl); clear hSw; go_simp; try with_reducible rfl)
    refine tk 2 hHeld ?_
    refine tk 3 hHeld ?_
    refine tk 4 hHeld ?_ (hy := fun w hSw => by (try dsimp only at hSw); have k0 := (hSw.cell (p := ⟨W.heap.size, 1, none⟩) X0.out.lt).trans (X0.out.at_ 1 rfl); clear hSw; go_simp; try with_reducible rfl)
    refine tk 5 hHeld ?_
    refine tk 6 hHeld ?_
    refine tk 7 hHeld ?_
    refine tk 8 hHeld ?_ (hy := fun w hSw => by (try dsimp only at hSw); have k0 := (hSw.cell (p := ⟨gp, op + k * 5 + 4, none⟩) HGP.out).trans A4.out; clear hSw; go_simp; try with_reducible rfl)
    refine tk 9 hHeld ?_
    refine tk 10 hHeld ?_
    refine rd0 ?_
    have HF := Lib.hid hHeld
    clear hHeld
    obtain ⟨w1, hw1⟩ : ∃ u, u = w2.drew := ⟨_, rfl⟩
    rw [← hw1] at HF
    rw [← hw1]
    clear hw1
    have HC := Lib.hid (rd_mv (Sl_ok R_Label_ok) HC.out HF.out)
    have HP := Lib.hid (rd_mv R_Pair_ok HP.out HF.out)
    have HQ := Lib.hid (rd_mv R_Quota_ok HQ.out HF.out)
    have HX := Lib.hid (rd_mv R_Box_ok HX.out HF.out)
    have X0 := Lib.hid (X0.out.call HF.out)
    have X1 := Lib.hid (X1.out.call HF.out)
    have X4 := Lib.hid (X4.out.call HF.out)
    have XB := Lib.hid (XB.out.call HF.out)
    have HB0 := Lib.hid (HB0.out.trans (HF.out.mono HB0.out.size))
    have HKF := Lib.hid (rd_mv I_ok HKF.out HF.out)
    have HKN := Lib.hid (rd_mv R_Note_ok HKN.out HF.out)
    clear HF HBV hz1 A0 A1 A2 A3 A4 HGP
    have HBV := HB0
    cases bt with
    | true =>
      have hge : rt ≤ (F.length : Int) := by have h1 := of_decide_eq_true hbt; omega
      have HE := Lib.hid (show sendV (C, P, Q, hf) M (l0, s0) (l1, s1) x now = ([], 8) from sendV_range HT.out HIX.out HX9.out HP9.out (show ¬ now < lastAt N N.length from by have h1 := HLT.out; omega) hge)
      go_wp2_with fail
      refine (ill15_at 8 _).mono ?_
      rintro e vR ⟨rfl, hb⟩
      have XZ := Lib.hid (X4.out.call hb)
      have HBR := Lib.hid (HB0.out.trans (hb.mono HB0.out.size))
      clear hb
      have q0 := XZ.out.at_ 0 rfl
      have q1 := XZ.out.at_ 1 rfl
      have s0 := XZ.out.soft 0
      have s1 := XZ.out.soft 1
      go_wp2
      refine bodyPost_ret (v := .agg #[.slice none 0 0, .int .i64 8]) (by simp [results, Tryz.results10, go_sem, *]) rfl ⟨[.slice none 0 0, .int .i64 8], rfl, ?_, (HBR.out.setCell (p := ⟨W.heap.size + 1 + 1 + 1 + 1, 0, none⟩) (by show W.heap.size ≤ W.heap.size + 1 + 1 + 1 + 1; omega) _).setCell (p := ⟨W.heap.size + 1 + 1 + 1 + 1, 1, none⟩) (by show W.heap.size ≤ W.heap.size + 1 + 1 + 1 + 1; omega) _⟩
      rw [HE.out]
      exact out_code 8
    | false =>
    have hge : ¬ rt ≤ (F.length : Int) := by have h1 := of_decide_eq_false hbt; omega
    clear hbt hbt2
    have hN12 : N.length ≤ 12 := by obtain ⟨p9, _, hb9, _, _⟩ := mail_pair HMP.out HX9.out; exact hb9.2.2.1
    have q2 := XB.out.at_ 2 rfl
    by_cases hfu : 12 ≤ N.length
    · have HE := Lib.hid (show sendV (C, P, Q, hf) M (l0, s0) (l1, s1) x now = ([], 9) from sendV_full HT.out HIX.out HX9.out HP9.out (show ¬ now < lastAt N N.length from by have h1 := HLT.out; omega) hge hfu)
      have e0_ : decide ((N.length : Int) ≥ 12) = true := decide_eq_true (by omega)
      have e1_ : decide (12 ≤ (N.length : Int)) = true := decide_eq_true (by omega)
      have e2_ : decide (12 ≤ N.length) = true := decide_eq_true (by omega)
      have e3_ : decide (N.length ≥ 12) = true := decide_eq_true (by omega)
      go_wp2_with fail
      refine (ill15_at 9 _).mono ?_
      rintro e vR ⟨rfl, hb⟩
      have XZ := Lib.hid (X4.out.call hb)
      have HBR := Lib.hid (HB0.out.trans (hb.mono HB0.out.size))
      clear hb
      have q0 := XZ.out.at_ 0 rfl
      have q1 := XZ.out.at_ 1 rfl
      have s0 := XZ.out.soft 0
      have s1 := XZ.out.soft 1
      go_wp2
      refine bodyPost_ret (v := .agg #[.slice none 0 0, .int .i64 9]) (by simp [results, Tryz.results10, go_sem, *]) rfl ⟨[.slice none 0 0, .int .i64 9], rfl, ?_, (HBR.out.setCell (p := ⟨W.heap.size + 1 + 1 + 1 + 1, 0, none⟩) (by show W.heap.size ≤ W.heap.size + 1 + 1 + 1 + 1; omega) _).setCell (p := ⟨W.heap.size + 1 + 1 + 1 + 1, 1, none⟩) (by show W.heap.size ≤ W.heap.size + 1 + 1 + 1 + 1; omega) _⟩
      rw [HE.out]
      exact out_code 9
    have e0_ : decide ((N.length : Int) ≥ 12) = false := decide_eq_false (by omega)
    have e1_ : decide (12 ≤ (N.length : Int)) = false := decide_eq_false (by omega)
    have e2_ : decide (12 ≤ N.length) = false := decide_eq_false (by omega)
    have e3_ : decide (N.length ≥ 12) = false := decide_eq_false (by omega)
    have HE := Lib.hid (show sendV (C, P, Q, hf) M (l0, s0) (l1, s1) x now = (M.set k (F ++ [x], G, N ++ [(now, x)]), 0) from sendV_ok HT.out HIX.out HX9.out HP9.out (show ¬ now < lastAt N N.length from by have h1 := HLT.out; omega) hge hfu)
    have q1 := X1.out.at_ 0 rfl
    go_wp2_with fail
    refine (copy15_spec (by omega) (box_small HMP.out) HX.out).mono ?_
    intro e v5 h
    obtain ⟨us, rfl, hu, hb⟩ := newV_elim h
    obtain ⟨a, c, T0, rfl, ho⟩ : ∃ a c, ∃ T : Nat → Prop, us = [.slice a M.length c] ∧ OwSl R_BoxG v5 (Rg w1.heap.size v5.heap.size) M a c := by
        obtain ⟨a, c, rfl, h9⟩ := hu
        exact ⟨a, c, fun _ => True, rfl, h9⟩
    clear h hu q1
    obtain ⟨w3, hw3⟩ : ∃ u, u = v5.alloc (.cells #[.slice a M.length c] 36) := ⟨_, rfl⟩
    obtain ⟨g, rfl, hO⟩ := OutS.init R_BoxG_ok ho hMp hb
    rw [← hw3] at hO
    have HO := Lib.hid hO
    clear hO ho hb
    go_upto_region 14 with fail
    rw [← hw3]
    clear hw3 q2
    have HX8 := Lib.hid (show (M.set k (F ++ [x], G, N))[k]? = some (F ++ [x], G, N) from List.getElem?_set_self hlm)
    obtain ⟨wd, hwd⟩ : ∃ u, u = w3.drew := ⟨_, rfl⟩
    have hod := HO.out.mv R_BoxG_ok (w' := wd) (by rw [hwd]; exact (Below.refl _ _).drew)
    obtain ⟨a0, c0, a', c', w4, e0, hrun, t4, e4, f4, hO2⟩ := hod.next HX9.out (by omega) x
    have tv := hod.var.at_ 0 rfl
    have tl := hod.var.lt
    have gl := hod.glt.2.1
    have hbA : Below wd.heap.size wd (wd.alloc (.cells #[.int .i64 x] 2)) := (Below.refl _ _).alloc (Nat.le_refl _) _
    have HSA := Lib.hid (And.intro ((hbA.cell (p := ⟨v5.heap.size, 0, none⟩) tl).trans tv) ((hbA.cell (p := ⟨g, k * 3, none⟩) gl).trans e0))
    have HRUN := Lib.hid hrun
    have HO := Lib.hid hO2
    clear hod hrun hO2 hbA tl gl
    refine kregion [14] (S := (fun V => V.cell? ⟨v5.heap.size, 0, none⟩ = some (.slice (some ⟨g, 0, none⟩) M.length c) ∧ V.cell? ⟨g, k * 3, none⟩ = some (.slice a0 F.length c0))) (by kernel_rfl) (by rw [← hwd]; exact ⟨tv, e0⟩) (fun hHeld => ?_)
    rw [← hwd] at hHeld
    rw [← hwd]
    clear hwd
    refine kp 0 ?_
    refine kk 1 hHeld ?_ (hy := fun w hSw => by (try dsimp only at hSw); have k0 := hSw.1; clear hSw; go_simp; try with_reducible rfl)
    refine kp 2 ?_
    refine kp 3 ?_
    refine kk 4 hHeld ?_ (hy := fun w hSw => by (try dsimp only at hSw); have k0 := hSw.1; clear hSw; go_simp; try with_reducible rfl)
    refine kp 5 ?_
    refine kp 6 ?_
    refine kp 7 ?_
    refine kk 8 hHeld ?_ (hy := fun w hSw => by (try dsimp only at hSw); have k0 := hSw.2; clear hSw; go_simp; try with_reducible rfl)
    refine kp 9 ?_
    refine kr (rs := [10]) (by kernel_rfl) (by simp) (AllK.cons rfl (fun K hK => ?_) AllK.nil)
    go_simp
    refine hK.out _ _ HSA.out (fun hHeld => ?_)
    clear hK K
    refine kr (rs := [11]) (by kernel_rfl) (by simp) (AllK.cons rfl (fun K hK => ?_) AllK.nil)
    refine step_app rfl (.tmp 85) (.tmp 87) 70 rfl rfl rfl HRUN.out ?_
    refine hK.out _ _ ⟨t4, e4⟩ (fun hHeld => ?_)
    clear hK K
    refine kp 12 ?_
    refine kp 13 ?_
    refine kr (rs := [14]) (by kernel_rfl) (by simp) (AllK.last (by simp) rfl (fun K hK => ?_))
    clear tv e0
    go_simp
    refine hK.out _ _ ?_
    clear hK K t4 e4 f4 HRUN HSA
    refine k0 ?_
    clear hHeld
    obtain ⟨w5, hw5⟩ : ∃ u, u = w4.setCell ⟨g, k * 3, none⟩ (.slice a' (F ++ [x]).length c') := ⟨_, rfl⟩
    rw [← hw5] at HO
    first | rw [← hw5] | (rw [show (F ++ [x]).length = F.length + 1 from by simp] at hw5; rw [← hw5])
    clear hw5
    go_upto_region 15 with fail
    obtain ⟨wd, hwd⟩ : ∃ u, u = w5.drew := ⟨_, rfl⟩
    have hod := HO.out.mv R_BoxG_ok (w' := wd) (by rw [hwd]; exact (Below.refl _ _).drew)
    obtain ⟨a0, c0, a', c', w4, e0, hrun, t4, e4, f4, hO2⟩ := hod.log HX8.out (by omega) (now, x)
    have tv := hod.var.at_ 0 rfl
    have tl := hod.var.lt
    have gl := hod.glt.2.1
    have hbA : Below wd.heap.size wd (wd.alloc (.cells #[.int .i64 now, .int .i64 x] 75)) := (Below.refl _ _).alloc (Nat.le_refl _) _
    have HSA := Lib.hid (And.intro ((hbA.cell (p := ⟨v5.heap.size, 0, none⟩) tl).trans tv) ((hbA.cell (p := ⟨g, k * 3 + 2, none⟩) gl).trans e0))
    have HRUN := Lib.hid hrun
    have HO := Lib.hid hO2
    clear hod hrun hO2 hbA tl gl
    refine kregion [16] (S := (fun V => V.cell? ⟨v5.heap.size, 0, none⟩ = some (.slice (some ⟨g, 0, none⟩) M.length c) ∧ V.cell? ⟨g, k * 3 + 2, none⟩ = some (.slice a0 N.length c0))) (by kernel_rfl) (by rw [← hwd]; exact ⟨tv, e0⟩) (fun hHeld => ?_)
    rw [← hwd] at hHeld
    rw [← hwd]
    clear hwd
    refine kp 0 ?_
    refine kk 1 hHeld ?_ (hy := fun w hSw => by (try dsimp only at hSw); have k0 := hSw.1; clear hSw; go_simp; try with_reducible rfl)
    refine kp 2 ?_
    refine kp 3 ?_
    refine kk 4 hHeld ?_ (hy := fun w hSw => by (try dsimp only at hSw); have k0 := hSw.1; clear hSw; go_simp; try with_reducible rfl)
    refine kp 5 ?_
    refine kp 6 ?_
    refine kp 7 ?_
    refine kk 8 hHeld ?_ (hy := fun w hSw => by (try dsimp only at hSw); have k0 := hSw.2; clear hSw; go_simp; try with_reducible rfl)
    refine kp 9 ?_
    refine kp 10 ?_
    refine kp 11 ?_
    refine kr (rs := [12]) (by kernel_rfl) (by simp) (AllK.cons rfl (fun K hK => ?_) AllK.nil)
    go_simp
    refine hK.out _ _ HSA.out (fun hHeld => ?_)
    clear hK K
    refine kr (rs := [13]) (by kernel_rfl) (by simp) (AllK.cons rfl (fun K hK => ?_) AllK.nil)
    refine step_app rfl (.tmp 99) (.tmp 103) 71 rfl rfl rfl HRUN.out ?_
    refine hK.out _ _ ⟨t4, e4⟩ (fun hHeld => ?_)
    clear hK K
    refine kp 14 ?_
    refine kp 15 ?_
    refine kr (rs := [16]) (by kernel_rfl) (by simp) (AllK.last (by simp) rfl (fun K hK => ?_))
    clear tv e0
    go_simp
    refine hK.out _ _ ?_
    clear hK K t4 e4 f4 HRUN HSA
    refine k0 ?_
    clear hHeld
    obtain ⟨w7, hw5⟩ : ∃ u, u = w4.setCell ⟨g, k * 3 + 2, none⟩ (.slice a' (N ++ [(now, x)]).length c') := ⟨_, rfl⟩
    rw [← hw5] at HO
    first | rw [← hw5] | (rw [show (N ++ [(now, x)]).length = N.length + 1 from by simp] at hw5; rw [← hw5])
    clear hw5
    have h9 := HO.out
    rw [List.set_set] at h9
    have HO := Lib.hid h9
    clear h9
    have hbz := HO.out.bel
    have t9 := HO.out.var.at_ 0 rfl
    have XZ := Lib.hid (X4.out.call hbz)
    have HBZ := Lib.hid (HBV.out.trans (hbz.mono HBV.out.size))
    obtain ⟨S9, hS9, hfo⟩ := HO.out.fin
    have HFO := Lib.hid (boxesG_weak hfo)
    have HS9 := Lib.hid hS9
    have q0 := XZ.out.at_ 0 rfl
    have q1 := XZ.out.at_ 1 rfl
    have s0 := XZ.out.soft 0
    have s1 := XZ.out.soft 1
    have hxl := X4.out.lt
    have hvz := HBV.out.size
    clear hbz hS9 hfo
    go_wp2
    refine bodyPost_ret (v := .agg #[.slice (some ⟨g, 0, none⟩) M.length c, .int .i64 0]) (by simp [results, Tryz.results10, go_sem, *]) rfl ⟨[.slice (some ⟨g, 0, none⟩) M.length c, .int .i64 0], rfl, ?_, (HBZ.out.setCell (p := ⟨W.heap.size + 1 + 1 + 1 + 1, 0, none⟩) (by show W.heap.size ≤ W.heap.size + 1 + 1 + 1 + 1; omega) _).setCell (p := ⟨W.heap.size + 1 + 1 + 1 + 1, 1, none⟩) (by show W.heap.size ≤ W.heap.size + 1 + 1 + 1 + 1; omega) _⟩
    rw [HE.out]
    have hfin := mkow_MailOut (W := (w7.setCell ⟨W.heap.size + 1 + 1 + 1 + 1, 0, none⟩ (.slice (some ⟨g, 0, none⟩) M.length c)).setCell ⟨W.heap.size + 1 + 1 + 1 + 1, 1, none⟩ (.int .i64 0)) (S := Rg W.heap.size w7.heap.size) (x1 := 0) (T0 := S9) (fun q hq => ⟨Nat.le_trans hvz (HS9.out q hq).1, (HS9.out q hq).2⟩) (HFO.out.keep R_Box_ok fun q hq => (Below.heap_setCell _ _ _ _ (fun e => by have h1 := (HS9.out q hq).1; have e2 : q = W.heap.size + 1 + 1 + 1 + 1 := e; omega)).trans (Below.heap_setCell _ _ _ _ (fun e => by have h1 := (HS9.out q hq).1; have e2 : q = W.heap.size + 1 + 1 + 1 + 1 := e; omega)))
    rw [List.length_set] at hfin
    simpa [World.setCell] using hfin
  have e0_ : decide ((N.length : Int) > 0) = true := decide_eq_true (by omega)
  have e1_ : decide (0 < (N.length : Int)) = true := decide_eq_true (by omega)
  have e2_ : decide (0 < N.length) = true := decide_eq_true (by omega)
  obtain ⟨j, hj⟩ : ∃ j, N.length = j + 1 := ⟨N.length - 1, by omega⟩
  have HJ := Lib.hid hj
  have hjn : j < N.length := by omega
  obtain ⟨⟨n0, n1⟩, hn9⟩ := el_some hjn
  have HLA9 := Lib.hid (show lastAt N N.length = n0 from by rw [HJ.out]; exact lastAt_succ hn9)
  obtain ⟨gl, ol, us, rfl, hgl, hu, hr⟩ := HKN.out.at_ hn9
  obtain rfl := rd_Note hr
  have n9 : w2.cell? ⟨gl, ol + j * 2, none⟩ = some (.int .i64 n0) := by simpa [size_NoteS, Nat.add_assoc] using hu 0 _ rfl
  have hw9 : IntKind.i64.wrap ((N.length : Int) - 1) = (j : Int) := by rw [IntWalk.i64_in _ (by omega)]; omega
  have hj0 : (0 : Int) ≤ (j : Int) := Int.natCast_nonneg _
  have hj1 : (j : Int) < (N.length : Int) := by omega
  clear hu hr hj hn9 hgl
  by_cases hlt9 : now < n0
  · have HLT := Lib.hid (show now < lastAt N N.length from by rw [HLA9.out]; exact hlt9)
    have e3_ : decide (n0 > now) = true := decide_eq_true hlt9
    have e4_ : decide (now < n0) = true := decide_eq_true hlt9
    have HE := Lib.hid (show sendV (C, P, Q, hf) M (l0, s0) (l1, s1) x now = ([], 1) from sendV_late HT.out HIX.out HX9.out HP9.out HLT.out)
    go_wp2_with fail
    refine (ill15_at 1 _).mono ?_
    rintro e vR ⟨rfl, hb⟩
    have XZ := Lib.hid (X4.out.call hb)
    have HBR := Lib.hid (HB0.out.trans (hb.mono HB0.out.size))
    clear hb
    have q0 := XZ.out.at_ 0 rfl
    have q1 := XZ.out.at_ 1 rfl
    have s0 := XZ.out.soft 0
    have s1 := XZ.out.soft 1
    go_wp2
    refine bodyPost_ret (v := .agg #[.slice none 0 0, .int .i64 1]) (by simp [results, Tryz.results10, go_sem, *]) rfl ⟨[.slice none 0 0, .int .i64 1], rfl, ?_, (HBR.out.setCell (p := ⟨W.heap.size + 1 + 1 + 1 + 1, 0, none⟩) (by show W.heap.size ≤ W.heap.size + 1 + 1 + 1 + 1; omega) _).setCell (p := ⟨W.heap.size + 1 + 1 + 1 + 1, 1, none⟩) (by show W.heap.size ≤ W.heap.size + 1 + 1 + 1 + 1; omega) _⟩
    rw [HE.out]
    exact out_code 1
  have HLT := Lib.hid (show ¬ now < lastAt N N.length from by rw [HLA9.out]; exact hlt9)
  have e3_ : decide (n0 > now) = false := decide_eq_false hlt9
  have e4_ : decide (now < n0) = false := decide_eq_false hlt9
  have HN9 := Lib.hid hn0
  clear hn0
  go_upto_region 9 with fail
  clear q2 e0_ e1_ e2_ e3_ e4_ n9 hw9 hj0 hj1 hjn
  obtain ⟨bt, hbt⟩ : ∃ b, decide ((F.length : Int) ≥ rt) = b := ⟨_, rfl⟩
  have hbt2 : decide (rt ≤ (F.length : Int)) = bt := hbt
  refine wp_region_held_drew (S := (fun V => Below (w2).heap.size (w2) V)) (by kernel_rfl) ((Below.refl _ _).drew) (fun hHeld => ?_)
  refine tk 0 hHeld ?_
  refine tk 1 hHeld ?_ (hy := fun w hSw => by (try dsimp only at hSw); have k0 := (hSw.cell (p := ⟨v2.heap.size, 0, none⟩) XB.out.lt).trans (XB.out.at_ 0 rfl); clear hSw; go_simp; try with_reducible rfl)
  refine tk 2 hHeld ?_
  refine tk 3 hHeld ?_
  refine tk 4 hHeld ?_ (hy := fun w hSw => by (try dsimp only at hSw); have k0 := (hSw.cell (p := ⟨W.heap.size, 1, none⟩) X0.out.lt).trans (X0.out.at_ 1 rfl); clear hSw; go_simp; try with_reducible rfl)
  refine tk 5 hHeld ?_
  refine tk 6 hHeld ?_
  refine tk 7 hHeld ?_
  refine tk 8 hHeld ?_ (hy := fun w hSw => by (try dsimp only at hSw); have k0 := (hSw.cell (p := ⟨gp, op + k * 5 + 4, none⟩) HGP.out).trans A4.out; clear hSw; go_simp; try with_reducible rfl)
  refine tk 9 hHeld ?_
  refine tk 10 hHeld ?_
  refine rd0 ?_
  have HF := Lib.hid hHeld
  clear hHeld
  obtain ⟨w1, hw1⟩ : ∃ u, u = w2.drew := ⟨_, rfl⟩
  rw [← hw1] at HF
  rw [← hw1]
  clear hw1
  have HC := Lib.hid (rd_mv (Sl_ok R_Label_ok) HC.out HF.out)
  have HP := Lib.hid (rd_mv R_Pair_ok HP.out HF.out)
  have HQ := Lib.hid (rd_mv R_Quota_ok HQ.out HF.out)
  have HX := Lib.hid (rd_mv R_Box_ok HX.out HF.out)
  have X0 := Lib.hid (X0.out.call HF.out)
  have X1 := Lib.hid (X1.out.call HF.out)
  have X4 := Lib.hid (X4.out.call HF.out)
  have XB := Lib.hid (XB.out.call HF.out)
  have HB0 := Lib.hid (HB0.out.trans (HF.out.mono HB0.out.size))
  have HKF := Lib.hid (rd_mv I_ok HKF.out HF.out)
  have HKN := Lib.hid (rd_mv R_Note_ok HKN.out HF.out)
  clear HF HBV hz1 A0 A1 A2 A3 A4 HGP
  have HBV := HB0
  cases bt with
  | true =>
    have hge : rt ≤ (F.length : Int) := by have h1 := of_decide_eq_true hbt; omega
    have HE := Lib.hid (show sendV (C, P, Q, hf) M (l0, s0) (l1, s1) x now = ([], 8) from sendV_range HT.out HIX.out HX9.out HP9.out (show ¬ now < lastAt N N.length from by have h1 := HLT.out; omega) hge)
    go_wp2_with fail
    refine (ill15_at 8 _).mono ?_
    rintro e vR ⟨rfl, hb⟩
    have XZ := Lib.hid (X4.out.call hb)
    have HBR := Lib.hid (HB0.out.trans (hb.mono HB0.out.size))
    clear hb
    have q0 := XZ.out.at_ 0 rfl
    have q1 := XZ.out.at_ 1 rfl
    have s0 := XZ.out.soft 0
    have s1 := XZ.out.soft 1
    go_wp2
    refine bodyPost_ret (v := .agg #[.slice none 0 0, .int .i64 8]) (by simp [results, Tryz.results10, go_sem, *]) rfl ⟨[.slice none 0 0, .int .i64 8], rfl, ?_, (HBR.out.setCell (p := ⟨W.heap.size + 1 + 1 + 1 + 1, 0, none⟩) (by show W.heap.size ≤ W.heap.size + 1 + 1 + 1 + 1; omega) _).setCell (p := ⟨W.heap.size + 1 + 1 + 1 + 1, 1, none⟩) (by show W.heap.size ≤ W.heap.size + 1 + 1 + 1 + 1; omega) _⟩
    rw [HE.out]
    exact out_code 8
  | false =>
  have hge : ¬ rt ≤ (F.length : Int) := by have h1 := of_decide_eq_false hbt; omega
  clear hbt hbt2
  have hN12 : N.length ≤ 12 := by obtain ⟨p9, _, hb9, _, _⟩ := mail_pair HMP.out HX9.out; exact hb9.2.2.1
  have q2 := XB.out.at_ 2 rfl
  by_cases hfu : 12 ≤ N.length
  · have HE := Lib.hid (show sendV (C, P, Q, hf) M (l0, s0) (l1, s1) x now = ([], 9) from sendV_full HT.out HIX.out HX9.out HP9.out (show ¬ now < lastAt N N.length from by have h1 := HLT.out; omega) hge hfu)
    have e0_ : decide ((N.length : Int) ≥ 12) = true := decide_eq_true (by omega)
    have e1_ : decide (12 ≤ (N.length : Int)) = true := decide_eq_true (by omega)
    have e2_ : decide (12 ≤ N.length) = true := decide_eq_true (by omega)
    have e3_ : decide (N.length ≥ 12) = true := decide_eq_true (by omega)
    go_wp2_with fail
    refine (ill15_at 9 _).mono ?_
    rintro e vR ⟨rfl, hb⟩
    have XZ := Lib.hid (X4.out.call hb)
    have HBR := Lib.hid (HB0.out.trans (hb.mono HB0.out.size))
    clear hb
    have q0 := XZ.out.at_ 0 rfl
    have q1 := XZ.out.at_ 1 rfl
    have s0 := XZ.out.soft 0
    have s1 := XZ.out.soft 1
    go_wp2
    refine bodyPost_ret (v := .agg #[.slice none 0 0, .int .i64 9]) (by simp [results, Tryz.results10, go_sem, *]) rfl ⟨[.slice none 0 0, .int .i64 9], rfl, ?_, (HBR.out.setCell (p := ⟨W.heap.size + 1 + 1 + 1 + 1, 0, none⟩) (by show W.heap.size ≤ W.heap.size + 1 + 1 + 1 + 1; omega) _).setCell (p := ⟨W.heap.size + 1 + 1 + 1 + 1, 1, none⟩) (by show W.heap.size ≤ W.heap.size + 1 + 1 + 1 + 1; omega) _⟩
    rw [HE.out]
    exact out_code 9
  have e0_ : decide ((N.length : Int) ≥ 12) = false := decide_eq_false (by omega)
  have e1_ : decide (12 ≤ (N.length : Int)) = false := decide_eq_false (by omega)
  have e2_ : decide (12 ≤ N.length) = false := decide_eq_false (by omega)
  have e3_ : decide (N.length ≥ 12) = false := decide_eq_false (by omega)
  have HE := Lib.hid (show sendV (C, P, Q, hf) M (l0, s0) (l1, s1) x now = (M.set k (F ++ [x], G, N ++ [(now, x)]), 0) from sendV_ok HT.out HIX.out HX9.out HP9.out (show ¬ now < lastAt N N.length from by have h1 := HLT.out; omega) hge hfu)
  have q1 := X1.out.at_ 0 rfl
  go_wp2_with fail
  refine (copy15_spec (by omega) (box_small HMP.out) HX.out).mono ?_
  intro e v5 h
  obtain ⟨us, rfl, hu, hb⟩ := newV_elim h
  obtain ⟨a, c, T0, rfl, ho⟩ : ∃ a c, ∃ T : Nat → Prop, us = [.slice a M.length c] ∧ OwSl R_BoxG v5 (Rg w1.heap.size v5.heap.size) M a c := by
      obtain ⟨a, c, rfl, h9⟩ := hu
      exact ⟨a, c, fun _ => True, rfl, h9⟩
  clear h hu q1
  obtain ⟨w3, hw3⟩ : ∃ u, u = v5.alloc (.cells #[.slice a M.length c] 36) := ⟨_, rfl⟩
  obtain ⟨g, rfl, hO⟩ := OutS.init R_BoxG_ok ho hMp hb
  rw [← hw3] at hO
  have HO := Lib.hid hO
  clear hO ho hb
  go_upto_region 14 with fail
  rw [← hw3]
  clear hw3 q2
  have HX8 := Lib.hid (show (M.set k (F ++ [x], G, N))[k]? = some (F ++ [x], G, N) from List.getElem?_set_self hlm)
  obtain ⟨wd, hwd⟩ : ∃ u, u = w3.drew := ⟨_, rfl⟩
  have hod := HO.out.mv R_BoxG_ok (w' := wd) (by rw [hwd]; exact (Below.refl _ _).drew)
  obtain ⟨a0, c0, a', c', w4, e0, hrun, t4, e4, f4, hO2⟩ := hod.next HX9.out (by omega) x
  have tv := hod.var.at_ 0 rfl
  have tl := hod.var.lt
  have gl := hod.glt.2.1
  have hbA : Below wd.heap.size wd (wd.alloc (.cells #[.int .i64 x] 2)) := (Below.refl _ _).alloc (Nat.le_refl _) _
  have HSA := Lib.hid (And.intro ((hbA.cell (p := ⟨v5.heap.size, 0, none⟩) tl).trans tv) ((hbA.cell (p := ⟨g, k * 3, none⟩) gl).trans e0))
  have HRUN := Lib.hid hrun
  have HO := Lib.hid hO2
  clear hod hrun hO2 hbA tl gl
  refine kregion [14] (S := (fun V => V.cell? ⟨v5.heap.size, 0, none⟩ = some (.slice (some ⟨g, 0, none⟩) M.length c) ∧ V.cell? ⟨g, k * 3, none⟩ = some (.slice a0 F.length c0))) (by kernel_rfl) (by rw [← hwd]; exact ⟨tv, e0⟩) (fun hHeld => ?_)
  rw [← hwd] at hHeld
  rw [← hwd]
  clear hwd
  refine kp 0 ?_
  refine kk 1 hHeld ?_ (hy := fun w hSw => by (try dsimp only at hSw); have k0 := hSw.1; clear hSw; go_simp; try with_reducible rfl)
  refine kp 2 ?_
  refine kp 3 ?_
  refine kk 4 hHeld ?_ (hy := fun w hSw => by (try dsimp only at hSw); have k0 := hSw.1; clear hSw; go_simp; try with_reducible rfl)
  refine kp 5 ?_
  refine kp 6 ?_
  refine kp 7 ?_
  refine kk 8 hHeld ?_ (hy := fun w hSw => by (try dsimp only at hSw); have k0 := hSw.2; clear hSw; go_simp; try with_reducible rfl)
  refine kp 9 ?_
  refine kr (rs := [10]) (by kernel_rfl) (by simp) (AllK.cons rfl (fun K hK => ?_) AllK.nil)
  go_simp
  refine hK.out _ _ HSA.out (fun hHeld => ?_)
  clear hK K
  refine kr (rs := [11]) (by kernel_rfl) (by simp) (AllK.cons rfl (fun K hK => ?_) AllK.nil)
  refine step_app rfl (.tmp 85) (.tmp 87) 70 rfl rfl rfl HRUN.out ?_
  refine hK.out _ _ ⟨t4, e4⟩ (fun hHeld => ?_)
  clear hK K
  refine kp 12 ?_
  refine kp 13 ?_
  refine kr (rs := [14]) (by kernel_rfl) (by simp) (AllK.last (by simp) rfl (fun K hK => ?_))
  clear tv e0
  go_simp
  refine hK.out _ _ ?_
  clear hK K t4 e4 f4 HRUN HSA
  refine k0 ?_
  clear hHeld
  obtain ⟨w5, hw5⟩ : ∃ u, u = w4.setCell ⟨g, k * 3, none⟩ (.slice a' (F ++ [x]).length c') := ⟨_, rfl⟩
  rw [← hw5] at HO
  first | rw [← hw5] | (rw [show (F ++ [x]).length = F.length + 1 from by simp] at hw5; rw [← hw5])
  clear hw5
  go_upto_region 15 with fail
  obtain ⟨wd, hwd⟩ : ∃ u, u = w5.drew := ⟨_, rfl⟩
  have hod := HO.out.mv R_BoxG_ok (w' := wd) (by rw [hwd]; exact (Below.refl _ _).drew)
  obtain ⟨a0, c0, a', c', w4, e0, hrun, t4, e4, f4, hO2⟩ := hod.log HX8.out (by omega) (now, x)
  have tv := hod.var.at_ 0 rfl
  have tl := hod.var.lt
  have gl := hod.glt.2.1
  have hbA : Below wd.heap.size wd (wd.alloc (.cells #[.int .i64 now, .int .i64 x] 75)) := (Below.refl _ _).alloc (Nat.le_refl _) _
  have HSA := Lib.hid (And.intro ((hbA.cell (p := ⟨v5.heap.size, 0, none⟩) tl).trans tv) ((hbA.cell (p := ⟨g, k * 3 + 2, none⟩) gl).trans e0))
  have HRUN := Lib.hid hrun
  have HO := Lib.hid hO2
  clear hod hrun hO2 hbA tl gl
  refine kregion [16] (S := (fun V => V.cell? ⟨v5.heap.size, 0, none⟩ = some (.slice (some ⟨g, 0, none⟩) M.length c) ∧ V.cell? ⟨g, k * 3 + 2, none⟩ = some (.slice a0 N.length c0))) (by kernel_rfl) (by rw [← hwd]; exact ⟨tv, e0⟩) (fun hHeld => ?_)
  rw [← hwd] at hHeld
  rw [← hwd]
  clear hwd
  refine kp 0 ?_
  refine kk 1 hHeld ?_ (hy := fun w hSw => by (try dsimp only at hSw); have k0 := hSw.1; clear hSw; go_simp; try with_reducible rfl)
  refine kp 2 ?_
  refine kp 3 ?_
  refine kk 4 hHeld ?_ (hy := fun w hSw => by (try dsimp only at hSw); have k0 := hSw.1; clear hSw; go_simp; try with_reducible rfl)
  refine kp 5 ?_
  refine kp 6 ?_
  refine kp 7 ?_
  refine kk 8 hHeld ?_ (hy := fun w hSw => by (try dsimp only at hSw); have k0 := hSw.2; clear hSw; go_simp; try with_reducible rfl)
  refine kp 9 ?_
  refine kp 10 ?_
  refine kp 11 ?_
  refine kr (rs := [12]) (by kernel_rfl) (by simp) (AllK.cons rfl (fun K hK => ?_) AllK.nil)
  go_simp
  refine hK.out _ _ HSA.out (fun hHeld => ?_)
  clear hK K
  refine kr (rs := [13]) (by kernel_rfl) (by simp) (AllK.cons rfl (fun K hK => ?_) AllK.nil)
  refine step_app rfl (.tmp 99) (.tmp 103) 71 rfl rfl rfl HRUN.out ?_
  refine hK.out _ _ ⟨t4, e4⟩ (fun hHeld => ?_)
  clear hK K
  refine kp 14 ?_
  refine kp 15 ?_
  refine kr (rs := [16]) (by kernel_rfl) (by simp) (AllK.last (by simp) rfl (fun K hK => ?_))
  clear tv e0
  go_simp
  refine hK.out _ _ ?_
  clear hK K t4 e4 f4 HRUN HSA
  refine k0 ?_
  clear hHeld
  obtain ⟨w7, hw5⟩ : ∃ u, u = w4.setCell ⟨g, k * 3 + 2, none⟩ (.slice a' (N ++ [(now, x)]).length c') := ⟨_, rfl⟩
  rw [← hw5] at HO
  first | rw [← hw5] | (rw [show (N ++ [(now, x)]).length = N.length + 1 from by simp] at hw5; rw [← hw5])
  clear hw5
  have h9 := HO.out
  rw [List.set_set] at h9
  have HO := Lib.hid h9
  clear h9
  have hbz := HO.out.bel
  have t9 := HO.out.var.at_ 0 rfl
  have XZ := Lib.hid (X4.out.call hbz)
  have HBZ := Lib.hid (HBV.out.trans (hbz.mono HBV.out.size))
  obtain ⟨S9, hS9, hfo⟩ := HO.out.fin
  have HFO := Lib.hid (boxesG_weak hfo)
  have HS9 := Lib.hid hS9
  have q0 := XZ.out.at_ 0 rfl
  have q1 := XZ.out.at_ 1 rfl
  have s0 := XZ.out.soft 0
  have s1 := XZ.out.soft 1
  have hxl := X4.out.lt
  have hvz := HBV.out.size
  clear hbz hS9 hfo
  go_wp2
  refine bodyPost_ret (v := .agg #[.slice (some ⟨g, 0, none⟩) M.length c, .int .i64 0]) (by simp [results, Tryz.results10, go_sem, *]) rfl ⟨[.slice (some ⟨g, 0, none⟩) M.length c, .int .i64 0], rfl, ?_, (HBZ.out.setCell (p := ⟨W.heap.size + 1 + 1 + 1 + 1, 0, none⟩) (by show W.heap.size ≤ W.heap.size + 1 + 1 + 1 + 1; omega) _).setCell (p := ⟨W.heap.size + 1 + 1 + 1 + 1, 1, none⟩) (by show W.heap.size ≤ W.heap.size + 1 + 1 + 1 + 1; omega) _⟩
  rw [HE.out]
  have hfin := mkow_MailOut (W := (w7.setCell ⟨W.heap.size + 1 + 1 + 1 + 1, 0, none⟩ (.slice (some ⟨g, 0, none⟩) M.length c)).setCell ⟨W.heap.size + 1 + 1 + 1 + 1, 1, none⟩ (.int .i64 0)) (S := Rg W.heap.size w7.heap.size) (x1 := 0) (T0 := S9) (fun q hq => ⟨Nat.le_trans hvz (HS9.out q hq).1, (HS9.out q hq).2⟩) (HFO.out.keep R_Box_ok fun q hq => (Below.heap_setCell _ _ _ _ (fun e => by have h1 := (HS9.out q hq).1; have e2 : q = W.heap.size + 1 + 1 + 1 + 1 := e; omega)).trans (Below.heap_setCell _ _ _ _ (fun e => by have h1 := (HS9.out q hq).1; have e2 : q = W.heap.size + 1 + 1 + 1 + 1 := e; omega)))
  rw [List.length_set] at hfin
  simpa [World.setCell] using hfin
end Go.Proofs.YtlgflddljhldhaaGreat.RepC
end
