/- Of this claim's texts the part 29: MlSi. -/
import Derived.Test.YtlgflddljhldhaaGreatPN28
section
namespace Go.Proofs.YtlgflddljhldhaaGreat.RepC
open Go.RowKit RowC ValC SpanC KeptC CfC
set_option linter.unusedVariables false
set_option linter.unusedSimpArgs false
theorem nowi_eq (n : Int) {b : Bool} (hb : isB n 0 999900 = b) (w : World) : Calls Tryz.prog 44 #[.int .i64 n] w fun e w' => e = .returned (.bool b) ∧ w' = w := by
  go_enter Tryz.func44, Tryz.ntmps44
  go_wp2_with (go_at_call 60; refine (wi_at n 0 999900 hb _).mono ?_; rintro e w' ⟨rfl, rfl⟩)
  go_ret
  exact ⟨rfl, rfl⟩
theorem rd_oneN {w : World} {g : Nat} (x y : Int) (h : Blk w g 75 #[.int .i64 x, .int .i64 y]) : RdSl R_Note w w.heap.size [(x, y)] (some ⟨g, 0, none⟩) 1 := by
  refine ⟨Nat.le_refl _, by unfold maxLen; omega, fun _ => ⟨g, 0, rfl, h.lt, fun i x hx => ?_⟩⟩
  cases i with
  | zero =>
    simp at hx
    subst hx
    refine ⟨[.int .i64 _, .int .i64 _], fun j c hj => ?_, mkrd_Note⟩
    simpa using h.at_ j (by simpa using hj)
  | succ i => simp at hx
theorem ixP_lt {P : List D_Pair} {f t : D_Label} {k : Nat} (h : ixP P f t = (k : Int)) : k < P.length := by
  unfold ixP at h
  split at h
  · rename_i q hq
    have h1 := (List.findIdx?_eq_some_iff_findIdx_eq.1 hq).1
    omega
  · omega
theorem pairV_right {C : List (List D_Label)} {P : List D_Pair} {Q : List D_Quota} {hf : Int} {f t : D_Label} (h : CfgR C P Q hf) : pairV C P Q hf f t = ixP P f t := by
  unfold pairV
  rw [if_pos (cfgB_iff.2 h)]
theorem last_none {N : List D_Note} (h : N.length = 0) : lastAt N N.length = 0 := by rw [h]; rfl
set_option maxRecDepth 100000 in
set_option maxHeartbeats 1600000 in
theorem lastAt_impl {F G : List Int} {N : List D_Note} {fa ga la : Option Addr} {fc gc lc : Nat} {W : World} (hKN : RdSl R_Note W W.heap.size N la lc) :
    Calls Tryz.prog 46 #[.agg #[.slice fa F.length fc, .slice ga G.length gc, .slice la N.length lc]] W (IsI (lastAt N N.length) W) := by
  have hnN : N.length ≤ 9223372036854775807 := by have h1 := hKN.1; have h2 := hKN.2.1; unfold maxLen at h2; omega
  obtain ⟨w0, hw0⟩ : ∃ w, w = W.alloc (.cells #[.slice fa F.length fc, .slice ga G.length gc, .slice la N.length lc] 73) := ⟨_, rfl⟩
  have hb0 : Below W.heap.size W w0 := by rw [hw0]; exact (Below.refl _ _).alloc (Nat.le_refl _) _
  have x0_ : Blk w0 (W.heap.size) 73 #[.slice fa F.length fc, .slice ga G.length gc, .slice la N.length lc] := by
    have h9 := Blk.new W 73 #[.slice fa F.length fc, .slice ga G.length gc, .slice la N.length lc]
    try simp only [World.size_alloc] at h9
    rw [hw0]; exact h9
  have X0 := Lib.hid x0_
  have HB0 := Lib.hid hb0
  have hz0 := hb0.size
  clear hb0  x0_
  have HKN := Lib.hid (rd_mv R_Note_ok hKN HB0.out)
  go_enter Tryz.func46, Tryz.ntmps46
  go_upto_region 1 with fail
  rw [← hw0]
  clear hw0
  have q2 := X0.out.at_ 2 rfl
  by_cases hn0 : N.length = 0
  · have HLA := Lib.hid (last_none hn0)
    have e0_ : decide ((N.length : Int) = 0) = true := decide_eq_true (by omega)
    have e2_ : decide (N.length = 0) = true := decide_eq_true hn0
    have e3_ : ((N.length : Int) == 0) = true := by rw [beq_iff_eq]; omega
    have HN0 := Lib.hid hn0
    clear hn0
    go_wp2
    go_ret
    exact ⟨by rw [HLA.out]; rfl, HB0.out⟩
  have e0_ : decide ((N.length : Int) = 0) = false := decide_eq_false (by omega)
  have e2_ : decide (N.length = 0) = false := decide_eq_false hn0
  have e3_ : ((N.length : Int) == 0) = false := by rw [beq_eq_false_iff_ne]; omega
  obtain ⟨j, hj⟩ : ∃ j, N.length = j + 1 := ⟨N.length - 1, by omega⟩
  have HJ := Lib.hid hj
  have hjn : j < N.length := by omega
  obtain ⟨⟨n0, n1⟩, hn9⟩ := el_some hjn
  have HLA9 := Lib.hid (show lastAt N N.length = n0 from by rw [HJ.out]; exact lastAt_succ hn9)
  obtain ⟨gl, ol, us, rfl, hgl, hu, hr⟩ := HKN.out.at_ hn9
  obtain rfl := rd_Note hr
  have n9 : w0.cell? ⟨gl, ol + j * 2, none⟩ = some (.int .i64 n0) := by simpa [size_NoteS, Nat.add_assoc] using hu 0 _ rfl
  have hw9 : IntKind.i64.wrap ((N.length : Int) - 1) = (j : Int) := by rw [IntWalk.i64_in _ (by omega)]; omega
  have hj0 : (0 : Int) ≤ (j : Int) := Int.natCast_nonneg _
  have hj1 : (j : Int) < (N.length : Int) := by omega
  clear hu hr hj hn9 hgl
  have HN9 := Lib.hid hn0
  clear hn0
  go_wp2
  go_ret
  exact ⟨by rw [HLA9.out]; rfl, HB0.out⟩
set_option maxRecDepth 100000 in
set_option maxHeartbeats 6400000 in
theorem msend_impl {C : List (List D_Label)} {P : List D_Pair} {Q : List D_Quota} {hf : Int} {ca pa qa : Option Addr} {cc pc qc : Nat} {M : List D_Box} {xa : Option Addr} {xc : Nat} {l0 s0 l1 s1 : Int} {x now : Int} {W : World} (hC : RdSl (Sl R_Label) W W.heap.size C ca cc) (hP : RdSl R_Pair W W.heap.size P pa pc) (hQ : RdSl R_Quota W W.heap.size Q qa qc) (hX : RdSl R_Box W W.heap.size M xa xc) :
    Calls Tryz.prog 14 #[.agg #[.slice ca C.length cc, .slice pa P.length pc, .slice qa Q.length qc, .int .i64 hf], .agg #[.slice xa M.length xc], .agg #[.int .i64 l0, .int .i64 s0], .agg #[.int .i64 l1, .int .i64 s1], .int .i64 x, .int .i64 now] W (NewV R_MailOut (sendV (C, P, Q, hf) M (l0, s0) (l1, s1) x now) W) := by
  have hnM : M.length ≤ 9223372036854775807 := by have h1 := hX.1; have h2 := hX.2.1; unfold maxLen at h2; omega
  have hnP : P.length ≤ 9223372036854775807 := by have h1 := hP.1; have h2 := hP.2.1; unfold maxLen at h2; omega
  obtain ⟨b0, hb0⟩ : ∃ b, mailB (C, P, Q, hf) M = b := ⟨_, rfl⟩
  have Hb0 := Lib.hid hb0
  clear hb0
  obtain ⟨nb, hnb⟩ : ∃ b, isB now 0 999900 = b := ⟨_, rfl⟩
  have HNB := Lib.hid hnb
  clear hnb
  obtain ⟨w0, hw0⟩ : ∃ w, w = ((((W.alloc (.cells #[.slice ca C.length cc, .slice pa P.length pc, .slice qa Q.length qc, .int .i64 hf] 44)).alloc (.cells #[.slice xa M.length xc] 36)).alloc (.cells #[.int .i64 l0, .int .i64 s0] 47)).alloc (.cells #[.int .i64 l1, .int .i64 s1] 47)).alloc (.cells #[.slice none 0 0, .int .i64 0] 38) := ⟨_, rfl⟩
  have hb0 : Below W.heap.size W w0 := by rw [hw0]; exact (((((Below.refl _ _).alloc (Nat.le_refl _) _).alloc (by simp) _).alloc (by simp <;> omega) _).alloc (by simp <;> omega) _).alloc (by simp <;> omega) _
  have x0_ : Blk w0 (W.heap.size) 44 #[.slice ca C.length cc, .slice pa P.length pc, .slice qa Q.length qc, .int .i64 hf] := by
    have h9 := Blk.new W 44 #[.slice ca C.length cc, .slice pa P.length pc, .slice qa Q.length qc, .int .i64 hf]
    try simp only [World.size_alloc] at h9
    rw [hw0]; exact ((((h9.alloc _).alloc _).alloc _).alloc _)
  have X0 := Lib.hid x0_
  have x1_ : Blk w0 (W.heap.size + 1) 36 #[.slice xa M.length xc] := by
    have h9 := Blk.new (W.alloc (.cells #[.slice ca C.length cc, .slice pa P.length pc, .slice qa Q.length qc, .int .i64 hf] 44)) 36 #[.slice xa M.length xc]
    try simp only [World.size_alloc] at h9
    rw [hw0]; exact (((h9.alloc _).alloc _).alloc _)
  have X1 := Lib.hid x1_
  have x2_ : Blk w0 (W.heap.size + 1 + 1) 47 #[.int .i64 l0, .int .i64 s0] := by
    have h9 := Blk.new ((W.alloc (.cells #[.slice ca C.length cc, .slice pa P.length pc, .slice qa Q.length qc, .int .i64 hf] 44)).alloc (.cells #[.slice xa M.length xc] 36)) 47 #[.int .i64 l0, .int .i64 s0]
    try simp only [World.size_alloc] at h9
    rw [hw0]; exact ((h9.alloc _).alloc _)
  have X2 := Lib.hid x2_
  have x3_ : Blk w0 (W.heap.size + 1 + 1 + 1) 47 #[.int .i64 l1, .int .i64 s1] := by
    have h9 := Blk.new (((W.alloc (.cells #[.slice ca C.length cc, .slice pa P.length pc, .slice qa Q.length qc, .int .i64 hf] 44)).alloc (.cells #[.slice xa M.length xc] 36)).alloc (.cells #[.int .i64 l0, .int .i64 s0] 47)) 47 #[.int .i64 l1, .int .i64 s1]
    try simp only [World.size_alloc] at h9
    rw [hw0]; exact (h9.alloc _)
  have X3 := Lib.hid x3_
  have x4_ : Blk w0 (W.heap.size + 1 + 1 + 1 + 1) 38 #[.slice none 0 0, .int .i64 0] := by
    have h9 := Blk.new ((((W.alloc (.cells #[.slice ca C.length cc, .slice pa P.length pc, .slice qa Q.length qc, .int .i64 hf] 44)).alloc (.cells #[.slice xa M.length xc] 36)).alloc (.cells #[.int .i64 l0, .int .i64 s0] 47)).alloc (.cells #[.int .i64 l1, .int .i64 s1] 47)) 38 #[.slice none 0 0, .int .i64 0]
    try simp only [World.size_alloc] at h9
    rw [hw0]; exact h9
  have X4 := Lib.hid x4_
  have HC := Lib.hid (rd_mv (Sl_ok R_Label_ok) hC hb0)
  have HP := Lib.hid (rd_mv R_Pair_ok hP hb0)
  have HQ := Lib.hid (rd_mv R_Quota_ok hQ hb0)
  have HX := Lib.hid (rd_mv R_Box_ok hX hb0)
  have HB0 := Lib.hid hb0
  have hz0 := hb0.size
  clear hb0 hC hP hQ hX x0_ x1_ x2_ x3_ x4_
  go_enter Tryz.func14, Tryz.ntmps14
  go_upto_region 1 with fail
  rw [← hw0]
  clear hw0
  have qX0_0 := X0.out.at_ 0 rfl
  have qX0_1 := X0.out.at_ 1 rfl
  have qX0_2 := X0.out.at_ 2 rfl
  have qX0_3 := X0.out.at_ 3 rfl
  have qX1_0 := X1.out.at_ 0 rfl
  go_wp2_with fail
  have hcx := mail_impl (hf := hf) HC.out HP.out HQ.out HX.out
  rw [Hb0.out] at hcx
  refine hcx.mono ?_
  intro e v1 h
  obtain ⟨rfl, hb⟩ := isB_elim h
  have HC := Lib.hid (rd_mv (Sl_ok R_Label_ok) HC.out hb)
  have HP := Lib.hid (rd_mv R_Pair_ok HP.out hb)
  have HQ := Lib.hid (rd_mv R_Quota_ok HQ.out hb)
  have HX := Lib.hid (rd_mv R_Box_ok HX.out hb)
  have X0 := Lib.hid (X0.out.call hb)
  have X1 := Lib.hid (X1.out.call hb)
  have X2 := Lib.hid (X2.out.call hb)
  have X3 := Lib.hid (X3.out.call hb)
  have X4 := Lib.hid (X4.out.call hb)
  have HB0 := Lib.hid (HB0.out.trans (hb.mono HB0.out.size))
  clear h hb hcx qX0_0 qX0_1 qX0_2 qX0_3 qX1_0
  have HBV := HB0
  have hz1 := HB0.out.size
  cases b0 with
  | false =>
    have HE := Lib.hid (show sendV (C, P, Q, hf) M (l0, s0) (l1, s1) x now = ([], 1) from sendV_form (fun h => absurd (Hb0.out.symm.trans h.1) (by decide)))
    have XZ := X4
    have HBR := HB0
    have q0 := XZ.out.at_ 0 rfl
    have q1 := XZ.out.at_ 1 rfl
    have s0 := XZ.out.soft 0
    have s1 := XZ.out.soft 1
    go_wp2
    refine bodyPost_ret (v := .agg #[.slice none 0 0, .int .i64 1]) (by simp [results, Tryz.results14, go_sem, *]) rfl ⟨[.slice none 0 0, .int .i64 1], rfl, ?_, (HBR.out.setCell (p := ⟨W.heap.size + 1 + 1 + 1 + 1, 0, none⟩) (by show W.heap.size ≤ W.heap.size + 1 + 1 + 1 + 1; omega) _).setCell (p := ⟨W.heap.size + 1 + 1 + 1 + 1, 1, none⟩) (by show W.heap.size ≤ W.heap.size + 1 + 1 + 1 + 1; omega) _⟩
    rw [HE.out]
    exact out_code 1
  | true =>
  go_wp2_with fail
  refine (nowi_eq now HNB.out _).mono ?_
  rintro e v2 ⟨rfl, rfl⟩
  cases nb with
  | false =>
    have HE := Lib.hid (show sendV (C, P, Q, hf) M (l0, s0) (l1, s1) x now = ([], 1) from sendV_form (fun h => absurd (HNB.out.symm.trans h.2) (by decide)))
    have XZ := X4
    have HBR := HB0
    have q0 := XZ.out.at_ 0 rfl
    have q1 := XZ.out.at_ 1 rfl
    have s0 := XZ.out.soft 0
    have s1 := XZ.out.soft 1
    go_wp2
    refine bodyPost_ret (v := .agg #[.slice none 0 0, .int .i64 1]) (by simp [results, Tryz.results14, go_sem, *]) rfl ⟨[.slice none 0 0, .int .i64 1], rfl, ?_, (HBR.out.setCell (p := ⟨W.heap.size + 1 + 1 + 1 + 1, 0, none⟩) (by show W.heap.size ≤ W.heap.size + 1 + 1 + 1 + 1; omega) _).setCell (p := ⟨W.heap.size + 1 + 1 + 1 + 1, 1, none⟩) (by show W.heap.size ≤ W.heap.size + 1 + 1 + 1 + 1; omega) _⟩
    rw [HE.out]
    exact out_code 1
  | true =>
  have HMP := Lib.hid (mailB_iff.1 Hb0.out)
  have HT := Lib.hid (And.intro Hb0.out HNB.out)
  have hM4 : M.length ≤ 4 := mail_len HMP.out
  have hLP := Lib.hid (show M.length = P.length from HMP.out.2.1)
  obtain ⟨ix, hix⟩ : ∃ i, ixP P (l0, s0) (l1, s1) = i := ⟨_, rfl⟩
  have HIX := Lib.hid hix
  clear hix
  have qX0_0 := X0.out.at_ 0 rfl
  have qX0_1 := X0.out.at_ 1 rfl
  have qX0_2 := X0.out.at_ 2 rfl
  have qX0_3 := X0.out.at_ 3 rfl
  have qX2_0 := X2.out.at_ 0 rfl
  have qX2_1 := X2.out.at_ 1 rfl
  have qX3_0 := X3.out.at_ 0 rfl
  have qX3_1 := X3.out.at_ 1 rfl
  go_wp2_with fail
  have hcx := pairix_impl (f0 := l0) (f1 := s0) (t0 := l1) (t1 := s1) HP.out
  rw [HIX.out] at hcx
  refine hcx.mono ?_
  intro e v2 h
  obtain ⟨rfl, hb⟩ := isI_elim h
  have HC := Lib.hid (rd_mv (Sl_ok R_Label_ok) HC.out hb)
  have HP := Lib.hid (rd_mv R_Pair_ok HP.out hb)
  have HQ := Lib.hid (rd_mv R_Quota_ok HQ.out hb)
  have HX := Lib.hid (rd_mv R_Box_ok HX.out hb)
  have X0 := Lib.hid (X0.out.call hb)
  have X1 := Lib.hid (X1.out.call hb)
  have X2 := Lib.hid (X2.out.call hb)
  have X3 := Lib.hid (X3.out.call hb)
  have X4 := Lib.hid (X4.out.call hb)
  have HB0 := Lib.hid (HB0.out.trans (hb.mono HB0.out.size))
  clear h hb hcx HBV hz1 qX0_0 qX0_1 qX0_2 qX0_3 qX2_0 qX2_1 qX3_0 qX3_1
  have HBV := HB0
  have hz1 := HB0.out.size
  by_cases hneg : ix < 0
  · have HE := Lib.hid (show sendV (C, P, Q, hf) M (l0, s0) (l1, s1) x now = ([], 11) from sendV_label HT.out (show ixP P (l0, s0) (l1, s1) < 0 from by rw [HIX.out]; exact hneg))
    have hd : decide (ix < 0) = true := decide_eq_true hneg
    have XZ := X4
    have HBR := HB0
    have q0 := XZ.out.at_ 0 rfl
    have q1 := XZ.out.at_ 1 rfl
    have s0 := XZ.out.soft 0
    have s1 := XZ.out.soft 1
    go_wp2
    refine bodyPost_ret (v := .agg #[.slice none 0 0, .int .i64 11]) (by simp [results, Tryz.results14, go_sem, *]) rfl ⟨[.slice none 0 0, .int .i64 11], rfl, ?_, (HBR.out.setCell (p := ⟨W.heap.size + 1 + 1 + 1 + 1, 0, none⟩) (by show W.heap.size ≤ W.heap.size + 1 + 1 + 1 + 1; omega) _).setCell (p := ⟨W.heap.size + 1 + 1 + 1 + 1, 1, none⟩) (by show W.heap.size ≤ W.heap.size + 1 + 1 + 1 + 1; omega) _⟩
    rw [HE.out]
    exact out_code 11
  obtain ⟨k, rfl⟩ : ∃ k : Nat, ix = (k : Int) := ⟨ix.toNat, by omega⟩
  have hlt : k < P.length := ixP_lt HIX.out
  have hlm : k < M.length := by have h1 := hLP.out; omega
  have hd : decide ((k : Int) < 0) = false := decide_eq_false (by omega)
  obtain ⟨⟨⟨f0, f1⟩, ⟨t0, t1⟩, rt⟩, hp⟩ := el_some hlt
  obtain ⟨⟨F, G, N⟩, hx⟩ := el_some hlm
  have HX9 := Lib.hid hx
  have HP9 := Lib.hid hp
  have hsm := box_small HMP.out _ (List.mem_of_getElem? hx)
  have hl0 : F.length ≤ 1048576 := hsm.1
  have hl2 : N.length ≤ 1048576 := hsm.2.2
  obtain ⟨gp, op, us, rfl, hgp, hu, hr⟩ := HP.out.at_ hp
  obtain rfl := rd_Pair hr
  have HGP := Lib.hid hgp
  have A0 := Lib.hid (show v2.cell? ⟨gp, op + k * 5, none⟩ = some (.int .i64 f0) from by simpa [size_PairS, Nat.add_assoc] using hu 0 _ rfl)
  have A1 := Lib.hid (show v2.cell? ⟨gp, op + k * 5 + 1, none⟩ = some (.int .i64 f1) from by simpa [size_PairS, Nat.add_assoc] using hu 1 _ rfl)
  have A2 := Lib.hid (show v2.cell? ⟨gp, op + k * 5 + 2, none⟩ = some (.int .i64 t0) from by simpa [size_PairS, Nat.add_assoc] using hu 2 _ rfl)
  have A3 := Lib.hid (show v2.cell? ⟨gp, op + k * 5 + 3, none⟩ = some (.int .i64 t1) from by simpa [size_PairS, Nat.add_assoc] using hu 3 _ rfl)
  have A4 := Lib.hid (show v2.cell? ⟨gp, op + k * 5 + 4, none⟩ = some (.int .i64 rt) from by simpa [size_PairS, Nat.add_assoc] using hu 4 _ rfl)
  clear hu hr hgp hp
  obtain ⟨gm, om, us, rfl, hgm, hu, hr⟩ := HX.out.at_ hx
  obtain ⟨fa, fc, ga, gc, la, lc, rfl, k_F, k_G, k_N⟩ := rd_Box hr
  have HGM := Lib.hid hgm
  have HKF := Lib.hid k_F
  have HKN := Lib.hid k_N
  have B0 := Lib.hid (show v2.cell? ⟨gm, om + k * 3, none⟩ = some (.slice fa F.length fc) from by simpa [size_BoxS, Nat.add_assoc] using hu 0 _ rfl)
  have B1 := Lib.hid (show v2.cell? ⟨gm, om + k * 3 + 1, none⟩ = some (.slice ga G.length gc) from by simpa [size_BoxS, Nat.add_assoc] using hu 1 _ rfl)
  have B2 := Lib.hid (show v2.cell? ⟨gm, om + k * 3 + 2, none⟩ = some (.slice la N.length lc) from by simpa [size_BoxS, Nat.add_assoc] using hu 2 _ rfl)
  have hi0 : (0 : Int) ≤ (k : Int) := Int.natCast_nonneg _
  have hi1 : (k : Int) < (M.length : Int) := by omega
  have hi2 : (k : Int) < (P.length : Int) := by omega
  have hFn : F.length ≤ 9223372036854775807 := by omega
  have hNn : N.length ≤ 9223372036854775807 := by omega
  have hGn : G.length ≤ 9223372036854775807 := by have h1 := hsm.2.1; simp only at h1; omega
  have hMp : 0 < M.length := by omega
  clear hu hr hgm hx hsm k_F k_G k_N
  have q0 := X1.out.at_ 0 rfl
  have b0_ := B0.out
  have b1_ := B1.out
  have b2_ := B2.out
  go_upto_region 7 with fail
  clear q0 b0_ b1_ b2_
  obtain ⟨w2, hw2⟩ : ∃ u, u = v2.alloc (.cells #[.slice fa F.length fc, .slice ga G.length gc, .slice la N.length lc] 73) := ⟨_, rfl⟩
  have hbA : Below v2.heap.size v2 w2 := by rw [hw2]; exact (Below.refl _ _).alloc (Nat.le_refl _) _
  have XB := Lib.hid (show Blk w2 v2.heap.size 73 #[.slice fa F.length fc, .slice ga G.length gc, .slice la N.length lc] from by rw [hw2]; exact Blk.new _ _ _)
  rw [← hw2]
  clear hw2
  have HC := Lib.hid (rd_mv (Sl_ok R_Label_ok) HC.out hbA)
  have HP := Lib.hid (rd_mv R_Pair_ok HP.out hbA)
  have HQ := Lib.hid (rd_mv R_Quota_ok HQ.out hbA)
  have HX := Lib.hid (rd_mv R_Box_ok HX.out hbA)
  have X0 := Lib.hid (X0.out.call hbA)
  have X1 := Lib.hid (X1.out.call hbA)
  have X4 := Lib.hid (X4.out.call hbA)
  have HB0 := Lib.hid (HB0.out.trans (hbA.mono HB0.out.size))
  have A0 := Lib.hid ((hbA.cell (p := ⟨gp, op + k * 5, none⟩) HGP.out).trans A0.out)
  have A1 := Lib.hid ((hbA.cell (p := ⟨gp, op + k * 5 + 1, none⟩) HGP.out).trans A1.out)
  have A2 := Lib.hid ((hbA.cell (p := ⟨gp, op + k * 5 + 2, none⟩) HGP.out).trans A2.out)
  have A3 := Lib.hid ((hbA.cell (p := ⟨gp, op + k * 5 + 3, none⟩) HGP.out).trans A3.out)
  have A4 := Lib.hid ((hbA.cell (p := ⟨gp, op + k * 5 + 4, none⟩) HGP.out).trans A4.out)
  have HGP := Lib.hid (Nat.lt_of_lt_of_le HGP.out hbA.size)
  have HKF := Lib.hid (rd_mv I_ok HKF.out hbA)
  have HKN := Lib.hid (rd_mv R_Note_ok HKN.out hbA)
  clear hbA HBV hz1 HGM B0 B1 B2
  have HBV := HB0
  have hz1 := HB0.out.size
  have q0 := XB.out.at_ 0 rfl
  have q1 := XB.out.at_ 1 rfl
  have q2 := XB.out.at_ 2 rfl
  obtain ⟨n0, hn0⟩ : ∃ n, lastAt N N.length = n := ⟨_, rfl⟩
  have HLA9 := Lib.hid hn0
  go_wp2_with fail
  have hcx := lastAt_impl (fa := fa) (ga := ga) (fc := fc) (gc := gc) (F := F) (G := G) HKN.out
  rw [hn0] at hcx
  refine hcx.mono ?_
  clear hn0
  intro e v4 h
  obtain ⟨rfl, hb⟩ := isI_elim h
  have HC := Lib.hid (rd_mv (Sl_ok R_Label_ok) HC.out hb)
  have HP := Lib.hid (rd_mv R_Pair_ok HP.out hb)
  have HQ := Lib.hid (rd_mv R_Quota_ok HQ.out hb)
  have HX := Lib.hid (rd_mv R_Box_ok HX.out hb)
  have X0 := Lib.hid (X0.out.call hb)
  have X1 := Lib.hid (X1.out.call hb)
  have X4 := Lib.hid (X4.out.call hb)
  have XB := Lib.hid (XB.out.call hb)
  have HB0 := Lib.hid (HB0.out.trans (hb.mono HB0.out.size))
  have A0 := Lib.hid ((hb.cell (p := ⟨gp, op + k * 5, none⟩) HGP.out).trans A0.out)
  have A1 := Lib.hid ((hb.cell (p := ⟨gp, op + k * 5 + 1, none⟩) HGP.out).trans A1.out)
  have A2 := Lib.hid ((hb.cell (p := ⟨gp, op + k * 5 + 2, none⟩) HGP.out).trans A2.out)
  have A3 := Lib.hid ((hb.cell (p := ⟨gp, op + k * 5 + 3, none⟩) HGP.out).trans A3.out)
  have A4 := Lib.hid ((hb.cell (p := ⟨gp, op + k * 5 + 4, none⟩) HGP.out).trans A4.out)
  have HGP := Lib.hid (Nat.lt_of_lt_of_le HGP.out hb.size)
  have HKF := Lib.hid (rd_mv I_ok HKF.out hb)
  have HKN := Lib.hid (rd_mv R_Note_ok HKN.out hb)
  clear h hb hcx HBV hz1 q0 q1 q2
  have HBV := HB0
  have hz1 := HB0.out.size
  by_cases hlt9 : now < n0
  · have HLT := Lib.hid (show now < lastAt N N.length from by rw [HLA9.out]; exact hlt9)
    have e3_ : decide (n0 > now) = true := decide_eq_true hlt9
    have e4_ : decide (now < n0) = true := decide_eq_true hlt9
    have HE := Lib.hid (show sendV (C, P, Q, hf) M (l0, s0) (l1, s1) x now = ([], 1) from sendV_late HT.out HIX.out HX9.out HP9.out HLT.out)
    have XZ := X4
    have HBR := HB0
    have q0 := XZ.out.at_ 0 rfl
    have q1 := XZ.out.at_ 1 rfl
    have s0 := XZ.out.soft 0
    have s1 := XZ.out.soft 1
    go_wp2
    refine bodyPost_ret (v := .agg #[.slice none 0 0, .int .i64 1]) (by simp [results, Tryz.results14, go_sem, *]) rfl ⟨[.slice none 0 0, .int .i64 1], rfl, ?_, (HBR.out.setCell (p := ⟨W.heap.size + 1 + 1 + 1 + 1, 0, none⟩) (by show W.heap.size ≤ W.heap.size + 1 + 1 + 1 + 1; omega) _).setCell (p := ⟨W.heap.size + 1 + 1 + 1 + 1, 1, none⟩) (by show W.heap.size ≤ W.heap.size + 1 + 1 + 1 + 1; omega) _⟩
    rw [HE.out]
    exact out_code 1
  have HLT := Lib.hid (show ¬ now < lastAt N N.length from by rw [HLA9.out]; exact hlt9)
  have e3_ : decide (n0 > now) = false := decide_eq_false hlt9
  have e4_ : decide (now < n0) = false := decide_eq_false hlt9
  go_upto_region 9 with fail
  clear e3_ e4_
  obtain ⟨bt, hbt⟩ : ∃ b, decide ((F.length : Int) < rt) = b := ⟨_, rfl⟩
  have HBT := Lib.hid hbt
  refine wp_region_held_drew (S := (fun V => Below (v4).heap.size (v4) V)) (by kernel_rfl) ((Below.refl _ _).drew) (fun hHeld => ?_)
  refine tk 0 hHeld ?_ (hy := fun w hSw => by (try dsimp only at hSw); have k0 := (hSw.cell (p := ⟨v2.heap.size, 0, none⟩) XB.out.lt).trans (XB.out.at_ 0 rfl); have k1 := (hSw.cell (p := ⟨v2.heap.size, 1, none⟩) XB.out.lt).trans (XB.out.at_ 1 rfl); have k2 := (hSw.cell (p := ⟨v2.heap.size, 2, none⟩) XB.out.lt).trans (XB.out.at_ 2 rfl); clear hSw; go_simp; try with_reducible rfl)
  refine tk 1 hHeld ?_
  refine tk 2 hHeld ?_ (hy := fun w hSw => by (try dsimp only at hSw); have k0 := (hSw.cell (p := ⟨W.heap.size, 1, none⟩) X0.out.lt).trans (X0.out.at_ 1 rfl); clear hSw; go_simp; try with_reducible rfl)
  refine tk 3 hHeld ?_
  refine tk 4 hHeld ?_
  refine tk 5 hHeld ?_ (hy := fun w hSw => by (try dsimp only at hSw); have k0 := (hSw.cell (p := ⟨gp, op + k * 5, none⟩) HGP.out).trans A0.out; have k1 := (hSw.cell (p := ⟨gp, op + k * 5 + 1, none⟩) HGP.out).trans A1.out; have k2 := (hSw.cell (p := ⟨gp, op + k * 5 + 2, none⟩) HGP.out).trans A2.out; have k3 := (hSw.cell (p := ⟨gp, op + k * 5 + 3, none⟩) HGP.out).trans A3.out; have k4 := (hSw.cell (p := ⟨gp, op + k * 5 + 4, none⟩) HGP.out).trans A4.out; clear hSw; go_simp; try with_reducible rfl)
  refine rd1 6 (fun K hK => ?_)
  go_simp
  go_at_call 47
  refine (takes_impl HBT.out hFn).mono ?_
  intro e w1 h
  obtain ⟨rfl, hb⟩ := isB_elim h
  clear h
  refine hK.out _ _ (hHeld.trans (hb.mono hHeld.size)) (fun hHeld => ?_)
  clear hK K hb
  refine tk 7 hHeld ?_
  refine tk 8 hHeld ?_
  refine rd0 ?_
  have HF := Lib.hid hHeld
  clear hHeld
  have HC := Lib.hid (rd_mv (Sl_ok R_Label_ok) HC.out HF.out)
  have HP := Lib.hid (rd_mv R_Pair_ok HP.out HF.out)
  have HQ := Lib.hid (rd_mv R_Quota_ok HQ.out HF.out)
  have HX := Lib.hid (rd_mv R_Box_ok HX.out HF.out)
  have X0 := Lib.hid (X0.out.call HF.out)
  have X1 := Lib.hid (X1.out.call HF.out)
  have X4 := Lib.hid (X4.out.call HF.out)
  have XB := Lib.hid (XB.out.call HF.out)
  have HB0 := Lib.hid (HB0.out.trans (HF.out.mono HB0.out.size))
  have HKF := Lib.hid (rd_mv I_ok HKF.out HF.out)
  have HKN := Lib.hid (rd_mv R_Note_ok HKN.out HF.out)
  clear HF HBV hz1 A0 A1 A2 A3 A4 HGP
  have HBV := HB0
  cases bt with
  | false =>
    have hge : rt ≤ (F.length : Int) := by have h1 := of_decide_eq_false hbt; omega
    have HE := Lib.hid (show sendV (C, P, Q, hf) M (l0, s0) (l1, s1) x now = ([], 8) from sendV_range HT.out HIX.out HX9.out HP9.out (show ¬ now < lastAt N N.length from by have h1 := HLT.out; omega) hge)
    have XZ := X4
    have HBR := HB0
    have q0 := XZ.out.at_ 0 rfl
    have q1 := XZ.out.at_ 1 rfl
    have s0 := XZ.out.soft 0
    have s1 := XZ.out.soft 1
    go_wp2
    refine bodyPost_ret (v := .agg #[.slice none 0 0, .int .i64 8]) (by simp [results, Tryz.results14, go_sem, *]) rfl ⟨[.slice none 0 0, .int .i64 8], rfl, ?_, (HBR.out.setCell (p := ⟨W.heap.size + 1 + 1 + 1 + 1, 0, none⟩) (by show W.heap.size ≤ W.heap.size + 1 + 1 + 1 + 1; omega) _).setCell (p := ⟨W.heap.size + 1 + 1 + 1 + 1, 1, none⟩) (by show W.heap.size ≤ W.heap.size + 1 + 1 + 1 + 1; omega) _⟩
    rw [HE.out]
    exact out_code 8
  | true =>
  have hge : ¬ rt ≤ (F.length : Int) := by have h1 := of_decide_eq_true hbt; omega
  clear hbt
  have hN12 : N.length ≤ 12 := by obtain ⟨p9, _, hb9, _, _⟩ := mail_pair HMP.out HX9.out; exact hb9.2.2.1
  have q2 := XB.out.at_ 2 rfl
  by_cases hfu : 12 ≤ N.length
  · have HE := Lib.hid (show sendV (C, P, Q, hf) M (l0, s0) (l1, s1) x now = ([], 9) from sendV_full HT.out HIX.out HX9.out HP9.out (show ¬ now < lastAt N N.length from by have h1 := HLT.out; omega) hge hfu)
    have e0_ : decide ((N.length : Int) = 12) = true := decide_eq_true (by omega)
    have e2_ : decide (N.length = 12) = true := decide_eq_true (by omega)
    have e3_ : ((N.length : Int) == 12) = true := by rw [beq_iff_eq]; omega
    have e4_ : (N.length == 12) = true := by rw [beq_iff_eq]; omega
    have XZ := X4
    have HBR := HB0
    have q0 := XZ.out.at_ 0 rfl
    have q1 := XZ.out.at_ 1 rfl
    have s0 := XZ.out.soft 0
    have s1 := XZ.out.soft 1
    go_wp2
    refine bodyPost_ret (v := .agg #[.slice none 0 0, .int .i64 9]) (by simp [results, Tryz.results14, go_sem, *]) rfl ⟨[.slice none 0 0, .int .i64 9], rfl, ?_, (HBR.out.setCell (p := ⟨W.heap.size + 1 + 1 + 1 + 1, 0, none⟩) (by show W.heap.size ≤ W.heap.size + 1 + 1 + 1 + 1; omega) _).setCell (p := ⟨W.heap.size + 1 + 1 + 1 + 1, 1, none⟩) (by show W.heap.size ≤ W.heap.size + 1 + 1 + 1 + 1; omega) _⟩
    rw [HE.out]
    exact out_code 9
  have e0_ : decide ((N.length : Int) = 12) = false := decide_eq_false (by omega)
  have e2_ : decide (N.length = 12) = false := decide_eq_false (by omega)
  have e3_ : ((N.length : Int) == 12) = false := by rw [beq_eq_false_iff_ne]; omega
  have e4_ : (N.length == 12) = false := by rw [beq_eq_false_iff_ne]; omega
  have HE := Lib.hid (show sendV (C, P, Q, hf) M (l0, s0) (l1, s1) x now = (M.set k (F ++ [x], G, N ++ [(now, x)]), 0) from sendV_ok HT.out HIX.out HX9.out HP9.out (show ¬ now < lastAt N N.length from by have h1 := HLT.out; omega) hge hfu)
  have q1 := X1.out.at_ 0 rfl
  go_wp2_with fail
  refine (copied_m (by omega) (box_small HMP.out) HX.out).mono ?_
  intro e v5 h
  obtain ⟨us, rfl, hu, hb⟩ := newV_elim h
  obtain ⟨a, c, T0, rfl, ho⟩ : ∃ a c, ∃ T : Nat → Prop, us = [.slice a M.length c] ∧ OwSl R_Box v5 (Rg w1.heap.size v5.heap.size) M a c := by
      obtain ⟨a, c, T0, rfl, hT, h9⟩ := ow_Mail hu
      exact ⟨a, c, fun _ => True, rfl, h9.more hT⟩
  clear h hu q1
  obtain ⟨w3, hw3⟩ : ∃ u, u = v5.alloc (.cells #[.slice a M.length c] 36) := ⟨_, rfl⟩
  obtain ⟨g, rfl, hO⟩ := OutS.init R_Box_ok ho hMp hb
  rw [← hw3] at hO
  have HO := Lib.hid hO
  clear hO ho hb
  go_upto_region 14 with fail
  rw [← hw3]
  clear hw3 q2
  have HX8 := Lib.hid (show (M.set k (F ++ [x], G, N))[k]? = some (F ++ [x], G, N) from List.getElem?_set_self hlm)
  have hb19 := HO.out.bel
  have XB9 := Lib.hid (XB.out.call hb19)
  have HKX := Lib.hid (rd_mv I_ok HKF.out hb19)
  clear hb19
  refine kregion [10] (S := (fun V => Below w3.heap.size w3 V)) (by kernel_rfl) ((Below.refl _ _).drew) (fun hHeld => ?_)
  obtain ⟨wd, hwd⟩ : ∃ u, u = w3.drew := ⟨_, rfl⟩
  rw [← hwd] at hHeld
  rw [← hwd]
  clear hwd
  refine kp 0 ?_
  refine kk 1 hHeld ?_ (hy := fun w hSw => by (try dsimp only at hSw); have k0 := (hSw.cell (p := ⟨v5.heap.size, 0, none⟩) HO.out.var.lt).trans (HO.out.var.at_ 0 rfl); clear hSw; go_simp; try with_reducible rfl)
  refine kp 2 ?_
  refine kp 3 ?_
  refine kk 4 hHeld ?_ (hy := fun w hSw => by (try dsimp only at hSw); have k0 := (hSw.cell (p := ⟨v2.heap.size, 0, none⟩) XB9.out.lt).trans (XB9.out.at_ 0 rfl); clear hSw; go_simp; try with_reducible rfl)
  refine kp 5 ?_
  refine kr (rs := [6]) (by kernel_rfl) (by simp) (AllK.cons rfl (fun K hK => ?_) AllK.nil)
  go_simp
  obtain ⟨u1, hu1⟩ : ∃ u, u = wd.alloc (.cells #[.int .i64 x] 2) := ⟨_, rfl⟩
  have hb : Below wd.heap.size wd u1 := by rw [hu1]; exact (Below.refl _ _).alloc (Nat.le_refl _) _
  have hbk : Blk u1 wd.heap.size 2 #[.int .i64 x] := by rw [hu1]; exact Blk.new _ _ _
  have HR1 := Lib.hid (rd_oneI x hbk)
  rw [← hu1]
  clear hu1
  have HSD := Lib.hid (hHeld.trans (hb.mono hHeld.size))
  refine hK.out _ _ HSD.out (fun hHeld => ?_)
  clear hK K hb hbk
  refine kr (rs := [7]) (by kernel_rfl) (by simp) (AllK.cons rfl (fun K hK => ?_) AllK.nil)
  go_simp
  go_at_call 49
  refine (moreI_impl (M := [x]) (by simp only [List.length_cons, List.length_nil]; omega) (rd_mv I_ok HKX.out hHeld) HR1.out).mono ?_
  intro e u2 h
  obtain ⟨p0, r0, rfl, ho, hb⟩ := newS_elim h
  have HN0 := Lib.hid (show OwSl I u2 (Rg w3.heap.size u2.heap.size) (F ++ [x]) p0 r0 from ho.more fun q hq => ⟨Nat.le_trans hHeld.size hq.1, hq.2⟩)
  refine hK.out _ _ (hHeld.trans (hb.mono hHeld.size)) (fun hHeld => ?_)
  clear hK K h ho hb
  refine kp 8 ?_
  refine kp 9 ?_
  refine kr (rs := [10]) (by kernel_rfl) (by simp) (AllK.last (by simp) rfl (fun K hK => ?_))
  obtain ⟨a9, c9, e9, f9, hO2⟩ := HO.out.nextP HX9.out hHeld HN0.out
  have HO := Lib.hid hO2
  clear hO2
  go_simp
  refine hK.out _ _ ?_
  clear hK K e9 f9 hHeld
  refine k0 ?_
  obtain ⟨w5, hw5⟩ : ∃ u, u = u2.setCell ⟨g, k * 3, none⟩ (.slice p0 (F ++ [x]).length r0) := ⟨_, rfl⟩
  rw [← hw5] at HO
  first | rw [← hw5] | (rw [show (F ++ [x]).length = F.length + 1 from by simp] at hw5; rw [← hw5])
  clear hw5
  go_upto_region 15 with fail
  have hb19 := HO.out.bel
  have XB9 := Lib.hid (XB.out.call hb19)
  have HKX := Lib.hid (rd_mv R_Note_ok HKN.out hb19)
  clear hb19
  refine kregion [12] (S := (fun V => Below w5.heap.size w5 V)) (by kernel_rfl) ((Below.refl _ _).drew) (fun hHeld => ?_)
  obtain ⟨wd, hwd⟩ : ∃ u, u = w5.drew := ⟨_, rfl⟩
  rw [← hwd] at hHeld
  rw [← hwd]
  clear hwd
  refine kp 0 ?_
  refine kk 1 hHeld ?_ (hy := fun w hSw => by (try dsimp only at hSw); have k0 := (hSw.cell (p := ⟨v5.heap.size, 0, none⟩) HO.out.var.lt).trans (HO.out.var.at_ 0 rfl); clear hSw; go_simp; try with_reducible rfl)
  refine kp 2 ?_
  refine kp 3 ?_
  refine kk 4 hHeld ?_ (hy := fun w hSw => by (try dsimp only at hSw); have k0 := (hSw.cell (p := ⟨v2.heap.size, 2, none⟩) XB9.out.lt).trans (XB9.out.at_ 2 rfl); clear hSw; go_simp; try with_reducible rfl)
  refine kp 5 ?_
  refine kp 6 ?_
  refine kp 7 ?_
  refine kr (rs := [8]) (by kernel_rfl) (by simp) (AllK.cons rfl (fun K hK => ?_) AllK.nil)
  go_simp
  obtain ⟨u1, hu1⟩ : ∃ u, u = wd.alloc (.cells #[.int .i64 now, .int .i64 x] 75) := ⟨_, rfl⟩
  have hb : Below wd.heap.size wd u1 := by rw [hu1]; exact (Below.refl _ _).alloc (Nat.le_refl _) _
  have hbk : Blk u1 wd.heap.size 75 #[.int .i64 now, .int .i64 x] := by rw [hu1]; exact Blk.new _ _ _
  have HR1 := Lib.hid (rd_oneN now x hbk)
  rw [← hu1]
  clear hu1
  have HSD := Lib.hid (hHeld.trans (hb.mono hHeld.size))
  refine hK.out _ _ HSD.out (fun hHeld => ?_)
  clear hK K hb hbk
  refine kr (rs := [9]) (by kernel_rfl) (by simp) (AllK.cons rfl (fun K hK => ?_) AllK.nil)
  go_simp
  go_at_call 50
  refine (moreN_impl (M := [(now, x)]) (by simp only [List.length_cons, List.length_nil]; omega) (rd_mv R_Note_ok HKX.out hHeld) HR1.out).mono ?_
  intro e u2 h
  obtain ⟨p0, r0, rfl, ho, hb⟩ := newS_elim h
  have HN0 := Lib.hid (show OwSl R_Note u2 (Rg w5.heap.size u2.heap.size) (N ++ [(now, x)]) p0 r0 from ho.more fun q hq => ⟨Nat.le_trans hHeld.size hq.1, hq.2⟩)
  refine hK.out _ _ (hHeld.trans (hb.mono hHeld.size)) (fun hHeld => ?_)
  clear hK K h ho hb
  refine kp 10 ?_
  refine kp 11 ?_
  refine kr (rs := [12]) (by kernel_rfl) (by simp) (AllK.last (by simp) rfl (fun K hK => ?_))
  obtain ⟨a9, c9, e9, f9, hO2⟩ := HO.out.logP HX8.out hHeld HN0.out
  have HO := Lib.hid hO2
  clear hO2
  go_simp
  refine hK.out _ _ ?_
  clear hK K e9 f9 hHeld
  refine k0 ?_
  obtain ⟨w7, hw5⟩ : ∃ u, u = u2.setCell ⟨g, k * 3 + 2, none⟩ (.slice p0 (N ++ [(now, x)]).length r0) := ⟨_, rfl⟩
  rw [← hw5] at HO
  first | rw [← hw5] | (rw [show (N ++ [(now, x)]).length = N.length + 1 from by simp] at hw5; rw [← hw5])
  clear hw5
  have h9 := HO.out
  rw [List.set_set] at h9
  have HO := Lib.hid h9
  clear h9
  have hbz := HO.out.bel
  have t9 := HO.out.var.at_ 0 rfl
  have XZ := Lib.hid (X4.out.call hbz)
  have HBZ := Lib.hid (HBV.out.trans (hbz.mono HBV.out.size))
  obtain ⟨S9, hS9, hfo⟩ := HO.out.fin
  have HFO := Lib.hid hfo
  have HS9 := Lib.hid hS9
  have q0 := XZ.out.at_ 0 rfl
  have q1 := XZ.out.at_ 1 rfl
  have s0 := XZ.out.soft 0
  have s1 := XZ.out.soft 1
  have hxl := X4.out.lt
  have hvz := HBV.out.size
  clear hbz hS9 hfo
  go_wp2
  refine bodyPost_ret (v := .agg #[.slice (some ⟨g, 0, none⟩) M.length c, .int .i64 0]) (by simp [results, Tryz.results14, go_sem, *]) rfl ⟨[.slice (some ⟨g, 0, none⟩) M.length c, .int .i64 0], rfl, ?_, (HBZ.out.setCell (p := ⟨W.heap.size + 1 + 1 + 1 + 1, 0, none⟩) (by show W.heap.size ≤ W.heap.size + 1 + 1 + 1 + 1; omega) _).setCell (p := ⟨W.heap.size + 1 + 1 + 1 + 1, 1, none⟩) (by show W.heap.size ≤ W.heap.size + 1 + 1 + 1 + 1; omega) _⟩
  rw [HE.out]
  have hfin := mkow_MailOut (W := (w7.setCell ⟨W.heap.size + 1 + 1 + 1 + 1, 0, none⟩ (.slice (some ⟨g, 0, none⟩) M.length c)).setCell ⟨W.heap.size + 1 + 1 + 1 + 1, 1, none⟩ (.int .i64 0)) (S := Rg W.heap.size w7.heap.size) (x1 := 0) (T0 := S9) (fun q hq => ⟨Nat.le_trans hvz (HS9.out q hq).1, (HS9.out q hq).2⟩) (HFO.out.keep R_Box_ok fun q hq => (Below.heap_setCell _ _ _ _ (fun e => by have h1 := (HS9.out q hq).1; have e2 : q = W.heap.size + 1 + 1 + 1 + 1 := e; omega)).trans (Below.heap_setCell _ _ _ _ (fun e => by have h1 := (HS9.out q hq).1; have e2 : q = W.heap.size + 1 + 1 + 1 + 1 := e; omega)))
  rw [List.length_set] at hfin
  simpa [World.setCell] using hfin
end Go.Proofs.YtlgflddljhldhaaGreat.RepC
end
