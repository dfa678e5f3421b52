/- Of this claim's texts the part 25: MlLs. -/
import Derived.Test.YtlgflddljhldhaaGreatPL23
import Derived.Test.YtlgflddljhldhaaGreatPL24
section
namespace Go.Proofs.YtlgflddljhldhaaGreat.RepC
open Go.RowKit RowC ValC SpanC KeptC CfC
set_option linter.unusedVariables false
set_option linter.unusedSimpArgs false
set_option maxRecDepth 100000 in
set_option maxHeartbeats 6400000 in
theorem mlay_spec {C : List (List D_Label)} {P : List D_Pair} {Q : List D_Quota} {hf : Int} {ca pa qa : Option Addr} {cc pc qc : Nat} {M : List D_Box} {xa : Option Addr} {xc : Nat} {i x : Int} {W : World} (hC : RdSl (Sl R_Label) W W.heap.size C ca cc) (hP : RdSl R_Pair W W.heap.size P pa pc) (hQ : RdSl R_Quota W W.heap.size Q qa qc) (hX : RdSl R_Box W W.heap.size M xa xc) :
    Calls Tryz.prog 22 #[.agg #[.slice ca C.length cc, .slice pa P.length pc, .slice qa Q.length qc, .int .i64 hf], .agg #[.slice xa M.length xc], .int .i64 i, .int .i64 x] W (NewV R_MailOut (layV (C, P, Q, hf) M i x) W) := by
  have hnM : M.length ≤ 9223372036854775807 := by have h1 := hX.1; have h2 := hX.2.1; unfold maxLen at h2; omega
  have hnP : P.length ≤ 9223372036854775807 := by have h1 := hP.1; have h2 := hP.2.1; unfold maxLen at h2; omega
  obtain ⟨b0, hb0⟩ : ∃ b, mailB (C, P, Q, hf) M = b := ⟨_, rfl⟩
  have Hb0 := Lib.hid hb0
  clear hb0
  obtain ⟨w0, hw0⟩ : ∃ w, w = ((W.alloc (.cells #[.slice ca C.length cc, .slice pa P.length pc, .slice qa Q.length qc, .int .i64 hf] 44)).alloc (.cells #[.slice xa M.length xc] 36)).alloc (.cells #[.slice none 0 0, .int .i64 0] 38) := ⟨_, rfl⟩
  have hb0 : Below W.heap.size W w0 := by rw [hw0]; exact (((Below.refl _ _).alloc (Nat.le_refl _) _).alloc (by simp) _).alloc (by simp <;> omega) _
  have x0_ : Blk w0 (W.heap.size) 44 #[.slice ca C.length cc, .slice pa P.length pc, .slice qa Q.length qc, .int .i64 hf] := by
    have h9 := Blk.new W 44 #[.slice ca C.length cc, .slice pa P.length pc, .slice qa Q.length qc, .int .i64 hf]
    try simp only [World.size_alloc] at h9
    rw [hw0]; exact ((h9.alloc _).alloc _)
  have X0 := Lib.hid x0_
  have x1_ : Blk w0 (W.heap.size + 1) 36 #[.slice xa M.length xc] := by
    have h9 := Blk.new (W.alloc (.cells #[.slice ca C.length cc, .slice pa P.length pc, .slice qa Q.length qc, .int .i64 hf] 44)) 36 #[.slice xa M.length xc]
    try simp only [World.size_alloc] at h9
    rw [hw0]; exact (h9.alloc _)
  have X1 := Lib.hid x1_
  have x2_ : Blk w0 (W.heap.size + 1 + 1) 38 #[.slice none 0 0, .int .i64 0] := by
    have h9 := Blk.new ((W.alloc (.cells #[.slice ca C.length cc, .slice pa P.length pc, .slice qa Q.length qc, .int .i64 hf] 44)).alloc (.cells #[.slice xa M.length xc] 36)) 38 #[.slice none 0 0, .int .i64 0]
    try simp only [World.size_alloc] at h9
    rw [hw0]; exact h9
  have X2 := Lib.hid x2_
  have HC := Lib.hid (rd_mv (Sl_ok R_Label_ok) hC hb0)
  have HP := Lib.hid (rd_mv R_Pair_ok hP hb0)
  have HQ := Lib.hid (rd_mv R_Quota_ok hQ hb0)
  have HX := Lib.hid (rd_mv R_Box_ok hX hb0)
  have HB0 := Lib.hid hb0
  have hz0 := hb0.size
  clear hb0 hC hP hQ hX x0_ x1_ x2_
  go_enter Tryz.func22, Tryz.ntmps22
  go_upto_region 1 with fail
  rw [← hw0]
  clear hw0
  have qX0_0 := X0.out.at_ 0 rfl
  have qX0_1 := X0.out.at_ 1 rfl
  have qX0_2 := X0.out.at_ 2 rfl
  have qX0_3 := X0.out.at_ 3 rfl
  have qX1_0 := X1.out.at_ 0 rfl
  go_wp2_with fail
  have hcx := mail_spec (hf := hf) HC.out HP.out HQ.out HX.out
  rw [Hb0.out] at hcx
  refine hcx.mono ?_
  intro e v1 h
  obtain ⟨rfl, hb⟩ := isB_elim h
  have HC := Lib.hid (rd_mv (Sl_ok R_Label_ok) HC.out hb)
  have HP := Lib.hid (rd_mv R_Pair_ok HP.out hb)
  have HQ := Lib.hid (rd_mv R_Quota_ok HQ.out hb)
  have HX := Lib.hid (rd_mv R_Box_ok HX.out hb)
  have X0 := Lib.hid (X0.out.call hb)
  have X1 := Lib.hid (X1.out.call hb)
  have X2 := Lib.hid (X2.out.call hb)
  have HB0 := Lib.hid (HB0.out.trans (hb.mono HB0.out.size))
  clear h hb hcx qX0_0 qX0_1 qX0_2 qX0_3 qX1_0
  have HBV := HB0
  have hz1 := HB0.out.size
  cases b0 with
  | false =>
    have HE := Lib.hid (show layV (C, P, Q, hf) M i x = ([], 1) from layV_form Hb0.out)
    go_wp2_with fail
    refine (ill15_at 1 _).mono ?_
    rintro e vR ⟨rfl, hb⟩
    have XZ := Lib.hid (X2.out.call hb)
    have HBR := Lib.hid (HB0.out.trans (hb.mono HB0.out.size))
    clear hb
    have q0 := XZ.out.at_ 0 rfl
    have q1 := XZ.out.at_ 1 rfl
    have s0 := XZ.out.soft 0
    have s1 := XZ.out.soft 1
    go_wp2
    refine bodyPost_ret (v := .agg #[.slice none 0 0, .int .i64 1]) (by simp [results, Tryz.results22, go_sem, *]) rfl ⟨[.slice none 0 0, .int .i64 1], rfl, ?_, (HBR.out.setCell (p := ⟨W.heap.size + 1 + 1, 0, none⟩) (by show W.heap.size ≤ W.heap.size + 1 + 1; omega) _).setCell (p := ⟨W.heap.size + 1 + 1, 1, none⟩) (by show W.heap.size ≤ W.heap.size + 1 + 1; omega) _⟩
    rw [HE.out]
    exact out_code 1
  | true =>
  have HMP := Lib.hid (mailB_iff.1 Hb0.out)
  have hM4 : M.length ≤ 4 := mail_len HMP.out
  have hLP := Lib.hid (show M.length = P.length from HMP.out.2.1)
  by_cases hr0 : 0 ≤ i ∧ i < (P.length : Int)
  rotate_left
  · have HE := Lib.hid (show layV (C, P, Q, hf) M i x = ([], 6) from layV_none Hb0.out hr0)
    have q1 := X0.out.at_ 1 rfl
    by_cases hneg : i < 0
    · have hd : decide (i < 0) = true := decide_eq_true hneg
      go_wp2_with fail
      refine (ill15_at 6 _).mono ?_
      rintro e vR ⟨rfl, hb⟩
      have XZ := Lib.hid (X2.out.call hb)
      have HBR := Lib.hid (HB0.out.trans (hb.mono HB0.out.size))
      clear hb
      have q0 := XZ.out.at_ 0 rfl
      have q1 := XZ.out.at_ 1 rfl
      have s0 := XZ.out.soft 0
      have s1 := XZ.out.soft 1
      go_wp2
      refine bodyPost_ret (v := .agg #[.slice none 0 0, .int .i64 6]) (by simp [results, Tryz.results22, go_sem, *]) rfl ⟨[.slice none 0 0, .int .i64 6], rfl, ?_, (HBR.out.setCell (p := ⟨W.heap.size + 1 + 1, 0, none⟩) (by show W.heap.size ≤ W.heap.size + 1 + 1; omega) _).setCell (p := ⟨W.heap.size + 1 + 1, 1, none⟩) (by show W.heap.size ≤ W.heap.size + 1 + 1; omega) _⟩
      rw [HE.out]
      exact out_code 6
    · have hd : decide (i < 0) = false := decide_eq_false hneg
      have hge : i ≥ (P.length : Int) := by omega
      have hd2 : decide (i ≥ (P.length : Int)) = true := decide_eq_true hge
      have hd3 : decide ((P.length : Int) ≤ i) = true := decide_eq_true hge
      go_wp2_with fail
      refine (ill15_at 6 _).mono ?_
      rintro e vR ⟨rfl, hb⟩
      have XZ := Lib.hid (X2.out.call hb)
      have HBR := Lib.hid (HB0.out.trans (hb.mono HB0.out.size))
      clear hb
      have q0 := XZ.out.at_ 0 rfl
      have q1 := XZ.out.at_ 1 rfl
      have s0 := XZ.out.soft 0
      have s1 := XZ.out.soft 1
      go_wp2
      refine bodyPost_ret (v := .agg #[.slice none 0 0, .int .i64 6]) (by simp [results, Tryz.results22, go_sem, *]) rfl ⟨[.slice none 0 0, .int .i64 6], rfl, ?_, (HBR.out.setCell (p := ⟨W.heap.size + 1 + 1, 0, none⟩) (by show W.heap.size ≤ W.heap.size + 1 + 1; omega) _).setCell (p := ⟨W.heap.size + 1 + 1, 1, none⟩) (by show W.heap.size ≤ W.heap.size + 1 + 1; omega) _⟩
      rw [HE.out]
      exact out_code 6
  obtain ⟨k, rfl⟩ : ∃ k : Nat, i = (k : Int) := ⟨i.toNat, by omega⟩
  have hlt : k < P.length := by omega
  have hlm : k < M.length := by have h1 := hLP.out; omega
  obtain ⟨⟨⟨f0, f1⟩, ⟨t0, t1⟩, rt⟩, hp⟩ := el_some hlt
  obtain ⟨⟨F, G, N⟩, hx⟩ := el_some hlm
  have HX9 := Lib.hid hx
  have HP9 := Lib.hid hp
  have hsm := box_small HMP.out _ (List.mem_of_getElem? hx)
  have hl0 : F.length ≤ 1048576 := hsm.1
  have hl2 : N.length ≤ 1048576 := hsm.2.2
  obtain ⟨gp, op, us, rfl, hgp, hu, hr⟩ := HP.out.at_ hp
  obtain rfl := rd_Pair hr
  have HGP := Lib.hid hgp
  have A0 := Lib.hid (show v1.cell? ⟨gp, op + k * 5, none⟩ = some (.int .i64 f0) from by simpa [size_PairS, Nat.add_assoc] using hu 0 _ rfl)
  have A1 := Lib.hid (show v1.cell? ⟨gp, op + k * 5 + 1, none⟩ = some (.int .i64 f1) from by simpa [size_PairS, Nat.add_assoc] using hu 1 _ rfl)
  have A2 := Lib.hid (show v1.cell? ⟨gp, op + k * 5 + 2, none⟩ = some (.int .i64 t0) from by simpa [size_PairS, Nat.add_assoc] using hu 2 _ rfl)
  have A3 := Lib.hid (show v1.cell? ⟨gp, op + k * 5 + 3, none⟩ = some (.int .i64 t1) from by simpa [size_PairS, Nat.add_assoc] using hu 3 _ rfl)
  have A4 := Lib.hid (show v1.cell? ⟨gp, op + k * 5 + 4, none⟩ = some (.int .i64 rt) from by simpa [size_PairS, Nat.add_assoc] using hu 4 _ rfl)
  clear hu hr hgp hp
  obtain ⟨gm, om, us, rfl, hgm, hu, hr⟩ := HX.out.at_ hx
  obtain ⟨fa, fc, ga, gc, la, lc, rfl, k_F, k_G, k_N⟩ := rd_Box hr
  have HGM := Lib.hid hgm
  have HKF := Lib.hid k_F
  have HKN := Lib.hid k_N
  have B0 := Lib.hid (show v1.cell? ⟨gm, om + k * 3, none⟩ = some (.slice fa F.length fc) from by simpa [size_BoxS, Nat.add_assoc] using hu 0 _ rfl)
  have B1 := Lib.hid (show v1.cell? ⟨gm, om + k * 3 + 1, none⟩ = some (.slice ga G.length gc) from by simpa [size_BoxS, Nat.add_assoc] using hu 1 _ rfl)
  have B2 := Lib.hid (show v1.cell? ⟨gm, om + k * 3 + 2, none⟩ = some (.slice la N.length lc) from by simpa [size_BoxS, Nat.add_assoc] using hu 2 _ rfl)
  have hi0 : (0 : Int) ≤ (k : Int) := Int.natCast_nonneg _
  have hi1 : (k : Int) < (M.length : Int) := by omega
  have hi2 : (k : Int) < (P.length : Int) := by omega
  have hFn : F.length ≤ 9223372036854775807 := by omega
  have hNn : N.length ≤ 9223372036854775807 := by omega
  have hGn : G.length ≤ 9223372036854775807 := by have h1 := hsm.2.1; simp only at h1; omega
  have hMp : 0 < M.length := by omega
  clear hu hr hgm hx hsm k_F k_G k_N
  have q0 := X0.out.at_ 1 rfl
  have hd : decide ((k : Int) < 0) = false := decide_eq_false (by omega)
  have hd2 : decide ((k : Int) ≥ (P.length : Int)) = false := decide_eq_false (by omega)
  have hd3 : decide ((P.length : Int) ≤ (k : Int)) = false := decide_eq_false (by omega)
  have hd4 : decide (P.length ≤ k) = false := decide_eq_false (by omega)
  go_upto_region 5 with fail
  clear q0
  obtain ⟨bt, hbt⟩ : ∃ b, decide ((F.length : Int) ≥ rt) = b := ⟨_, rfl⟩
  have hbt2 : decide (rt ≤ (F.length : Int)) = bt := hbt
  refine wp_region_held_drew (S := (fun V => Below (v1).heap.size (v1) V)) (by kernel_rfl) ((Below.refl _ _).drew) (fun hHeld => ?_)
  refine tk 0 hHeld ?_
  refine tk 1 hHeld ?_ (hy := fun w hSw => by (try dsimp only at hSw); have k0 := (hSw.cell (p := ⟨W.heap.size + 1, 0, none⟩) X1.out.lt).trans (X1.out.at_ 0 rfl); clear hSw; go_simp; try with_reducible rfl)
  refine tk 2 hHeld ?_
  refine tk 3 hHeld ?_
  refine tk 4 hHeld ?_
  refine tk 5 hHeld ?_ (hy := fun w hSw => by (try dsimp only at hSw); have k0 := (hSw.cell (p := ⟨gm, om + k * 3, none⟩) HGM.out).trans B0.out; clear hSw; go_simp; try with_reducible rfl)
  refine tk 6 hHeld ?_
  refine tk 7 hHeld ?_
  refine tk 8 hHeld ?_ (hy := fun w hSw => by (try dsimp only at hSw); have k0 := (hSw.cell (p := ⟨W.heap.size, 1, none⟩) X0.out.lt).trans (X0.out.at_ 1 rfl); clear hSw; go_simp; try with_reducible rfl)
  refine tk 9 hHeld ?_
  refine tk 10 hHeld ?_
  refine tk 11 hHeld ?_
  refine tk 12 hHeld ?_ (hy := fun w hSw => by (try dsimp only at hSw); have k0 := (hSw.cell (p := ⟨gp, op + k * 5 + 4, none⟩) HGP.out).trans A4.out; clear hSw; go_simp; try with_reducible rfl)
  refine tk 13 hHeld ?_
  refine tk 14 hHeld ?_
  refine rd0 ?_
  have HF := Lib.hid hHeld
  clear hHeld
  obtain ⟨w1, hw1⟩ : ∃ u, u = v1.drew := ⟨_, rfl⟩
  rw [← hw1] at HF
  rw [← hw1]
  clear hw1
  have HC := Lib.hid (rd_mv (Sl_ok R_Label_ok) HC.out HF.out)
  have HP := Lib.hid (rd_mv R_Pair_ok HP.out HF.out)
  have HQ := Lib.hid (rd_mv R_Quota_ok HQ.out HF.out)
  have HX := Lib.hid (rd_mv R_Box_ok HX.out HF.out)
  have X0 := Lib.hid (X0.out.call HF.out)
  have X1 := Lib.hid (X1.out.call HF.out)
  have X2 := Lib.hid (X2.out.call HF.out)
  have HB0 := Lib.hid (HB0.out.trans (HF.out.mono HB0.out.size))
  have B0 := Lib.hid ((HF.out.cell (p := ⟨gm, om + k * 3, none⟩) HGM.out).trans B0.out)
  have HGM := Lib.hid (Nat.lt_of_lt_of_le HGM.out HF.out.size)
  have HKF := Lib.hid (rd_mv I_ok HKF.out HF.out)
  clear HF HBV hz1
  have HBV := HB0
  cases bt with
  | true =>
    have hge : rt ≤ (F.length : Int) := by have h1 := of_decide_eq_true hbt; omega
    have HE := Lib.hid (show layV (C, P, Q, hf) M (k : Int) x = ([], 8) from layV_range Hb0.out hlt HX9.out HP9.out hge)
    go_wp2_with fail
    refine (ill15_at 8 _).mono ?_
    rintro e vR ⟨rfl, hb⟩
    have XZ := Lib.hid (X2.out.call hb)
    have HBR := Lib.hid (HB0.out.trans (hb.mono HB0.out.size))
    clear hb
    have q0 := XZ.out.at_ 0 rfl
    have q1 := XZ.out.at_ 1 rfl
    have s0 := XZ.out.soft 0
    have s1 := XZ.out.soft 1
    go_wp2
    refine bodyPost_ret (v := .agg #[.slice none 0 0, .int .i64 8]) (by simp [results, Tryz.results22, go_sem, *]) rfl ⟨[.slice none 0 0, .int .i64 8], rfl, ?_, (HBR.out.setCell (p := ⟨W.heap.size + 1 + 1, 0, none⟩) (by show W.heap.size ≤ W.heap.size + 1 + 1; omega) _).setCell (p := ⟨W.heap.size + 1 + 1, 1, none⟩) (by show W.heap.size ≤ W.heap.size + 1 + 1; omega) _⟩
    rw [HE.out]
    exact out_code 8
  | false =>
  have hge : ¬ rt ≤ (F.length : Int) := by have h1 := of_decide_eq_false hbt; omega
  have HE := Lib.hid (show layV (C, P, Q, hf) M (k : Int) x = (M.set k (F ++ [x], G, N), 0) from layV_ok Hb0.out hlt HX9.out HP9.out hge)
  clear hbt hbt2
  have q1 := X1.out.at_ 0 rfl
  go_wp2_with fail
  refine (copy15_spec (by omega) (box_small HMP.out) HX.out).mono ?_
  intro e v5 h
  obtain ⟨us, rfl, hu, hb⟩ := newV_elim h
  obtain ⟨a, c, T0, rfl, ho⟩ : ∃ a c, ∃ T : Nat → Prop, us = [.slice a M.length c] ∧ OwSl R_BoxG v5 (Rg w1.heap.size v5.heap.size) M a c := by
      obtain ⟨a, c, rfl, h9⟩ := hu
      exact ⟨a, c, fun _ => True, rfl, h9⟩
  clear h hu q1
  obtain ⟨w3, hw3⟩ : ∃ u, u = v5.alloc (.cells #[.slice a M.length c] 36) := ⟨_, rfl⟩
  obtain ⟨g, rfl, hO⟩ := OutS.init R_BoxG_ok ho hMp hb
  rw [← hw3] at hO
  have HO := Lib.hid hO
  clear hO ho hb
  go_upto_region 8 with fail
  rw [← hw3]
  clear hw3
  obtain ⟨wd, hwd⟩ : ∃ u, u = w3.drew := ⟨_, rfl⟩
  have hod := HO.out.mv R_BoxG_ok (w' := wd) (by rw [hwd]; exact (Below.refl _ _).drew)
  obtain ⟨a0, c0, a', c', w4, e0, hrun, t4, e4, f4, hO2⟩ := hod.next HX9.out (by omega) x
  have tv := hod.var.at_ 0 rfl
  have tl := hod.var.lt
  have gl := hod.glt.2.1
  have hbA : Below wd.heap.size wd (wd.alloc (.cells #[.int .i64 x] 2)) := (Below.refl _ _).alloc (Nat.le_refl _) _
  have HSA := Lib.hid (And.intro ((hbA.cell (p := ⟨v5.heap.size, 0, none⟩) tl).trans tv) ((hbA.cell (p := ⟨g, k * 3, none⟩) gl).trans e0))
  have HRUN := Lib.hid hrun
  have HO := Lib.hid hO2
  clear hod hrun hO2 hbA tl gl
  refine kregion [14] (S := (fun V => V.cell? ⟨v5.heap.size, 0, none⟩ = some (.slice (some ⟨g, 0, none⟩) M.length c) ∧ V.cell? ⟨g, k * 3, none⟩ = some (.slice a0 F.length c0))) (by kernel_rfl) (by rw [← hwd]; exact ⟨tv, e0⟩) (fun hHeld => ?_)
  rw [← hwd] at hHeld
  rw [← hwd]
  clear hwd
  refine kp 0 ?_
  refine kk 1 hHeld ?_ (hy := fun w hSw => by (try dsimp only at hSw); have k0 := hSw.1; clear hSw; go_simp; try with_reducible rfl)
  refine kp 2 ?_
  refine kp 3 ?_
  refine kk 4 hHeld ?_ (hy := fun w hSw => by (try dsimp only at hSw); have k0 := hSw.1; clear hSw; go_simp; try with_reducible rfl)
  refine kp 5 ?_
  refine kp 6 ?_
  refine kp 7 ?_
  refine kk 8 hHeld ?_ (hy := fun w hSw => by (try dsimp only at hSw); have k0 := hSw.2; clear hSw; go_simp; try with_reducible rfl)
  refine kp 9 ?_
  refine kr (rs := [10]) (by kernel_rfl) (by simp) (AllK.cons rfl (fun K hK => ?_) AllK.nil)
  go_simp
  refine hK.out _ _ HSA.out (fun hHeld => ?_)
  clear hK K
  refine kr (rs := [11]) (by kernel_rfl) (by simp) (AllK.cons rfl (fun K hK => ?_) AllK.nil)
  refine step_app rfl (.tmp 53) (.tmp 55) 70 rfl rfl rfl HRUN.out ?_
  refine hK.out _ _ ⟨t4, e4⟩ (fun hHeld => ?_)
  clear hK K
  refine kp 12 ?_
  refine kp 13 ?_
  refine kr (rs := [14]) (by kernel_rfl) (by simp) (AllK.last (by simp) rfl (fun K hK => ?_))
  clear tv e0
  go_simp
  refine hK.out _ _ ?_
  clear hK K t4 e4 f4 HRUN HSA
  refine k0 ?_
  clear hHeld
  obtain ⟨w5, hw5⟩ : ∃ u, u = w4.setCell ⟨g, k * 3, none⟩ (.slice a' (F ++ [x]).length c') := ⟨_, rfl⟩
  rw [← hw5] at HO
  first | rw [← hw5] | (rw [show (F ++ [x]).length = F.length + 1 from by simp] at hw5; rw [← hw5])
  clear hw5
  have hbz := HO.out.bel
  have t9 := HO.out.var.at_ 0 rfl
  have XZ := Lib.hid (X2.out.call hbz)
  have HBZ := Lib.hid (HBV.out.trans (hbz.mono HBV.out.size))
  obtain ⟨S9, hS9, hfo⟩ := HO.out.fin
  have HFO := Lib.hid (boxesG_weak hfo)
  have HS9 := Lib.hid hS9
  have q0 := XZ.out.at_ 0 rfl
  have q1 := XZ.out.at_ 1 rfl
  have s0 := XZ.out.soft 0
  have s1 := XZ.out.soft 1
  have hxl := X2.out.lt
  have hvz := HBV.out.size
  clear hbz hS9 hfo
  go_wp2
  refine bodyPost_ret (v := .agg #[.slice (some ⟨g, 0, none⟩) M.length c, .int .i64 0]) (by simp [results, Tryz.results22, go_sem, *]) rfl ⟨[.slice (some ⟨g, 0, none⟩) M.length c, .int .i64 0], rfl, ?_, (HBZ.out.setCell (p := ⟨W.heap.size + 1 + 1, 0, none⟩) (by show W.heap.size ≤ W.heap.size + 1 + 1; omega) _).setCell (p := ⟨W.heap.size + 1 + 1, 1, none⟩) (by show W.heap.size ≤ W.heap.size + 1 + 1; omega) _⟩
  rw [HE.out]
  have hfin := mkow_MailOut (W := (w5.setCell ⟨W.heap.size + 1 + 1, 0, none⟩ (.slice (some ⟨g, 0, none⟩) M.length c)).setCell ⟨W.heap.size + 1 + 1, 1, none⟩ (.int .i64 0)) (S := Rg W.heap.size w5.heap.size) (x1 := 0) (T0 := S9) (fun q hq => ⟨Nat.le_trans hvz (HS9.out q hq).1, (HS9.out q hq).2⟩) (HFO.out.keep R_Box_ok fun q hq => (Below.heap_setCell _ _ _ _ (fun e => by have h1 := (HS9.out q hq).1; have e2 : q = W.heap.size + 1 + 1 := e; omega)).trans (Below.heap_setCell _ _ _ _ (fun e => by have h1 := (HS9.out q hq).1; have e2 : q = W.heap.size + 1 + 1 := e; omega)))
  rw [List.length_set] at hfin
  simpa [World.setCell] using hfin
end Go.Proofs.YtlgflddljhldhaaGreat.RepC
end
