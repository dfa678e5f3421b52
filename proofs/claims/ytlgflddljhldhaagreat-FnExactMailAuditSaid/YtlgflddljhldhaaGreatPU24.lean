/- Of this claim's texts the part 24: MlVa. -/
import Derived.Test.YtlgflddljhldhaaGreatPU19
import Derived.Test.YtlgflddljhldhaaGreatPU23
section
namespace Go.Proofs.YtlgflddljhldhaaGreat.RepC
open Go.RowKit RowC ValC SpanC KeptC CfC
set_option linter.unusedVariables false
set_option linter.unusedSimpArgs false
set_option maxRecDepth 100000 in
set_option maxHeartbeats 6400000 in
theorem maudit_spec {C : List (List D_Label)} {P : List D_Pair} {Q : List D_Quota} {hf : Int} {ca pa qa : Option Addr} {cc pc qc : Nat} {M : List D_Box} {xa : Option Addr} {xc : Nat} {l s : Int} {W : World} (hBd : BdM M) (hC : RdSl (Sl R_Label) W W.heap.size C ca cc) (hP : RdSl R_Pair W W.heap.size P pa pc) (hQ : RdSl R_Quota W W.heap.size Q qa qc) (hX : RdSl R_Box W W.heap.size M xa xc) :
    Calls Tryz.prog 28 #[.agg #[.slice ca C.length cc, .slice pa P.length pc, .slice qa Q.length qc, .int .i64 hf], .agg #[.slice xa M.length xc], .agg #[.int .i64 l, .int .i64 s]] W fun e w' => e = .returned (.string (readM fromL logB (C, P, Q, hf) M (l, s))) ∧ Below W.heap.size W w' := by
  have hnM : M.length ≤ 9223372036854775807 := by have h1 := hX.1; have h2 := hX.2.1; unfold maxLen at h2; omega
  have hnP : P.length ≤ 9223372036854775807 := by have h1 := hP.1; have h2 := hP.2.1; unfold maxLen at h2; omega
  obtain ⟨b0, hb0⟩ : ∃ b, mailB (C, P, Q, hf) M = b := ⟨_, rfl⟩
  have Hb0 := Lib.hid hb0
  clear hb0
  obtain ⟨b1, hb1⟩ : ∃ b, LabC.rB l s = b := ⟨_, rfl⟩
  have Hb1 := Lib.hid hb1
  clear hb1
  have HBD := Lib.hid hBd
  clear hBd
  obtain ⟨w0, hw0⟩ : ∃ w, w = ((W.alloc (.cells #[.slice ca C.length cc, .slice pa P.length pc, .slice qa Q.length qc, .int .i64 hf] 44)).alloc (.cells #[.slice xa M.length xc] 36)).alloc (.cells #[.int .i64 l, .int .i64 s] 47) := ⟨_, rfl⟩
  have hb0 : Below W.heap.size W w0 := by rw [hw0]; exact (((Below.refl _ _).alloc (Nat.le_refl _) _).alloc (by simp) _).alloc (by simp <;> omega) _
  have x0_ : Blk w0 (W.heap.size) 44 #[.slice ca C.length cc, .slice pa P.length pc, .slice qa Q.length qc, .int .i64 hf] := by
    have h9 := Blk.new W 44 #[.slice ca C.length cc, .slice pa P.length pc, .slice qa Q.length qc, .int .i64 hf]
    try simp only [World.size_alloc] at h9
    rw [hw0]; exact ((h9.alloc _).alloc _)
  have X0 := Lib.hid x0_
  have x1_ : Blk w0 (W.heap.size + 1) 36 #[.slice xa M.length xc] := by
    have h9 := Blk.new (W.alloc (.cells #[.slice ca C.length cc, .slice pa P.length pc, .slice qa Q.length qc, .int .i64 hf] 44)) 36 #[.slice xa M.length xc]
    try simp only [World.size_alloc] at h9
    rw [hw0]; exact (h9.alloc _)
  have X1 := Lib.hid x1_
  have x2_ : Blk w0 (W.heap.size + 1 + 1) 47 #[.int .i64 l, .int .i64 s] := by
    have h9 := Blk.new ((W.alloc (.cells #[.slice ca C.length cc, .slice pa P.length pc, .slice qa Q.length qc, .int .i64 hf] 44)).alloc (.cells #[.slice xa M.length xc] 36)) 47 #[.int .i64 l, .int .i64 s]
    try simp only [World.size_alloc] at h9
    rw [hw0]; exact h9
  have X2 := Lib.hid x2_
  have HC := Lib.hid (rd_mv (Sl_ok R_Label_ok) hC hb0)
  have HP := Lib.hid (rd_mv R_Pair_ok hP hb0)
  have HQ := Lib.hid (rd_mv R_Quota_ok hQ hb0)
  have HX := Lib.hid (rd_mv R_Box_ok hX hb0)
  have HB0 := Lib.hid hb0
  have hz0 := hb0.size
  clear hb0 hC hP hQ hX x0_ x1_ x2_
  go_enter Tryz.func28, Tryz.ntmps28
  go_upto_region 1 with fail
  rw [← hw0]
  clear hw0
  have qX0_0 := X0.out.at_ 0 rfl
  have qX0_1 := X0.out.at_ 1 rfl
  have qX0_2 := X0.out.at_ 2 rfl
  have qX0_3 := X0.out.at_ 3 rfl
  have qX1_0 := X1.out.at_ 0 rfl
  have qX2_0 := X2.out.at_ 0 rfl
  have qX2_1 := X2.out.at_ 1 rfl
  go_wp2_with fail
  have hcx := mail_spec (hf := hf) HC.out HP.out HQ.out HX.out
  rw [Hb0.out] at hcx
  refine hcx.mono ?_
  intro e v1 h
  obtain ⟨rfl, hb⟩ := isB_elim h
  have HC := Lib.hid (rd_mv (Sl_ok R_Label_ok) HC.out hb)
  have HP := Lib.hid (rd_mv R_Pair_ok HP.out hb)
  have HQ := Lib.hid (rd_mv R_Quota_ok HQ.out hb)
  have HX := Lib.hid (rd_mv R_Box_ok HX.out hb)
  have X0 := Lib.hid (X0.out.call hb)
  have X1 := Lib.hid (X1.out.call hb)
  have X2 := Lib.hid (X2.out.call hb)
  have HB0 := Lib.hid (HB0.out.trans (hb.mono HB0.out.size))
  clear h hb hcx qX0_0 qX0_1 qX0_2 qX0_3 qX1_0 qX2_0 qX2_1
  have qX0_0 := X0.out.at_ 0 rfl
  have qX0_1 := X0.out.at_ 1 rfl
  have qX0_2 := X0.out.at_ 2 rfl
  have qX0_3 := X0.out.at_ 3 rfl
  have qX1_0 := X1.out.at_ 0 rfl
  have qX2_0 := X2.out.at_ 0 rfl
  have qX2_1 := X2.out.at_ 1 rfl
  cases b0 with
  | false =>
    have HE := Lib.hid (show (readM fromL logB (C, P, Q, hf) M (l, s)) = ⟨#[]⟩ from readM_no1 Hb0.out)
    go_wp2
    go_ret
    exact ⟨by rw [HE.out]; rfl, HB0.out⟩
  | true =>
  go_wp2_with fail
  refine (lab_below l s Hb1.out _).mono ?_
  rintro e v2 ⟨rfl, hb⟩
  have HC := Lib.hid (rd_mv (Sl_ok R_Label_ok) HC.out hb)
  have HP := Lib.hid (rd_mv R_Pair_ok HP.out hb)
  have HQ := Lib.hid (rd_mv R_Quota_ok HQ.out hb)
  have HX := Lib.hid (rd_mv R_Box_ok HX.out hb)
  have X0 := Lib.hid (X0.out.call hb)
  have X1 := Lib.hid (X1.out.call hb)
  have X2 := Lib.hid (X2.out.call hb)
  have HB0 := Lib.hid (HB0.out.trans (hb.mono HB0.out.size))
  clear hb qX0_0 qX0_1 qX0_2 qX0_3 qX1_0 qX2_0 qX2_1
  cases b1 with
  | false =>
    have HE := Lib.hid (show (readM fromL logB (C, P, Q, hf) M (l, s)) = ⟨#[]⟩ from readM_no2 Hb1.out)
    go_wp2
    go_ret
    exact ⟨by rw [HE.out]; rfl, HB0.out⟩
  | true =>
  have HE := Lib.hid (show readM fromL logB (C, P, Q, hf) M (l, s) = catM mSees fromL logB P M (l, s) P.length from readM_yes Hb0.out Hb1.out)
  have HMP := Lib.hid (mailB_iff.1 Hb0.out)
  have hP4 : P.length ≤ 4 := pairs4 HMP.out
  have HSZ := Lib.hid (show ∀ k, k ≤ P.length → (catM mSees fromL logB P M (l, s) k).size ≤ 1040 from fun k hk => catM_size (c := 250) (fun i b hb => logB_size (mail_here HMP.out hb).2.2 (HBD.out b (List.mem_of_getElem? hb))) k (by omega))
  have hz2 := HB0.out.size
  go_wp2
  go_loopw [8, 7] (fun i q wr => ∃ k : Nat, k ≤ P.length ∧ i = .int .i64 k ∧ q = .string (catM mSees fromL logB P M (l, s) k) ∧ Below v2.heap.size v2 wr) (fun i _ _ => P.length - (intOf i).toNat)
  case atStart => exact ⟨0, Nat.zero_le _, rfl, rfl, Below.refl _ _⟩
  case round =>
    obtain ⟨k, hk, rfl, rfl, hB⟩ := hrel
    obtain ⟨wo, rfl⟩ : ∃ x, x = wr := ⟨_, rfl⟩
    have HB := Lib.hid hB
    have hsz := hB.size
    have HBW := Lib.hid (HB0.out.trans (hB.mono hz2))
    have Z0 := Lib.hid (X0.out.call hB)
    have Z1 := Lib.hid (X1.out.call hB)
    have Z2 := Lib.hid (X2.out.call hB)
    have hpk := HSZ.out k hk
    obtain ⟨T, hT⟩ : ∃ T, catM mSees fromL logB P M (l, s) k = T := ⟨_, rfl⟩
    rw [hT] at hpk
    have HTT := Lib.hid hT
    rw [hT]
    clear hT
    have r1 := Z0.out.at_ 1 rfl
    by_cases hlt : k < P.length
    · have hdl : decide ((k : Int) < (P.length : Int)) = true := decide_eq_true (by omega)
      have hlm : k < M.length := by have := HMP.out.2.1; simp only at this; omega
      obtain ⟨⟨⟨f0, f1⟩, ⟨t0, t1⟩, rt⟩, hp⟩ := el_some hlt
      obtain ⟨⟨F, G, L⟩, hx⟩ := el_some hlm
      have HX9 := Lib.hid hx
      have HP9 := Lib.hid hp
      have HBX := Lib.hid (HBD.out _ (List.mem_of_getElem? hx))
      have hl3 : L.length ≤ 12 := (mail_here HMP.out HX9.out).2.2
      obtain ⟨gp, op, us, rfl, hgp, hu, hr⟩ := (rd_mv R_Pair_ok HP.out hB).at_ hp
      obtain rfl := rd_Pair hr
      have HGP := Lib.hid hgp
      have E0 := Lib.hid (show wo.cell? ⟨gp, op + k * 5, none⟩ = some (.int .i64 f0) from by simpa [size_PairS, Nat.add_assoc] using hu 0 _ rfl)
      have E1 := Lib.hid (show wo.cell? ⟨gp, op + k * 5 + 1, none⟩ = some (.int .i64 f1) from by simpa [size_PairS, Nat.add_assoc] using hu 1 _ rfl)
      clear hu hr hgp
      obtain ⟨g, o, us, rfl, hg, hu, hr⟩ := (rd_mv R_Box_ok HX.out hB).at_ hx
      obtain ⟨fa, fc, ga, gc, la, lc, rfl, k_F, k_G, k_L⟩ := rd_Box hr
      have HG := Lib.hid hg
      have HKL := Lib.hid k_L
      have E2 := Lib.hid (show wo.cell? ⟨g, o + k * 3 + 2, none⟩ = some (.slice la L.length lc) from by simpa [size_BoxS, Nat.add_assoc] using hu 2 _ rfl)
      have hi0 : (0 : Int) ≤ (k : Int) := Int.natCast_nonneg _
      have hi1 : (k : Int) < (P.length : Int) := by omega
      have hi2 : (k : Int) < (M.length : Int) := by omega
      have hln : L.length ≤ 9223372036854775807 := by omega
      obtain ⟨c, hc⟩ : ∃ c, LabC.bB f0 f1 l s = c := ⟨_, rfl⟩
      have HCB := Lib.hid hc
      have R0 := Lib.hid (show i64R (k : Int) from ⟨by omega, by omega⟩)
      have R1 := Lib.hid (show i64R (L.length : Int) from ⟨by omega, by omega⟩)
      obtain ⟨p0, hp0⟩ : ∃ b, PutM.encB (k : Int) = b := ⟨_, rfl⟩
      have s0 : p0.size ≤ 10 := by rw [← hp0]; exact small_enc R0.out
      have G0 := Lib.hid hp0
      obtain ⟨p1, hp1⟩ : ∃ b, PutM.encB (L.length : Int) = b := ⟨_, rfl⟩
      have s1 : p1.size ≤ 10 := by rw [← hp1]; exact small_enc R1.out
      have G1 := Lib.hid hp1
      clear hB hx hp hu hr hg k_F k_G k_L hc hp0 hp1
      go_upto_region 7 with fail
      refine wp_region_held_drew (S := (fun V => Below (wo).heap.size (wo) V)) (by kernel_rfl) ((Below.refl _ _).drew) (fun hHeld => ?_)
      refine tk 0 hHeld ?_
      refine tk 1 hHeld ?_ (hy := fun w hSw => by (try dsimp only at hSw); have k0 := (hSw.cell (p := ⟨W.heap.size, 1, none⟩) Z0.out.lt).trans (Z0.out.at_ 1 rfl); clear hSw; go_simp; try with_reducible rfl)
      refine tk 2 hHeld ?_
      refine tk 3 hHeld ?_
      refine tk 4 hHeld ?_
      refine tk 5 hHeld ?_ (hy := fun w hSw => by (try dsimp only at hSw); have k0 := (hSw.cell (p := ⟨gp, op + k * 5, none⟩) HGP.out).trans E0.out; have k1 := (hSw.cell (p := ⟨gp, op + k * 5 + 1, none⟩) HGP.out).trans E1.out; clear hSw; go_simp; try with_reducible rfl)
      refine tk 6 hHeld ?_ (hy := fun w hSw => by (try dsimp only at hSw); have k0 := (hSw.cell (p := ⟨W.heap.size + 2, 0, none⟩) Z2.out.lt).trans (Z2.out.at_ 0 rfl); have k1 := (hSw.cell (p := ⟨W.heap.size + 2, 1, none⟩) Z2.out.lt).trans (Z2.out.at_ 1 rfl); clear hSw; go_simp; try with_reducible rfl)
      refine rd1 7 (fun K hK => ?_)
      go_simp
      go_at_call 63
      refine (below2_at f0 f1 l s HCB.out _).mono ?_
      rintro e u5 ⟨rfl, hb⟩
      refine hK.out _ _ (hHeld.trans (hb.mono hHeld.size)) (fun hHeld => ?_)
      clear hK K hb
      refine rd0 ?_
      have HF := Lib.hid hHeld
      clear hHeld
      have HB8 := Lib.hid (HB.out.trans (HF.out.mono hsz))
      have HBW8 := Lib.hid (HBW.out.trans (HF.out.mono HBW.out.size))
      cases c with
      | false =>
        have HST := Lib.hid (show T = catM mSees fromL logB P M (l, s) (k + 1) from by rw [catM_step, partM_no HP9.out HX9.out (show mSees (fromL ((f0, f1), (t0, t1), rt)) (l, s) = false from HCB.out), ba_nil, HTT.out])
        clear HF r1
        go_wp2
        go_roundw
        case rel => exact ⟨k + 1, by omega, by go_num, by rw [HST.out], HB8.out⟩
        case measure => simp [intOf]; omega
      | true =>
      have hadd0 := fun w : World => run_string_add_sum (P := Tryz.prog) w T p0 (by omega)
      have z1 : (T ++ p0).size ≤ 1040 + 10 := by rw [ByteArray.size_append]; omega
      have hadd1 := fun w : World => run_string_add_sum (P := Tryz.prog) w (T ++ p0) p1 (by omega)
      have z2 : ((T ++ p0) ++ p1).size ≤ 1040 + 20 := by rw [ByteArray.size_append]; omega
      have Y0 := Lib.hid (Z0.out.call HF.out)
      have Y1 := Lib.hid (Z1.out.call HF.out)
      have E3 := Lib.hid ((HF.out.cell (p := ⟨g, o + k * 3 + 2, none⟩) HG.out).trans E2.out)
      have HG3 := Lib.hid (Nat.lt_of_lt_of_le HG.out HF.out.size)
      have HKL3 := Lib.hid (rd_mv R_Note_ok (rd_mv R_Note_ok HKL.out (Below.refl _ _)) HF.out)
      have hz8 := HB8.out.size
      clear HF r1
      go_upto_region 8 with fail
      refine wp_region_held_drew (S := (fun V => Below (u5).heap.size (u5) V)) (by kernel_rfl) ((Below.refl _ _).drew) (fun hHeld => ?_)
      refine tk 0 hHeld ?_
      refine tk 1 hHeld ?_
      refine tk 4 hHeld ?_
      refine tk 5 hHeld ?_ (hy := fun w hSw => by (try dsimp only at hSw); have k0 := (hSw.cell (p := ⟨W.heap.size + 1, 0, none⟩) Y1.out.lt).trans (Y1.out.at_ 0 rfl); clear hSw; go_simp; try with_reducible rfl)
      refine tk 6 hHeld ?_
      refine tk 7 hHeld ?_
      refine tk 8 hHeld ?_
      refine tk 9 hHeld ?_ (hy := fun w hSw => by (try dsimp only at hSw); have k0 := (hSw.cell (p := ⟨g, o + k * 3 + 2, none⟩) HG3.out).trans E3.out; clear hSw; go_simp; try with_reducible rfl)
      refine tk 10 hHeld ?_
      refine rd1 2 (fun K hK => ?_)
      go_simp
      go_at_call 64
      refine (putS_at (k : Int) G0.out R0.out _).mono ?_
      rintro e u6 ⟨rfl, hb⟩
      refine hK.out _ _ (hHeld.trans (hb.mono hHeld.size)) (fun hHeld => ?_)
      clear hK K hb
      refine tk 3 hHeld ?_
      refine rd1 11 (fun K hK => ?_)
      go_simp
      go_at_call 64
      refine (putS_at (L.length : Int) G1.out R1.out _).mono ?_
      rintro e u7 ⟨rfl, hb⟩
      refine hK.out _ _ (hHeld.trans (hb.mono hHeld.size)) (fun hHeld => ?_)
      clear hK K hb
      refine tk 12 hHeld ?_
      refine tk 13 hHeld ?_
      refine rd0 ?_
      have HF := Lib.hid hHeld
      clear hHeld
      have HB9 := Lib.hid (HB8.out.trans (HF.out.mono hz8))
      have HBW9 := Lib.hid (HBW8.out.trans (HF.out.mono HBW8.out.size))
      obtain ⟨Q2, hQ⟩ : ∃ Q, (T ++ p0) ++ p1 = Q := ⟨_, rfl⟩
      rw [hQ] at z2
      have HQQ := Lib.hid (show catM mSees fromL logB P M (l, s) (k + 1) = Q2 ++ catTo noteB L L.length from by rw [catM_step, partM_yes HP9.out HX9.out (show mSees (fromL ((f0, f1), (t0, t1), rt)) (l, s) = true from HCB.out), HTT.out, ← hQ, G0.out]; show T ++ (p0 ++ (PutM.encB (L.length : Int) ++ catTo noteB L L.length)) = _; rw [G1.out]; simp only [ByteArray.append_assoc])
      rw [hQ]
      clear hQ hadd0 hadd1 z1 s0 s1
      have V1 := Lib.hid (Y1.out.call HF.out)
      have E4 := Lib.hid ((HF.out.cell (p := ⟨g, o + k * 3 + 2, none⟩) HG3.out).trans E3.out)
      have HG4 := Lib.hid (Nat.lt_of_lt_of_le HG3.out HF.out.size)
      have HKL4 := Lib.hid (rd_mv R_Note_ok HKL3.out HF.out)
      clear HF
      have hz9 := HB9.out.size
      have hzw9 := HBW9.out.size
      go_wp2
      go_loopw [9, 7] (fun i q wr => ∃ j : Nat, j ≤ L.length ∧ i = .int .i64 j ∧ q = .string (Q2 ++ catTo noteB L j) ∧ Below u7.heap.size u7 wr) (fun i _ _ => L.length - (intOf i).toNat)
      case atStart => exact ⟨0, Nat.zero_le _, rfl, by rw [catTo_zero, ba_nil], Below.refl _ _⟩
      case round =>
        obtain ⟨j, hj, rfl, rfl, hC⟩ := hrel
        have HC2 := Lib.hid hC
        have hszC := hC.size
        have V2 := Lib.hid (V1.out.call hC)
        have E5 := Lib.hid ((hC.cell (p := ⟨g, o + k * 3 + 2, none⟩) HG4.out).trans E4.out)
        have HG5 := Lib.hid (Nat.lt_of_lt_of_le HG4.out hszC)
        have HBX9 := Lib.hid (HB9.out.trans (hC.mono hz9))
        have r1 := V2.out.at_ 0 rfl
        have e1 := E5.out
        have hpj : (catTo noteB L j).size ≤ 240 := notes_size hl3 HBX.out.2.2 j
        obtain ⟨P', hP'⟩ : ∃ P, Q2 ++ catTo noteB L j = P := ⟨_, rfl⟩
        have hPs' : P'.size ≤ 1040 + 20 + 240 := by rw [← hP', ByteArray.size_append]; omega
        have HPP' := Lib.hid hP'
        rw [hP']
        clear hpj hP'
        by_cases hjl : j < L.length
        · have hdj : decide ((j : Int) < (L.length : Int)) = true := decide_eq_true (by omega)
          obtain ⟨⟨x0, x1⟩, hx⟩ := el_some hjl
          have HX2 := Lib.hid hx
          obtain ⟨gs, os, us, rfl, hg, hu, hr⟩ := (rd_mv R_Note_ok HKL4.out hC).at_ hx
          obtain rfl := rd_Note hr
          have HGs := Lib.hid hg
          have F0 := Lib.hid (show wr.cell? ⟨gs, os + j * 2, none⟩ = some (.int .i64 x0) from by simpa [size_NoteS, Nat.add_assoc] using hu 0 _ rfl)
          have F1 := Lib.hid (show wr.cell? ⟨gs, os + j * 2 + 1, none⟩ = some (.int .i64 x1) from by simpa [size_NoteS, Nat.add_assoc] using hu 1 _ rfl)
          have hj0 : (0 : Int) ≤ (j : Int) := Int.natCast_nonneg _
          have hj1 : (j : Int) < (L.length : Int) := by omega
          have RX := Lib.hid (HBX.out.2.2 _ (List.mem_of_getElem? hx))
          obtain ⟨q0, hq0⟩ : ∃ b, PutM.encB x0 = b := ⟨_, rfl⟩
          have s0 : q0.size ≤ 10 := by rw [← hq0]; exact small_enc RX.out.1
          have G3 := Lib.hid hq0
          obtain ⟨q1, hq1⟩ : ∃ b, PutM.encB x1 = b := ⟨_, rfl⟩
          have s1 : q1.size ≤ 10 := by rw [← hq1]; exact small_enc RX.out.2
          have G4 := Lib.hid hq1
          have hadd0 := fun w : World => run_string_add_sum (P := Tryz.prog) w P' q0 (by omega)
          have z1 : (P' ++ q0).size ≤ 1310 := by rw [ByteArray.size_append]; omega
          have hadd1 := fun w : World => run_string_add_sum (P := Tryz.prog) w (P' ++ q0) q1 (by omega)
          have HST := Lib.hid (show (P' ++ q0) ++ q1 = Q2 ++ catTo noteB L (j + 1) from by rw [catTo_step HX2.out, ← HPP'.out, show noteB (x0, x1) = q0 ++ q1 from by unfold noteB; rw [hq0, hq1]]; simp only [ByteArray.append_assoc])
          clear hC hx hu hr hg hq0 hq1
          go_upto_region 12 with fail
          refine wp_region_held_drew (S := (fun V => Below (wr).heap.size (wr) V)) (by kernel_rfl) ((Below.refl _ _).drew) (fun hHeld => ?_)
          refine tk 0 hHeld ?_
          refine tk 1 hHeld ?_
          refine tk 2 hHeld ?_ (hy := fun w hSw => by (try dsimp only at hSw); have k0 := (hSw.cell (p := ⟨W.heap.size + 1, 0, none⟩) V2.out.lt).trans (V2.out.at_ 0 rfl); clear hSw; go_simp; try with_reducible rfl)
          refine tk 3 hHeld ?_
          refine tk 4 hHeld ?_
          refine tk 5 hHeld ?_
          refine tk 6 hHeld ?_ (hy := fun w hSw => by (try dsimp only at hSw); have k0 := (hSw.cell (p := ⟨g, o + k * 3 + 2, none⟩) HG5.out).trans E5.out; clear hSw; go_simp; try with_reducible rfl)
          refine tk 7 hHeld ?_
          refine tk 8 hHeld ?_
          refine tk 9 hHeld ?_
          refine tk 10 hHeld ?_ (hy := fun w hSw => by (try dsimp only at hSw); have k0 := (hSw.cell (p := ⟨gs, os + j * 2, none⟩) HGs.out).trans F0.out; clear hSw; go_simp; try with_reducible rfl)
          refine tk 13 hHeld ?_
          refine tk 14 hHeld ?_ (hy := fun w hSw => by (try dsimp only at hSw); have k0 := (hSw.cell (p := ⟨W.heap.size + 1, 0, none⟩) V2.out.lt).trans (V2.out.at_ 0 rfl); clear hSw; go_simp; try with_reducible rfl)
          refine tk 15 hHeld ?_
          refine tk 16 hHeld ?_
          refine tk 17 hHeld ?_
          refine tk 18 hHeld ?_ (hy := fun w hSw => by (try dsimp only at hSw); have k0 := (hSw.cell (p := ⟨g, o + k * 3 + 2, none⟩) HG5.out).trans E5.out; clear hSw; go_simp; try with_reducible rfl)
          refine tk 19 hHeld ?_
          refine tk 20 hHeld ?_
          refine tk 21 hHeld ?_
          refine tk 22 hHeld ?_ (hy := fun w hSw => by (try dsimp only at hSw); have k0 := (hSw.cell (p := ⟨gs, os + j * 2 + 1, none⟩) HGs.out).trans F1.out; clear hSw; go_simp; try with_reducible rfl)
          refine rd1 11 (fun K hK => ?_)
          go_simp
          go_at_call 64
          refine (putS_at x0 G3.out RX.out.1 _).mono ?_
          rintro e u8 ⟨rfl, hb⟩
          refine hK.out _ _ (hHeld.trans (hb.mono hHeld.size)) (fun hHeld => ?_)
          clear hK K hb
          refine tk 12 hHeld ?_
          refine rd1 23 (fun K hK => ?_)
          go_simp
          go_at_call 64
          refine (putS_at x1 G4.out RX.out.2 _).mono ?_
          rintro e u9 ⟨rfl, hb⟩
          refine hK.out _ _ (hHeld.trans (hb.mono hHeld.size)) (fun hHeld => ?_)
          clear hK K hb
          refine tk 24 hHeld ?_
          refine tk 25 hHeld ?_
          refine rd0 ?_
          have HF := Lib.hid hHeld
          clear hHeld
          have HC4 := Lib.hid (HC2.out.trans (HF.out.mono hszC))
          clear HF hadd0 hadd1 z1 s0 s1 r1 e1
          go_wp2
          go_roundw
          case rel => exact ⟨j + 1, by omega, by go_num, by rw [HST.out], HC4.out⟩
          case measure => simp [intOf]; omega
        · have hdj : decide ((j : Int) < (L.length : Int)) = false := decide_eq_false (by omega)
          obtain rfl : j = L.length := by omega
          have HST := Lib.hid (show P' = catM mSees fromL logB P M (l, s) (k + 1) from by rw [HQQ.out, HPP'.out])
          clear hC
          go_wp2
          go_roundw
          case rel => exact ⟨k + 1, by omega, by go_num, by rw [HST.out], HBX9.out⟩
          case measure => simp [intOf]; omega
    · have hdl : decide ((k : Int) < (P.length : Int)) = false := decide_eq_false (by omega)
      obtain rfl : k = P.length := by omega
      have HST := Lib.hid (show T = readM fromL logB (C, P, Q, hf) M (l, s) from by rw [HE.out, HTT.out])
      clear hB
      go_wp2
      go_ret
      exact ⟨by rw [HST.out]; rfl, HBW.out⟩
end Go.Proofs.YtlgflddljhldhaaGreat.RepC
end
