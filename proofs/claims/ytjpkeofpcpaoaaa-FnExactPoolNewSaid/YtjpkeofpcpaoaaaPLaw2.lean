/- The law on PoolNew, out of the contracts. -/
import Derived.Test.YtjpkeofpcpaoaaaPImF
import Derived.Test.YtjpkeofpcpaoaaaOwXs
import Derived.Test.YtjpkeofpcpaoaaaPlOpn
namespace Go.Proofs.Ytjpkeofpcpaoaaa.RepC
open Go.RowKit RowC ValC SpanC KeptC
set_option linter.unusedVariables false
set_option linter.unusedSimpArgs false

theorem newD_small {C dC : List (List D_Label)} {dL : List D_Job} {dn di dc : Int} (h : (Sl (Sl R_Label)).sz C ≤ 1048576) (hd : newD C = (dC, dL, dn, di, dc)) : sumL (Sl R_Label).cm dC + sumL R_Job.cm dL ≤ 2097152 := by
  have key : newD C = (C, [], 0, 0, 0) ∨ newD C = illD 2 ∨ newD C = illD 1 := by
    unfold newD
    split
    · exact .inr (.inl rfl)
    · split
      · exact .inl rfl
      · exact .inr (.inr rfl)
  have h1 := cm_clear h
  rcases key with e | e | e
  · rw [hd] at e
    injection e with e1 e2
    injection e2 with e3 _
    subst e1 e3
    simp only [sumL]
    omega
  · rw [hd] at e
    injection e with e1 e2
    injection e2 with e3 _
    subst e1 e3
    simp [sumL]
  · rw [hd] at e
    injection e with e1 e2
    injection e2 with e3 _
    subst e1 e3
    simp [sumL]

set_option maxRecDepth 100000 in
set_option maxHeartbeats 3200000 in
theorem law_poolnew {C : List (List D_Label)} {a : Option Addr} {cap : Nat} {W : World} (h : RdSl (Sl R_Label) W W.heap.size C a cap) :
    Calls Try.prog 6 #[.slice a C.length cap] W fun e w' => e = .returned (.bool true) ∧ Below W.heap.size W w' := by
  have H := Lib.hid h
  have H0 := Lib.hid h
  clear h
  by_cases hsz : (Sl (Sl R_Label)).sz C ≤ 1048576
  rotate_left
  · skip
    go_enter Try.func6, Try.ntmps6
    go_wp2_with fail
    refine (sz_LabelSS (by omega) (by omega) (H.out)).mono ?_
    intro e w1 h
    obtain ⟨rfl, hb⟩ := szC_elim h
    rw [szR_no (by omega)]
    have H_1 := Lib.hid (rd_mv (Sl_ok R_Label_ok) H.out hb)
    have HB1 := Lib.hid (show Below W.heap.size W (w1) from hb)
    clear H
    clear h hb
    go_wp2
    go_ret
    exact ⟨rfl, HB1.out⟩
  have HSZ := Lib.hid hsz
  obtain ⟨m, hm⟩ : ∃ m : Nat, (Sl (Sl R_Label)).sz C = m := ⟨_, rfl⟩
  have HM := Lib.hid hm
  rw [hm] at hsz
  clear hm
  have hlt1 : decide ((1048576 : Int) - (m : Int) < 0) = false := decide_eq_false (by omega)
  obtain ⟨⟨dC, dL, dn, di, dc⟩, hD⟩ : ∃ d, newD C = d := ⟨_, rfl⟩
  have HD := Lib.hid hD
  have HSM := Lib.hid (newD_small HSZ.out hD)
  clear hD
  go_enter Try.func6, Try.ntmps6
  go_wp2_with fail
  refine (sz_LabelSS (by omega) (by omega) (H.out)).mono ?_
  intro e w1 h
  obtain ⟨rfl, hb⟩ := szC_elim h
  rw [HM.out, szR_yes (by omega)]
  have H_1 := Lib.hid (rd_mv (Sl_ok R_Label_ok) H.out hb)
  have HB1 := Lib.hid (show Below W.heap.size W (w1) from hb)
  clear H
  clear hsz
  clear h hb
  go_wp2_with fail
  refine (to_LabelSS HSZ.out (H_1.out)).mono ?_
  intro e w2 h
  obtain ⟨a2, c2, rfl, ho, hb⟩ := newS_elim h
  have H_2 := Lib.hid (rd_mv (Sl_ok R_Label_ok) H_1.out hb)
  have HB2 := Lib.hid (HB1.out.trans ((hb).mono HB1.out.size))
  have hW2 : W.heap.size ≤ w2.heap.size := HB2.out.size
  clear H_1 HB1
  have N_2 := Lib.hid (rd_sl (Sl_ok R_Label_ok) ho)
  clear ho
  clear h hb
  go_wp2_with fail
  refine ((poolnew_spec HSZ.out (N_2.out)).mono (fun _ _ => poolO_G)).mono ?_
  intro e w3 h
  rw [HD.out] at h
  obtain ⟨caw, ccw, jaw, jcw, T1w, T2w, rfl, ht1, ht2, htd, o1, o2, hb⟩ := poolG_elim h
  have H_3 := Lib.hid (rd_mv (Sl_ok R_Label_ok) H_2.out hb)
  have N_3 := Lib.hid (rd_mv (Sl_ok R_Label_ok) N_2.out hb)
  have HB3 := Lib.hid (HB2.out.trans ((hb).mono HB2.out.size))
  clear H_2 N_2 HB2
  have Cw_3 := Lib.hid (show OwX (Sl R_Label) w3 T1w dC caw ccw from ⟨o1, fun k hk => (ht1 k hk).2⟩)
  have Lw_3 := Lib.hid (show OwX R_Job w3 T2w dL jaw jcw from ⟨o2, fun k hk => (ht2 k hk).2⟩)
  have R1w := Lib.hid ht1
  have R2w := Lib.hid ht2
  have RDw := Lib.hid htd
  clear ht1 ht2 htd o1 o2
  have hz23 := hb.size
  clear h hb
  clear N_3
  have hbA : Below (w3).heap.size (w3) (w3.alloc (.cells #[.slice caw dC.length ccw, .slice jaw dL.length jcw, .int .i64 dn, .int .i64 di, .int .i64 dc] 71)) := (Below.refl _ _).alloc (Nat.le_refl _) _
  have H_4 := Lib.hid (rd_mv (Sl_ok R_Label_ok) H_3.out hbA)
  have Cw_4 := Lib.hid (Cw_3.out.mv (Sl_ok R_Label_ok) hbA)
  have Lw_4 := Lib.hid (Lw_3.out.mv R_Job_ok hbA)
  have HB4 := Lib.hid (HB3.out.trans ((hbA).mono HB3.out.size))
  clear H_3 Cw_3 Lw_3 HB3
  have BW_4 := Blk.new (w3) 71 #[.slice caw dC.length ccw, .slice jaw dL.length jcw, .int .i64 dn, .int .i64 di, .int .i64 dc]
  have BWh_4 := Lib.hid BW_4
  clear BW_4 hbA
  go_wp2_with fail
  refine (to_LabelSS HSZ.out (H_4.out)).mono ?_
  intro e w5 h
  obtain ⟨a5, c5, rfl, ho, hb⟩ := newS_elim h
  have BW_5 := Lib.hid (BWh_4.out.call hb)
  have H_5 := Lib.hid (rd_mv (Sl_ok R_Label_ok) H_4.out hb)
  have Cw_5 := Lib.hid (Cw_4.out.mv (Sl_ok R_Label_ok) hb)
  have Lw_5 := Lib.hid (Lw_4.out.mv R_Job_ok hb)
  have HB5 := Lib.hid (HB4.out.trans ((hb).mono HB4.out.size))
  clear BWh_4 H_4 Cw_4 Lw_4 HB4
  have X0_5 := Lib.hid (show OwX (Sl R_Label) w5 (Rg (w3.alloc (.cells #[.slice caw dC.length ccw, .slice jaw dL.length jcw, .int .i64 dn, .int .i64 di, .int .i64 dc] 71)).heap.size w5.heap.size) C a5 c5 from ⟨ho, fun k hk => hk.2⟩)
  clear ho
  have hz45 := hb.size
  have hz34 : (w3.alloc (.cells #[.slice caw dC.length ccw, .slice jaw dL.length jcw, .int .i64 dn, .int .i64 di, .int .i64 dc] 71)).heap.size = w3.heap.size + 1 := by simp
  clear h hb
  go_wp2_with fail
  refine (poolnew_impl (X0_5.out.rd (Sl_ok R_Label_ok))).mono ?_
  intro e w6 h
  rw [HD.out] at h
  obtain ⟨cag, ccg, jag, jcg, T1g, T2g, rfl, ht1, ht2, htd, o1, o2, hb⟩ := poolG_elim h
  have BW_6 := Lib.hid (BW_5.out.call hb)
  have H_6 := Lib.hid (rd_mv (Sl_ok R_Label_ok) H_5.out hb)
  have Cw_6 := Lib.hid (Cw_5.out.mv (Sl_ok R_Label_ok) hb)
  have Lw_6 := Lib.hid (Lw_5.out.mv R_Job_ok hb)
  have X0_6 := Lib.hid (X0_5.out.mv (Sl_ok R_Label_ok) hb)
  have HB6 := Lib.hid (HB5.out.trans ((hb).mono HB5.out.size))
  clear BW_5 H_5 Cw_5 Lw_5 X0_5 HB5
  have Cg_6 := Lib.hid (show OwX (Sl R_Label) w6 T1g dC cag ccg from ⟨o1, fun k hk => (ht1 k hk).2⟩)
  have Lg_6 := Lib.hid (show OwX R_Job w6 T2g dL jag jcg from ⟨o2, fun k hk => (ht2 k hk).2⟩)
  have R1g := Lib.hid ht1
  have R2g := Lib.hid ht2
  have RDg := Lib.hid htd
  clear ht1 ht2 htd o1 o2
  have hz56 := hb.size
  clear h hb
  have hbA : Below (w6).heap.size (w6) (w6.alloc (.cells #[.slice cag dC.length ccg, .slice jag dL.length jcg, .int .i64 dn, .int .i64 di, .int .i64 dc] 71)) := (Below.refl _ _).alloc (Nat.le_refl _) _
  have BW_7 := Lib.hid (BW_6.out.call hbA)
  have H_7 := Lib.hid (rd_mv (Sl_ok R_Label_ok) H_6.out hbA)
  have Cw_7 := Lib.hid (Cw_6.out.mv (Sl_ok R_Label_ok) hbA)
  have Lw_7 := Lib.hid (Lw_6.out.mv R_Job_ok hbA)
  have X0_7 := Lib.hid (X0_6.out.mv (Sl_ok R_Label_ok) hbA)
  have Cg_7 := Lib.hid (Cg_6.out.mv (Sl_ok R_Label_ok) hbA)
  have Lg_7 := Lib.hid (Lg_6.out.mv R_Job_ok hbA)
  have HB7 := Lib.hid (HB6.out.trans ((hbA).mono HB6.out.size))
  clear BW_6 H_6 Cw_6 Lw_6 X0_6 Cg_6 Lg_6 HB6
  have BG_7 := Blk.new (w6) 71 #[.slice cag dC.length ccg, .slice jag dL.length jcg, .int .i64 dn, .int .i64 di, .int .i64 dc]
  have BGh_7 := Lib.hid BG_7
  clear BG_7 hbA
  have qBG_0 := BGh_7.out.at_ 0 rfl
  have qBG_1 := BGh_7.out.at_ 1 rfl
  have qBG_2 := BGh_7.out.at_ 2 rfl
  have qBG_3 := BGh_7.out.at_ 3 rfl
  have qBG_4 := BGh_7.out.at_ 4 rfl
  have qBW_0 := BW_7.out.at_ 0 rfl
  have qBW_1 := BW_7.out.at_ 1 rfl
  have qBW_2 := BW_7.out.at_ 2 rfl
  have qBW_3 := BW_7.out.at_ 3 rfl
  have qBW_4 := BW_7.out.at_ 4 rfl
  go_wp2_with fail
  refine (eq_PoolOut (Cg_7.out.rd (Sl_ok R_Label_ok)) (Lg_7.out.rd R_Job_ok) (Cw_7.out.rd (Sl_ok R_Label_ok)) (Lw_7.out.rd R_Job_ok)).mono ?_
  intro e w8 h
  obtain ⟨rfl, hb⟩ := isB_elim h
  clear qBG_0 qBG_1 qBG_2 qBG_3 qBG_4 qBW_0 qBW_1 qBW_2 qBW_3 qBW_4
  have BW_8 := Lib.hid (BW_7.out.call hb)
  have BG_8 := Lib.hid (BGh_7.out.call hb)
  have H_8 := Lib.hid (rd_mv (Sl_ok R_Label_ok) H_7.out hb)
  have Cw_8 := Lib.hid (Cw_7.out.mv (Sl_ok R_Label_ok) hb)
  have Lw_8 := Lib.hid (Lw_7.out.mv R_Job_ok hb)
  have X0_8 := Lib.hid (X0_7.out.mv (Sl_ok R_Label_ok) hb)
  have Cg_8 := Lib.hid (Cg_7.out.mv (Sl_ok R_Label_ok) hb)
  have Lg_8 := Lib.hid (Lg_7.out.mv R_Job_ok hb)
  have HB8 := Lib.hid (HB7.out.trans ((hb).mono HB7.out.size))
  clear BW_7 BGh_7 H_7 Cw_7 Lw_7 X0_7 Cg_7 Lg_7 HB7
  clear h hb
  go_wp2_with fail
  refine (to_LabelSS HSZ.out (H_8.out)).mono ?_
  intro e w9 h
  obtain ⟨a9, c9, rfl, ho, hb⟩ := newS_elim h
  have BW_9 := Lib.hid (BW_8.out.call hb)
  have BG_9 := Lib.hid (BG_8.out.call hb)
  have H_9 := Lib.hid (rd_mv (Sl_ok R_Label_ok) H_8.out hb)
  have Cw_9 := Lib.hid (Cw_8.out.mv (Sl_ok R_Label_ok) hb)
  have Lw_9 := Lib.hid (Lw_8.out.mv R_Job_ok hb)
  have X0_9 := Lib.hid (X0_8.out.mv (Sl_ok R_Label_ok) hb)
  have Cg_9 := Lib.hid (Cg_8.out.mv (Sl_ok R_Label_ok) hb)
  have Lg_9 := Lib.hid (Lg_8.out.mv R_Job_ok hb)
  have HB9 := Lib.hid (HB8.out.trans ((hb).mono HB8.out.size))
  clear BW_8 BG_8 H_8 Cw_8 Lw_8 X0_8 Cg_8 Lg_8 HB8
  have M2_9 := Lib.hid (rd_sl (Sl_ok R_Label_ok) ho)
  clear ho
  clear h hb
  go_wp2_with fail
  refine (eq_LabelSS (X0_9.out.rd (Sl_ok R_Label_ok)) (M2_9.out)).mono ?_
  intro e w10 h
  obtain ⟨rfl, hb⟩ := isB_elim h
  have BW_10 := Lib.hid (BW_9.out.call hb)
  have BG_10 := Lib.hid (BG_9.out.call hb)
  have H_10 := Lib.hid (rd_mv (Sl_ok R_Label_ok) H_9.out hb)
  have Cw_10 := Lib.hid (Cw_9.out.mv (Sl_ok R_Label_ok) hb)
  have Lw_10 := Lib.hid (Lw_9.out.mv R_Job_ok hb)
  have X0_10 := Lib.hid (X0_9.out.mv (Sl_ok R_Label_ok) hb)
  have Cg_10 := Lib.hid (Cg_9.out.mv (Sl_ok R_Label_ok) hb)
  have Lg_10 := Lib.hid (Lg_9.out.mv R_Job_ok hb)
  have M2_10 := Lib.hid (rd_mv (Sl_ok R_Label_ok) M2_9.out hb)
  have HB10 := Lib.hid (HB9.out.trans ((hb).mono HB9.out.size))
  clear BW_9 BG_9 H_9 Cw_9 Lw_9 X0_9 Cg_9 Lg_9 M2_9 HB9
  clear h hb
  clear M2_10
  go_wp2_with fail
  refine (mark_LabelSS (by omega) (by have := cm_clear HSZ.out; omega) X0_10.out.2 X0_10.out.1).mono ?_
  intro e wm h
  obtain ⟨L', km, rfl, hlen, hmm, hkm, hos, hoff⟩ := markR_elim h
  have HB11 := Lib.hid (HB10.out.trans (hoff.below HB10.out.size (fun k hk => by have h1 : (w3.alloc (.cells #[.slice caw dC.length ccw, .slice jaw dL.length jcw, .int .i64 dn, .int .i64 di, .int .i64 dc] 71)).heap.size ≤ k := hk.1; omega)))
  have BW_11 := Lib.hid (BW_10.out.off hoff BW_10.out.lt (fun hk => by have h1 : (w3.alloc (.cells #[.slice caw dC.length ccw, .slice jaw dL.length jcw, .int .i64 dn, .int .i64 di, .int .i64 dc] 71)).heap.size ≤ w3.heap.size := hk.1; omega))
  have BG_11 := Lib.hid (BG_10.out.off hoff BG_10.out.lt (fun hk => by have h1 : w6.heap.size < w5.heap.size := hk.2; omega))
  have H_11 := Lib.hid ((H0.out.below (Sl_ok R_Label_ok) HB11.out).more (Sl_ok R_Label_ok) HB11.out.size)
  have Cw_11 := Lib.hid (Cw_10.out.off (Sl_ok R_Label_ok) hoff (fun k hk hk2 => by have h1 : (w3.alloc (.cells #[.slice caw dC.length ccw, .slice jaw dL.length jcw, .int .i64 dn, .int .i64 di, .int .i64 dc] 71)).heap.size ≤ k := hk2.1; have h2 := (R1w.out k hk).2; omega))
  have Lw_11 := Lib.hid (Lw_10.out.off R_Job_ok hoff (fun k hk hk2 => by have h1 : (w3.alloc (.cells #[.slice caw dC.length ccw, .slice jaw dL.length jcw, .int .i64 dn, .int .i64 di, .int .i64 dc] 71)).heap.size ≤ k := hk2.1; have h2 := (R2w.out k hk).2; omega))
  have Cg_11 := Lib.hid (Cg_10.out.off (Sl_ok R_Label_ok) hoff (fun k hk hk2 => by have h1 : k < w5.heap.size := hk2.2; have h2 := (R1g.out k hk).1; omega))
  have Lg_11 := Lib.hid (Lg_10.out.off R_Job_ok hoff (fun k hk hk2 => by have h1 : k < w5.heap.size := hk2.2; have h2 := (R2g.out k hk).1; omega))
  have hkn : decide (km < 0) = false := decide_eq_false (by omega)
  clear h hlen hmm hkm hos hoff
  have qBG_0 := BG_11.out.at_ 0 rfl
  have qBG_1 := BG_11.out.at_ 1 rfl
  have qBG_2 := BG_11.out.at_ 2 rfl
  have qBG_3 := BG_11.out.at_ 3 rfl
  have qBG_4 := BG_11.out.at_ 4 rfl
  have qBW_0 := BW_11.out.at_ 0 rfl
  have qBW_1 := BW_11.out.at_ 1 rfl
  have qBW_2 := BW_11.out.at_ 2 rfl
  have qBW_3 := BW_11.out.at_ 3 rfl
  have qBW_4 := BW_11.out.at_ 4 rfl
  go_wp2_with fail
  refine (eq_PoolOut (Cg_11.out.rd (Sl_ok R_Label_ok)) (Lg_11.out.rd R_Job_ok) (Cw_11.out.rd (Sl_ok R_Label_ok)) (Lw_11.out.rd R_Job_ok)).mono ?_
  intro e w12 h
  obtain ⟨rfl, hb⟩ := isB_elim h
  clear qBG_0 qBG_1 qBG_2 qBG_3 qBG_4 qBW_0 qBW_1 qBW_2 qBW_3 qBW_4
  have BW_12 := Lib.hid (BW_11.out.call hb)
  have BG_12 := Lib.hid (BG_11.out.call hb)
  have H_12 := Lib.hid (rd_mv (Sl_ok R_Label_ok) H_11.out hb)
  have Cw_12 := Lib.hid (Cw_11.out.mv (Sl_ok R_Label_ok) hb)
  have Lw_12 := Lib.hid (Lw_11.out.mv R_Job_ok hb)
  have Cg_12 := Lib.hid (Cg_11.out.mv (Sl_ok R_Label_ok) hb)
  have Lg_12 := Lib.hid (Lg_11.out.mv R_Job_ok hb)
  have HB12 := Lib.hid (HB11.out.trans ((hb).mono HB11.out.size))
  clear BW_11 BG_11 H_11 Cw_11 Lw_11 Cg_11 Lg_11 HB11
  clear h hb
  clear hkn
  have qBG_0 := BG_12.out.at_ 0 rfl
  have qBG_1 := BG_12.out.at_ 1 rfl
  have qBG_2 := BG_12.out.at_ 2 rfl
  have qBG_3 := BG_12.out.at_ 3 rfl
  have qBG_4 := BG_12.out.at_ 4 rfl
  go_wp2_with fail
  refine (mark_PoolOut (by omega) (by have := HSM.out; omega) Cg_12.out.2 Lg_12.out.2 (fun q h1 h2 => RDg.out q h1 h2) Cg_12.out.1 Lg_12.out.1).mono ?_
  intro e wn h
  obtain ⟨z0, z1, M0, M1, rfl, ⟨hl0, hm0, hz0, ho0⟩, ⟨hl1, hm1, hz1, ho1⟩, hoff⟩ := h
  clear qBG_0 qBG_1 qBG_2 qBG_3 qBG_4
  have HB13 := Lib.hid (HB12.out.trans (hoff.below HB12.out.size (fun k hk => by rcases hk with hk | hk; (have h1 := R1g.out _ hk; unfold Rg at h1; omega); (have h1 := R2g.out _ hk; unfold Rg at h1; omega))))
  have BW_13 := Lib.hid (BW_12.out.off hoff BW_12.out.lt (fun hk => by rcases hk with hk | hk; (have h1 := R1g.out _ hk; unfold Rg at h1; omega); (have h1 := R2g.out _ hk; unfold Rg at h1; omega)))
  have BG_13 := Lib.hid (BG_12.out.off hoff BG_12.out.lt (fun hk => by rcases hk with hk | hk; (have h1 := R1g.out _ hk; unfold Rg at h1; omega); (have h1 := R2g.out _ hk; unfold Rg at h1; omega)))
  have H_13 := Lib.hid ((H0.out.below (Sl_ok R_Label_ok) HB13.out).more (Sl_ok R_Label_ok) HB13.out.size)
  have Cw_13 := Lib.hid (Cw_12.out.off (Sl_ok R_Label_ok) hoff (fun k hk hk2 => by have h2 := (R1w.out k hk).2; rcases hk2 with hk2 | hk2; (have h1 := (R1g.out _ hk2).1; omega); (have h1 := (R2g.out _ hk2).1; omega)))
  have Lw_13 := Lib.hid (Lw_12.out.off R_Job_ok hoff (fun k hk hk2 => by have h2 := (R2w.out k hk).2; rcases hk2 with hk2 | hk2; (have h1 := (R1g.out _ hk2).1; omega); (have h1 := (R2g.out _ hk2).1; omega)))
  have Cg_13 := Lib.hid (show OwX (Sl R_Label) wn T1g M0 cag ccg from ⟨ho0, fun k hk => Nat.lt_of_lt_of_le (Cg_12.out.2 k hk) hoff.size⟩)
  have Lg_13 := Lib.hid (show OwX R_Job wn T2g M1 jag jcg from ⟨ho1, fun k hk => Nat.lt_of_lt_of_le (Lg_12.out.2 k hk) hoff.size⟩)
  have HL0 := Lib.hid hl0
  have HL1 := Lib.hid hl1
  have HM0 := Lib.hid hm0
  have HM1 := Lib.hid hm1
  have hzn : decide (z1 < 0) = false := decide_eq_false (by omega)
  have hze : (z1 != z1) = false := by simp
  have hzb : z1 ≤ 4611686018427387904 := by have := HSM.out; omega
  clear hl0 hm0 hz0 ho0 hl1 hm1 hz1 ho1 hoff
  have qBG_0 := BG_13.out.at_ 0 rfl
  have qBG_1 := BG_13.out.at_ 1 rfl
  have qBG_2 := BG_13.out.at_ 2 rfl
  have qBG_3 := BG_13.out.at_ 3 rfl
  have qBG_4 := BG_13.out.at_ 4 rfl
  go_wp2_with fail
  refine (held_poolout HL0.out HL1.out (by omega) hzb HM0.out HM1.out (Cg_13.out.rd (Sl_ok R_Label_ok)) (Lg_13.out.rd R_Job_ok)).mono ?_
  intro e w14 h
  obtain ⟨rfl, hb⟩ := heldC_elim h
  clear qBG_0 qBG_1 qBG_2 qBG_3 qBG_4
  have BW_14 := Lib.hid (BW_13.out.call hb)
  have BG_14 := Lib.hid (BG_13.out.call hb)
  have H_14 := Lib.hid (rd_mv (Sl_ok R_Label_ok) H_13.out hb)
  have Cw_14 := Lib.hid (Cw_13.out.mv (Sl_ok R_Label_ok) hb)
  have Lw_14 := Lib.hid (Lw_13.out.mv R_Job_ok hb)
  have Cg_14 := Lib.hid (Cg_13.out.mv (Sl_ok R_Label_ok) hb)
  have Lg_14 := Lib.hid (Lg_13.out.mv R_Job_ok hb)
  have HB14 := Lib.hid (HB13.out.trans ((hb).mono HB13.out.size))
  clear BW_13 BG_13 H_13 Cw_13 Lw_13 Cg_13 Lg_13 HB13
  clear h hb
  go_wp2_with fail
  refine (to_LabelSS HSZ.out (H_14.out)).mono ?_
  intro e w15 h
  obtain ⟨a15, c15, rfl, ho, hb⟩ := newS_elim h
  have BW_15 := Lib.hid (BW_14.out.call hb)
  have BG_15 := Lib.hid (BG_14.out.call hb)
  have H_15 := Lib.hid (rd_mv (Sl_ok R_Label_ok) H_14.out hb)
  have Cw_15 := Lib.hid (Cw_14.out.mv (Sl_ok R_Label_ok) hb)
  have Lw_15 := Lib.hid (Lw_14.out.mv R_Job_ok hb)
  have Cg_15 := Lib.hid (Cg_14.out.mv (Sl_ok R_Label_ok) hb)
  have Lg_15 := Lib.hid (Lg_14.out.mv R_Job_ok hb)
  have HB15 := Lib.hid (HB14.out.trans ((hb).mono HB14.out.size))
  clear BW_14 BG_14 H_14 Cw_14 Lw_14 Cg_14 Lg_14 HB14
  have N_15 := Lib.hid (rd_sl (Sl_ok R_Label_ok) ho)
  clear ho
  clear h hb
  go_wp2_with fail
  refine (poolnew_impl (N_15.out)).mono ?_
  intro e w16 h
  rw [HD.out] at h
  obtain ⟨cah, cch, jah, jch, T1h, T2h, rfl, ht1, ht2, htd, o1, o2, hb⟩ := poolG_elim h
  have BW_16 := Lib.hid (BW_15.out.call hb)
  have BG_16 := Lib.hid (BG_15.out.call hb)
  have H_16 := Lib.hid (rd_mv (Sl_ok R_Label_ok) H_15.out hb)
  have Cw_16 := Lib.hid (Cw_15.out.mv (Sl_ok R_Label_ok) hb)
  have Lw_16 := Lib.hid (Lw_15.out.mv R_Job_ok hb)
  have Cg_16 := Lib.hid (Cg_15.out.mv (Sl_ok R_Label_ok) hb)
  have Lg_16 := Lib.hid (Lg_15.out.mv R_Job_ok hb)
  have N_16 := Lib.hid (rd_mv (Sl_ok R_Label_ok) N_15.out hb)
  have HB16 := Lib.hid (HB15.out.trans ((hb).mono HB15.out.size))
  clear BW_15 BG_15 H_15 Cw_15 Lw_15 Cg_15 Lg_15 N_15 HB15
  have Ch_16 := Lib.hid (show OwX (Sl R_Label) w16 T1h dC cah cch from ⟨o1, fun k hk => (ht1 k hk).2⟩)
  have Lh_16 := Lib.hid (show OwX R_Job w16 T2h dL jah jch from ⟨o2, fun k hk => (ht2 k hk).2⟩)
  have R1h := Lib.hid ht1
  have R2h := Lib.hid ht2
  have RDh := Lib.hid htd
  clear ht1 ht2 htd o1 o2
  clear h hb
  clear N_16
  have hbA : Below (w16).heap.size (w16) (w16.alloc (.cells #[.slice cah dC.length cch, .slice jah dL.length jch, .int .i64 dn, .int .i64 di, .int .i64 dc] 71)) := (Below.refl _ _).alloc (Nat.le_refl _) _
  have BW_17 := Lib.hid (BW_16.out.call hbA)
  have BG_17 := Lib.hid (BG_16.out.call hbA)
  have H_17 := Lib.hid (rd_mv (Sl_ok R_Label_ok) H_16.out hbA)
  have Cw_17 := Lib.hid (Cw_16.out.mv (Sl_ok R_Label_ok) hbA)
  have Lw_17 := Lib.hid (Lw_16.out.mv R_Job_ok hbA)
  have Cg_17 := Lib.hid (Cg_16.out.mv (Sl_ok R_Label_ok) hbA)
  have Lg_17 := Lib.hid (Lg_16.out.mv R_Job_ok hbA)
  have Ch_17 := Lib.hid (Ch_16.out.mv (Sl_ok R_Label_ok) hbA)
  have Lh_17 := Lib.hid (Lh_16.out.mv R_Job_ok hbA)
  have HB17 := Lib.hid (HB16.out.trans ((hbA).mono HB16.out.size))
  clear BW_16 BG_16 H_16 Cw_16 Lw_16 Cg_16 Lg_16 Ch_16 Lh_16 HB16
  have BH_17 := Blk.new (w16) 71 #[.slice cah dC.length cch, .slice jah dL.length jch, .int .i64 dn, .int .i64 di, .int .i64 dc]
  have BHh_17 := Lib.hid BH_17
  clear BH_17 hbA
  have qBH_0 := BHh_17.out.at_ 0 rfl
  have qBH_1 := BHh_17.out.at_ 1 rfl
  have qBH_2 := BHh_17.out.at_ 2 rfl
  have qBH_3 := BHh_17.out.at_ 3 rfl
  have qBH_4 := BHh_17.out.at_ 4 rfl
  have qBW_0 := BW_17.out.at_ 0 rfl
  have qBW_1 := BW_17.out.at_ 1 rfl
  have qBW_2 := BW_17.out.at_ 2 rfl
  have qBW_3 := BW_17.out.at_ 3 rfl
  have qBW_4 := BW_17.out.at_ 4 rfl
  go_wp2_with fail
  refine (eq_PoolOut (Ch_17.out.rd (Sl_ok R_Label_ok)) (Lh_17.out.rd R_Job_ok) (Cw_17.out.rd (Sl_ok R_Label_ok)) (Lw_17.out.rd R_Job_ok)).mono ?_
  intro e w18 h
  obtain ⟨rfl, hb⟩ := isB_elim h
  clear qBH_0 qBH_1 qBH_2 qBH_3 qBH_4 qBW_0 qBW_1 qBW_2 qBW_3 qBW_4
  have BW_18 := Lib.hid (BW_17.out.call hb)
  have BG_18 := Lib.hid (BG_17.out.call hb)
  have BH_18 := Lib.hid (BHh_17.out.call hb)
  have H_18 := Lib.hid (rd_mv (Sl_ok R_Label_ok) H_17.out hb)
  have Cw_18 := Lib.hid (Cw_17.out.mv (Sl_ok R_Label_ok) hb)
  have Lw_18 := Lib.hid (Lw_17.out.mv R_Job_ok hb)
  have Cg_18 := Lib.hid (Cg_17.out.mv (Sl_ok R_Label_ok) hb)
  have Lg_18 := Lib.hid (Lg_17.out.mv R_Job_ok hb)
  have Ch_18 := Lib.hid (Ch_17.out.mv (Sl_ok R_Label_ok) hb)
  have Lh_18 := Lib.hid (Lh_17.out.mv R_Job_ok hb)
  have HB18 := Lib.hid (HB17.out.trans ((hb).mono HB17.out.size))
  clear BW_17 BG_17 BHh_17 H_17 Cw_17 Lw_17 Cg_17 Lg_17 Ch_17 Lh_17 HB17
  clear h hb
  have qBG_0 := BG_18.out.at_ 0 rfl
  have qBG_1 := BG_18.out.at_ 1 rfl
  have qBG_2 := BG_18.out.at_ 2 rfl
  have qBG_3 := BG_18.out.at_ 3 rfl
  have qBG_4 := BG_18.out.at_ 4 rfl
  go_wp2_with fail
  refine (held_poolout HL0.out HL1.out (by omega) hzb HM0.out HM1.out (Cg_18.out.rd (Sl_ok R_Label_ok)) (Lg_18.out.rd R_Job_ok)).mono ?_
  intro e w19 h
  obtain ⟨rfl, hb⟩ := heldC_elim h
  clear qBG_0 qBG_1 qBG_2 qBG_3 qBG_4
  have BW_19 := Lib.hid (BW_18.out.call hb)
  have BG_19 := Lib.hid (BG_18.out.call hb)
  have BH_19 := Lib.hid (BH_18.out.call hb)
  have H_19 := Lib.hid (rd_mv (Sl_ok R_Label_ok) H_18.out hb)
  have Cw_19 := Lib.hid (Cw_18.out.mv (Sl_ok R_Label_ok) hb)
  have Lw_19 := Lib.hid (Lw_18.out.mv R_Job_ok hb)
  have Cg_19 := Lib.hid (Cg_18.out.mv (Sl_ok R_Label_ok) hb)
  have Lg_19 := Lib.hid (Lg_18.out.mv R_Job_ok hb)
  have Ch_19 := Lib.hid (Ch_18.out.mv (Sl_ok R_Label_ok) hb)
  have Lh_19 := Lib.hid (Lh_18.out.mv R_Job_ok hb)
  have HB19 := Lib.hid (HB18.out.trans ((hb).mono HB18.out.size))
  clear BW_18 BG_18 BH_18 H_18 Cw_18 Lw_18 Cg_18 Lg_18 Ch_18 Lh_18 HB18
  clear h hb
  go_wp2
  go_ret
  exact ⟨rfl, HB19.out⟩
end Go.Proofs.Ytjpkeofpcpaoaaa.RepC
