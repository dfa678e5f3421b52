/- The law on Submit, out of the contracts. -/
import Derived.Test.YtjpkeofpcpaoaaaPImG
import Derived.Test.YtjpkeofpcpaoaaaOwXs
import Derived.Test.YtjpkeofpcpaoaaaPlOpn
namespace Go.Proofs.Ytjpkeofpcpaoaaa.RepC
open Go.RowKit RowC ValC SpanC KeptC
set_option linter.unusedVariables false
set_option linter.unusedSimpArgs false

theorem rd_nw {α : Type} {E : Rp α} (hE : Ok E) {L : List α} {a : Option Addr} {c : Nat} {w : World} {T : Nat → Prop} (h : OwSl E w T L a c) (hT : ∀ k, T k → k < w.heap.size) : RdSl E w w.heap.size L a c := h.rd hE hT
theorem subD_small {C dC : List (List D_Label)} {L dL : List D_Job} {now l s need long prio dn di dc : Int} (hC : (Sl (Sl R_Label)).sz C ≤ 1048576) (hL : (Sl R_Job).sz L ≤ 1048576) (hd : subD C L now l s need long prio = (dC, dL, dn, di, dc)) : sumL (Sl R_Label).cm dC + sumL R_Job.cm dL ≤ 20000000 := by
  have key : subD C L now l s need long prio = (C, L ++ [subJ L l s need long prio], now, (cnt L l s : Int) + 1, 0) ∨ ∃ c, subD C L now l s need long prio = illD c := by
    unfold subD
    split
    · exact .inr ⟨1, rfl⟩
    · split
      · exact .inr ⟨11, rfl⟩
      · split
        · exact .inr ⟨9, rfl⟩
        · exact .inl rfl
  have h1 := cm_clear hC
  have h2 := cm_small hL
  rcases key with e | ⟨c, e⟩
  · rw [hd] at e
    injection e with e1 e2
    injection e2 with e3 _
    subst e1 e3
    rw [sumL_app, sumL_one]
    have h3 : R_Job.cm (subJ L l s need long prio) = 8 := rfl
    omega
  · rw [hd] at e
    injection e with e1 e2
    injection e2 with e3 _
    subst e1 e3
    simp [sumL]
theorem sz_pool2 {C : List (List D_Label)} {L : List D_Job} {now : Int} (h : R_Pool.sz (C, L, now) ≤ 1048576) : (Sl (Sl R_Label)).sz C ≤ 1048576 ∧ (Sl R_Job).sz L ≤ 1048576 := by
  have h2 : (Sl (Sl R_Label)).sz C + ((Sl R_Job).sz L + 0) ≤ 1048576 := h
  omega
theorem out_sets {w : World} {g : Nat} {v0 v1 v2 v3 v4 : Value} {t : TypeId} (h : Blk w g t #[.slice none 0 0, .slice none 0 0, .int .i64 0, .int .i64 0, .int .i64 0]) : Blk (((((w.setCell ⟨g, 0, none⟩ v0).setCell ⟨g, 1, none⟩ v1).setCell ⟨g, 2, none⟩ v2).setCell ⟨g, 3, none⟩ v3).setCell ⟨g, 4, none⟩ v4) g t #[v0, v1, v2, v3, v4] := Blk.as (((((h.set 0 v0).set 1 v1).set 2 v2).set 3 v3).set 4 v4) rfl
theorem out_off (w : World) (g : Nat) (v0 v1 v2 v3 v4 : Value) : Off (fun x => x = g) w (((((w.setCell ⟨g, 0, none⟩ v0).setCell ⟨g, 1, none⟩ v1).setCell ⟨g, 2, none⟩ v2).setCell ⟨g, 3, none⟩ v3).setCell ⟨g, 4, none⟩ v4) := (((((Off.refl (fun x => x = g) w).setCell (p := ⟨g, 0, none⟩) rfl v0).setCell (p := ⟨g, 1, none⟩) rfl v1).setCell (p := ⟨g, 2, none⟩) rfl v2).setCell (p := ⟨g, 3, none⟩) rfl v3).setCell (p := ⟨g, 4, none⟩) rfl v4

set_option maxRecDepth 100000 in
set_option maxHeartbeats 4000000 in
theorem law_submit {C : List (List D_Label)} {L : List D_Job} {now l s need long prio : Int} {ca ja : Option Addr} {cc jc : Nat} {W : World} (hC : RdSl (Sl R_Label) W W.heap.size C ca cc) (hL : RdSl R_Job W W.heap.size L ja jc) :
    Calls Try.prog 7 #[.agg #[.slice ca C.length cc, .slice ja L.length jc, .int .i64 now], .agg #[.int .i64 l, .int .i64 s], .int .i64 need, .int .i64 long, .int .i64 prio] W fun e w' => e = .returned (.bool true) ∧ Below W.heap.size W w' := by
  have HC := Lib.hid hC
  have HL := Lib.hid hL
  have HC0 := Lib.hid hC
  have HL0 := Lib.hid hL
  clear hC hL
  have hbA : Below (W).heap.size (W) (W.alloc (.cells #[.slice ca C.length cc, .slice ja L.length jc, .int .i64 now] 60)) := (Below.refl _ _).alloc (Nat.le_refl _) _
  have HC_1 := Lib.hid (rd_mv (Sl_ok R_Label_ok) HC.out hbA)
  have HL_1 := Lib.hid (rd_mv R_Job_ok HL.out hbA)
  have HB1 := Lib.hid (show Below W.heap.size W (W.alloc (.cells #[.slice ca C.length cc, .slice ja L.length jc, .int .i64 now] 60)) from hbA)
  clear HC HL
  have P_1 := Blk.new (W) 60 #[.slice ca C.length cc, .slice ja L.length jc, .int .i64 now]
  have Ph_1 := Lib.hid P_1
  clear P_1 hbA
  have hbA : Below (W.alloc (.cells #[.slice ca C.length cc, .slice ja L.length jc, .int .i64 now] 60)).heap.size (W.alloc (.cells #[.slice ca C.length cc, .slice ja L.length jc, .int .i64 now] 60)) ((W.alloc (.cells #[.slice ca C.length cc, .slice ja L.length jc, .int .i64 now] 60)).alloc (.cells #[.int .i64 l, .int .i64 s] 79)) := (Below.refl _ _).alloc (Nat.le_refl _) _
  have P_2 := Lib.hid (Ph_1.out.call hbA)
  have HC_2 := Lib.hid (rd_mv (Sl_ok R_Label_ok) HC_1.out hbA)
  have HL_2 := Lib.hid (rd_mv R_Job_ok HL_1.out hbA)
  have HB2 := Lib.hid (HB1.out.trans ((hbA).mono HB1.out.size))
  clear Ph_1 HC_1 HL_1 HB1
  have LB_2 := Blk.new (W.alloc (.cells #[.slice ca C.length cc, .slice ja L.length jc, .int .i64 now] 60)) 79 #[.int .i64 l, .int .i64 s]
  have LBh_2 := Lib.hid LB_2
  clear LB_2 hbA
  have hLB := LBh_2.out
  simp only [World.size_alloc] at hLB
  have LBs := Lib.hid hLB
  clear hLB LBh_2
  by_cases hsz : R_Pool.sz (C, L, now) ≤ 1048576
  rotate_left
  · skip
    go_enter Try.func7, Try.ntmps7
    have qP_0 := P_2.out.at_ 0 rfl
    have qP_1 := P_2.out.at_ 1 rfl
    have qP_2 := P_2.out.at_ 2 rfl
    have qLB_0 := LBs.out.at_ 0 rfl
    have qLB_1 := LBs.out.at_ 1 rfl
    go_wp2_with fail
    refine (sz_Pool (by omega) (by omega) (HC_2.out) (HL_2.out)).mono ?_
    intro e w3 h
    obtain ⟨rfl, hb⟩ := szC_elim h
    rw [szR_no (by omega)]
    clear qP_0 qP_1 qP_2 qLB_0 qLB_1
    have P_3 := Lib.hid (P_2.out.call hb)
    have LB_3 := Lib.hid (LBs.out.call hb)
    have HC_3 := Lib.hid (rd_mv (Sl_ok R_Label_ok) HC_2.out hb)
    have HL_3 := Lib.hid (rd_mv R_Job_ok HL_2.out hb)
    have HB3 := Lib.hid (HB2.out.trans ((hb).mono HB2.out.size))
    clear P_2 LBs HC_2 HL_2 HB2
    clear h hb
    go_wp2
    go_ret
    exact ⟨rfl, HB3.out⟩
  have HSZ := Lib.hid hsz
  have HSC := Lib.hid (sz_pool2 hsz).1
  have HSL := Lib.hid (sz_pool2 hsz).2
  obtain ⟨m, hm⟩ : ∃ m : Nat, R_Pool.sz (C, L, now) = m := ⟨_, rfl⟩
  have HM := Lib.hid hm
  rw [hm] at hsz
  clear hm
  have hlt1 : decide ((1048576 : Int) - (m : Int) < 0) = false := decide_eq_false (by omega)
  obtain ⟨⟨dC, dL, dn, di, dc⟩, hD⟩ : ∃ d, subD C L now l s need long prio = d := ⟨_, rfl⟩
  have HD := Lib.hid hD
  have HSM := Lib.hid (subD_small HSC.out HSL.out hD)
  clear hD
  go_enter Try.func7, Try.ntmps7
  have qP_0 := P_2.out.at_ 0 rfl
  have qP_1 := P_2.out.at_ 1 rfl
  have qP_2 := P_2.out.at_ 2 rfl
  have qLB_0 := LBs.out.at_ 0 rfl
  have qLB_1 := LBs.out.at_ 1 rfl
  go_wp2_with fail
  refine (sz_Pool (by omega) (by omega) (HC_2.out) (HL_2.out)).mono ?_
  intro e w3 h
  obtain ⟨rfl, hb⟩ := szC_elim h
  rw [HM.out, szR_yes (by omega)]
  clear qP_0 qP_1 qP_2 qLB_0 qLB_1
  have P_3 := Lib.hid (P_2.out.call hb)
  have LB_3 := Lib.hid (LBs.out.call hb)
  have HC_3 := Lib.hid (rd_mv (Sl_ok R_Label_ok) HC_2.out hb)
  have HL_3 := Lib.hid (rd_mv R_Job_ok HL_2.out hb)
  have HB3 := Lib.hid (HB2.out.trans ((hb).mono HB2.out.size))
  clear P_2 LBs HC_2 HL_2 HB2
  clear hsz
  clear h hb
  go_upto_region 5 with fail
  go_cut [12] (fun s8 wx => ∃ (gw : Nat) (caw : Option Addr) (ccw : Nat) (jaw : Option Addr) (jcw : Nat) (T1w T2w : Nat → Prop), s8 = .pointer (some ⟨gw, 0, none⟩) ∧ Hid (Blk wx gw 71 #[.slice caw dC.length ccw, .slice jaw dL.length jcw, .int .i64 dn, .int .i64 di, .int .i64 dc]) ∧ Hid (OwX (Sl R_Label) wx T1w dC caw ccw) ∧ Hid (OwX R_Job wx T2w dL jaw jcw) ∧ Hid (∀ k, T1w k → w3.heap.size ≤ k ∧ k ≠ gw) ∧ Hid (∀ k, T2w k → w3.heap.size ≤ k ∧ k ≠ gw) ∧ Hid (∀ k, T1w k → ¬ T2w k) ∧ Hid (w3.heap.size ≤ gw) ∧ Hid (Below w3.heap.size w3 wx))
  case first =>
    refine wp_region_held_drew (S := (fun V => Below w3.heap.size w3 V)) (by kernel_rfl) ((Below.refl _ _).drew) (fun hHeld => ?_)
    (refine wpAnyH_take (i := 0) (v := ?hv1) rfl (by kernel_rfl) (by kernel_rfl) (by kernel_rfl) (fun _ _ _ h => h) (Or.inl ⟨by kernel_rfl, ?hy1⟩) hHeld ?hr1; case hy1 => (intro w hSw; (try dsimp only at hSw); have k0 := (hSw.cell (p := ⟨W.heap.size, 0, none⟩) P_3.out.lt).trans (P_3.out.at_ 0 rfl); have k1 := (hSw.cell (p := ⟨W.heap.size, 1, none⟩) P_3.out.lt).trans (P_3.out.at_ 1 rfl); have k2 := (hSw.cell (p := ⟨W.heap.size, 2, none⟩) P_3.out.lt).trans (P_3.out.at_ 2 rfl); clear hSw; go_simp; try with_reducible rfl))
    simp only [Act.put, List.getElem_toArray, List.getElem_cons_succ, List.getElem_cons_zero, List.setIfInBounds_toArray, List.set_cons_zero, List.set_cons_succ]
    (refine wpAnyH_take (i := 2) (v := ?hv2) rfl (by kernel_rfl) (by kernel_rfl) (by kernel_rfl) (fun _ _ _ h => h) (Or.inl ⟨by kernel_rfl, ?hy2⟩) hHeld ?hr2; case hy2 => (intro w hSw; (try dsimp only at hSw); have k0 := (hSw.cell (p := ⟨(W.heap.size + 1), 0, none⟩) LB_3.out.lt).trans (LB_3.out.at_ 0 rfl); have k1 := (hSw.cell (p := ⟨(W.heap.size + 1), 1, none⟩) LB_3.out.lt).trans (LB_3.out.at_ 1 rfl); clear hSw; go_simp; try with_reducible rfl))
    simp only [Act.put, List.getElem_toArray, List.getElem_cons_succ, List.getElem_cons_zero, List.setIfInBounds_toArray, List.set_cons_zero, List.set_cons_succ]
    (refine wpAnyH_take (i := 4) (v := ?hv3) rfl (by kernel_rfl) (by kernel_rfl) (by kernel_rfl) (fun _ _ _ h => h) (Or.inl ⟨by kernel_rfl, ?hy3⟩) hHeld ?hr3; case hy3 => (intro w hSw; (try dsimp only at hSw); go_simp; try with_reducible rfl))
    simp only [Act.put, List.getElem_toArray, List.getElem_cons_succ, List.getElem_cons_zero, List.setIfInBounds_toArray, List.set_cons_zero, List.set_cons_succ]
    (refine wpAnyH_take (i := 5) (v := ?hv4) rfl (by kernel_rfl) (by kernel_rfl) (by kernel_rfl) (fun _ _ _ h => h) (Or.inl ⟨by kernel_rfl, ?hy4⟩) hHeld ?hr4; case hy4 => (intro w hSw; (try dsimp only at hSw); go_simp; try with_reducible rfl))
    simp only [Act.put, List.getElem_toArray, List.getElem_cons_succ, List.getElem_cons_zero, List.setIfInBounds_toArray, List.set_cons_zero, List.set_cons_succ]
    (refine wpAnyH_take (i := 6) (v := ?hv5) rfl (by kernel_rfl) (by kernel_rfl) (by kernel_rfl) (fun _ _ _ h => h) (Or.inl ⟨by kernel_rfl, ?hy5⟩) hHeld ?hr5; case hy5 => (intro w hSw; (try dsimp only at hSw); go_simp; try with_reducible rfl))
    simp only [Act.put, List.getElem_toArray, List.getElem_cons_succ, List.getElem_cons_zero, List.setIfInBounds_toArray, List.set_cons_zero, List.set_cons_succ]
    refine wpAnyH_ready (rs := [1, 8]) (by kernel_rfl) (by simp) ?_
    refine AllReadyH.cons rfl (fun K hK => ?_) (AllReadyH.cons rfl (fun K hK => ?_) AllReadyH.nil)
    · skip
      go_simp
      go_at_call 39
      refine (to_Pool HSZ.out (rd_mv (Sl_ok R_Label_ok) (HC_3.out) hHeld) (rd_mv R_Job_ok (HL_3.out) hHeld)).mono ?_
      intro e v5_1 h
      obtain ⟨us, rfl, hu, hb⟩ := newV_elim h
      obtain ⟨ac5_1, ac'5_1, aj5_1, aj'5_1, U, U', rfl, hU, hU', _, ho, ho'⟩ := ow_Pool hu
      have NC := Lib.hid (rd_nw (Sl_ok R_Label_ok) ho fun k hk => (hU k hk).2)
      have NL := Lib.hid (rd_nw R_Job_ok ho' fun k hk => (hU' k hk).2)
      clear h hu hU hU' ho ho'
      refine hK.out _ _ (hHeld.trans (hb.mono hHeld.size)) (fun hHeld => ?_)
      clear hK K hb
      try simp only [Act.put, List.getElem_toArray, List.getElem_cons_succ, List.getElem_cons_zero, List.setIfInBounds_toArray, List.set_cons_zero, List.set_cons_succ]
      refine wpAnyH_ready (rs := [3, 8]) (by kernel_rfl) (by simp) ?_
      refine AllReadyH.cons rfl (fun K hK => ?_) (AllReadyH.cons rfl (fun K hK => ?_) AllReadyH.nil)
      · skip
        go_simp
        go_at_call 52
        refine (to_Label (by simp only [R_Label, Pr, I, atom]; omega)).mono ?_
        intro e v5_2 h
        obtain ⟨us, rfl, hu, hb⟩ := newV_elim h
        obtain rfl := ow0_Label hu
        have NC := Lib.hid (rd_mv (Sl_ok R_Label_ok) NC.out hb)
        have NL := Lib.hid (rd_mv R_Job_ok NL.out hb)
        clear h hu
        refine hK.out _ _ (hHeld.trans (hb.mono hHeld.size)) (fun hHeld => ?_)
        clear hK K hb
        try simp only [Act.put, List.getElem_toArray, List.getElem_cons_succ, List.getElem_cons_zero, List.setIfInBounds_toArray, List.set_cons_zero, List.set_cons_succ]
        refine wpAnyH_ready (rs := [7, 8]) (by kernel_rfl) (by simp) ?_
        refine AllReadyH.cons rfl (fun K hK => ?_) (AllReadyH.cons rfl (fun K hK => ?_) AllReadyH.nil)
        · skip
          go_simp
          go_at_call 51
          refine ((submit_spec HSC.out HSL.out NC.out NL.out).mono (fun _ _ => poolO_G)).mono ?_
          intro e v5_3 h
          rw [HD.out] at h
          obtain ⟨ca5_3, cc5_3, ja5_3, jc5_3, P5_3, Q5_3, rfl, ht1, ht2, htd, o1, o2, hb⟩ := poolG_elim h
          have hHeld0 := Lib.hid hHeld
          have OWC := Lib.hid (show OwX (Sl R_Label) v5_3 P5_3 dC ca5_3 cc5_3 from ⟨o1, fun k hk => (ht1 k hk).2⟩)
          have OWL := Lib.hid (show OwX R_Job v5_3 Q5_3 dL ja5_3 jc5_3 from ⟨o2, fun k hk => (ht2 k hk).2⟩)
          have HT1 := Lib.hid ht1
          have HT2 := Lib.hid ht2
          have HTD := Lib.hid htd
          clear h ht1 ht2 htd o1 o2 NC NL
          refine hK.out _ _ (hHeld.trans (hb.mono hHeld.size)) (fun hHeld => ?_)
          clear hK K hb
          try simp only [Act.put, List.getElem_toArray, List.getElem_cons_succ, List.getElem_cons_zero, List.setIfInBounds_toArray, List.set_cons_zero, List.set_cons_succ]
          refine wpAnyH_ready (rs := [8]) (by kernel_rfl) (by simp) ?_
          refine AllReadyH.cons rfl (fun K hK => ?_) AllReadyH.nil
          go_simp
          have hb : Below (v5_3).heap.size (v5_3) (v5_3.alloc (.cells #[.slice none 0 0, .slice none 0 0, .int .i64 0, .int .i64 0, .int .i64 0] 71)) := (Below.refl _ _).alloc (Nat.le_refl _) _
          have OWC0 := OWC
          have OWL0 := OWL
          have OWC := Lib.hid (OWC.out.mv (Sl_ok R_Label_ok) hb)
          have OWL := Lib.hid (OWL.out.mv R_Job_ok hb)
          have GB := Lib.hid (show Blk (v5_3.alloc (.cells #[.slice none 0 0, .slice none 0 0, .int .i64 0, .int .i64 0, .int .i64 0] 71)) v5_3.heap.size 71 #[.slice none 0 0, .slice none 0 0, .int .i64 0, .int .i64 0, .int .i64 0] from Blk.new (v5_3) 71 #[.slice none 0 0, .slice none 0 0, .int .i64 0, .int .i64 0, .int .i64 0])
          have HGE := Lib.hid (show w3.heap.size ≤ v5_3.heap.size from hHeld.size)
          have HTB1 := Lib.hid (show ∀ k, P5_3 k → w3.heap.size ≤ k ∧ k ≠ v5_3.heap.size from fun k hk => ⟨Nat.le_trans hHeld0.out.size (HT1.out k hk).1, by have := (HT1.out k hk).2; omega⟩)
          have HTB2 := Lib.hid (show ∀ k, Q5_3 k → w3.heap.size ≤ k ∧ k ≠ v5_3.heap.size from fun k hk => ⟨Nat.le_trans hHeld0.out.size (HT2.out k hk).1, by have := (HT2.out k hk).2; omega⟩)
          have hPre := Lib.hid hHeld
          refine hK.out _ _ (hHeld.trans (hb.mono hHeld.size)) (fun hHeld => ?_)
          clear hK K hb
          try simp only [Act.put, List.getElem_toArray, List.getElem_cons_succ, List.getElem_cons_zero, List.setIfInBounds_toArray, List.set_cons_zero, List.set_cons_succ]
          refine wpAnyH_ready (rs := [9]) (by kernel_rfl) (by simp) ?_
          refine AllReadyH.cons rfl (fun K hK => ?_) AllReadyH.nil
          go_simp
          refine hK.out _ _ (hPre.out.alloc HGE.out (.cells #[.slice ca5_3 dC.length cc5_3, .slice ja5_3 dL.length jc5_3, .int .i64 dn, .int .i64 di, .int .i64 dc] 71)) (fun hHeld => ?_)
          clear hK K
          try simp only [Act.put, List.getElem_toArray, List.getElem_cons_succ, List.getElem_cons_zero, List.setIfInBounds_toArray, List.set_cons_zero, List.set_cons_succ]
          refine wpAnyH_done (by kernel_rfl) ?_ _
          go_wp2_with fail
          go_meet
          exact ⟨_, _, _, _, _, _, _, rfl, Lib.hid (Blk.new v5_3 71 #[.slice ca5_3 dC.length cc5_3, .slice ja5_3 dL.length jc5_3, .int .i64 dn, .int .i64 di, .int .i64 dc]), Lib.hid (OWC0.out.mv (Sl_ok R_Label_ok) ((Below.refl _ _).alloc (Nat.le_refl _) (.cells #[.slice ca5_3 dC.length cc5_3, .slice ja5_3 dL.length jc5_3, .int .i64 dn, .int .i64 di, .int .i64 dc] 71))), Lib.hid (OWL0.out.mv R_Job_ok ((Below.refl _ _).alloc (Nat.le_refl _) (.cells #[.slice ca5_3 dC.length cc5_3, .slice ja5_3 dL.length jc5_3, .int .i64 dn, .int .i64 di, .int .i64 dc] 71))), HTB1, HTB2, HTD, HGE, Lib.hid hHeld⟩
        · skip
          go_simp
          have hb : Below (v5_2).heap.size (v5_2) (v5_2.alloc (.cells #[.slice none 0 0, .slice none 0 0, .int .i64 0, .int .i64 0, .int .i64 0] 71)) := (Below.refl _ _).alloc (Nat.le_refl _) _
          have NC := Lib.hid (rd_mv (Sl_ok R_Label_ok) NC.out hb)
          have NL := Lib.hid (rd_mv R_Job_ok NL.out hb)
          have GB := Lib.hid (show Blk (v5_2.alloc (.cells #[.slice none 0 0, .slice none 0 0, .int .i64 0, .int .i64 0, .int .i64 0] 71)) v5_2.heap.size 71 #[.slice none 0 0, .slice none 0 0, .int .i64 0, .int .i64 0, .int .i64 0] from Blk.new (v5_2) 71 #[.slice none 0 0, .slice none 0 0, .int .i64 0, .int .i64 0, .int .i64 0])
          have HGE := Lib.hid (show w3.heap.size ≤ v5_2.heap.size from hHeld.size)
          refine hK.out _ _ (hHeld.trans (hb.mono hHeld.size)) (fun hHeld => ?_)
          clear hK K hb
          try simp only [Act.put, List.getElem_toArray, List.getElem_cons_succ, List.getElem_cons_zero, List.setIfInBounds_toArray, List.set_cons_zero, List.set_cons_succ]
          have GBl := Lib.hid (show v5_2.heap.size < (v5_2.alloc (.cells #[.slice none 0 0, .slice none 0 0, .int .i64 0, .int .i64 0, .int .i64 0] 71)).heap.size from GB.out.lt)
          refine wpAnyH_ready (rs := [7]) (by kernel_rfl) (by simp) ?_
          refine AllReadyH.cons rfl (fun K hK => ?_) AllReadyH.nil
          go_simp
          go_at_call 51
          refine ((submit_spec HSC.out HSL.out NC.out NL.out).mono (fun _ _ => poolO_G)).mono ?_
          intro e v5_4 h
          rw [HD.out] at h
          obtain ⟨ca5_4, cc5_4, ja5_4, jc5_4, P5_4, Q5_4, rfl, ht1, ht2, htd, o1, o2, hb⟩ := poolG_elim h
          have hHeld0 := Lib.hid hHeld
          have GB := Lib.hid (GB.out.call hb)
          have OWC := Lib.hid (show OwX (Sl R_Label) v5_4 P5_4 dC ca5_4 cc5_4 from ⟨o1, fun k hk => (ht1 k hk).2⟩)
          have OWL := Lib.hid (show OwX R_Job v5_4 Q5_4 dL ja5_4 jc5_4 from ⟨o2, fun k hk => (ht2 k hk).2⟩)
          have HT1 := Lib.hid ht1
          have HT2 := Lib.hid ht2
          have HTD := Lib.hid htd
          have HTB1 := Lib.hid (show ∀ k, P5_4 k → w3.heap.size ≤ k ∧ k ≠ v5_2.heap.size from fun k hk => ⟨Nat.le_trans hHeld.size (HT1.out k hk).1, by have h1 := (HT1.out k hk).1; have h2 := GBl.out; omega⟩)
          have HTB2 := Lib.hid (show ∀ k, Q5_4 k → w3.heap.size ≤ k ∧ k ≠ v5_2.heap.size from fun k hk => ⟨Nat.le_trans hHeld.size (HT2.out k hk).1, by have h1 := (HT2.out k hk).1; have h2 := GBl.out; omega⟩)
          clear h ht1 ht2 htd o1 o2 NC NL
          refine hK.out _ _ (hHeld.trans (hb.mono hHeld.size)) (fun hHeld => ?_)
          clear hK K hb
          try simp only [Act.put, List.getElem_toArray, List.getElem_cons_succ, List.getElem_cons_zero, List.setIfInBounds_toArray, List.set_cons_zero, List.set_cons_succ]
          have GBl := Lib.hid (show v5_2.heap.size < v5_4.heap.size from GB.out.lt)
          refine wpAnyH_ready (rs := [9]) (by kernel_rfl) (by simp) ?_
          refine AllReadyH.cons rfl (fun K hK => ?_) AllReadyH.nil
          have q0 := GB.out.at_ 0 rfl
          have f0 := GB.out.soft 0
          have q1 := GB.out.at_ 1 rfl
          have f1 := GB.out.soft 1
          have q2 := GB.out.at_ 2 rfl
          have f2 := GB.out.soft 2
          have q3 := GB.out.at_ 3 rfl
          have f3 := GB.out.soft 3
          have q4 := GB.out.at_ 4 rfl
          have f4 := GB.out.soft 4
          go_simp
          refine hK.out _ _ (((((hHeld.setCell (p := ⟨v5_2.heap.size, 0, none⟩) (by exact HGE.out) (.slice ca5_4 dC.length cc5_4)).setCell (p := ⟨v5_2.heap.size, 1, none⟩) (by exact HGE.out) (.slice ja5_4 dL.length jc5_4)).setCell (p := ⟨v5_2.heap.size, 2, none⟩) (by exact HGE.out) (.int .i64 dn)).setCell (p := ⟨v5_2.heap.size, 3, none⟩) (by exact HGE.out) (.int .i64 di)).setCell (p := ⟨v5_2.heap.size, 4, none⟩) (by exact HGE.out) (.int .i64 dc)) (fun hHeld => ?_)
          clear hK K q0 q1 q2 q3 q4 f0 f1 f2 f3 f4
          try simp only [Act.put, List.getElem_toArray, List.getElem_cons_succ, List.getElem_cons_zero, List.setIfInBounds_toArray, List.set_cons_zero, List.set_cons_succ]
          refine wpAnyH_done (by kernel_rfl) ?_ _
          go_wp2_with fail
          go_meet
          exact ⟨_, _, _, _, _, _, _, rfl, Lib.hid (out_sets GB.out), Lib.hid (OWC.out.off (Sl_ok R_Label_ok) (out_off _ _ _ _ _ _ _) (fun k hk h2 => (HTB1.out k hk).2 h2)), Lib.hid (OWL.out.off R_Job_ok (out_off _ _ _ _ _ _ _) (fun k hk h2 => (HTB2.out k hk).2 h2)), HTB1, HTB2, HTD, HGE, Lib.hid hHeld⟩
      · skip
        go_simp
        have hb : Below (v5_1).heap.size (v5_1) (v5_1.alloc (.cells #[.slice none 0 0, .slice none 0 0, .int .i64 0, .int .i64 0, .int .i64 0] 71)) := (Below.refl _ _).alloc (Nat.le_refl _) _
        have NC := Lib.hid (rd_mv (Sl_ok R_Label_ok) NC.out hb)
        have NL := Lib.hid (rd_mv R_Job_ok NL.out hb)
        have GB := Lib.hid (show Blk (v5_1.alloc (.cells #[.slice none 0 0, .slice none 0 0, .int .i64 0, .int .i64 0, .int .i64 0] 71)) v5_1.heap.size 71 #[.slice none 0 0, .slice none 0 0, .int .i64 0, .int .i64 0, .int .i64 0] from Blk.new (v5_1) 71 #[.slice none 0 0, .slice none 0 0, .int .i64 0, .int .i64 0, .int .i64 0])
        have HGE := Lib.hid (show w3.heap.size ≤ v5_1.heap.size from hHeld.size)
        refine hK.out _ _ (hHeld.trans (hb.mono hHeld.size)) (fun hHeld => ?_)
        clear hK K hb
        try simp only [Act.put, List.getElem_toArray, List.getElem_cons_succ, List.getElem_cons_zero, List.setIfInBounds_toArray, List.set_cons_zero, List.set_cons_succ]
        have GBl := Lib.hid (show v5_1.heap.size < (v5_1.alloc (.cells #[.slice none 0 0, .slice none 0 0, .int .i64 0, .int .i64 0, .int .i64 0] 71)).heap.size from GB.out.lt)
        refine wpAnyH_ready (rs := [3]) (by kernel_rfl) (by simp) ?_
        refine AllReadyH.cons rfl (fun K hK => ?_) AllReadyH.nil
        go_simp
        go_at_call 52
        refine (to_Label (by simp only [R_Label, Pr, I, atom]; omega)).mono ?_
        intro e v5_5 h
        obtain ⟨us, rfl, hu, hb⟩ := newV_elim h
        obtain rfl := ow0_Label hu
        have NC := Lib.hid (rd_mv (Sl_ok R_Label_ok) NC.out hb)
        have NL := Lib.hid (rd_mv R_Job_ok NL.out hb)
        have GB := Lib.hid (GB.out.call hb)
        clear h hu
        refine hK.out _ _ (hHeld.trans (hb.mono hHeld.size)) (fun hHeld => ?_)
        clear hK K hb
        try simp only [Act.put, List.getElem_toArray, List.getElem_cons_succ, List.getElem_cons_zero, List.setIfInBounds_toArray, List.set_cons_zero, List.set_cons_succ]
        have GBl := Lib.hid (show v5_1.heap.size < v5_5.heap.size from GB.out.lt)
        refine wpAnyH_ready (rs := [7]) (by kernel_rfl) (by simp) ?_
        refine AllReadyH.cons rfl (fun K hK => ?_) AllReadyH.nil
        go_simp
        go_at_call 51
        refine ((submit_spec HSC.out HSL.out NC.out NL.out).mono (fun _ _ => poolO_G)).mono ?_
        intro e v5_6 h
        rw [HD.out] at h
        obtain ⟨ca5_6, cc5_6, ja5_6, jc5_6, P5_6, Q5_6, rfl, ht1, ht2, htd, o1, o2, hb⟩ := poolG_elim h
        have hHeld0 := Lib.hid hHeld
        have GB := Lib.hid (GB.out.call hb)
        have OWC := Lib.hid (show OwX (Sl R_Label) v5_6 P5_6 dC ca5_6 cc5_6 from ⟨o1, fun k hk => (ht1 k hk).2⟩)
        have OWL := Lib.hid (show OwX R_Job v5_6 Q5_6 dL ja5_6 jc5_6 from ⟨o2, fun k hk => (ht2 k hk).2⟩)
        have HT1 := Lib.hid ht1
        have HT2 := Lib.hid ht2
        have HTD := Lib.hid htd
        have HTB1 := Lib.hid (show ∀ k, P5_6 k → w3.heap.size ≤ k ∧ k ≠ v5_1.heap.size from fun k hk => ⟨Nat.le_trans hHeld.size (HT1.out k hk).1, by have h1 := (HT1.out k hk).1; have h2 := GBl.out; omega⟩)
        have HTB2 := Lib.hid (show ∀ k, Q5_6 k → w3.heap.size ≤ k ∧ k ≠ v5_1.heap.size from fun k hk => ⟨Nat.le_trans hHeld.size (HT2.out k hk).1, by have h1 := (HT2.out k hk).1; have h2 := GBl.out; omega⟩)
        clear h ht1 ht2 htd o1 o2 NC NL
        refine hK.out _ _ (hHeld.trans (hb.mono hHeld.size)) (fun hHeld => ?_)
        clear hK K hb
        try simp only [Act.put, List.getElem_toArray, List.getElem_cons_succ, List.getElem_cons_zero, List.setIfInBounds_toArray, List.set_cons_zero, List.set_cons_succ]
        have GBl := Lib.hid (show v5_1.heap.size < v5_6.heap.size from GB.out.lt)
        refine wpAnyH_ready (rs := [9]) (by kernel_rfl) (by simp) ?_
        refine AllReadyH.cons rfl (fun K hK => ?_) AllReadyH.nil
        have q0 := GB.out.at_ 0 rfl
        have f0 := GB.out.soft 0
        have q1 := GB.out.at_ 1 rfl
        have f1 := GB.out.soft 1
        have q2 := GB.out.at_ 2 rfl
        have f2 := GB.out.soft 2
        have q3 := GB.out.at_ 3 rfl
        have f3 := GB.out.soft 3
        have q4 := GB.out.at_ 4 rfl
        have f4 := GB.out.soft 4
        go_simp
        refine hK.out _ _ (((((hHeld.setCell (p := ⟨v5_1.heap.size, 0, none⟩) (by exact HGE.out) (.slice ca5_6 dC.length cc5_6)).setCell (p := ⟨v5_1.heap.size, 1, none⟩) (by exact HGE.out) (.slice ja5_6 dL.length jc5_6)).setCell (p := ⟨v5_1.heap.size, 2, none⟩) (by exact HGE.out) (.int .i64 dn)).setCell (p := ⟨v5_1.heap.size, 3, none⟩) (by exact HGE.out) (.int .i64 di)).setCell (p := ⟨v5_1.heap.size, 4, none⟩) (by exact HGE.out) (.int .i64 dc)) (fun hHeld => ?_)
        clear hK K q0 q1 q2 q3 q4 f0 f1 f2 f3 f4
        try simp only [Act.put, List.getElem_toArray, List.getElem_cons_succ, List.getElem_cons_zero, List.setIfInBounds_toArray, List.set_cons_zero, List.set_cons_succ]
        refine wpAnyH_done (by kernel_rfl) ?_ _
        go_wp2_with fail
        go_meet
        exact ⟨_, _, _, _, _, _, _, rfl, Lib.hid (out_sets GB.out), Lib.hid (OWC.out.off (Sl_ok R_Label_ok) (out_off _ _ _ _ _ _ _) (fun k hk h2 => (HTB1.out k hk).2 h2)), Lib.hid (OWL.out.off R_Job_ok (out_off _ _ _ _ _ _ _) (fun k hk h2 => (HTB2.out k hk).2 h2)), HTB1, HTB2, HTD, HGE, Lib.hid hHeld⟩
    · skip
      go_simp
      have hb : Below (w3.drew).heap.size (w3.drew) ((w3.drew).alloc (.cells #[.slice none 0 0, .slice none 0 0, .int .i64 0, .int .i64 0, .int .i64 0] 71)) := (Below.refl _ _).alloc (Nat.le_refl _) _
      have GB := Lib.hid (show Blk ((w3.drew).alloc (.cells #[.slice none 0 0, .slice none 0 0, .int .i64 0, .int .i64 0, .int .i64 0] 71)) w3.heap.size 71 #[.slice none 0 0, .slice none 0 0, .int .i64 0, .int .i64 0, .int .i64 0] from Blk.new (w3.drew) 71 #[.slice none 0 0, .slice none 0 0, .int .i64 0, .int .i64 0, .int .i64 0])
      have HGE := Lib.hid (show w3.heap.size ≤ w3.heap.size from hHeld.size)
      refine hK.out _ _ (hHeld.trans (hb.mono hHeld.size)) (fun hHeld => ?_)
      clear hK K hb
      try simp only [Act.put, List.getElem_toArray, List.getElem_cons_succ, List.getElem_cons_zero, List.setIfInBounds_toArray, List.set_cons_zero, List.set_cons_succ]
      have GBl := Lib.hid (show w3.heap.size < ((w3.drew).alloc (.cells #[.slice none 0 0, .slice none 0 0, .int .i64 0, .int .i64 0, .int .i64 0] 71)).heap.size from GB.out.lt)
      refine wpAnyH_ready (rs := [1]) (by kernel_rfl) (by simp) ?_
      refine AllReadyH.cons rfl (fun K hK => ?_) AllReadyH.nil
      go_simp
      go_at_call 39
      refine (to_Pool HSZ.out (rd_mv (Sl_ok R_Label_ok) (HC_3.out) hHeld) (rd_mv R_Job_ok (HL_3.out) hHeld)).mono ?_
      intro e v5_7 h
      obtain ⟨us, rfl, hu, hb⟩ := newV_elim h
      obtain ⟨ac5_7, ac'5_7, aj5_7, aj'5_7, U, U', rfl, hU, hU', _, ho, ho'⟩ := ow_Pool hu
      have GB := Lib.hid (GB.out.call hb)
      have NC := Lib.hid (rd_nw (Sl_ok R_Label_ok) ho fun k hk => (hU k hk).2)
      have NL := Lib.hid (rd_nw R_Job_ok ho' fun k hk => (hU' k hk).2)
      clear h hu hU hU' ho ho'
      refine hK.out _ _ (hHeld.trans (hb.mono hHeld.size)) (fun hHeld => ?_)
      clear hK K hb
      try simp only [Act.put, List.getElem_toArray, List.getElem_cons_succ, List.getElem_cons_zero, List.setIfInBounds_toArray, List.set_cons_zero, List.set_cons_succ]
      have GBl := Lib.hid (show w3.heap.size < v5_7.heap.size from GB.out.lt)
      refine wpAnyH_ready (rs := [3]) (by kernel_rfl) (by simp) ?_
      refine AllReadyH.cons rfl (fun K hK => ?_) AllReadyH.nil
      go_simp
      go_at_call 52
      refine (to_Label (by simp only [R_Label, Pr, I, atom]; omega)).mono ?_
      intro e v5_8 h
      obtain ⟨us, rfl, hu, hb⟩ := newV_elim h
      obtain rfl := ow0_Label hu
      have NC := Lib.hid (rd_mv (Sl_ok R_Label_ok) NC.out hb)
      have NL := Lib.hid (rd_mv R_Job_ok NL.out hb)
      have GB := Lib.hid (GB.out.call hb)
      clear h hu
      refine hK.out _ _ (hHeld.trans (hb.mono hHeld.size)) (fun hHeld => ?_)
      clear hK K hb
      try simp only [Act.put, List.getElem_toArray, List.getElem_cons_succ, List.getElem_cons_zero, List.setIfInBounds_toArray, List.set_cons_zero, List.set_cons_succ]
      have GBl := Lib.hid (show w3.heap.size < v5_8.heap.size from GB.out.lt)
      refine wpAnyH_ready (rs := [7]) (by kernel_rfl) (by simp) ?_
      refine AllReadyH.cons rfl (fun K hK => ?_) AllReadyH.nil
      go_simp
      go_at_call 51
      refine ((submit_spec HSC.out HSL.out NC.out NL.out).mono (fun _ _ => poolO_G)).mono ?_
      intro e v5_9 h
      rw [HD.out] at h
      obtain ⟨ca5_9, cc5_9, ja5_9, jc5_9, P5_9, Q5_9, rfl, ht1, ht2, htd, o1, o2, hb⟩ := poolG_elim h
      have hHeld0 := Lib.hid hHeld
      have GB := Lib.hid (GB.out.call hb)
      have OWC := Lib.hid (show OwX (Sl R_Label) v5_9 P5_9 dC ca5_9 cc5_9 from ⟨o1, fun k hk => (ht1 k hk).2⟩)
      have OWL := Lib.hid (show OwX R_Job v5_9 Q5_9 dL ja5_9 jc5_9 from ⟨o2, fun k hk => (ht2 k hk).2⟩)
      have HT1 := Lib.hid ht1
      have HT2 := Lib.hid ht2
      have HTD := Lib.hid htd
      have HTB1 := Lib.hid (show ∀ k, P5_9 k → w3.heap.size ≤ k ∧ k ≠ w3.heap.size from fun k hk => ⟨Nat.le_trans hHeld.size (HT1.out k hk).1, by have h1 := (HT1.out k hk).1; have h2 := GBl.out; omega⟩)
      have HTB2 := Lib.hid (show ∀ k, Q5_9 k → w3.heap.size ≤ k ∧ k ≠ w3.heap.size from fun k hk => ⟨Nat.le_trans hHeld.size (HT2.out k hk).1, by have h1 := (HT2.out k hk).1; have h2 := GBl.out; omega⟩)
      clear h ht1 ht2 htd o1 o2 NC NL
      refine hK.out _ _ (hHeld.trans (hb.mono hHeld.size)) (fun hHeld => ?_)
      clear hK K hb
      try simp only [Act.put, List.getElem_toArray, List.getElem_cons_succ, List.getElem_cons_zero, List.setIfInBounds_toArray, List.set_cons_zero, List.set_cons_succ]
      have GBl := Lib.hid (show w3.heap.size < v5_9.heap.size from GB.out.lt)
      refine wpAnyH_ready (rs := [9]) (by kernel_rfl) (by simp) ?_
      refine AllReadyH.cons rfl (fun K hK => ?_) AllReadyH.nil
      have q0 := GB.out.at_ 0 rfl
      have f0 := GB.out.soft 0
      have q1 := GB.out.at_ 1 rfl
      have f1 := GB.out.soft 1
      have q2 := GB.out.at_ 2 rfl
      have f2 := GB.out.soft 2
      have q3 := GB.out.at_ 3 rfl
      have f3 := GB.out.soft 3
      have q4 := GB.out.at_ 4 rfl
      have f4 := GB.out.soft 4
      go_simp
      refine hK.out _ _ (((((hHeld.setCell (p := ⟨w3.heap.size, 0, none⟩) (by exact HGE.out) (.slice ca5_9 dC.length cc5_9)).setCell (p := ⟨w3.heap.size, 1, none⟩) (by exact HGE.out) (.slice ja5_9 dL.length jc5_9)).setCell (p := ⟨w3.heap.size, 2, none⟩) (by exact HGE.out) (.int .i64 dn)).setCell (p := ⟨w3.heap.size, 3, none⟩) (by exact HGE.out) (.int .i64 di)).setCell (p := ⟨w3.heap.size, 4, none⟩) (by exact HGE.out) (.int .i64 dc)) (fun hHeld => ?_)
      clear hK K q0 q1 q2 q3 q4 f0 f1 f2 f3 f4
      try simp only [Act.put, List.getElem_toArray, List.getElem_cons_succ, List.getElem_cons_zero, List.setIfInBounds_toArray, List.set_cons_zero, List.set_cons_succ]
      refine wpAnyH_done (by kernel_rfl) ?_ _
      go_wp2_with fail
      go_meet
      exact ⟨_, _, _, _, _, _, _, rfl, Lib.hid (out_sets GB.out), Lib.hid (OWC.out.off (Sl_ok R_Label_ok) (out_off _ _ _ _ _ _ _) (fun k hk h2 => (HTB1.out k hk).2 h2)), Lib.hid (OWL.out.off R_Job_ok (out_off _ _ _ _ _ _ _) (fun k hk h2 => (HTB2.out k hk).2 h2)), HTB1, HTB2, HTD, HGE, Lib.hid hHeld⟩
  case rest =>
    obtain ⟨gw, caw, ccw, jaw, jcw, T1w, T2w, rfl, HX8, HO8, HO9, HT8, HT9, HTD8, HG8, hcb⟩ := hcut
    rename World => w4
    have hb := hcb.out
    have P_4 := Lib.hid (P_3.out.call hb)
    have LB_4 := Lib.hid (LB_3.out.call hb)
    have HC_4 := Lib.hid (rd_mv (Sl_ok R_Label_ok) HC_3.out hb)
    have HL_4 := Lib.hid (rd_mv R_Job_ok HL_3.out hb)
    have HB4 := Lib.hid (HB3.out.trans ((hb).mono HB3.out.size))
    clear P_3 LB_3 HC_3 HL_3 HB3
    clear hb hcb
    have Bw_4 := HX8
    have Cw_4 := HO8
    have Lw_4 := HO9
    have R1w := HT8
    have R2w := HT9
    have RDw := HTD8
    have HGw := HG8
    clear HX8 HO8 HO9 HT8 HT9 HTD8 HG8
    have HUw1 := Lib.hid (fun k (hk : T1w k) => Cw_4.out.2 k hk)
    have HUw2 := Lib.hid (fun k (hk : T2w k) => Lw_4.out.2 k hk)
    have hgw : gw < w4.heap.size := Bw_4.out.lt
    have hPw : W.heap.size + 1 < w4.heap.size := LB_4.out.lt
    have qP_0 := P_4.out.at_ 0 rfl
    have qP_1 := P_4.out.at_ 1 rfl
    have qP_2 := P_4.out.at_ 2 rfl
    go_wp2_with fail
    refine (to_Pool HSZ.out (HC_4.out) (HL_4.out)).mono ?_
    intro e w5 h
    obtain ⟨us, rfl, hu, hb⟩ := newV_elim h
    obtain ⟨ax, ax', bx, bx', X1, X2, rfl, hX1, hX2, hXd, ho, ho'⟩ := ow_Pool hu
    clear qP_0 qP_1 qP_2
    have P_5 := Lib.hid (P_4.out.call hb)
    have LB_5 := Lib.hid (LB_4.out.call hb)
    have Bw_5 := Lib.hid (Bw_4.out.call hb)
    have HC_5 := Lib.hid (rd_mv (Sl_ok R_Label_ok) HC_4.out hb)
    have HL_5 := Lib.hid (rd_mv R_Job_ok HL_4.out hb)
    have Cw_5 := Lib.hid (Cw_4.out.mv (Sl_ok R_Label_ok) hb)
    have Lw_5 := Lib.hid (Lw_4.out.mv R_Job_ok hb)
    have HB5 := Lib.hid (HB4.out.trans ((hb).mono HB4.out.size))
    clear P_4 LB_4 Bw_4 HC_4 HL_4 Cw_4 Lw_4 HB4
    have X1_5 := Lib.hid (show OwX (Sl R_Label) w5 X1 C ax ax' from ⟨ho, fun k hk => (hX1 k hk).2⟩)
    have X2_5 := Lib.hid (show OwX R_Job w5 X2 L bx bx' from ⟨ho', fun k hk => (hX2 k hk).2⟩)
    have HX1 := Lib.hid hX1
    have HX2 := Lib.hid hX2
    have HXD := Lib.hid hXd
    have hzx := hb.size
    clear hu hX1 hX2 hXd ho ho'
    clear h hb
    have hbA : Below (w5).heap.size (w5) (w5.alloc (.cells #[.slice ax C.length ax', .slice bx L.length bx', .int .i64 now] 65)) := (Below.refl _ _).alloc (Nat.le_refl _) _
    have P_6 := Lib.hid (P_5.out.call hbA)
    have LB_6 := Lib.hid (LB_5.out.call hbA)
    have Bw_6 := Lib.hid (Bw_5.out.call hbA)
    have HC_6 := Lib.hid (rd_mv (Sl_ok R_Label_ok) HC_5.out hbA)
    have HL_6 := Lib.hid (rd_mv R_Job_ok HL_5.out hbA)
    have Cw_6 := Lib.hid (Cw_5.out.mv (Sl_ok R_Label_ok) hbA)
    have Lw_6 := Lib.hid (Lw_5.out.mv R_Job_ok hbA)
    have X1_6 := Lib.hid (X1_5.out.mv (Sl_ok R_Label_ok) hbA)
    have X2_6 := Lib.hid (X2_5.out.mv R_Job_ok hbA)
    have HB6 := Lib.hid (HB5.out.trans ((hbA).mono HB5.out.size))
    clear P_5 LB_5 Bw_5 HC_5 HL_5 Cw_5 Lw_5 X1_5 X2_5 HB5
    have BX_6 := Blk.new (w5) 65 #[.slice ax C.length ax', .slice bx L.length bx', .int .i64 now]
    have BXh_6 := Lib.hid BX_6
    clear BX_6 hbA
    have HZX2 := Lib.hid (show (w5.alloc (.cells #[.slice ax C.length ax', .slice bx L.length bx', .int .i64 now] 65)).heap.size = w5.heap.size + 1 by simp)
    obtain ⟨wz, hwz⟩ : ∃ w, w = w5.alloc (.cells #[.slice ax C.length ax', .slice bx L.length bx', .int .i64 now] 65) := ⟨_, rfl⟩
    rw [← hwz] at P_6 LB_6 Bw_6 BXh_6 HC_6 HL_6 Cw_6 Lw_6 X1_6 X2_6 HB6 HZX2
    have qBX_0 := BXh_6.out.at_ 0 rfl
    have qBX_1 := BXh_6.out.at_ 1 rfl
    have qBX_2 := BXh_6.out.at_ 2 rfl
    have qLB_0 := LB_6.out.at_ 0 rfl
    have qLB_1 := LB_6.out.at_ 1 rfl
    go_wp2_with fail
    rw [← hwz]
    clear hwz
    clear qBX_0 qBX_1 qBX_2 qLB_0 qLB_1
    go_upto_region 7 with fail
    go_cut [14] (fun s8 wx => ∃ (gg : Nat) (cag : Option Addr) (ccg : Nat) (jag : Option Addr) (jcg : Nat) (T1g T2g : Nat → Prop), s8 = .pointer (some ⟨gg, 0, none⟩) ∧ Hid (Blk wx gg 71 #[.slice cag dC.length ccg, .slice jag dL.length jcg, .int .i64 dn, .int .i64 di, .int .i64 dc]) ∧ Hid (OwX (Sl R_Label) wx T1g dC cag ccg) ∧ Hid (OwX R_Job wx T2g dL jag jcg) ∧ Hid (∀ k, T1g k → wz.heap.size ≤ k ∧ k ≠ gg) ∧ Hid (∀ k, T2g k → wz.heap.size ≤ k ∧ k ≠ gg) ∧ Hid (∀ k, T1g k → ¬ T2g k) ∧ Hid (wz.heap.size ≤ gg) ∧ Hid (Below wz.heap.size wz wx))
    case first =>
      refine wp_region_held_drew (S := (fun V => Below wz.heap.size wz V)) (by kernel_rfl) ((Below.refl _ _).drew) (fun hHeld => ?_)
      (refine wpAnyH_take (i := 0) (v := ?hv6) rfl (by kernel_rfl) (by kernel_rfl) (by kernel_rfl) (fun _ _ _ h => h) (Or.inl ⟨by kernel_rfl, ?hy6⟩) hHeld ?hr6; case hy6 => (intro w hSw; (try dsimp only at hSw); have k0 := (hSw.cell (p := ⟨w5.heap.size, 0, none⟩) BXh_6.out.lt).trans (BXh_6.out.at_ 0 rfl); have k1 := (hSw.cell (p := ⟨w5.heap.size, 1, none⟩) BXh_6.out.lt).trans (BXh_6.out.at_ 1 rfl); have k2 := (hSw.cell (p := ⟨w5.heap.size, 2, none⟩) BXh_6.out.lt).trans (BXh_6.out.at_ 2 rfl); clear hSw; go_simp; try with_reducible rfl))
      simp only [Act.put, List.getElem_toArray, List.getElem_cons_succ, List.getElem_cons_zero, List.setIfInBounds_toArray, List.set_cons_zero, List.set_cons_succ]
      (refine wpAnyH_take (i := 1) (v := ?hv7) rfl (by kernel_rfl) (by kernel_rfl) (by kernel_rfl) (fun _ _ _ h => h) (Or.inl ⟨by kernel_rfl, ?hy7⟩) hHeld ?hr7; case hy7 => (intro w hSw; (try dsimp only at hSw); have k0 := (hSw.cell (p := ⟨(W.heap.size + 1), 0, none⟩) LB_6.out.lt).trans (LB_6.out.at_ 0 rfl); have k1 := (hSw.cell (p := ⟨(W.heap.size + 1), 1, none⟩) LB_6.out.lt).trans (LB_6.out.at_ 1 rfl); clear hSw; go_simp; try with_reducible rfl))
      simp only [Act.put, List.getElem_toArray, List.getElem_cons_succ, List.getElem_cons_zero, List.setIfInBounds_toArray, List.set_cons_zero, List.set_cons_succ]
      (refine wpAnyH_take (i := 3) (v := ?hv8) rfl (by kernel_rfl) (by kernel_rfl) (by kernel_rfl) (fun _ _ _ h => h) (Or.inl ⟨by kernel_rfl, ?hy8⟩) hHeld ?hr8; case hy8 => (intro w hSw; (try dsimp only at hSw); go_simp; try with_reducible rfl))
      simp only [Act.put, List.getElem_toArray, List.getElem_cons_succ, List.getElem_cons_zero, List.setIfInBounds_toArray, List.set_cons_zero, List.set_cons_succ]
      (refine wpAnyH_take (i := 4) (v := ?hv9) rfl (by kernel_rfl) (by kernel_rfl) (by kernel_rfl) (fun _ _ _ h => h) (Or.inl ⟨by kernel_rfl, ?hy9⟩) hHeld ?hr9; case hy9 => (intro w hSw; (try dsimp only at hSw); go_simp; try with_reducible rfl))
      simp only [Act.put, List.getElem_toArray, List.getElem_cons_succ, List.getElem_cons_zero, List.setIfInBounds_toArray, List.set_cons_zero, List.set_cons_succ]
      (refine wpAnyH_take (i := 5) (v := ?hv10) rfl (by kernel_rfl) (by kernel_rfl) (by kernel_rfl) (fun _ _ _ h => h) (Or.inl ⟨by kernel_rfl, ?hy10⟩) hHeld ?hr10; case hy10 => (intro w hSw; (try dsimp only at hSw); go_simp; try with_reducible rfl))
      simp only [Act.put, List.getElem_toArray, List.getElem_cons_succ, List.getElem_cons_zero, List.setIfInBounds_toArray, List.set_cons_zero, List.set_cons_succ]
      refine wpAnyH_ready (rs := [2, 7]) (by kernel_rfl) (by simp) ?_
      refine AllReadyH.cons rfl (fun K hK => ?_) (AllReadyH.cons rfl (fun K hK => ?_) AllReadyH.nil)
      · skip
        go_simp
        go_at_call 52
        refine (to_Label (by simp only [R_Label, Pr, I, atom]; omega)).mono ?_
        intro e v7_1 h
        obtain ⟨us, rfl, hu, hb⟩ := newV_elim h
        obtain rfl := ow0_Label hu
        clear h hu
        refine hK.out _ _ (hHeld.trans (hb.mono hHeld.size)) (fun hHeld => ?_)
        clear hK K hb
        try simp only [Act.put, List.getElem_toArray, List.getElem_cons_succ, List.getElem_cons_zero, List.setIfInBounds_toArray, List.set_cons_zero, List.set_cons_succ]
        refine wpAnyH_ready (rs := [6, 7]) (by kernel_rfl) (by simp) ?_
        refine AllReadyH.cons rfl (fun K hK => ?_) (AllReadyH.cons rfl (fun K hK => ?_) AllReadyH.nil)
        · skip
          go_simp
          go_at_call 53
          refine (submit_impl (rd_mv (Sl_ok R_Label_ok) (X1_6.out.rd (Sl_ok R_Label_ok)) hHeld) (rd_mv R_Job_ok (X2_6.out.rd R_Job_ok) hHeld)).mono ?_
          intro e v7_2 h
          rw [HD.out] at h
          obtain ⟨ca7_2, cc7_2, ja7_2, jc7_2, P7_2, Q7_2, rfl, ht1, ht2, htd, o1, o2, hb⟩ := poolG_elim h
          have hHeld0 := Lib.hid hHeld
          have OWC := Lib.hid (show OwX (Sl R_Label) v7_2 P7_2 dC ca7_2 cc7_2 from ⟨o1, fun k hk => (ht1 k hk).2⟩)
          have OWL := Lib.hid (show OwX R_Job v7_2 Q7_2 dL ja7_2 jc7_2 from ⟨o2, fun k hk => (ht2 k hk).2⟩)
          have HT1 := Lib.hid ht1
          have HT2 := Lib.hid ht2
          have HTD := Lib.hid htd
          clear h ht1 ht2 htd o1 o2
          refine hK.out _ _ (hHeld.trans (hb.mono hHeld.size)) (fun hHeld => ?_)
          clear hK K hb
          try simp only [Act.put, List.getElem_toArray, List.getElem_cons_succ, List.getElem_cons_zero, List.setIfInBounds_toArray, List.set_cons_zero, List.set_cons_succ]
          refine wpAnyH_ready (rs := [7]) (by kernel_rfl) (by simp) ?_
          refine AllReadyH.cons rfl (fun K hK => ?_) AllReadyH.nil
          go_simp
          have hb : Below (v7_2).heap.size (v7_2) (v7_2.alloc (.cells #[.slice none 0 0, .slice none 0 0, .int .i64 0, .int .i64 0, .int .i64 0] 71)) := (Below.refl _ _).alloc (Nat.le_refl _) _
          have OWC0 := OWC
          have OWL0 := OWL
          have OWC := Lib.hid (OWC.out.mv (Sl_ok R_Label_ok) hb)
          have OWL := Lib.hid (OWL.out.mv R_Job_ok hb)
          have GB := Lib.hid (show Blk (v7_2.alloc (.cells #[.slice none 0 0, .slice none 0 0, .int .i64 0, .int .i64 0, .int .i64 0] 71)) v7_2.heap.size 71 #[.slice none 0 0, .slice none 0 0, .int .i64 0, .int .i64 0, .int .i64 0] from Blk.new (v7_2) 71 #[.slice none 0 0, .slice none 0 0, .int .i64 0, .int .i64 0, .int .i64 0])
          have HGE := Lib.hid (show wz.heap.size ≤ v7_2.heap.size from hHeld.size)
          have HTB1 := Lib.hid (show ∀ k, P7_2 k → wz.heap.size ≤ k ∧ k ≠ v7_2.heap.size from fun k hk => ⟨Nat.le_trans hHeld0.out.size (HT1.out k hk).1, by have := (HT1.out k hk).2; omega⟩)
          have HTB2 := Lib.hid (show ∀ k, Q7_2 k → wz.heap.size ≤ k ∧ k ≠ v7_2.heap.size from fun k hk => ⟨Nat.le_trans hHeld0.out.size (HT2.out k hk).1, by have := (HT2.out k hk).2; omega⟩)
          have hPre := Lib.hid hHeld
          refine hK.out _ _ (hHeld.trans (hb.mono hHeld.size)) (fun hHeld => ?_)
          clear hK K hb
          try simp only [Act.put, List.getElem_toArray, List.getElem_cons_succ, List.getElem_cons_zero, List.setIfInBounds_toArray, List.set_cons_zero, List.set_cons_succ]
          refine wpAnyH_ready (rs := [8]) (by kernel_rfl) (by simp) ?_
          refine AllReadyH.cons rfl (fun K hK => ?_) AllReadyH.nil
          go_simp
          refine hK.out _ _ (hPre.out.alloc HGE.out (.cells #[.slice ca7_2 dC.length cc7_2, .slice ja7_2 dL.length jc7_2, .int .i64 dn, .int .i64 di, .int .i64 dc] 71)) (fun hHeld => ?_)
          clear hK K
          try simp only [Act.put, List.getElem_toArray, List.getElem_cons_succ, List.getElem_cons_zero, List.setIfInBounds_toArray, List.set_cons_zero, List.set_cons_succ]
          refine wpAnyH_done (by kernel_rfl) ?_ _
          go_wp2_with fail
          go_meet
          exact ⟨_, _, _, _, _, _, _, rfl, Lib.hid (Blk.new v7_2 71 #[.slice ca7_2 dC.length cc7_2, .slice ja7_2 dL.length jc7_2, .int .i64 dn, .int .i64 di, .int .i64 dc]), Lib.hid (OWC0.out.mv (Sl_ok R_Label_ok) ((Below.refl _ _).alloc (Nat.le_refl _) (.cells #[.slice ca7_2 dC.length cc7_2, .slice ja7_2 dL.length jc7_2, .int .i64 dn, .int .i64 di, .int .i64 dc] 71))), Lib.hid (OWL0.out.mv R_Job_ok ((Below.refl _ _).alloc (Nat.le_refl _) (.cells #[.slice ca7_2 dC.length cc7_2, .slice ja7_2 dL.length jc7_2, .int .i64 dn, .int .i64 di, .int .i64 dc] 71))), HTB1, HTB2, HTD, HGE, Lib.hid hHeld⟩
        · skip
          go_simp
          have hb : Below (v7_1).heap.size (v7_1) (v7_1.alloc (.cells #[.slice none 0 0, .slice none 0 0, .int .i64 0, .int .i64 0, .int .i64 0] 71)) := (Below.refl _ _).alloc (Nat.le_refl _) _
          have GB := Lib.hid (show Blk (v7_1.alloc (.cells #[.slice none 0 0, .slice none 0 0, .int .i64 0, .int .i64 0, .int .i64 0] 71)) v7_1.heap.size 71 #[.slice none 0 0, .slice none 0 0, .int .i64 0, .int .i64 0, .int .i64 0] from Blk.new (v7_1) 71 #[.slice none 0 0, .slice none 0 0, .int .i64 0, .int .i64 0, .int .i64 0])
          have HGE := Lib.hid (show wz.heap.size ≤ v7_1.heap.size from hHeld.size)
          refine hK.out _ _ (hHeld.trans (hb.mono hHeld.size)) (fun hHeld => ?_)
          clear hK K hb
          try simp only [Act.put, List.getElem_toArray, List.getElem_cons_succ, List.getElem_cons_zero, List.setIfInBounds_toArray, List.set_cons_zero, List.set_cons_succ]
          have GBl := Lib.hid (show v7_1.heap.size < (v7_1.alloc (.cells #[.slice none 0 0, .slice none 0 0, .int .i64 0, .int .i64 0, .int .i64 0] 71)).heap.size from GB.out.lt)
          refine wpAnyH_ready (rs := [6]) (by kernel_rfl) (by simp) ?_
          refine AllReadyH.cons rfl (fun K hK => ?_) AllReadyH.nil
          go_simp
          go_at_call 53
          refine (submit_impl (rd_mv (Sl_ok R_Label_ok) (X1_6.out.rd (Sl_ok R_Label_ok)) hHeld) (rd_mv R_Job_ok (X2_6.out.rd R_Job_ok) hHeld)).mono ?_
          intro e v7_3 h
          rw [HD.out] at h
          obtain ⟨ca7_3, cc7_3, ja7_3, jc7_3, P7_3, Q7_3, rfl, ht1, ht2, htd, o1, o2, hb⟩ := poolG_elim h
          have hHeld0 := Lib.hid hHeld
          have GB := Lib.hid (GB.out.call hb)
          have OWC := Lib.hid (show OwX (Sl R_Label) v7_3 P7_3 dC ca7_3 cc7_3 from ⟨o1, fun k hk => (ht1 k hk).2⟩)
          have OWL := Lib.hid (show OwX R_Job v7_3 Q7_3 dL ja7_3 jc7_3 from ⟨o2, fun k hk => (ht2 k hk).2⟩)
          have HT1 := Lib.hid ht1
          have HT2 := Lib.hid ht2
          have HTD := Lib.hid htd
          have HTB1 := Lib.hid (show ∀ k, P7_3 k → wz.heap.size ≤ k ∧ k ≠ v7_1.heap.size from fun k hk => ⟨Nat.le_trans hHeld.size (HT1.out k hk).1, by have h1 := (HT1.out k hk).1; have h2 := GBl.out; omega⟩)
          have HTB2 := Lib.hid (show ∀ k, Q7_3 k → wz.heap.size ≤ k ∧ k ≠ v7_1.heap.size from fun k hk => ⟨Nat.le_trans hHeld.size (HT2.out k hk).1, by have h1 := (HT2.out k hk).1; have h2 := GBl.out; omega⟩)
          clear h ht1 ht2 htd o1 o2
          refine hK.out _ _ (hHeld.trans (hb.mono hHeld.size)) (fun hHeld => ?_)
          clear hK K hb
          try simp only [Act.put, List.getElem_toArray, List.getElem_cons_succ, List.getElem_cons_zero, List.setIfInBounds_toArray, List.set_cons_zero, List.set_cons_succ]
          have GBl := Lib.hid (show v7_1.heap.size < v7_3.heap.size from GB.out.lt)
          refine wpAnyH_ready (rs := [8]) (by kernel_rfl) (by simp) ?_
          refine AllReadyH.cons rfl (fun K hK => ?_) AllReadyH.nil
          have q0 := GB.out.at_ 0 rfl
          have f0 := GB.out.soft 0
          have q1 := GB.out.at_ 1 rfl
          have f1 := GB.out.soft 1
          have q2 := GB.out.at_ 2 rfl
          have f2 := GB.out.soft 2
          have q3 := GB.out.at_ 3 rfl
          have f3 := GB.out.soft 3
          have q4 := GB.out.at_ 4 rfl
          have f4 := GB.out.soft 4
          go_simp
          refine hK.out _ _ (((((hHeld.setCell (p := ⟨v7_1.heap.size, 0, none⟩) (by exact HGE.out) (.slice ca7_3 dC.length cc7_3)).setCell (p := ⟨v7_1.heap.size, 1, none⟩) (by exact HGE.out) (.slice ja7_3 dL.length jc7_3)).setCell (p := ⟨v7_1.heap.size, 2, none⟩) (by exact HGE.out) (.int .i64 dn)).setCell (p := ⟨v7_1.heap.size, 3, none⟩) (by exact HGE.out) (.int .i64 di)).setCell (p := ⟨v7_1.heap.size, 4, none⟩) (by exact HGE.out) (.int .i64 dc)) (fun hHeld => ?_)
          clear hK K q0 q1 q2 q3 q4 f0 f1 f2 f3 f4
          try simp only [Act.put, List.getElem_toArray, List.getElem_cons_succ, List.getElem_cons_zero, List.setIfInBounds_toArray, List.set_cons_zero, List.set_cons_succ]
          refine wpAnyH_done (by kernel_rfl) ?_ _
          go_wp2_with fail
          go_meet
          exact ⟨_, _, _, _, _, _, _, rfl, Lib.hid (out_sets GB.out), Lib.hid (OWC.out.off (Sl_ok R_Label_ok) (out_off _ _ _ _ _ _ _) (fun k hk h2 => (HTB1.out k hk).2 h2)), Lib.hid (OWL.out.off R_Job_ok (out_off _ _ _ _ _ _ _) (fun k hk h2 => (HTB2.out k hk).2 h2)), HTB1, HTB2, HTD, HGE, Lib.hid hHeld⟩
      · skip
        go_simp
        have hb : Below (wz.drew).heap.size (wz.drew) ((wz.drew).alloc (.cells #[.slice none 0 0, .slice none 0 0, .int .i64 0, .int .i64 0, .int .i64 0] 71)) := (Below.refl _ _).alloc (Nat.le_refl _) _
        have GB := Lib.hid (show Blk ((wz.drew).alloc (.cells #[.slice none 0 0, .slice none 0 0, .int .i64 0, .int .i64 0, .int .i64 0] 71)) wz.heap.size 71 #[.slice none 0 0, .slice none 0 0, .int .i64 0, .int .i64 0, .int .i64 0] from Blk.new (wz.drew) 71 #[.slice none 0 0, .slice none 0 0, .int .i64 0, .int .i64 0, .int .i64 0])
        have HGE := Lib.hid (show wz.heap.size ≤ wz.heap.size from hHeld.size)
        refine hK.out _ _ (hHeld.trans (hb.mono hHeld.size)) (fun hHeld => ?_)
        clear hK K hb
        try simp only [Act.put, List.getElem_toArray, List.getElem_cons_succ, List.getElem_cons_zero, List.setIfInBounds_toArray, List.set_cons_zero, List.set_cons_succ]
        have GBl := Lib.hid (show wz.heap.size < ((wz.drew).alloc (.cells #[.slice none 0 0, .slice none 0 0, .int .i64 0, .int .i64 0, .int .i64 0] 71)).heap.size from GB.out.lt)
        refine wpAnyH_ready (rs := [2]) (by kernel_rfl) (by simp) ?_
        refine AllReadyH.cons rfl (fun K hK => ?_) AllReadyH.nil
        go_simp
        go_at_call 52
        refine (to_Label (by simp only [R_Label, Pr, I, atom]; omega)).mono ?_
        intro e v7_4 h
        obtain ⟨us, rfl, hu, hb⟩ := newV_elim h
        obtain rfl := ow0_Label hu
        have GB := Lib.hid (GB.out.call hb)
        clear h hu
        refine hK.out _ _ (hHeld.trans (hb.mono hHeld.size)) (fun hHeld => ?_)
        clear hK K hb
        try simp only [Act.put, List.getElem_toArray, List.getElem_cons_succ, List.getElem_cons_zero, List.setIfInBounds_toArray, List.set_cons_zero, List.set_cons_succ]
        have GBl := Lib.hid (show wz.heap.size < v7_4.heap.size from GB.out.lt)
        refine wpAnyH_ready (rs := [6]) (by kernel_rfl) (by simp) ?_
        refine AllReadyH.cons rfl (fun K hK => ?_) AllReadyH.nil
        go_simp
        go_at_call 53
        refine (submit_impl (rd_mv (Sl_ok R_Label_ok) (X1_6.out.rd (Sl_ok R_Label_ok)) hHeld) (rd_mv R_Job_ok (X2_6.out.rd R_Job_ok) hHeld)).mono ?_
        intro e v7_5 h
        rw [HD.out] at h
        obtain ⟨ca7_5, cc7_5, ja7_5, jc7_5, P7_5, Q7_5, rfl, ht1, ht2, htd, o1, o2, hb⟩ := poolG_elim h
        have hHeld0 := Lib.hid hHeld
        have GB := Lib.hid (GB.out.call hb)
        have OWC := Lib.hid (show OwX (Sl R_Label) v7_5 P7_5 dC ca7_5 cc7_5 from ⟨o1, fun k hk => (ht1 k hk).2⟩)
        have OWL := Lib.hid (show OwX R_Job v7_5 Q7_5 dL ja7_5 jc7_5 from ⟨o2, fun k hk => (ht2 k hk).2⟩)
        have HT1 := Lib.hid ht1
        have HT2 := Lib.hid ht2
        have HTD := Lib.hid htd
        have HTB1 := Lib.hid (show ∀ k, P7_5 k → wz.heap.size ≤ k ∧ k ≠ wz.heap.size from fun k hk => ⟨Nat.le_trans hHeld.size (HT1.out k hk).1, by have h1 := (HT1.out k hk).1; have h2 := GBl.out; omega⟩)
        have HTB2 := Lib.hid (show ∀ k, Q7_5 k → wz.heap.size ≤ k ∧ k ≠ wz.heap.size from fun k hk => ⟨Nat.le_trans hHeld.size (HT2.out k hk).1, by have h1 := (HT2.out k hk).1; have h2 := GBl.out; omega⟩)
        clear h ht1 ht2 htd o1 o2
        refine hK.out _ _ (hHeld.trans (hb.mono hHeld.size)) (fun hHeld => ?_)
        clear hK K hb
        try simp only [Act.put, List.getElem_toArray, List.getElem_cons_succ, List.getElem_cons_zero, List.setIfInBounds_toArray, List.set_cons_zero, List.set_cons_succ]
        have GBl := Lib.hid (show wz.heap.size < v7_5.heap.size from GB.out.lt)
        refine wpAnyH_ready (rs := [8]) (by kernel_rfl) (by simp) ?_
        refine AllReadyH.cons rfl (fun K hK => ?_) AllReadyH.nil
        have q0 := GB.out.at_ 0 rfl
        have f0 := GB.out.soft 0
        have q1 := GB.out.at_ 1 rfl
        have f1 := GB.out.soft 1
        have q2 := GB.out.at_ 2 rfl
        have f2 := GB.out.soft 2
        have q3 := GB.out.at_ 3 rfl
        have f3 := GB.out.soft 3
        have q4 := GB.out.at_ 4 rfl
        have f4 := GB.out.soft 4
        go_simp
        refine hK.out _ _ (((((hHeld.setCell (p := ⟨wz.heap.size, 0, none⟩) (by exact HGE.out) (.slice ca7_5 dC.length cc7_5)).setCell (p := ⟨wz.heap.size, 1, none⟩) (by exact HGE.out) (.slice ja7_5 dL.length jc7_5)).setCell (p := ⟨wz.heap.size, 2, none⟩) (by exact HGE.out) (.int .i64 dn)).setCell (p := ⟨wz.heap.size, 3, none⟩) (by exact HGE.out) (.int .i64 di)).setCell (p := ⟨wz.heap.size, 4, none⟩) (by exact HGE.out) (.int .i64 dc)) (fun hHeld => ?_)
        clear hK K q0 q1 q2 q3 q4 f0 f1 f2 f3 f4
        try simp only [Act.put, List.getElem_toArray, List.getElem_cons_succ, List.getElem_cons_zero, List.setIfInBounds_toArray, List.set_cons_zero, List.set_cons_succ]
        refine wpAnyH_done (by kernel_rfl) ?_ _
        go_wp2_with fail
        go_meet
        exact ⟨_, _, _, _, _, _, _, rfl, Lib.hid (out_sets GB.out), Lib.hid (OWC.out.off (Sl_ok R_Label_ok) (out_off _ _ _ _ _ _ _) (fun k hk h2 => (HTB1.out k hk).2 h2)), Lib.hid (OWL.out.off R_Job_ok (out_off _ _ _ _ _ _ _) (fun k hk h2 => (HTB2.out k hk).2 h2)), HTB1, HTB2, HTD, HGE, Lib.hid hHeld⟩
    case rest =>
      obtain ⟨gg, cag, ccg, jag, jcg, T1g, T2g, rfl, HX8, HO8, HO9, HT8, HT9, HTD8, HG8, hcb⟩ := hcut
      rename World => w7
      have hb := hcb.out
      have P_7 := Lib.hid (P_6.out.call hb)
      have LB_7 := Lib.hid (LB_6.out.call hb)
      have Bw_7 := Lib.hid (Bw_6.out.call hb)
      have BX_7 := Lib.hid (BXh_6.out.call hb)
      have HC_7 := Lib.hid (rd_mv (Sl_ok R_Label_ok) HC_6.out hb)
      have HL_7 := Lib.hid (rd_mv R_Job_ok HL_6.out hb)
      have Cw_7 := Lib.hid (Cw_6.out.mv (Sl_ok R_Label_ok) hb)
      have Lw_7 := Lib.hid (Lw_6.out.mv R_Job_ok hb)
      have X1_7 := Lib.hid (X1_6.out.mv (Sl_ok R_Label_ok) hb)
      have X2_7 := Lib.hid (X2_6.out.mv R_Job_ok hb)
      have HB7 := Lib.hid (HB6.out.trans ((hb).mono HB6.out.size))
      clear P_6 LB_6 Bw_6 BXh_6 HC_6 HL_6 Cw_6 Lw_6 X1_6 X2_6 HB6
      clear hb hcb
      have Bg_7 := HX8
      have Cg_7 := HO8
      have Lg_7 := HO9
      have R1g := HT8
      have R2g := HT9
      have RDg := HTD8
      have HGg := HG8
      clear HX8 HO8 HO9 HT8 HT9 HTD8 HG8
      have HUg1 := Lib.hid (fun k (hk : T1g k) => Cg_7.out.2 k hk)
      have HUg2 := Lib.hid (fun k (hk : T2g k) => Lg_7.out.2 k hk)
      have hgg : wz.heap.size ≤ gg := HGg.out
      have hWz : W.heap.size ≤ w4.heap.size := by omega
      have qBg_0 := Bg_7.out.at_ 0 rfl
      have qBg_1 := Bg_7.out.at_ 1 rfl
      have qBg_2 := Bg_7.out.at_ 2 rfl
      have qBg_3 := Bg_7.out.at_ 3 rfl
      have qBg_4 := Bg_7.out.at_ 4 rfl
      have qBw_0 := Bw_7.out.at_ 0 rfl
      have qBw_1 := Bw_7.out.at_ 1 rfl
      have qBw_2 := Bw_7.out.at_ 2 rfl
      have qBw_3 := Bw_7.out.at_ 3 rfl
      have qBw_4 := Bw_7.out.at_ 4 rfl
      go_wp2_with fail
      refine (eq_PoolOut (Cg_7.out.rd (Sl_ok R_Label_ok)) (Lg_7.out.rd R_Job_ok) (Cw_7.out.rd (Sl_ok R_Label_ok)) (Lw_7.out.rd R_Job_ok)).mono ?_
      intro e w8 h
      obtain ⟨rfl, hb⟩ := isB_elim h
      clear qBg_0 qBg_1 qBg_2 qBg_3 qBg_4 qBw_0 qBw_1 qBw_2 qBw_3 qBw_4
      have P_8 := Lib.hid (P_7.out.call hb)
      have LB_8 := Lib.hid (LB_7.out.call hb)
      have Bw_8 := Lib.hid (Bw_7.out.call hb)
      have BX_8 := Lib.hid (BX_7.out.call hb)
      have Bg_8 := Lib.hid (Bg_7.out.call hb)
      have HC_8 := Lib.hid (rd_mv (Sl_ok R_Label_ok) HC_7.out hb)
      have HL_8 := Lib.hid (rd_mv R_Job_ok HL_7.out hb)
      have Cw_8 := Lib.hid (Cw_7.out.mv (Sl_ok R_Label_ok) hb)
      have Lw_8 := Lib.hid (Lw_7.out.mv R_Job_ok hb)
      have X1_8 := Lib.hid (X1_7.out.mv (Sl_ok R_Label_ok) hb)
      have X2_8 := Lib.hid (X2_7.out.mv R_Job_ok hb)
      have Cg_8 := Lib.hid (Cg_7.out.mv (Sl_ok R_Label_ok) hb)
      have Lg_8 := Lib.hid (Lg_7.out.mv R_Job_ok hb)
      have HB8 := Lib.hid (HB7.out.trans ((hb).mono HB7.out.size))
      clear P_7 LB_7 Bw_7 BX_7 Bg_7 HC_7 HL_7 Cw_7 Lw_7 X1_7 X2_7 Cg_7 Lg_7 HB7
      clear h hb
      go_wp2_with fail
      refine wp_region_held_drew (S := (fun V => Below (w8).heap.size (w8) V)) (by kernel_rfl) ((Below.refl _ _).drew) (fun hHeld => ?_)
      (refine wpAnyH_take (i := 0) (v := ?hv11) rfl (by kernel_rfl) (by kernel_rfl) (by kernel_rfl) (fun _ _ _ h => h) (Or.inl ⟨by kernel_rfl, ?hy11⟩) hHeld ?hr11; case hy11 => (intro w hSw; (try dsimp only at hSw); have k0 := (hSw.cell (p := ⟨w5.heap.size, 0, none⟩) BX_8.out.lt).trans (BX_8.out.at_ 0 rfl); have k1 := (hSw.cell (p := ⟨w5.heap.size, 1, none⟩) BX_8.out.lt).trans (BX_8.out.at_ 1 rfl); have k2 := (hSw.cell (p := ⟨w5.heap.size, 2, none⟩) BX_8.out.lt).trans (BX_8.out.at_ 2 rfl); clear hSw; go_simp; try with_reducible rfl))
      simp only [Act.put, List.getElem_toArray, List.getElem_cons_succ, List.getElem_cons_zero, List.setIfInBounds_toArray, List.set_cons_zero, List.set_cons_succ]
      (refine wpAnyH_take (i := 1) (v := ?hv12) rfl (by kernel_rfl) (by kernel_rfl) (by kernel_rfl) (fun _ _ _ h => h) (Or.inl ⟨by kernel_rfl, ?hy12⟩) hHeld ?hr12; case hy12 => (intro w hSw; (try dsimp only at hSw); have k0 := (hSw.cell (p := ⟨W.heap.size, 0, none⟩) P_8.out.lt).trans (P_8.out.at_ 0 rfl); have k1 := (hSw.cell (p := ⟨W.heap.size, 1, none⟩) P_8.out.lt).trans (P_8.out.at_ 1 rfl); have k2 := (hSw.cell (p := ⟨W.heap.size, 2, none⟩) P_8.out.lt).trans (P_8.out.at_ 2 rfl); clear hSw; go_simp; try with_reducible rfl))
      simp only [Act.put, List.getElem_toArray, List.getElem_cons_succ, List.getElem_cons_zero, List.setIfInBounds_toArray, List.set_cons_zero, List.set_cons_succ]
      refine wpAnyH_ready (rs := [2]) (by kernel_rfl) (by simp) ?_
      refine AllReadyH.cons rfl (fun K hK => ?_) AllReadyH.nil
      go_simp
      go_at_call 39
      refine (to_Pool HSZ.out (rd_mv (Sl_ok R_Label_ok) (HC_8.out) hHeld) (rd_mv R_Job_ok (HL_8.out) hHeld)).mono ?_
      intro e w801 h
      obtain ⟨us, rfl, hu, hb⟩ := newV_elim h
      obtain ⟨az, cz, bz, dz, U, U', rfl, hU, hU', _, ho, ho'⟩ := ow_Pool hu
      have ZC := Lib.hid (rd_nw (Sl_ok R_Label_ok) ho fun k hk => (hU k hk).2)
      have ZL := Lib.hid (rd_nw R_Job_ok ho' fun k hk => (hU' k hk).2)
      clear h
      refine hK.out _ _ (hHeld.trans (hb.mono hHeld.size)) (fun hHeld => ?_)
      clear hK K hb
      try simp only [Act.put, List.getElem_toArray, List.getElem_cons_succ, List.getElem_cons_zero, List.setIfInBounds_toArray, List.set_cons_zero, List.set_cons_succ]
      refine wpAnyH_ready (rs := [3]) (by kernel_rfl) (by simp) ?_
      refine AllReadyH.cons rfl (fun K hK => ?_) AllReadyH.nil
      go_simp
      go_at_call 41
      refine (eq_Pool (rd_mv (Sl_ok R_Label_ok) (X1_8.out.rd (Sl_ok R_Label_ok)) hHeld) (rd_mv R_Job_ok (X2_8.out.rd R_Job_ok) hHeld) ZC.out ZL.out).mono ?_
      intro e w802 h
      obtain ⟨rfl, hb⟩ := isB_elim h
      clear h
      refine hK.out _ _ (hHeld.trans (hb.mono hHeld.size)) (fun hHeld => ?_)
      clear hK K hb
      try simp only [Act.put, List.getElem_toArray, List.getElem_cons_succ, List.getElem_cons_zero, List.setIfInBounds_toArray, List.set_cons_zero, List.set_cons_succ]
      (refine wpAnyH_take (i := 4) (v := ?hv13) rfl (by kernel_rfl) (by kernel_rfl) (by kernel_rfl) (fun _ _ _ h => h) (Or.inl ⟨by kernel_rfl, ?hy13⟩) hHeld ?hr13; case hy13 => (intro w hSw; (try dsimp only at hSw); go_simp; try with_reducible rfl))
      simp only [Act.put, List.getElem_toArray, List.getElem_cons_succ, List.getElem_cons_zero, List.setIfInBounds_toArray, List.set_cons_zero, List.set_cons_succ]
      refine wpAnyH_done (by kernel_rfl) ?_ _
      have HF := Lib.hid hHeld
      clear hHeld
      have hF := HF.out
      have P_9 := Lib.hid (P_8.out.call hF)
      have LB_9 := Lib.hid (LB_8.out.call hF)
      have Bw_9 := Lib.hid (Bw_8.out.call hF)
      have BX_9 := Lib.hid (BX_8.out.call hF)
      have Bg_9 := Lib.hid (Bg_8.out.call hF)
      have HC_9 := Lib.hid (rd_mv (Sl_ok R_Label_ok) HC_8.out hF)
      have HL_9 := Lib.hid (rd_mv R_Job_ok HL_8.out hF)
      have Cw_9 := Lib.hid (Cw_8.out.mv (Sl_ok R_Label_ok) hF)
      have Lw_9 := Lib.hid (Lw_8.out.mv R_Job_ok hF)
      have X1_9 := Lib.hid (X1_8.out.mv (Sl_ok R_Label_ok) hF)
      have X2_9 := Lib.hid (X2_8.out.mv R_Job_ok hF)
      have Cg_9 := Lib.hid (Cg_8.out.mv (Sl_ok R_Label_ok) hF)
      have Lg_9 := Lib.hid (Lg_8.out.mv R_Job_ok hF)
      have HB9 := Lib.hid (HB8.out.trans ((hF).mono HB8.out.size))
      clear P_8 LB_8 Bw_8 BX_8 Bg_8 HC_8 HL_8 Cw_8 Lw_8 X1_8 X2_8 Cg_8 Lg_8 HB8
      clear HF hF
      clear ZC ZL
      have qBX_0 := BX_9.out.at_ 0 rfl
      have qBX_1 := BX_9.out.at_ 1 rfl
      have qBX_2 := BX_9.out.at_ 2 rfl
      go_wp2_with fail
      refine (mark_Pool (by omega) (by have h1 := cm_clear HSC.out; have h2 := cm_small HSL.out; omega) X1_9.out.2 X2_9.out.2 (fun q h1 h2 => HXD.out q h1 h2) X1_9.out.1 X2_9.out.1).mono ?_
      intro e wm h
      obtain ⟨y0, y1, N0, N1, rfl, ⟨hl0, hm0, hz0, ho0⟩, ⟨hl1, hm1, hz1, ho1⟩, hoff⟩ := h
      clear qBX_0 qBX_1 qBX_2
      have HB10 := Lib.hid (HB9.out.trans (hoff.below HB9.out.size (fun k hk => by have hq0 := HZX2.out; rcases hk with hq | hq; (have h1 := HX1.out _ hq; unfold Rg at h1; omega); (have h1 := HX2.out _ hq; unfold Rg at h1; omega))))
      have P_10 := Lib.hid (P_9.out.off hoff P_9.out.lt (fun hk => by have hq0 := HZX2.out; rcases hk with hq | hq; (have h1 := HX1.out _ hq; unfold Rg at h1; omega); (have h1 := HX2.out _ hq; unfold Rg at h1; omega)))
      have LB_10 := Lib.hid (LB_9.out.off hoff LB_9.out.lt (fun hk => by have hq0 := HZX2.out; rcases hk with hq | hq; (have h1 := HX1.out _ hq; unfold Rg at h1; omega); (have h1 := HX2.out _ hq; unfold Rg at h1; omega)))
      have Bw_10 := Lib.hid (Bw_9.out.off hoff Bw_9.out.lt (fun hk => by have hq0 := HZX2.out; rcases hk with hq | hq; (have h1 := HX1.out _ hq; unfold Rg at h1; omega); (have h1 := HX2.out _ hq; unfold Rg at h1; omega)))
      have BX_10 := Lib.hid (BX_9.out.off hoff BX_9.out.lt (fun hk => by have hq0 := HZX2.out; rcases hk with hq | hq; (have h1 := HX1.out _ hq; unfold Rg at h1; omega); (have h1 := HX2.out _ hq; unfold Rg at h1; omega)))
      have Bg_10 := Lib.hid (Bg_9.out.off hoff Bg_9.out.lt (fun hk => by have hq0 := HZX2.out; rcases hk with hq | hq; (have h1 := HX1.out _ hq; unfold Rg at h1; omega); (have h1 := HX2.out _ hq; unfold Rg at h1; omega)))
      have HC_10 := Lib.hid ((HC0.out.below (Sl_ok R_Label_ok) HB10.out).more (Sl_ok R_Label_ok) HB10.out.size)
      have HL_10 := Lib.hid ((HL0.out.below R_Job_ok HB10.out).more R_Job_ok HB10.out.size)
      have Cw_10 := Lib.hid (Cw_9.out.off (Sl_ok R_Label_ok) hoff (fun k hk hk2 => by have h2 := HUw1.out k hk; have hq0 := HZX2.out; rcases hk2 with hq | hq; (have h1 := HX1.out _ hq; unfold Rg at h1; omega); (have h1 := HX2.out _ hq; unfold Rg at h1; omega)))
      have Lw_10 := Lib.hid (Lw_9.out.off R_Job_ok hoff (fun k hk hk2 => by have h2 := HUw2.out k hk; have hq0 := HZX2.out; rcases hk2 with hq | hq; (have h1 := HX1.out _ hq; unfold Rg at h1; omega); (have h1 := HX2.out _ hq; unfold Rg at h1; omega)))
      have Cg_10 := Lib.hid (Cg_9.out.off (Sl_ok R_Label_ok) hoff (fun k hk hk2 => by have h2 := (R1g.out k hk).1; have hq0 := HZX2.out; rcases hk2 with hq | hq; (have h1 := HX1.out _ hq; unfold Rg at h1; omega); (have h1 := HX2.out _ hq; unfold Rg at h1; omega)))
      have Lg_10 := Lib.hid (Lg_9.out.off R_Job_ok hoff (fun k hk hk2 => by have h2 := (R2g.out k hk).1; have hq0 := HZX2.out; rcases hk2 with hq | hq; (have h1 := HX1.out _ hq; unfold Rg at h1; omega); (have h1 := HX2.out _ hq; unfold Rg at h1; omega)))
      have hkn : decide (y1 < 0) = false := decide_eq_false (by omega)
      clear hl0 hm0 hz0 ho0 hl1 hm1 hz1 ho1 hoff
      have qBg_0 := Bg_10.out.at_ 0 rfl
      have qBg_1 := Bg_10.out.at_ 1 rfl
      have qBg_2 := Bg_10.out.at_ 2 rfl
      have qBg_3 := Bg_10.out.at_ 3 rfl
      have qBg_4 := Bg_10.out.at_ 4 rfl
      have qBw_0 := Bw_10.out.at_ 0 rfl
      have qBw_1 := Bw_10.out.at_ 1 rfl
      have qBw_2 := Bw_10.out.at_ 2 rfl
      have qBw_3 := Bw_10.out.at_ 3 rfl
      have qBw_4 := Bw_10.out.at_ 4 rfl
      go_wp2_with fail
      refine (eq_PoolOut (Cg_10.out.rd (Sl_ok R_Label_ok)) (Lg_10.out.rd R_Job_ok) (Cw_10.out.rd (Sl_ok R_Label_ok)) (Lw_10.out.rd R_Job_ok)).mono ?_
      intro e w11 h
      obtain ⟨rfl, hb⟩ := isB_elim h
      clear qBg_0 qBg_1 qBg_2 qBg_3 qBg_4 qBw_0 qBw_1 qBw_2 qBw_3 qBw_4
      have P_11 := Lib.hid (P_10.out.call hb)
      have LB_11 := Lib.hid (LB_10.out.call hb)
      have Bw_11 := Lib.hid (Bw_10.out.call hb)
      have BX_11 := Lib.hid (BX_10.out.call hb)
      have Bg_11 := Lib.hid (Bg_10.out.call hb)
      have HC_11 := Lib.hid (rd_mv (Sl_ok R_Label_ok) HC_10.out hb)
      have HL_11 := Lib.hid (rd_mv R_Job_ok HL_10.out hb)
      have Cw_11 := Lib.hid (Cw_10.out.mv (Sl_ok R_Label_ok) hb)
      have Lw_11 := Lib.hid (Lw_10.out.mv R_Job_ok hb)
      have Cg_11 := Lib.hid (Cg_10.out.mv (Sl_ok R_Label_ok) hb)
      have Lg_11 := Lib.hid (Lg_10.out.mv R_Job_ok hb)
      have HB11 := Lib.hid (HB10.out.trans ((hb).mono HB10.out.size))
      clear P_10 LB_10 Bw_10 BX_10 Bg_10 HC_10 HL_10 Cw_10 Lw_10 Cg_10 Lg_10 HB10
      clear h hb
      clear hkn
      have qBg_0 := Bg_11.out.at_ 0 rfl
      have qBg_1 := Bg_11.out.at_ 1 rfl
      have qBg_2 := Bg_11.out.at_ 2 rfl
      have qBg_3 := Bg_11.out.at_ 3 rfl
      have qBg_4 := Bg_11.out.at_ 4 rfl
      go_wp2_with fail
      refine (mark_PoolOut (by omega) (by have := HSM.out; omega) Cg_11.out.2 Lg_11.out.2 (fun q h1 h2 => RDg.out q h1 h2) Cg_11.out.1 Lg_11.out.1).mono ?_
      intro e wn h
      obtain ⟨z0, z1, M0, M1, rfl, ⟨hl0, hm0, hz0, ho0⟩, ⟨hl1, hm1, hz1, ho1⟩, hoff⟩ := h
      clear qBg_0 qBg_1 qBg_2 qBg_3 qBg_4
      have HB12 := Lib.hid (HB11.out.trans (hoff.below HB11.out.size (fun k hk => by have hq0 := HZX2.out; rcases hk with hq | hq; (have h1 := R1g.out _ hq; omega); (have h1 := R2g.out _ hq; omega))))
      have P_12 := Lib.hid (P_11.out.off hoff P_11.out.lt (fun hk => by have hq0 := HZX2.out; rcases hk with hq | hq; (have h1 := R1g.out _ hq; omega); (have h1 := R2g.out _ hq; omega)))
      have LB_12 := Lib.hid (LB_11.out.off hoff LB_11.out.lt (fun hk => by have hq0 := HZX2.out; rcases hk with hq | hq; (have h1 := R1g.out _ hq; omega); (have h1 := R2g.out _ hq; omega)))
      have Bw_12 := Lib.hid (Bw_11.out.off hoff Bw_11.out.lt (fun hk => by have hq0 := HZX2.out; rcases hk with hq | hq; (have h1 := R1g.out _ hq; omega); (have h1 := R2g.out _ hq; omega)))
      have BX_12 := Lib.hid (BX_11.out.off hoff BX_11.out.lt (fun hk => by have hq0 := HZX2.out; rcases hk with hq | hq; (have h1 := R1g.out _ hq; omega); (have h1 := R2g.out _ hq; omega)))
      have Bg_12 := Lib.hid (Bg_11.out.off hoff Bg_11.out.lt (fun hk => by rcases hk with hq | hq; exact (R1g.out _ hq).2 rfl; exact (R2g.out _ hq).2 rfl))
      have HC_12 := Lib.hid ((HC0.out.below (Sl_ok R_Label_ok) HB12.out).more (Sl_ok R_Label_ok) HB12.out.size)
      have HL_12 := Lib.hid ((HL0.out.below R_Job_ok HB12.out).more R_Job_ok HB12.out.size)
      have Cw_12 := Lib.hid (Cw_11.out.off (Sl_ok R_Label_ok) hoff (fun k hk hk2 => by have h2 := HUw1.out k hk; have hq0 := HZX2.out; rcases hk2 with hq | hq; (have h1 := R1g.out _ hq; omega); (have h1 := R2g.out _ hq; omega)))
      have Lw_12 := Lib.hid (Lw_11.out.off R_Job_ok hoff (fun k hk hk2 => by have h2 := HUw2.out k hk; have hq0 := HZX2.out; rcases hk2 with hq | hq; (have h1 := R1g.out _ hq; omega); (have h1 := R2g.out _ hq; omega)))
      have Cg_12 := Lib.hid (show OwX (Sl R_Label) wn T1g M0 cag ccg from ⟨ho0, fun k hk => Nat.lt_of_lt_of_le (Cg_11.out.2 k hk) hoff.size⟩)
      have Lg_12 := Lib.hid (show OwX R_Job wn T2g M1 jag jcg from ⟨ho1, fun k hk => Nat.lt_of_lt_of_le (Lg_11.out.2 k hk) hoff.size⟩)
      have HL0' := Lib.hid hl0
      have HL1' := Lib.hid hl1
      have HM0 := Lib.hid hm0
      have HM1 := Lib.hid hm1
      have hzn : decide (z1 < 0) = false := decide_eq_false (by omega)
      have hze : (z1 != z1) = false := by simp
      have hzb : z1 ≤ 4611686018427387904 := by have := HSM.out; omega
      clear hl0 hm0 hz0 ho0 hl1 hm1 hz1 ho1 hoff
      have qBg_0 := Bg_12.out.at_ 0 rfl
      have qBg_1 := Bg_12.out.at_ 1 rfl
      have qBg_2 := Bg_12.out.at_ 2 rfl
      have qBg_3 := Bg_12.out.at_ 3 rfl
      have qBg_4 := Bg_12.out.at_ 4 rfl
      go_wp2_with fail
      refine (held_poolout HL0'.out HL1'.out (by omega) hzb HM0.out HM1.out (Cg_12.out.rd (Sl_ok R_Label_ok)) (Lg_12.out.rd R_Job_ok)).mono ?_
      intro e w13 h
      obtain ⟨rfl, hb⟩ := heldC_elim h
      clear qBg_0 qBg_1 qBg_2 qBg_3 qBg_4
      have P_13 := Lib.hid (P_12.out.call hb)
      have LB_13 := Lib.hid (LB_12.out.call hb)
      have Bw_13 := Lib.hid (Bw_12.out.call hb)
      have BX_13 := Lib.hid (BX_12.out.call hb)
      have Bg_13 := Lib.hid (Bg_12.out.call hb)
      have HC_13 := Lib.hid (rd_mv (Sl_ok R_Label_ok) HC_12.out hb)
      have HL_13 := Lib.hid (rd_mv R_Job_ok HL_12.out hb)
      have Cw_13 := Lib.hid (Cw_12.out.mv (Sl_ok R_Label_ok) hb)
      have Lw_13 := Lib.hid (Lw_12.out.mv R_Job_ok hb)
      have Cg_13 := Lib.hid (Cg_12.out.mv (Sl_ok R_Label_ok) hb)
      have Lg_13 := Lib.hid (Lg_12.out.mv R_Job_ok hb)
      have HB13 := Lib.hid (HB12.out.trans ((hb).mono HB12.out.size))
      clear P_12 LB_12 Bw_12 BX_12 Bg_12 HC_12 HL_12 Cw_12 Lw_12 Cg_12 Lg_12 HB12
      clear h hb
      go_upto_region 24 with fail
      go_cut [18] (fun s8 wx => ∃ (gh : Nat) (cah : Option Addr) (cch : Nat) (jah : Option Addr) (jch : Nat) (T1h T2h : Nat → Prop), s8 = .pointer (some ⟨gh, 0, none⟩) ∧ Hid (Blk wx gh 71 #[.slice cah dC.length cch, .slice jah dL.length jch, .int .i64 dn, .int .i64 di, .int .i64 dc]) ∧ Hid (OwX (Sl R_Label) wx T1h dC cah cch) ∧ Hid (OwX R_Job wx T2h dL jah jch) ∧ Hid (∀ k, T1h k → w13.heap.size ≤ k ∧ k ≠ gh) ∧ Hid (∀ k, T2h k → w13.heap.size ≤ k ∧ k ≠ gh) ∧ Hid (∀ k, T1h k → ¬ T2h k) ∧ Hid (w13.heap.size ≤ gh) ∧ Hid (Below w13.heap.size w13 wx))
      case first =>
        refine wp_region_held_drew (S := (fun V => Below w13.heap.size w13 V)) (by kernel_rfl) ((Below.refl _ _).drew) (fun hHeld => ?_)
        (refine wpAnyH_take (i := 0) (v := ?hv14) rfl (by kernel_rfl) (by kernel_rfl) (by kernel_rfl) (fun _ _ _ h => h) (Or.inl ⟨by kernel_rfl, ?hy14⟩) hHeld ?hr14; case hy14 => (intro w hSw; (try dsimp only at hSw); have k0 := (hSw.cell (p := ⟨W.heap.size, 0, none⟩) P_13.out.lt).trans (P_13.out.at_ 0 rfl); have k1 := (hSw.cell (p := ⟨W.heap.size, 1, none⟩) P_13.out.lt).trans (P_13.out.at_ 1 rfl); have k2 := (hSw.cell (p := ⟨W.heap.size, 2, none⟩) P_13.out.lt).trans (P_13.out.at_ 2 rfl); clear hSw; go_simp; try with_reducible rfl))
        simp only [Act.put, List.getElem_toArray, List.getElem_cons_succ, List.getElem_cons_zero, List.setIfInBounds_toArray, List.set_cons_zero, List.set_cons_succ]
        (refine wpAnyH_take (i := 2) (v := ?hv15) rfl (by kernel_rfl) (by kernel_rfl) (by kernel_rfl) (fun _ _ _ h => h) (Or.inl ⟨by kernel_rfl, ?hy15⟩) hHeld ?hr15; case hy15 => (intro w hSw; (try dsimp only at hSw); have k0 := (hSw.cell (p := ⟨(W.heap.size + 1), 0, none⟩) LB_13.out.lt).trans (LB_13.out.at_ 0 rfl); have k1 := (hSw.cell (p := ⟨(W.heap.size + 1), 1, none⟩) LB_13.out.lt).trans (LB_13.out.at_ 1 rfl); clear hSw; go_simp; try with_reducible rfl))
        simp only [Act.put, List.getElem_toArray, List.getElem_cons_succ, List.getElem_cons_zero, List.setIfInBounds_toArray, List.set_cons_zero, List.set_cons_succ]
        (refine wpAnyH_take (i := 4) (v := ?hv16) rfl (by kernel_rfl) (by kernel_rfl) (by kernel_rfl) (fun _ _ _ h => h) (Or.inl ⟨by kernel_rfl, ?hy16⟩) hHeld ?hr16; case hy16 => (intro w hSw; (try dsimp only at hSw); go_simp; try with_reducible rfl))
        simp only [Act.put, List.getElem_toArray, List.getElem_cons_succ, List.getElem_cons_zero, List.setIfInBounds_toArray, List.set_cons_zero, List.set_cons_succ]
        (refine wpAnyH_take (i := 5) (v := ?hv17) rfl (by kernel_rfl) (by kernel_rfl) (by kernel_rfl) (fun _ _ _ h => h) (Or.inl ⟨by kernel_rfl, ?hy17⟩) hHeld ?hr17; case hy17 => (intro w hSw; (try dsimp only at hSw); go_simp; try with_reducible rfl))
        simp only [Act.put, List.getElem_toArray, List.getElem_cons_succ, List.getElem_cons_zero, List.setIfInBounds_toArray, List.set_cons_zero, List.set_cons_succ]
        (refine wpAnyH_take (i := 6) (v := ?hv18) rfl (by kernel_rfl) (by kernel_rfl) (by kernel_rfl) (fun _ _ _ h => h) (Or.inl ⟨by kernel_rfl, ?hy18⟩) hHeld ?hr18; case hy18 => (intro w hSw; (try dsimp only at hSw); go_simp; try with_reducible rfl))
        simp only [Act.put, List.getElem_toArray, List.getElem_cons_succ, List.getElem_cons_zero, List.setIfInBounds_toArray, List.set_cons_zero, List.set_cons_succ]
        refine wpAnyH_ready (rs := [1, 8]) (by kernel_rfl) (by simp) ?_
        refine AllReadyH.cons rfl (fun K hK => ?_) (AllReadyH.cons rfl (fun K hK => ?_) AllReadyH.nil)
        · skip
          go_simp
          go_at_call 39
          refine (to_Pool HSZ.out (rd_mv (Sl_ok R_Label_ok) (HC_13.out) hHeld) (rd_mv R_Job_ok (HL_13.out) hHeld)).mono ?_
          intro e v24_1 h
          obtain ⟨us, rfl, hu, hb⟩ := newV_elim h
          obtain ⟨ac24_1, ac'24_1, aj24_1, aj'24_1, U, U', rfl, hU, hU', _, ho, ho'⟩ := ow_Pool hu
          have NC := Lib.hid (rd_nw (Sl_ok R_Label_ok) ho fun k hk => (hU k hk).2)
          have NL := Lib.hid (rd_nw R_Job_ok ho' fun k hk => (hU' k hk).2)
          clear h hu hU hU' ho ho'
          refine hK.out _ _ (hHeld.trans (hb.mono hHeld.size)) (fun hHeld => ?_)
          clear hK K hb
          try simp only [Act.put, List.getElem_toArray, List.getElem_cons_succ, List.getElem_cons_zero, List.setIfInBounds_toArray, List.set_cons_zero, List.set_cons_succ]
          refine wpAnyH_ready (rs := [3, 8]) (by kernel_rfl) (by simp) ?_
          refine AllReadyH.cons rfl (fun K hK => ?_) (AllReadyH.cons rfl (fun K hK => ?_) AllReadyH.nil)
          · skip
            go_simp
            go_at_call 52
            refine (to_Label (by simp only [R_Label, Pr, I, atom]; omega)).mono ?_
            intro e v24_2 h
            obtain ⟨us, rfl, hu, hb⟩ := newV_elim h
            obtain rfl := ow0_Label hu
            have NC := Lib.hid (rd_mv (Sl_ok R_Label_ok) NC.out hb)
            have NL := Lib.hid (rd_mv R_Job_ok NL.out hb)
            clear h hu
            refine hK.out _ _ (hHeld.trans (hb.mono hHeld.size)) (fun hHeld => ?_)
            clear hK K hb
            try simp only [Act.put, List.getElem_toArray, List.getElem_cons_succ, List.getElem_cons_zero, List.setIfInBounds_toArray, List.set_cons_zero, List.set_cons_succ]
            refine wpAnyH_ready (rs := [7, 8]) (by kernel_rfl) (by simp) ?_
            refine AllReadyH.cons rfl (fun K hK => ?_) (AllReadyH.cons rfl (fun K hK => ?_) AllReadyH.nil)
            · skip
              go_simp
              go_at_call 53
              refine (submit_impl NC.out NL.out).mono ?_
              intro e v24_3 h
              rw [HD.out] at h
              obtain ⟨ca24_3, cc24_3, ja24_3, jc24_3, P24_3, Q24_3, rfl, ht1, ht2, htd, o1, o2, hb⟩ := poolG_elim h
              have hHeld0 := Lib.hid hHeld
              have OWC := Lib.hid (show OwX (Sl R_Label) v24_3 P24_3 dC ca24_3 cc24_3 from ⟨o1, fun k hk => (ht1 k hk).2⟩)
              have OWL := Lib.hid (show OwX R_Job v24_3 Q24_3 dL ja24_3 jc24_3 from ⟨o2, fun k hk => (ht2 k hk).2⟩)
              have HT1 := Lib.hid ht1
              have HT2 := Lib.hid ht2
              have HTD := Lib.hid htd
              clear h ht1 ht2 htd o1 o2 NC NL
              refine hK.out _ _ (hHeld.trans (hb.mono hHeld.size)) (fun hHeld => ?_)
              clear hK K hb
              try simp only [Act.put, List.getElem_toArray, List.getElem_cons_succ, List.getElem_cons_zero, List.setIfInBounds_toArray, List.set_cons_zero, List.set_cons_succ]
              refine wpAnyH_ready (rs := [8]) (by kernel_rfl) (by simp) ?_
              refine AllReadyH.cons rfl (fun K hK => ?_) AllReadyH.nil
              go_simp
              have hb : Below (v24_3).heap.size (v24_3) (v24_3.alloc (.cells #[.slice none 0 0, .slice none 0 0, .int .i64 0, .int .i64 0, .int .i64 0] 71)) := (Below.refl _ _).alloc (Nat.le_refl _) _
              have OWC0 := OWC
              have OWL0 := OWL
              have OWC := Lib.hid (OWC.out.mv (Sl_ok R_Label_ok) hb)
              have OWL := Lib.hid (OWL.out.mv R_Job_ok hb)
              have GB := Lib.hid (show Blk (v24_3.alloc (.cells #[.slice none 0 0, .slice none 0 0, .int .i64 0, .int .i64 0, .int .i64 0] 71)) v24_3.heap.size 71 #[.slice none 0 0, .slice none 0 0, .int .i64 0, .int .i64 0, .int .i64 0] from Blk.new (v24_3) 71 #[.slice none 0 0, .slice none 0 0, .int .i64 0, .int .i64 0, .int .i64 0])
              have HGE := Lib.hid (show w13.heap.size ≤ v24_3.heap.size from hHeld.size)
              have HTB1 := Lib.hid (show ∀ k, P24_3 k → w13.heap.size ≤ k ∧ k ≠ v24_3.heap.size from fun k hk => ⟨Nat.le_trans hHeld0.out.size (HT1.out k hk).1, by have := (HT1.out k hk).2; omega⟩)
              have HTB2 := Lib.hid (show ∀ k, Q24_3 k → w13.heap.size ≤ k ∧ k ≠ v24_3.heap.size from fun k hk => ⟨Nat.le_trans hHeld0.out.size (HT2.out k hk).1, by have := (HT2.out k hk).2; omega⟩)
              have hPre := Lib.hid hHeld
              refine hK.out _ _ (hHeld.trans (hb.mono hHeld.size)) (fun hHeld => ?_)
              clear hK K hb
              try simp only [Act.put, List.getElem_toArray, List.getElem_cons_succ, List.getElem_cons_zero, List.setIfInBounds_toArray, List.set_cons_zero, List.set_cons_succ]
              refine wpAnyH_ready (rs := [9]) (by kernel_rfl) (by simp) ?_
              refine AllReadyH.cons rfl (fun K hK => ?_) AllReadyH.nil
              go_simp
              refine hK.out _ _ (hPre.out.alloc HGE.out (.cells #[.slice ca24_3 dC.length cc24_3, .slice ja24_3 dL.length jc24_3, .int .i64 dn, .int .i64 di, .int .i64 dc] 71)) (fun hHeld => ?_)
              clear hK K
              try simp only [Act.put, List.getElem_toArray, List.getElem_cons_succ, List.getElem_cons_zero, List.setIfInBounds_toArray, List.set_cons_zero, List.set_cons_succ]
              refine wpAnyH_done (by kernel_rfl) ?_ _
              go_wp2_with fail
              go_meet
              exact ⟨_, _, _, _, _, _, _, rfl, Lib.hid (Blk.new v24_3 71 #[.slice ca24_3 dC.length cc24_3, .slice ja24_3 dL.length jc24_3, .int .i64 dn, .int .i64 di, .int .i64 dc]), Lib.hid (OWC0.out.mv (Sl_ok R_Label_ok) ((Below.refl _ _).alloc (Nat.le_refl _) (.cells #[.slice ca24_3 dC.length cc24_3, .slice ja24_3 dL.length jc24_3, .int .i64 dn, .int .i64 di, .int .i64 dc] 71))), Lib.hid (OWL0.out.mv R_Job_ok ((Below.refl _ _).alloc (Nat.le_refl _) (.cells #[.slice ca24_3 dC.length cc24_3, .slice ja24_3 dL.length jc24_3, .int .i64 dn, .int .i64 di, .int .i64 dc] 71))), HTB1, HTB2, HTD, HGE, Lib.hid hHeld⟩
            · skip
              go_simp
              have hb : Below (v24_2).heap.size (v24_2) (v24_2.alloc (.cells #[.slice none 0 0, .slice none 0 0, .int .i64 0, .int .i64 0, .int .i64 0] 71)) := (Below.refl _ _).alloc (Nat.le_refl _) _
              have NC := Lib.hid (rd_mv (Sl_ok R_Label_ok) NC.out hb)
              have NL := Lib.hid (rd_mv R_Job_ok NL.out hb)
              have GB := Lib.hid (show Blk (v24_2.alloc (.cells #[.slice none 0 0, .slice none 0 0, .int .i64 0, .int .i64 0, .int .i64 0] 71)) v24_2.heap.size 71 #[.slice none 0 0, .slice none 0 0, .int .i64 0, .int .i64 0, .int .i64 0] from Blk.new (v24_2) 71 #[.slice none 0 0, .slice none 0 0, .int .i64 0, .int .i64 0, .int .i64 0])
              have HGE := Lib.hid (show w13.heap.size ≤ v24_2.heap.size from hHeld.size)
              refine hK.out _ _ (hHeld.trans (hb.mono hHeld.size)) (fun hHeld => ?_)
              clear hK K hb
              try simp only [Act.put, List.getElem_toArray, List.getElem_cons_succ, List.getElem_cons_zero, List.setIfInBounds_toArray, List.set_cons_zero, List.set_cons_succ]
              have GBl := Lib.hid (show v24_2.heap.size < (v24_2.alloc (.cells #[.slice none 0 0, .slice none 0 0, .int .i64 0, .int .i64 0, .int .i64 0] 71)).heap.size from GB.out.lt)
              refine wpAnyH_ready (rs := [7]) (by kernel_rfl) (by simp) ?_
              refine AllReadyH.cons rfl (fun K hK => ?_) AllReadyH.nil
              go_simp
              go_at_call 53
              refine (submit_impl NC.out NL.out).mono ?_
              intro e v24_4 h
              rw [HD.out] at h
              obtain ⟨ca24_4, cc24_4, ja24_4, jc24_4, P24_4, Q24_4, rfl, ht1, ht2, htd, o1, o2, hb⟩ := poolG_elim h
              have hHeld0 := Lib.hid hHeld
              have GB := Lib.hid (GB.out.call hb)
              have OWC := Lib.hid (show OwX (Sl R_Label) v24_4 P24_4 dC ca24_4 cc24_4 from ⟨o1, fun k hk => (ht1 k hk).2⟩)
              have OWL := Lib.hid (show OwX R_Job v24_4 Q24_4 dL ja24_4 jc24_4 from ⟨o2, fun k hk => (ht2 k hk).2⟩)
              have HT1 := Lib.hid ht1
              have HT2 := Lib.hid ht2
              have HTD := Lib.hid htd
              have HTB1 := Lib.hid (show ∀ k, P24_4 k → w13.heap.size ≤ k ∧ k ≠ v24_2.heap.size from fun k hk => ⟨Nat.le_trans hHeld.size (HT1.out k hk).1, by have h1 := (HT1.out k hk).1; have h2 := GBl.out; omega⟩)
              have HTB2 := Lib.hid (show ∀ k, Q24_4 k → w13.heap.size ≤ k ∧ k ≠ v24_2.heap.size from fun k hk => ⟨Nat.le_trans hHeld.size (HT2.out k hk).1, by have h1 := (HT2.out k hk).1; have h2 := GBl.out; omega⟩)
              clear h ht1 ht2 htd o1 o2 NC NL
              refine hK.out _ _ (hHeld.trans (hb.mono hHeld.size)) (fun hHeld => ?_)
              clear hK K hb
              try simp only [Act.put, List.getElem_toArray, List.getElem_cons_succ, List.getElem_cons_zero, List.setIfInBounds_toArray, List.set_cons_zero, List.set_cons_succ]
              have GBl := Lib.hid (show v24_2.heap.size < v24_4.heap.size from GB.out.lt)
              refine wpAnyH_ready (rs := [9]) (by kernel_rfl) (by simp) ?_
              refine AllReadyH.cons rfl (fun K hK => ?_) AllReadyH.nil
              have q0 := GB.out.at_ 0 rfl
              have f0 := GB.out.soft 0
              have q1 := GB.out.at_ 1 rfl
              have f1 := GB.out.soft 1
              have q2 := GB.out.at_ 2 rfl
              have f2 := GB.out.soft 2
              have q3 := GB.out.at_ 3 rfl
              have f3 := GB.out.soft 3
              have q4 := GB.out.at_ 4 rfl
              have f4 := GB.out.soft 4
              go_simp
              refine hK.out _ _ (((((hHeld.setCell (p := ⟨v24_2.heap.size, 0, none⟩) (by exact HGE.out) (.slice ca24_4 dC.length cc24_4)).setCell (p := ⟨v24_2.heap.size, 1, none⟩) (by exact HGE.out) (.slice ja24_4 dL.length jc24_4)).setCell (p := ⟨v24_2.heap.size, 2, none⟩) (by exact HGE.out) (.int .i64 dn)).setCell (p := ⟨v24_2.heap.size, 3, none⟩) (by exact HGE.out) (.int .i64 di)).setCell (p := ⟨v24_2.heap.size, 4, none⟩) (by exact HGE.out) (.int .i64 dc)) (fun hHeld => ?_)
              clear hK K q0 q1 q2 q3 q4 f0 f1 f2 f3 f4
              try simp only [Act.put, List.getElem_toArray, List.getElem_cons_succ, List.getElem_cons_zero, List.setIfInBounds_toArray, List.set_cons_zero, List.set_cons_succ]
              refine wpAnyH_done (by kernel_rfl) ?_ _
              go_wp2_with fail
              go_meet
              exact ⟨_, _, _, _, _, _, _, rfl, Lib.hid (out_sets GB.out), Lib.hid (OWC.out.off (Sl_ok R_Label_ok) (out_off _ _ _ _ _ _ _) (fun k hk h2 => (HTB1.out k hk).2 h2)), Lib.hid (OWL.out.off R_Job_ok (out_off _ _ _ _ _ _ _) (fun k hk h2 => (HTB2.out k hk).2 h2)), HTB1, HTB2, HTD, HGE, Lib.hid hHeld⟩
          · skip
            go_simp
            have hb : Below (v24_1).heap.size (v24_1) (v24_1.alloc (.cells #[.slice none 0 0, .slice none 0 0, .int .i64 0, .int .i64 0, .int .i64 0] 71)) := (Below.refl _ _).alloc (Nat.le_refl _) _
            have NC := Lib.hid (rd_mv (Sl_ok R_Label_ok) NC.out hb)
            have NL := Lib.hid (rd_mv R_Job_ok NL.out hb)
            have GB := Lib.hid (show Blk (v24_1.alloc (.cells #[.slice none 0 0, .slice none 0 0, .int .i64 0, .int .i64 0, .int .i64 0] 71)) v24_1.heap.size 71 #[.slice none 0 0, .slice none 0 0, .int .i64 0, .int .i64 0, .int .i64 0] from Blk.new (v24_1) 71 #[.slice none 0 0, .slice none 0 0, .int .i64 0, .int .i64 0, .int .i64 0])
            have HGE := Lib.hid (show w13.heap.size ≤ v24_1.heap.size from hHeld.size)
            refine hK.out _ _ (hHeld.trans (hb.mono hHeld.size)) (fun hHeld => ?_)
            clear hK K hb
            try simp only [Act.put, List.getElem_toArray, List.getElem_cons_succ, List.getElem_cons_zero, List.setIfInBounds_toArray, List.set_cons_zero, List.set_cons_succ]
            have GBl := Lib.hid (show v24_1.heap.size < (v24_1.alloc (.cells #[.slice none 0 0, .slice none 0 0, .int .i64 0, .int .i64 0, .int .i64 0] 71)).heap.size from GB.out.lt)
            refine wpAnyH_ready (rs := [3]) (by kernel_rfl) (by simp) ?_
            refine AllReadyH.cons rfl (fun K hK => ?_) AllReadyH.nil
            go_simp
            go_at_call 52
            refine (to_Label (by simp only [R_Label, Pr, I, atom]; omega)).mono ?_
            intro e v24_5 h
            obtain ⟨us, rfl, hu, hb⟩ := newV_elim h
            obtain rfl := ow0_Label hu
            have NC := Lib.hid (rd_mv (Sl_ok R_Label_ok) NC.out hb)
            have NL := Lib.hid (rd_mv R_Job_ok NL.out hb)
            have GB := Lib.hid (GB.out.call hb)
            clear h hu
            refine hK.out _ _ (hHeld.trans (hb.mono hHeld.size)) (fun hHeld => ?_)
            clear hK K hb
            try simp only [Act.put, List.getElem_toArray, List.getElem_cons_succ, List.getElem_cons_zero, List.setIfInBounds_toArray, List.set_cons_zero, List.set_cons_succ]
            have GBl := Lib.hid (show v24_1.heap.size < v24_5.heap.size from GB.out.lt)
            refine wpAnyH_ready (rs := [7]) (by kernel_rfl) (by simp) ?_
            refine AllReadyH.cons rfl (fun K hK => ?_) AllReadyH.nil
            go_simp
            go_at_call 53
            refine (submit_impl NC.out NL.out).mono ?_
            intro e v24_6 h
            rw [HD.out] at h
            obtain ⟨ca24_6, cc24_6, ja24_6, jc24_6, P24_6, Q24_6, rfl, ht1, ht2, htd, o1, o2, hb⟩ := poolG_elim h
            have hHeld0 := Lib.hid hHeld
            have GB := Lib.hid (GB.out.call hb)
            have OWC := Lib.hid (show OwX (Sl R_Label) v24_6 P24_6 dC ca24_6 cc24_6 from ⟨o1, fun k hk => (ht1 k hk).2⟩)
            have OWL := Lib.hid (show OwX R_Job v24_6 Q24_6 dL ja24_6 jc24_6 from ⟨o2, fun k hk => (ht2 k hk).2⟩)
            have HT1 := Lib.hid ht1
            have HT2 := Lib.hid ht2
            have HTD := Lib.hid htd
            have HTB1 := Lib.hid (show ∀ k, P24_6 k → w13.heap.size ≤ k ∧ k ≠ v24_1.heap.size from fun k hk => ⟨Nat.le_trans hHeld.size (HT1.out k hk).1, by have h1 := (HT1.out k hk).1; have h2 := GBl.out; omega⟩)
            have HTB2 := Lib.hid (show ∀ k, Q24_6 k → w13.heap.size ≤ k ∧ k ≠ v24_1.heap.size from fun k hk => ⟨Nat.le_trans hHeld.size (HT2.out k hk).1, by have h1 := (HT2.out k hk).1; have h2 := GBl.out; omega⟩)
            clear h ht1 ht2 htd o1 o2 NC NL
            refine hK.out _ _ (hHeld.trans (hb.mono hHeld.size)) (fun hHeld => ?_)
            clear hK K hb
            try simp only [Act.put, List.getElem_toArray, List.getElem_cons_succ, List.getElem_cons_zero, List.setIfInBounds_toArray, List.set_cons_zero, List.set_cons_succ]
            have GBl := Lib.hid (show v24_1.heap.size < v24_6.heap.size from GB.out.lt)
            refine wpAnyH_ready (rs := [9]) (by kernel_rfl) (by simp) ?_
            refine AllReadyH.cons rfl (fun K hK => ?_) AllReadyH.nil
            have q0 := GB.out.at_ 0 rfl
            have f0 := GB.out.soft 0
            have q1 := GB.out.at_ 1 rfl
            have f1 := GB.out.soft 1
            have q2 := GB.out.at_ 2 rfl
            have f2 := GB.out.soft 2
            have q3 := GB.out.at_ 3 rfl
            have f3 := GB.out.soft 3
            have q4 := GB.out.at_ 4 rfl
            have f4 := GB.out.soft 4
            go_simp
            refine hK.out _ _ (((((hHeld.setCell (p := ⟨v24_1.heap.size, 0, none⟩) (by exact HGE.out) (.slice ca24_6 dC.length cc24_6)).setCell (p := ⟨v24_1.heap.size, 1, none⟩) (by exact HGE.out) (.slice ja24_6 dL.length jc24_6)).setCell (p := ⟨v24_1.heap.size, 2, none⟩) (by exact HGE.out) (.int .i64 dn)).setCell (p := ⟨v24_1.heap.size, 3, none⟩) (by exact HGE.out) (.int .i64 di)).setCell (p := ⟨v24_1.heap.size, 4, none⟩) (by exact HGE.out) (.int .i64 dc)) (fun hHeld => ?_)
            clear hK K q0 q1 q2 q3 q4 f0 f1 f2 f3 f4
            try simp only [Act.put, List.getElem_toArray, List.getElem_cons_succ, List.getElem_cons_zero, List.setIfInBounds_toArray, List.set_cons_zero, List.set_cons_succ]
            refine wpAnyH_done (by kernel_rfl) ?_ _
            go_wp2_with fail
            go_meet
            exact ⟨_, _, _, _, _, _, _, rfl, Lib.hid (out_sets GB.out), Lib.hid (OWC.out.off (Sl_ok R_Label_ok) (out_off _ _ _ _ _ _ _) (fun k hk h2 => (HTB1.out k hk).2 h2)), Lib.hid (OWL.out.off R_Job_ok (out_off _ _ _ _ _ _ _) (fun k hk h2 => (HTB2.out k hk).2 h2)), HTB1, HTB2, HTD, HGE, Lib.hid hHeld⟩
        · skip
          go_simp
          have hb : Below (w13.drew).heap.size (w13.drew) ((w13.drew).alloc (.cells #[.slice none 0 0, .slice none 0 0, .int .i64 0, .int .i64 0, .int .i64 0] 71)) := (Below.refl _ _).alloc (Nat.le_refl _) _
          have GB := Lib.hid (show Blk ((w13.drew).alloc (.cells #[.slice none 0 0, .slice none 0 0, .int .i64 0, .int .i64 0, .int .i64 0] 71)) w13.heap.size 71 #[.slice none 0 0, .slice none 0 0, .int .i64 0, .int .i64 0, .int .i64 0] from Blk.new (w13.drew) 71 #[.slice none 0 0, .slice none 0 0, .int .i64 0, .int .i64 0, .int .i64 0])
          have HGE := Lib.hid (show w13.heap.size ≤ w13.heap.size from hHeld.size)
          refine hK.out _ _ (hHeld.trans (hb.mono hHeld.size)) (fun hHeld => ?_)
          clear hK K hb
          try simp only [Act.put, List.getElem_toArray, List.getElem_cons_succ, List.getElem_cons_zero, List.setIfInBounds_toArray, List.set_cons_zero, List.set_cons_succ]
          have GBl := Lib.hid (show w13.heap.size < ((w13.drew).alloc (.cells #[.slice none 0 0, .slice none 0 0, .int .i64 0, .int .i64 0, .int .i64 0] 71)).heap.size from GB.out.lt)
          refine wpAnyH_ready (rs := [1]) (by kernel_rfl) (by simp) ?_
          refine AllReadyH.cons rfl (fun K hK => ?_) AllReadyH.nil
          go_simp
          go_at_call 39
          refine (to_Pool HSZ.out (rd_mv (Sl_ok R_Label_ok) (HC_13.out) hHeld) (rd_mv R_Job_ok (HL_13.out) hHeld)).mono ?_
          intro e v24_7 h
          obtain ⟨us, rfl, hu, hb⟩ := newV_elim h
          obtain ⟨ac24_7, ac'24_7, aj24_7, aj'24_7, U, U', rfl, hU, hU', _, ho, ho'⟩ := ow_Pool hu
          have GB := Lib.hid (GB.out.call hb)
          have NC := Lib.hid (rd_nw (Sl_ok R_Label_ok) ho fun k hk => (hU k hk).2)
          have NL := Lib.hid (rd_nw R_Job_ok ho' fun k hk => (hU' k hk).2)
          clear h hu hU hU' ho ho'
          refine hK.out _ _ (hHeld.trans (hb.mono hHeld.size)) (fun hHeld => ?_)
          clear hK K hb
          try simp only [Act.put, List.getElem_toArray, List.getElem_cons_succ, List.getElem_cons_zero, List.setIfInBounds_toArray, List.set_cons_zero, List.set_cons_succ]
          have GBl := Lib.hid (show w13.heap.size < v24_7.heap.size from GB.out.lt)
          refine wpAnyH_ready (rs := [3]) (by kernel_rfl) (by simp) ?_
          refine AllReadyH.cons rfl (fun K hK => ?_) AllReadyH.nil
          go_simp
          go_at_call 52
          refine (to_Label (by simp only [R_Label, Pr, I, atom]; omega)).mono ?_
          intro e v24_8 h
          obtain ⟨us, rfl, hu, hb⟩ := newV_elim h
          obtain rfl := ow0_Label hu
          have NC := Lib.hid (rd_mv (Sl_ok R_Label_ok) NC.out hb)
          have NL := Lib.hid (rd_mv R_Job_ok NL.out hb)
          have GB := Lib.hid (GB.out.call hb)
          clear h hu
          refine hK.out _ _ (hHeld.trans (hb.mono hHeld.size)) (fun hHeld => ?_)
          clear hK K hb
          try simp only [Act.put, List.getElem_toArray, List.getElem_cons_succ, List.getElem_cons_zero, List.setIfInBounds_toArray, List.set_cons_zero, List.set_cons_succ]
          have GBl := Lib.hid (show w13.heap.size < v24_8.heap.size from GB.out.lt)
          refine wpAnyH_ready (rs := [7]) (by kernel_rfl) (by simp) ?_
          refine AllReadyH.cons rfl (fun K hK => ?_) AllReadyH.nil
          go_simp
          go_at_call 53
          refine (submit_impl NC.out NL.out).mono ?_
          intro e v24_9 h
          rw [HD.out] at h
          obtain ⟨ca24_9, cc24_9, ja24_9, jc24_9, P24_9, Q24_9, rfl, ht1, ht2, htd, o1, o2, hb⟩ := poolG_elim h
          have hHeld0 := Lib.hid hHeld
          have GB := Lib.hid (GB.out.call hb)
          have OWC := Lib.hid (show OwX (Sl R_Label) v24_9 P24_9 dC ca24_9 cc24_9 from ⟨o1, fun k hk => (ht1 k hk).2⟩)
          have OWL := Lib.hid (show OwX R_Job v24_9 Q24_9 dL ja24_9 jc24_9 from ⟨o2, fun k hk => (ht2 k hk).2⟩)
          have HT1 := Lib.hid ht1
          have HT2 := Lib.hid ht2
          have HTD := Lib.hid htd
          have HTB1 := Lib.hid (show ∀ k, P24_9 k → w13.heap.size ≤ k ∧ k ≠ w13.heap.size from fun k hk => ⟨Nat.le_trans hHeld.size (HT1.out k hk).1, by have h1 := (HT1.out k hk).1; have h2 := GBl.out; omega⟩)
          have HTB2 := Lib.hid (show ∀ k, Q24_9 k → w13.heap.size ≤ k ∧ k ≠ w13.heap.size from fun k hk => ⟨Nat.le_trans hHeld.size (HT2.out k hk).1, by have h1 := (HT2.out k hk).1; have h2 := GBl.out; omega⟩)
          clear h ht1 ht2 htd o1 o2 NC NL
          refine hK.out _ _ (hHeld.trans (hb.mono hHeld.size)) (fun hHeld => ?_)
          clear hK K hb
          try simp only [Act.put, List.getElem_toArray, List.getElem_cons_succ, List.getElem_cons_zero, List.setIfInBounds_toArray, List.set_cons_zero, List.set_cons_succ]
          have GBl := Lib.hid (show w13.heap.size < v24_9.heap.size from GB.out.lt)
          refine wpAnyH_ready (rs := [9]) (by kernel_rfl) (by simp) ?_
          refine AllReadyH.cons rfl (fun K hK => ?_) AllReadyH.nil
          have q0 := GB.out.at_ 0 rfl
          have f0 := GB.out.soft 0
          have q1 := GB.out.at_ 1 rfl
          have f1 := GB.out.soft 1
          have q2 := GB.out.at_ 2 rfl
          have f2 := GB.out.soft 2
          have q3 := GB.out.at_ 3 rfl
          have f3 := GB.out.soft 3
          have q4 := GB.out.at_ 4 rfl
          have f4 := GB.out.soft 4
          go_simp
          refine hK.out _ _ (((((hHeld.setCell (p := ⟨w13.heap.size, 0, none⟩) (by exact HGE.out) (.slice ca24_9 dC.length cc24_9)).setCell (p := ⟨w13.heap.size, 1, none⟩) (by exact HGE.out) (.slice ja24_9 dL.length jc24_9)).setCell (p := ⟨w13.heap.size, 2, none⟩) (by exact HGE.out) (.int .i64 dn)).setCell (p := ⟨w13.heap.size, 3, none⟩) (by exact HGE.out) (.int .i64 di)).setCell (p := ⟨w13.heap.size, 4, none⟩) (by exact HGE.out) (.int .i64 dc)) (fun hHeld => ?_)
          clear hK K q0 q1 q2 q3 q4 f0 f1 f2 f3 f4
          try simp only [Act.put, List.getElem_toArray, List.getElem_cons_succ, List.getElem_cons_zero, List.setIfInBounds_toArray, List.set_cons_zero, List.set_cons_succ]
          refine wpAnyH_done (by kernel_rfl) ?_ _
          go_wp2_with fail
          go_meet
          exact ⟨_, _, _, _, _, _, _, rfl, Lib.hid (out_sets GB.out), Lib.hid (OWC.out.off (Sl_ok R_Label_ok) (out_off _ _ _ _ _ _ _) (fun k hk h2 => (HTB1.out k hk).2 h2)), Lib.hid (OWL.out.off R_Job_ok (out_off _ _ _ _ _ _ _) (fun k hk h2 => (HTB2.out k hk).2 h2)), HTB1, HTB2, HTD, HGE, Lib.hid hHeld⟩
      case rest =>
        obtain ⟨gh, cah, cch, jah, jch, T1h, T2h, rfl, HX8, HO8, HO9, HT8, HT9, HTD8, HG8, hcb⟩ := hcut
        rename World => w14
        have hb := hcb.out
        have P_14 := Lib.hid (P_13.out.call hb)
        have LB_14 := Lib.hid (LB_13.out.call hb)
        have Bw_14 := Lib.hid (Bw_13.out.call hb)
        have BX_14 := Lib.hid (BX_13.out.call hb)
        have Bg_14 := Lib.hid (Bg_13.out.call hb)
        have HC_14 := Lib.hid (rd_mv (Sl_ok R_Label_ok) HC_13.out hb)
        have HL_14 := Lib.hid (rd_mv R_Job_ok HL_13.out hb)
        have Cw_14 := Lib.hid (Cw_13.out.mv (Sl_ok R_Label_ok) hb)
        have Lw_14 := Lib.hid (Lw_13.out.mv R_Job_ok hb)
        have Cg_14 := Lib.hid (Cg_13.out.mv (Sl_ok R_Label_ok) hb)
        have Lg_14 := Lib.hid (Lg_13.out.mv R_Job_ok hb)
        have HB14 := Lib.hid (HB13.out.trans ((hb).mono HB13.out.size))
        clear P_13 LB_13 Bw_13 BX_13 Bg_13 HC_13 HL_13 Cw_13 Lw_13 Cg_13 Lg_13 HB13
        clear hb hcb
        have Bh_14 := HX8
        have Ch_14 := HO8
        have Lh_14 := HO9
        have R1h := HT8
        have R2h := HT9
        have RDh := HTD8
        have HGh := HG8
        clear HX8 HO8 HO9 HT8 HT9 HTD8 HG8
        have qBh_0 := Bh_14.out.at_ 0 rfl
        have qBh_1 := Bh_14.out.at_ 1 rfl
        have qBh_2 := Bh_14.out.at_ 2 rfl
        have qBh_3 := Bh_14.out.at_ 3 rfl
        have qBh_4 := Bh_14.out.at_ 4 rfl
        have qBw_0 := Bw_14.out.at_ 0 rfl
        have qBw_1 := Bw_14.out.at_ 1 rfl
        have qBw_2 := Bw_14.out.at_ 2 rfl
        have qBw_3 := Bw_14.out.at_ 3 rfl
        have qBw_4 := Bw_14.out.at_ 4 rfl
        go_wp2_with fail
        refine (eq_PoolOut (Ch_14.out.rd (Sl_ok R_Label_ok)) (Lh_14.out.rd R_Job_ok) (Cw_14.out.rd (Sl_ok R_Label_ok)) (Lw_14.out.rd R_Job_ok)).mono ?_
        intro e w15 h
        obtain ⟨rfl, hb⟩ := isB_elim h
        clear qBh_0 qBh_1 qBh_2 qBh_3 qBh_4 qBw_0 qBw_1 qBw_2 qBw_3 qBw_4
        have P_15 := Lib.hid (P_14.out.call hb)
        have LB_15 := Lib.hid (LB_14.out.call hb)
        have Bw_15 := Lib.hid (Bw_14.out.call hb)
        have BX_15 := Lib.hid (BX_14.out.call hb)
        have Bg_15 := Lib.hid (Bg_14.out.call hb)
        have Bh_15 := Lib.hid (Bh_14.out.call hb)
        have HC_15 := Lib.hid (rd_mv (Sl_ok R_Label_ok) HC_14.out hb)
        have HL_15 := Lib.hid (rd_mv R_Job_ok HL_14.out hb)
        have Cw_15 := Lib.hid (Cw_14.out.mv (Sl_ok R_Label_ok) hb)
        have Lw_15 := Lib.hid (Lw_14.out.mv R_Job_ok hb)
        have Cg_15 := Lib.hid (Cg_14.out.mv (Sl_ok R_Label_ok) hb)
        have Lg_15 := Lib.hid (Lg_14.out.mv R_Job_ok hb)
        have Ch_15 := Lib.hid (Ch_14.out.mv (Sl_ok R_Label_ok) hb)
        have Lh_15 := Lib.hid (Lh_14.out.mv R_Job_ok hb)
        have HB15 := Lib.hid (HB14.out.trans ((hb).mono HB14.out.size))
        clear P_14 LB_14 Bw_14 BX_14 Bg_14 Bh_14 HC_14 HL_14 Cw_14 Lw_14 Cg_14 Lg_14 Ch_14 Lh_14 HB14
        clear h hb
        have qBg_0 := Bg_15.out.at_ 0 rfl
        have qBg_1 := Bg_15.out.at_ 1 rfl
        have qBg_2 := Bg_15.out.at_ 2 rfl
        have qBg_3 := Bg_15.out.at_ 3 rfl
        have qBg_4 := Bg_15.out.at_ 4 rfl
        go_wp2_with fail
        refine (held_poolout HL0'.out HL1'.out (by omega) hzb HM0.out HM1.out (Cg_15.out.rd (Sl_ok R_Label_ok)) (Lg_15.out.rd R_Job_ok)).mono ?_
        intro e w16 h
        obtain ⟨rfl, hb⟩ := heldC_elim h
        clear qBg_0 qBg_1 qBg_2 qBg_3 qBg_4
        have P_16 := Lib.hid (P_15.out.call hb)
        have LB_16 := Lib.hid (LB_15.out.call hb)
        have Bw_16 := Lib.hid (Bw_15.out.call hb)
        have BX_16 := Lib.hid (BX_15.out.call hb)
        have Bg_16 := Lib.hid (Bg_15.out.call hb)
        have Bh_16 := Lib.hid (Bh_15.out.call hb)
        have HC_16 := Lib.hid (rd_mv (Sl_ok R_Label_ok) HC_15.out hb)
        have HL_16 := Lib.hid (rd_mv R_Job_ok HL_15.out hb)
        have Cw_16 := Lib.hid (Cw_15.out.mv (Sl_ok R_Label_ok) hb)
        have Lw_16 := Lib.hid (Lw_15.out.mv R_Job_ok hb)
        have Cg_16 := Lib.hid (Cg_15.out.mv (Sl_ok R_Label_ok) hb)
        have Lg_16 := Lib.hid (Lg_15.out.mv R_Job_ok hb)
        have Ch_16 := Lib.hid (Ch_15.out.mv (Sl_ok R_Label_ok) hb)
        have Lh_16 := Lib.hid (Lh_15.out.mv R_Job_ok hb)
        have HB16 := Lib.hid (HB15.out.trans ((hb).mono HB15.out.size))
        clear P_15 LB_15 Bw_15 BX_15 Bg_15 Bh_15 HC_15 HL_15 Cw_15 Lw_15 Cg_15 Lg_15 Ch_15 Lh_15 HB15
        clear h hb
        go_wp2
        go_ret
        exact ⟨rfl, HB16.out⟩
end Go.Proofs.Ytjpkeofpcpaoaaa.RepC
