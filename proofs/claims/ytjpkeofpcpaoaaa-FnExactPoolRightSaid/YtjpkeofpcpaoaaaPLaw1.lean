/- The law on PoolRight, out of the contracts. -/
import Derived.Test.YtjpkeofpcpaoaaaPImC
import Derived.Test.YtjpkeofpcpaoaaaPlOpn
namespace Go.Proofs.Ytjpkeofpcpaoaaa.RepC
open Go.RowKit RowC ValC SpanC KeptC
set_option linter.unusedVariables false
set_option linter.unusedSimpArgs false

theorem rd_nw {α : Type} {E : Rp α} (hE : Ok E) {L : List α} {a : Option Addr} {c : Nat} {w : World} {T : Nat → Prop} (h : OwSl E w T L a c) (hT : ∀ k, T k → k < w.heap.size) : RdSl E w w.heap.size L a c := h.rd hE hT

set_option maxRecDepth 100000 in
set_option maxHeartbeats 3200000 in
theorem law_poolright {C : List (List D_Label)} {L : List D_Job} {now : Int} {ca ja : Option Addr} {cc jc : Nat} {W : World} (hC : RdSl (Sl R_Label) W W.heap.size C ca cc) (hL : RdSl R_Job W W.heap.size L ja jc) :
    Calls Try.prog 5 #[.agg #[.slice ca C.length cc, .slice ja L.length jc, .int .i64 now]] W fun e w' => e = .returned (.bool true) ∧ Below W.heap.size W w' := by
  have HC := Lib.hid hC
  have HL := Lib.hid hL
  clear hC hL
  have hbA : Below (W).heap.size (W) (W.alloc (.cells #[.slice ca C.length cc, .slice ja L.length jc, .int .i64 now] 60)) := (Below.refl _ _).alloc (Nat.le_refl _) _
  have HC_1 := Lib.hid (rd_mv (Sl_ok R_Label_ok) HC.out hbA)
  have HL_1 := Lib.hid (rd_mv R_Job_ok HL.out hbA)
  have HB1 := Lib.hid (show Below W.heap.size W (W.alloc (.cells #[.slice ca C.length cc, .slice ja L.length jc, .int .i64 now] 60)) from hbA)
  clear HC HL
  have PX_1 := Blk.new (W) 60 #[.slice ca C.length cc, .slice ja L.length jc, .int .i64 now]
  have PXh_1 := Lib.hid PX_1
  clear PX_1 hbA
  by_cases hsz : R_Pool.sz (C, L, now) ≤ 1048576
  rotate_left
  · skip
    go_enter Try.func5, Try.ntmps5
    have qPX_0 := PXh_1.out.at_ 0 rfl
    have qPX_1 := PXh_1.out.at_ 1 rfl
    have qPX_2 := PXh_1.out.at_ 2 rfl
    go_wp2_with fail
    refine (sz_Pool (by omega) (by omega) (HC_1.out) (HL_1.out)).mono ?_
    intro e w2 h
    obtain ⟨rfl, hb⟩ := szC_elim h
    rw [szR_no (by omega)]
    clear qPX_0 qPX_1 qPX_2
    have PX_2 := Lib.hid (PXh_1.out.call hb)
    have HC_2 := Lib.hid (rd_mv (Sl_ok R_Label_ok) HC_1.out hb)
    have HL_2 := Lib.hid (rd_mv R_Job_ok HL_1.out hb)
    have HB2 := Lib.hid (HB1.out.trans ((hb).mono HB1.out.size))
    clear PXh_1 HC_1 HL_1 HB1
    clear h hb
    go_wp2
    go_ret
    exact ⟨rfl, HB2.out⟩
  have HSX := Lib.hid hsz
  obtain ⟨m, hm⟩ : ∃ m : Nat, R_Pool.sz (C, L, now) = m := ⟨_, rfl⟩
  have HM := Lib.hid hm
  rw [hm] at hsz
  clear hm
  go_enter Try.func5, Try.ntmps5
  have qPX_0 := PXh_1.out.at_ 0 rfl
  have qPX_1 := PXh_1.out.at_ 1 rfl
  have qPX_2 := PXh_1.out.at_ 2 rfl
  go_wp2_with fail
  refine (sz_Pool (by omega) (by omega) (HC_1.out) (HL_1.out)).mono ?_
  intro e w2 h
  obtain ⟨rfl, hb⟩ := szC_elim h
  rw [HM.out, szR_yes (by omega)]
  clear qPX_0 qPX_1 qPX_2
  have PX_2 := Lib.hid (PXh_1.out.call hb)
  have HC_2 := Lib.hid (rd_mv (Sl_ok R_Label_ok) HC_1.out hb)
  have HL_2 := Lib.hid (rd_mv R_Job_ok HL_1.out hb)
  have HB2 := Lib.hid (HB1.out.trans ((hb).mono HB1.out.size))
  clear PXh_1 HC_1 HL_1 HB1
  have hlt1 : decide ((1048576 : Int) - (m : Int) < 0) = false := decide_eq_false (by omega)
  clear h hb
  have qPX_0 := PX_2.out.at_ 0 rfl
  have qPX_1 := PX_2.out.at_ 1 rfl
  have qPX_2 := PX_2.out.at_ 2 rfl
  go_wp2_with fail
  refine (to_Pool HSX.out (HC_2.out) (HL_2.out)).mono ?_
  intro e w3 h
  obtain ⟨us, rfl, hu, hb⟩ := newV_elim h
  obtain ⟨a3, c3, b3, d3, T, T', rfl, hT, hT', _, ho, ho'⟩ := ow_Pool hu
  clear qPX_0 qPX_1 qPX_2
  have PX_3 := Lib.hid (PX_2.out.call hb)
  have HC_3 := Lib.hid (rd_mv (Sl_ok R_Label_ok) HC_2.out hb)
  have HL_3 := Lib.hid (rd_mv R_Job_ok HL_2.out hb)
  have HB3 := Lib.hid (HB2.out.trans ((hb).mono HB2.out.size))
  clear PX_2 HC_2 HL_2 HB2
  have NC_3 := Lib.hid (rd_nw (Sl_ok R_Label_ok) ho fun k hk => (hT k hk).2)
  have NL_3 := Lib.hid (rd_nw R_Job_ok ho' fun k hk => (hT' k hk).2)
  clear hu hT hT' ho ho'
  clear h hb
  go_wp2_with fail
  refine (poolright_spec (NC_3.out) (NL_3.out)).mono ?_
  intro e w4 h
  obtain ⟨b1, rfl, hq, hb⟩ := resB_elim h
  have HQ := Lib.hid hq
  clear hq
  have PX_4 := Lib.hid (PX_3.out.call hb)
  have HC_4 := Lib.hid (rd_mv (Sl_ok R_Label_ok) HC_3.out hb)
  have HL_4 := Lib.hid (rd_mv R_Job_ok HL_3.out hb)
  have NC_4 := Lib.hid (rd_mv (Sl_ok R_Label_ok) NC_3.out hb)
  have NL_4 := Lib.hid (rd_mv R_Job_ok NL_3.out hb)
  have HB4 := Lib.hid (HB3.out.trans ((hb).mono HB3.out.size))
  clear PX_3 HC_3 HL_3 NC_3 NL_3 HB3
  clear h hb
  clear NC_4
  clear NL_4
  have qPX_0 := PX_4.out.at_ 0 rfl
  have qPX_1 := PX_4.out.at_ 1 rfl
  have qPX_2 := PX_4.out.at_ 2 rfl
  go_wp2_with fail
  refine (to_Pool HSX.out (HC_4.out) (HL_4.out)).mono ?_
  intro e w5 h
  obtain ⟨us, rfl, hu, hb⟩ := newV_elim h
  obtain ⟨ax, cx, bx, dx, T, T', rfl, hT, hT', _, ho, ho'⟩ := ow_Pool hu
  clear qPX_0 qPX_1 qPX_2
  have PX_5 := Lib.hid (PX_4.out.call hb)
  have HC_5 := Lib.hid (rd_mv (Sl_ok R_Label_ok) HC_4.out hb)
  have HL_5 := Lib.hid (rd_mv R_Job_ok HL_4.out hb)
  have HB5 := Lib.hid (HB4.out.trans ((hb).mono HB4.out.size))
  clear PX_4 HC_4 HL_4 HB4
  have GC_5 := Lib.hid (rd_nw (Sl_ok R_Label_ok) ho fun k hk => (hT k hk).2)
  have GL_5 := Lib.hid (rd_nw R_Job_ok ho' fun k hk => (hT' k hk).2)
  clear hu hT hT' ho ho'
  clear h hb
  have hbA : Below (w5).heap.size (w5) (w5.alloc (.cells #[.slice ax C.length cx, .slice bx L.length dx, .int .i64 now] 65)) := (Below.refl _ _).alloc (Nat.le_refl _) _
  have PX_6 := Lib.hid (PX_5.out.call hbA)
  have HC_6 := Lib.hid (rd_mv (Sl_ok R_Label_ok) HC_5.out hbA)
  have HL_6 := Lib.hid (rd_mv R_Job_ok HL_5.out hbA)
  have GC_6 := Lib.hid (rd_mv (Sl_ok R_Label_ok) GC_5.out hbA)
  have GL_6 := Lib.hid (rd_mv R_Job_ok GL_5.out hbA)
  have HB6 := Lib.hid (HB5.out.trans ((hbA).mono HB5.out.size))
  clear PX_5 HC_5 HL_5 GC_5 GL_5 HB5
  have BX_6 := Blk.new (w5) 65 #[.slice ax C.length cx, .slice bx L.length dx, .int .i64 now]
  have BXh_6 := Lib.hid BX_6
  clear BX_6 hbA
  have qBX_0 := BXh_6.out.at_ 0 rfl
  have qBX_1 := BXh_6.out.at_ 1 rfl
  have qBX_2 := BXh_6.out.at_ 2 rfl
  go_wp2_with fail
  refine (poolright_impl (GC_6.out) (GL_6.out)).mono ?_
  intro e w7 h
  obtain ⟨b2, rfl, hq, hb⟩ := resB_elim h
  obtain rfl : b2 = b1 := by rw [Bool.eq_iff_iff]; exact hq.trans HQ.out.symm
  have hbb : (b2 != b2) = false := by cases b2 <;> rfl
  clear qBX_0 qBX_1 qBX_2
  have PX_7 := Lib.hid (PX_6.out.call hb)
  have BX_7 := Lib.hid (BXh_6.out.call hb)
  have HC_7 := Lib.hid (rd_mv (Sl_ok R_Label_ok) HC_6.out hb)
  have HL_7 := Lib.hid (rd_mv R_Job_ok HL_6.out hb)
  have GC_7 := Lib.hid (rd_mv (Sl_ok R_Label_ok) GC_6.out hb)
  have GL_7 := Lib.hid (rd_mv R_Job_ok GL_6.out hb)
  have HB7 := Lib.hid (HB6.out.trans ((hb).mono HB6.out.size))
  clear PX_6 BXh_6 HC_6 HL_6 GC_6 GL_6 HB6
  clear hq HQ
  clear h hb
  go_wp2_with fail
  refine wp_region_held_drew (S := (fun V => Below (w7).heap.size (w7) V)) (by kernel_rfl) ((Below.refl _ _).drew) (fun hHeld => ?_)
  (refine wpAnyH_take (i := 0) (v := ?hv1) rfl (by kernel_rfl) (by kernel_rfl) (by kernel_rfl) (fun _ _ _ h => h) (Or.inl ⟨by kernel_rfl, ?hy1⟩) hHeld ?hr1; case hy1 => (intro w hSw; (try dsimp only at hSw); have k0 := (hSw.cell (p := ⟨w5.heap.size, 0, none⟩) BX_7.out.lt).trans (BX_7.out.at_ 0 rfl); have k1 := (hSw.cell (p := ⟨w5.heap.size, 1, none⟩) BX_7.out.lt).trans (BX_7.out.at_ 1 rfl); have k2 := (hSw.cell (p := ⟨w5.heap.size, 2, none⟩) BX_7.out.lt).trans (BX_7.out.at_ 2 rfl); clear hSw; go_simp; try with_reducible rfl))
  simp only [Act.put, List.getElem_toArray, List.getElem_cons_succ, List.getElem_cons_zero, List.setIfInBounds_toArray, List.set_cons_zero, List.set_cons_succ]
  (refine wpAnyH_take (i := 1) (v := ?hv2) rfl (by kernel_rfl) (by kernel_rfl) (by kernel_rfl) (fun _ _ _ h => h) (Or.inl ⟨by kernel_rfl, ?hy2⟩) hHeld ?hr2; case hy2 => (intro w hSw; (try dsimp only at hSw); have k0 := (hSw.cell (p := ⟨W.heap.size, 0, none⟩) PX_7.out.lt).trans (PX_7.out.at_ 0 rfl); have k1 := (hSw.cell (p := ⟨W.heap.size, 1, none⟩) PX_7.out.lt).trans (PX_7.out.at_ 1 rfl); have k2 := (hSw.cell (p := ⟨W.heap.size, 2, none⟩) PX_7.out.lt).trans (PX_7.out.at_ 2 rfl); clear hSw; go_simp; try with_reducible rfl))
  simp only [Act.put, List.getElem_toArray, List.getElem_cons_succ, List.getElem_cons_zero, List.setIfInBounds_toArray, List.set_cons_zero, List.set_cons_succ]
  refine wpAnyH_ready (rs := [2]) (by kernel_rfl) (by simp) ?_
  refine AllReadyH.cons rfl (fun K hK => ?_) AllReadyH.nil
  go_simp
  go_at_call 39
  refine (to_Pool HSX.out (rd_mv (Sl_ok R_Label_ok) (HC_7.out) hHeld) (rd_mv R_Job_ok (HL_7.out) hHeld)).mono ?_
  intro e w701 h
  obtain ⟨us, rfl, hu, hb⟩ := newV_elim h
  obtain ⟨az, cz, bz, dz, T, T', rfl, hT, hT', _, ho, ho'⟩ := ow_Pool hu
  have ZC := Lib.hid (rd_nw (Sl_ok R_Label_ok) ho fun k hk => (hT k hk).2)
  have ZL := Lib.hid (rd_nw R_Job_ok ho' fun k hk => (hT' k hk).2)
  clear h
  refine hK.out _ _ (hHeld.trans (hb.mono hHeld.size)) (fun hHeld => ?_)
  clear hK K hb
  try simp only [Act.put, List.getElem_toArray, List.getElem_cons_succ, List.getElem_cons_zero, List.setIfInBounds_toArray, List.set_cons_zero, List.set_cons_succ]
  refine wpAnyH_ready (rs := [3]) (by kernel_rfl) (by simp) ?_
  refine AllReadyH.cons rfl (fun K hK => ?_) AllReadyH.nil
  go_simp
  go_at_call 41
  refine (eq_Pool (rd_mv (Sl_ok R_Label_ok) (GC_7.out) hHeld) (rd_mv R_Job_ok (GL_7.out) hHeld) ZC.out ZL.out).mono ?_
  intro e w702 h
  obtain ⟨rfl, hb⟩ := isB_elim h
  clear h
  refine hK.out _ _ (hHeld.trans (hb.mono hHeld.size)) (fun hHeld => ?_)
  clear hK K hb
  try simp only [Act.put, List.getElem_toArray, List.getElem_cons_succ, List.getElem_cons_zero, List.setIfInBounds_toArray, List.set_cons_zero, List.set_cons_succ]
  (refine wpAnyH_take (i := 4) (v := ?hv3) rfl (by kernel_rfl) (by kernel_rfl) (by kernel_rfl) (fun _ _ _ h => h) (Or.inl ⟨by kernel_rfl, ?hy3⟩) hHeld ?hr3; case hy3 => (intro w hSw; (try dsimp only at hSw); go_simp; try with_reducible rfl))
  simp only [Act.put, List.getElem_toArray, List.getElem_cons_succ, List.getElem_cons_zero, List.setIfInBounds_toArray, List.set_cons_zero, List.set_cons_succ]
  refine wpAnyH_done (by kernel_rfl) ?_ _
  have HF := Lib.hid hHeld
  clear hHeld
  have hF := HF.out
  have PX_8 := Lib.hid (PX_7.out.call hF)
  have BX_8 := Lib.hid (BX_7.out.call hF)
  have HC_8 := Lib.hid (rd_mv (Sl_ok R_Label_ok) HC_7.out hF)
  have HL_8 := Lib.hid (rd_mv R_Job_ok HL_7.out hF)
  have GC_8 := Lib.hid (rd_mv (Sl_ok R_Label_ok) GC_7.out hF)
  have GL_8 := Lib.hid (rd_mv R_Job_ok GL_7.out hF)
  have HB8 := Lib.hid (HB7.out.trans ((hF).mono HB7.out.size))
  clear PX_7 BX_7 HC_7 HL_7 GC_7 GL_7 HB7
  clear HF hF
  clear ZC ZL
  go_wp2
  go_ret
  exact ⟨rfl, HB8.out⟩
end Go.Proofs.Ytjpkeofpcpaoaaa.RepC
