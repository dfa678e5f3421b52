/- JobOf of the program: contracts. -/
import Derived.Test.YtfmgjkmlnaeagaaTk
import Derived.Test.YtfmgjkmlnaeagaaJobP
namespace Go.Proofs.Ytfmgjkmlnaeagaa.RepC
open Go.RowKit RowC ValC SpanC KeptC Go.Maps
set_option linter.unusedVariables false
set_option linter.unusedSimpArgs false

section
variable {P : Program}
theorem step_lookup {ops : Array Oper} {o : Oper} {a : Act} {W : World} {K : Act → World → Prop} {Q : Exit → Act → World → Prop} {E : Prop} (hgd : o.guard = none) (m x : Operand) (t : TypeId)
    (ho : o.op = .lookup t m x false) {mv kv r : Value} (hm : a.eval m = mv) (hx : a.eval x = kv) (hr : (Instr.lookup t mv kv false).run P W = .ok r W) (h : K (a.put o.dst r) W) :
    if Region.wanted o (yielded ops a.tmps) = true then Oper.wp P o a W K Q else E := by
  have hw : Region.wanted o (yielded ops a.tmps) = true := by simp [Region.wanted, hgd]
  rw [if_pos hw]
  unfold Oper.wp
  simp [execOp, ho, hm, hx, hr, Result.andThen]
  exact h
end
theorem find_up (id : Int) : ∀ (G : List D_Job) (c : Int), (∀ (i : Nat) d, G[i]? = some d → d.2.1 = (i : Int) + c) → G.find? (fun d => d.2.1 == id) = if c ≤ id then G[(id - c).toNat]? else none
  | [], c, _ => by simp
  | x :: xs, c, h => by
    have hx : x.2.1 = c := by have := h 0 x rfl; simpa using this
    by_cases e : id = c
    · subst e
      simp [hx]
    · have e1 : (x.2.1 == id) = false := by rw [hx]; exact beq_eq_false_iff_ne.2 (fun h => e h.symm)
      rw [List.find?_cons, e1, find_up id xs (c + 1) (fun i d hd => by have := h (i + 1) d (by simpa using hd); omega)]
      by_cases h1 : c ≤ id
      · rw [if_pos (by omega), if_pos h1, show (id - c).toNat = (id - (c + 1)).toNat + 1 by omega]
        simp
      · rw [if_neg (by omega), if_neg h1]
theorem heldR_eq {v u : Value} {ps : List MemPlace} (h : heldR v = some (.held u, ps)) : v = u := by
  simp only [heldR, Option.some.injEq, Prod.mk.injEq, DataW.held.injEq] at h
  exact h.1
set_option maxRecDepth 20000 in
theorem find_filt (L : List D_Job) (p q : D_Job → Bool) : L.find? (fun d => p d && q d) = (L.filter p).find? q := by
  induction L with
  | nil => rfl
  | cons x xs ih =>
    rw [List.filter_cons]
    cases hp : p x with
    | false =>
      rw [List.find?_cons_of_neg (by simp [hp]), ih]
      simp
    | true =>
      rw [if_pos rfl]
      cases hq : q x with
      | false =>
        rw [List.find?_cons_of_neg (by simp [hp, hq]), List.find?_cons_of_neg (by simp [hq]), ih]
      | true =>
        rw [List.find?_cons_of_pos (by simp [hp, hq]), List.find?_cons_of_pos hq]
theorem jobOf_grp {L : List D_Job} {l s id : Int} (h : JobsR L) : jobOf L l s id = if 1 ≤ id then ((L.filter (ofL l s))[(id - 1).toNat]?).getD zeroJ else zeroJ := by
  have hc := ((jobsR_of L).1 h).2.2 l s
  unfold jobOf
  rw [if_pos h]
  have : L.find? (isAt l s id) = (L.filter (ofL l s)).find? (fun d => d.2.1 == id) := find_filt L (ofL l s) (fun d => d.2.1 == id)
  rw [this, find_up id _ 1 hc]
  split <;> rfl
theorem jobOf_in {L : List D_Job} {l s : Int} {i : Nat} {d : D_Job} (h : JobsR L) (hd : (L.filter (ofL l s))[i]? = some d) : jobOf L l s ((i : Int) + 1) = d := by
  rw [jobOf_grp h, if_pos (by omega), show ((i : Int) + 1 - 1).toNat = i by omega, hd]
  rfl
theorem jobOf_out {L : List D_Job} {l s id : Int} (h : JobsR L) (hi : ¬ (1 ≤ id ∧ id ≤ ((L.filter (ofL l s)).length : Int))) : jobOf L l s id = zeroJ := by
  rw [jobOf_grp h]
  split
  · rw [List.getElem?_eq_none (by omega)]
    rfl
  · rfl

set_option maxHeartbeats 1600000 in
theorem clone_i64 {L : List Int} {a : Option Addr} {cap : Nat} {W : World} (hn : L.length ≤ 1048576) (h : RdSl I W W.heap.size L a cap) :
    Calls Try.prog 42 #[.slice a L.length cap] W (NewS I L W) := by
  have qT : ∀ (w : World) (a : Option Addr) (n c n' c' : Nat), (binOp .eql 24 (.slice a n c) (.slice none n' c')).run Try.prog w = .ok (.bool a.isNone) w := fun w a n c n' c' => Lib.run_eql_slice_nil w _ _ a n c n' c' Try.underlying24
  cases a with
  | none =>
    have h0 : L.length = 0 := by
      by_cases hp : 0 < L.length
      · obtain ⟨g, o, he, _⟩ := h.2.2 hp
        cases he
      · omega
    have hL : L = [] := List.eq_nil_of_length_eq_zero h0
    subst hL
    go_enter Try.func42, Try.ntmps42
    go_wp2
    go_ret
    exact ⟨none, 0, rfl, ⟨Nat.le_refl _, Nat.zero_le _, fun h => absurd h (Nat.lt_irrefl _)⟩, Below.refl _ _⟩
  | some x =>
    obtain ⟨a', c', w5, hr, hos, hb⟩ := app_copy (ty := 24) hn h
    have HR := Lib.hid hr
    have HO := Lib.hid hos
    have HB := Lib.hid hb
    clear hr hos hb h
    go_enter Try.func42, Try.ntmps42
    go_wp2_with (at_builtin; refine wpList_app rfl (.tmp 5) (.tmp 6) 24 rfl rfl rfl HR.out ?_)
    go_ret
    exact ⟨a', c', rfl, HO.out, HB.out⟩

set_option maxRecDepth 100000 in
set_option maxHeartbeats 6400000 in
theorem jobof_impl {L : List D_Job} {a : Option Addr} {cap : Nat} {l s id : Int} {W : World} (hl : Wf l) (hs : Wf s) (hsz : (Sl R_Job).sz L ≤ 1048576) (h : RdSl R_Job W W.heap.size L a cap) :
    Calls Try.prog 19 #[.slice a L.length cap, .agg #[.int .i64 l, .int .i64 s], .int .i64 id] W (NewV R_Job (jobOf L l s id) W) := by
  have hn : L.length ≤ 1048576 := Nat.le_trans (Nat.le_add_right _ _) hsz
  have HSZ := Lib.hid hsz
  have HWl := Lib.hid hl
  have HWs := Lib.hid hs
  have H := Lib.hid h
  clear h hsz hl hs
  have hbA : Below (W).heap.size (W) (W.alloc (.cells #[.int .i64 l, .int .i64 s] 29)) := (Below.refl _ _).alloc (Nat.le_refl _) _
  have H_1 := Lib.hid (rd_mv R_Job_ok H.out hbA)
  have HB1 := Lib.hid (show Below W.heap.size W (W.alloc (.cells #[.int .i64 l, .int .i64 s] 29)) from hbA)
  clear H
  have P_1 := Blk.new (W) 29 #[.int .i64 l, .int .i64 s]
  have Ph_1 := Lib.hid P_1
  clear P_1 hbA
  have hbA : Below (W.alloc (.cells #[.int .i64 l, .int .i64 s] 29)).heap.size (W.alloc (.cells #[.int .i64 l, .int .i64 s] 29)) ((W.alloc (.cells #[.int .i64 l, .int .i64 s] 29)).alloc (.cells #[.int .i64 0, .int .i64 0, .int .i64 0, .int .i64 0, .int .i64 0, .int .i64 0, .int .i64 0, .int .i64 0, .slice none 0 0] 31)) := (Below.refl _ _).alloc (Nat.le_refl _) _
  have P_2 := Lib.hid (Ph_1.out.call hbA)
  have H_2 := Lib.hid (rd_mv R_Job_ok H_1.out hbA)
  have HB2 := Lib.hid (HB1.out.trans ((hbA).mono HB1.out.size))
  clear Ph_1 H_1 HB1
  have R_2 := Blk.new (W.alloc (.cells #[.int .i64 l, .int .i64 s] 29)) 31 #[.int .i64 0, .int .i64 0, .int .i64 0, .int .i64 0, .int .i64 0, .int .i64 0, .int .i64 0, .int .i64 0, .slice none 0 0]
  have Rh_2 := Lib.hid R_2
  clear R_2 hbA
  have hR := Rh_2.out
  simp only [World.size_alloc] at hR
  have Rs := Lib.hid hR
  clear hR Rh_2
  go_enter Try.func19, Try.ntmps19
  go_wp2_with fail
  refine (jobs_impl (H_2.out)).mono ?_
  intro e w3 h
  obtain ⟨q, rfl, hq, hb⟩ := resB_elim h
  have P_3 := Lib.hid (P_2.out.call hb)
  have R_3 := Lib.hid (Rs.out.call hb)
  have H_3 := Lib.hid (rd_mv R_Job_ok H_2.out hb)
  have HB3 := Lib.hid (HB2.out.trans ((hb).mono HB2.out.size))
  clear P_2 Rs H_2 HB2
  clear h hb
  cases q with
  | false =>
    have HN := Lib.hid (show ¬ JobsR L from fun h => by have := hq.2 h; cases this)
    clear hq
    have HZ := Lib.hid (show jobOf L l s id = zeroJ from jobOf_not HN.out)
    have qR_0 := R_3.out.at_ 0 rfl
    have qR_1 := R_3.out.at_ 1 rfl
    have qR_2 := R_3.out.at_ 2 rfl
    have qR_3 := R_3.out.at_ 3 rfl
    have qR_4 := R_3.out.at_ 4 rfl
    have qR_5 := R_3.out.at_ 5 rfl
    have qR_6 := R_3.out.at_ 6 rfl
    have qR_7 := R_3.out.at_ 7 rfl
    have qR_8 := R_3.out.at_ 8 rfl
    have sR_0 := R_3.out.soft 0
    have sR_1 := R_3.out.soft 1
    have sR_2 := R_3.out.soft 2
    have sR_3 := R_3.out.soft 3
    have sR_4 := R_3.out.soft 4
    have sR_5 := R_3.out.soft 5
    have sR_6 := R_3.out.soft 6
    have sR_7 := R_3.out.soft 7
    have sR_8 := R_3.out.soft 8
    go_wp2
    rw [HZ.out]
    refine bodyPost_ret (v := .agg #[.int .i64 0, .int .i64 0, .int .i64 0, .int .i64 0, .int .i64 0, .int .i64 0, .int .i64 0, .int .i64 0, .slice none 0 0]) (by simp [results, Try.results19, go_sem, *]) rfl (newV_zero (((((((((HB3.out.setCell (p := ⟨W.heap.size + 1, 0, none⟩) (by show W.heap.size ≤ W.heap.size + 1; omega) (.int .i64 0)).setCell (p := ⟨W.heap.size + 1, 1, none⟩) (by show W.heap.size ≤ W.heap.size + 1; omega) (.int .i64 0)).setCell (p := ⟨W.heap.size + 1, 2, none⟩) (by show W.heap.size ≤ W.heap.size + 1; omega) (.int .i64 0)).setCell (p := ⟨W.heap.size + 1, 3, none⟩) (by show W.heap.size ≤ W.heap.size + 1; omega) (.int .i64 0)).setCell (p := ⟨W.heap.size + 1, 4, none⟩) (by show W.heap.size ≤ W.heap.size + 1; omega) (.int .i64 0)).setCell (p := ⟨W.heap.size + 1, 5, none⟩) (by show W.heap.size ≤ W.heap.size + 1; omega) (.int .i64 0)).setCell (p := ⟨W.heap.size + 1, 6, none⟩) (by show W.heap.size ≤ W.heap.size + 1; omega) (.int .i64 0)).setCell (p := ⟨W.heap.size + 1, 7, none⟩) (by show W.heap.size ≤ W.heap.size + 1; omega) (.int .i64 0)).setCell (p := ⟨W.heap.size + 1, 8, none⟩) (by show W.heap.size ≤ W.heap.size + 1; omega) (.slice none 0 0)))
  | true =>
    have HJ := Lib.hid (hq.1 rfl)
    clear hq
    have HLE := Lib.hid (((jobsR_of L).1 HJ.out).1)
    have HWF := Lib.hid (fun (i : Nat) (d : D_Job) (hd : L[i]? = some d) => jobRD_wf (((jobsR_of L).1 HJ.out).2.1 i d hd))
    go_wp2_with fail
    refine wp_region_held_drew (S := (fun V => Below (w3).heap.size (w3) V)) (by kernel_rfl) ((Below.refl _ _).drew) (fun hHeld => ?_)
    refine tk 0 hHeld ?_
    refine tk 2 hHeld ?_ (hy := fun w hSw => by (try dsimp only at hSw); have k0 := (hSw.cell (p := ⟨W.heap.size, 0, none⟩) P_3.out.lt).trans (P_3.out.at_ 0 rfl); have k1 := (hSw.cell (p := ⟨W.heap.size, 1, none⟩) P_3.out.lt).trans (P_3.out.at_ 1 rfl); clear hSw; go_simp; try with_reducible rfl)
    refine rd1 1 (fun K hK => ?_)
    go_simp
    go_at_call 38
    refine (by_impl HLE.out HWF.out (rd_mv R_Job_ok (H_3.out) hHeld)).mono ?_
    intro e w301 h
    obtain ⟨B, D, V, rfl, hG, hb⟩ := mapC_elim h
    have HG := Lib.hid hG
    have HBB := Lib.hid hb
    clear hG
    clear h
    refine hK.out _ _ (hHeld.trans (hb.mono hHeld.size)) (fun hHeld => ?_)
    clear hK K hb
    refine rd1 3 (fun K hK => ?_)
    have hb := Below.refl w301.heap.size w301
    obtain ⟨v, ps, hrun, hv⟩ := HG.out.own.lookup m_keyed Try.underlying58 (m_zero _) (show heldR nilS = some (.held nilS, []) from rfl) (key_of HWl.out HWs.out)
    rw [HG.out.at_ l s HWl.out HWs.out] at hv
    have hve : v = V l s := heldR_eq hv
    obtain ⟨a3, c3, e3, hr3⟩ := (HG.out.grp l s HWl.out HWs.out).rd HBB.out
    obtain rfl : v = .slice a3 (L.filter (ofL l s)).length c3 := hve.trans e3
    have HRG := Lib.hid hr3
    have HRUN := Lib.hid hrun
    clear hve e3 hr3 hrun hv
    refine step_lookup rfl (.tmp 14) (.tmp 15) 58 rfl rfl rfl HRUN.out ?_
    refine hK.out _ _ (hHeld.trans (hb.mono hHeld.size)) (fun hHeld => ?_)
    clear hK K hb
    refine tk 4 hHeld ?_
    refine rd0 ?_
    have HF := Lib.hid hHeld
    clear hHeld
    have hF := HF.out
    have P_4 := Lib.hid (P_3.out.call hF)
    have R_4 := Lib.hid (R_3.out.call hF)
    have H_4 := Lib.hid (rd_mv R_Job_ok H_3.out hF)
    have HB4 := Lib.hid (HB3.out.trans ((hF).mono HB3.out.size))
    clear P_3 R_3 H_3 HB3
    clear HF hF
    have hGl : (L.filter (ofL l s)).length ≤ L.length := List.length_filter_le _ _
    obtain ⟨b, hib⟩ : ∃ b, isB id 1 ((L.filter (ofL l s)).length : Int) = b := ⟨_, rfl⟩
    have HI := Lib.hid hib
    clear hib HG HBB HRUN
    go_wp2_with fail
    refine (wi_at _ _ _ HI.out _).mono ?_
    rintro e w' ⟨rfl, rfl⟩
    cases b with
    | false =>
      have HZ := Lib.hid (show jobOf L l s id = zeroJ from jobOf_out HJ.out fun h => by have h2 := HI.out; rw [isB_io.2 h] at h2; cases h2)
      have qR_0 := R_4.out.at_ 0 rfl
      have qR_1 := R_4.out.at_ 1 rfl
      have qR_2 := R_4.out.at_ 2 rfl
      have qR_3 := R_4.out.at_ 3 rfl
      have qR_4 := R_4.out.at_ 4 rfl
      have qR_5 := R_4.out.at_ 5 rfl
      have qR_6 := R_4.out.at_ 6 rfl
      have qR_7 := R_4.out.at_ 7 rfl
      have qR_8 := R_4.out.at_ 8 rfl
      have sR_0 := R_4.out.soft 0
      have sR_1 := R_4.out.soft 1
      have sR_2 := R_4.out.soft 2
      have sR_3 := R_4.out.soft 3
      have sR_4 := R_4.out.soft 4
      have sR_5 := R_4.out.soft 5
      have sR_6 := R_4.out.soft 6
      have sR_7 := R_4.out.soft 7
      have sR_8 := R_4.out.soft 8
      go_wp2
      rw [HZ.out]
      refine bodyPost_ret (v := .agg #[.int .i64 0, .int .i64 0, .int .i64 0, .int .i64 0, .int .i64 0, .int .i64 0, .int .i64 0, .int .i64 0, .slice none 0 0]) (by simp [results, Try.results19, go_sem, *]) rfl (newV_zero (((((((((HB4.out.setCell (p := ⟨W.heap.size + 1, 0, none⟩) (by show W.heap.size ≤ W.heap.size + 1; omega) (.int .i64 0)).setCell (p := ⟨W.heap.size + 1, 1, none⟩) (by show W.heap.size ≤ W.heap.size + 1; omega) (.int .i64 0)).setCell (p := ⟨W.heap.size + 1, 2, none⟩) (by show W.heap.size ≤ W.heap.size + 1; omega) (.int .i64 0)).setCell (p := ⟨W.heap.size + 1, 3, none⟩) (by show W.heap.size ≤ W.heap.size + 1; omega) (.int .i64 0)).setCell (p := ⟨W.heap.size + 1, 4, none⟩) (by show W.heap.size ≤ W.heap.size + 1; omega) (.int .i64 0)).setCell (p := ⟨W.heap.size + 1, 5, none⟩) (by show W.heap.size ≤ W.heap.size + 1; omega) (.int .i64 0)).setCell (p := ⟨W.heap.size + 1, 6, none⟩) (by show W.heap.size ≤ W.heap.size + 1; omega) (.int .i64 0)).setCell (p := ⟨W.heap.size + 1, 7, none⟩) (by show W.heap.size ≤ W.heap.size + 1; omega) (.int .i64 0)).setCell (p := ⟨W.heap.size + 1, 8, none⟩) (by show W.heap.size ≤ W.heap.size + 1; omega) (.slice none 0 0)))
    | true =>
      have hid := isB_io.1 HI.out
      obtain ⟨i, rfl⟩ : ∃ i : Nat, id = (i : Int) + 1 := ⟨(id - 1).toNat, by omega⟩
      have hlt : i < (L.filter (ofL l s)).length := by omega
      obtain ⟨⟨⟨x0, x1⟩, x2, x3, x4, x5, x6, x7, L0⟩, hx⟩ := el_some hlt
      have HX := Lib.hid hx
      obtain ⟨g, o, us, rfl, hg, hu, hr⟩ := HRG.out.at_ hx
      obtain ⟨a0, c0, rfl, k_L0⟩ := rd_Job hr
      have e0 : w301.cell? ⟨g, o + i * 9, none⟩ = some (.int .i64 x0) := by simpa [sizeq_JobS, Nat.add_assoc] using hu 0 _ rfl
      have e1 : w301.cell? ⟨g, o + i * 9 + 1, none⟩ = some (.int .i64 x1) := by simpa [sizeq_JobS, Nat.add_assoc] using hu 1 _ rfl
      have e2 : w301.cell? ⟨g, o + i * 9 + 2, none⟩ = some (.int .i64 x2) := by simpa [sizeq_JobS, Nat.add_assoc] using hu 2 _ rfl
      have e3 : w301.cell? ⟨g, o + i * 9 + 3, none⟩ = some (.int .i64 x3) := by simpa [sizeq_JobS, Nat.add_assoc] using hu 3 _ rfl
      have e4 : w301.cell? ⟨g, o + i * 9 + 4, none⟩ = some (.int .i64 x4) := by simpa [sizeq_JobS, Nat.add_assoc] using hu 4 _ rfl
      have e5 : w301.cell? ⟨g, o + i * 9 + 5, none⟩ = some (.int .i64 x5) := by simpa [sizeq_JobS, Nat.add_assoc] using hu 5 _ rfl
      have e6 : w301.cell? ⟨g, o + i * 9 + 6, none⟩ = some (.int .i64 x6) := by simpa [sizeq_JobS, Nat.add_assoc] using hu 6 _ rfl
      have e7 : w301.cell? ⟨g, o + i * 9 + 7, none⟩ = some (.int .i64 x7) := by simpa [sizeq_JobS, Nat.add_assoc] using hu 7 _ rfl
      have e8 : w301.cell? ⟨g, o + i * 9 + 8, none⟩ = some (.slice a0 L0.length c0) := by simpa [sizeq_JobS, Nat.add_assoc] using hu 8 _ rfl
      have hi0 : (0 : Int) ≤ (i : Int) := Int.natCast_nonneg _
      have hi1 : (i : Int) < ((L.filter (ofL l s)).length : Int) := by omega
      have hjw : IntKind.i64.wrap ((i : Int) + 1 - 1) = (i : Int) := by rw [show (i : Int) + 1 - 1 = (i : Int) by omega]; exact IntWalk.i64_in _ (by omega)
      have HZ := Lib.hid (jobOf_in HJ.out hx)
      have HL0 := Lib.hid (show L0.length ≤ 1048576 from by
        obtain ⟨j, hj⟩ := List.getElem?_of_mem (List.mem_filter.1 (List.mem_of_getElem? hx)).1
        exact Nat.le_trans (by simp only [R_Job, R_Label, Pr, Sl, I, atom]; omega) (sz_at (f := R_Job.sz) hj HSZ.out))
      have HK := Lib.hid k_L0
      have hlt6 : W.heap.size + 1 < w301.heap.size := R_4.out.lt
      clear hu hr k_L0 hx hid hlt HI
      have hbA : Below (w301).heap.size (w301) (w301.alloc (.cells #[.int .i64 x0, .int .i64 x1, .int .i64 x2, .int .i64 x3, .int .i64 x4, .int .i64 x5, .int .i64 x6, .int .i64 x7, .slice a0 L0.length c0] 31)) := (Below.refl _ _).alloc (Nat.le_refl _) _
      have P_5 := Lib.hid (P_4.out.call hbA)
      have R_5 := Lib.hid (R_4.out.call hbA)
      have H_5 := Lib.hid (rd_mv R_Job_ok H_4.out hbA)
      have K_5 := Lib.hid (rd_mv I_ok HK.out hbA)
      have HB5 := Lib.hid (HB4.out.trans ((hbA).mono HB4.out.size))
      clear P_4 R_4 H_4 HK HB4
      have X_5 := Blk.new (w301) 31 #[.int .i64 x0, .int .i64 x1, .int .i64 x2, .int .i64 x3, .int .i64 x4, .int .i64 x5, .int .i64 x6, .int .i64 x7, .slice a0 L0.length c0]
      have Xh_5 := Lib.hid X_5
      clear X_5 hbA
      have hwA : (w301.alloc (.cells #[.int .i64 x0, .int .i64 x1, .int .i64 x2, .int .i64 x3, .int .i64 x4, .int .i64 x5, .int .i64 x6, .int .i64 x7, .slice a0 L0.length c0] 31)).heap.size = w301.heap.size + 1 := by simp
      go_wp2_with fail
      refine (clone_i64 HL0.out (K_5.out)).mono ?_
      intro e w6 h
      obtain ⟨a5, c5, rfl, ho, hb⟩ := newS_elim h
      have HO := Lib.hid ho
      clear ho
      have P_6 := Lib.hid (P_5.out.call hb)
      have R_6 := Lib.hid (R_5.out.call hb)
      have X_6 := Lib.hid (Xh_5.out.call hb)
      have H_6 := Lib.hid (rd_mv R_Job_ok H_5.out hb)
      have K_6 := Lib.hid (rd_mv I_ok K_5.out hb)
      have HB6 := Lib.hid (HB5.out.trans ((hb).mono HB5.out.size))
      clear P_5 R_5 Xh_5 H_5 K_5 HB5
      clear e0 e1 e2 e3 e4 e5 e6 e7 e8 hi0 hi1 hjw
      have hsw := hb.size
      rw [hwA] at hsw
      clear h hb
      have qR_0 := R_6.out.at_ 0 rfl
      have qR_1 := R_6.out.at_ 1 rfl
      have qR_2 := R_6.out.at_ 2 rfl
      have qR_3 := R_6.out.at_ 3 rfl
      have qR_4 := R_6.out.at_ 4 rfl
      have qR_5 := R_6.out.at_ 5 rfl
      have qR_6 := R_6.out.at_ 6 rfl
      have qR_7 := R_6.out.at_ 7 rfl
      have qR_8 := R_6.out.at_ 8 rfl
      have qX_0 := X_6.out.at_ 0 rfl
      have qX_1 := X_6.out.at_ 1 rfl
      have qX_2 := X_6.out.at_ 2 rfl
      have qX_3 := X_6.out.at_ 3 rfl
      have qX_4 := X_6.out.at_ 4 rfl
      have qX_5 := X_6.out.at_ 5 rfl
      have qX_6 := X_6.out.at_ 6 rfl
      have qX_7 := X_6.out.at_ 7 rfl
      have qX_8 := X_6.out.at_ 8 rfl
      have sR_0 := R_6.out.soft 0
      have sR_1 := R_6.out.soft 1
      have sR_2 := R_6.out.soft 2
      have sR_3 := R_6.out.soft 3
      have sR_4 := R_6.out.soft 4
      have sR_5 := R_6.out.soft 5
      have sR_6 := R_6.out.soft 6
      have sR_7 := R_6.out.soft 7
      have sR_8 := R_6.out.soft 8
      have sX_0 := X_6.out.soft 0
      have sX_1 := X_6.out.soft 1
      have sX_2 := X_6.out.soft 2
      have sX_3 := X_6.out.soft 3
      have sX_4 := X_6.out.soft 4
      have sX_5 := X_6.out.soft 5
      have sX_6 := X_6.out.soft 6
      have sX_7 := X_6.out.soft 7
      have sX_8 := X_6.out.soft 8
      go_wp2
      rw [HZ.out]
      refine bodyPost_ret (v := .agg #[.int .i64 x0, .int .i64 x1, .int .i64 x2, .int .i64 x3, .int .i64 x4, .int .i64 x5, .int .i64 x6, .int .i64 x7, .slice a5 L0.length c5]) (by simp [results, Try.results19, go_sem, *]) rfl ⟨[.int .i64 x0, .int .i64 x1, .int .i64 x2, .int .i64 x3, .int .i64 x4, .int .i64 x5, .int .i64 x6, .int .i64 x7, .slice a5 L0.length c5], rfl, ?_, ((((((((((HB6.out.setCell (p := ⟨w301.heap.size, 8, none⟩) (by show W.heap.size ≤ w301.heap.size; omega) (.slice a5 L0.length c5)).setCell (p := ⟨W.heap.size + 1, 0, none⟩) (by show W.heap.size ≤ W.heap.size + 1; omega) (.int .i64 x0)).setCell (p := ⟨W.heap.size + 1, 1, none⟩) (by show W.heap.size ≤ W.heap.size + 1; omega) (.int .i64 x1)).setCell (p := ⟨W.heap.size + 1, 2, none⟩) (by show W.heap.size ≤ W.heap.size + 1; omega) (.int .i64 x2)).setCell (p := ⟨W.heap.size + 1, 3, none⟩) (by show W.heap.size ≤ W.heap.size + 1; omega) (.int .i64 x3)).setCell (p := ⟨W.heap.size + 1, 4, none⟩) (by show W.heap.size ≤ W.heap.size + 1; omega) (.int .i64 x4)).setCell (p := ⟨W.heap.size + 1, 5, none⟩) (by show W.heap.size ≤ W.heap.size + 1; omega) (.int .i64 x5)).setCell (p := ⟨W.heap.size + 1, 6, none⟩) (by show W.heap.size ≤ W.heap.size + 1; omega) (.int .i64 x6)).setCell (p := ⟨W.heap.size + 1, 7, none⟩) (by show W.heap.size ≤ W.heap.size + 1; omega) (.int .i64 x7)).setCell (p := ⟨W.heap.size + 1, 8, none⟩) (by show W.heap.size ≤ W.heap.size + 1; omega) (.slice a5 L0.length c5))⟩
      have hoff := (((((((((((Off.refl (fun x => x < w301.heap.size + 1) w6).setCell (p := ⟨w301.heap.size, 8, none⟩) (by show w301.heap.size < w301.heap.size + 1; omega) (.slice a5 L0.length c5)).setCell (p := ⟨W.heap.size + 1, 0, none⟩) (by show W.heap.size + 1 < w301.heap.size + 1; omega) (.int .i64 x0)).setCell (p := ⟨W.heap.size + 1, 1, none⟩) (by show W.heap.size + 1 < w301.heap.size + 1; omega) (.int .i64 x1)).setCell (p := ⟨W.heap.size + 1, 2, none⟩) (by show W.heap.size + 1 < w301.heap.size + 1; omega) (.int .i64 x2)).setCell (p := ⟨W.heap.size + 1, 3, none⟩) (by show W.heap.size + 1 < w301.heap.size + 1; omega) (.int .i64 x3)).setCell (p := ⟨W.heap.size + 1, 4, none⟩) (by show W.heap.size + 1 < w301.heap.size + 1; omega) (.int .i64 x4)).setCell (p := ⟨W.heap.size + 1, 5, none⟩) (by show W.heap.size + 1 < w301.heap.size + 1; omega) (.int .i64 x5)).setCell (p := ⟨W.heap.size + 1, 6, none⟩) (by show W.heap.size + 1 < w301.heap.size + 1; omega) (.int .i64 x6)).setCell (p := ⟨W.heap.size + 1, 7, none⟩) (by show W.heap.size + 1 < w301.heap.size + 1; omega) (.int .i64 x7)).setCell (p := ⟨W.heap.size + 1, 8, none⟩) (by show W.heap.size + 1 < w301.heap.size + 1; omega) (.slice a5 L0.length c5))
      have hsz := hoff.size
      have hos := HO.out
      rw [hwA] at hos
      exact mkow_Job (fun k hk => ⟨by have := hk.1; omega, by have := hk.2; omega⟩) (hos.keep I_ok (fun k hk => hoff.block k hk.2 (by have := hk.1; omega)))
end Go.Proofs.Ytfmgjkmlnaeagaa.RepC
