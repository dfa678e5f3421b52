/- A job copied; JobOf of the model: contracts. -/
import Derived.Test.YtfmgjkmlnaeagaaJobM
namespace Go.Proofs.Ytfmgjkmlnaeagaa.RepC
open Go.RowKit RowC ValC SpanC KeptC
set_option linter.unusedVariables false
set_option linter.unusedSimpArgs false

theorem app_nil {P : Program} {w : World} {t ty e : TypeId} {i : TypeInfo} (ht : P.underlying t = some (.slice e)) (hi : P.info? e = some i) (base a : Option Addr) (cap c : Nat) :
    (Builtin.append_ #[t, t] ty #[.slice base 0 cap, .slice a 0 c]).run P w = .ok (.slice base 0 cap) w := by
  have hf : (Builtin.firstCells i.size 0 (.slice a 0 c)).run P w = .ok #[] w := by
    cases a with
    | none => exact run_firstCells_none _ _ _ _ _
    | some a => exact run_firstCells_some _ _ 0 a 0 c [] (by simp) (by simp)
  cases base <;> simp [Builtin.append_, run_underlying ht, sizeOf, typeInfo, hi, Builtin.lenOf, hf, storeCells]
theorem own_cap {W : World} {lo : Nat} {T : TypeId} {size n : Nat} {v : Value} {c : Nat → Value} (h : RowO W lo T size v n c) : ∀ a cap, v = .slice a n cap → cap ≤ maxLen := by
  rintro a cap rfl
  rcases h.2 with ⟨h1, h2⟩ | ⟨g, cap', cur, hv, _, _, _, hm, _⟩
  · cases h1
    exact Nat.zero_le _
  · cases hv
    exact hm
/-- a row of numbers of the call's own is a slice of numbers in blocks of its own -/
theorem own_ints {W : World} {lo : Nat} {T : TypeId} {v : Value} {L : List Int} {c : Nat → Value} (h : RowO W lo T 1 v L.length c) (hc : ∀ j x, L[j]? = some x → c j = .int .i64 x) :
    ∃ a cap, v = .slice a L.length cap ∧ OwSl I W (Rg lo W.heap.size) L a cap := by
  obtain ⟨a, cap, rfl⟩ := h.isSlice
  have hm := own_cap h a cap rfl
  by_cases hn : 0 < L.length
  · obtain ⟨g, cap', hv, hlo, hg, hl, hcs, hf⟩ := h.form hn
    cases hv
    refine ⟨_, _, rfl, hl, hm, fun _ => ⟨g, fun _ _ => False, rfl, ⟨hlo, hg⟩, hf, fun i k h => h.elim, fun i j k _ h => h.elim, fun i x hx => ⟨[.int .i64 x], fun j d hd => ?_, rfl⟩⟩⟩
    have hj : j = 0 := by have := (List.getElem?_eq_some_iff.1 hd).1; simp at this; omega
    subst hj
    simp at hd
    subst hd
    have := hcs i (by have := (List.getElem?_eq_some_iff.1 hx).1; omega)
    rw [hc i x hx] at this
    simpa [show I.size = 1 from rfl] using this
  · have hn0 : L.length = 0 := by omega
    refine ⟨a, cap, rfl, ?_, hm, fun h => absurd h hn⟩
    rcases h.2 with ⟨h1, h2⟩ | ⟨g, cap', cur, hv, _, _, hl, _⟩
    · omega
    · omega
theorem info_i64 : ∃ i, Try.prog.info? 2 = some i ∧ i.zero = some (.int .i64 0) ∧ i.size = 1 ∧ i.bytes = 8 := by
  have h : (Try.prog.info? 2).map (fun i => (i.zero, i.size, i.bytes)) = some (some (.int .i64 0), 1, 8) := by kernel_rfl
  cases hx : Try.prog.info? 2 with
  | none => rw [hx] at h; simp at h
  | some i => rw [hx] at h; simp at h; exact ⟨i, rfl, h.1, h.2.1, h.2.2⟩
/-- 'append([]int64{}, l...)': the new slice -/
theorem app_copy {L : List Int} {a : Option Addr} {cap : Nat} {W : World} {ty : TypeId} (hn : L.length ≤ 1048576) (h : RdSl I W W.heap.size L a cap) :
    ∃ a' c' W', (Builtin.append_ #[24, 24] ty #[.slice (some ⟨W.heap.size, 0, none⟩) 0 0, .slice a L.length cap]).run Try.prog (W.alloc (.cells #[] 2)) = .ok (.slice a' L.length c') W' ∧ OwSl I W' (Rg W.heap.size W'.heap.size) L a' c' ∧ Below W.heap.size W W' := by
  obtain ⟨i, hi, hz, hs, hb⟩ := info_i64
  have hbel : Below W.heap.size W (W.alloc (.cells #[] 2)) := (Below.refl _ _).alloc (Nat.le_refl _) _
  have hown := RowO.made0 W W.heap.size 2 1 (fun _ => .int .i64 0) (Nat.le_refl _)
  by_cases h0 : L.length = 0
  · have hL : L = [] := List.eq_nil_of_length_eq_zero h0
    subst hL
    exact ⟨_, _, _, app_nil Try.underlying24 hi _ a 0 cap, ⟨Nat.le_refl _, Nat.zero_le _, fun h => absurd h (Nat.lt_irrefl _)⟩, hbel⟩
  · obtain ⟨g, o, rfl, hg, hel⟩ := h.2.2 (by omega)
    have hcell : ∀ j, j < L.length * 1 → W.cell? ⟨g, o + j, none⟩ = some (.int .i64 (L.getD j 0)) := fun j hj => by
      obtain ⟨us, hu, hr⟩ := hel j (L[j]'(by omega)) (List.getElem?_eq_getElem (by omega))
      obtain rfl : us = [_] := hr
      have := hu 0 _ rfl
      rw [List.getD_eq_getElem?_getD, List.getElem?_eq_getElem (by omega)]
      simpa [show I.size = 1 from rfl] using this
    obtain ⟨v', W', hr, hro, hb2, _, _⟩ := run_app (P := Try.prog) (W.alloc (.cells #[] 2)) W.heap.size 24 ty 2 i _ 1 8 Try.underlying24 hi hz hs hb rfl (by omega) _ 0 _ hown g o L.length cap (fun j => .int .i64 (L.getD j 0))
      (fun j hj => (hbel.cell (p := ⟨g, o + j, none⟩) hg).trans (hcell j hj)) (fun j hj => rfl) (by unfold maxLen; omega) (by omega) (by simp)
    rw [Nat.zero_add] at hro
    obtain ⟨a', c', rfl, hos⟩ := own_ints hro (fun j x hx => by
      have hj := (List.getElem?_eq_some_iff.1 hx).1
      simp [List.getD_eq_getElem?_getD, hx])
    exact ⟨a', c', W', hr, hos, hbel.trans hb2⟩

set_option maxRecDepth 100000 in
set_option maxHeartbeats 1600000 in
theorem copy_spec {x0 x1 x2 x3 x4 x5 x6 x7 : Int} {L : List Int} {a : Option Addr} {c : Nat} {W : World} (hn : L.length ≤ 1048576) (h : RdSl I W W.heap.size L a c) :
    Calls Try.prog 41 #[.agg #[.int .i64 x0, .int .i64 x1, .int .i64 x2, .int .i64 x3, .int .i64 x4, .int .i64 x5, .int .i64 x6, .int .i64 x7, .slice a L.length c]] W (NewV R_Job ((x0, x1), x2, x3, x4, x5, x6, x7, L) W) := by
  have hB0 : Below W.heap.size W ((W.alloc (.cells #[.int .i64 x0, .int .i64 x1, .int .i64 x2, .int .i64 x3, .int .i64 x4, .int .i64 x5, .int .i64 x6, .int .i64 x7, .slice a L.length c] 31)).alloc (.cells #[.int .i64 0, .int .i64 0, .int .i64 0, .int .i64 0, .int .i64 0, .int .i64 0, .int .i64 0, .int .i64 0, .slice none 0 0] 31)) := ((Below.refl _ _).alloc (Nat.le_refl _) _).alloc (by simp) _
  obtain ⟨a', c', w5, hr, hos, hb⟩ := app_copy (ty := 24) hn ((h.below I_ok hB0).more I_ok hB0.size)
  have hP := (Blk.new W 31 #[.int .i64 x0, .int .i64 x1, .int .i64 x2, .int .i64 x3, .int .i64 x4, .int .i64 x5, .int .i64 x6, .int .i64 x7, .slice a L.length c]).alloc (.cells #[.int .i64 0, .int .i64 0, .int .i64 0, .int .i64 0, .int .i64 0, .int .i64 0, .int .i64 0, .int .i64 0, .slice none 0 0] 31)
  have hR := Blk.new (W.alloc (.cells #[.int .i64 x0, .int .i64 x1, .int .i64 x2, .int .i64 x3, .int .i64 x4, .int .i64 x5, .int .i64 x6, .int .i64 x7, .slice a L.length c] 31)) 31 #[.int .i64 0, .int .i64 0, .int .i64 0, .int .i64 0, .int .i64 0, .int .i64 0, .int .i64 0, .int .i64 0, .slice none 0 0]
  have hP5 := Lib.hid (hP.call hb)
  have hR5 := Lib.hid (hR.call hb)
  have HB5 := Lib.hid (hB0.trans (hb.mono hB0.size))
  have hsz5 := hb.size
  have hP0 := Lib.hid hP
  simp only [World.size_alloc] at hr
  have HR := Lib.hid hr
  have HO := Lib.hid hos
  simp only [World.size_alloc] at hsz5 hP hR
  have hgo : W.heap.size + 2 ≤ w5.heap.size := hsz5
  have p0 := hP.at_ 0 rfl
  have p1 := hP.at_ 1 rfl
  have p2 := hP.at_ 2 rfl
  have p3 := hP.at_ 3 rfl
  have p4 := hP.at_ 4 rfl
  have p5 := hP.at_ 5 rfl
  have p6 := hP.at_ 6 rfl
  have p7 := hP.at_ 7 rfl
  have p8 := hP.at_ 8 rfl
  clear hP hR hB0 hr hos hb h
  have hPx := hP5.out
  have hRx := hR5.out
  simp only [World.size_alloc] at hRx
  have HR5 := Lib.hid hRx
  have q0 := hP5.out.at_ 0 rfl
  have f0 := hP5.out.soft 0
  have r0 := HR5.out.at_ 0 rfl
  have g0 := HR5.out.soft 0
  have q1 := hP5.out.at_ 1 rfl
  have f1 := hP5.out.soft 1
  have r1 := HR5.out.at_ 1 rfl
  have g1 := HR5.out.soft 1
  have q2 := hP5.out.at_ 2 rfl
  have f2 := hP5.out.soft 2
  have r2 := HR5.out.at_ 2 rfl
  have g2 := HR5.out.soft 2
  have q3 := hP5.out.at_ 3 rfl
  have f3 := hP5.out.soft 3
  have r3 := HR5.out.at_ 3 rfl
  have g3 := HR5.out.soft 3
  have q4 := hP5.out.at_ 4 rfl
  have f4 := hP5.out.soft 4
  have r4 := HR5.out.at_ 4 rfl
  have g4 := HR5.out.soft 4
  have q5 := hP5.out.at_ 5 rfl
  have f5 := hP5.out.soft 5
  have r5 := HR5.out.at_ 5 rfl
  have g5 := HR5.out.soft 5
  have q6 := hP5.out.at_ 6 rfl
  have f6 := hP5.out.soft 6
  have r6 := HR5.out.at_ 6 rfl
  have g6 := HR5.out.soft 6
  have q7 := hP5.out.at_ 7 rfl
  have f7 := hP5.out.soft 7
  have r7 := HR5.out.at_ 7 rfl
  have g7 := HR5.out.soft 7
  have q8 := hP5.out.at_ 8 rfl
  have f8 := hP5.out.soft 8
  have r8 := HR5.out.at_ 8 rfl
  have g8 := HR5.out.soft 8
  clear hPx hRx hR5
  go_enter Try.func41, Try.ntmps41
  go_wp2_with (at_builtin; refine wpList_app rfl (.tmp 3) (.tmp 5) 24 rfl rfl rfl HR.out ?_)
  refine bodyPost_ret (v := .agg #[.int .i64 x0, .int .i64 x1, .int .i64 x2, .int .i64 x3, .int .i64 x4, .int .i64 x5, .int .i64 x6, .int .i64 x7, .slice a' L.length c']) (by simp [results, Try.results41, go_sem, *]) rfl ⟨[.int .i64 x0, .int .i64 x1, .int .i64 x2, .int .i64 x3, .int .i64 x4, .int .i64 x5, .int .i64 x6, .int .i64 x7, .slice a' L.length c'], rfl, ?_, ((((((((((HB5.out.setCell (p := ⟨W.heap.size, 8, none⟩) (by show W.heap.size ≤ W.heap.size; omega) (.slice a' L.length c')).setCell (p := ⟨W.heap.size + 1, 0, none⟩) (by show W.heap.size ≤ W.heap.size + 1; omega) (.int .i64 x0)).setCell (p := ⟨W.heap.size + 1, 1, none⟩) (by show W.heap.size ≤ W.heap.size + 1; omega) (.int .i64 x1)).setCell (p := ⟨W.heap.size + 1, 2, none⟩) (by show W.heap.size ≤ W.heap.size + 1; omega) (.int .i64 x2)).setCell (p := ⟨W.heap.size + 1, 3, none⟩) (by show W.heap.size ≤ W.heap.size + 1; omega) (.int .i64 x3)).setCell (p := ⟨W.heap.size + 1, 4, none⟩) (by show W.heap.size ≤ W.heap.size + 1; omega) (.int .i64 x4)).setCell (p := ⟨W.heap.size + 1, 5, none⟩) (by show W.heap.size ≤ W.heap.size + 1; omega) (.int .i64 x5)).setCell (p := ⟨W.heap.size + 1, 6, none⟩) (by show W.heap.size ≤ W.heap.size + 1; omega) (.int .i64 x6)).setCell (p := ⟨W.heap.size + 1, 7, none⟩) (by show W.heap.size ≤ W.heap.size + 1; omega) (.int .i64 x7)).setCell (p := ⟨W.heap.size + 1, 8, none⟩) (by show W.heap.size ≤ W.heap.size + 1; omega) (.slice a' L.length c'))⟩
  have hoff := (((((((((((Off.refl (fun x => x < W.heap.size + 2) w5).setCell (p := ⟨W.heap.size, 8, none⟩) (by show W.heap.size < W.heap.size + 2; omega) (.slice a' L.length c')).setCell (p := ⟨W.heap.size + 1, 0, none⟩) (by show W.heap.size + 1 < W.heap.size + 2; omega) (.int .i64 x0)).setCell (p := ⟨W.heap.size + 1, 1, none⟩) (by show W.heap.size + 1 < W.heap.size + 2; omega) (.int .i64 x1)).setCell (p := ⟨W.heap.size + 1, 2, none⟩) (by show W.heap.size + 1 < W.heap.size + 2; omega) (.int .i64 x2)).setCell (p := ⟨W.heap.size + 1, 3, none⟩) (by show W.heap.size + 1 < W.heap.size + 2; omega) (.int .i64 x3)).setCell (p := ⟨W.heap.size + 1, 4, none⟩) (by show W.heap.size + 1 < W.heap.size + 2; omega) (.int .i64 x4)).setCell (p := ⟨W.heap.size + 1, 5, none⟩) (by show W.heap.size + 1 < W.heap.size + 2; omega) (.int .i64 x5)).setCell (p := ⟨W.heap.size + 1, 6, none⟩) (by show W.heap.size + 1 < W.heap.size + 2; omega) (.int .i64 x6)).setCell (p := ⟨W.heap.size + 1, 7, none⟩) (by show W.heap.size + 1 < W.heap.size + 2; omega) (.int .i64 x7)).setCell (p := ⟨W.heap.size + 1, 8, none⟩) (by show W.heap.size + 1 < W.heap.size + 2; omega) (.slice a' L.length c'))
  have hsz := hoff.size
  have hos := HO.out
  simp only [World.size_alloc] at hos
  exact mkow_Job (fun k hk => ⟨by have := hk.1; omega, by have := hk.2; omega⟩) (hos.keep I_ok (fun k hk => hoff.block k hk.2 (by have := hk.1; omega)))

def zeroJ : D_Job := ((0, 0), 0, 0, 0, 0, 0, 0, [])
open Classical in
/-- the job with that label and number, of a right list, or none -/
noncomputable def jobOf (L : List D_Job) (l s id : Int) : D_Job := if JobsR L then (L.find? (isAt l s id)).getD zeroJ else zeroJ
theorem jobOf_not {L : List D_Job} {l s id : Int} (h : ¬ JobsR L) : jobOf L l s id = zeroJ := if_neg h
theorem jobOf_none {L : List D_Job} {l s id : Int} (h : L.find? (isAt l s id) = none) : jobOf L l s id = zeroJ := by unfold jobOf; split <;> simp [h]
theorem jobOf_hit {L : List D_Job} {l s id : Int} {d : D_Job} (hr : JobsR L) (h : L.find? (isAt l s id) = some d) : jobOf L l s id = d := by unfold jobOf; rw [if_pos hr, h]; rfl
theorem newV_zero {w w' : World} (hb : Below w.heap.size w w') : NewV R_Job zeroJ w (.returned (.agg #[.int .i64 0, .int .i64 0, .int .i64 0, .int .i64 0, .int .i64 0, .int .i64 0, .int .i64 0, .int .i64 0, .slice none 0 0])) w' :=
  ⟨[.int .i64 0, .int .i64 0, .int .i64 0, .int .i64 0, .int .i64 0, .int .i64 0, .int .i64 0, .int .i64 0, .slice none 0 0], rfl, mkow_Job (T0 := fun _ => False) (L0 := []) (fun k h => h.elim) ⟨Nat.le_refl _, Nat.zero_le _, fun h => absurd h (Nat.lt_irrefl _)⟩, hb⟩

set_option maxRecDepth 100000 in
set_option maxHeartbeats 3200000 in
theorem jobof_spec {L : List D_Job} {a : Option Addr} {cap : Nat} {l s id : Int} {W : World} (hsz : (Sl R_Job).sz L ≤ 1048576) (h : RdSl R_Job W W.heap.size L a cap) :
    Calls Try.prog 17 #[.slice a L.length cap, .agg #[.int .i64 l, .int .i64 s], .int .i64 id] W (NewV R_Job (jobOf L l s id) W) := by
  have hn : L.length ≤ 1048576 := Nat.le_trans (Nat.le_add_right _ _) hsz
  have HSZ := Lib.hid hsz
  have H := Lib.hid h
  clear h hsz
  have hbA : Below (W).heap.size (W) (W.alloc (.cells #[.int .i64 l, .int .i64 s] 29)) := (Below.refl _ _).alloc (Nat.le_refl _) _
  have H_1 := Lib.hid (rd_mv R_Job_ok H.out hbA)
  have HB1 := Lib.hid (show Below W.heap.size W (W.alloc (.cells #[.int .i64 l, .int .i64 s] 29)) from hbA)
  clear H
  have P_1 := Blk.new (W) 29 #[.int .i64 l, .int .i64 s]
  have Ph_1 := Lib.hid P_1
  clear P_1 hbA
  have hbA : Below (W.alloc (.cells #[.int .i64 l, .int .i64 s] 29)).heap.size (W.alloc (.cells #[.int .i64 l, .int .i64 s] 29)) ((W.alloc (.cells #[.int .i64 l, .int .i64 s] 29)).alloc (.cells #[.int .i64 0, .int .i64 0, .int .i64 0, .int .i64 0, .int .i64 0, .int .i64 0, .int .i64 0, .int .i64 0, .slice none 0 0] 31)) := (Below.refl _ _).alloc (Nat.le_refl _) _
  have P_2 := Lib.hid (Ph_1.out.call hbA)
  have H_2 := Lib.hid (rd_mv R_Job_ok H_1.out hbA)
  have HB2 := Lib.hid (HB1.out.trans ((hbA).mono HB1.out.size))
  clear Ph_1 H_1 HB1
  have R_2 := Blk.new (W.alloc (.cells #[.int .i64 l, .int .i64 s] 29)) 31 #[.int .i64 0, .int .i64 0, .int .i64 0, .int .i64 0, .int .i64 0, .int .i64 0, .int .i64 0, .int .i64 0, .slice none 0 0]
  have Rh_2 := Lib.hid R_2
  clear R_2 hbA
  have hR := Rh_2.out
  simp only [World.size_alloc] at hR
  have Rs := Lib.hid hR
  clear hR Rh_2
  go_enter Try.func17, Try.ntmps17
  have qP_0 := P_2.out.at_ 0 rfl
  have qP_1 := P_2.out.at_ 1 rfl
  go_wp2_with fail
  refine (at_spec (H_2.out)).mono ?_
  intro e w3 h
  obtain ⟨n, rfl, hq, hb⟩ := atC_elim h
  have HQ := Lib.hid hq
  clear hq
  clear qP_0 qP_1
  have P_3 := Lib.hid (P_2.out.call hb)
  have R_3 := Lib.hid (Rs.out.call hb)
  have H_3 := Lib.hid (rd_mv R_Job_ok H_2.out hb)
  have HB3 := Lib.hid (HB2.out.trans ((hb).mono HB2.out.size))
  clear P_2 Rs H_2 HB2
  clear h hb
  by_cases h96 : 96 < L.length
  · have hd : decide ((96 : Int) < (L.length : Int)) = true := decide_eq_true (by omega)
    have HZ := Lib.hid (show jobOf L l s id = zeroJ from jobOf_not fun h => by have := h.1; omega)
    have qR_0 := R_3.out.at_ 0 rfl
    have qR_1 := R_3.out.at_ 1 rfl
    have qR_2 := R_3.out.at_ 2 rfl
    have qR_3 := R_3.out.at_ 3 rfl
    have qR_4 := R_3.out.at_ 4 rfl
    have qR_5 := R_3.out.at_ 5 rfl
    have qR_6 := R_3.out.at_ 6 rfl
    have qR_7 := R_3.out.at_ 7 rfl
    have qR_8 := R_3.out.at_ 8 rfl
    have sR_0 := R_3.out.soft 0
    have sR_1 := R_3.out.soft 1
    have sR_2 := R_3.out.soft 2
    have sR_3 := R_3.out.soft 3
    have sR_4 := R_3.out.soft 4
    have sR_5 := R_3.out.soft 5
    have sR_6 := R_3.out.soft 6
    have sR_7 := R_3.out.soft 7
    have sR_8 := R_3.out.soft 8
    go_wp2
    rw [HZ.out]
    refine bodyPost_ret (v := .agg #[.int .i64 0, .int .i64 0, .int .i64 0, .int .i64 0, .int .i64 0, .int .i64 0, .int .i64 0, .int .i64 0, .slice none 0 0]) (by simp [results, Try.results17, go_sem, *]) rfl (newV_zero (((((((((HB3.out.setCell (p := ⟨W.heap.size + 1, 0, none⟩) (by show W.heap.size ≤ W.heap.size + 1; omega) (.int .i64 0)).setCell (p := ⟨W.heap.size + 1, 1, none⟩) (by show W.heap.size ≤ W.heap.size + 1; omega) (.int .i64 0)).setCell (p := ⟨W.heap.size + 1, 2, none⟩) (by show W.heap.size ≤ W.heap.size + 1; omega) (.int .i64 0)).setCell (p := ⟨W.heap.size + 1, 3, none⟩) (by show W.heap.size ≤ W.heap.size + 1; omega) (.int .i64 0)).setCell (p := ⟨W.heap.size + 1, 4, none⟩) (by show W.heap.size ≤ W.heap.size + 1; omega) (.int .i64 0)).setCell (p := ⟨W.heap.size + 1, 5, none⟩) (by show W.heap.size ≤ W.heap.size + 1; omega) (.int .i64 0)).setCell (p := ⟨W.heap.size + 1, 6, none⟩) (by show W.heap.size ≤ W.heap.size + 1; omega) (.int .i64 0)).setCell (p := ⟨W.heap.size + 1, 7, none⟩) (by show W.heap.size ≤ W.heap.size + 1; omega) (.int .i64 0)).setCell (p := ⟨W.heap.size + 1, 8, none⟩) (by show W.heap.size ≤ W.heap.size + 1; omega) (.slice none 0 0)))
  have hd : decide ((96 : Int) < (L.length : Int)) = false := decide_eq_false (by omega)
  rcases HQ.out with ⟨i, d, hi, rfl, hia, hf⟩ | ⟨rfl, hf⟩
  rotate_left
  · have hng : decide ((-1 : Int) < 0) = true := rfl
    have HF := Lib.hid hf
    clear hf
    have HZ := Lib.hid (show jobOf L l s id = zeroJ from jobOf_none HF.out)
    have qR_0 := R_3.out.at_ 0 rfl
    have qR_1 := R_3.out.at_ 1 rfl
    have qR_2 := R_3.out.at_ 2 rfl
    have qR_3 := R_3.out.at_ 3 rfl
    have qR_4 := R_3.out.at_ 4 rfl
    have qR_5 := R_3.out.at_ 5 rfl
    have qR_6 := R_3.out.at_ 6 rfl
    have qR_7 := R_3.out.at_ 7 rfl
    have qR_8 := R_3.out.at_ 8 rfl
    have sR_0 := R_3.out.soft 0
    have sR_1 := R_3.out.soft 1
    have sR_2 := R_3.out.soft 2
    have sR_3 := R_3.out.soft 3
    have sR_4 := R_3.out.soft 4
    have sR_5 := R_3.out.soft 5
    have sR_6 := R_3.out.soft 6
    have sR_7 := R_3.out.soft 7
    have sR_8 := R_3.out.soft 8
    go_wp2
    rw [HZ.out]
    refine bodyPost_ret (v := .agg #[.int .i64 0, .int .i64 0, .int .i64 0, .int .i64 0, .int .i64 0, .int .i64 0, .int .i64 0, .int .i64 0, .slice none 0 0]) (by simp [results, Try.results17, go_sem, *]) rfl (newV_zero (((((((((HB3.out.setCell (p := ⟨W.heap.size + 1, 0, none⟩) (by show W.heap.size ≤ W.heap.size + 1; omega) (.int .i64 0)).setCell (p := ⟨W.heap.size + 1, 1, none⟩) (by show W.heap.size ≤ W.heap.size + 1; omega) (.int .i64 0)).setCell (p := ⟨W.heap.size + 1, 2, none⟩) (by show W.heap.size ≤ W.heap.size + 1; omega) (.int .i64 0)).setCell (p := ⟨W.heap.size + 1, 3, none⟩) (by show W.heap.size ≤ W.heap.size + 1; omega) (.int .i64 0)).setCell (p := ⟨W.heap.size + 1, 4, none⟩) (by show W.heap.size ≤ W.heap.size + 1; omega) (.int .i64 0)).setCell (p := ⟨W.heap.size + 1, 5, none⟩) (by show W.heap.size ≤ W.heap.size + 1; omega) (.int .i64 0)).setCell (p := ⟨W.heap.size + 1, 6, none⟩) (by show W.heap.size ≤ W.heap.size + 1; omega) (.int .i64 0)).setCell (p := ⟨W.heap.size + 1, 7, none⟩) (by show W.heap.size ≤ W.heap.size + 1; omega) (.int .i64 0)).setCell (p := ⟨W.heap.size + 1, 8, none⟩) (by show W.heap.size ≤ W.heap.size + 1; omega) (.slice none 0 0)))
  have HF := Lib.hid hf
  have HI := Lib.hid hi
  have hng : decide ((i : Int) < 0) = false := decide_eq_false (by omega)
  have hil := el_lt hi
  clear hf hia hi HQ
  go_wp2_with fail
  refine (jobs_spec (H_3.out)).mono ?_
  intro e w4 h
  obtain ⟨q, rfl, hq, hb⟩ := resB_elim h
  have P_4 := Lib.hid (P_3.out.call hb)
  have R_4 := Lib.hid (R_3.out.call hb)
  have H_4 := Lib.hid (rd_mv R_Job_ok H_3.out hb)
  have HB4 := Lib.hid (HB3.out.trans ((hb).mono HB3.out.size))
  clear P_3 R_3 H_3 HB3
  clear h hb
  cases q with
  | false =>
    have HN := Lib.hid (show ¬ JobsR L from fun h => by have := hq.2 h; cases this)
    clear hq
    have HZ := Lib.hid (show jobOf L l s id = zeroJ from jobOf_not HN.out)
    have qR_0 := R_4.out.at_ 0 rfl
    have qR_1 := R_4.out.at_ 1 rfl
    have qR_2 := R_4.out.at_ 2 rfl
    have qR_3 := R_4.out.at_ 3 rfl
    have qR_4 := R_4.out.at_ 4 rfl
    have qR_5 := R_4.out.at_ 5 rfl
    have qR_6 := R_4.out.at_ 6 rfl
    have qR_7 := R_4.out.at_ 7 rfl
    have qR_8 := R_4.out.at_ 8 rfl
    have sR_0 := R_4.out.soft 0
    have sR_1 := R_4.out.soft 1
    have sR_2 := R_4.out.soft 2
    have sR_3 := R_4.out.soft 3
    have sR_4 := R_4.out.soft 4
    have sR_5 := R_4.out.soft 5
    have sR_6 := R_4.out.soft 6
    have sR_7 := R_4.out.soft 7
    have sR_8 := R_4.out.soft 8
    go_wp2
    rw [HZ.out]
    refine bodyPost_ret (v := .agg #[.int .i64 0, .int .i64 0, .int .i64 0, .int .i64 0, .int .i64 0, .int .i64 0, .int .i64 0, .int .i64 0, .slice none 0 0]) (by simp [results, Try.results17, go_sem, *]) rfl (newV_zero (((((((((HB4.out.setCell (p := ⟨W.heap.size + 1, 0, none⟩) (by show W.heap.size ≤ W.heap.size + 1; omega) (.int .i64 0)).setCell (p := ⟨W.heap.size + 1, 1, none⟩) (by show W.heap.size ≤ W.heap.size + 1; omega) (.int .i64 0)).setCell (p := ⟨W.heap.size + 1, 2, none⟩) (by show W.heap.size ≤ W.heap.size + 1; omega) (.int .i64 0)).setCell (p := ⟨W.heap.size + 1, 3, none⟩) (by show W.heap.size ≤ W.heap.size + 1; omega) (.int .i64 0)).setCell (p := ⟨W.heap.size + 1, 4, none⟩) (by show W.heap.size ≤ W.heap.size + 1; omega) (.int .i64 0)).setCell (p := ⟨W.heap.size + 1, 5, none⟩) (by show W.heap.size ≤ W.heap.size + 1; omega) (.int .i64 0)).setCell (p := ⟨W.heap.size + 1, 6, none⟩) (by show W.heap.size ≤ W.heap.size + 1; omega) (.int .i64 0)).setCell (p := ⟨W.heap.size + 1, 7, none⟩) (by show W.heap.size ≤ W.heap.size + 1; omega) (.int .i64 0)).setCell (p := ⟨W.heap.size + 1, 8, none⟩) (by show W.heap.size ≤ W.heap.size + 1; omega) (.slice none 0 0)))
  | true =>
    have HJ := Lib.hid (hq.1 rfl)
    clear hq
    obtain ⟨⟨⟨x0, x1⟩, x2, x3, x4, x5, x6, x7, L0⟩, rfl⟩ : ∃ d' : D_Job, d = d' := ⟨_, rfl⟩
    obtain ⟨g, o, us, rfl, hg, hu, hr⟩ := (H_4.out).at_ HI.out
    obtain ⟨a0, c0, rfl, k_L0⟩ := rd_Job hr
    have e0 : w4.cell? ⟨g, o + i * 9, none⟩ = some (.int .i64 x0) := by simpa [sizeq_JobS, Nat.add_assoc] using hu 0 _ rfl
    have e1 : w4.cell? ⟨g, o + i * 9 + 1, none⟩ = some (.int .i64 x1) := by simpa [sizeq_JobS, Nat.add_assoc] using hu 1 _ rfl
    have e2 : w4.cell? ⟨g, o + i * 9 + 2, none⟩ = some (.int .i64 x2) := by simpa [sizeq_JobS, Nat.add_assoc] using hu 2 _ rfl
    have e3 : w4.cell? ⟨g, o + i * 9 + 3, none⟩ = some (.int .i64 x3) := by simpa [sizeq_JobS, Nat.add_assoc] using hu 3 _ rfl
    have e4 : w4.cell? ⟨g, o + i * 9 + 4, none⟩ = some (.int .i64 x4) := by simpa [sizeq_JobS, Nat.add_assoc] using hu 4 _ rfl
    have e5 : w4.cell? ⟨g, o + i * 9 + 5, none⟩ = some (.int .i64 x5) := by simpa [sizeq_JobS, Nat.add_assoc] using hu 5 _ rfl
    have e6 : w4.cell? ⟨g, o + i * 9 + 6, none⟩ = some (.int .i64 x6) := by simpa [sizeq_JobS, Nat.add_assoc] using hu 6 _ rfl
    have e7 : w4.cell? ⟨g, o + i * 9 + 7, none⟩ = some (.int .i64 x7) := by simpa [sizeq_JobS, Nat.add_assoc] using hu 7 _ rfl
    have e8 : w4.cell? ⟨g, o + i * 9 + 8, none⟩ = some (.slice a0 L0.length c0) := by simpa [sizeq_JobS, Nat.add_assoc] using hu 8 _ rfl
    have hi0 : (0 : Int) ≤ (i : Int) := Int.natCast_nonneg _
    have hi1 : (i : Int) < (L.length : Int) := by omega
    have HK := Lib.hid k_L0
    have HL0 := Lib.hid (show L0.length ≤ 1048576 from Nat.le_trans (by simp only [R_Job, R_Label, Pr, Sl, I, atom]; omega) (sz_at (f := R_Job.sz) HI.out HSZ.out))
    clear hu hr k_L0
    have HZ := Lib.hid (jobOf_hit HJ.out HF.out)
    have hlo : W.heap.size + 2 ≤ w4.heap.size := by have := R_4.out.lt; omega
    go_wp2_with fail
    refine (copy_spec HL0.out HK.out).mono ?_
    intro e w5 h
    obtain ⟨us, rfl, hu, hb⟩ := newV_elim h
    obtain ⟨a5, c5, T5, rfl, hT, ho⟩ := ow_Job hu
    have P_5 := Lib.hid (P_4.out.call hb)
    have R_5 := Lib.hid (R_4.out.call hb)
    have H_5 := Lib.hid (rd_mv R_Job_ok H_4.out hb)
    have HB5 := Lib.hid (HB4.out.trans ((hb).mono HB4.out.size))
    clear P_4 R_4 H_4 HB4
    have HT := Lib.hid hT
    have HO := Lib.hid ho
    clear hu hT ho e0 e1 e2 e3 e4 e5 e6 e7 e8
    clear h hb
    have qR_0 := R_5.out.at_ 0 rfl
    have qR_1 := R_5.out.at_ 1 rfl
    have qR_2 := R_5.out.at_ 2 rfl
    have qR_3 := R_5.out.at_ 3 rfl
    have qR_4 := R_5.out.at_ 4 rfl
    have qR_5 := R_5.out.at_ 5 rfl
    have qR_6 := R_5.out.at_ 6 rfl
    have qR_7 := R_5.out.at_ 7 rfl
    have qR_8 := R_5.out.at_ 8 rfl
    have sR_0 := R_5.out.soft 0
    have sR_1 := R_5.out.soft 1
    have sR_2 := R_5.out.soft 2
    have sR_3 := R_5.out.soft 3
    have sR_4 := R_5.out.soft 4
    have sR_5 := R_5.out.soft 5
    have sR_6 := R_5.out.soft 6
    have sR_7 := R_5.out.soft 7
    have sR_8 := R_5.out.soft 8
    have hzz := HB5.out.size
    go_wp2
    rw [HZ.out]
    refine bodyPost_ret (v := .agg #[.int .i64 x0, .int .i64 x1, .int .i64 x2, .int .i64 x3, .int .i64 x4, .int .i64 x5, .int .i64 x6, .int .i64 x7, .slice a5 L0.length c5]) (by simp [results, Try.results17, go_sem, *]) rfl ⟨[.int .i64 x0, .int .i64 x1, .int .i64 x2, .int .i64 x3, .int .i64 x4, .int .i64 x5, .int .i64 x6, .int .i64 x7, .slice a5 L0.length c5], rfl, ?_, (((((((((HB5.out.setCell (p := ⟨W.heap.size + 1, 0, none⟩) (by show W.heap.size ≤ W.heap.size + 1; omega) (.int .i64 x0)).setCell (p := ⟨W.heap.size + 1, 1, none⟩) (by show W.heap.size ≤ W.heap.size + 1; omega) (.int .i64 x1)).setCell (p := ⟨W.heap.size + 1, 2, none⟩) (by show W.heap.size ≤ W.heap.size + 1; omega) (.int .i64 x2)).setCell (p := ⟨W.heap.size + 1, 3, none⟩) (by show W.heap.size ≤ W.heap.size + 1; omega) (.int .i64 x3)).setCell (p := ⟨W.heap.size + 1, 4, none⟩) (by show W.heap.size ≤ W.heap.size + 1; omega) (.int .i64 x4)).setCell (p := ⟨W.heap.size + 1, 5, none⟩) (by show W.heap.size ≤ W.heap.size + 1; omega) (.int .i64 x5)).setCell (p := ⟨W.heap.size + 1, 6, none⟩) (by show W.heap.size ≤ W.heap.size + 1; omega) (.int .i64 x6)).setCell (p := ⟨W.heap.size + 1, 7, none⟩) (by show W.heap.size ≤ W.heap.size + 1; omega) (.int .i64 x7)).setCell (p := ⟨W.heap.size + 1, 8, none⟩) (by show W.heap.size ≤ W.heap.size + 1; omega) (.slice a5 L0.length c5))⟩
    have hoff := ((((((((((Off.refl (fun x => x < W.heap.size + 2) w5).setCell (p := ⟨W.heap.size + 1, 0, none⟩) (by show W.heap.size + 1 < W.heap.size + 2; omega) (.int .i64 x0)).setCell (p := ⟨W.heap.size + 1, 1, none⟩) (by show W.heap.size + 1 < W.heap.size + 2; omega) (.int .i64 x1)).setCell (p := ⟨W.heap.size + 1, 2, none⟩) (by show W.heap.size + 1 < W.heap.size + 2; omega) (.int .i64 x2)).setCell (p := ⟨W.heap.size + 1, 3, none⟩) (by show W.heap.size + 1 < W.heap.size + 2; omega) (.int .i64 x3)).setCell (p := ⟨W.heap.size + 1, 4, none⟩) (by show W.heap.size + 1 < W.heap.size + 2; omega) (.int .i64 x4)).setCell (p := ⟨W.heap.size + 1, 5, none⟩) (by show W.heap.size + 1 < W.heap.size + 2; omega) (.int .i64 x5)).setCell (p := ⟨W.heap.size + 1, 6, none⟩) (by show W.heap.size + 1 < W.heap.size + 2; omega) (.int .i64 x6)).setCell (p := ⟨W.heap.size + 1, 7, none⟩) (by show W.heap.size + 1 < W.heap.size + 2; omega) (.int .i64 x7)).setCell (p := ⟨W.heap.size + 1, 8, none⟩) (by show W.heap.size + 1 < W.heap.size + 2; omega) (.slice a5 L0.length c5))
    have hsz := hoff.size
    exact mkow_Job (fun k hk => ⟨by have := (HT.out k hk).1; omega, by have := (HT.out k hk).2; omega⟩) (HO.out.keep I_ok (fun k hk => hoff.block k (HT.out k hk).2 (by have := (HT.out k hk).1; omega)))
end Go.Proofs.Ytfmgjkmlnaeagaa.RepC
