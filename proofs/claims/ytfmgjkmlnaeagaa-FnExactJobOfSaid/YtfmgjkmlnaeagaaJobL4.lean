/- The law on JobOf, out of the contracts. -/
import Derived.Test.YtfmgjkmlnaeagaaTk
import Derived.Test.YtfmgjkmlnaeagaaJobQ
import Derived.Test.YtfmgjkmlnaeagaaJobO
import Derived.Test.YtfmgjkmlnaeagaaJobL3
namespace Go.Proofs.Ytfmgjkmlnaeagaa.RepC
open Go.RowKit RowC ValC SpanC KeptC
set_option linter.unusedVariables false
set_option linter.unusedSimpArgs false

/-- a slice in blocks of its own that are there -/
def OwX {α : Type} (E : Rp α) (w : World) (S : Nat → Prop) (L : List α) (a : Option Addr) (c : Nat) : Prop := OwSl E w S L a c ∧ ∀ k, S k → k < w.heap.size
theorem OwX.mv {α : Type} {E : Rp α} (hE : Ok E) {w w' : World} {S : Nat → Prop} {L : List α} {a : Option Addr} {c : Nat} (h : OwX E w S L a c) (hb : Below w.heap.size w w') : OwX E w' S L a c :=
  ⟨h.1.keep hE fun k hk => hb.block k (h.2 k hk), fun k hk => Nat.lt_of_lt_of_le (h.2 k hk) hb.size⟩
theorem OwX.off {α : Type} {E : Rp α} (hE : Ok E) {w w' : World} {S T : Nat → Prop} {L : List α} {a : Option Addr} {c : Nat} (h : OwX E w S L a c) (ho : Off T w w') (hd : ∀ k, S k → ¬ T k) : OwX E w' S L a c :=
  ⟨h.1.keep hE fun k hk => ho.block k (h.2 k hk) (hd k hk), fun k hk => Nat.lt_of_lt_of_le (h.2 k hk) ho.size⟩
theorem OwX.rd {α : Type} {E : Rp α} (hE : Ok E) {w : World} {S : Nat → Prop} {L : List α} {a : Option Addr} {c : Nat} (h : OwX E w S L a c) : RdSl E w w.heap.size L a c := h.1.rd hE h.2
theorem cm_ints : ∀ L : List Int, sumL I.cm L = L.length
  | [] => rfl
  | x :: xs => by simp only [sumL, cm_ints xs, List.length_cons]; show 1 + xs.length = _; omega
theorem cm_job (d : D_Job) : R_Job.cm d ≤ 8 + R_Job.sz d := by
  obtain ⟨⟨x0, x1⟩, x2, x3, x4, x5, x6, x7, L⟩ := d
  have := cm_ints L
  simp only [R_Job, R_Label, Pr, Sl, I, atom] at *
  omega
theorem cm_jobs : ∀ L : List D_Job, sumL R_Job.cm L ≤ 8 * L.length + sumL R_Job.sz L
  | [] => by simp [sumL]
  | d :: ds => by
    have h1 := cm_jobs ds
    have h2 := cm_job d
    simp only [sumL, List.length_cons]
    omega
theorem cm_small {L : List D_Job} (h : (Sl R_Job).sz L ≤ 1048576) : sumL R_Job.cm L ≤ 9437184 := by
  have h1 := cm_jobs L
  have h2 : L.length + sumL R_Job.sz L ≤ 1048576 := h
  omega
theorem jobOf_len {L : List D_Job} {l s id y0 y1 y2 y3 y4 y5 y6 y7 : Int} {M : List Int} (h : (Sl R_Job).sz L ≤ 1048576) (hJ : jobOf L l s id = ((y0, y1), y2, y3, y4, y5, y6, y7, M)) : M.length ≤ 1048576 := by
  unfold jobOf at hJ
  split at hJ
  · cases hf : L.find? (isAt l s id) with
    | none =>
      rw [hf] at hJ
      have : ([] : List Int) = M := congrArg (fun d : D_Job => d.2.2.2.2.2.2.2) hJ
      rw [← this]
      exact Nat.zero_le _
    | some d =>
      rw [hf] at hJ
      have hJ : d = _ := hJ
      subst hJ
      obtain ⟨j, hj⟩ := List.getElem?_of_mem (List.mem_of_find?_eq_some hf)
      exact Nat.le_trans (by simp only [R_Job, R_Label, Pr, Sl, I, atom]; omega) (sz_at (f := R_Job.sz) hj h)
  · have : ([] : List Int) = M := congrArg (fun d : D_Job => d.2.2.2.2.2.2.2) hJ
    rw [← this]
    exact Nat.zero_le _
theorem held_at {y0 y1 y2 y3 y4 y5 y6 y7 : Int} {L0 : List Int} {n : Nat} {a0 : Option Addr} {c0 : Nat} {W : World} {k z0 : Int} (hn : L0.length = n) (h0 : 0 ≤ k) (h1 : z0 ≤ 4611686018427387904) (hm0 : mmL I L0 k z0) (h : RdSl I W W.heap.size L0 a0 c0) :
    Calls Try.prog 22 #[.agg #[.int .i64 y0, .int .i64 y1, .int .i64 y2, .int .i64 y3, .int .i64 y4, .int .i64 y5, .int .i64 y6, .int .i64 y7, .slice a0 n c0], .int .i64 k] W (HeldC z0 W) := by
  subst hn
  exact held_Job h0 h1 hm0 h
theorem box_sets {w : World} {g : Nat} {v0 v1 v2 v3 v4 v5 v6 v7 v8 : Value} {t : TypeId} (h : Blk w g t #[.int .i64 0, .int .i64 0, .int .i64 0, .int .i64 0, .int .i64 0, .int .i64 0, .int .i64 0, .int .i64 0, .slice none 0 0]) : Blk (((((((((w.setCell ⟨g, 0, none⟩ v0).setCell ⟨g, 1, none⟩ v1).setCell ⟨g, 2, none⟩ v2).setCell ⟨g, 3, none⟩ v3).setCell ⟨g, 4, none⟩ v4).setCell ⟨g, 5, none⟩ v5).setCell ⟨g, 6, none⟩ v6).setCell ⟨g, 7, none⟩ v7).setCell ⟨g, 8, none⟩ v8) g t #[v0, v1, v2, v3, v4, v5, v6, v7, v8] := Blk.as (((((((((h.set 0 v0).set 1 v1).set 2 v2).set 3 v3).set 4 v4).set 5 v5).set 6 v6).set 7 v7).set 8 v8) (by simp only [List.setIfInBounds_toArray, List.set_cons_zero, List.set_cons_succ])
theorem off_sets (w : World) (g : Nat) (v0 v1 v2 v3 v4 v5 v6 v7 v8 : Value) : Off (fun x => x = g) w (((((((((w.setCell ⟨g, 0, none⟩ v0).setCell ⟨g, 1, none⟩ v1).setCell ⟨g, 2, none⟩ v2).setCell ⟨g, 3, none⟩ v3).setCell ⟨g, 4, none⟩ v4).setCell ⟨g, 5, none⟩ v5).setCell ⟨g, 6, none⟩ v6).setCell ⟨g, 7, none⟩ v7).setCell ⟨g, 8, none⟩ v8) := ((((((((((Off.refl (fun x => x = g) w).setCell (p := ⟨g, 0, none⟩) rfl v0).setCell (p := ⟨g, 1, none⟩) rfl v1).setCell (p := ⟨g, 2, none⟩) rfl v2).setCell (p := ⟨g, 3, none⟩) rfl v3).setCell (p := ⟨g, 4, none⟩) rfl v4).setCell (p := ⟨g, 5, none⟩) rfl v5).setCell (p := ⟨g, 6, none⟩) rfl v6).setCell (p := ⟨g, 7, none⟩) rfl v7).setCell (p := ⟨g, 8, none⟩) rfl v8)

set_option maxRecDepth 100000 in
set_option maxHeartbeats 4000000 in
theorem law_jobof {L : List D_Job} {a : Option Addr} {cap : Nat} {l s id : Int} {W : World} (hl : Wf l) (hs : Wf s) (h : RdSl R_Job W W.heap.size L a cap) :
    Calls Try.prog 5 #[.slice a L.length cap, .agg #[.int .i64 l, .int .i64 s], .int .i64 id] W fun e w' => e = .returned (.bool true) ∧ Below W.heap.size W w' := by
  have H := Lib.hid h
  have H0 := Lib.hid h
  have HWl := Lib.hid hl
  have HWs := Lib.hid hs
  clear h hl hs
  have hbA : Below (W).heap.size (W) (W.alloc (.cells #[.int .i64 l, .int .i64 s] 23)) := (Below.refl _ _).alloc (Nat.le_refl _) _
  have H_1 := Lib.hid (rd_mv R_Job_ok H.out hbA)
  have HB1 := Lib.hid (show Below W.heap.size W (W.alloc (.cells #[.int .i64 l, .int .i64 s] 23)) from hbA)
  clear H
  have P_1 := Blk.new (W) 23 #[.int .i64 l, .int .i64 s]
  have Ph_1 := Lib.hid P_1
  clear P_1 hbA
  by_cases hsz : (Sl R_Job).sz L ≤ 1048576
  rotate_left
  · skip
    go_enter Try.func5, Try.ntmps5
    go_wp2_with fail
    refine (sz_JobS (by omega) (by omega) (H_1.out)).mono ?_
    intro e w2 h
    obtain ⟨rfl, hb⟩ := szC_elim h
    rw [szR_no (by omega)]
    have P_2 := Lib.hid (Ph_1.out.call hb)
    have H_2 := Lib.hid (rd_mv R_Job_ok H_1.out hb)
    have HB2 := Lib.hid (HB1.out.trans ((hb).mono HB1.out.size))
    clear Ph_1 H_1 HB1
    clear h hb
    go_wp2
    go_ret
    exact ⟨rfl, HB2.out⟩
  have HSZ := Lib.hid hsz
  obtain ⟨m, hm⟩ : ∃ m : Nat, (Sl R_Job).sz L = m := ⟨_, rfl⟩
  have HM := Lib.hid hm
  rw [hm] at hsz
  clear hm
  have hlt1 : decide ((1048576 : Int) - (m : Int) < 0) = false := decide_eq_false (by omega)
  obtain ⟨⟨⟨y0, y1⟩, y2, y3, y4, y5, y6, y7, M⟩, hJ⟩ : ∃ d, jobOf L l s id = d := ⟨_, rfl⟩
  have HJ := Lib.hid hJ
  have HML := Lib.hid (jobOf_len HSZ.out hJ)
  clear hJ
  go_enter Try.func5, Try.ntmps5
  go_wp2_with fail
  refine (sz_JobS (by omega) (by omega) (H_1.out)).mono ?_
  intro e w2 h
  obtain ⟨rfl, hb⟩ := szC_elim h
  rw [HM.out, szR_yes (by omega)]
  have P_2 := Lib.hid (Ph_1.out.call hb)
  have H_2 := Lib.hid (rd_mv R_Job_ok H_1.out hb)
  have HB2 := Lib.hid (HB1.out.trans ((hb).mono HB1.out.size))
  clear Ph_1 H_1 HB1
  clear hsz
  clear h hb
  go_upto_region 5 with fail
  go_cut [8] (fun s8 wx => ∃ (g8 : Nat) (b8 : Option Addr) (c8 : Nat) (T8 : Nat → Prop), s8 = .pointer (some ⟨g8, 0, none⟩) ∧ Hid (Blk wx g8 31 #[.int .i64 y0, .int .i64 y1, .int .i64 y2, .int .i64 y3, .int .i64 y4, .int .i64 y5, .int .i64 y6, .int .i64 y7, .slice b8 M.length c8]) ∧ Hid (OwX I wx T8 M b8 c8) ∧ Hid (∀ k, T8 k → w2.heap.size ≤ k ∧ k ≠ g8) ∧ Hid (w2.heap.size ≤ g8) ∧ Hid (Below w2.heap.size w2 wx))
  case first =>
    refine wp_region_held_drew (S := (fun V => Below w2.heap.size w2 V)) (by kernel_rfl) ((Below.refl _ _).drew) (fun hHeld => ?_)
    refine tk 0 hHeld ?_
    refine tk 2 hHeld ?_ (hy := fun w hSw => by (try dsimp only at hSw); have k0 := (hSw.cell (p := ⟨W.heap.size, 0, none⟩) P_2.out.lt).trans (P_2.out.at_ 0 rfl); have k1 := (hSw.cell (p := ⟨W.heap.size, 1, none⟩) P_2.out.lt).trans (P_2.out.at_ 1 rfl); clear hSw; go_simp; try with_reducible rfl)
    refine tk 4 hHeld ?_
    refine rd2 1 6 (fun K hK => ?_) (fun K hK => ?_)
    · skip
      go_simp
      go_at_call 14
      refine (to_JobS HSZ.out (rd_mv R_Job_ok H_2.out hHeld)).mono ?_
      intro e v5_1 h
      obtain ⟨a5_1, c5_1, rfl, ho, hb⟩ := newS_elim h
      have NL := Lib.hid (rd_sl R_Job_ok ho)
      clear h ho
      refine hK.out _ _ (hHeld.trans (hb.mono hHeld.size)) (fun hHeld => ?_)
      clear hK K hb
      refine rd2 3 6 (fun K hK => ?_) (fun K hK => ?_)
      · skip
        go_simp
        go_at_call 18
        refine (to_Label (by simp only [R_Label, Pr, I, atom]; omega)).mono ?_
        intro e v5_2 h
        obtain ⟨us, rfl, hu, hb⟩ := newV_elim h
        obtain rfl := ow0_Label hu
        have NL := Lib.hid (rd_mv R_Job_ok NL.out hb)
        clear h hu
        refine hK.out _ _ (hHeld.trans (hb.mono hHeld.size)) (fun hHeld => ?_)
        clear hK K hb
        refine rd2 5 6 (fun K hK => ?_) (fun K hK => ?_)
        · skip
          go_simp
          go_at_call 17
          refine (jobof_spec HSZ.out NL.out).mono ?_
          intro e v5_3 h
          rw [HJ.out] at h
          obtain ⟨us, rfl, hu, hb⟩ := newV_elim h
          obtain ⟨b5_3, c5_3, T5_3, rfl, hT, ho⟩ := ow_Job hu
          have OWB := Lib.hid (show OwX I v5_3 T5_3 M b5_3 c5_3 from ⟨ho, fun k hk => (hT k hk).2⟩)
          have HT := Lib.hid (show (∀ k, T5_3 k → w2.heap.size ≤ k) ∧ (∀ k, T5_3 k → k < v5_3.heap.size) from ⟨fun k hk => Nat.le_trans hHeld.size (hT k hk).1, fun k hk => (hT k hk).2⟩)
          clear h hu hT ho NL
          refine hK.out _ _ (hHeld.trans (hb.mono hHeld.size)) (fun hHeld => ?_)
          clear hK K hb
          refine rd1 6 (fun K hK => ?_)
          go_simp
          have hb : Below (v5_3).heap.size (v5_3) (v5_3.alloc (.cells #[.int .i64 0, .int .i64 0, .int .i64 0, .int .i64 0, .int .i64 0, .int .i64 0, .int .i64 0, .int .i64 0, .slice none 0 0] 31)) := (Below.refl _ _).alloc (Nat.le_refl _) _
          have OWB0 := OWB
          have OWB := Lib.hid (OWB.out.mv I_ok hb)
          have GB := Lib.hid (show Blk (v5_3.alloc (.cells #[.int .i64 0, .int .i64 0, .int .i64 0, .int .i64 0, .int .i64 0, .int .i64 0, .int .i64 0, .int .i64 0, .slice none 0 0] 31)) v5_3.heap.size 31 #[.int .i64 0, .int .i64 0, .int .i64 0, .int .i64 0, .int .i64 0, .int .i64 0, .int .i64 0, .int .i64 0, .slice none 0 0] from Blk.new (v5_3) 31 #[.int .i64 0, .int .i64 0, .int .i64 0, .int .i64 0, .int .i64 0, .int .i64 0, .int .i64 0, .int .i64 0, .slice none 0 0])
          have HGE := Lib.hid (show w2.heap.size ≤ v5_3.heap.size from hHeld.size)
          have HTB := Lib.hid (show ∀ k, T5_3 k → w2.heap.size ≤ k ∧ k ≠ v5_3.heap.size from fun k hk => ⟨HT.out.1 k hk, by have := HT.out.2 k hk; omega⟩)
          have hPre := Lib.hid hHeld
          have OWP := OWB0
          refine hK.out _ _ (hHeld.trans (hb.mono hHeld.size)) (fun hHeld => ?_)
          clear hK K hb
          refine rd1 7 (fun K hK => ?_)
          go_simp
          refine hK.out _ _ (hPre.out.alloc HGE.out (.cells #[.int .i64 y0, .int .i64 y1, .int .i64 y2, .int .i64 y3, .int .i64 y4, .int .i64 y5, .int .i64 y6, .int .i64 y7, .slice b5_3 M.length c5_3] 31)) (fun hHeld => ?_)
          clear hK K
          refine rd0 ?_
          go_wp2_with fail
          go_meet
          exact ⟨_, _, _, _, rfl, Lib.hid (Blk.new v5_3 31 #[.int .i64 y0, .int .i64 y1, .int .i64 y2, .int .i64 y3, .int .i64 y4, .int .i64 y5, .int .i64 y6, .int .i64 y7, .slice b5_3 M.length c5_3]), Lib.hid (OWP.out.mv I_ok ((Below.refl _ _).alloc (Nat.le_refl _) (.cells #[.int .i64 y0, .int .i64 y1, .int .i64 y2, .int .i64 y3, .int .i64 y4, .int .i64 y5, .int .i64 y6, .int .i64 y7, .slice b5_3 M.length c5_3] 31))), HTB, HGE, Lib.hid hHeld⟩
        · skip
          go_simp
          have hb : Below (v5_2).heap.size (v5_2) (v5_2.alloc (.cells #[.int .i64 0, .int .i64 0, .int .i64 0, .int .i64 0, .int .i64 0, .int .i64 0, .int .i64 0, .int .i64 0, .slice none 0 0] 31)) := (Below.refl _ _).alloc (Nat.le_refl _) _
          have NL := Lib.hid (rd_mv R_Job_ok NL.out hb)
          have GB := Lib.hid (show Blk (v5_2.alloc (.cells #[.int .i64 0, .int .i64 0, .int .i64 0, .int .i64 0, .int .i64 0, .int .i64 0, .int .i64 0, .int .i64 0, .slice none 0 0] 31)) v5_2.heap.size 31 #[.int .i64 0, .int .i64 0, .int .i64 0, .int .i64 0, .int .i64 0, .int .i64 0, .int .i64 0, .int .i64 0, .slice none 0 0] from Blk.new (v5_2) 31 #[.int .i64 0, .int .i64 0, .int .i64 0, .int .i64 0, .int .i64 0, .int .i64 0, .int .i64 0, .int .i64 0, .slice none 0 0])
          have HGE := Lib.hid (show w2.heap.size ≤ v5_2.heap.size from hHeld.size)
          refine hK.out _ _ (hHeld.trans (hb.mono hHeld.size)) (fun hHeld => ?_)
          clear hK K hb
          have GBl := Lib.hid (show v5_2.heap.size < (v5_2.alloc (.cells #[.int .i64 0, .int .i64 0, .int .i64 0, .int .i64 0, .int .i64 0, .int .i64 0, .int .i64 0, .int .i64 0, .slice none 0 0] 31)).heap.size from GB.out.lt)
          refine rd1 5 (fun K hK => ?_)
          go_simp
          go_at_call 17
          refine (jobof_spec HSZ.out NL.out).mono ?_
          intro e v5_4 h
          rw [HJ.out] at h
          obtain ⟨us, rfl, hu, hb⟩ := newV_elim h
          obtain ⟨b5_4, c5_4, T5_4, rfl, hT, ho⟩ := ow_Job hu
          have GB := Lib.hid (GB.out.call hb)
          have OWB := Lib.hid (show OwX I v5_4 T5_4 M b5_4 c5_4 from ⟨ho, fun k hk => (hT k hk).2⟩)
          have HT := Lib.hid (show (∀ k, T5_4 k → w2.heap.size ≤ k) ∧ (∀ k, T5_4 k → k < v5_4.heap.size) from ⟨fun k hk => Nat.le_trans hHeld.size (hT k hk).1, fun k hk => (hT k hk).2⟩)
          have HTB := Lib.hid (show ∀ k, T5_4 k → w2.heap.size ≤ k ∧ k ≠ v5_2.heap.size from fun k hk => ⟨HT.out.1 k hk, by have h1 := (hT k hk).1; have h2 := GBl.out; omega⟩)
          clear h hu hT ho NL
          refine hK.out _ _ (hHeld.trans (hb.mono hHeld.size)) (fun hHeld => ?_)
          clear hK K hb
          have GBl := Lib.hid (show v5_2.heap.size < v5_4.heap.size from GB.out.lt)
          refine rd1 7 (fun K hK => ?_)
          have q0 := GB.out.at_ 0 rfl
          have f0 := GB.out.soft 0
          have q1 := GB.out.at_ 1 rfl
          have f1 := GB.out.soft 1
          have q2 := GB.out.at_ 2 rfl
          have f2 := GB.out.soft 2
          have q3 := GB.out.at_ 3 rfl
          have f3 := GB.out.soft 3
          have q4 := GB.out.at_ 4 rfl
          have f4 := GB.out.soft 4
          have q5 := GB.out.at_ 5 rfl
          have f5 := GB.out.soft 5
          have q6 := GB.out.at_ 6 rfl
          have f6 := GB.out.soft 6
          have q7 := GB.out.at_ 7 rfl
          have f7 := GB.out.soft 7
          have q8 := GB.out.at_ 8 rfl
          have f8 := GB.out.soft 8
          go_simp
          refine hK.out _ _ (((((((((hHeld.setCell (p := ⟨v5_2.heap.size, 0, none⟩) (by exact HGE.out) (.int .i64 y0)).setCell (p := ⟨v5_2.heap.size, 1, none⟩) (by exact HGE.out) (.int .i64 y1)).setCell (p := ⟨v5_2.heap.size, 2, none⟩) (by exact HGE.out) (.int .i64 y2)).setCell (p := ⟨v5_2.heap.size, 3, none⟩) (by exact HGE.out) (.int .i64 y3)).setCell (p := ⟨v5_2.heap.size, 4, none⟩) (by exact HGE.out) (.int .i64 y4)).setCell (p := ⟨v5_2.heap.size, 5, none⟩) (by exact HGE.out) (.int .i64 y5)).setCell (p := ⟨v5_2.heap.size, 6, none⟩) (by exact HGE.out) (.int .i64 y6)).setCell (p := ⟨v5_2.heap.size, 7, none⟩) (by exact HGE.out) (.int .i64 y7)).setCell (p := ⟨v5_2.heap.size, 8, none⟩) (by exact HGE.out) (.slice b5_4 M.length c5_4)) (fun hHeld => ?_)
          clear hK K q0 q1 q2 q3 q4 q5 q6 q7 q8 f0 f1 f2 f3 f4 f5 f6 f7 f8
          refine rd0 ?_
          go_wp2_with fail
          go_meet
          exact ⟨_, _, _, _, rfl, Lib.hid (box_sets GB.out), Lib.hid (OWB.out.off I_ok (off_sets _ _ _ _ _ _ _ _ _ _ _) (fun k hk h2 => (HTB.out k hk).2 h2)), HTB, HGE, Lib.hid hHeld⟩
      · skip
        go_simp
        have hb : Below (v5_1).heap.size (v5_1) (v5_1.alloc (.cells #[.int .i64 0, .int .i64 0, .int .i64 0, .int .i64 0, .int .i64 0, .int .i64 0, .int .i64 0, .int .i64 0, .slice none 0 0] 31)) := (Below.refl _ _).alloc (Nat.le_refl _) _
        have NL := Lib.hid (rd_mv R_Job_ok NL.out hb)
        have GB := Lib.hid (show Blk (v5_1.alloc (.cells #[.int .i64 0, .int .i64 0, .int .i64 0, .int .i64 0, .int .i64 0, .int .i64 0, .int .i64 0, .int .i64 0, .slice none 0 0] 31)) v5_1.heap.size 31 #[.int .i64 0, .int .i64 0, .int .i64 0, .int .i64 0, .int .i64 0, .int .i64 0, .int .i64 0, .int .i64 0, .slice none 0 0] from Blk.new (v5_1) 31 #[.int .i64 0, .int .i64 0, .int .i64 0, .int .i64 0, .int .i64 0, .int .i64 0, .int .i64 0, .int .i64 0, .slice none 0 0])
        have HGE := Lib.hid (show w2.heap.size ≤ v5_1.heap.size from hHeld.size)
        refine hK.out _ _ (hHeld.trans (hb.mono hHeld.size)) (fun hHeld => ?_)
        clear hK K hb
        have GBl := Lib.hid (show v5_1.heap.size < (v5_1.alloc (.cells #[.int .i64 0, .int .i64 0, .int .i64 0, .int .i64 0, .int .i64 0, .int .i64 0, .int .i64 0, .int .i64 0, .slice none 0 0] 31)).heap.size from GB.out.lt)
        refine rd1 3 (fun K hK => ?_)
        go_simp
        go_at_call 18
        refine (to_Label (by simp only [R_Label, Pr, I, atom]; omega)).mono ?_
        intro e v5_5 h
        obtain ⟨us, rfl, hu, hb⟩ := newV_elim h
        obtain rfl := ow0_Label hu
        have NL := Lib.hid (rd_mv R_Job_ok NL.out hb)
        have GB := Lib.hid (GB.out.call hb)
        clear h hu
        refine hK.out _ _ (hHeld.trans (hb.mono hHeld.size)) (fun hHeld => ?_)
        clear hK K hb
        have GBl := Lib.hid (show v5_1.heap.size < v5_5.heap.size from GB.out.lt)
        refine rd1 5 (fun K hK => ?_)
        go_simp
        go_at_call 17
        refine (jobof_spec HSZ.out NL.out).mono ?_
        intro e v5_6 h
        rw [HJ.out] at h
        obtain ⟨us, rfl, hu, hb⟩ := newV_elim h
        obtain ⟨b5_6, c5_6, T5_6, rfl, hT, ho⟩ := ow_Job hu
        have GB := Lib.hid (GB.out.call hb)
        have OWB := Lib.hid (show OwX I v5_6 T5_6 M b5_6 c5_6 from ⟨ho, fun k hk => (hT k hk).2⟩)
        have HT := Lib.hid (show (∀ k, T5_6 k → w2.heap.size ≤ k) ∧ (∀ k, T5_6 k → k < v5_6.heap.size) from ⟨fun k hk => Nat.le_trans hHeld.size (hT k hk).1, fun k hk => (hT k hk).2⟩)
        have HTB := Lib.hid (show ∀ k, T5_6 k → w2.heap.size ≤ k ∧ k ≠ v5_1.heap.size from fun k hk => ⟨HT.out.1 k hk, by have h1 := (hT k hk).1; have h2 := GBl.out; omega⟩)
        clear h hu hT ho NL
        refine hK.out _ _ (hHeld.trans (hb.mono hHeld.size)) (fun hHeld => ?_)
        clear hK K hb
        have GBl := Lib.hid (show v5_1.heap.size < v5_6.heap.size from GB.out.lt)
        refine rd1 7 (fun K hK => ?_)
        have q0 := GB.out.at_ 0 rfl
        have f0 := GB.out.soft 0
        have q1 := GB.out.at_ 1 rfl
        have f1 := GB.out.soft 1
        have q2 := GB.out.at_ 2 rfl
        have f2 := GB.out.soft 2
        have q3 := GB.out.at_ 3 rfl
        have f3 := GB.out.soft 3
        have q4 := GB.out.at_ 4 rfl
        have f4 := GB.out.soft 4
        have q5 := GB.out.at_ 5 rfl
        have f5 := GB.out.soft 5
        have q6 := GB.out.at_ 6 rfl
        have f6 := GB.out.soft 6
        have q7 := GB.out.at_ 7 rfl
        have f7 := GB.out.soft 7
        have q8 := GB.out.at_ 8 rfl
        have f8 := GB.out.soft 8
        go_simp
        refine hK.out _ _ (((((((((hHeld.setCell (p := ⟨v5_1.heap.size, 0, none⟩) (by exact HGE.out) (.int .i64 y0)).setCell (p := ⟨v5_1.heap.size, 1, none⟩) (by exact HGE.out) (.int .i64 y1)).setCell (p := ⟨v5_1.heap.size, 2, none⟩) (by exact HGE.out) (.int .i64 y2)).setCell (p := ⟨v5_1.heap.size, 3, none⟩) (by exact HGE.out) (.int .i64 y3)).setCell (p := ⟨v5_1.heap.size, 4, none⟩) (by exact HGE.out) (.int .i64 y4)).setCell (p := ⟨v5_1.heap.size, 5, none⟩) (by exact HGE.out) (.int .i64 y5)).setCell (p := ⟨v5_1.heap.size, 6, none⟩) (by exact HGE.out) (.int .i64 y6)).setCell (p := ⟨v5_1.heap.size, 7, none⟩) (by exact HGE.out) (.int .i64 y7)).setCell (p := ⟨v5_1.heap.size, 8, none⟩) (by exact HGE.out) (.slice b5_6 M.length c5_6)) (fun hHeld => ?_)
        clear hK K q0 q1 q2 q3 q4 q5 q6 q7 q8 f0 f1 f2 f3 f4 f5 f6 f7 f8
        refine rd0 ?_
        go_wp2_with fail
        go_meet
        exact ⟨_, _, _, _, rfl, Lib.hid (box_sets GB.out), Lib.hid (OWB.out.off I_ok (off_sets _ _ _ _ _ _ _ _ _ _ _) (fun k hk h2 => (HTB.out k hk).2 h2)), HTB, HGE, Lib.hid hHeld⟩
    · skip
      go_simp
      have hb : Below (w2.drew).heap.size (w2.drew) ((w2.drew).alloc (.cells #[.int .i64 0, .int .i64 0, .int .i64 0, .int .i64 0, .int .i64 0, .int .i64 0, .int .i64 0, .int .i64 0, .slice none 0 0] 31)) := (Below.refl _ _).alloc (Nat.le_refl _) _
      have GB := Lib.hid (show Blk ((w2.drew).alloc (.cells #[.int .i64 0, .int .i64 0, .int .i64 0, .int .i64 0, .int .i64 0, .int .i64 0, .int .i64 0, .int .i64 0, .slice none 0 0] 31)) w2.heap.size 31 #[.int .i64 0, .int .i64 0, .int .i64 0, .int .i64 0, .int .i64 0, .int .i64 0, .int .i64 0, .int .i64 0, .slice none 0 0] from Blk.new (w2.drew) 31 #[.int .i64 0, .int .i64 0, .int .i64 0, .int .i64 0, .int .i64 0, .int .i64 0, .int .i64 0, .int .i64 0, .slice none 0 0])
      have HGE := Lib.hid (show w2.heap.size ≤ w2.heap.size from hHeld.size)
      refine hK.out _ _ (hHeld.trans (hb.mono hHeld.size)) (fun hHeld => ?_)
      clear hK K hb
      have GBl := Lib.hid (show w2.heap.size < ((w2.drew).alloc (.cells #[.int .i64 0, .int .i64 0, .int .i64 0, .int .i64 0, .int .i64 0, .int .i64 0, .int .i64 0, .int .i64 0, .slice none 0 0] 31)).heap.size from GB.out.lt)
      refine rd1 1 (fun K hK => ?_)
      go_simp
      go_at_call 14
      refine (to_JobS HSZ.out (rd_mv R_Job_ok H_2.out hHeld)).mono ?_
      intro e v5_7 h
      obtain ⟨a5_7, c5_7, rfl, ho, hb⟩ := newS_elim h
      have GB := Lib.hid (GB.out.call hb)
      have NL := Lib.hid (rd_sl R_Job_ok ho)
      clear h ho
      refine hK.out _ _ (hHeld.trans (hb.mono hHeld.size)) (fun hHeld => ?_)
      clear hK K hb
      have GBl := Lib.hid (show w2.heap.size < v5_7.heap.size from GB.out.lt)
      refine rd1 3 (fun K hK => ?_)
      go_simp
      go_at_call 18
      refine (to_Label (by simp only [R_Label, Pr, I, atom]; omega)).mono ?_
      intro e v5_8 h
      obtain ⟨us, rfl, hu, hb⟩ := newV_elim h
      obtain rfl := ow0_Label hu
      have NL := Lib.hid (rd_mv R_Job_ok NL.out hb)
      have GB := Lib.hid (GB.out.call hb)
      clear h hu
      refine hK.out _ _ (hHeld.trans (hb.mono hHeld.size)) (fun hHeld => ?_)
      clear hK K hb
      have GBl := Lib.hid (show w2.heap.size < v5_8.heap.size from GB.out.lt)
      refine rd1 5 (fun K hK => ?_)
      go_simp
      go_at_call 17
      refine (jobof_spec HSZ.out NL.out).mono ?_
      intro e v5_9 h
      rw [HJ.out] at h
      obtain ⟨us, rfl, hu, hb⟩ := newV_elim h
      obtain ⟨b5_9, c5_9, T5_9, rfl, hT, ho⟩ := ow_Job hu
      have GB := Lib.hid (GB.out.call hb)
      have OWB := Lib.hid (show OwX I v5_9 T5_9 M b5_9 c5_9 from ⟨ho, fun k hk => (hT k hk).2⟩)
      have HT := Lib.hid (show (∀ k, T5_9 k → w2.heap.size ≤ k) ∧ (∀ k, T5_9 k → k < v5_9.heap.size) from ⟨fun k hk => Nat.le_trans hHeld.size (hT k hk).1, fun k hk => (hT k hk).2⟩)
      have HTB := Lib.hid (show ∀ k, T5_9 k → w2.heap.size ≤ k ∧ k ≠ w2.heap.size from fun k hk => ⟨HT.out.1 k hk, by have h1 := (hT k hk).1; have h2 := GBl.out; omega⟩)
      clear h hu hT ho NL
      refine hK.out _ _ (hHeld.trans (hb.mono hHeld.size)) (fun hHeld => ?_)
      clear hK K hb
      have GBl := Lib.hid (show w2.heap.size < v5_9.heap.size from GB.out.lt)
      refine rd1 7 (fun K hK => ?_)
      have q0 := GB.out.at_ 0 rfl
      have f0 := GB.out.soft 0
      have q1 := GB.out.at_ 1 rfl
      have f1 := GB.out.soft 1
      have q2 := GB.out.at_ 2 rfl
      have f2 := GB.out.soft 2
      have q3 := GB.out.at_ 3 rfl
      have f3 := GB.out.soft 3
      have q4 := GB.out.at_ 4 rfl
      have f4 := GB.out.soft 4
      have q5 := GB.out.at_ 5 rfl
      have f5 := GB.out.soft 5
      have q6 := GB.out.at_ 6 rfl
      have f6 := GB.out.soft 6
      have q7 := GB.out.at_ 7 rfl
      have f7 := GB.out.soft 7
      have q8 := GB.out.at_ 8 rfl
      have f8 := GB.out.soft 8
      go_simp
      refine hK.out _ _ (((((((((hHeld.setCell (p := ⟨w2.heap.size, 0, none⟩) (by exact HGE.out) (.int .i64 y0)).setCell (p := ⟨w2.heap.size, 1, none⟩) (by exact HGE.out) (.int .i64 y1)).setCell (p := ⟨w2.heap.size, 2, none⟩) (by exact HGE.out) (.int .i64 y2)).setCell (p := ⟨w2.heap.size, 3, none⟩) (by exact HGE.out) (.int .i64 y3)).setCell (p := ⟨w2.heap.size, 4, none⟩) (by exact HGE.out) (.int .i64 y4)).setCell (p := ⟨w2.heap.size, 5, none⟩) (by exact HGE.out) (.int .i64 y5)).setCell (p := ⟨w2.heap.size, 6, none⟩) (by exact HGE.out) (.int .i64 y6)).setCell (p := ⟨w2.heap.size, 7, none⟩) (by exact HGE.out) (.int .i64 y7)).setCell (p := ⟨w2.heap.size, 8, none⟩) (by exact HGE.out) (.slice b5_9 M.length c5_9)) (fun hHeld => ?_)
      clear hK K q0 q1 q2 q3 q4 q5 q6 q7 q8 f0 f1 f2 f3 f4 f5 f6 f7 f8
      refine rd0 ?_
      go_wp2_with fail
      go_meet
      exact ⟨_, _, _, _, rfl, Lib.hid (box_sets GB.out), Lib.hid (OWB.out.off I_ok (off_sets _ _ _ _ _ _ _ _ _ _ _) (fun k hk h2 => (HTB.out k hk).2 h2)), HTB, HGE, Lib.hid hHeld⟩
  case rest =>
    obtain ⟨g8, b8, c8, T8, rfl, HX8, HO8, HT8, HG8, hcb⟩ := hcut
    rename World => w3
    have hb := hcb.out
    have P_3 := Lib.hid (P_2.out.call hb)
    have H_3 := Lib.hid (rd_mv R_Job_ok H_2.out hb)
    have HB3 := Lib.hid (HB2.out.trans ((hb).mono HB2.out.size))
    clear P_2 H_2 HB2
    clear hb hcb
    have BX8_3 := HX8
    have OX8_3 := HO8
    have TX8 := HT8
    have GX8 := HG8
    clear HX8 HO8 HT8 HG8
    have hz3 : W.heap.size ≤ w3.heap.size := HB3.out.size
    have hP3 : W.heap.size < w3.heap.size := P_3.out.lt
    have hg8 : g8 < w3.heap.size := BX8_3.out.lt
    have HT8 := Lib.hid (OX8_3.out.2)
    go_wp2_with fail
    refine (to_JobS HSZ.out (H_3.out)).mono ?_
    intro e w4 h
    obtain ⟨a4, c4, rfl, ho, hb⟩ := newS_elim h
    have P_4 := Lib.hid (P_3.out.call hb)
    have BX8_4 := Lib.hid (BX8_3.out.call hb)
    have H_4 := Lib.hid (rd_mv R_Job_ok H_3.out hb)
    have OX8_4 := Lib.hid (OX8_3.out.mv I_ok hb)
    have HB4 := Lib.hid (HB3.out.trans ((hb).mono HB3.out.size))
    clear P_3 BX8_3 H_3 OX8_3 HB3
    have X0_4 := Lib.hid (show OwX R_Job w4 (Rg w3.heap.size w4.heap.size) L a4 c4 from ⟨ho, fun k hk => hk.2⟩)
    clear ho
    have hz34 := hb.size
    clear h hb
    have qP_0 := P_4.out.at_ 0 rfl
    have qP_1 := P_4.out.at_ 1 rfl
    go_wp2_with fail
    refine (to_Label (by simp only [R_Label, Pr, I, atom]; omega)).mono ?_
    intro e w5 h
    obtain ⟨us, rfl, hu, hb⟩ := newV_elim h
    obtain rfl := ow0_Label hu
    clear qP_0 qP_1
    have P_5 := Lib.hid (P_4.out.call hb)
    have BX8_5 := Lib.hid (BX8_4.out.call hb)
    have H_5 := Lib.hid (rd_mv R_Job_ok H_4.out hb)
    have OX8_5 := Lib.hid (OX8_4.out.mv I_ok hb)
    have X0_5 := Lib.hid (X0_4.out.mv R_Job_ok hb)
    have HB5 := Lib.hid (HB4.out.trans ((hb).mono HB4.out.size))
    clear P_4 BX8_4 H_4 OX8_4 X0_4 HB4
    clear hu
    have hz45 := hb.size
    clear h hb
    go_wp2_with fail
    refine (jobof_impl HWl.out HWs.out HSZ.out (X0_5.out.rd R_Job_ok)).mono ?_
    intro e w6 h
    rw [HJ.out] at h
    obtain ⟨us, rfl, hu, hb⟩ := newV_elim h
    obtain ⟨b7, c7, T7, rfl, hT7, ho7⟩ := ow_Job hu
    have P_6 := Lib.hid (P_5.out.call hb)
    have BX8_6 := Lib.hid (BX8_5.out.call hb)
    have H_6 := Lib.hid (rd_mv R_Job_ok H_5.out hb)
    have OX8_6 := Lib.hid (OX8_5.out.mv I_ok hb)
    have X0_6 := Lib.hid (X0_5.out.mv R_Job_ok hb)
    have HB6 := Lib.hid (HB5.out.trans ((hb).mono HB5.out.size))
    clear P_5 BX8_5 H_5 OX8_5 X0_5 HB5
    have G0_6 := Lib.hid (show OwX I w6 T7 M b7 c7 from ⟨ho7, fun k hk => (hT7 k hk).2⟩)
    have HT7 := Lib.hid (fun k hk => (hT7 k hk).1)
    have HT7u := Lib.hid (fun k hk => (hT7 k hk).2)
    clear hu hT7 ho7
    have hz56 := hb.size
    clear h hb
    have hbA : Below (w6).heap.size (w6) (w6.alloc (.cells #[.int .i64 y0, .int .i64 y1, .int .i64 y2, .int .i64 y3, .int .i64 y4, .int .i64 y5, .int .i64 y6, .int .i64 y7, .slice b7 M.length c7] 31)) := (Below.refl _ _).alloc (Nat.le_refl _) _
    have P_7 := Lib.hid (P_6.out.call hbA)
    have BX8_7 := Lib.hid (BX8_6.out.call hbA)
    have H_7 := Lib.hid (rd_mv R_Job_ok H_6.out hbA)
    have OX8_7 := Lib.hid (OX8_6.out.mv I_ok hbA)
    have X0_7 := Lib.hid (X0_6.out.mv R_Job_ok hbA)
    have G0_7 := Lib.hid (G0_6.out.mv I_ok hbA)
    have HB7 := Lib.hid (HB6.out.trans ((hbA).mono HB6.out.size))
    clear P_6 BX8_6 H_6 OX8_6 X0_6 G0_6 HB6
    have B10_7 := Blk.new (w6) 31 #[.int .i64 y0, .int .i64 y1, .int .i64 y2, .int .i64 y3, .int .i64 y4, .int .i64 y5, .int .i64 y6, .int .i64 y7, .slice b7 M.length c7]
    have B10h_7 := Lib.hid B10_7
    clear B10_7 hbA
    have qB10_0 := B10h_7.out.at_ 0 rfl
    have qB10_1 := B10h_7.out.at_ 1 rfl
    have qB10_2 := B10h_7.out.at_ 2 rfl
    have qB10_3 := B10h_7.out.at_ 3 rfl
    have qB10_4 := B10h_7.out.at_ 4 rfl
    have qB10_5 := B10h_7.out.at_ 5 rfl
    have qB10_6 := B10h_7.out.at_ 6 rfl
    have qB10_7 := B10h_7.out.at_ 7 rfl
    have qB10_8 := B10h_7.out.at_ 8 rfl
    have qBX8_0 := BX8_7.out.at_ 0 rfl
    have qBX8_1 := BX8_7.out.at_ 1 rfl
    have qBX8_2 := BX8_7.out.at_ 2 rfl
    have qBX8_3 := BX8_7.out.at_ 3 rfl
    have qBX8_4 := BX8_7.out.at_ 4 rfl
    have qBX8_5 := BX8_7.out.at_ 5 rfl
    have qBX8_6 := BX8_7.out.at_ 6 rfl
    have qBX8_7 := BX8_7.out.at_ 7 rfl
    have qBX8_8 := BX8_7.out.at_ 8 rfl
    go_wp2_with fail
    refine (eq_Job (G0_7.out.rd I_ok) (OX8_7.out.rd I_ok)).mono ?_
    intro e w8 h
    obtain ⟨rfl, hb⟩ := isB_elim h
    clear qB10_0 qB10_1 qB10_2 qB10_3 qB10_4 qB10_5 qB10_6 qB10_7 qB10_8 qBX8_0 qBX8_1 qBX8_2 qBX8_3 qBX8_4 qBX8_5 qBX8_6 qBX8_7 qBX8_8
    have P_8 := Lib.hid (P_7.out.call hb)
    have BX8_8 := Lib.hid (BX8_7.out.call hb)
    have B10_8 := Lib.hid (B10h_7.out.call hb)
    have H_8 := Lib.hid (rd_mv R_Job_ok H_7.out hb)
    have OX8_8 := Lib.hid (OX8_7.out.mv I_ok hb)
    have X0_8 := Lib.hid (X0_7.out.mv R_Job_ok hb)
    have G0_8 := Lib.hid (G0_7.out.mv I_ok hb)
    have HB8 := Lib.hid (HB7.out.trans ((hb).mono HB7.out.size))
    clear P_7 BX8_7 B10h_7 H_7 OX8_7 X0_7 G0_7 HB7
    clear h hb
    go_wp2_with fail
    refine (to_JobS HSZ.out (H_8.out)).mono ?_
    intro e w9 h
    obtain ⟨a9, c9, rfl, ho, hb⟩ := newS_elim h
    have P_9 := Lib.hid (P_8.out.call hb)
    have BX8_9 := Lib.hid (BX8_8.out.call hb)
    have B10_9 := Lib.hid (B10_8.out.call hb)
    have H_9 := Lib.hid (rd_mv R_Job_ok H_8.out hb)
    have OX8_9 := Lib.hid (OX8_8.out.mv I_ok hb)
    have X0_9 := Lib.hid (X0_8.out.mv R_Job_ok hb)
    have G0_9 := Lib.hid (G0_8.out.mv I_ok hb)
    have HB9 := Lib.hid (HB8.out.trans ((hb).mono HB8.out.size))
    clear P_8 BX8_8 B10_8 H_8 OX8_8 X0_8 G0_8 HB8
    have M2_9 := Lib.hid (rd_sl R_Job_ok ho)
    clear ho
    clear h hb
    go_wp2_with fail
    refine (eq_JobS (X0_9.out.rd R_Job_ok) (M2_9.out)).mono ?_
    intro e w10 h
    obtain ⟨rfl, hb⟩ := isB_elim h
    have P_10 := Lib.hid (P_9.out.call hb)
    have BX8_10 := Lib.hid (BX8_9.out.call hb)
    have B10_10 := Lib.hid (B10_9.out.call hb)
    have H_10 := Lib.hid (rd_mv R_Job_ok H_9.out hb)
    have OX8_10 := Lib.hid (OX8_9.out.mv I_ok hb)
    have X0_10 := Lib.hid (X0_9.out.mv R_Job_ok hb)
    have G0_10 := Lib.hid (G0_9.out.mv I_ok hb)
    have M2_10 := Lib.hid (rd_mv R_Job_ok M2_9.out hb)
    have HB10 := Lib.hid (HB9.out.trans ((hb).mono HB9.out.size))
    clear P_9 BX8_9 B10_9 H_9 OX8_9 X0_9 G0_9 M2_9 HB9
    clear h hb
    clear M2_10
    go_wp2_with fail
    refine (mark_JobS (by omega) (by have := cm_small HSZ.out; omega) X0_10.out.2 X0_10.out.1).mono ?_
    intro e wm h
    obtain ⟨L', km, rfl, hlen, hmm, hkm, hos, hoff⟩ := markR_elim h
    have HB11 := Lib.hid (HB10.out.trans (hoff.below HB10.out.size (fun k hk => by have h1 : w3.heap.size ≤ k := hk.1; omega)))
    have P_11 := Lib.hid (P_10.out.off hoff P_10.out.lt (fun hk => by have h1 : w3.heap.size ≤ W.heap.size := hk.1; omega))
    have BX8_11 := Lib.hid (BX8_10.out.off hoff BX8_10.out.lt (fun hk => by have h1 : w3.heap.size ≤ g8 := hk.1; omega))
    have B10_11 := Lib.hid (B10_10.out.off hoff B10_10.out.lt (fun hk => by have h1 : w6.heap.size < w4.heap.size := hk.2; omega))
    have H_11 := Lib.hid ((H0.out.below R_Job_ok HB11.out).more R_Job_ok HB11.out.size)
    have OX8_11 := Lib.hid (OX8_10.out.off I_ok hoff (fun k hk hk2 => by have h1 : w3.heap.size ≤ k := hk2.1; have h2 := HT8.out k hk; omega))
    have G0_11 := Lib.hid (G0_10.out.off I_ok hoff (fun k hk hk2 => by have h1 : k < w4.heap.size := hk2.2; have h2 := HT7.out k hk; omega))
    have hkn : decide (km < 0) = false := decide_eq_false (by omega)
    clear h hlen hmm hkm hos hoff
    have qB10_0 := B10_11.out.at_ 0 rfl
    have qB10_1 := B10_11.out.at_ 1 rfl
    have qB10_2 := B10_11.out.at_ 2 rfl
    have qB10_3 := B10_11.out.at_ 3 rfl
    have qB10_4 := B10_11.out.at_ 4 rfl
    have qB10_5 := B10_11.out.at_ 5 rfl
    have qB10_6 := B10_11.out.at_ 6 rfl
    have qB10_7 := B10_11.out.at_ 7 rfl
    have qB10_8 := B10_11.out.at_ 8 rfl
    have qBX8_0 := BX8_11.out.at_ 0 rfl
    have qBX8_1 := BX8_11.out.at_ 1 rfl
    have qBX8_2 := BX8_11.out.at_ 2 rfl
    have qBX8_3 := BX8_11.out.at_ 3 rfl
    have qBX8_4 := BX8_11.out.at_ 4 rfl
    have qBX8_5 := BX8_11.out.at_ 5 rfl
    have qBX8_6 := BX8_11.out.at_ 6 rfl
    have qBX8_7 := BX8_11.out.at_ 7 rfl
    have qBX8_8 := BX8_11.out.at_ 8 rfl
    go_wp2_with fail
    refine (eq_Job (G0_11.out.rd I_ok) (OX8_11.out.rd I_ok)).mono ?_
    intro e w12 h
    obtain ⟨rfl, hb⟩ := isB_elim h
    clear qB10_0 qB10_1 qB10_2 qB10_3 qB10_4 qB10_5 qB10_6 qB10_7 qB10_8 qBX8_0 qBX8_1 qBX8_2 qBX8_3 qBX8_4 qBX8_5 qBX8_6 qBX8_7 qBX8_8
    have P_12 := Lib.hid (P_11.out.call hb)
    have BX8_12 := Lib.hid (BX8_11.out.call hb)
    have B10_12 := Lib.hid (B10_11.out.call hb)
    have H_12 := Lib.hid (rd_mv R_Job_ok H_11.out hb)
    have OX8_12 := Lib.hid (OX8_11.out.mv I_ok hb)
    have G0_12 := Lib.hid (G0_11.out.mv I_ok hb)
    have HB12 := Lib.hid (HB11.out.trans ((hb).mono HB11.out.size))
    clear P_11 BX8_11 B10_11 H_11 OX8_11 G0_11 HB11
    clear h hb
    clear hkn
    have qB10_0 := B10_12.out.at_ 0 rfl
    have qB10_1 := B10_12.out.at_ 1 rfl
    have qB10_2 := B10_12.out.at_ 2 rfl
    have qB10_3 := B10_12.out.at_ 3 rfl
    have qB10_4 := B10_12.out.at_ 4 rfl
    have qB10_5 := B10_12.out.at_ 5 rfl
    have qB10_6 := B10_12.out.at_ 6 rfl
    have qB10_7 := B10_12.out.at_ 7 rfl
    have qB10_8 := B10_12.out.at_ 8 rfl
    go_wp2_with fail
    refine (mark_Job (by omega) (by rw [cm_ints]; have := HML.out; omega) G0_12.out.2 G0_12.out.1).mono ?_
    intro e wn h
    obtain ⟨z0, M', rfl, ⟨hlen, hmm, hz, hos⟩, hoff⟩ := h
    clear qB10_0 qB10_1 qB10_2 qB10_3 qB10_4 qB10_5 qB10_6 qB10_7 qB10_8
    have HB13 := Lib.hid (HB12.out.trans (hoff.below HB12.out.size (fun k hk => by have h1 := HT7.out k hk; omega)))
    have P_13 := Lib.hid (P_12.out.off hoff P_12.out.lt (fun hk => by have h1 := HT7.out _ hk; omega))
    have BX8_13 := Lib.hid (BX8_12.out.off hoff BX8_12.out.lt (fun hk => by have h1 := HT7.out _ hk; omega))
    have B10_13 := Lib.hid (B10_12.out.off hoff B10_12.out.lt (fun hk => by have h1 := HT7u.out _ hk; omega))
    have H_13 := Lib.hid ((H0.out.below R_Job_ok HB13.out).more R_Job_ok HB13.out.size)
    have OX8_13 := Lib.hid (OX8_12.out.off I_ok hoff (fun k hk hk2 => by have h1 := HT7.out k hk2; have h2 := HT8.out k hk; omega))
    have G0_13 := Lib.hid (show OwX I wn T7 M' b7 c7 from ⟨hos, fun k hk => Nat.lt_of_lt_of_le (G0_12.out.2 k hk) hoff.size⟩)
    have HLEN := Lib.hid hlen
    have HMM := Lib.hid hmm
    have hzz : z0 = 1 + (M.length : Int) := by rw [hz, cm_ints]
    have hzn : decide (z0 < 0) = false := decide_eq_false (by omega)
    have hze : (z0 != z0) = false := by simp
    have hzb : z0 ≤ 4611686018427387904 := by have := HML.out; omega
    clear hlen hmm hz hos hoff
    have qB10_0 := B10_13.out.at_ 0 rfl
    have qB10_1 := B10_13.out.at_ 1 rfl
    have qB10_2 := B10_13.out.at_ 2 rfl
    have qB10_3 := B10_13.out.at_ 3 rfl
    have qB10_4 := B10_13.out.at_ 4 rfl
    have qB10_5 := B10_13.out.at_ 5 rfl
    have qB10_6 := B10_13.out.at_ 6 rfl
    have qB10_7 := B10_13.out.at_ 7 rfl
    have qB10_8 := B10_13.out.at_ 8 rfl
    go_wp2_with fail
    refine (held_at HLEN.out (by omega) hzb HMM.out (G0_13.out.rd I_ok)).mono ?_
    intro e w14 h
    obtain ⟨rfl, hb⟩ := heldC_elim h
    clear qB10_0 qB10_1 qB10_2 qB10_3 qB10_4 qB10_5 qB10_6 qB10_7 qB10_8
    have P_14 := Lib.hid (P_13.out.call hb)
    have BX8_14 := Lib.hid (BX8_13.out.call hb)
    have B10_14 := Lib.hid (B10_13.out.call hb)
    have H_14 := Lib.hid (rd_mv R_Job_ok H_13.out hb)
    have OX8_14 := Lib.hid (OX8_13.out.mv I_ok hb)
    have G0_14 := Lib.hid (G0_13.out.mv I_ok hb)
    have HB14 := Lib.hid (HB13.out.trans ((hb).mono HB13.out.size))
    clear P_13 BX8_13 B10_13 H_13 OX8_13 G0_13 HB13
    clear h hb
    go_upto_region 24 with fail
    go_cut [14] (fun s8 wx => ∃ (g14 : Nat) (b14 : Option Addr) (c14 : Nat) (T14 : Nat → Prop), s8 = .pointer (some ⟨g14, 0, none⟩) ∧ Hid (Blk wx g14 31 #[.int .i64 y0, .int .i64 y1, .int .i64 y2, .int .i64 y3, .int .i64 y4, .int .i64 y5, .int .i64 y6, .int .i64 y7, .slice b14 M.length c14]) ∧ Hid (OwX I wx T14 M b14 c14) ∧ Hid (∀ k, T14 k → w14.heap.size ≤ k ∧ k ≠ g14) ∧ Hid (w14.heap.size ≤ g14) ∧ Hid (Below w14.heap.size w14 wx))
    case first =>
      refine wp_region_held_drew (S := (fun V => Below w14.heap.size w14 V)) (by kernel_rfl) ((Below.refl _ _).drew) (fun hHeld => ?_)
      refine tk 0 hHeld ?_
      refine tk 2 hHeld ?_ (hy := fun w hSw => by (try dsimp only at hSw); have k0 := (hSw.cell (p := ⟨W.heap.size, 0, none⟩) P_14.out.lt).trans (P_14.out.at_ 0 rfl); have k1 := (hSw.cell (p := ⟨W.heap.size, 1, none⟩) P_14.out.lt).trans (P_14.out.at_ 1 rfl); clear hSw; go_simp; try with_reducible rfl)
      refine tk 4 hHeld ?_
      refine rd2 1 6 (fun K hK => ?_) (fun K hK => ?_)
      · skip
        go_simp
        go_at_call 14
        refine (to_JobS HSZ.out (rd_mv R_Job_ok H_14.out hHeld)).mono ?_
        intro e v24_1 h
        obtain ⟨a24_1, c24_1, rfl, ho, hb⟩ := newS_elim h
        have NL := Lib.hid (rd_sl R_Job_ok ho)
        clear h ho
        refine hK.out _ _ (hHeld.trans (hb.mono hHeld.size)) (fun hHeld => ?_)
        clear hK K hb
        refine rd2 3 6 (fun K hK => ?_) (fun K hK => ?_)
        · skip
          go_simp
          go_at_call 18
          refine (to_Label (by simp only [R_Label, Pr, I, atom]; omega)).mono ?_
          intro e v24_2 h
          obtain ⟨us, rfl, hu, hb⟩ := newV_elim h
          obtain rfl := ow0_Label hu
          have NL := Lib.hid (rd_mv R_Job_ok NL.out hb)
          clear h hu
          refine hK.out _ _ (hHeld.trans (hb.mono hHeld.size)) (fun hHeld => ?_)
          clear hK K hb
          refine rd2 5 6 (fun K hK => ?_) (fun K hK => ?_)
          · skip
            go_simp
            go_at_call 19
            refine (jobof_impl HWl.out HWs.out HSZ.out NL.out).mono ?_
            intro e v24_3 h
            rw [HJ.out] at h
            obtain ⟨us, rfl, hu, hb⟩ := newV_elim h
            obtain ⟨b24_3, c24_3, T24_3, rfl, hT, ho⟩ := ow_Job hu
            have OWB := Lib.hid (show OwX I v24_3 T24_3 M b24_3 c24_3 from ⟨ho, fun k hk => (hT k hk).2⟩)
            have HT := Lib.hid (show (∀ k, T24_3 k → w14.heap.size ≤ k) ∧ (∀ k, T24_3 k → k < v24_3.heap.size) from ⟨fun k hk => Nat.le_trans hHeld.size (hT k hk).1, fun k hk => (hT k hk).2⟩)
            clear h hu hT ho NL
            refine hK.out _ _ (hHeld.trans (hb.mono hHeld.size)) (fun hHeld => ?_)
            clear hK K hb
            refine rd1 6 (fun K hK => ?_)
            go_simp
            have hb : Below (v24_3).heap.size (v24_3) (v24_3.alloc (.cells #[.int .i64 0, .int .i64 0, .int .i64 0, .int .i64 0, .int .i64 0, .int .i64 0, .int .i64 0, .int .i64 0, .slice none 0 0] 31)) := (Below.refl _ _).alloc (Nat.le_refl _) _
            have OWB0 := OWB
            have OWB := Lib.hid (OWB.out.mv I_ok hb)
            have GB := Lib.hid (show Blk (v24_3.alloc (.cells #[.int .i64 0, .int .i64 0, .int .i64 0, .int .i64 0, .int .i64 0, .int .i64 0, .int .i64 0, .int .i64 0, .slice none 0 0] 31)) v24_3.heap.size 31 #[.int .i64 0, .int .i64 0, .int .i64 0, .int .i64 0, .int .i64 0, .int .i64 0, .int .i64 0, .int .i64 0, .slice none 0 0] from Blk.new (v24_3) 31 #[.int .i64 0, .int .i64 0, .int .i64 0, .int .i64 0, .int .i64 0, .int .i64 0, .int .i64 0, .int .i64 0, .slice none 0 0])
            have HGE := Lib.hid (show w14.heap.size ≤ v24_3.heap.size from hHeld.size)
            have HTB := Lib.hid (show ∀ k, T24_3 k → w14.heap.size ≤ k ∧ k ≠ v24_3.heap.size from fun k hk => ⟨HT.out.1 k hk, by have := HT.out.2 k hk; omega⟩)
            have hPre := Lib.hid hHeld
            have OWP := OWB0
            refine hK.out _ _ (hHeld.trans (hb.mono hHeld.size)) (fun hHeld => ?_)
            clear hK K hb
            refine rd1 7 (fun K hK => ?_)
            go_simp
            refine hK.out _ _ (hPre.out.alloc HGE.out (.cells #[.int .i64 y0, .int .i64 y1, .int .i64 y2, .int .i64 y3, .int .i64 y4, .int .i64 y5, .int .i64 y6, .int .i64 y7, .slice b24_3 M.length c24_3] 31)) (fun hHeld => ?_)
            clear hK K
            refine rd0 ?_
            go_wp2_with fail
            go_meet
            exact ⟨_, _, _, _, rfl, Lib.hid (Blk.new v24_3 31 #[.int .i64 y0, .int .i64 y1, .int .i64 y2, .int .i64 y3, .int .i64 y4, .int .i64 y5, .int .i64 y6, .int .i64 y7, .slice b24_3 M.length c24_3]), Lib.hid (OWP.out.mv I_ok ((Below.refl _ _).alloc (Nat.le_refl _) (.cells #[.int .i64 y0, .int .i64 y1, .int .i64 y2, .int .i64 y3, .int .i64 y4, .int .i64 y5, .int .i64 y6, .int .i64 y7, .slice b24_3 M.length c24_3] 31))), HTB, HGE, Lib.hid hHeld⟩
          · skip
            go_simp
            have hb : Below (v24_2).heap.size (v24_2) (v24_2.alloc (.cells #[.int .i64 0, .int .i64 0, .int .i64 0, .int .i64 0, .int .i64 0, .int .i64 0, .int .i64 0, .int .i64 0, .slice none 0 0] 31)) := (Below.refl _ _).alloc (Nat.le_refl _) _
            have NL := Lib.hid (rd_mv R_Job_ok NL.out hb)
            have GB := Lib.hid (show Blk (v24_2.alloc (.cells #[.int .i64 0, .int .i64 0, .int .i64 0, .int .i64 0, .int .i64 0, .int .i64 0, .int .i64 0, .int .i64 0, .slice none 0 0] 31)) v24_2.heap.size 31 #[.int .i64 0, .int .i64 0, .int .i64 0, .int .i64 0, .int .i64 0, .int .i64 0, .int .i64 0, .int .i64 0, .slice none 0 0] from Blk.new (v24_2) 31 #[.int .i64 0, .int .i64 0, .int .i64 0, .int .i64 0, .int .i64 0, .int .i64 0, .int .i64 0, .int .i64 0, .slice none 0 0])
            have HGE := Lib.hid (show w14.heap.size ≤ v24_2.heap.size from hHeld.size)
            refine hK.out _ _ (hHeld.trans (hb.mono hHeld.size)) (fun hHeld => ?_)
            clear hK K hb
            have GBl := Lib.hid (show v24_2.heap.size < (v24_2.alloc (.cells #[.int .i64 0, .int .i64 0, .int .i64 0, .int .i64 0, .int .i64 0, .int .i64 0, .int .i64 0, .int .i64 0, .slice none 0 0] 31)).heap.size from GB.out.lt)
            refine rd1 5 (fun K hK => ?_)
            go_simp
            go_at_call 19
            refine (jobof_impl HWl.out HWs.out HSZ.out NL.out).mono ?_
            intro e v24_4 h
            rw [HJ.out] at h
            obtain ⟨us, rfl, hu, hb⟩ := newV_elim h
            obtain ⟨b24_4, c24_4, T24_4, rfl, hT, ho⟩ := ow_Job hu
            have GB := Lib.hid (GB.out.call hb)
            have OWB := Lib.hid (show OwX I v24_4 T24_4 M b24_4 c24_4 from ⟨ho, fun k hk => (hT k hk).2⟩)
            have HT := Lib.hid (show (∀ k, T24_4 k → w14.heap.size ≤ k) ∧ (∀ k, T24_4 k → k < v24_4.heap.size) from ⟨fun k hk => Nat.le_trans hHeld.size (hT k hk).1, fun k hk => (hT k hk).2⟩)
            have HTB := Lib.hid (show ∀ k, T24_4 k → w14.heap.size ≤ k ∧ k ≠ v24_2.heap.size from fun k hk => ⟨HT.out.1 k hk, by have h1 := (hT k hk).1; have h2 := GBl.out; omega⟩)
            clear h hu hT ho NL
            refine hK.out _ _ (hHeld.trans (hb.mono hHeld.size)) (fun hHeld => ?_)
            clear hK K hb
            have GBl := Lib.hid (show v24_2.heap.size < v24_4.heap.size from GB.out.lt)
            refine rd1 7 (fun K hK => ?_)
            have q0 := GB.out.at_ 0 rfl
            have f0 := GB.out.soft 0
            have q1 := GB.out.at_ 1 rfl
            have f1 := GB.out.soft 1
            have q2 := GB.out.at_ 2 rfl
            have f2 := GB.out.soft 2
            have q3 := GB.out.at_ 3 rfl
            have f3 := GB.out.soft 3
            have q4 := GB.out.at_ 4 rfl
            have f4 := GB.out.soft 4
            have q5 := GB.out.at_ 5 rfl
            have f5 := GB.out.soft 5
            have q6 := GB.out.at_ 6 rfl
            have f6 := GB.out.soft 6
            have q7 := GB.out.at_ 7 rfl
            have f7 := GB.out.soft 7
            have q8 := GB.out.at_ 8 rfl
            have f8 := GB.out.soft 8
            go_simp
            refine hK.out _ _ (((((((((hHeld.setCell (p := ⟨v24_2.heap.size, 0, none⟩) (by exact HGE.out) (.int .i64 y0)).setCell (p := ⟨v24_2.heap.size, 1, none⟩) (by exact HGE.out) (.int .i64 y1)).setCell (p := ⟨v24_2.heap.size, 2, none⟩) (by exact HGE.out) (.int .i64 y2)).setCell (p := ⟨v24_2.heap.size, 3, none⟩) (by exact HGE.out) (.int .i64 y3)).setCell (p := ⟨v24_2.heap.size, 4, none⟩) (by exact HGE.out) (.int .i64 y4)).setCell (p := ⟨v24_2.heap.size, 5, none⟩) (by exact HGE.out) (.int .i64 y5)).setCell (p := ⟨v24_2.heap.size, 6, none⟩) (by exact HGE.out) (.int .i64 y6)).setCell (p := ⟨v24_2.heap.size, 7, none⟩) (by exact HGE.out) (.int .i64 y7)).setCell (p := ⟨v24_2.heap.size, 8, none⟩) (by exact HGE.out) (.slice b24_4 M.length c24_4)) (fun hHeld => ?_)
            clear hK K q0 q1 q2 q3 q4 q5 q6 q7 q8 f0 f1 f2 f3 f4 f5 f6 f7 f8
            refine rd0 ?_
            go_wp2_with fail
            go_meet
            exact ⟨_, _, _, _, rfl, Lib.hid (box_sets GB.out), Lib.hid (OWB.out.off I_ok (off_sets _ _ _ _ _ _ _ _ _ _ _) (fun k hk h2 => (HTB.out k hk).2 h2)), HTB, HGE, Lib.hid hHeld⟩
        · skip
          go_simp
          have hb : Below (v24_1).heap.size (v24_1) (v24_1.alloc (.cells #[.int .i64 0, .int .i64 0, .int .i64 0, .int .i64 0, .int .i64 0, .int .i64 0, .int .i64 0, .int .i64 0, .slice none 0 0] 31)) := (Below.refl _ _).alloc (Nat.le_refl _) _
          have NL := Lib.hid (rd_mv R_Job_ok NL.out hb)
          have GB := Lib.hid (show Blk (v24_1.alloc (.cells #[.int .i64 0, .int .i64 0, .int .i64 0, .int .i64 0, .int .i64 0, .int .i64 0, .int .i64 0, .int .i64 0, .slice none 0 0] 31)) v24_1.heap.size 31 #[.int .i64 0, .int .i64 0, .int .i64 0, .int .i64 0, .int .i64 0, .int .i64 0, .int .i64 0, .int .i64 0, .slice none 0 0] from Blk.new (v24_1) 31 #[.int .i64 0, .int .i64 0, .int .i64 0, .int .i64 0, .int .i64 0, .int .i64 0, .int .i64 0, .int .i64 0, .slice none 0 0])
          have HGE := Lib.hid (show w14.heap.size ≤ v24_1.heap.size from hHeld.size)
          refine hK.out _ _ (hHeld.trans (hb.mono hHeld.size)) (fun hHeld => ?_)
          clear hK K hb
          have GBl := Lib.hid (show v24_1.heap.size < (v24_1.alloc (.cells #[.int .i64 0, .int .i64 0, .int .i64 0, .int .i64 0, .int .i64 0, .int .i64 0, .int .i64 0, .int .i64 0, .slice none 0 0] 31)).heap.size from GB.out.lt)
          refine rd1 3 (fun K hK => ?_)
          go_simp
          go_at_call 18
          refine (to_Label (by simp only [R_Label, Pr, I, atom]; omega)).mono ?_
          intro e v24_5 h
          obtain ⟨us, rfl, hu, hb⟩ := newV_elim h
          obtain rfl := ow0_Label hu
          have NL := Lib.hid (rd_mv R_Job_ok NL.out hb)
          have GB := Lib.hid (GB.out.call hb)
          clear h hu
          refine hK.out _ _ (hHeld.trans (hb.mono hHeld.size)) (fun hHeld => ?_)
          clear hK K hb
          have GBl := Lib.hid (show v24_1.heap.size < v24_5.heap.size from GB.out.lt)
          refine rd1 5 (fun K hK => ?_)
          go_simp
          go_at_call 19
          refine (jobof_impl HWl.out HWs.out HSZ.out NL.out).mono ?_
          intro e v24_6 h
          rw [HJ.out] at h
          obtain ⟨us, rfl, hu, hb⟩ := newV_elim h
          obtain ⟨b24_6, c24_6, T24_6, rfl, hT, ho⟩ := ow_Job hu
          have GB := Lib.hid (GB.out.call hb)
          have OWB := Lib.hid (show OwX I v24_6 T24_6 M b24_6 c24_6 from ⟨ho, fun k hk => (hT k hk).2⟩)
          have HT := Lib.hid (show (∀ k, T24_6 k → w14.heap.size ≤ k) ∧ (∀ k, T24_6 k → k < v24_6.heap.size) from ⟨fun k hk => Nat.le_trans hHeld.size (hT k hk).1, fun k hk => (hT k hk).2⟩)
          have HTB := Lib.hid (show ∀ k, T24_6 k → w14.heap.size ≤ k ∧ k ≠ v24_1.heap.size from fun k hk => ⟨HT.out.1 k hk, by have h1 := (hT k hk).1; have h2 := GBl.out; omega⟩)
          clear h hu hT ho NL
          refine hK.out _ _ (hHeld.trans (hb.mono hHeld.size)) (fun hHeld => ?_)
          clear hK K hb
          have GBl := Lib.hid (show v24_1.heap.size < v24_6.heap.size from GB.out.lt)
          refine rd1 7 (fun K hK => ?_)
          have q0 := GB.out.at_ 0 rfl
          have f0 := GB.out.soft 0
          have q1 := GB.out.at_ 1 rfl
          have f1 := GB.out.soft 1
          have q2 := GB.out.at_ 2 rfl
          have f2 := GB.out.soft 2
          have q3 := GB.out.at_ 3 rfl
          have f3 := GB.out.soft 3
          have q4 := GB.out.at_ 4 rfl
          have f4 := GB.out.soft 4
          have q5 := GB.out.at_ 5 rfl
          have f5 := GB.out.soft 5
          have q6 := GB.out.at_ 6 rfl
          have f6 := GB.out.soft 6
          have q7 := GB.out.at_ 7 rfl
          have f7 := GB.out.soft 7
          have q8 := GB.out.at_ 8 rfl
          have f8 := GB.out.soft 8
          go_simp
          refine hK.out _ _ (((((((((hHeld.setCell (p := ⟨v24_1.heap.size, 0, none⟩) (by exact HGE.out) (.int .i64 y0)).setCell (p := ⟨v24_1.heap.size, 1, none⟩) (by exact HGE.out) (.int .i64 y1)).setCell (p := ⟨v24_1.heap.size, 2, none⟩) (by exact HGE.out) (.int .i64 y2)).setCell (p := ⟨v24_1.heap.size, 3, none⟩) (by exact HGE.out) (.int .i64 y3)).setCell (p := ⟨v24_1.heap.size, 4, none⟩) (by exact HGE.out) (.int .i64 y4)).setCell (p := ⟨v24_1.heap.size, 5, none⟩) (by exact HGE.out) (.int .i64 y5)).setCell (p := ⟨v24_1.heap.size, 6, none⟩) (by exact HGE.out) (.int .i64 y6)).setCell (p := ⟨v24_1.heap.size, 7, none⟩) (by exact HGE.out) (.int .i64 y7)).setCell (p := ⟨v24_1.heap.size, 8, none⟩) (by exact HGE.out) (.slice b24_6 M.length c24_6)) (fun hHeld => ?_)
          clear hK K q0 q1 q2 q3 q4 q5 q6 q7 q8 f0 f1 f2 f3 f4 f5 f6 f7 f8
          refine rd0 ?_
          go_wp2_with fail
          go_meet
          exact ⟨_, _, _, _, rfl, Lib.hid (box_sets GB.out), Lib.hid (OWB.out.off I_ok (off_sets _ _ _ _ _ _ _ _ _ _ _) (fun k hk h2 => (HTB.out k hk).2 h2)), HTB, HGE, Lib.hid hHeld⟩
      · skip
        go_simp
        have hb : Below (w14.drew).heap.size (w14.drew) ((w14.drew).alloc (.cells #[.int .i64 0, .int .i64 0, .int .i64 0, .int .i64 0, .int .i64 0, .int .i64 0, .int .i64 0, .int .i64 0, .slice none 0 0] 31)) := (Below.refl _ _).alloc (Nat.le_refl _) _
        have GB := Lib.hid (show Blk ((w14.drew).alloc (.cells #[.int .i64 0, .int .i64 0, .int .i64 0, .int .i64 0, .int .i64 0, .int .i64 0, .int .i64 0, .int .i64 0, .slice none 0 0] 31)) w14.heap.size 31 #[.int .i64 0, .int .i64 0, .int .i64 0, .int .i64 0, .int .i64 0, .int .i64 0, .int .i64 0, .int .i64 0, .slice none 0 0] from Blk.new (w14.drew) 31 #[.int .i64 0, .int .i64 0, .int .i64 0, .int .i64 0, .int .i64 0, .int .i64 0, .int .i64 0, .int .i64 0, .slice none 0 0])
        have HGE := Lib.hid (show w14.heap.size ≤ w14.heap.size from hHeld.size)
        refine hK.out _ _ (hHeld.trans (hb.mono hHeld.size)) (fun hHeld => ?_)
        clear hK K hb
        have GBl := Lib.hid (show w14.heap.size < ((w14.drew).alloc (.cells #[.int .i64 0, .int .i64 0, .int .i64 0, .int .i64 0, .int .i64 0, .int .i64 0, .int .i64 0, .int .i64 0, .slice none 0 0] 31)).heap.size from GB.out.lt)
        refine rd1 1 (fun K hK => ?_)
        go_simp
        go_at_call 14
        refine (to_JobS HSZ.out (rd_mv R_Job_ok H_14.out hHeld)).mono ?_
        intro e v24_7 h
        obtain ⟨a24_7, c24_7, rfl, ho, hb⟩ := newS_elim h
        have GB := Lib.hid (GB.out.call hb)
        have NL := Lib.hid (rd_sl R_Job_ok ho)
        clear h ho
        refine hK.out _ _ (hHeld.trans (hb.mono hHeld.size)) (fun hHeld => ?_)
        clear hK K hb
        have GBl := Lib.hid (show w14.heap.size < v24_7.heap.size from GB.out.lt)
        refine rd1 3 (fun K hK => ?_)
        go_simp
        go_at_call 18
        refine (to_Label (by simp only [R_Label, Pr, I, atom]; omega)).mono ?_
        intro e v24_8 h
        obtain ⟨us, rfl, hu, hb⟩ := newV_elim h
        obtain rfl := ow0_Label hu
        have NL := Lib.hid (rd_mv R_Job_ok NL.out hb)
        have GB := Lib.hid (GB.out.call hb)
        clear h hu
        refine hK.out _ _ (hHeld.trans (hb.mono hHeld.size)) (fun hHeld => ?_)
        clear hK K hb
        have GBl := Lib.hid (show w14.heap.size < v24_8.heap.size from GB.out.lt)
        refine rd1 5 (fun K hK => ?_)
        go_simp
        go_at_call 19
        refine (jobof_impl HWl.out HWs.out HSZ.out NL.out).mono ?_
        intro e v24_9 h
        rw [HJ.out] at h
        obtain ⟨us, rfl, hu, hb⟩ := newV_elim h
        obtain ⟨b24_9, c24_9, T24_9, rfl, hT, ho⟩ := ow_Job hu
        have GB := Lib.hid (GB.out.call hb)
        have OWB := Lib.hid (show OwX I v24_9 T24_9 M b24_9 c24_9 from ⟨ho, fun k hk => (hT k hk).2⟩)
        have HT := Lib.hid (show (∀ k, T24_9 k → w14.heap.size ≤ k) ∧ (∀ k, T24_9 k → k < v24_9.heap.size) from ⟨fun k hk => Nat.le_trans hHeld.size (hT k hk).1, fun k hk => (hT k hk).2⟩)
        have HTB := Lib.hid (show ∀ k, T24_9 k → w14.heap.size ≤ k ∧ k ≠ w14.heap.size from fun k hk => ⟨HT.out.1 k hk, by have h1 := (hT k hk).1; have h2 := GBl.out; omega⟩)
        clear h hu hT ho NL
        refine hK.out _ _ (hHeld.trans (hb.mono hHeld.size)) (fun hHeld => ?_)
        clear hK K hb
        have GBl := Lib.hid (show w14.heap.size < v24_9.heap.size from GB.out.lt)
        refine rd1 7 (fun K hK => ?_)
        have q0 := GB.out.at_ 0 rfl
        have f0 := GB.out.soft 0
        have q1 := GB.out.at_ 1 rfl
        have f1 := GB.out.soft 1
        have q2 := GB.out.at_ 2 rfl
        have f2 := GB.out.soft 2
        have q3 := GB.out.at_ 3 rfl
        have f3 := GB.out.soft 3
        have q4 := GB.out.at_ 4 rfl
        have f4 := GB.out.soft 4
        have q5 := GB.out.at_ 5 rfl
        have f5 := GB.out.soft 5
        have q6 := GB.out.at_ 6 rfl
        have f6 := GB.out.soft 6
        have q7 := GB.out.at_ 7 rfl
        have f7 := GB.out.soft 7
        have q8 := GB.out.at_ 8 rfl
        have f8 := GB.out.soft 8
        go_simp
        refine hK.out _ _ (((((((((hHeld.setCell (p := ⟨w14.heap.size, 0, none⟩) (by exact HGE.out) (.int .i64 y0)).setCell (p := ⟨w14.heap.size, 1, none⟩) (by exact HGE.out) (.int .i64 y1)).setCell (p := ⟨w14.heap.size, 2, none⟩) (by exact HGE.out) (.int .i64 y2)).setCell (p := ⟨w14.heap.size, 3, none⟩) (by exact HGE.out) (.int .i64 y3)).setCell (p := ⟨w14.heap.size, 4, none⟩) (by exact HGE.out) (.int .i64 y4)).setCell (p := ⟨w14.heap.size, 5, none⟩) (by exact HGE.out) (.int .i64 y5)).setCell (p := ⟨w14.heap.size, 6, none⟩) (by exact HGE.out) (.int .i64 y6)).setCell (p := ⟨w14.heap.size, 7, none⟩) (by exact HGE.out) (.int .i64 y7)).setCell (p := ⟨w14.heap.size, 8, none⟩) (by exact HGE.out) (.slice b24_9 M.length c24_9)) (fun hHeld => ?_)
        clear hK K q0 q1 q2 q3 q4 q5 q6 q7 q8 f0 f1 f2 f3 f4 f5 f6 f7 f8
        refine rd0 ?_
        go_wp2_with fail
        go_meet
        exact ⟨_, _, _, _, rfl, Lib.hid (box_sets GB.out), Lib.hid (OWB.out.off I_ok (off_sets _ _ _ _ _ _ _ _ _ _ _) (fun k hk h2 => (HTB.out k hk).2 h2)), HTB, HGE, Lib.hid hHeld⟩
    case rest =>
      obtain ⟨g14, b14, c14, T14, rfl, HX8, HO8, HT8, HG8, hcb⟩ := hcut
      rename World => w15
      have hb := hcb.out
      have P_15 := Lib.hid (P_14.out.call hb)
      have BX8_15 := Lib.hid (BX8_14.out.call hb)
      have B10_15 := Lib.hid (B10_14.out.call hb)
      have H_15 := Lib.hid (rd_mv R_Job_ok H_14.out hb)
      have OX8_15 := Lib.hid (OX8_14.out.mv I_ok hb)
      have G0_15 := Lib.hid (G0_14.out.mv I_ok hb)
      have HB15 := Lib.hid (HB14.out.trans ((hb).mono HB14.out.size))
      clear P_14 BX8_14 B10_14 H_14 OX8_14 G0_14 HB14
      clear hb hcb
      have BX14_15 := HX8
      have OX14_15 := HO8
      have TX14 := HT8
      have GX14 := HG8
      clear HX8 HO8 HT8 HG8
      have qBX14_0 := BX14_15.out.at_ 0 rfl
      have qBX14_1 := BX14_15.out.at_ 1 rfl
      have qBX14_2 := BX14_15.out.at_ 2 rfl
      have qBX14_3 := BX14_15.out.at_ 3 rfl
      have qBX14_4 := BX14_15.out.at_ 4 rfl
      have qBX14_5 := BX14_15.out.at_ 5 rfl
      have qBX14_6 := BX14_15.out.at_ 6 rfl
      have qBX14_7 := BX14_15.out.at_ 7 rfl
      have qBX14_8 := BX14_15.out.at_ 8 rfl
      have qBX8_0 := BX8_15.out.at_ 0 rfl
      have qBX8_1 := BX8_15.out.at_ 1 rfl
      have qBX8_2 := BX8_15.out.at_ 2 rfl
      have qBX8_3 := BX8_15.out.at_ 3 rfl
      have qBX8_4 := BX8_15.out.at_ 4 rfl
      have qBX8_5 := BX8_15.out.at_ 5 rfl
      have qBX8_6 := BX8_15.out.at_ 6 rfl
      have qBX8_7 := BX8_15.out.at_ 7 rfl
      have qBX8_8 := BX8_15.out.at_ 8 rfl
      go_wp2_with fail
      refine (eq_Job (OX14_15.out.rd I_ok) (OX8_15.out.rd I_ok)).mono ?_
      intro e w16 h
      obtain ⟨rfl, hb⟩ := isB_elim h
      clear qBX14_0 qBX14_1 qBX14_2 qBX14_3 qBX14_4 qBX14_5 qBX14_6 qBX14_7 qBX14_8 qBX8_0 qBX8_1 qBX8_2 qBX8_3 qBX8_4 qBX8_5 qBX8_6 qBX8_7 qBX8_8
      have P_16 := Lib.hid (P_15.out.call hb)
      have BX8_16 := Lib.hid (BX8_15.out.call hb)
      have B10_16 := Lib.hid (B10_15.out.call hb)
      have BX14_16 := Lib.hid (BX14_15.out.call hb)
      have H_16 := Lib.hid (rd_mv R_Job_ok H_15.out hb)
      have OX8_16 := Lib.hid (OX8_15.out.mv I_ok hb)
      have G0_16 := Lib.hid (G0_15.out.mv I_ok hb)
      have OX14_16 := Lib.hid (OX14_15.out.mv I_ok hb)
      have HB16 := Lib.hid (HB15.out.trans ((hb).mono HB15.out.size))
      clear P_15 BX8_15 B10_15 BX14_15 H_15 OX8_15 G0_15 OX14_15 HB15
      clear h hb
      have qB10_0 := B10_16.out.at_ 0 rfl
      have qB10_1 := B10_16.out.at_ 1 rfl
      have qB10_2 := B10_16.out.at_ 2 rfl
      have qB10_3 := B10_16.out.at_ 3 rfl
      have qB10_4 := B10_16.out.at_ 4 rfl
      have qB10_5 := B10_16.out.at_ 5 rfl
      have qB10_6 := B10_16.out.at_ 6 rfl
      have qB10_7 := B10_16.out.at_ 7 rfl
      have qB10_8 := B10_16.out.at_ 8 rfl
      go_wp2_with fail
      refine (held_at HLEN.out (by omega) hzb HMM.out (G0_16.out.rd I_ok)).mono ?_
      intro e w17 h
      obtain ⟨rfl, hb⟩ := heldC_elim h
      clear qB10_0 qB10_1 qB10_2 qB10_3 qB10_4 qB10_5 qB10_6 qB10_7 qB10_8
      have P_17 := Lib.hid (P_16.out.call hb)
      have BX8_17 := Lib.hid (BX8_16.out.call hb)
      have B10_17 := Lib.hid (B10_16.out.call hb)
      have BX14_17 := Lib.hid (BX14_16.out.call hb)
      have H_17 := Lib.hid (rd_mv R_Job_ok H_16.out hb)
      have OX8_17 := Lib.hid (OX8_16.out.mv I_ok hb)
      have G0_17 := Lib.hid (G0_16.out.mv I_ok hb)
      have OX14_17 := Lib.hid (OX14_16.out.mv I_ok hb)
      have HB17 := Lib.hid (HB16.out.trans ((hb).mono HB16.out.size))
      clear P_16 BX8_16 B10_16 BX14_16 H_16 OX8_16 G0_16 OX14_16 HB16
      clear h hb
      go_wp2
      go_ret
      exact ⟨rfl, HB17.out⟩
end Go.Proofs.Ytfmgjkmlnaeagaa.RepC
