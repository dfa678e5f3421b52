/- The law on LetDown, out of the contracts. -/
import Derived.Test.YtknifggpodhhdaaDoorDkZ
namespace Go.Proofs.YtknifggpodhhdaaDoor.RepC
open Go.RowKit RowC ValC SpanC KeptC
set_option linter.unusedVariables false
set_option linter.unusedSimpArgs false

theorem sets_DeskStep {w : World} {g : Nat} {v0 v1 v2 v3 v4 v5 : Value} {t : TypeId} (h : Blk w g t #[.slice none 0 0, .slice none 0 0, .slice none 0 0, .int .i64 0, .int .i64 0, .int .i64 0]) : Blk ((((((w.setCell ⟨g, 0, none⟩ v0).setCell ⟨g, 1, none⟩ v1).setCell ⟨g, 2, none⟩ v2).setCell ⟨g, 3, none⟩ v3).setCell ⟨g, 4, none⟩ v4).setCell ⟨g, 5, none⟩ v5) g t #[v0, v1, v2, v3, v4, v5] := Blk.as ((((((h.set 0 v0).set 1 v1).set 2 v2).set 3 v3).set 4 v4).set 5 v5) rfl
theorem soff_DeskStep (w : World) (g : Nat) (v0 v1 v2 v3 v4 v5 : Value) : Off (fun x => x = g) w ((((((w.setCell ⟨g, 0, none⟩ v0).setCell ⟨g, 1, none⟩ v1).setCell ⟨g, 2, none⟩ v2).setCell ⟨g, 3, none⟩ v3).setCell ⟨g, 4, none⟩ v4).setCell ⟨g, 5, none⟩ v5) := (((((((Off.refl (fun x => x = g) w).setCell (p := ⟨g, 0, none⟩) rfl v0).setCell (p := ⟨g, 1, none⟩) rfl v1).setCell (p := ⟨g, 2, none⟩) rfl v2).setCell (p := ⟨g, 3, none⟩) rfl v3).setCell (p := ⟨g, 4, none⟩) rfl v4).setCell (p := ⟨g, 5, none⟩) rfl v5)
set_option maxRecDepth 100000 in
set_option maxHeartbeats 4000000 in
theorem law_letdown {DL0 : List (D_Letter)} {DL1 : List (D_Letter)} {DL2 : List (D_Letter)} {Dx3 : Int} {Dx4 : Int} {Da0 : Option Addr} {Dc0 : Nat} {Da1 : Option Addr} {Dc1 : Nat} {Da2 : Option Addr} {Dc2 : Nat} {Fx0 : Int} {Fx1 : Int}  {Tx0 : Int} {Tx1 : Int}  {Z : Int} {W : World} (hD : R_Desk.rd W W.heap.size (DL0, DL1, DL2, Dx3, Dx4) [.slice Da0 DL0.length Dc0, .slice Da1 DL1.length Dc1, .slice Da2 DL2.length Dc2, .int .i64 Dx3, .int .i64 Dx4]) {e1 e2 e3 e4 : Addr} (hSen : SenC.Sent W e1 e2 e3 e4) :
    Calls Tryd.prog 5 #[.agg #[.slice Da0 DL0.length Dc0, .slice Da1 DL1.length Dc1, .slice Da2 DL2.length Dc2, .int .i64 Dx3, .int .i64 Dx4], .agg #[.int .i64 Fx0, .int .i64 Fx1], .agg #[.int .i64 Tx0, .int .i64 Tx1], .int .i64 Z] W fun e w' => e = .returned (.bool true) ∧ Below W.heap.size W w' := by
  have HSEN := Lib.hid hSen
  clear hSen
  have HD := Lib.hid hD
  have HD0 := Lib.hid hD
  clear hD
  have hbA : Below (W).heap.size (W) (W.alloc (.cells #[.slice Da0 DL0.length Dc0, .slice Da1 DL1.length Dc1, .slice Da2 DL2.length Dc2, .int .i64 Dx3, .int .i64 Dx4] 60)) := (Below.refl _ _).alloc (Nat.le_refl _) _
  have HD_1 := Lib.hid (gmv R_Desk_ok HD.out hbA)
  have HB1 := Lib.hid (show Below W.heap.size W (W.alloc (.cells #[.slice Da0 DL0.length Dc0, .slice Da1 DL1.length Dc1, .slice Da2 DL2.length Dc2, .int .i64 Dx3, .int .i64 Dx4] 60)) from hbA)
  have HZ1 := Lib.hid ((hbA).size)
  clear HD
  have PD_1 := Blk.new (W) 60 #[.slice Da0 DL0.length Dc0, .slice Da1 DL1.length Dc1, .slice Da2 DL2.length Dc2, .int .i64 Dx3, .int .i64 Dx4]
  have PDh_1 := Lib.hid PD_1
  clear PD_1 hbA
  have hbA : Below (W.alloc (.cells #[.slice Da0 DL0.length Dc0, .slice Da1 DL1.length Dc1, .slice Da2 DL2.length Dc2, .int .i64 Dx3, .int .i64 Dx4] 60)).heap.size (W.alloc (.cells #[.slice Da0 DL0.length Dc0, .slice Da1 DL1.length Dc1, .slice Da2 DL2.length Dc2, .int .i64 Dx3, .int .i64 Dx4] 60)) ((W.alloc (.cells #[.slice Da0 DL0.length Dc0, .slice Da1 DL1.length Dc1, .slice Da2 DL2.length Dc2, .int .i64 Dx3, .int .i64 Dx4] 60)).alloc (.cells #[.int .i64 Fx0, .int .i64 Fx1] 61)) := (Below.refl _ _).alloc (Nat.le_refl _) _
  have PD_2 := Lib.hid (PDh_1.out.call hbA)
  have HD_2 := Lib.hid (gmv R_Desk_ok HD_1.out hbA)
  have HB2 := Lib.hid (HB1.out.trans ((hbA).mono HB1.out.size))
  have HZ2 := Lib.hid ((hbA).size)
  clear PDh_1 HD_1 HB1
  have PF_2 := Blk.new (W.alloc (.cells #[.slice Da0 DL0.length Dc0, .slice Da1 DL1.length Dc1, .slice Da2 DL2.length Dc2, .int .i64 Dx3, .int .i64 Dx4] 60)) 61 #[.int .i64 Fx0, .int .i64 Fx1]
  have PFh_2 := Lib.hid PF_2
  clear PF_2 hbA
  have hq := PFh_2.out
  simp only [World.size_alloc] at hq
  clear PFh_2
  have PFh_2 := Lib.hid hq
  clear hq
  have hbA : Below ((W.alloc (.cells #[.slice Da0 DL0.length Dc0, .slice Da1 DL1.length Dc1, .slice Da2 DL2.length Dc2, .int .i64 Dx3, .int .i64 Dx4] 60)).alloc (.cells #[.int .i64 Fx0, .int .i64 Fx1] 61)).heap.size ((W.alloc (.cells #[.slice Da0 DL0.length Dc0, .slice Da1 DL1.length Dc1, .slice Da2 DL2.length Dc2, .int .i64 Dx3, .int .i64 Dx4] 60)).alloc (.cells #[.int .i64 Fx0, .int .i64 Fx1] 61)) (((W.alloc (.cells #[.slice Da0 DL0.length Dc0, .slice Da1 DL1.length Dc1, .slice Da2 DL2.length Dc2, .int .i64 Dx3, .int .i64 Dx4] 60)).alloc (.cells #[.int .i64 Fx0, .int .i64 Fx1] 61)).alloc (.cells #[.int .i64 Tx0, .int .i64 Tx1] 61)) := (Below.refl _ _).alloc (Nat.le_refl _) _
  have PD_3 := Lib.hid (PD_2.out.call hbA)
  have PF_3 := Lib.hid (PFh_2.out.call hbA)
  have HD_3 := Lib.hid (gmv R_Desk_ok HD_2.out hbA)
  have HB3 := Lib.hid (HB2.out.trans ((hbA).mono HB2.out.size))
  have HZ3 := Lib.hid ((hbA).size)
  clear PD_2 PFh_2 HD_2 HB2
  have PT_3 := Blk.new ((W.alloc (.cells #[.slice Da0 DL0.length Dc0, .slice Da1 DL1.length Dc1, .slice Da2 DL2.length Dc2, .int .i64 Dx3, .int .i64 Dx4] 60)).alloc (.cells #[.int .i64 Fx0, .int .i64 Fx1] 61)) 61 #[.int .i64 Tx0, .int .i64 Tx1]
  have PTh_3 := Lib.hid PT_3
  clear PT_3 hbA
  have hq := PTh_3.out
  simp only [World.size_alloc] at hq
  clear PTh_3
  have PTh_3 := Lib.hid hq
  clear hq
  by_cases hsz : R_Desk.sz (DL0, DL1, DL2, Dx3, Dx4) ≤ 1048576
  rotate_left
  · skip
    go_enter Tryd.func5, Tryd.ntmps5
    have qPD_0 := PD_3.out.at_ 0 rfl
    have qPD_1 := PD_3.out.at_ 1 rfl
    have qPD_2 := PD_3.out.at_ 2 rfl
    have qPD_3 := PD_3.out.at_ 3 rfl
    have qPD_4 := PD_3.out.at_ 4 rfl
    have qPF_0 := PF_3.out.at_ 0 rfl
    have qPF_1 := PF_3.out.at_ 1 rfl
    have qPT_0 := PTh_3.out.at_ 0 rfl
    have qPT_1 := PTh_3.out.at_ 1 rfl
    go_wp2_with fail
    refine (gsz_Desk (by omega) (by omega) HD_3.out).mono ?_
    intro e w4 h
    obtain ⟨rfl, hb⟩ := szC_elim h
    rw [szR_no (by omega)]
    clear qPD_0 qPD_1 qPD_2 qPD_3 qPD_4 qPF_0 qPF_1 qPT_0 qPT_1
    have PD_4 := Lib.hid (PD_3.out.call hb)
    have PF_4 := Lib.hid (PF_3.out.call hb)
    have PT_4 := Lib.hid (PTh_3.out.call hb)
    have HD_4 := Lib.hid (gmv R_Desk_ok HD_3.out hb)
    have HB4 := Lib.hid (HB3.out.trans ((hb).mono HB3.out.size))
    have HZ4 := Lib.hid ((hb).size)
    clear PD_3 PF_3 PTh_3 HD_3 HB3
    clear h hb
    go_wp2
    go_ret
    exact ⟨rfl, HB4.out⟩
  have HSZD := Lib.hid hsz
  have HSAD := Lib.hid (cvs_Desk hsz)
  obtain ⟨m, hm⟩ : ∃ m : Nat, R_Desk.sz (DL0, DL1, DL2, Dx3, Dx4) = m := ⟨_, rfl⟩
  have HM := Lib.hid hm
  rw [hm] at hsz
  clear hm
  have hlt1 : decide ((1048576 : Int) - (m : Int) < 0) = false := decide_eq_false (by omega)
  obtain ⟨⟨⟨dL0, dL1, dL2, dx3, dx4⟩, dx5⟩, hD⟩ : ∃ d, letG (DL0, DL1, DL2, Dx3, Dx4) (Fx0, Fx1) (Tx0, Tx1) Z = d := ⟨_, rfl⟩
  have HDD := Lib.hid hD
  have HSM := Lib.hid (let_small HSZD.out hD)
  clear hD
  go_enter Tryd.func5, Tryd.ntmps5
  have qPD_0 := PD_3.out.at_ 0 rfl
  have qPD_1 := PD_3.out.at_ 1 rfl
  have qPD_2 := PD_3.out.at_ 2 rfl
  have qPD_3 := PD_3.out.at_ 3 rfl
  have qPD_4 := PD_3.out.at_ 4 rfl
  have qPF_0 := PF_3.out.at_ 0 rfl
  have qPF_1 := PF_3.out.at_ 1 rfl
  have qPT_0 := PTh_3.out.at_ 0 rfl
  have qPT_1 := PTh_3.out.at_ 1 rfl
  go_wp2_with fail
  refine (gsz_Desk (by omega) (by omega) HD_3.out).mono ?_
  intro e w4 h
  obtain ⟨rfl, hb⟩ := szC_elim h
  rw [HM.out, szR_yes (by omega)]
  clear qPD_0 qPD_1 qPD_2 qPD_3 qPD_4 qPF_0 qPF_1 qPT_0 qPT_1
  have PD_4 := Lib.hid (PD_3.out.call hb)
  have PF_4 := Lib.hid (PF_3.out.call hb)
  have PT_4 := Lib.hid (PTh_3.out.call hb)
  have HD_4 := Lib.hid (gmv R_Desk_ok HD_3.out hb)
  have HB4 := Lib.hid (HB3.out.trans ((hb).mono HB3.out.size))
  have HZ4 := Lib.hid ((hb).size)
  clear PD_3 PF_3 PTh_3 HD_3 HB3
  clear hsz
  clear h hb
  have HPL := Lib.hid (PT_4.out.lt)
  go_upto_region 5 with fail
  go_cut [10] (fun s8 wx => ∃ (gw : Nat) (ra0w : Option Addr) (rc0w : Nat) (ra1w : Option Addr) (rc1w : Nat) (ra2w : Option Addr) (rc2w : Nat) (Sw : Nat → Prop), s8 = .pointer (some ⟨gw, 0, none⟩) ∧ Hid (Blk wx gw 46 #[.slice ra0w dL0.length rc0w, .slice ra1w dL1.length rc1w, .slice ra2w dL2.length rc2w, .int .i64 dx3, .int .i64 dx4, .int .i64 dx5]) ∧ Hid (OwG R_DeskStep wx Sw ((dL0, dL1, dL2, dx3, dx4), dx5) [.slice ra0w dL0.length rc0w, .slice ra1w dL1.length rc1w, .slice ra2w dL2.length rc2w, .int .i64 dx3, .int .i64 dx4, .int .i64 dx5]) ∧ Hid (∀ k, Sw k → w4.heap.size ≤ k ∧ k ≠ gw) ∧ Hid (w4.heap.size ≤ gw) ∧ Hid (Below w4.heap.size w4 wx))
  case first =>
    refine wp_region_held_drew (S := (fun V => Below w4.heap.size w4 V)) (by kernel_rfl) ((Below.refl _ _).drew) (fun hHeld => ?_)
    (refine wpAnyH_take (i := 0) (v := ?hv1) rfl (by kernel_rfl) (by kernel_rfl) (by kernel_rfl) (fun _ _ _ h => h) (Or.inl ⟨by kernel_rfl, ?hy1⟩) hHeld ?hr1; case hy1 => (intro w hSw; (try dsimp only at hSw); have k0 := (hSw.cell (p := ⟨W.heap.size, 0, none⟩) PD_4.out.lt).trans (PD_4.out.at_ 0 rfl); have k1 := (hSw.cell (p := ⟨W.heap.size, 1, none⟩) PD_4.out.lt).trans (PD_4.out.at_ 1 rfl); have k2 := (hSw.cell (p := ⟨W.heap.size, 2, none⟩) PD_4.out.lt).trans (PD_4.out.at_ 2 rfl); have k3 := (hSw.cell (p := ⟨W.heap.size, 3, none⟩) PD_4.out.lt).trans (PD_4.out.at_ 3 rfl); have k4 := (hSw.cell (p := ⟨W.heap.size, 4, none⟩) PD_4.out.lt).trans (PD_4.out.at_ 4 rfl); clear hSw; go_simp; try with_reducible rfl))
    simp only [Act.put, List.getElem_toArray, List.getElem_cons_succ, List.getElem_cons_zero, List.setIfInBounds_toArray, List.set_cons_zero, List.set_cons_succ]
    (refine wpAnyH_take (i := 2) (v := ?hv2) rfl (by kernel_rfl) (by kernel_rfl) (by kernel_rfl) (fun _ _ _ h => h) (Or.inl ⟨by kernel_rfl, ?hy2⟩) hHeld ?hr2; case hy2 => (intro w hSw; (try dsimp only at hSw); have k0 := (hSw.cell (p := ⟨(W.heap.size + 1), 0, none⟩) PF_4.out.lt).trans (PF_4.out.at_ 0 rfl); have k1 := (hSw.cell (p := ⟨(W.heap.size + 1), 1, none⟩) PF_4.out.lt).trans (PF_4.out.at_ 1 rfl); clear hSw; go_simp; try with_reducible rfl))
    simp only [Act.put, List.getElem_toArray, List.getElem_cons_succ, List.getElem_cons_zero, List.setIfInBounds_toArray, List.set_cons_zero, List.set_cons_succ]
    (refine wpAnyH_take (i := 4) (v := ?hv3) rfl (by kernel_rfl) (by kernel_rfl) (by kernel_rfl) (fun _ _ _ h => h) (Or.inl ⟨by kernel_rfl, ?hy3⟩) hHeld ?hr3; case hy3 => (intro w hSw; (try dsimp only at hSw); have k0 := (hSw.cell (p := ⟨(W.heap.size + 1 + 1), 0, none⟩) PT_4.out.lt).trans (PT_4.out.at_ 0 rfl); have k1 := (hSw.cell (p := ⟨(W.heap.size + 1 + 1), 1, none⟩) PT_4.out.lt).trans (PT_4.out.at_ 1 rfl); clear hSw; go_simp; try with_reducible rfl))
    simp only [Act.put, List.getElem_toArray, List.getElem_cons_succ, List.getElem_cons_zero, List.setIfInBounds_toArray, List.set_cons_zero, List.set_cons_succ]
    (refine wpAnyH_take (i := 6) (v := ?hv4) rfl (by kernel_rfl) (by kernel_rfl) (by kernel_rfl) (fun _ _ _ h => h) (Or.inl ⟨by kernel_rfl, ?hy4⟩) hHeld ?hr4; case hy4 => (intro w hSw; (try dsimp only at hSw); go_simp; try with_reducible rfl))
    simp only [Act.put, List.getElem_toArray, List.getElem_cons_succ, List.getElem_cons_zero, List.setIfInBounds_toArray, List.set_cons_zero, List.set_cons_succ]
    refine wpAnyH_ready (rs := [1, 8]) (by kernel_rfl) (by simp) ?_
    refine AllReadyH.cons rfl (fun K hK => ?_) (AllReadyH.cons rfl (fun K hK => ?_) (AllReadyH.nil))
    · skip
      go_simp
      go_at_call 41
      refine (gto_Desk HSZD.out (gmv R_Desk_ok HD_4.out hHeld)).mono ?_
      intro e v5_1 h
      obtain ⟨us, rfl, hu, hb⟩ := newV_elim h
      obtain ⟨aD0_5_1, cD0_5_1, aD1_5_1, cD1_5_1, aD2_5_1, cD2_5_1, rfl, hu⟩ := owc_Desk hu
      have ND := Lib.hid (owG_new hu)
      clear h hu
      refine hK.out _ _ (hHeld.trans (hb.mono hHeld.size)) (fun hHeld => ?_)
      clear hK K hb
      try simp only [Act.put, List.getElem_toArray, List.getElem_cons_succ, List.getElem_cons_zero, List.setIfInBounds_toArray, List.set_cons_zero, List.set_cons_succ]
      refine wpAnyH_ready (rs := [3, 8]) (by kernel_rfl) (by simp) ?_
      refine AllReadyH.cons rfl (fun K hK => ?_) (AllReadyH.cons rfl (fun K hK => ?_) (AllReadyH.nil))
      · skip
        go_simp
        go_at_call 42
        refine (to_Label (by simp only [R_Label, Pr, I, atom] <;> omega)).mono ?_
        intro e v5_2 h
        obtain ⟨us, rfl, hu, hb⟩ := newV_elim h
        obtain rfl := ow0_Label hu
        have ND := Lib.hid (ND.out.mv R_Desk_ok hb)
        clear h hu
        refine hK.out _ _ (hHeld.trans (hb.mono hHeld.size)) (fun hHeld => ?_)
        clear hK K hb
        try simp only [Act.put, List.getElem_toArray, List.getElem_cons_succ, List.getElem_cons_zero, List.setIfInBounds_toArray, List.set_cons_zero, List.set_cons_succ]
        refine wpAnyH_ready (rs := [5, 8]) (by kernel_rfl) (by simp) ?_
        refine AllReadyH.cons rfl (fun K hK => ?_) (AllReadyH.cons rfl (fun K hK => ?_) (AllReadyH.nil))
        · skip
          go_simp
          go_at_call 42
          refine (to_Label (by simp only [R_Label, Pr, I, atom] <;> omega)).mono ?_
          intro e v5_3 h
          obtain ⟨us, rfl, hu, hb⟩ := newV_elim h
          obtain rfl := ow0_Label hu
          have ND := Lib.hid (ND.out.mv R_Desk_ok hb)
          clear h hu
          refine hK.out _ _ (hHeld.trans (hb.mono hHeld.size)) (fun hHeld => ?_)
          clear hK K hb
          try simp only [Act.put, List.getElem_toArray, List.getElem_cons_succ, List.getElem_cons_zero, List.setIfInBounds_toArray, List.set_cons_zero, List.set_cons_succ]
          refine wpAnyH_ready (rs := [7, 8]) (by kernel_rfl) (by simp) ?_
          refine AllReadyH.cons rfl (fun K hK => ?_) (AllReadyH.cons rfl (fun K hK => ?_) (AllReadyH.nil))
          · skip
            go_simp
            go_at_call 32
            refine (gletdown_spec HSZD.out (ND.out.rd R_Desk_ok)).mono ?_
            intro e v5_4 h
            rw [HDD.out] at h
            obtain ⟨us, rfl, hu, hb⟩ := newV_elim h
            obtain ⟨ra05_4, rc05_4, ra15_4, rc15_4, ra25_4, rc25_4, rfl, hu⟩ := owc_DeskStep hu
            have hHeld0 := Lib.hid hHeld
            have OW := Lib.hid (owG_new hu)
            clear h hu ND
            refine hK.out _ _ (hHeld.trans (hb.mono hHeld.size)) (fun hHeld => ?_)
            clear hK K hb
            try simp only [Act.put, List.getElem_toArray, List.getElem_cons_succ, List.getElem_cons_zero, List.setIfInBounds_toArray, List.set_cons_zero, List.set_cons_succ]
            refine wpAnyH_ready (rs := [8]) (by kernel_rfl) (by simp) ?_
            refine AllReadyH.cons rfl (fun K hK => ?_) (AllReadyH.nil)
            go_simp
            have hb : Below (v5_4).heap.size (v5_4) (v5_4.alloc (.cells #[.slice none 0 0, .slice none 0 0, .slice none 0 0, .int .i64 0, .int .i64 0, .int .i64 0] 46)) := (Below.refl _ _).alloc (Nat.le_refl _) _
            have OW0 := OW
            have OW := Lib.hid (OW.out.mv R_DeskStep_ok hb)
            have GB := Lib.hid (show Blk (v5_4.alloc (.cells #[.slice none 0 0, .slice none 0 0, .slice none 0 0, .int .i64 0, .int .i64 0, .int .i64 0] 46)) v5_4.heap.size 46 #[.slice none 0 0, .slice none 0 0, .slice none 0 0, .int .i64 0, .int .i64 0, .int .i64 0] from Blk.new (v5_4) 46 #[.slice none 0 0, .slice none 0 0, .slice none 0 0, .int .i64 0, .int .i64 0, .int .i64 0])
            have HGE := Lib.hid (show w4.heap.size ≤ v5_4.heap.size from hHeld.size)
            have HTB := Lib.hid (show ∀ k, Rg v5_3.heap.size v5_4.heap.size k → w4.heap.size ≤ k ∧ k ≠ v5_4.heap.size from fun k hk => ⟨Nat.le_trans hHeld0.out.size hk.1, by have := hk.2; omega⟩)
            have hPre := Lib.hid hHeld
            refine hK.out _ _ (hHeld.trans (hb.mono hHeld.size)) (fun hHeld => ?_)
            clear hK K hb
            try simp only [Act.put, List.getElem_toArray, List.getElem_cons_succ, List.getElem_cons_zero, List.setIfInBounds_toArray, List.set_cons_zero, List.set_cons_succ]
            refine wpAnyH_ready (rs := [9]) (by kernel_rfl) (by simp) ?_
            refine AllReadyH.cons rfl (fun K hK => ?_) (AllReadyH.nil)
            go_simp
            refine hK.out _ _ (hPre.out.alloc HGE.out (.cells #[.slice ra05_4 dL0.length rc05_4, .slice ra15_4 dL1.length rc15_4, .slice ra25_4 dL2.length rc25_4, .int .i64 dx3, .int .i64 dx4, .int .i64 dx5] 46)) (fun hHeld => ?_)
            clear hK K
            try simp only [Act.put, List.getElem_toArray, List.getElem_cons_succ, List.getElem_cons_zero, List.setIfInBounds_toArray, List.set_cons_zero, List.set_cons_succ]
            refine wpAnyH_done (by kernel_rfl) ?_ _
            go_wp2_with fail
            go_meet
            exact ⟨_, _, _, _, _, _, _, _, rfl, Lib.hid (Blk.new v5_4 46 #[.slice ra05_4 dL0.length rc05_4, .slice ra15_4 dL1.length rc15_4, .slice ra25_4 dL2.length rc25_4, .int .i64 dx3, .int .i64 dx4, .int .i64 dx5]), Lib.hid (OW0.out.mv R_DeskStep_ok ((Below.refl _ _).alloc (Nat.le_refl _) (.cells #[.slice ra05_4 dL0.length rc05_4, .slice ra15_4 dL1.length rc15_4, .slice ra25_4 dL2.length rc25_4, .int .i64 dx3, .int .i64 dx4, .int .i64 dx5] 46))), HTB, HGE, Lib.hid hHeld⟩
          · skip
            go_simp
            have hb : Below (v5_3).heap.size (v5_3) (v5_3.alloc (.cells #[.slice none 0 0, .slice none 0 0, .slice none 0 0, .int .i64 0, .int .i64 0, .int .i64 0] 46)) := (Below.refl _ _).alloc (Nat.le_refl _) _
            have ND := Lib.hid (ND.out.mv R_Desk_ok hb)
            have GB := Lib.hid (show Blk (v5_3.alloc (.cells #[.slice none 0 0, .slice none 0 0, .slice none 0 0, .int .i64 0, .int .i64 0, .int .i64 0] 46)) v5_3.heap.size 46 #[.slice none 0 0, .slice none 0 0, .slice none 0 0, .int .i64 0, .int .i64 0, .int .i64 0] from Blk.new (v5_3) 46 #[.slice none 0 0, .slice none 0 0, .slice none 0 0, .int .i64 0, .int .i64 0, .int .i64 0])
            have HGE := Lib.hid (show w4.heap.size ≤ v5_3.heap.size from hHeld.size)
            refine hK.out _ _ (hHeld.trans (hb.mono hHeld.size)) (fun hHeld => ?_)
            clear hK K hb
            try simp only [Act.put, List.getElem_toArray, List.getElem_cons_succ, List.getElem_cons_zero, List.setIfInBounds_toArray, List.set_cons_zero, List.set_cons_succ]
            have GBl := Lib.hid (show v5_3.heap.size < (v5_3.alloc (.cells #[.slice none 0 0, .slice none 0 0, .slice none 0 0, .int .i64 0, .int .i64 0, .int .i64 0] 46)).heap.size from GB.out.lt)
            refine wpAnyH_ready (rs := [7]) (by kernel_rfl) (by simp) ?_
            refine AllReadyH.cons rfl (fun K hK => ?_) (AllReadyH.nil)
            go_simp
            go_at_call 32
            refine (gletdown_spec HSZD.out (ND.out.rd R_Desk_ok)).mono ?_
            intro e v5_5 h
            rw [HDD.out] at h
            obtain ⟨us, rfl, hu, hb⟩ := newV_elim h
            obtain ⟨ra05_5, rc05_5, ra15_5, rc15_5, ra25_5, rc25_5, rfl, hu⟩ := owc_DeskStep hu
            have hHeld0 := Lib.hid hHeld
            have GB := Lib.hid (GB.out.call hb)
            have OW := Lib.hid (owG_new hu)
            have HTB := Lib.hid (show ∀ k, Rg (v5_3.alloc (.cells #[.slice none 0 0, .slice none 0 0, .slice none 0 0, .int .i64 0, .int .i64 0, .int .i64 0] 46)).heap.size v5_5.heap.size k → w4.heap.size ≤ k ∧ k ≠ v5_3.heap.size from fun k hk => ⟨Nat.le_trans hHeld.size hk.1, by have h1 := hk.1; have h2 := GBl.out; omega⟩)
            clear h hu ND
            refine hK.out _ _ (hHeld.trans (hb.mono hHeld.size)) (fun hHeld => ?_)
            clear hK K hb
            try simp only [Act.put, List.getElem_toArray, List.getElem_cons_succ, List.getElem_cons_zero, List.setIfInBounds_toArray, List.set_cons_zero, List.set_cons_succ]
            have GBl := Lib.hid (show v5_3.heap.size < v5_5.heap.size from GB.out.lt)
            refine wpAnyH_ready (rs := [9]) (by kernel_rfl) (by simp) ?_
            refine AllReadyH.cons rfl (fun K hK => ?_) (AllReadyH.nil)
            have q0 := GB.out.at_ 0 rfl
            have f0 := GB.out.soft 0
            have q1 := GB.out.at_ 1 rfl
            have f1 := GB.out.soft 1
            have q2 := GB.out.at_ 2 rfl
            have f2 := GB.out.soft 2
            have q3 := GB.out.at_ 3 rfl
            have f3 := GB.out.soft 3
            have q4 := GB.out.at_ 4 rfl
            have f4 := GB.out.soft 4
            have q5 := GB.out.at_ 5 rfl
            have f5 := GB.out.soft 5
            go_simp
            refine hK.out _ _ ((((((hHeld.setCell (p := ⟨v5_3.heap.size, 0, none⟩) (by exact HGE.out) (.slice ra05_5 dL0.length rc05_5)).setCell (p := ⟨v5_3.heap.size, 1, none⟩) (by exact HGE.out) (.slice ra15_5 dL1.length rc15_5)).setCell (p := ⟨v5_3.heap.size, 2, none⟩) (by exact HGE.out) (.slice ra25_5 dL2.length rc25_5)).setCell (p := ⟨v5_3.heap.size, 3, none⟩) (by exact HGE.out) (.int .i64 dx3)).setCell (p := ⟨v5_3.heap.size, 4, none⟩) (by exact HGE.out) (.int .i64 dx4)).setCell (p := ⟨v5_3.heap.size, 5, none⟩) (by exact HGE.out) (.int .i64 dx5)) (fun hHeld => ?_)
            clear hK K q0 f0 q1 f1 q2 f2 q3 f3 q4 f4 q5 f5
            try simp only [Act.put, List.getElem_toArray, List.getElem_cons_succ, List.getElem_cons_zero, List.setIfInBounds_toArray, List.set_cons_zero, List.set_cons_succ]
            refine wpAnyH_done (by kernel_rfl) ?_ _
            go_wp2_with fail
            go_meet
            exact ⟨_, _, _, _, _, _, _, _, rfl, Lib.hid (sets_DeskStep GB.out), Lib.hid (OW.out.off R_DeskStep_ok (soff_DeskStep _ _ _ _ _ _ _ _) (fun k hk h2 => (HTB.out k hk).2 h2)), HTB, HGE, Lib.hid hHeld⟩
        · skip
          go_simp
          have hb : Below (v5_2).heap.size (v5_2) (v5_2.alloc (.cells #[.slice none 0 0, .slice none 0 0, .slice none 0 0, .int .i64 0, .int .i64 0, .int .i64 0] 46)) := (Below.refl _ _).alloc (Nat.le_refl _) _
          have ND := Lib.hid (ND.out.mv R_Desk_ok hb)
          have GB := Lib.hid (show Blk (v5_2.alloc (.cells #[.slice none 0 0, .slice none 0 0, .slice none 0 0, .int .i64 0, .int .i64 0, .int .i64 0] 46)) v5_2.heap.size 46 #[.slice none 0 0, .slice none 0 0, .slice none 0 0, .int .i64 0, .int .i64 0, .int .i64 0] from Blk.new (v5_2) 46 #[.slice none 0 0, .slice none 0 0, .slice none 0 0, .int .i64 0, .int .i64 0, .int .i64 0])
          have HGE := Lib.hid (show w4.heap.size ≤ v5_2.heap.size from hHeld.size)
          refine hK.out _ _ (hHeld.trans (hb.mono hHeld.size)) (fun hHeld => ?_)
          clear hK K hb
          try simp only [Act.put, List.getElem_toArray, List.getElem_cons_succ, List.getElem_cons_zero, List.setIfInBounds_toArray, List.set_cons_zero, List.set_cons_succ]
          have GBl := Lib.hid (show v5_2.heap.size < (v5_2.alloc (.cells #[.slice none 0 0, .slice none 0 0, .slice none 0 0, .int .i64 0, .int .i64 0, .int .i64 0] 46)).heap.size from GB.out.lt)
          refine wpAnyH_ready (rs := [5]) (by kernel_rfl) (by simp) ?_
          refine AllReadyH.cons rfl (fun K hK => ?_) (AllReadyH.nil)
          go_simp
          go_at_call 42
          refine (to_Label (by simp only [R_Label, Pr, I, atom] <;> omega)).mono ?_
          intro e v5_6 h
          obtain ⟨us, rfl, hu, hb⟩ := newV_elim h
          obtain rfl := ow0_Label hu
          have ND := Lib.hid (ND.out.mv R_Desk_ok hb)
          have GB := Lib.hid (GB.out.call hb)
          clear h hu
          refine hK.out _ _ (hHeld.trans (hb.mono hHeld.size)) (fun hHeld => ?_)
          clear hK K hb
          try simp only [Act.put, List.getElem_toArray, List.getElem_cons_succ, List.getElem_cons_zero, List.setIfInBounds_toArray, List.set_cons_zero, List.set_cons_succ]
          have GBl := Lib.hid (show v5_2.heap.size < v5_6.heap.size from GB.out.lt)
          refine wpAnyH_ready (rs := [7]) (by kernel_rfl) (by simp) ?_
          refine AllReadyH.cons rfl (fun K hK => ?_) (AllReadyH.nil)
          go_simp
          go_at_call 32
          refine (gletdown_spec HSZD.out (ND.out.rd R_Desk_ok)).mono ?_
          intro e v5_7 h
          rw [HDD.out] at h
          obtain ⟨us, rfl, hu, hb⟩ := newV_elim h
          obtain ⟨ra05_7, rc05_7, ra15_7, rc15_7, ra25_7, rc25_7, rfl, hu⟩ := owc_DeskStep hu
          have hHeld0 := Lib.hid hHeld
          have GB := Lib.hid (GB.out.call hb)
          have OW := Lib.hid (owG_new hu)
          have HTB := Lib.hid (show ∀ k, Rg v5_6.heap.size v5_7.heap.size k → w4.heap.size ≤ k ∧ k ≠ v5_2.heap.size from fun k hk => ⟨Nat.le_trans hHeld.size hk.1, by have h1 := hk.1; have h2 := GBl.out; omega⟩)
          clear h hu ND
          refine hK.out _ _ (hHeld.trans (hb.mono hHeld.size)) (fun hHeld => ?_)
          clear hK K hb
          try simp only [Act.put, List.getElem_toArray, List.getElem_cons_succ, List.getElem_cons_zero, List.setIfInBounds_toArray, List.set_cons_zero, List.set_cons_succ]
          have GBl := Lib.hid (show v5_2.heap.size < v5_7.heap.size from GB.out.lt)
          refine wpAnyH_ready (rs := [9]) (by kernel_rfl) (by simp) ?_
          refine AllReadyH.cons rfl (fun K hK => ?_) (AllReadyH.nil)
          have q0 := GB.out.at_ 0 rfl
          have f0 := GB.out.soft 0
          have q1 := GB.out.at_ 1 rfl
          have f1 := GB.out.soft 1
          have q2 := GB.out.at_ 2 rfl
          have f2 := GB.out.soft 2
          have q3 := GB.out.at_ 3 rfl
          have f3 := GB.out.soft 3
          have q4 := GB.out.at_ 4 rfl
          have f4 := GB.out.soft 4
          have q5 := GB.out.at_ 5 rfl
          have f5 := GB.out.soft 5
          go_simp
          refine hK.out _ _ ((((((hHeld.setCell (p := ⟨v5_2.heap.size, 0, none⟩) (by exact HGE.out) (.slice ra05_7 dL0.length rc05_7)).setCell (p := ⟨v5_2.heap.size, 1, none⟩) (by exact HGE.out) (.slice ra15_7 dL1.length rc15_7)).setCell (p := ⟨v5_2.heap.size, 2, none⟩) (by exact HGE.out) (.slice ra25_7 dL2.length rc25_7)).setCell (p := ⟨v5_2.heap.size, 3, none⟩) (by exact HGE.out) (.int .i64 dx3)).setCell (p := ⟨v5_2.heap.size, 4, none⟩) (by exact HGE.out) (.int .i64 dx4)).setCell (p := ⟨v5_2.heap.size, 5, none⟩) (by exact HGE.out) (.int .i64 dx5)) (fun hHeld => ?_)
          clear hK K q0 f0 q1 f1 q2 f2 q3 f3 q4 f4 q5 f5
          try simp only [Act.put, List.getElem_toArray, List.getElem_cons_succ, List.getElem_cons_zero, List.setIfInBounds_toArray, List.set_cons_zero, List.set_cons_succ]
          refine wpAnyH_done (by kernel_rfl) ?_ _
          go_wp2_with fail
          go_meet
          exact ⟨_, _, _, _, _, _, _, _, rfl, Lib.hid (sets_DeskStep GB.out), Lib.hid (OW.out.off R_DeskStep_ok (soff_DeskStep _ _ _ _ _ _ _ _) (fun k hk h2 => (HTB.out k hk).2 h2)), HTB, HGE, Lib.hid hHeld⟩
      · skip
        go_simp
        have hb : Below (v5_1).heap.size (v5_1) (v5_1.alloc (.cells #[.slice none 0 0, .slice none 0 0, .slice none 0 0, .int .i64 0, .int .i64 0, .int .i64 0] 46)) := (Below.refl _ _).alloc (Nat.le_refl _) _
        have ND := Lib.hid (ND.out.mv R_Desk_ok hb)
        have GB := Lib.hid (show Blk (v5_1.alloc (.cells #[.slice none 0 0, .slice none 0 0, .slice none 0 0, .int .i64 0, .int .i64 0, .int .i64 0] 46)) v5_1.heap.size 46 #[.slice none 0 0, .slice none 0 0, .slice none 0 0, .int .i64 0, .int .i64 0, .int .i64 0] from Blk.new (v5_1) 46 #[.slice none 0 0, .slice none 0 0, .slice none 0 0, .int .i64 0, .int .i64 0, .int .i64 0])
        have HGE := Lib.hid (show w4.heap.size ≤ v5_1.heap.size from hHeld.size)
        refine hK.out _ _ (hHeld.trans (hb.mono hHeld.size)) (fun hHeld => ?_)
        clear hK K hb
        try simp only [Act.put, List.getElem_toArray, List.getElem_cons_succ, List.getElem_cons_zero, List.setIfInBounds_toArray, List.set_cons_zero, List.set_cons_succ]
        have GBl := Lib.hid (show v5_1.heap.size < (v5_1.alloc (.cells #[.slice none 0 0, .slice none 0 0, .slice none 0 0, .int .i64 0, .int .i64 0, .int .i64 0] 46)).heap.size from GB.out.lt)
        refine wpAnyH_ready (rs := [3]) (by kernel_rfl) (by simp) ?_
        refine AllReadyH.cons rfl (fun K hK => ?_) (AllReadyH.nil)
        go_simp
        go_at_call 42
        refine (to_Label (by simp only [R_Label, Pr, I, atom] <;> omega)).mono ?_
        intro e v5_8 h
        obtain ⟨us, rfl, hu, hb⟩ := newV_elim h
        obtain rfl := ow0_Label hu
        have ND := Lib.hid (ND.out.mv R_Desk_ok hb)
        have GB := Lib.hid (GB.out.call hb)
        clear h hu
        refine hK.out _ _ (hHeld.trans (hb.mono hHeld.size)) (fun hHeld => ?_)
        clear hK K hb
        try simp only [Act.put, List.getElem_toArray, List.getElem_cons_succ, List.getElem_cons_zero, List.setIfInBounds_toArray, List.set_cons_zero, List.set_cons_succ]
        have GBl := Lib.hid (show v5_1.heap.size < v5_8.heap.size from GB.out.lt)
        refine wpAnyH_ready (rs := [5]) (by kernel_rfl) (by simp) ?_
        refine AllReadyH.cons rfl (fun K hK => ?_) (AllReadyH.nil)
        go_simp
        go_at_call 42
        refine (to_Label (by simp only [R_Label, Pr, I, atom] <;> omega)).mono ?_
        intro e v5_9 h
        obtain ⟨us, rfl, hu, hb⟩ := newV_elim h
        obtain rfl := ow0_Label hu
        have ND := Lib.hid (ND.out.mv R_Desk_ok hb)
        have GB := Lib.hid (GB.out.call hb)
        clear h hu
        refine hK.out _ _ (hHeld.trans (hb.mono hHeld.size)) (fun hHeld => ?_)
        clear hK K hb
        try simp only [Act.put, List.getElem_toArray, List.getElem_cons_succ, List.getElem_cons_zero, List.setIfInBounds_toArray, List.set_cons_zero, List.set_cons_succ]
        have GBl := Lib.hid (show v5_1.heap.size < v5_9.heap.size from GB.out.lt)
        refine wpAnyH_ready (rs := [7]) (by kernel_rfl) (by simp) ?_
        refine AllReadyH.cons rfl (fun K hK => ?_) (AllReadyH.nil)
        go_simp
        go_at_call 32
        refine (gletdown_spec HSZD.out (ND.out.rd R_Desk_ok)).mono ?_
        intro e v5_10 h
        rw [HDD.out] at h
        obtain ⟨us, rfl, hu, hb⟩ := newV_elim h
        obtain ⟨ra05_10, rc05_10, ra15_10, rc15_10, ra25_10, rc25_10, rfl, hu⟩ := owc_DeskStep hu
        have hHeld0 := Lib.hid hHeld
        have GB := Lib.hid (GB.out.call hb)
        have OW := Lib.hid (owG_new hu)
        have HTB := Lib.hid (show ∀ k, Rg v5_9.heap.size v5_10.heap.size k → w4.heap.size ≤ k ∧ k ≠ v5_1.heap.size from fun k hk => ⟨Nat.le_trans hHeld.size hk.1, by have h1 := hk.1; have h2 := GBl.out; omega⟩)
        clear h hu ND
        refine hK.out _ _ (hHeld.trans (hb.mono hHeld.size)) (fun hHeld => ?_)
        clear hK K hb
        try simp only [Act.put, List.getElem_toArray, List.getElem_cons_succ, List.getElem_cons_zero, List.setIfInBounds_toArray, List.set_cons_zero, List.set_cons_succ]
        have GBl := Lib.hid (show v5_1.heap.size < v5_10.heap.size from GB.out.lt)
        refine wpAnyH_ready (rs := [9]) (by kernel_rfl) (by simp) ?_
        refine AllReadyH.cons rfl (fun K hK => ?_) (AllReadyH.nil)
        have q0 := GB.out.at_ 0 rfl
        have f0 := GB.out.soft 0
        have q1 := GB.out.at_ 1 rfl
        have f1 := GB.out.soft 1
        have q2 := GB.out.at_ 2 rfl
        have f2 := GB.out.soft 2
        have q3 := GB.out.at_ 3 rfl
        have f3 := GB.out.soft 3
        have q4 := GB.out.at_ 4 rfl
        have f4 := GB.out.soft 4
        have q5 := GB.out.at_ 5 rfl
        have f5 := GB.out.soft 5
        go_simp
        refine hK.out _ _ ((((((hHeld.setCell (p := ⟨v5_1.heap.size, 0, none⟩) (by exact HGE.out) (.slice ra05_10 dL0.length rc05_10)).setCell (p := ⟨v5_1.heap.size, 1, none⟩) (by exact HGE.out) (.slice ra15_10 dL1.length rc15_10)).setCell (p := ⟨v5_1.heap.size, 2, none⟩) (by exact HGE.out) (.slice ra25_10 dL2.length rc25_10)).setCell (p := ⟨v5_1.heap.size, 3, none⟩) (by exact HGE.out) (.int .i64 dx3)).setCell (p := ⟨v5_1.heap.size, 4, none⟩) (by exact HGE.out) (.int .i64 dx4)).setCell (p := ⟨v5_1.heap.size, 5, none⟩) (by exact HGE.out) (.int .i64 dx5)) (fun hHeld => ?_)
        clear hK K q0 f0 q1 f1 q2 f2 q3 f3 q4 f4 q5 f5
        try simp only [Act.put, List.getElem_toArray, List.getElem_cons_succ, List.getElem_cons_zero, List.setIfInBounds_toArray, List.set_cons_zero, List.set_cons_succ]
        refine wpAnyH_done (by kernel_rfl) ?_ _
        go_wp2_with fail
        go_meet
        exact ⟨_, _, _, _, _, _, _, _, rfl, Lib.hid (sets_DeskStep GB.out), Lib.hid (OW.out.off R_DeskStep_ok (soff_DeskStep _ _ _ _ _ _ _ _) (fun k hk h2 => (HTB.out k hk).2 h2)), HTB, HGE, Lib.hid hHeld⟩
    · skip
      go_simp
      have hb : Below (w4.drew).heap.size (w4.drew) ((w4.drew).alloc (.cells #[.slice none 0 0, .slice none 0 0, .slice none 0 0, .int .i64 0, .int .i64 0, .int .i64 0] 46)) := (Below.refl _ _).alloc (Nat.le_refl _) _
      have GB := Lib.hid (show Blk ((w4.drew).alloc (.cells #[.slice none 0 0, .slice none 0 0, .slice none 0 0, .int .i64 0, .int .i64 0, .int .i64 0] 46)) w4.heap.size 46 #[.slice none 0 0, .slice none 0 0, .slice none 0 0, .int .i64 0, .int .i64 0, .int .i64 0] from Blk.new (w4.drew) 46 #[.slice none 0 0, .slice none 0 0, .slice none 0 0, .int .i64 0, .int .i64 0, .int .i64 0])
      have HGE := Lib.hid (show w4.heap.size ≤ w4.heap.size from hHeld.size)
      refine hK.out _ _ (hHeld.trans (hb.mono hHeld.size)) (fun hHeld => ?_)
      clear hK K hb
      try simp only [Act.put, List.getElem_toArray, List.getElem_cons_succ, List.getElem_cons_zero, List.setIfInBounds_toArray, List.set_cons_zero, List.set_cons_succ]
      have GBl := Lib.hid (show w4.heap.size < ((w4.drew).alloc (.cells #[.slice none 0 0, .slice none 0 0, .slice none 0 0, .int .i64 0, .int .i64 0, .int .i64 0] 46)).heap.size from GB.out.lt)
      refine wpAnyH_ready (rs := [1]) (by kernel_rfl) (by simp) ?_
      refine AllReadyH.cons rfl (fun K hK => ?_) (AllReadyH.nil)
      go_simp
      go_at_call 41
      refine (gto_Desk HSZD.out (gmv R_Desk_ok HD_4.out hHeld)).mono ?_
      intro e v5_11 h
      obtain ⟨us, rfl, hu, hb⟩ := newV_elim h
      obtain ⟨aD0_5_11, cD0_5_11, aD1_5_11, cD1_5_11, aD2_5_11, cD2_5_11, rfl, hu⟩ := owc_Desk hu
      have GB := Lib.hid (GB.out.call hb)
      have ND := Lib.hid (owG_new hu)
      clear h hu
      refine hK.out _ _ (hHeld.trans (hb.mono hHeld.size)) (fun hHeld => ?_)
      clear hK K hb
      try simp only [Act.put, List.getElem_toArray, List.getElem_cons_succ, List.getElem_cons_zero, List.setIfInBounds_toArray, List.set_cons_zero, List.set_cons_succ]
      have GBl := Lib.hid (show w4.heap.size < v5_11.heap.size from GB.out.lt)
      refine wpAnyH_ready (rs := [3]) (by kernel_rfl) (by simp) ?_
      refine AllReadyH.cons rfl (fun K hK => ?_) (AllReadyH.nil)
      go_simp
      go_at_call 42
      refine (to_Label (by simp only [R_Label, Pr, I, atom] <;> omega)).mono ?_
      intro e v5_12 h
      obtain ⟨us, rfl, hu, hb⟩ := newV_elim h
      obtain rfl := ow0_Label hu
      have ND := Lib.hid (ND.out.mv R_Desk_ok hb)
      have GB := Lib.hid (GB.out.call hb)
      clear h hu
      refine hK.out _ _ (hHeld.trans (hb.mono hHeld.size)) (fun hHeld => ?_)
      clear hK K hb
      try simp only [Act.put, List.getElem_toArray, List.getElem_cons_succ, List.getElem_cons_zero, List.setIfInBounds_toArray, List.set_cons_zero, List.set_cons_succ]
      have GBl := Lib.hid (show w4.heap.size < v5_12.heap.size from GB.out.lt)
      refine wpAnyH_ready (rs := [5]) (by kernel_rfl) (by simp) ?_
      refine AllReadyH.cons rfl (fun K hK => ?_) (AllReadyH.nil)
      go_simp
      go_at_call 42
      refine (to_Label (by simp only [R_Label, Pr, I, atom] <;> omega)).mono ?_
      intro e v5_13 h
      obtain ⟨us, rfl, hu, hb⟩ := newV_elim h
      obtain rfl := ow0_Label hu
      have ND := Lib.hid (ND.out.mv R_Desk_ok hb)
      have GB := Lib.hid (GB.out.call hb)
      clear h hu
      refine hK.out _ _ (hHeld.trans (hb.mono hHeld.size)) (fun hHeld => ?_)
      clear hK K hb
      try simp only [Act.put, List.getElem_toArray, List.getElem_cons_succ, List.getElem_cons_zero, List.setIfInBounds_toArray, List.set_cons_zero, List.set_cons_succ]
      have GBl := Lib.hid (show w4.heap.size < v5_13.heap.size from GB.out.lt)
      refine wpAnyH_ready (rs := [7]) (by kernel_rfl) (by simp) ?_
      refine AllReadyH.cons rfl (fun K hK => ?_) (AllReadyH.nil)
      go_simp
      go_at_call 32
      refine (gletdown_spec HSZD.out (ND.out.rd R_Desk_ok)).mono ?_
      intro e v5_14 h
      rw [HDD.out] at h
      obtain ⟨us, rfl, hu, hb⟩ := newV_elim h
      obtain ⟨ra05_14, rc05_14, ra15_14, rc15_14, ra25_14, rc25_14, rfl, hu⟩ := owc_DeskStep hu
      have hHeld0 := Lib.hid hHeld
      have GB := Lib.hid (GB.out.call hb)
      have OW := Lib.hid (owG_new hu)
      have HTB := Lib.hid (show ∀ k, Rg v5_13.heap.size v5_14.heap.size k → w4.heap.size ≤ k ∧ k ≠ w4.heap.size from fun k hk => ⟨Nat.le_trans hHeld.size hk.1, by have h1 := hk.1; have h2 := GBl.out; omega⟩)
      clear h hu ND
      refine hK.out _ _ (hHeld.trans (hb.mono hHeld.size)) (fun hHeld => ?_)
      clear hK K hb
      try simp only [Act.put, List.getElem_toArray, List.getElem_cons_succ, List.getElem_cons_zero, List.setIfInBounds_toArray, List.set_cons_zero, List.set_cons_succ]
      have GBl := Lib.hid (show w4.heap.size < v5_14.heap.size from GB.out.lt)
      refine wpAnyH_ready (rs := [9]) (by kernel_rfl) (by simp) ?_
      refine AllReadyH.cons rfl (fun K hK => ?_) (AllReadyH.nil)
      have q0 := GB.out.at_ 0 rfl
      have f0 := GB.out.soft 0
      have q1 := GB.out.at_ 1 rfl
      have f1 := GB.out.soft 1
      have q2 := GB.out.at_ 2 rfl
      have f2 := GB.out.soft 2
      have q3 := GB.out.at_ 3 rfl
      have f3 := GB.out.soft 3
      have q4 := GB.out.at_ 4 rfl
      have f4 := GB.out.soft 4
      have q5 := GB.out.at_ 5 rfl
      have f5 := GB.out.soft 5
      go_simp
      refine hK.out _ _ ((((((hHeld.setCell (p := ⟨w4.heap.size, 0, none⟩) (by exact HGE.out) (.slice ra05_14 dL0.length rc05_14)).setCell (p := ⟨w4.heap.size, 1, none⟩) (by exact HGE.out) (.slice ra15_14 dL1.length rc15_14)).setCell (p := ⟨w4.heap.size, 2, none⟩) (by exact HGE.out) (.slice ra25_14 dL2.length rc25_14)).setCell (p := ⟨w4.heap.size, 3, none⟩) (by exact HGE.out) (.int .i64 dx3)).setCell (p := ⟨w4.heap.size, 4, none⟩) (by exact HGE.out) (.int .i64 dx4)).setCell (p := ⟨w4.heap.size, 5, none⟩) (by exact HGE.out) (.int .i64 dx5)) (fun hHeld => ?_)
      clear hK K q0 f0 q1 f1 q2 f2 q3 f3 q4 f4 q5 f5
      try simp only [Act.put, List.getElem_toArray, List.getElem_cons_succ, List.getElem_cons_zero, List.setIfInBounds_toArray, List.set_cons_zero, List.set_cons_succ]
      refine wpAnyH_done (by kernel_rfl) ?_ _
      go_wp2_with fail
      go_meet
      exact ⟨_, _, _, _, _, _, _, _, rfl, Lib.hid (sets_DeskStep GB.out), Lib.hid (OW.out.off R_DeskStep_ok (soff_DeskStep _ _ _ _ _ _ _ _) (fun k hk h2 => (HTB.out k hk).2 h2)), HTB, HGE, Lib.hid hHeld⟩
  case rest =>
    obtain ⟨gw, ra0w, rc0w, ra1w, rc1w, ra2w, rc2w, Sw, rfl, HX8, HO8, HT8, HG8, hcb⟩ := hcut
    rename World => w5
    have hb := hcb.out
    have PD_5 := Lib.hid (PD_4.out.call hb)
    have PF_5 := Lib.hid (PF_4.out.call hb)
    have PT_5 := Lib.hid (PT_4.out.call hb)
    have HD_5 := Lib.hid (gmv R_Desk_ok HD_4.out hb)
    have HB5 := Lib.hid (HB4.out.trans ((hb).mono HB4.out.size))
    have HZ5 := Lib.hid ((hb).size)
    clear PD_4 PF_4 PT_4 HD_4 HB4
    clear hb hcb
    have Bw_5 := HX8
    have Yw_5 := HO8
    have HTw := HT8
    have HGw := HG8
    clear HX8 HO8 HT8 HG8
    have HSw := Lib.hid (fun k (hk : Sw k) => (⟨(HTw.out k hk).1, Yw_5.out.2 k hk⟩ : w4.heap.size ≤ k ∧ k < w5.heap.size))
    have HGLw := Lib.hid (show gw < w5.heap.size from Bw_5.out.lt)
    have qPD_0 := PD_5.out.at_ 0 rfl
    have qPD_1 := PD_5.out.at_ 1 rfl
    have qPD_2 := PD_5.out.at_ 2 rfl
    have qPD_3 := PD_5.out.at_ 3 rfl
    have qPD_4 := PD_5.out.at_ 4 rfl
    go_wp2_with fail
    refine (gto_Desk HSZD.out HD_5.out).mono ?_
    intro e w6 h
    obtain ⟨us, rfl, hu, hb⟩ := newV_elim h
    obtain ⟨aD06, cD06, aD16, cD16, aD26, cD26, rfl, hu⟩ := owc_Desk hu
    clear qPD_0 qPD_1 qPD_2 qPD_3 qPD_4
    have PD_6 := Lib.hid (PD_5.out.call hb)
    have PF_6 := Lib.hid (PF_5.out.call hb)
    have PT_6 := Lib.hid (PT_5.out.call hb)
    have Bw_6 := Lib.hid (Bw_5.out.call hb)
    have HD_6 := Lib.hid (gmv R_Desk_ok HD_5.out hb)
    have Yw_6 := Lib.hid (Yw_5.out.mv R_DeskStep_ok hb)
    have HB6 := Lib.hid (HB5.out.trans ((hb).mono HB5.out.size))
    have HZ6 := Lib.hid ((hb).size)
    clear PD_5 PF_5 PT_5 Bw_5 HD_5 Yw_5 HB5
    have X_6 := Lib.hid (owG_new hu)
    have HSX := Lib.hid (fun k (hk : Rg w5.heap.size w6.heap.size k) => hk)
    clear hu
    clear h hb
    have hbA : Below (w6).heap.size (w6) (w6.alloc (.cells #[.slice aD06 DL0.length cD06, .slice aD16 DL1.length cD16, .slice aD26 DL2.length cD26, .int .i64 Dx3, .int .i64 Dx4] 42)) := (Below.refl _ _).alloc (Nat.le_refl _) _
    have PD_7 := Lib.hid (PD_6.out.call hbA)
    have PF_7 := Lib.hid (PF_6.out.call hbA)
    have PT_7 := Lib.hid (PT_6.out.call hbA)
    have Bw_7 := Lib.hid (Bw_6.out.call hbA)
    have HD_7 := Lib.hid (gmv R_Desk_ok HD_6.out hbA)
    have Yw_7 := Lib.hid (Yw_6.out.mv R_DeskStep_ok hbA)
    have X_7 := Lib.hid (X_6.out.mv R_Desk_ok hbA)
    have HB7 := Lib.hid (HB6.out.trans ((hbA).mono HB6.out.size))
    have HZ7 := Lib.hid ((hbA).size)
    clear PD_6 PF_6 PT_6 Bw_6 HD_6 Yw_6 X_6 HB6
    have BX_7 := Blk.new (w6) 42 #[.slice aD06 DL0.length cD06, .slice aD16 DL1.length cD16, .slice aD26 DL2.length cD26, .int .i64 Dx3, .int .i64 Dx4]
    have BXh_7 := Lib.hid BX_7
    clear BX_7 hbA
    have HZ8 := Lib.hid ((show (w6.alloc (.cells #[.slice aD06 DL0.length cD06, .slice aD16 DL1.length cD16, .slice aD26 DL2.length cD26, .int .i64 Dx3, .int .i64 Dx4] 42)).heap.size = w6.heap.size + 1 by simp))
    obtain ⟨wz7, hwz7⟩ : ∃ w, w = w6.alloc (.cells #[.slice aD06 DL0.length cD06, .slice aD16 DL1.length cD16, .slice aD26 DL2.length cD26, .int .i64 Dx3, .int .i64 Dx4] 42) := ⟨_, rfl⟩
    rw [← hwz7] at PD_7 PF_7 PT_7 Bw_7 BXh_7 HD_7 Yw_7 X_7 HB7 HZ7 HZ8
    go_wp2_with fail
    rw [← hwz7]
    clear hwz7
    go_upto_region 7 with fail
    go_cut [12] (fun s8 wx => ∃ (gg : Nat) (ra0g : Option Addr) (rc0g : Nat) (ra1g : Option Addr) (rc1g : Nat) (ra2g : Option Addr) (rc2g : Nat) (Sg : Nat → Prop), s8 = .pointer (some ⟨gg, 0, none⟩) ∧ Hid (Blk wx gg 46 #[.slice ra0g dL0.length rc0g, .slice ra1g dL1.length rc1g, .slice ra2g dL2.length rc2g, .int .i64 dx3, .int .i64 dx4, .int .i64 dx5]) ∧ Hid (OwG R_DeskStep wx Sg ((dL0, dL1, dL2, dx3, dx4), dx5) [.slice ra0g dL0.length rc0g, .slice ra1g dL1.length rc1g, .slice ra2g dL2.length rc2g, .int .i64 dx3, .int .i64 dx4, .int .i64 dx5]) ∧ Hid (∀ k, Sg k → wz7.heap.size ≤ k ∧ k ≠ gg) ∧ Hid (wz7.heap.size ≤ gg) ∧ Hid (Below wz7.heap.size wz7 wx))
    case first =>
      refine wp_region_held_drew (S := (fun V => Below wz7.heap.size wz7 V)) (by kernel_rfl) ((Below.refl _ _).drew) (fun hHeld => ?_)
      (refine wpAnyH_take (i := 0) (v := ?hv5) rfl (by kernel_rfl) (by kernel_rfl) (by kernel_rfl) (fun _ _ _ h => h) (Or.inl ⟨by kernel_rfl, ?hy5⟩) hHeld ?hr5; case hy5 => (intro w hSw; (try dsimp only at hSw); have k0 := (hSw.cell (p := ⟨w6.heap.size, 0, none⟩) BXh_7.out.lt).trans (BXh_7.out.at_ 0 rfl); have k1 := (hSw.cell (p := ⟨w6.heap.size, 1, none⟩) BXh_7.out.lt).trans (BXh_7.out.at_ 1 rfl); have k2 := (hSw.cell (p := ⟨w6.heap.size, 2, none⟩) BXh_7.out.lt).trans (BXh_7.out.at_ 2 rfl); have k3 := (hSw.cell (p := ⟨w6.heap.size, 3, none⟩) BXh_7.out.lt).trans (BXh_7.out.at_ 3 rfl); have k4 := (hSw.cell (p := ⟨w6.heap.size, 4, none⟩) BXh_7.out.lt).trans (BXh_7.out.at_ 4 rfl); clear hSw; go_simp; try with_reducible rfl))
      simp only [Act.put, List.getElem_toArray, List.getElem_cons_succ, List.getElem_cons_zero, List.setIfInBounds_toArray, List.set_cons_zero, List.set_cons_succ]
      (refine wpAnyH_take (i := 1) (v := ?hv6) rfl (by kernel_rfl) (by kernel_rfl) (by kernel_rfl) (fun _ _ _ h => h) (Or.inl ⟨by kernel_rfl, ?hy6⟩) hHeld ?hr6; case hy6 => (intro w hSw; (try dsimp only at hSw); have k0 := (hSw.cell (p := ⟨(W.heap.size + 1), 0, none⟩) PF_7.out.lt).trans (PF_7.out.at_ 0 rfl); have k1 := (hSw.cell (p := ⟨(W.heap.size + 1), 1, none⟩) PF_7.out.lt).trans (PF_7.out.at_ 1 rfl); clear hSw; go_simp; try with_reducible rfl))
      simp only [Act.put, List.getElem_toArray, List.getElem_cons_succ, List.getElem_cons_zero, List.setIfInBounds_toArray, List.set_cons_zero, List.set_cons_succ]
      (refine wpAnyH_take (i := 3) (v := ?hv7) rfl (by kernel_rfl) (by kernel_rfl) (by kernel_rfl) (fun _ _ _ h => h) (Or.inl ⟨by kernel_rfl, ?hy7⟩) hHeld ?hr7; case hy7 => (intro w hSw; (try dsimp only at hSw); have k0 := (hSw.cell (p := ⟨(W.heap.size + 1 + 1), 0, none⟩) PT_7.out.lt).trans (PT_7.out.at_ 0 rfl); have k1 := (hSw.cell (p := ⟨(W.heap.size + 1 + 1), 1, none⟩) PT_7.out.lt).trans (PT_7.out.at_ 1 rfl); clear hSw; go_simp; try with_reducible rfl))
      simp only [Act.put, List.getElem_toArray, List.getElem_cons_succ, List.getElem_cons_zero, List.setIfInBounds_toArray, List.set_cons_zero, List.set_cons_succ]
      (refine wpAnyH_take (i := 5) (v := ?hv8) rfl (by kernel_rfl) (by kernel_rfl) (by kernel_rfl) (fun _ _ _ h => h) (Or.inl ⟨by kernel_rfl, ?hy8⟩) hHeld ?hr8; case hy8 => (intro w hSw; (try dsimp only at hSw); go_simp; try with_reducible rfl))
      simp only [Act.put, List.getElem_toArray, List.getElem_cons_succ, List.getElem_cons_zero, List.setIfInBounds_toArray, List.set_cons_zero, List.set_cons_succ]
      refine wpAnyH_ready (rs := [2, 7]) (by kernel_rfl) (by simp) ?_
      refine AllReadyH.cons rfl (fun K hK => ?_) (AllReadyH.cons rfl (fun K hK => ?_) (AllReadyH.nil))
      · skip
        go_simp
        go_at_call 42
        refine (to_Label (by simp only [R_Label, Pr, I, atom] <;> omega)).mono ?_
        intro e v7_1 h
        obtain ⟨us, rfl, hu, hb⟩ := newV_elim h
        obtain rfl := ow0_Label hu
        clear h hu
        refine hK.out _ _ (hHeld.trans (hb.mono hHeld.size)) (fun hHeld => ?_)
        clear hK K hb
        try simp only [Act.put, List.getElem_toArray, List.getElem_cons_succ, List.getElem_cons_zero, List.setIfInBounds_toArray, List.set_cons_zero, List.set_cons_succ]
        refine wpAnyH_ready (rs := [4, 7]) (by kernel_rfl) (by simp) ?_
        refine AllReadyH.cons rfl (fun K hK => ?_) (AllReadyH.cons rfl (fun K hK => ?_) (AllReadyH.nil))
        · skip
          go_simp
          go_at_call 42
          refine (to_Label (by simp only [R_Label, Pr, I, atom] <;> omega)).mono ?_
          intro e v7_2 h
          obtain ⟨us, rfl, hu, hb⟩ := newV_elim h
          obtain rfl := ow0_Label hu
          clear h hu
          refine hK.out _ _ (hHeld.trans (hb.mono hHeld.size)) (fun hHeld => ?_)
          clear hK K hb
          try simp only [Act.put, List.getElem_toArray, List.getElem_cons_succ, List.getElem_cons_zero, List.setIfInBounds_toArray, List.set_cons_zero, List.set_cons_succ]
          refine wpAnyH_ready (rs := [6, 7]) (by kernel_rfl) (by simp) ?_
          refine AllReadyH.cons rfl (fun K hK => ?_) (AllReadyH.cons rfl (fun K hK => ?_) (AllReadyH.nil))
          · skip
            go_simp
            go_at_call 27
            refine (gletdown_impl (HSEN.out.mv (HB7.out.trans (hHeld.mono HB7.out.size))) (gmv R_Desk_ok (X_7.out.rd R_Desk_ok) hHeld)).mono ?_
            intro e v7_3 h
            rw [HDD.out] at h
            obtain ⟨us, rfl, hu, hb⟩ := newV_elim h
            obtain ⟨ra07_3, rc07_3, ra17_3, rc17_3, ra27_3, rc27_3, rfl, hu⟩ := owc_DeskStep hu
            have hHeld0 := Lib.hid hHeld
            have OW := Lib.hid (owG_new hu)
            clear h hu
            refine hK.out _ _ (hHeld.trans (hb.mono hHeld.size)) (fun hHeld => ?_)
            clear hK K hb
            try simp only [Act.put, List.getElem_toArray, List.getElem_cons_succ, List.getElem_cons_zero, List.setIfInBounds_toArray, List.set_cons_zero, List.set_cons_succ]
            refine wpAnyH_ready (rs := [7]) (by kernel_rfl) (by simp) ?_
            refine AllReadyH.cons rfl (fun K hK => ?_) (AllReadyH.nil)
            go_simp
            have hb : Below (v7_3).heap.size (v7_3) (v7_3.alloc (.cells #[.slice none 0 0, .slice none 0 0, .slice none 0 0, .int .i64 0, .int .i64 0, .int .i64 0] 46)) := (Below.refl _ _).alloc (Nat.le_refl _) _
            have OW0 := OW
            have OW := Lib.hid (OW.out.mv R_DeskStep_ok hb)
            have GB := Lib.hid (show Blk (v7_3.alloc (.cells #[.slice none 0 0, .slice none 0 0, .slice none 0 0, .int .i64 0, .int .i64 0, .int .i64 0] 46)) v7_3.heap.size 46 #[.slice none 0 0, .slice none 0 0, .slice none 0 0, .int .i64 0, .int .i64 0, .int .i64 0] from Blk.new (v7_3) 46 #[.slice none 0 0, .slice none 0 0, .slice none 0 0, .int .i64 0, .int .i64 0, .int .i64 0])
            have HGE := Lib.hid (show wz7.heap.size ≤ v7_3.heap.size from hHeld.size)
            have HTB := Lib.hid (show ∀ k, Rg v7_2.heap.size v7_3.heap.size k → wz7.heap.size ≤ k ∧ k ≠ v7_3.heap.size from fun k hk => ⟨Nat.le_trans hHeld0.out.size hk.1, by have := hk.2; omega⟩)
            have hPre := Lib.hid hHeld
            refine hK.out _ _ (hHeld.trans (hb.mono hHeld.size)) (fun hHeld => ?_)
            clear hK K hb
            try simp only [Act.put, List.getElem_toArray, List.getElem_cons_succ, List.getElem_cons_zero, List.setIfInBounds_toArray, List.set_cons_zero, List.set_cons_succ]
            refine wpAnyH_ready (rs := [8]) (by kernel_rfl) (by simp) ?_
            refine AllReadyH.cons rfl (fun K hK => ?_) (AllReadyH.nil)
            go_simp
            refine hK.out _ _ (hPre.out.alloc HGE.out (.cells #[.slice ra07_3 dL0.length rc07_3, .slice ra17_3 dL1.length rc17_3, .slice ra27_3 dL2.length rc27_3, .int .i64 dx3, .int .i64 dx4, .int .i64 dx5] 46)) (fun hHeld => ?_)
            clear hK K
            try simp only [Act.put, List.getElem_toArray, List.getElem_cons_succ, List.getElem_cons_zero, List.setIfInBounds_toArray, List.set_cons_zero, List.set_cons_succ]
            refine wpAnyH_done (by kernel_rfl) ?_ _
            go_wp2_with fail
            go_meet
            exact ⟨_, _, _, _, _, _, _, _, rfl, Lib.hid (Blk.new v7_3 46 #[.slice ra07_3 dL0.length rc07_3, .slice ra17_3 dL1.length rc17_3, .slice ra27_3 dL2.length rc27_3, .int .i64 dx3, .int .i64 dx4, .int .i64 dx5]), Lib.hid (OW0.out.mv R_DeskStep_ok ((Below.refl _ _).alloc (Nat.le_refl _) (.cells #[.slice ra07_3 dL0.length rc07_3, .slice ra17_3 dL1.length rc17_3, .slice ra27_3 dL2.length rc27_3, .int .i64 dx3, .int .i64 dx4, .int .i64 dx5] 46))), HTB, HGE, Lib.hid hHeld⟩
          · skip
            go_simp
            have hb : Below (v7_2).heap.size (v7_2) (v7_2.alloc (.cells #[.slice none 0 0, .slice none 0 0, .slice none 0 0, .int .i64 0, .int .i64 0, .int .i64 0] 46)) := (Below.refl _ _).alloc (Nat.le_refl _) _
            have GB := Lib.hid (show Blk (v7_2.alloc (.cells #[.slice none 0 0, .slice none 0 0, .slice none 0 0, .int .i64 0, .int .i64 0, .int .i64 0] 46)) v7_2.heap.size 46 #[.slice none 0 0, .slice none 0 0, .slice none 0 0, .int .i64 0, .int .i64 0, .int .i64 0] from Blk.new (v7_2) 46 #[.slice none 0 0, .slice none 0 0, .slice none 0 0, .int .i64 0, .int .i64 0, .int .i64 0])
            have HGE := Lib.hid (show wz7.heap.size ≤ v7_2.heap.size from hHeld.size)
            refine hK.out _ _ (hHeld.trans (hb.mono hHeld.size)) (fun hHeld => ?_)
            clear hK K hb
            try simp only [Act.put, List.getElem_toArray, List.getElem_cons_succ, List.getElem_cons_zero, List.setIfInBounds_toArray, List.set_cons_zero, List.set_cons_succ]
            have GBl := Lib.hid (show v7_2.heap.size < (v7_2.alloc (.cells #[.slice none 0 0, .slice none 0 0, .slice none 0 0, .int .i64 0, .int .i64 0, .int .i64 0] 46)).heap.size from GB.out.lt)
            refine wpAnyH_ready (rs := [6]) (by kernel_rfl) (by simp) ?_
            refine AllReadyH.cons rfl (fun K hK => ?_) (AllReadyH.nil)
            go_simp
            go_at_call 27
            refine (gletdown_impl (HSEN.out.mv (HB7.out.trans (hHeld.mono HB7.out.size))) (gmv R_Desk_ok (X_7.out.rd R_Desk_ok) hHeld)).mono ?_
            intro e v7_4 h
            rw [HDD.out] at h
            obtain ⟨us, rfl, hu, hb⟩ := newV_elim h
            obtain ⟨ra07_4, rc07_4, ra17_4, rc17_4, ra27_4, rc27_4, rfl, hu⟩ := owc_DeskStep hu
            have hHeld0 := Lib.hid hHeld
            have GB := Lib.hid (GB.out.call hb)
            have OW := Lib.hid (owG_new hu)
            have HTB := Lib.hid (show ∀ k, Rg (v7_2.alloc (.cells #[.slice none 0 0, .slice none 0 0, .slice none 0 0, .int .i64 0, .int .i64 0, .int .i64 0] 46)).heap.size v7_4.heap.size k → wz7.heap.size ≤ k ∧ k ≠ v7_2.heap.size from fun k hk => ⟨Nat.le_trans hHeld.size hk.1, by have h1 := hk.1; have h2 := GBl.out; omega⟩)
            clear h hu
            refine hK.out _ _ (hHeld.trans (hb.mono hHeld.size)) (fun hHeld => ?_)
            clear hK K hb
            try simp only [Act.put, List.getElem_toArray, List.getElem_cons_succ, List.getElem_cons_zero, List.setIfInBounds_toArray, List.set_cons_zero, List.set_cons_succ]
            have GBl := Lib.hid (show v7_2.heap.size < v7_4.heap.size from GB.out.lt)
            refine wpAnyH_ready (rs := [8]) (by kernel_rfl) (by simp) ?_
            refine AllReadyH.cons rfl (fun K hK => ?_) (AllReadyH.nil)
            have q0 := GB.out.at_ 0 rfl
            have f0 := GB.out.soft 0
            have q1 := GB.out.at_ 1 rfl
            have f1 := GB.out.soft 1
            have q2 := GB.out.at_ 2 rfl
            have f2 := GB.out.soft 2
            have q3 := GB.out.at_ 3 rfl
            have f3 := GB.out.soft 3
            have q4 := GB.out.at_ 4 rfl
            have f4 := GB.out.soft 4
            have q5 := GB.out.at_ 5 rfl
            have f5 := GB.out.soft 5
            go_simp
            refine hK.out _ _ ((((((hHeld.setCell (p := ⟨v7_2.heap.size, 0, none⟩) (by exact HGE.out) (.slice ra07_4 dL0.length rc07_4)).setCell (p := ⟨v7_2.heap.size, 1, none⟩) (by exact HGE.out) (.slice ra17_4 dL1.length rc17_4)).setCell (p := ⟨v7_2.heap.size, 2, none⟩) (by exact HGE.out) (.slice ra27_4 dL2.length rc27_4)).setCell (p := ⟨v7_2.heap.size, 3, none⟩) (by exact HGE.out) (.int .i64 dx3)).setCell (p := ⟨v7_2.heap.size, 4, none⟩) (by exact HGE.out) (.int .i64 dx4)).setCell (p := ⟨v7_2.heap.size, 5, none⟩) (by exact HGE.out) (.int .i64 dx5)) (fun hHeld => ?_)
            clear hK K q0 f0 q1 f1 q2 f2 q3 f3 q4 f4 q5 f5
            try simp only [Act.put, List.getElem_toArray, List.getElem_cons_succ, List.getElem_cons_zero, List.setIfInBounds_toArray, List.set_cons_zero, List.set_cons_succ]
            refine wpAnyH_done (by kernel_rfl) ?_ _
            go_wp2_with fail
            go_meet
            exact ⟨_, _, _, _, _, _, _, _, rfl, Lib.hid (sets_DeskStep GB.out), Lib.hid (OW.out.off R_DeskStep_ok (soff_DeskStep _ _ _ _ _ _ _ _) (fun k hk h2 => (HTB.out k hk).2 h2)), HTB, HGE, Lib.hid hHeld⟩
        · skip
          go_simp
          have hb : Below (v7_1).heap.size (v7_1) (v7_1.alloc (.cells #[.slice none 0 0, .slice none 0 0, .slice none 0 0, .int .i64 0, .int .i64 0, .int .i64 0] 46)) := (Below.refl _ _).alloc (Nat.le_refl _) _
          have GB := Lib.hid (show Blk (v7_1.alloc (.cells #[.slice none 0 0, .slice none 0 0, .slice none 0 0, .int .i64 0, .int .i64 0, .int .i64 0] 46)) v7_1.heap.size 46 #[.slice none 0 0, .slice none 0 0, .slice none 0 0, .int .i64 0, .int .i64 0, .int .i64 0] from Blk.new (v7_1) 46 #[.slice none 0 0, .slice none 0 0, .slice none 0 0, .int .i64 0, .int .i64 0, .int .i64 0])
          have HGE := Lib.hid (show wz7.heap.size ≤ v7_1.heap.size from hHeld.size)
          refine hK.out _ _ (hHeld.trans (hb.mono hHeld.size)) (fun hHeld => ?_)
          clear hK K hb
          try simp only [Act.put, List.getElem_toArray, List.getElem_cons_succ, List.getElem_cons_zero, List.setIfInBounds_toArray, List.set_cons_zero, List.set_cons_succ]
          have GBl := Lib.hid (show v7_1.heap.size < (v7_1.alloc (.cells #[.slice none 0 0, .slice none 0 0, .slice none 0 0, .int .i64 0, .int .i64 0, .int .i64 0] 46)).heap.size from GB.out.lt)
          refine wpAnyH_ready (rs := [4]) (by kernel_rfl) (by simp) ?_
          refine AllReadyH.cons rfl (fun K hK => ?_) (AllReadyH.nil)
          go_simp
          go_at_call 42
          refine (to_Label (by simp only [R_Label, Pr, I, atom] <;> omega)).mono ?_
          intro e v7_5 h
          obtain ⟨us, rfl, hu, hb⟩ := newV_elim h
          obtain rfl := ow0_Label hu
          have GB := Lib.hid (GB.out.call hb)
          clear h hu
          refine hK.out _ _ (hHeld.trans (hb.mono hHeld.size)) (fun hHeld => ?_)
          clear hK K hb
          try simp only [Act.put, List.getElem_toArray, List.getElem_cons_succ, List.getElem_cons_zero, List.setIfInBounds_toArray, List.set_cons_zero, List.set_cons_succ]
          have GBl := Lib.hid (show v7_1.heap.size < v7_5.heap.size from GB.out.lt)
          refine wpAnyH_ready (rs := [6]) (by kernel_rfl) (by simp) ?_
          refine AllReadyH.cons rfl (fun K hK => ?_) (AllReadyH.nil)
          go_simp
          go_at_call 27
          refine (gletdown_impl (HSEN.out.mv (HB7.out.trans (hHeld.mono HB7.out.size))) (gmv R_Desk_ok (X_7.out.rd R_Desk_ok) hHeld)).mono ?_
          intro e v7_6 h
          rw [HDD.out] at h
          obtain ⟨us, rfl, hu, hb⟩ := newV_elim h
          obtain ⟨ra07_6, rc07_6, ra17_6, rc17_6, ra27_6, rc27_6, rfl, hu⟩ := owc_DeskStep hu
          have hHeld0 := Lib.hid hHeld
          have GB := Lib.hid (GB.out.call hb)
          have OW := Lib.hid (owG_new hu)
          have HTB := Lib.hid (show ∀ k, Rg v7_5.heap.size v7_6.heap.size k → wz7.heap.size ≤ k ∧ k ≠ v7_1.heap.size from fun k hk => ⟨Nat.le_trans hHeld.size hk.1, by have h1 := hk.1; have h2 := GBl.out; omega⟩)
          clear h hu
          refine hK.out _ _ (hHeld.trans (hb.mono hHeld.size)) (fun hHeld => ?_)
          clear hK K hb
          try simp only [Act.put, List.getElem_toArray, List.getElem_cons_succ, List.getElem_cons_zero, List.setIfInBounds_toArray, List.set_cons_zero, List.set_cons_succ]
          have GBl := Lib.hid (show v7_1.heap.size < v7_6.heap.size from GB.out.lt)
          refine wpAnyH_ready (rs := [8]) (by kernel_rfl) (by simp) ?_
          refine AllReadyH.cons rfl (fun K hK => ?_) (AllReadyH.nil)
          have q0 := GB.out.at_ 0 rfl
          have f0 := GB.out.soft 0
          have q1 := GB.out.at_ 1 rfl
          have f1 := GB.out.soft 1
          have q2 := GB.out.at_ 2 rfl
          have f2 := GB.out.soft 2
          have q3 := GB.out.at_ 3 rfl
          have f3 := GB.out.soft 3
          have q4 := GB.out.at_ 4 rfl
          have f4 := GB.out.soft 4
          have q5 := GB.out.at_ 5 rfl
          have f5 := GB.out.soft 5
          go_simp
          refine hK.out _ _ ((((((hHeld.setCell (p := ⟨v7_1.heap.size, 0, none⟩) (by exact HGE.out) (.slice ra07_6 dL0.length rc07_6)).setCell (p := ⟨v7_1.heap.size, 1, none⟩) (by exact HGE.out) (.slice ra17_6 dL1.length rc17_6)).setCell (p := ⟨v7_1.heap.size, 2, none⟩) (by exact HGE.out) (.slice ra27_6 dL2.length rc27_6)).setCell (p := ⟨v7_1.heap.size, 3, none⟩) (by exact HGE.out) (.int .i64 dx3)).setCell (p := ⟨v7_1.heap.size, 4, none⟩) (by exact HGE.out) (.int .i64 dx4)).setCell (p := ⟨v7_1.heap.size, 5, none⟩) (by exact HGE.out) (.int .i64 dx5)) (fun hHeld => ?_)
          clear hK K q0 f0 q1 f1 q2 f2 q3 f3 q4 f4 q5 f5
          try simp only [Act.put, List.getElem_toArray, List.getElem_cons_succ, List.getElem_cons_zero, List.setIfInBounds_toArray, List.set_cons_zero, List.set_cons_succ]
          refine wpAnyH_done (by kernel_rfl) ?_ _
          go_wp2_with fail
          go_meet
          exact ⟨_, _, _, _, _, _, _, _, rfl, Lib.hid (sets_DeskStep GB.out), Lib.hid (OW.out.off R_DeskStep_ok (soff_DeskStep _ _ _ _ _ _ _ _) (fun k hk h2 => (HTB.out k hk).2 h2)), HTB, HGE, Lib.hid hHeld⟩
      · skip
        go_simp
        have hb : Below (wz7.drew).heap.size (wz7.drew) ((wz7.drew).alloc (.cells #[.slice none 0 0, .slice none 0 0, .slice none 0 0, .int .i64 0, .int .i64 0, .int .i64 0] 46)) := (Below.refl _ _).alloc (Nat.le_refl _) _
        have GB := Lib.hid (show Blk ((wz7.drew).alloc (.cells #[.slice none 0 0, .slice none 0 0, .slice none 0 0, .int .i64 0, .int .i64 0, .int .i64 0] 46)) wz7.heap.size 46 #[.slice none 0 0, .slice none 0 0, .slice none 0 0, .int .i64 0, .int .i64 0, .int .i64 0] from Blk.new (wz7.drew) 46 #[.slice none 0 0, .slice none 0 0, .slice none 0 0, .int .i64 0, .int .i64 0, .int .i64 0])
        have HGE := Lib.hid (show wz7.heap.size ≤ wz7.heap.size from hHeld.size)
        refine hK.out _ _ (hHeld.trans (hb.mono hHeld.size)) (fun hHeld => ?_)
        clear hK K hb
        try simp only [Act.put, List.getElem_toArray, List.getElem_cons_succ, List.getElem_cons_zero, List.setIfInBounds_toArray, List.set_cons_zero, List.set_cons_succ]
        have GBl := Lib.hid (show wz7.heap.size < ((wz7.drew).alloc (.cells #[.slice none 0 0, .slice none 0 0, .slice none 0 0, .int .i64 0, .int .i64 0, .int .i64 0] 46)).heap.size from GB.out.lt)
        refine wpAnyH_ready (rs := [2]) (by kernel_rfl) (by simp) ?_
        refine AllReadyH.cons rfl (fun K hK => ?_) (AllReadyH.nil)
        go_simp
        go_at_call 42
        refine (to_Label (by simp only [R_Label, Pr, I, atom] <;> omega)).mono ?_
        intro e v7_7 h
        obtain ⟨us, rfl, hu, hb⟩ := newV_elim h
        obtain rfl := ow0_Label hu
        have GB := Lib.hid (GB.out.call hb)
        clear h hu
        refine hK.out _ _ (hHeld.trans (hb.mono hHeld.size)) (fun hHeld => ?_)
        clear hK K hb
        try simp only [Act.put, List.getElem_toArray, List.getElem_cons_succ, List.getElem_cons_zero, List.setIfInBounds_toArray, List.set_cons_zero, List.set_cons_succ]
        have GBl := Lib.hid (show wz7.heap.size < v7_7.heap.size from GB.out.lt)
        refine wpAnyH_ready (rs := [4]) (by kernel_rfl) (by simp) ?_
        refine AllReadyH.cons rfl (fun K hK => ?_) (AllReadyH.nil)
        go_simp
        go_at_call 42
        refine (to_Label (by simp only [R_Label, Pr, I, atom] <;> omega)).mono ?_
        intro e v7_8 h
        obtain ⟨us, rfl, hu, hb⟩ := newV_elim h
        obtain rfl := ow0_Label hu
        have GB := Lib.hid (GB.out.call hb)
        clear h hu
        refine hK.out _ _ (hHeld.trans (hb.mono hHeld.size)) (fun hHeld => ?_)
        clear hK K hb
        try simp only [Act.put, List.getElem_toArray, List.getElem_cons_succ, List.getElem_cons_zero, List.setIfInBounds_toArray, List.set_cons_zero, List.set_cons_succ]
        have GBl := Lib.hid (show wz7.heap.size < v7_8.heap.size from GB.out.lt)
        refine wpAnyH_ready (rs := [6]) (by kernel_rfl) (by simp) ?_
        refine AllReadyH.cons rfl (fun K hK => ?_) (AllReadyH.nil)
        go_simp
        go_at_call 27
        refine (gletdown_impl (HSEN.out.mv (HB7.out.trans (hHeld.mono HB7.out.size))) (gmv R_Desk_ok (X_7.out.rd R_Desk_ok) hHeld)).mono ?_
        intro e v7_9 h
        rw [HDD.out] at h
        obtain ⟨us, rfl, hu, hb⟩ := newV_elim h
        obtain ⟨ra07_9, rc07_9, ra17_9, rc17_9, ra27_9, rc27_9, rfl, hu⟩ := owc_DeskStep hu
        have hHeld0 := Lib.hid hHeld
        have GB := Lib.hid (GB.out.call hb)
        have OW := Lib.hid (owG_new hu)
        have HTB := Lib.hid (show ∀ k, Rg v7_8.heap.size v7_9.heap.size k → wz7.heap.size ≤ k ∧ k ≠ wz7.heap.size from fun k hk => ⟨Nat.le_trans hHeld.size hk.1, by have h1 := hk.1; have h2 := GBl.out; omega⟩)
        clear h hu
        refine hK.out _ _ (hHeld.trans (hb.mono hHeld.size)) (fun hHeld => ?_)
        clear hK K hb
        try simp only [Act.put, List.getElem_toArray, List.getElem_cons_succ, List.getElem_cons_zero, List.setIfInBounds_toArray, List.set_cons_zero, List.set_cons_succ]
        have GBl := Lib.hid (show wz7.heap.size < v7_9.heap.size from GB.out.lt)
        refine wpAnyH_ready (rs := [8]) (by kernel_rfl) (by simp) ?_
        refine AllReadyH.cons rfl (fun K hK => ?_) (AllReadyH.nil)
        have q0 := GB.out.at_ 0 rfl
        have f0 := GB.out.soft 0
        have q1 := GB.out.at_ 1 rfl
        have f1 := GB.out.soft 1
        have q2 := GB.out.at_ 2 rfl
        have f2 := GB.out.soft 2
        have q3 := GB.out.at_ 3 rfl
        have f3 := GB.out.soft 3
        have q4 := GB.out.at_ 4 rfl
        have f4 := GB.out.soft 4
        have q5 := GB.out.at_ 5 rfl
        have f5 := GB.out.soft 5
        go_simp
        refine hK.out _ _ ((((((hHeld.setCell (p := ⟨wz7.heap.size, 0, none⟩) (by exact HGE.out) (.slice ra07_9 dL0.length rc07_9)).setCell (p := ⟨wz7.heap.size, 1, none⟩) (by exact HGE.out) (.slice ra17_9 dL1.length rc17_9)).setCell (p := ⟨wz7.heap.size, 2, none⟩) (by exact HGE.out) (.slice ra27_9 dL2.length rc27_9)).setCell (p := ⟨wz7.heap.size, 3, none⟩) (by exact HGE.out) (.int .i64 dx3)).setCell (p := ⟨wz7.heap.size, 4, none⟩) (by exact HGE.out) (.int .i64 dx4)).setCell (p := ⟨wz7.heap.size, 5, none⟩) (by exact HGE.out) (.int .i64 dx5)) (fun hHeld => ?_)
        clear hK K q0 f0 q1 f1 q2 f2 q3 f3 q4 f4 q5 f5
        try simp only [Act.put, List.getElem_toArray, List.getElem_cons_succ, List.getElem_cons_zero, List.setIfInBounds_toArray, List.set_cons_zero, List.set_cons_succ]
        refine wpAnyH_done (by kernel_rfl) ?_ _
        go_wp2_with fail
        go_meet
        exact ⟨_, _, _, _, _, _, _, _, rfl, Lib.hid (sets_DeskStep GB.out), Lib.hid (OW.out.off R_DeskStep_ok (soff_DeskStep _ _ _ _ _ _ _ _) (fun k hk h2 => (HTB.out k hk).2 h2)), HTB, HGE, Lib.hid hHeld⟩
    case rest =>
      obtain ⟨gg, ra0g, rc0g, ra1g, rc1g, ra2g, rc2g, Sg, rfl, HX8, HO8, HT8, HG8, hcb⟩ := hcut
      rename World => w8
      have hb := hcb.out
      have PD_8 := Lib.hid (PD_7.out.call hb)
      have PF_8 := Lib.hid (PF_7.out.call hb)
      have PT_8 := Lib.hid (PT_7.out.call hb)
      have Bw_8 := Lib.hid (Bw_7.out.call hb)
      have BX_8 := Lib.hid (BXh_7.out.call hb)
      have HD_8 := Lib.hid (gmv R_Desk_ok HD_7.out hb)
      have Yw_8 := Lib.hid (Yw_7.out.mv R_DeskStep_ok hb)
      have X_8 := Lib.hid (X_7.out.mv R_Desk_ok hb)
      have HB8 := Lib.hid (HB7.out.trans ((hb).mono HB7.out.size))
      have HZ9 := Lib.hid ((hb).size)
      clear PD_7 PF_7 PT_7 Bw_7 BXh_7 HD_7 Yw_7 X_7 HB7
      clear hb hcb
      have Bg_8 := HX8
      have Yg_8 := HO8
      have HTg := HT8
      have HGg := HG8
      clear HX8 HO8 HT8 HG8
      have HSg := Lib.hid (fun k (hk : Sg k) => (⟨(HTg.out k hk).1, Yg_8.out.2 k hk⟩ : wz7.heap.size ≤ k ∧ k < w8.heap.size))
      have HGLg := Lib.hid (show gg < w8.heap.size from Bg_8.out.lt)
      have qBg_0 := Bg_8.out.at_ 0 rfl
      have qBg_1 := Bg_8.out.at_ 1 rfl
      have qBg_2 := Bg_8.out.at_ 2 rfl
      have qBg_3 := Bg_8.out.at_ 3 rfl
      have qBg_4 := Bg_8.out.at_ 4 rfl
      have qBg_5 := Bg_8.out.at_ 5 rfl
      have qBw_0 := Bw_8.out.at_ 0 rfl
      have qBw_1 := Bw_8.out.at_ 1 rfl
      have qBw_2 := Bw_8.out.at_ 2 rfl
      have qBw_3 := Bw_8.out.at_ 3 rfl
      have qBw_4 := Bw_8.out.at_ 4 rfl
      have qBw_5 := Bw_8.out.at_ 5 rfl
      go_wp2_with fail
      refine (geq_DeskStep (Yg_8.out.rd R_DeskStep_ok) (Yw_8.out.rd R_DeskStep_ok)).mono ?_
      intro e w9 h
      obtain ⟨rfl, hb⟩ := isB_elim h
      clear qBg_0 qBg_1 qBg_2 qBg_3 qBg_4 qBg_5 qBw_0 qBw_1 qBw_2 qBw_3 qBw_4 qBw_5
      have PD_9 := Lib.hid (PD_8.out.call hb)
      have PF_9 := Lib.hid (PF_8.out.call hb)
      have PT_9 := Lib.hid (PT_8.out.call hb)
      have Bw_9 := Lib.hid (Bw_8.out.call hb)
      have BX_9 := Lib.hid (BX_8.out.call hb)
      have Bg_9 := Lib.hid (Bg_8.out.call hb)
      have HD_9 := Lib.hid (gmv R_Desk_ok HD_8.out hb)
      have Yw_9 := Lib.hid (Yw_8.out.mv R_DeskStep_ok hb)
      have X_9 := Lib.hid (X_8.out.mv R_Desk_ok hb)
      have Yg_9 := Lib.hid (Yg_8.out.mv R_DeskStep_ok hb)
      have HB9 := Lib.hid (HB8.out.trans ((hb).mono HB8.out.size))
      have HZ10 := Lib.hid ((hb).size)
      clear PD_8 PF_8 PT_8 Bw_8 BX_8 Bg_8 HD_8 Yw_8 X_8 Yg_8 HB8
      clear h hb
      go_wp2_with fail
      refine wp_region_held_drew (S := (fun V => Below (w9).heap.size (w9) V)) (by kernel_rfl) ((Below.refl _ _).drew) (fun hHeld => ?_)
      (refine wpAnyH_take (i := 0) (v := ?hv9) rfl (by kernel_rfl) (by kernel_rfl) (by kernel_rfl) (fun _ _ _ h => h) (Or.inl ⟨by kernel_rfl, ?hy9⟩) hHeld ?hr9; case hy9 => (intro w hSw; (try dsimp only at hSw); have k0 := (hSw.cell (p := ⟨w6.heap.size, 0, none⟩) BX_9.out.lt).trans (BX_9.out.at_ 0 rfl); have k1 := (hSw.cell (p := ⟨w6.heap.size, 1, none⟩) BX_9.out.lt).trans (BX_9.out.at_ 1 rfl); have k2 := (hSw.cell (p := ⟨w6.heap.size, 2, none⟩) BX_9.out.lt).trans (BX_9.out.at_ 2 rfl); have k3 := (hSw.cell (p := ⟨w6.heap.size, 3, none⟩) BX_9.out.lt).trans (BX_9.out.at_ 3 rfl); have k4 := (hSw.cell (p := ⟨w6.heap.size, 4, none⟩) BX_9.out.lt).trans (BX_9.out.at_ 4 rfl); clear hSw; go_simp; try with_reducible rfl))
      simp only [Act.put, List.getElem_toArray, List.getElem_cons_succ, List.getElem_cons_zero, List.setIfInBounds_toArray, List.set_cons_zero, List.set_cons_succ]
      (refine wpAnyH_take (i := 1) (v := ?hv10) rfl (by kernel_rfl) (by kernel_rfl) (by kernel_rfl) (fun _ _ _ h => h) (Or.inl ⟨by kernel_rfl, ?hy10⟩) hHeld ?hr10; case hy10 => (intro w hSw; (try dsimp only at hSw); have k0 := (hSw.cell (p := ⟨W.heap.size, 0, none⟩) PD_9.out.lt).trans (PD_9.out.at_ 0 rfl); have k1 := (hSw.cell (p := ⟨W.heap.size, 1, none⟩) PD_9.out.lt).trans (PD_9.out.at_ 1 rfl); have k2 := (hSw.cell (p := ⟨W.heap.size, 2, none⟩) PD_9.out.lt).trans (PD_9.out.at_ 2 rfl); have k3 := (hSw.cell (p := ⟨W.heap.size, 3, none⟩) PD_9.out.lt).trans (PD_9.out.at_ 3 rfl); have k4 := (hSw.cell (p := ⟨W.heap.size, 4, none⟩) PD_9.out.lt).trans (PD_9.out.at_ 4 rfl); clear hSw; go_simp; try with_reducible rfl))
      simp only [Act.put, List.getElem_toArray, List.getElem_cons_succ, List.getElem_cons_zero, List.setIfInBounds_toArray, List.set_cons_zero, List.set_cons_succ]
      refine wpAnyH_ready (rs := [2]) (by kernel_rfl) (by simp) ?_
      refine AllReadyH.cons rfl (fun K hK => ?_) AllReadyH.nil
      go_simp
      go_at_call 41
      refine (gto_Desk HSZD.out (gmv R_Desk_ok HD_9.out hHeld)).mono ?_
      intro e w901 h
      obtain ⟨us, rfl, hu, hb⟩ := newV_elim h
      obtain ⟨aD0901, cD0901, aD1901, cD1901, aD2901, cD2901, rfl, hu⟩ := owc_Desk hu
      have NZ := Lib.hid (owG_new hu)
      clear h hu
      refine hK.out _ _ (hHeld.trans (hb.mono hHeld.size)) (fun hHeld => ?_)
      clear hK K hb
      try simp only [Act.put, List.getElem_toArray, List.getElem_cons_succ, List.getElem_cons_zero, List.setIfInBounds_toArray, List.set_cons_zero, List.set_cons_succ]
      refine wpAnyH_ready (rs := [3]) (by kernel_rfl) (by simp) ?_
      refine AllReadyH.cons rfl (fun K hK => ?_) AllReadyH.nil
      go_simp
      go_at_call 44
      refine (geq_Desk (gmv R_Desk_ok (X_9.out.rd R_Desk_ok) hHeld) (NZ.out.rd R_Desk_ok)).mono ?_
      intro e w902 h
      obtain ⟨rfl, hb⟩ := isB_elim h
      clear h
      refine hK.out _ _ (hHeld.trans (hb.mono hHeld.size)) (fun hHeld => ?_)
      clear hK K hb
      try simp only [Act.put, List.getElem_toArray, List.getElem_cons_succ, List.getElem_cons_zero, List.setIfInBounds_toArray, List.set_cons_zero, List.set_cons_succ]
      (refine wpAnyH_take (i := 4) (v := ?hv11) rfl (by kernel_rfl) (by kernel_rfl) (by kernel_rfl) (fun _ _ _ h => h) (Or.inl ⟨by kernel_rfl, ?hy11⟩) hHeld ?hr11; case hy11 => (intro w hSw; (try dsimp only at hSw); go_simp; try with_reducible rfl))
      simp only [Act.put, List.getElem_toArray, List.getElem_cons_succ, List.getElem_cons_zero, List.setIfInBounds_toArray, List.set_cons_zero, List.set_cons_succ]
      refine wpAnyH_done (by kernel_rfl) ?_ _
      have HF := Lib.hid hHeld
      clear hHeld
      have hF := HF.out
      have PD_10 := Lib.hid (PD_9.out.call hF)
      have PF_10 := Lib.hid (PF_9.out.call hF)
      have PT_10 := Lib.hid (PT_9.out.call hF)
      have Bw_10 := Lib.hid (Bw_9.out.call hF)
      have BX_10 := Lib.hid (BX_9.out.call hF)
      have Bg_10 := Lib.hid (Bg_9.out.call hF)
      have HD_10 := Lib.hid (gmv R_Desk_ok HD_9.out hF)
      have Yw_10 := Lib.hid (Yw_9.out.mv R_DeskStep_ok hF)
      have X_10 := Lib.hid (X_9.out.mv R_Desk_ok hF)
      have Yg_10 := Lib.hid (Yg_9.out.mv R_DeskStep_ok hF)
      have HB10 := Lib.hid (HB9.out.trans ((hF).mono HB9.out.size))
      have HZ11 := Lib.hid ((hF).size)
      clear PD_9 PF_9 PT_9 Bw_9 BX_9 Bg_9 HD_9 Yw_9 X_9 Yg_9 HB9
      clear HF hF NZ
      have qBX_0 := BX_10.out.at_ 0 rfl
      have qBX_1 := BX_10.out.at_ 1 rfl
      have qBX_2 := BX_10.out.at_ 2 rfl
      have qBX_3 := BX_10.out.at_ 3 rfl
      have qBX_4 := BX_10.out.at_ 4 rfl
      go_wp2_with fail
      refine (gmark_Desk (by omega) (by have h1 := HSAD.out; omega) X_10.out.2 X_10.out.1).mono ?_
      intro e wm h
      obtain ⟨dM, y1, rfl, hmv, hzz, ho, hoff⟩ := markG_elim h
      clear qBX_0 qBX_1 qBX_2 qBX_3 qBX_4
      have HB11 := Lib.hid (HB10.out.trans (hoff.below HB10.out.size (fun k hk => by have zHZ4 := HZ4.out; have zHZ5 := HZ5.out; have zHZ6 := HZ6.out; have zHZ7 := HZ7.out; have zHZ8 := HZ8.out; have zHZ9 := HZ9.out; have zHZ10 := HZ10.out; have zHZ11 := HZ11.out; have yHPL := HPL.out; have yHGLw := HGLw.out; have yHGw := HGw.out; have yHGLg := HGLg.out; have yHGg := HGg.out; have rX := HSX.out _ hk; try unfold Rg at rX; omega)))
      have PD_11 := Lib.hid (PD_10.out.off hoff PD_10.out.lt (fun hk => by have zHZ4 := HZ4.out; have zHZ5 := HZ5.out; have zHZ6 := HZ6.out; have zHZ7 := HZ7.out; have zHZ8 := HZ8.out; have zHZ9 := HZ9.out; have zHZ10 := HZ10.out; have zHZ11 := HZ11.out; have yHPL := HPL.out; have yHGLw := HGLw.out; have yHGw := HGw.out; have yHGLg := HGLg.out; have yHGg := HGg.out; have rX := HSX.out _ hk; try unfold Rg at rX; omega))
      have PF_11 := Lib.hid (PF_10.out.off hoff PF_10.out.lt (fun hk => by have zHZ4 := HZ4.out; have zHZ5 := HZ5.out; have zHZ6 := HZ6.out; have zHZ7 := HZ7.out; have zHZ8 := HZ8.out; have zHZ9 := HZ9.out; have zHZ10 := HZ10.out; have zHZ11 := HZ11.out; have yHPL := HPL.out; have yHGLw := HGLw.out; have yHGw := HGw.out; have yHGLg := HGLg.out; have yHGg := HGg.out; have rX := HSX.out _ hk; try unfold Rg at rX; omega))
      have PT_11 := Lib.hid (PT_10.out.off hoff PT_10.out.lt (fun hk => by have zHZ4 := HZ4.out; have zHZ5 := HZ5.out; have zHZ6 := HZ6.out; have zHZ7 := HZ7.out; have zHZ8 := HZ8.out; have zHZ9 := HZ9.out; have zHZ10 := HZ10.out; have zHZ11 := HZ11.out; have yHPL := HPL.out; have yHGLw := HGLw.out; have yHGw := HGw.out; have yHGLg := HGLg.out; have yHGg := HGg.out; have rX := HSX.out _ hk; try unfold Rg at rX; omega))
      have Bw_11 := Lib.hid (Bw_10.out.off hoff Bw_10.out.lt (fun hk => by have zHZ4 := HZ4.out; have zHZ5 := HZ5.out; have zHZ6 := HZ6.out; have zHZ7 := HZ7.out; have zHZ8 := HZ8.out; have zHZ9 := HZ9.out; have zHZ10 := HZ10.out; have zHZ11 := HZ11.out; have yHPL := HPL.out; have yHGLw := HGLw.out; have yHGw := HGw.out; have yHGLg := HGLg.out; have yHGg := HGg.out; have rX := HSX.out _ hk; try unfold Rg at rX; omega))
      have BX_11 := Lib.hid (BX_10.out.off hoff BX_10.out.lt (fun hk => by have zHZ4 := HZ4.out; have zHZ5 := HZ5.out; have zHZ6 := HZ6.out; have zHZ7 := HZ7.out; have zHZ8 := HZ8.out; have zHZ9 := HZ9.out; have zHZ10 := HZ10.out; have zHZ11 := HZ11.out; have yHPL := HPL.out; have yHGLw := HGLw.out; have yHGw := HGw.out; have yHGLg := HGLg.out; have yHGg := HGg.out; have rX := HSX.out _ hk; try unfold Rg at rX; omega))
      have Bg_11 := Lib.hid (Bg_10.out.off hoff Bg_10.out.lt (fun hk => by have zHZ4 := HZ4.out; have zHZ5 := HZ5.out; have zHZ6 := HZ6.out; have zHZ7 := HZ7.out; have zHZ8 := HZ8.out; have zHZ9 := HZ9.out; have zHZ10 := HZ10.out; have zHZ11 := HZ11.out; have yHPL := HPL.out; have yHGLw := HGLw.out; have yHGw := HGw.out; have yHGLg := HGLg.out; have yHGg := HGg.out; have rX := HSX.out _ hk; try unfold Rg at rX; omega))
      have HD_11 := Lib.hid (gmv R_Desk_ok HD0.out HB11.out)
      have Yw_11 := Lib.hid (Yw_10.out.off R_DeskStep_ok hoff (fun k hk hk2 => by have zHZ4 := HZ4.out; have zHZ5 := HZ5.out; have zHZ6 := HZ6.out; have zHZ7 := HZ7.out; have zHZ8 := HZ8.out; have zHZ9 := HZ9.out; have zHZ10 := HZ10.out; have zHZ11 := HZ11.out; have yHPL := HPL.out; have yHGLw := HGLw.out; have yHGw := HGw.out; have yHGLg := HGLg.out; have yHGg := HGg.out; have rX := HSX.out k hk2; try unfold Rg at rX; have rw := HSw.out k hk; try unfold Rg at rw; omega))
      have Yg_11 := Lib.hid (Yg_10.out.off R_DeskStep_ok hoff (fun k hk hk2 => by have zHZ4 := HZ4.out; have zHZ5 := HZ5.out; have zHZ6 := HZ6.out; have zHZ7 := HZ7.out; have zHZ8 := HZ8.out; have zHZ9 := HZ9.out; have zHZ10 := HZ10.out; have zHZ11 := HZ11.out; have yHPL := HPL.out; have yHGLw := HGLw.out; have yHGw := HGw.out; have yHGLg := HGLg.out; have yHGg := HGg.out; have rX := HSX.out k hk2; try unfold Rg at rX; have rg := HSg.out k hk; try unfold Rg at rg; omega))
      have hkn : decide (y1 < 0) = false := decide_eq_false (by omega)
      have HZ12 := Lib.hid (hoff.size)
      clear h hmv hzz ho hoff
      have qBg_0 := Bg_11.out.at_ 0 rfl
      have qBg_1 := Bg_11.out.at_ 1 rfl
      have qBg_2 := Bg_11.out.at_ 2 rfl
      have qBg_3 := Bg_11.out.at_ 3 rfl
      have qBg_4 := Bg_11.out.at_ 4 rfl
      have qBg_5 := Bg_11.out.at_ 5 rfl
      have qBw_0 := Bw_11.out.at_ 0 rfl
      have qBw_1 := Bw_11.out.at_ 1 rfl
      have qBw_2 := Bw_11.out.at_ 2 rfl
      have qBw_3 := Bw_11.out.at_ 3 rfl
      have qBw_4 := Bw_11.out.at_ 4 rfl
      have qBw_5 := Bw_11.out.at_ 5 rfl
      go_wp2_with fail
      refine (geq_DeskStep (Yg_11.out.rd R_DeskStep_ok) (Yw_11.out.rd R_DeskStep_ok)).mono ?_
      intro e w12 h
      obtain ⟨rfl, hb⟩ := isB_elim h
      clear qBg_0 qBg_1 qBg_2 qBg_3 qBg_4 qBg_5 qBw_0 qBw_1 qBw_2 qBw_3 qBw_4 qBw_5
      have PD_12 := Lib.hid (PD_11.out.call hb)
      have PF_12 := Lib.hid (PF_11.out.call hb)
      have PT_12 := Lib.hid (PT_11.out.call hb)
      have Bw_12 := Lib.hid (Bw_11.out.call hb)
      have BX_12 := Lib.hid (BX_11.out.call hb)
      have Bg_12 := Lib.hid (Bg_11.out.call hb)
      have HD_12 := Lib.hid (gmv R_Desk_ok HD_11.out hb)
      have Yw_12 := Lib.hid (Yw_11.out.mv R_DeskStep_ok hb)
      have Yg_12 := Lib.hid (Yg_11.out.mv R_DeskStep_ok hb)
      have HB12 := Lib.hid (HB11.out.trans ((hb).mono HB11.out.size))
      have HZ13 := Lib.hid ((hb).size)
      clear PD_11 PF_11 PT_11 Bw_11 BX_11 Bg_11 HD_11 Yw_11 Yg_11 HB11
      clear h hb
      clear hkn
      have qBg_0 := Bg_12.out.at_ 0 rfl
      have qBg_1 := Bg_12.out.at_ 1 rfl
      have qBg_2 := Bg_12.out.at_ 2 rfl
      have qBg_3 := Bg_12.out.at_ 3 rfl
      have qBg_4 := Bg_12.out.at_ 4 rfl
      have qBg_5 := Bg_12.out.at_ 5 rfl
      go_wp2_with fail
      refine (gmark_DeskStep (by omega) (by have h1 := HSM.out; omega) Yg_12.out.2 Yg_12.out.1).mono ?_
      intro e wn h
      obtain ⟨dN, zN, rfl, hmv, hzz, ho, hoff⟩ := markG_elim h
      clear qBg_0 qBg_1 qBg_2 qBg_3 qBg_4 qBg_5
      have HB13 := Lib.hid (HB12.out.trans (hoff.below HB12.out.size (fun k hk => by have zHZ4 := HZ4.out; have zHZ5 := HZ5.out; have zHZ6 := HZ6.out; have zHZ7 := HZ7.out; have zHZ8 := HZ8.out; have zHZ9 := HZ9.out; have zHZ10 := HZ10.out; have zHZ11 := HZ11.out; have zHZ12 := HZ12.out; have zHZ13 := HZ13.out; have yHPL := HPL.out; have yHGLw := HGLw.out; have yHGw := HGw.out; have yHGLg := HGLg.out; have yHGg := HGg.out; have rg := HSg.out _ hk; try unfold Rg at rg; omega)))
      have PD_13 := Lib.hid (PD_12.out.off hoff PD_12.out.lt (fun hk => by have zHZ4 := HZ4.out; have zHZ5 := HZ5.out; have zHZ6 := HZ6.out; have zHZ7 := HZ7.out; have zHZ8 := HZ8.out; have zHZ9 := HZ9.out; have zHZ10 := HZ10.out; have zHZ11 := HZ11.out; have zHZ12 := HZ12.out; have zHZ13 := HZ13.out; have yHPL := HPL.out; have yHGLw := HGLw.out; have yHGw := HGw.out; have yHGLg := HGLg.out; have yHGg := HGg.out; have rg := HSg.out _ hk; try unfold Rg at rg; omega))
      have PF_13 := Lib.hid (PF_12.out.off hoff PF_12.out.lt (fun hk => by have zHZ4 := HZ4.out; have zHZ5 := HZ5.out; have zHZ6 := HZ6.out; have zHZ7 := HZ7.out; have zHZ8 := HZ8.out; have zHZ9 := HZ9.out; have zHZ10 := HZ10.out; have zHZ11 := HZ11.out; have zHZ12 := HZ12.out; have zHZ13 := HZ13.out; have yHPL := HPL.out; have yHGLw := HGLw.out; have yHGw := HGw.out; have yHGLg := HGLg.out; have yHGg := HGg.out; have rg := HSg.out _ hk; try unfold Rg at rg; omega))
      have PT_13 := Lib.hid (PT_12.out.off hoff PT_12.out.lt (fun hk => by have zHZ4 := HZ4.out; have zHZ5 := HZ5.out; have zHZ6 := HZ6.out; have zHZ7 := HZ7.out; have zHZ8 := HZ8.out; have zHZ9 := HZ9.out; have zHZ10 := HZ10.out; have zHZ11 := HZ11.out; have zHZ12 := HZ12.out; have zHZ13 := HZ13.out; have yHPL := HPL.out; have yHGLw := HGLw.out; have yHGw := HGw.out; have yHGLg := HGLg.out; have yHGg := HGg.out; have rg := HSg.out _ hk; try unfold Rg at rg; omega))
      have Bw_13 := Lib.hid (Bw_12.out.off hoff Bw_12.out.lt (fun hk => by have zHZ4 := HZ4.out; have zHZ5 := HZ5.out; have zHZ6 := HZ6.out; have zHZ7 := HZ7.out; have zHZ8 := HZ8.out; have zHZ9 := HZ9.out; have zHZ10 := HZ10.out; have zHZ11 := HZ11.out; have zHZ12 := HZ12.out; have zHZ13 := HZ13.out; have yHPL := HPL.out; have yHGLw := HGLw.out; have yHGw := HGw.out; have yHGLg := HGLg.out; have yHGg := HGg.out; have rg := HSg.out _ hk; try unfold Rg at rg; omega))
      have BX_13 := Lib.hid (BX_12.out.off hoff BX_12.out.lt (fun hk => by have zHZ4 := HZ4.out; have zHZ5 := HZ5.out; have zHZ6 := HZ6.out; have zHZ7 := HZ7.out; have zHZ8 := HZ8.out; have zHZ9 := HZ9.out; have zHZ10 := HZ10.out; have zHZ11 := HZ11.out; have zHZ12 := HZ12.out; have zHZ13 := HZ13.out; have yHPL := HPL.out; have yHGLw := HGLw.out; have yHGw := HGw.out; have yHGLg := HGLg.out; have yHGg := HGg.out; have rg := HSg.out _ hk; try unfold Rg at rg; omega))
      have Bg_13 := Lib.hid (Bg_12.out.off hoff Bg_12.out.lt (fun hk => by exact (HTg.out _ hk).2 rfl))
      have HD_13 := Lib.hid (gmv R_Desk_ok HD0.out HB13.out)
      have Yw_13 := Lib.hid (Yw_12.out.off R_DeskStep_ok hoff (fun k hk hk2 => by have zHZ4 := HZ4.out; have zHZ5 := HZ5.out; have zHZ6 := HZ6.out; have zHZ7 := HZ7.out; have zHZ8 := HZ8.out; have zHZ9 := HZ9.out; have zHZ10 := HZ10.out; have zHZ11 := HZ11.out; have zHZ12 := HZ12.out; have zHZ13 := HZ13.out; have yHPL := HPL.out; have yHGLw := HGLw.out; have yHGw := HGw.out; have yHGLg := HGLg.out; have yHGg := HGg.out; have rg := HSg.out k hk2; try unfold Rg at rg; have rw := HSw.out k hk; try unfold Rg at rw; omega))
      have Yg_13 := Lib.hid (show OwG R_DeskStep wn _ dN _ from ⟨ho, fun k hk => Nat.lt_of_lt_of_le (Yg_12.out.2 k hk) hoff.size⟩)
      have HMV := Lib.hid hmv
      have hzn : decide (zN < 0) = false := decide_eq_false (by omega)
      have hze : (zN != zN) = false := by simp
      have hzb : zN ≤ 4611686018427387904 := by have := HSM.out; omega
      have HZ14 := Lib.hid (hoff.size)
      clear h hmv hzz ho hoff
      have qBg_0 := Bg_13.out.at_ 0 rfl
      have qBg_1 := Bg_13.out.at_ 1 rfl
      have qBg_2 := Bg_13.out.at_ 2 rfl
      have qBg_3 := Bg_13.out.at_ 3 rfl
      have qBg_4 := Bg_13.out.at_ 4 rfl
      have qBg_5 := Bg_13.out.at_ 5 rfl
      go_wp2_with fail
      refine (gheld_DeskStep (by omega) hzb HMV.out (Yg_13.out.rd R_DeskStep_ok)).mono ?_
      intro e w14 h
      obtain ⟨rfl, hb⟩ := heldC_elim h
      clear qBg_0 qBg_1 qBg_2 qBg_3 qBg_4 qBg_5
      have PD_14 := Lib.hid (PD_13.out.call hb)
      have PF_14 := Lib.hid (PF_13.out.call hb)
      have PT_14 := Lib.hid (PT_13.out.call hb)
      have Bw_14 := Lib.hid (Bw_13.out.call hb)
      have BX_14 := Lib.hid (BX_13.out.call hb)
      have Bg_14 := Lib.hid (Bg_13.out.call hb)
      have HD_14 := Lib.hid (gmv R_Desk_ok HD_13.out hb)
      have Yw_14 := Lib.hid (Yw_13.out.mv R_DeskStep_ok hb)
      have Yg_14 := Lib.hid (Yg_13.out.mv R_DeskStep_ok hb)
      have HB14 := Lib.hid (HB13.out.trans ((hb).mono HB13.out.size))
      have HZ15 := Lib.hid ((hb).size)
      clear PD_13 PF_13 PT_13 Bw_13 BX_13 Bg_13 HD_13 Yw_13 Yg_13 HB13
      clear h hb
      go_upto_region 24 with fail
      go_cut [16] (fun s8 wx => ∃ (gh : Nat) (ra0h : Option Addr) (rc0h : Nat) (ra1h : Option Addr) (rc1h : Nat) (ra2h : Option Addr) (rc2h : Nat) (Sh : Nat → Prop), s8 = .pointer (some ⟨gh, 0, none⟩) ∧ Hid (Blk wx gh 46 #[.slice ra0h dL0.length rc0h, .slice ra1h dL1.length rc1h, .slice ra2h dL2.length rc2h, .int .i64 dx3, .int .i64 dx4, .int .i64 dx5]) ∧ Hid (OwG R_DeskStep wx Sh ((dL0, dL1, dL2, dx3, dx4), dx5) [.slice ra0h dL0.length rc0h, .slice ra1h dL1.length rc1h, .slice ra2h dL2.length rc2h, .int .i64 dx3, .int .i64 dx4, .int .i64 dx5]) ∧ Hid (∀ k, Sh k → w14.heap.size ≤ k ∧ k ≠ gh) ∧ Hid (w14.heap.size ≤ gh) ∧ Hid (Below w14.heap.size w14 wx))
      case first =>
        refine wp_region_held_drew (S := (fun V => Below w14.heap.size w14 V)) (by kernel_rfl) ((Below.refl _ _).drew) (fun hHeld => ?_)
        (refine wpAnyH_take (i := 0) (v := ?hv12) rfl (by kernel_rfl) (by kernel_rfl) (by kernel_rfl) (fun _ _ _ h => h) (Or.inl ⟨by kernel_rfl, ?hy12⟩) hHeld ?hr12; case hy12 => (intro w hSw; (try dsimp only at hSw); have k0 := (hSw.cell (p := ⟨W.heap.size, 0, none⟩) PD_14.out.lt).trans (PD_14.out.at_ 0 rfl); have k1 := (hSw.cell (p := ⟨W.heap.size, 1, none⟩) PD_14.out.lt).trans (PD_14.out.at_ 1 rfl); have k2 := (hSw.cell (p := ⟨W.heap.size, 2, none⟩) PD_14.out.lt).trans (PD_14.out.at_ 2 rfl); have k3 := (hSw.cell (p := ⟨W.heap.size, 3, none⟩) PD_14.out.lt).trans (PD_14.out.at_ 3 rfl); have k4 := (hSw.cell (p := ⟨W.heap.size, 4, none⟩) PD_14.out.lt).trans (PD_14.out.at_ 4 rfl); clear hSw; go_simp; try with_reducible rfl))
        simp only [Act.put, List.getElem_toArray, List.getElem_cons_succ, List.getElem_cons_zero, List.setIfInBounds_toArray, List.set_cons_zero, List.set_cons_succ]
        (refine wpAnyH_take (i := 2) (v := ?hv13) rfl (by kernel_rfl) (by kernel_rfl) (by kernel_rfl) (fun _ _ _ h => h) (Or.inl ⟨by kernel_rfl, ?hy13⟩) hHeld ?hr13; case hy13 => (intro w hSw; (try dsimp only at hSw); have k0 := (hSw.cell (p := ⟨(W.heap.size + 1), 0, none⟩) PF_14.out.lt).trans (PF_14.out.at_ 0 rfl); have k1 := (hSw.cell (p := ⟨(W.heap.size + 1), 1, none⟩) PF_14.out.lt).trans (PF_14.out.at_ 1 rfl); clear hSw; go_simp; try with_reducible rfl))
        simp only [Act.put, List.getElem_toArray, List.getElem_cons_succ, List.getElem_cons_zero, List.setIfInBounds_toArray, List.set_cons_zero, List.set_cons_succ]
        (refine wpAnyH_take (i := 4) (v := ?hv14) rfl (by kernel_rfl) (by kernel_rfl) (by kernel_rfl) (fun _ _ _ h => h) (Or.inl ⟨by kernel_rfl, ?hy14⟩) hHeld ?hr14; case hy14 => (intro w hSw; (try dsimp only at hSw); have k0 := (hSw.cell (p := ⟨(W.heap.size + 1 + 1), 0, none⟩) PT_14.out.lt).trans (PT_14.out.at_ 0 rfl); have k1 := (hSw.cell (p := ⟨(W.heap.size + 1 + 1), 1, none⟩) PT_14.out.lt).trans (PT_14.out.at_ 1 rfl); clear hSw; go_simp; try with_reducible rfl))
        simp only [Act.put, List.getElem_toArray, List.getElem_cons_succ, List.getElem_cons_zero, List.setIfInBounds_toArray, List.set_cons_zero, List.set_cons_succ]
        (refine wpAnyH_take (i := 6) (v := ?hv15) rfl (by kernel_rfl) (by kernel_rfl) (by kernel_rfl) (fun _ _ _ h => h) (Or.inl ⟨by kernel_rfl, ?hy15⟩) hHeld ?hr15; case hy15 => (intro w hSw; (try dsimp only at hSw); go_simp; try with_reducible rfl))
        simp only [Act.put, List.getElem_toArray, List.getElem_cons_succ, List.getElem_cons_zero, List.setIfInBounds_toArray, List.set_cons_zero, List.set_cons_succ]
        refine wpAnyH_ready (rs := [1, 8]) (by kernel_rfl) (by simp) ?_
        refine AllReadyH.cons rfl (fun K hK => ?_) (AllReadyH.cons rfl (fun K hK => ?_) (AllReadyH.nil))
        · skip
          go_simp
          go_at_call 41
          refine (gto_Desk HSZD.out (gmv R_Desk_ok HD_14.out hHeld)).mono ?_
          intro e v24_1 h
          obtain ⟨us, rfl, hu, hb⟩ := newV_elim h
          obtain ⟨aD0_24_1, cD0_24_1, aD1_24_1, cD1_24_1, aD2_24_1, cD2_24_1, rfl, hu⟩ := owc_Desk hu
          have ND := Lib.hid (owG_new hu)
          clear h hu
          refine hK.out _ _ (hHeld.trans (hb.mono hHeld.size)) (fun hHeld => ?_)
          clear hK K hb
          try simp only [Act.put, List.getElem_toArray, List.getElem_cons_succ, List.getElem_cons_zero, List.setIfInBounds_toArray, List.set_cons_zero, List.set_cons_succ]
          refine wpAnyH_ready (rs := [3, 8]) (by kernel_rfl) (by simp) ?_
          refine AllReadyH.cons rfl (fun K hK => ?_) (AllReadyH.cons rfl (fun K hK => ?_) (AllReadyH.nil))
          · skip
            go_simp
            go_at_call 42
            refine (to_Label (by simp only [R_Label, Pr, I, atom] <;> omega)).mono ?_
            intro e v24_2 h
            obtain ⟨us, rfl, hu, hb⟩ := newV_elim h
            obtain rfl := ow0_Label hu
            have ND := Lib.hid (ND.out.mv R_Desk_ok hb)
            clear h hu
            refine hK.out _ _ (hHeld.trans (hb.mono hHeld.size)) (fun hHeld => ?_)
            clear hK K hb
            try simp only [Act.put, List.getElem_toArray, List.getElem_cons_succ, List.getElem_cons_zero, List.setIfInBounds_toArray, List.set_cons_zero, List.set_cons_succ]
            refine wpAnyH_ready (rs := [5, 8]) (by kernel_rfl) (by simp) ?_
            refine AllReadyH.cons rfl (fun K hK => ?_) (AllReadyH.cons rfl (fun K hK => ?_) (AllReadyH.nil))
            · skip
              go_simp
              go_at_call 42
              refine (to_Label (by simp only [R_Label, Pr, I, atom] <;> omega)).mono ?_
              intro e v24_3 h
              obtain ⟨us, rfl, hu, hb⟩ := newV_elim h
              obtain rfl := ow0_Label hu
              have ND := Lib.hid (ND.out.mv R_Desk_ok hb)
              clear h hu
              refine hK.out _ _ (hHeld.trans (hb.mono hHeld.size)) (fun hHeld => ?_)
              clear hK K hb
              try simp only [Act.put, List.getElem_toArray, List.getElem_cons_succ, List.getElem_cons_zero, List.setIfInBounds_toArray, List.set_cons_zero, List.set_cons_succ]
              refine wpAnyH_ready (rs := [7, 8]) (by kernel_rfl) (by simp) ?_
              refine AllReadyH.cons rfl (fun K hK => ?_) (AllReadyH.cons rfl (fun K hK => ?_) (AllReadyH.nil))
              · skip
                go_simp
                go_at_call 27
                refine (gletdown_impl (HSEN.out.mv (HB14.out.trans (hHeld.mono HB14.out.size))) (ND.out.rd R_Desk_ok)).mono ?_
                intro e v24_4 h
                rw [HDD.out] at h
                obtain ⟨us, rfl, hu, hb⟩ := newV_elim h
                obtain ⟨ra024_4, rc024_4, ra124_4, rc124_4, ra224_4, rc224_4, rfl, hu⟩ := owc_DeskStep hu
                have hHeld0 := Lib.hid hHeld
                have OW := Lib.hid (owG_new hu)
                clear h hu ND
                refine hK.out _ _ (hHeld.trans (hb.mono hHeld.size)) (fun hHeld => ?_)
                clear hK K hb
                try simp only [Act.put, List.getElem_toArray, List.getElem_cons_succ, List.getElem_cons_zero, List.setIfInBounds_toArray, List.set_cons_zero, List.set_cons_succ]
                refine wpAnyH_ready (rs := [8]) (by kernel_rfl) (by simp) ?_
                refine AllReadyH.cons rfl (fun K hK => ?_) (AllReadyH.nil)
                go_simp
                have hb : Below (v24_4).heap.size (v24_4) (v24_4.alloc (.cells #[.slice none 0 0, .slice none 0 0, .slice none 0 0, .int .i64 0, .int .i64 0, .int .i64 0] 46)) := (Below.refl _ _).alloc (Nat.le_refl _) _
                have OW0 := OW
                have OW := Lib.hid (OW.out.mv R_DeskStep_ok hb)
                have GB := Lib.hid (show Blk (v24_4.alloc (.cells #[.slice none 0 0, .slice none 0 0, .slice none 0 0, .int .i64 0, .int .i64 0, .int .i64 0] 46)) v24_4.heap.size 46 #[.slice none 0 0, .slice none 0 0, .slice none 0 0, .int .i64 0, .int .i64 0, .int .i64 0] from Blk.new (v24_4) 46 #[.slice none 0 0, .slice none 0 0, .slice none 0 0, .int .i64 0, .int .i64 0, .int .i64 0])
                have HGE := Lib.hid (show w14.heap.size ≤ v24_4.heap.size from hHeld.size)
                have HTB := Lib.hid (show ∀ k, Rg v24_3.heap.size v24_4.heap.size k → w14.heap.size ≤ k ∧ k ≠ v24_4.heap.size from fun k hk => ⟨Nat.le_trans hHeld0.out.size hk.1, by have := hk.2; omega⟩)
                have hPre := Lib.hid hHeld
                refine hK.out _ _ (hHeld.trans (hb.mono hHeld.size)) (fun hHeld => ?_)
                clear hK K hb
                try simp only [Act.put, List.getElem_toArray, List.getElem_cons_succ, List.getElem_cons_zero, List.setIfInBounds_toArray, List.set_cons_zero, List.set_cons_succ]
                refine wpAnyH_ready (rs := [9]) (by kernel_rfl) (by simp) ?_
                refine AllReadyH.cons rfl (fun K hK => ?_) (AllReadyH.nil)
                go_simp
                refine hK.out _ _ (hPre.out.alloc HGE.out (.cells #[.slice ra024_4 dL0.length rc024_4, .slice ra124_4 dL1.length rc124_4, .slice ra224_4 dL2.length rc224_4, .int .i64 dx3, .int .i64 dx4, .int .i64 dx5] 46)) (fun hHeld => ?_)
                clear hK K
                try simp only [Act.put, List.getElem_toArray, List.getElem_cons_succ, List.getElem_cons_zero, List.setIfInBounds_toArray, List.set_cons_zero, List.set_cons_succ]
                refine wpAnyH_done (by kernel_rfl) ?_ _
                go_wp2_with fail
                go_meet
                exact ⟨_, _, _, _, _, _, _, _, rfl, Lib.hid (Blk.new v24_4 46 #[.slice ra024_4 dL0.length rc024_4, .slice ra124_4 dL1.length rc124_4, .slice ra224_4 dL2.length rc224_4, .int .i64 dx3, .int .i64 dx4, .int .i64 dx5]), Lib.hid (OW0.out.mv R_DeskStep_ok ((Below.refl _ _).alloc (Nat.le_refl _) (.cells #[.slice ra024_4 dL0.length rc024_4, .slice ra124_4 dL1.length rc124_4, .slice ra224_4 dL2.length rc224_4, .int .i64 dx3, .int .i64 dx4, .int .i64 dx5] 46))), HTB, HGE, Lib.hid hHeld⟩
              · skip
                go_simp
                have hb : Below (v24_3).heap.size (v24_3) (v24_3.alloc (.cells #[.slice none 0 0, .slice none 0 0, .slice none 0 0, .int .i64 0, .int .i64 0, .int .i64 0] 46)) := (Below.refl _ _).alloc (Nat.le_refl _) _
                have ND := Lib.hid (ND.out.mv R_Desk_ok hb)
                have GB := Lib.hid (show Blk (v24_3.alloc (.cells #[.slice none 0 0, .slice none 0 0, .slice none 0 0, .int .i64 0, .int .i64 0, .int .i64 0] 46)) v24_3.heap.size 46 #[.slice none 0 0, .slice none 0 0, .slice none 0 0, .int .i64 0, .int .i64 0, .int .i64 0] from Blk.new (v24_3) 46 #[.slice none 0 0, .slice none 0 0, .slice none 0 0, .int .i64 0, .int .i64 0, .int .i64 0])
                have HGE := Lib.hid (show w14.heap.size ≤ v24_3.heap.size from hHeld.size)
                refine hK.out _ _ (hHeld.trans (hb.mono hHeld.size)) (fun hHeld => ?_)
                clear hK K hb
                try simp only [Act.put, List.getElem_toArray, List.getElem_cons_succ, List.getElem_cons_zero, List.setIfInBounds_toArray, List.set_cons_zero, List.set_cons_succ]
                have GBl := Lib.hid (show v24_3.heap.size < (v24_3.alloc (.cells #[.slice none 0 0, .slice none 0 0, .slice none 0 0, .int .i64 0, .int .i64 0, .int .i64 0] 46)).heap.size from GB.out.lt)
                refine wpAnyH_ready (rs := [7]) (by kernel_rfl) (by simp) ?_
                refine AllReadyH.cons rfl (fun K hK => ?_) (AllReadyH.nil)
                go_simp
                go_at_call 27
                refine (gletdown_impl (HSEN.out.mv (HB14.out.trans (hHeld.mono HB14.out.size))) (ND.out.rd R_Desk_ok)).mono ?_
                intro e v24_5 h
                rw [HDD.out] at h
                obtain ⟨us, rfl, hu, hb⟩ := newV_elim h
                obtain ⟨ra024_5, rc024_5, ra124_5, rc124_5, ra224_5, rc224_5, rfl, hu⟩ := owc_DeskStep hu
                have hHeld0 := Lib.hid hHeld
                have GB := Lib.hid (GB.out.call hb)
                have OW := Lib.hid (owG_new hu)
                have HTB := Lib.hid (show ∀ k, Rg (v24_3.alloc (.cells #[.slice none 0 0, .slice none 0 0, .slice none 0 0, .int .i64 0, .int .i64 0, .int .i64 0] 46)).heap.size v24_5.heap.size k → w14.heap.size ≤ k ∧ k ≠ v24_3.heap.size from fun k hk => ⟨Nat.le_trans hHeld.size hk.1, by have h1 := hk.1; have h2 := GBl.out; omega⟩)
                clear h hu ND
                refine hK.out _ _ (hHeld.trans (hb.mono hHeld.size)) (fun hHeld => ?_)
                clear hK K hb
                try simp only [Act.put, List.getElem_toArray, List.getElem_cons_succ, List.getElem_cons_zero, List.setIfInBounds_toArray, List.set_cons_zero, List.set_cons_succ]
                have GBl := Lib.hid (show v24_3.heap.size < v24_5.heap.size from GB.out.lt)
                refine wpAnyH_ready (rs := [9]) (by kernel_rfl) (by simp) ?_
                refine AllReadyH.cons rfl (fun K hK => ?_) (AllReadyH.nil)
                have q0 := GB.out.at_ 0 rfl
                have f0 := GB.out.soft 0
                have q1 := GB.out.at_ 1 rfl
                have f1 := GB.out.soft 1
                have q2 := GB.out.at_ 2 rfl
                have f2 := GB.out.soft 2
                have q3 := GB.out.at_ 3 rfl
                have f3 := GB.out.soft 3
                have q4 := GB.out.at_ 4 rfl
                have f4 := GB.out.soft 4
                have q5 := GB.out.at_ 5 rfl
                have f5 := GB.out.soft 5
                go_simp
                refine hK.out _ _ ((((((hHeld.setCell (p := ⟨v24_3.heap.size, 0, none⟩) (by exact HGE.out) (.slice ra024_5 dL0.length rc024_5)).setCell (p := ⟨v24_3.heap.size, 1, none⟩) (by exact HGE.out) (.slice ra124_5 dL1.length rc124_5)).setCell (p := ⟨v24_3.heap.size, 2, none⟩) (by exact HGE.out) (.slice ra224_5 dL2.length rc224_5)).setCell (p := ⟨v24_3.heap.size, 3, none⟩) (by exact HGE.out) (.int .i64 dx3)).setCell (p := ⟨v24_3.heap.size, 4, none⟩) (by exact HGE.out) (.int .i64 dx4)).setCell (p := ⟨v24_3.heap.size, 5, none⟩) (by exact HGE.out) (.int .i64 dx5)) (fun hHeld => ?_)
                clear hK K q0 f0 q1 f1 q2 f2 q3 f3 q4 f4 q5 f5
                try simp only [Act.put, List.getElem_toArray, List.getElem_cons_succ, List.getElem_cons_zero, List.setIfInBounds_toArray, List.set_cons_zero, List.set_cons_succ]
                refine wpAnyH_done (by kernel_rfl) ?_ _
                go_wp2_with fail
                go_meet
                exact ⟨_, _, _, _, _, _, _, _, rfl, Lib.hid (sets_DeskStep GB.out), Lib.hid (OW.out.off R_DeskStep_ok (soff_DeskStep _ _ _ _ _ _ _ _) (fun k hk h2 => (HTB.out k hk).2 h2)), HTB, HGE, Lib.hid hHeld⟩
            · skip
              go_simp
              have hb : Below (v24_2).heap.size (v24_2) (v24_2.alloc (.cells #[.slice none 0 0, .slice none 0 0, .slice none 0 0, .int .i64 0, .int .i64 0, .int .i64 0] 46)) := (Below.refl _ _).alloc (Nat.le_refl _) _
              have ND := Lib.hid (ND.out.mv R_Desk_ok hb)
              have GB := Lib.hid (show Blk (v24_2.alloc (.cells #[.slice none 0 0, .slice none 0 0, .slice none 0 0, .int .i64 0, .int .i64 0, .int .i64 0] 46)) v24_2.heap.size 46 #[.slice none 0 0, .slice none 0 0, .slice none 0 0, .int .i64 0, .int .i64 0, .int .i64 0] from Blk.new (v24_2) 46 #[.slice none 0 0, .slice none 0 0, .slice none 0 0, .int .i64 0, .int .i64 0, .int .i64 0])
              have HGE := Lib.hid (show w14.heap.size ≤ v24_2.heap.size from hHeld.size)
              refine hK.out _ _ (hHeld.trans (hb.mono hHeld.size)) (fun hHeld => ?_)
              clear hK K hb
              try simp only [Act.put, List.getElem_toArray, List.getElem_cons_succ, List.getElem_cons_zero, List.setIfInBounds_toArray, List.set_cons_zero, List.set_cons_succ]
              have GBl := Lib.hid (show v24_2.heap.size < (v24_2.alloc (.cells #[.slice none 0 0, .slice none 0 0, .slice none 0 0, .int .i64 0, .int .i64 0, .int .i64 0] 46)).heap.size from GB.out.lt)
              refine wpAnyH_ready (rs := [5]) (by kernel_rfl) (by simp) ?_
              refine AllReadyH.cons rfl (fun K hK => ?_) (AllReadyH.nil)
              go_simp
              go_at_call 42
              refine (to_Label (by simp only [R_Label, Pr, I, atom] <;> omega)).mono ?_
              intro e v24_6 h
              obtain ⟨us, rfl, hu, hb⟩ := newV_elim h
              obtain rfl := ow0_Label hu
              have ND := Lib.hid (ND.out.mv R_Desk_ok hb)
              have GB := Lib.hid (GB.out.call hb)
              clear h hu
              refine hK.out _ _ (hHeld.trans (hb.mono hHeld.size)) (fun hHeld => ?_)
              clear hK K hb
              try simp only [Act.put, List.getElem_toArray, List.getElem_cons_succ, List.getElem_cons_zero, List.setIfInBounds_toArray, List.set_cons_zero, List.set_cons_succ]
              have GBl := Lib.hid (show v24_2.heap.size < v24_6.heap.size from GB.out.lt)
              refine wpAnyH_ready (rs := [7]) (by kernel_rfl) (by simp) ?_
              refine AllReadyH.cons rfl (fun K hK => ?_) (AllReadyH.nil)
              go_simp
              go_at_call 27
              refine (gletdown_impl (HSEN.out.mv (HB14.out.trans (hHeld.mono HB14.out.size))) (ND.out.rd R_Desk_ok)).mono ?_
              intro e v24_7 h
              rw [HDD.out] at h
              obtain ⟨us, rfl, hu, hb⟩ := newV_elim h
              obtain ⟨ra024_7, rc024_7, ra124_7, rc124_7, ra224_7, rc224_7, rfl, hu⟩ := owc_DeskStep hu
              have hHeld0 := Lib.hid hHeld
              have GB := Lib.hid (GB.out.call hb)
              have OW := Lib.hid (owG_new hu)
              have HTB := Lib.hid (show ∀ k, Rg v24_6.heap.size v24_7.heap.size k → w14.heap.size ≤ k ∧ k ≠ v24_2.heap.size from fun k hk => ⟨Nat.le_trans hHeld.size hk.1, by have h1 := hk.1; have h2 := GBl.out; omega⟩)
              clear h hu ND
              refine hK.out _ _ (hHeld.trans (hb.mono hHeld.size)) (fun hHeld => ?_)
              clear hK K hb
              try simp only [Act.put, List.getElem_toArray, List.getElem_cons_succ, List.getElem_cons_zero, List.setIfInBounds_toArray, List.set_cons_zero, List.set_cons_succ]
              have GBl := Lib.hid (show v24_2.heap.size < v24_7.heap.size from GB.out.lt)
              refine wpAnyH_ready (rs := [9]) (by kernel_rfl) (by simp) ?_
              refine AllReadyH.cons rfl (fun K hK => ?_) (AllReadyH.nil)
              have q0 := GB.out.at_ 0 rfl
              have f0 := GB.out.soft 0
              have q1 := GB.out.at_ 1 rfl
              have f1 := GB.out.soft 1
              have q2 := GB.out.at_ 2 rfl
              have f2 := GB.out.soft 2
              have q3 := GB.out.at_ 3 rfl
              have f3 := GB.out.soft 3
              have q4 := GB.out.at_ 4 rfl
              have f4 := GB.out.soft 4
              have q5 := GB.out.at_ 5 rfl
              have f5 := GB.out.soft 5
              go_simp
              refine hK.out _ _ ((((((hHeld.setCell (p := ⟨v24_2.heap.size, 0, none⟩) (by exact HGE.out) (.slice ra024_7 dL0.length rc024_7)).setCell (p := ⟨v24_2.heap.size, 1, none⟩) (by exact HGE.out) (.slice ra124_7 dL1.length rc124_7)).setCell (p := ⟨v24_2.heap.size, 2, none⟩) (by exact HGE.out) (.slice ra224_7 dL2.length rc224_7)).setCell (p := ⟨v24_2.heap.size, 3, none⟩) (by exact HGE.out) (.int .i64 dx3)).setCell (p := ⟨v24_2.heap.size, 4, none⟩) (by exact HGE.out) (.int .i64 dx4)).setCell (p := ⟨v24_2.heap.size, 5, none⟩) (by exact HGE.out) (.int .i64 dx5)) (fun hHeld => ?_)
              clear hK K q0 f0 q1 f1 q2 f2 q3 f3 q4 f4 q5 f5
              try simp only [Act.put, List.getElem_toArray, List.getElem_cons_succ, List.getElem_cons_zero, List.setIfInBounds_toArray, List.set_cons_zero, List.set_cons_succ]
              refine wpAnyH_done (by kernel_rfl) ?_ _
              go_wp2_with fail
              go_meet
              exact ⟨_, _, _, _, _, _, _, _, rfl, Lib.hid (sets_DeskStep GB.out), Lib.hid (OW.out.off R_DeskStep_ok (soff_DeskStep _ _ _ _ _ _ _ _) (fun k hk h2 => (HTB.out k hk).2 h2)), HTB, HGE, Lib.hid hHeld⟩
          · skip
            go_simp
            have hb : Below (v24_1).heap.size (v24_1) (v24_1.alloc (.cells #[.slice none 0 0, .slice none 0 0, .slice none 0 0, .int .i64 0, .int .i64 0, .int .i64 0] 46)) := (Below.refl _ _).alloc (Nat.le_refl _) _
            have ND := Lib.hid (ND.out.mv R_Desk_ok hb)
            have GB := Lib.hid (show Blk (v24_1.alloc (.cells #[.slice none 0 0, .slice none 0 0, .slice none 0 0, .int .i64 0, .int .i64 0, .int .i64 0] 46)) v24_1.heap.size 46 #[.slice none 0 0, .slice none 0 0, .slice none 0 0, .int .i64 0, .int .i64 0, .int .i64 0] from Blk.new (v24_1) 46 #[.slice none 0 0, .slice none 0 0, .slice none 0 0, .int .i64 0, .int .i64 0, .int .i64 0])
            have HGE := Lib.hid (show w14.heap.size ≤ v24_1.heap.size from hHeld.size)
            refine hK.out _ _ (hHeld.trans (hb.mono hHeld.size)) (fun hHeld => ?_)
            clear hK K hb
            try simp only [Act.put, List.getElem_toArray, List.getElem_cons_succ, List.getElem_cons_zero, List.setIfInBounds_toArray, List.set_cons_zero, List.set_cons_succ]
            have GBl := Lib.hid (show v24_1.heap.size < (v24_1.alloc (.cells #[.slice none 0 0, .slice none 0 0, .slice none 0 0, .int .i64 0, .int .i64 0, .int .i64 0] 46)).heap.size from GB.out.lt)
            refine wpAnyH_ready (rs := [3]) (by kernel_rfl) (by simp) ?_
            refine AllReadyH.cons rfl (fun K hK => ?_) (AllReadyH.nil)
            go_simp
            go_at_call 42
            refine (to_Label (by simp only [R_Label, Pr, I, atom] <;> omega)).mono ?_
            intro e v24_8 h
            obtain ⟨us, rfl, hu, hb⟩ := newV_elim h
            obtain rfl := ow0_Label hu
            have ND := Lib.hid (ND.out.mv R_Desk_ok hb)
            have GB := Lib.hid (GB.out.call hb)
            clear h hu
            refine hK.out _ _ (hHeld.trans (hb.mono hHeld.size)) (fun hHeld => ?_)
            clear hK K hb
            try simp only [Act.put, List.getElem_toArray, List.getElem_cons_succ, List.getElem_cons_zero, List.setIfInBounds_toArray, List.set_cons_zero, List.set_cons_succ]
            have GBl := Lib.hid (show v24_1.heap.size < v24_8.heap.size from GB.out.lt)
            refine wpAnyH_ready (rs := [5]) (by kernel_rfl) (by simp) ?_
            refine AllReadyH.cons rfl (fun K hK => ?_) (AllReadyH.nil)
            go_simp
            go_at_call 42
            refine (to_Label (by simp only [R_Label, Pr, I, atom] <;> omega)).mono ?_
            intro e v24_9 h
            obtain ⟨us, rfl, hu, hb⟩ := newV_elim h
            obtain rfl := ow0_Label hu
            have ND := Lib.hid (ND.out.mv R_Desk_ok hb)
            have GB := Lib.hid (GB.out.call hb)
            clear h hu
            refine hK.out _ _ (hHeld.trans (hb.mono hHeld.size)) (fun hHeld => ?_)
            clear hK K hb
            try simp only [Act.put, List.getElem_toArray, List.getElem_cons_succ, List.getElem_cons_zero, List.setIfInBounds_toArray, List.set_cons_zero, List.set_cons_succ]
            have GBl := Lib.hid (show v24_1.heap.size < v24_9.heap.size from GB.out.lt)
            refine wpAnyH_ready (rs := [7]) (by kernel_rfl) (by simp) ?_
            refine AllReadyH.cons rfl (fun K hK => ?_) (AllReadyH.nil)
            go_simp
            go_at_call 27
            refine (gletdown_impl (HSEN.out.mv (HB14.out.trans (hHeld.mono HB14.out.size))) (ND.out.rd R_Desk_ok)).mono ?_
            intro e v24_10 h
            rw [HDD.out] at h
            obtain ⟨us, rfl, hu, hb⟩ := newV_elim h
            obtain ⟨ra024_10, rc024_10, ra124_10, rc124_10, ra224_10, rc224_10, rfl, hu⟩ := owc_DeskStep hu
            have hHeld0 := Lib.hid hHeld
            have GB := Lib.hid (GB.out.call hb)
            have OW := Lib.hid (owG_new hu)
            have HTB := Lib.hid (show ∀ k, Rg v24_9.heap.size v24_10.heap.size k → w14.heap.size ≤ k ∧ k ≠ v24_1.heap.size from fun k hk => ⟨Nat.le_trans hHeld.size hk.1, by have h1 := hk.1; have h2 := GBl.out; omega⟩)
            clear h hu ND
            refine hK.out _ _ (hHeld.trans (hb.mono hHeld.size)) (fun hHeld => ?_)
            clear hK K hb
            try simp only [Act.put, List.getElem_toArray, List.getElem_cons_succ, List.getElem_cons_zero, List.setIfInBounds_toArray, List.set_cons_zero, List.set_cons_succ]
            have GBl := Lib.hid (show v24_1.heap.size < v24_10.heap.size from GB.out.lt)
            refine wpAnyH_ready (rs := [9]) (by kernel_rfl) (by simp) ?_
            refine AllReadyH.cons rfl (fun K hK => ?_) (AllReadyH.nil)
            have q0 := GB.out.at_ 0 rfl
            have f0 := GB.out.soft 0
            have q1 := GB.out.at_ 1 rfl
            have f1 := GB.out.soft 1
            have q2 := GB.out.at_ 2 rfl
            have f2 := GB.out.soft 2
            have q3 := GB.out.at_ 3 rfl
            have f3 := GB.out.soft 3
            have q4 := GB.out.at_ 4 rfl
            have f4 := GB.out.soft 4
            have q5 := GB.out.at_ 5 rfl
            have f5 := GB.out.soft 5
            go_simp
            refine hK.out _ _ ((((((hHeld.setCell (p := ⟨v24_1.heap.size, 0, none⟩) (by exact HGE.out) (.slice ra024_10 dL0.length rc024_10)).setCell (p := ⟨v24_1.heap.size, 1, none⟩) (by exact HGE.out) (.slice ra124_10 dL1.length rc124_10)).setCell (p := ⟨v24_1.heap.size, 2, none⟩) (by exact HGE.out) (.slice ra224_10 dL2.length rc224_10)).setCell (p := ⟨v24_1.heap.size, 3, none⟩) (by exact HGE.out) (.int .i64 dx3)).setCell (p := ⟨v24_1.heap.size, 4, none⟩) (by exact HGE.out) (.int .i64 dx4)).setCell (p := ⟨v24_1.heap.size, 5, none⟩) (by exact HGE.out) (.int .i64 dx5)) (fun hHeld => ?_)
            clear hK K q0 f0 q1 f1 q2 f2 q3 f3 q4 f4 q5 f5
            try simp only [Act.put, List.getElem_toArray, List.getElem_cons_succ, List.getElem_cons_zero, List.setIfInBounds_toArray, List.set_cons_zero, List.set_cons_succ]
            refine wpAnyH_done (by kernel_rfl) ?_ _
            go_wp2_with fail
            go_meet
            exact ⟨_, _, _, _, _, _, _, _, rfl, Lib.hid (sets_DeskStep GB.out), Lib.hid (OW.out.off R_DeskStep_ok (soff_DeskStep _ _ _ _ _ _ _ _) (fun k hk h2 => (HTB.out k hk).2 h2)), HTB, HGE, Lib.hid hHeld⟩
        · skip
          go_simp
          have hb : Below (w14.drew).heap.size (w14.drew) ((w14.drew).alloc (.cells #[.slice none 0 0, .slice none 0 0, .slice none 0 0, .int .i64 0, .int .i64 0, .int .i64 0] 46)) := (Below.refl _ _).alloc (Nat.le_refl _) _
          have GB := Lib.hid (show Blk ((w14.drew).alloc (.cells #[.slice none 0 0, .slice none 0 0, .slice none 0 0, .int .i64 0, .int .i64 0, .int .i64 0] 46)) w14.heap.size 46 #[.slice none 0 0, .slice none 0 0, .slice none 0 0, .int .i64 0, .int .i64 0, .int .i64 0] from Blk.new (w14.drew) 46 #[.slice none 0 0, .slice none 0 0, .slice none 0 0, .int .i64 0, .int .i64 0, .int .i64 0])
          have HGE := Lib.hid (show w14.heap.size ≤ w14.heap.size from hHeld.size)
          refine hK.out _ _ (hHeld.trans (hb.mono hHeld.size)) (fun hHeld => ?_)
          clear hK K hb
          try simp only [Act.put, List.getElem_toArray, List.getElem_cons_succ, List.getElem_cons_zero, List.setIfInBounds_toArray, List.set_cons_zero, List.set_cons_succ]
          have GBl := Lib.hid (show w14.heap.size < ((w14.drew).alloc (.cells #[.slice none 0 0, .slice none 0 0, .slice none 0 0, .int .i64 0, .int .i64 0, .int .i64 0] 46)).heap.size from GB.out.lt)
          refine wpAnyH_ready (rs := [1]) (by kernel_rfl) (by simp) ?_
          refine AllReadyH.cons rfl (fun K hK => ?_) (AllReadyH.nil)
          go_simp
          go_at_call 41
          refine (gto_Desk HSZD.out (gmv R_Desk_ok HD_14.out hHeld)).mono ?_
          intro e v24_11 h
          obtain ⟨us, rfl, hu, hb⟩ := newV_elim h
          obtain ⟨aD0_24_11, cD0_24_11, aD1_24_11, cD1_24_11, aD2_24_11, cD2_24_11, rfl, hu⟩ := owc_Desk hu
          have GB := Lib.hid (GB.out.call hb)
          have ND := Lib.hid (owG_new hu)
          clear h hu
          refine hK.out _ _ (hHeld.trans (hb.mono hHeld.size)) (fun hHeld => ?_)
          clear hK K hb
          try simp only [Act.put, List.getElem_toArray, List.getElem_cons_succ, List.getElem_cons_zero, List.setIfInBounds_toArray, List.set_cons_zero, List.set_cons_succ]
          have GBl := Lib.hid (show w14.heap.size < v24_11.heap.size from GB.out.lt)
          refine wpAnyH_ready (rs := [3]) (by kernel_rfl) (by simp) ?_
          refine AllReadyH.cons rfl (fun K hK => ?_) (AllReadyH.nil)
          go_simp
          go_at_call 42
          refine (to_Label (by simp only [R_Label, Pr, I, atom] <;> omega)).mono ?_
          intro e v24_12 h
          obtain ⟨us, rfl, hu, hb⟩ := newV_elim h
          obtain rfl := ow0_Label hu
          have ND := Lib.hid (ND.out.mv R_Desk_ok hb)
          have GB := Lib.hid (GB.out.call hb)
          clear h hu
          refine hK.out _ _ (hHeld.trans (hb.mono hHeld.size)) (fun hHeld => ?_)
          clear hK K hb
          try simp only [Act.put, List.getElem_toArray, List.getElem_cons_succ, List.getElem_cons_zero, List.setIfInBounds_toArray, List.set_cons_zero, List.set_cons_succ]
          have GBl := Lib.hid (show w14.heap.size < v24_12.heap.size from GB.out.lt)
          refine wpAnyH_ready (rs := [5]) (by kernel_rfl) (by simp) ?_
          refine AllReadyH.cons rfl (fun K hK => ?_) (AllReadyH.nil)
          go_simp
          go_at_call 42
          refine (to_Label (by simp only [R_Label, Pr, I, atom] <;> omega)).mono ?_
          intro e v24_13 h
          obtain ⟨us, rfl, hu, hb⟩ := newV_elim h
          obtain rfl := ow0_Label hu
          have ND := Lib.hid (ND.out.mv R_Desk_ok hb)
          have GB := Lib.hid (GB.out.call hb)
          clear h hu
          refine hK.out _ _ (hHeld.trans (hb.mono hHeld.size)) (fun hHeld => ?_)
          clear hK K hb
          try simp only [Act.put, List.getElem_toArray, List.getElem_cons_succ, List.getElem_cons_zero, List.setIfInBounds_toArray, List.set_cons_zero, List.set_cons_succ]
          have GBl := Lib.hid (show w14.heap.size < v24_13.heap.size from GB.out.lt)
          refine wpAnyH_ready (rs := [7]) (by kernel_rfl) (by simp) ?_
          refine AllReadyH.cons rfl (fun K hK => ?_) (AllReadyH.nil)
          go_simp
          go_at_call 27
          refine (gletdown_impl (HSEN.out.mv (HB14.out.trans (hHeld.mono HB14.out.size))) (ND.out.rd R_Desk_ok)).mono ?_
          intro e v24_14 h
          rw [HDD.out] at h
          obtain ⟨us, rfl, hu, hb⟩ := newV_elim h
          obtain ⟨ra024_14, rc024_14, ra124_14, rc124_14, ra224_14, rc224_14, rfl, hu⟩ := owc_DeskStep hu
          have hHeld0 := Lib.hid hHeld
          have GB := Lib.hid (GB.out.call hb)
          have OW := Lib.hid (owG_new hu)
          have HTB := Lib.hid (show ∀ k, Rg v24_13.heap.size v24_14.heap.size k → w14.heap.size ≤ k ∧ k ≠ w14.heap.size from fun k hk => ⟨Nat.le_trans hHeld.size hk.1, by have h1 := hk.1; have h2 := GBl.out; omega⟩)
          clear h hu ND
          refine hK.out _ _ (hHeld.trans (hb.mono hHeld.size)) (fun hHeld => ?_)
          clear hK K hb
          try simp only [Act.put, List.getElem_toArray, List.getElem_cons_succ, List.getElem_cons_zero, List.setIfInBounds_toArray, List.set_cons_zero, List.set_cons_succ]
          have GBl := Lib.hid (show w14.heap.size < v24_14.heap.size from GB.out.lt)
          refine wpAnyH_ready (rs := [9]) (by kernel_rfl) (by simp) ?_
          refine AllReadyH.cons rfl (fun K hK => ?_) (AllReadyH.nil)
          have q0 := GB.out.at_ 0 rfl
          have f0 := GB.out.soft 0
          have q1 := GB.out.at_ 1 rfl
          have f1 := GB.out.soft 1
          have q2 := GB.out.at_ 2 rfl
          have f2 := GB.out.soft 2
          have q3 := GB.out.at_ 3 rfl
          have f3 := GB.out.soft 3
          have q4 := GB.out.at_ 4 rfl
          have f4 := GB.out.soft 4
          have q5 := GB.out.at_ 5 rfl
          have f5 := GB.out.soft 5
          go_simp
          refine hK.out _ _ ((((((hHeld.setCell (p := ⟨w14.heap.size, 0, none⟩) (by exact HGE.out) (.slice ra024_14 dL0.length rc024_14)).setCell (p := ⟨w14.heap.size, 1, none⟩) (by exact HGE.out) (.slice ra124_14 dL1.length rc124_14)).setCell (p := ⟨w14.heap.size, 2, none⟩) (by exact HGE.out) (.slice ra224_14 dL2.length rc224_14)).setCell (p := ⟨w14.heap.size, 3, none⟩) (by exact HGE.out) (.int .i64 dx3)).setCell (p := ⟨w14.heap.size, 4, none⟩) (by exact HGE.out) (.int .i64 dx4)).setCell (p := ⟨w14.heap.size, 5, none⟩) (by exact HGE.out) (.int .i64 dx5)) (fun hHeld => ?_)
          clear hK K q0 f0 q1 f1 q2 f2 q3 f3 q4 f4 q5 f5
          try simp only [Act.put, List.getElem_toArray, List.getElem_cons_succ, List.getElem_cons_zero, List.setIfInBounds_toArray, List.set_cons_zero, List.set_cons_succ]
          refine wpAnyH_done (by kernel_rfl) ?_ _
          go_wp2_with fail
          go_meet
          exact ⟨_, _, _, _, _, _, _, _, rfl, Lib.hid (sets_DeskStep GB.out), Lib.hid (OW.out.off R_DeskStep_ok (soff_DeskStep _ _ _ _ _ _ _ _) (fun k hk h2 => (HTB.out k hk).2 h2)), HTB, HGE, Lib.hid hHeld⟩
      case rest =>
        obtain ⟨gh, ra0h, rc0h, ra1h, rc1h, ra2h, rc2h, Sh, rfl, HX8, HO8, HT8, HG8, hcb⟩ := hcut
        rename World => w15
        have hb := hcb.out
        have PD_15 := Lib.hid (PD_14.out.call hb)
        have PF_15 := Lib.hid (PF_14.out.call hb)
        have PT_15 := Lib.hid (PT_14.out.call hb)
        have Bw_15 := Lib.hid (Bw_14.out.call hb)
        have BX_15 := Lib.hid (BX_14.out.call hb)
        have Bg_15 := Lib.hid (Bg_14.out.call hb)
        have HD_15 := Lib.hid (gmv R_Desk_ok HD_14.out hb)
        have Yw_15 := Lib.hid (Yw_14.out.mv R_DeskStep_ok hb)
        have Yg_15 := Lib.hid (Yg_14.out.mv R_DeskStep_ok hb)
        have HB15 := Lib.hid (HB14.out.trans ((hb).mono HB14.out.size))
        have HZ16 := Lib.hid ((hb).size)
        clear PD_14 PF_14 PT_14 Bw_14 BX_14 Bg_14 HD_14 Yw_14 Yg_14 HB14
        clear hb hcb
        have Bh_15 := HX8
        have Yh_15 := HO8
        have HTh := HT8
        have HGh := HG8
        clear HX8 HO8 HT8 HG8
        have HSh := Lib.hid (fun k (hk : Sh k) => (⟨(HTh.out k hk).1, Yh_15.out.2 k hk⟩ : w14.heap.size ≤ k ∧ k < w15.heap.size))
        have HGLh := Lib.hid (show gh < w15.heap.size from Bh_15.out.lt)
        have qBh_0 := Bh_15.out.at_ 0 rfl
        have qBh_1 := Bh_15.out.at_ 1 rfl
        have qBh_2 := Bh_15.out.at_ 2 rfl
        have qBh_3 := Bh_15.out.at_ 3 rfl
        have qBh_4 := Bh_15.out.at_ 4 rfl
        have qBh_5 := Bh_15.out.at_ 5 rfl
        have qBw_0 := Bw_15.out.at_ 0 rfl
        have qBw_1 := Bw_15.out.at_ 1 rfl
        have qBw_2 := Bw_15.out.at_ 2 rfl
        have qBw_3 := Bw_15.out.at_ 3 rfl
        have qBw_4 := Bw_15.out.at_ 4 rfl
        have qBw_5 := Bw_15.out.at_ 5 rfl
        go_wp2_with fail
        refine (geq_DeskStep (Yh_15.out.rd R_DeskStep_ok) (Yw_15.out.rd R_DeskStep_ok)).mono ?_
        intro e w16 h
        obtain ⟨rfl, hb⟩ := isB_elim h
        clear qBh_0 qBh_1 qBh_2 qBh_3 qBh_4 qBh_5 qBw_0 qBw_1 qBw_2 qBw_3 qBw_4 qBw_5
        have PD_16 := Lib.hid (PD_15.out.call hb)
        have PF_16 := Lib.hid (PF_15.out.call hb)
        have PT_16 := Lib.hid (PT_15.out.call hb)
        have Bw_16 := Lib.hid (Bw_15.out.call hb)
        have BX_16 := Lib.hid (BX_15.out.call hb)
        have Bg_16 := Lib.hid (Bg_15.out.call hb)
        have Bh_16 := Lib.hid (Bh_15.out.call hb)
        have HD_16 := Lib.hid (gmv R_Desk_ok HD_15.out hb)
        have Yw_16 := Lib.hid (Yw_15.out.mv R_DeskStep_ok hb)
        have Yg_16 := Lib.hid (Yg_15.out.mv R_DeskStep_ok hb)
        have Yh_16 := Lib.hid (Yh_15.out.mv R_DeskStep_ok hb)
        have HB16 := Lib.hid (HB15.out.trans ((hb).mono HB15.out.size))
        have HZ17 := Lib.hid ((hb).size)
        clear PD_15 PF_15 PT_15 Bw_15 BX_15 Bg_15 Bh_15 HD_15 Yw_15 Yg_15 Yh_15 HB15
        clear h hb
        have qBg_0 := Bg_16.out.at_ 0 rfl
        have qBg_1 := Bg_16.out.at_ 1 rfl
        have qBg_2 := Bg_16.out.at_ 2 rfl
        have qBg_3 := Bg_16.out.at_ 3 rfl
        have qBg_4 := Bg_16.out.at_ 4 rfl
        have qBg_5 := Bg_16.out.at_ 5 rfl
        go_wp2_with fail
        refine (gheld_DeskStep (by omega) hzb HMV.out (Yg_16.out.rd R_DeskStep_ok)).mono ?_
        intro e w17 h
        obtain ⟨rfl, hb⟩ := heldC_elim h
        clear qBg_0 qBg_1 qBg_2 qBg_3 qBg_4 qBg_5
        have PD_17 := Lib.hid (PD_16.out.call hb)
        have PF_17 := Lib.hid (PF_16.out.call hb)
        have PT_17 := Lib.hid (PT_16.out.call hb)
        have Bw_17 := Lib.hid (Bw_16.out.call hb)
        have BX_17 := Lib.hid (BX_16.out.call hb)
        have Bg_17 := Lib.hid (Bg_16.out.call hb)
        have Bh_17 := Lib.hid (Bh_16.out.call hb)
        have HD_17 := Lib.hid (gmv R_Desk_ok HD_16.out hb)
        have Yw_17 := Lib.hid (Yw_16.out.mv R_DeskStep_ok hb)
        have Yg_17 := Lib.hid (Yg_16.out.mv R_DeskStep_ok hb)
        have Yh_17 := Lib.hid (Yh_16.out.mv R_DeskStep_ok hb)
        have HB17 := Lib.hid (HB16.out.trans ((hb).mono HB16.out.size))
        have HZ18 := Lib.hid ((hb).size)
        clear PD_16 PF_16 PT_16 Bw_16 BX_16 Bg_16 Bh_16 HD_16 Yw_16 Yg_16 Yh_16 HB16
        clear h hb
        go_wp2
        go_ret
        exact ⟨rfl, HB17.out⟩
end Go.Proofs.YtknifggpodhhdaaDoor.RepC
