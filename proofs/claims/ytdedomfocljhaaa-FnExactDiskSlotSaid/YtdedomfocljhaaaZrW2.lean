/- The law on DiskSlot, out of the contracts. -/
import Derived.Test.YtdedomfocljhaaaTk
import Derived.Test.YtdedomfocljhaaaTk
import Derived.Test.YtdedomfocljhaaaZrG2
namespace Go.Proofs.Ytdedomfocljhaaa.RepC
open Go.RowKit RowC ValC SpanC KeptC
set_option linter.unusedVariables false
set_option linter.unusedSimpArgs false

set_option maxRecDepth 100000 in
set_option maxHeartbeats 4000000 in
theorem law_dslot {DL0 : List (D_Region)} {Dx1 : Int} {Da0 : Option Addr} {Dc0 : Nat} {R : Int} {B : Bool} {Fx0 : Int} {Fx1 : ByteArray}  {W : World} (hD : R_Disk.rd W W.heap.size (DL0, Dx1) [.slice Da0 DL0.length Dc0, .int .i64 Dx1]) (hF : R_Frame.rd W W.heap.size (Fx0, Fx1) [.int .i64 Fx0, .string Fx1]) :
    Calls Try.prog 7 #[.agg #[.slice Da0 DL0.length Dc0, .int .i64 Dx1], .int .i64 R, .bool B, .agg #[.int .i64 Fx0, .string Fx1]] W fun e w' => e = .returned (.bool true) ∧ Below W.heap.size W w' := by
  have HD := Lib.hid hD
  have HD0 := Lib.hid hD
  clear hD
  have HF := Lib.hid hF
  have HF0 := Lib.hid hF
  clear hF
  have hbA : Below (W).heap.size (W) (W.alloc (.cells #[.slice Da0 DL0.length Dc0, .int .i64 Dx1] 42)) := (Below.refl _ _).alloc (Nat.le_refl _) _
  have HD_1 := Lib.hid (gmv R_Disk_ok HD.out hbA)
  have HF_1 := Lib.hid (gmv R_Frame_ok HF.out hbA)
  have HB1 := Lib.hid (show Below W.heap.size W (W.alloc (.cells #[.slice Da0 DL0.length Dc0, .int .i64 Dx1] 42)) from hbA)
  have HZ1 := Lib.hid ((hbA).size)
  clear HD HF
  have PD_1 := Blk.new (W) 42 #[.slice Da0 DL0.length Dc0, .int .i64 Dx1]
  have PDh_1 := Lib.hid PD_1
  clear PD_1 hbA
  have hbA : Below (W.alloc (.cells #[.slice Da0 DL0.length Dc0, .int .i64 Dx1] 42)).heap.size (W.alloc (.cells #[.slice Da0 DL0.length Dc0, .int .i64 Dx1] 42)) ((W.alloc (.cells #[.slice Da0 DL0.length Dc0, .int .i64 Dx1] 42)).alloc (.cells #[.int .i64 Fx0, .string Fx1] 23)) := (Below.refl _ _).alloc (Nat.le_refl _) _
  have PD_2 := Lib.hid (PDh_1.out.call hbA)
  have HD_2 := Lib.hid (gmv R_Disk_ok HD_1.out hbA)
  have HF_2 := Lib.hid (gmv R_Frame_ok HF_1.out hbA)
  have HB2 := Lib.hid (HB1.out.trans ((hbA).mono HB1.out.size))
  have HZ2 := Lib.hid ((hbA).size)
  clear PDh_1 HD_1 HF_1 HB1
  have PF_2 := Blk.new (W.alloc (.cells #[.slice Da0 DL0.length Dc0, .int .i64 Dx1] 42)) 23 #[.int .i64 Fx0, .string Fx1]
  have PFh_2 := Lib.hid PF_2
  clear PF_2 hbA
  have hq := PFh_2.out
  simp only [World.size_alloc] at hq
  clear PFh_2
  have PFh_2 := Lib.hid hq
  clear hq
  by_cases hszD : ((R_Disk.sz (DL0, Dx1) : Nat) : Int) ≤ (1048576 : Int)
  rotate_left
  · skip
    go_enter Try.func7, Try.ntmps7
    have qPD_0 := PD_2.out.at_ 0 rfl
    have qPD_1 := PD_2.out.at_ 1 rfl
    have qPF_0 := PFh_2.out.at_ 0 rfl
    have qPF_1 := PFh_2.out.at_ 1 rfl
    go_wp2_with fail
    refine (gsz_Disk (l := (1048576 : Int)) (by omega) (by omega) HD_2.out).mono ?_
    intro e w3 h
    obtain ⟨rfl, hb⟩ := szC_elim h
    rw [szR_no (by omega)]
    clear qPD_0 qPD_1 qPF_0 qPF_1
    have PD_3 := Lib.hid (PD_2.out.call hb)
    have PF_3 := Lib.hid (PFh_2.out.call hb)
    have HD_3 := Lib.hid (gmv R_Disk_ok HD_2.out hb)
    have HF_3 := Lib.hid (gmv R_Frame_ok HF_2.out hb)
    have HB3 := Lib.hid (HB2.out.trans ((hb).mono HB2.out.size))
    have HZ3 := Lib.hid ((hb).size)
    clear PD_2 PFh_2 HD_2 HF_2 HB2
    clear h hb
    go_wp2
    go_ret
    exact ⟨rfl, HB3.out⟩
  have hswD : R_Disk.sz (DL0, Dx1) ≤ 1048576 := by omega
  have HSZD := Lib.hid hswD
  have HSAD := Lib.hid (cvs_Disk hswD)
  clear hswD
  obtain ⟨mD, hmD⟩ : ∃ m : Nat, R_Disk.sz (DL0, Dx1) = m := ⟨_, rfl⟩
  have HMD := Lib.hid hmD
  rw [hmD] at hszD
  clear hmD
  have hltD : decide ((1048576 : Int) - (mD : Int) < 0) = false := decide_eq_false (by omega)
  by_cases hszF : ((R_Frame.sz (Fx0, Fx1) : Nat) : Int) ≤ (1048576 : Int) - (mD : Int)
  rotate_left
  · skip
    go_enter Try.func7, Try.ntmps7
    have qPD_0 := PD_2.out.at_ 0 rfl
    have qPD_1 := PD_2.out.at_ 1 rfl
    have qPF_0 := PFh_2.out.at_ 0 rfl
    have qPF_1 := PFh_2.out.at_ 1 rfl
    go_wp2_with fail
    refine (gsz_Disk (l := (1048576 : Int)) (by omega) (by omega) HD_2.out).mono ?_
    intro e w3 h
    obtain ⟨rfl, hb⟩ := szC_elim h
    rw [HMD.out, szR_yes (by omega)]
    clear qPD_0 qPD_1 qPF_0 qPF_1
    have PD_3 := Lib.hid (PD_2.out.call hb)
    have PF_3 := Lib.hid (PFh_2.out.call hb)
    have HD_3 := Lib.hid (gmv R_Disk_ok HD_2.out hb)
    have HF_3 := Lib.hid (gmv R_Frame_ok HF_2.out hb)
    have HB3 := Lib.hid (HB2.out.trans ((hb).mono HB2.out.size))
    have HZ3 := Lib.hid ((hb).size)
    clear PD_2 PFh_2 HD_2 HF_2 HB2
    clear h hb
    have qPD_0 := PD_3.out.at_ 0 rfl
    have qPD_1 := PD_3.out.at_ 1 rfl
    have qPF_0 := PF_3.out.at_ 0 rfl
    have qPF_1 := PF_3.out.at_ 1 rfl
    go_wp2_with fail
    refine (gsz_Frame (l := (1048576 : Int) - (mD : Int)) (by omega) (by omega) HF_3.out).mono ?_
    intro e w4 h
    obtain ⟨rfl, hb⟩ := szC_elim h
    rw [szR_no (by omega)]
    clear qPD_0 qPD_1 qPF_0 qPF_1
    have PD_4 := Lib.hid (PD_3.out.call hb)
    have PF_4 := Lib.hid (PF_3.out.call hb)
    have HD_4 := Lib.hid (gmv R_Disk_ok HD_3.out hb)
    have HF_4 := Lib.hid (gmv R_Frame_ok HF_3.out hb)
    have HB4 := Lib.hid (HB3.out.trans ((hb).mono HB3.out.size))
    have HZ4 := Lib.hid ((hb).size)
    clear PD_3 PF_3 HD_3 HF_3 HB3
    clear h hb
    go_wp2
    go_ret
    exact ⟨rfl, HB4.out⟩
  have hswF : R_Frame.sz (Fx0, Fx1) ≤ 1048576 := by omega
  have HSZF := Lib.hid hswF
  have HSAF := Lib.hid (cvs_Frame hswF)
  clear hswF
  obtain ⟨mF, hmF⟩ : ∃ m : Nat, R_Frame.sz (Fx0, Fx1) = m := ⟨_, rfl⟩
  have HMF := Lib.hid hmF
  rw [hmF] at hszF
  clear hmF
  have hltF : decide ((1048576 : Int) - (mD : Int) - (mF : Int) < 0) = false := decide_eq_false (by omega)
  obtain ⟨⟨⟨dL0, dx1⟩, dx2⟩, hD⟩ : ∃ d, ChC.chgV (ChC.slotF B Fx0 Fx1) DL0 Dx1 R = d := ⟨_, rfl⟩
  have HDD := Lib.hid hD
  have HSM := Lib.hid (chg_small HSZD.out hD)
  clear hD
  go_enter Try.func7, Try.ntmps7
  have qPD_0 := PD_2.out.at_ 0 rfl
  have qPD_1 := PD_2.out.at_ 1 rfl
  have qPF_0 := PFh_2.out.at_ 0 rfl
  have qPF_1 := PFh_2.out.at_ 1 rfl
  go_wp2_with fail
  refine (gsz_Disk (l := (1048576 : Int)) (by omega) (by omega) HD_2.out).mono ?_
  intro e w3 h
  obtain ⟨rfl, hb⟩ := szC_elim h
  rw [HMD.out, szR_yes (by omega)]
  clear qPD_0 qPD_1 qPF_0 qPF_1
  have PD_3 := Lib.hid (PD_2.out.call hb)
  have PF_3 := Lib.hid (PFh_2.out.call hb)
  have HD_3 := Lib.hid (gmv R_Disk_ok HD_2.out hb)
  have HF_3 := Lib.hid (gmv R_Frame_ok HF_2.out hb)
  have HB3 := Lib.hid (HB2.out.trans ((hb).mono HB2.out.size))
  have HZ3 := Lib.hid ((hb).size)
  clear PD_2 PFh_2 HD_2 HF_2 HB2
  clear h hb
  have qPD_0 := PD_3.out.at_ 0 rfl
  have qPD_1 := PD_3.out.at_ 1 rfl
  have qPF_0 := PF_3.out.at_ 0 rfl
  have qPF_1 := PF_3.out.at_ 1 rfl
  go_wp2_with fail
  refine (gsz_Frame (l := (1048576 : Int) - (mD : Int)) (by omega) (by omega) HF_3.out).mono ?_
  intro e w4 h
  obtain ⟨rfl, hb⟩ := szC_elim h
  rw [HMF.out, szR_yes (by omega)]
  clear qPD_0 qPD_1 qPF_0 qPF_1
  have PD_4 := Lib.hid (PD_3.out.call hb)
  have PF_4 := Lib.hid (PF_3.out.call hb)
  have HD_4 := Lib.hid (gmv R_Disk_ok HD_3.out hb)
  have HF_4 := Lib.hid (gmv R_Frame_ok HF_3.out hb)
  have HB4 := Lib.hid (HB3.out.trans ((hb).mono HB3.out.size))
  have HZ4 := Lib.hid ((hb).size)
  clear PD_3 PF_3 HD_3 HF_3 HB3
  clear h hb
  have qPD_0 := PD_4.out.at_ 0 rfl
  have qPD_1 := PD_4.out.at_ 1 rfl
  have qPF_0 := PF_4.out.at_ 0 rfl
  have qPF_1 := PF_4.out.at_ 1 rfl
  clear hszD hszF
  clear qPD_0 qPD_1 qPF_0 qPF_1
  have HPL := Lib.hid (PF_4.out.lt)
  go_upto_region 8 with fail
  go_cut [10] (fun s8 wx => ∃ (gw : Nat) (ra0w : Option Addr) (rc0w : Nat) (Sw : Nat → Prop), s8 = .pointer (some ⟨gw, 0, none⟩) ∧ Hid (Blk wx gw 55 #[.slice ra0w dL0.length rc0w, .int .i64 dx1, .int .i64 dx2]) ∧ Hid (OwG R_DiskOut wx Sw ((dL0, dx1), dx2) [.slice ra0w dL0.length rc0w, .int .i64 dx1, .int .i64 dx2]) ∧ Hid (∀ k, Sw k → w4.heap.size ≤ k ∧ k ≠ gw) ∧ Hid (w4.heap.size ≤ gw) ∧ Hid (Below w4.heap.size w4 wx))
  case first =>
    refine wp_region_held_drew (S := (fun V => Below w4.heap.size w4 V)) (by kernel_rfl) ((Below.refl _ _).drew) (fun hHeld => ?_)
    refine tk 0 hHeld ?_ (hy := fun w hSw => by (try dsimp only at hSw); have k0 := (hSw.cell (p := ⟨W.heap.size, 0, none⟩) PD_4.out.lt).trans (PD_4.out.at_ 0 rfl); have k1 := (hSw.cell (p := ⟨W.heap.size, 1, none⟩) PD_4.out.lt).trans (PD_4.out.at_ 1 rfl); clear hSw; go_simp; try with_reducible rfl)
    refine tk 2 hHeld ?_
    refine tk 3 hHeld ?_
    refine tk 4 hHeld ?_ (hy := fun w hSw => by (try dsimp only at hSw); have k0 := (hSw.cell (p := ⟨(W.heap.size + 1), 0, none⟩) PF_4.out.lt).trans (PF_4.out.at_ 0 rfl); have k1 := (hSw.cell (p := ⟨(W.heap.size + 1), 1, none⟩) PF_4.out.lt).trans (PF_4.out.at_ 1 rfl); clear hSw; go_simp; try with_reducible rfl)
    refine rd2 1 7 (fun K hK => ?_) (fun K hK => ?_)
    · skip
      go_simp
      go_at_call 24
      refine (gto_Disk HSZD.out (gmv R_Disk_ok HD_4.out hHeld)).mono ?_
      intro e v8_1 h
      obtain ⟨us, rfl, hu, hb⟩ := newV_elim h
      obtain ⟨aD0_8_1, cD0_8_1, rfl, hu⟩ := owc_Disk hu
      have ND := Lib.hid (owG_new hu)
      clear h hu
      refine hK.out _ _ (hHeld.trans (hb.mono hHeld.size)) (fun hHeld => ?_)
      clear hK K hb
      refine rd2 5 7 (fun K hK => ?_) (fun K hK => ?_)
      · skip
        go_simp
        go_at_call 11
        refine (gto_Frame HSZF.out (gmv R_Frame_ok HF_4.out hHeld)).mono ?_
        intro e v8_2 h
        obtain ⟨us, rfl, hu, hb⟩ := newV_elim h
        obtain ⟨rfl, hu⟩ := owc_Frame hu
        have ND := Lib.hid (ND.out.mv R_Disk_ok hb)
        have NF := Lib.hid (owG_new hu)
        clear h hu
        refine hK.out _ _ (hHeld.trans (hb.mono hHeld.size)) (fun hHeld => ?_)
        clear hK K hb
        refine rd2 6 7 (fun K hK => ?_) (fun K hK => ?_)
        · skip
          go_simp
          go_at_call 31
          refine (gdslot_spec (ND.out.rd R_Disk_ok) (NF.out.rd R_Frame_ok)).mono ?_
          intro e v8_3 h
          rw [HDD.out] at h
          obtain ⟨us, rfl, hu, hb⟩ := newV_elim h
          obtain ⟨ra08_3, rc08_3, rfl, hu⟩ := owc_DiskOut hu
          have hHeld0 := Lib.hid hHeld
          have OW := Lib.hid (owG_new hu)
          clear h hu ND NF
          refine hK.out _ _ (hHeld.trans (hb.mono hHeld.size)) (fun hHeld => ?_)
          clear hK K hb
          refine rd1 7 (fun K hK => ?_)
          go_simp
          have hb : Below (v8_3).heap.size (v8_3) (v8_3.alloc (.cells #[.slice none 0 0, .int .i64 0, .int .i64 0] 55)) := (Below.refl _ _).alloc (Nat.le_refl _) _
          have OW0 := OW
          have OW := Lib.hid (OW.out.mv R_DiskOut_ok hb)
          have GB := Lib.hid (show Blk (v8_3.alloc (.cells #[.slice none 0 0, .int .i64 0, .int .i64 0] 55)) v8_3.heap.size 55 #[.slice none 0 0, .int .i64 0, .int .i64 0] from Blk.new (v8_3) 55 #[.slice none 0 0, .int .i64 0, .int .i64 0])
          have HGE := Lib.hid (show w4.heap.size ≤ v8_3.heap.size from hHeld.size)
          have HTB := Lib.hid (show ∀ k, Rg v8_2.heap.size v8_3.heap.size k → w4.heap.size ≤ k ∧ k ≠ v8_3.heap.size from fun k hk => ⟨Nat.le_trans hHeld0.out.size hk.1, by have := hk.2; omega⟩)
          have hPre := Lib.hid hHeld
          refine hK.out _ _ (hHeld.trans (hb.mono hHeld.size)) (fun hHeld => ?_)
          clear hK K hb
          refine rd1 8 (fun K hK => ?_)
          go_simp
          refine hK.out _ _ (hPre.out.alloc HGE.out (.cells #[.slice ra08_3 dL0.length rc08_3, .int .i64 dx1, .int .i64 dx2] 55)) (fun hHeld => ?_)
          clear hK K
          refine rd0 ?_
          go_wp2_with fail
          go_meet
          exact ⟨_, _, _, _, rfl, Lib.hid (Blk.new v8_3 55 #[.slice ra08_3 dL0.length rc08_3, .int .i64 dx1, .int .i64 dx2]), Lib.hid (OW0.out.mv R_DiskOut_ok ((Below.refl _ _).alloc (Nat.le_refl _) (.cells #[.slice ra08_3 dL0.length rc08_3, .int .i64 dx1, .int .i64 dx2] 55))), HTB, HGE, Lib.hid hHeld⟩
        · skip
          go_simp
          have hb : Below (v8_2).heap.size (v8_2) (v8_2.alloc (.cells #[.slice none 0 0, .int .i64 0, .int .i64 0] 55)) := (Below.refl _ _).alloc (Nat.le_refl _) _
          have ND := Lib.hid (ND.out.mv R_Disk_ok hb)
          have NF := Lib.hid (NF.out.mv R_Frame_ok hb)
          have GB := Lib.hid (show Blk (v8_2.alloc (.cells #[.slice none 0 0, .int .i64 0, .int .i64 0] 55)) v8_2.heap.size 55 #[.slice none 0 0, .int .i64 0, .int .i64 0] from Blk.new (v8_2) 55 #[.slice none 0 0, .int .i64 0, .int .i64 0])
          have HGE := Lib.hid (show w4.heap.size ≤ v8_2.heap.size from hHeld.size)
          refine hK.out _ _ (hHeld.trans (hb.mono hHeld.size)) (fun hHeld => ?_)
          clear hK K hb
          have GBl := Lib.hid (show v8_2.heap.size < (v8_2.alloc (.cells #[.slice none 0 0, .int .i64 0, .int .i64 0] 55)).heap.size from GB.out.lt)
          refine rd1 6 (fun K hK => ?_)
          go_simp
          go_at_call 31
          refine (gdslot_spec (ND.out.rd R_Disk_ok) (NF.out.rd R_Frame_ok)).mono ?_
          intro e v8_4 h
          rw [HDD.out] at h
          obtain ⟨us, rfl, hu, hb⟩ := newV_elim h
          obtain ⟨ra08_4, rc08_4, rfl, hu⟩ := owc_DiskOut hu
          have hHeld0 := Lib.hid hHeld
          have GB := Lib.hid (GB.out.call hb)
          have OW := Lib.hid (owG_new hu)
          have HTB := Lib.hid (show ∀ k, Rg (v8_2.alloc (.cells #[.slice none 0 0, .int .i64 0, .int .i64 0] 55)).heap.size v8_4.heap.size k → w4.heap.size ≤ k ∧ k ≠ v8_2.heap.size from fun k hk => ⟨Nat.le_trans hHeld.size hk.1, by have h1 := hk.1; have h2 := GBl.out; omega⟩)
          clear h hu ND NF
          refine hK.out _ _ (hHeld.trans (hb.mono hHeld.size)) (fun hHeld => ?_)
          clear hK K hb
          have GBl := Lib.hid (show v8_2.heap.size < v8_4.heap.size from GB.out.lt)
          refine rd1 8 (fun K hK => ?_)
          have q0 := GB.out.at_ 0 rfl
          have f0 := GB.out.soft 0
          have q1 := GB.out.at_ 1 rfl
          have f1 := GB.out.soft 1
          have q2 := GB.out.at_ 2 rfl
          have f2 := GB.out.soft 2
          go_simp
          refine hK.out _ _ (((hHeld.setCell (p := ⟨v8_2.heap.size, 0, none⟩) (by exact HGE.out) (.slice ra08_4 dL0.length rc08_4)).setCell (p := ⟨v8_2.heap.size, 1, none⟩) (by exact HGE.out) (.int .i64 dx1)).setCell (p := ⟨v8_2.heap.size, 2, none⟩) (by exact HGE.out) (.int .i64 dx2)) (fun hHeld => ?_)
          clear hK K q0 f0 q1 f1 q2 f2
          refine rd0 ?_
          go_wp2_with fail
          go_meet
          exact ⟨_, _, _, _, rfl, Lib.hid (sets_DiskOut GB.out), Lib.hid (OW.out.off R_DiskOut_ok (soff_DiskOut _ _ _ _ _) (fun k hk h2 => (HTB.out k hk).2 h2)), HTB, HGE, Lib.hid hHeld⟩
      · skip
        go_simp
        have hb : Below (v8_1).heap.size (v8_1) (v8_1.alloc (.cells #[.slice none 0 0, .int .i64 0, .int .i64 0] 55)) := (Below.refl _ _).alloc (Nat.le_refl _) _
        have ND := Lib.hid (ND.out.mv R_Disk_ok hb)
        have GB := Lib.hid (show Blk (v8_1.alloc (.cells #[.slice none 0 0, .int .i64 0, .int .i64 0] 55)) v8_1.heap.size 55 #[.slice none 0 0, .int .i64 0, .int .i64 0] from Blk.new (v8_1) 55 #[.slice none 0 0, .int .i64 0, .int .i64 0])
        have HGE := Lib.hid (show w4.heap.size ≤ v8_1.heap.size from hHeld.size)
        refine hK.out _ _ (hHeld.trans (hb.mono hHeld.size)) (fun hHeld => ?_)
        clear hK K hb
        have GBl := Lib.hid (show v8_1.heap.size < (v8_1.alloc (.cells #[.slice none 0 0, .int .i64 0, .int .i64 0] 55)).heap.size from GB.out.lt)
        refine rd1 5 (fun K hK => ?_)
        go_simp
        go_at_call 11
        refine (gto_Frame HSZF.out (gmv R_Frame_ok HF_4.out hHeld)).mono ?_
        intro e v8_5 h
        obtain ⟨us, rfl, hu, hb⟩ := newV_elim h
        obtain ⟨rfl, hu⟩ := owc_Frame hu
        have ND := Lib.hid (ND.out.mv R_Disk_ok hb)
        have GB := Lib.hid (GB.out.call hb)
        have NF := Lib.hid (owG_new hu)
        clear h hu
        refine hK.out _ _ (hHeld.trans (hb.mono hHeld.size)) (fun hHeld => ?_)
        clear hK K hb
        have GBl := Lib.hid (show v8_1.heap.size < v8_5.heap.size from GB.out.lt)
        refine rd1 6 (fun K hK => ?_)
        go_simp
        go_at_call 31
        refine (gdslot_spec (ND.out.rd R_Disk_ok) (NF.out.rd R_Frame_ok)).mono ?_
        intro e v8_6 h
        rw [HDD.out] at h
        obtain ⟨us, rfl, hu, hb⟩ := newV_elim h
        obtain ⟨ra08_6, rc08_6, rfl, hu⟩ := owc_DiskOut hu
        have hHeld0 := Lib.hid hHeld
        have GB := Lib.hid (GB.out.call hb)
        have OW := Lib.hid (owG_new hu)
        have HTB := Lib.hid (show ∀ k, Rg v8_5.heap.size v8_6.heap.size k → w4.heap.size ≤ k ∧ k ≠ v8_1.heap.size from fun k hk => ⟨Nat.le_trans hHeld.size hk.1, by have h1 := hk.1; have h2 := GBl.out; omega⟩)
        clear h hu ND NF
        refine hK.out _ _ (hHeld.trans (hb.mono hHeld.size)) (fun hHeld => ?_)
        clear hK K hb
        have GBl := Lib.hid (show v8_1.heap.size < v8_6.heap.size from GB.out.lt)
        refine rd1 8 (fun K hK => ?_)
        have q0 := GB.out.at_ 0 rfl
        have f0 := GB.out.soft 0
        have q1 := GB.out.at_ 1 rfl
        have f1 := GB.out.soft 1
        have q2 := GB.out.at_ 2 rfl
        have f2 := GB.out.soft 2
        go_simp
        refine hK.out _ _ (((hHeld.setCell (p := ⟨v8_1.heap.size, 0, none⟩) (by exact HGE.out) (.slice ra08_6 dL0.length rc08_6)).setCell (p := ⟨v8_1.heap.size, 1, none⟩) (by exact HGE.out) (.int .i64 dx1)).setCell (p := ⟨v8_1.heap.size, 2, none⟩) (by exact HGE.out) (.int .i64 dx2)) (fun hHeld => ?_)
        clear hK K q0 f0 q1 f1 q2 f2
        refine rd0 ?_
        go_wp2_with fail
        go_meet
        exact ⟨_, _, _, _, rfl, Lib.hid (sets_DiskOut GB.out), Lib.hid (OW.out.off R_DiskOut_ok (soff_DiskOut _ _ _ _ _) (fun k hk h2 => (HTB.out k hk).2 h2)), HTB, HGE, Lib.hid hHeld⟩
    · skip
      go_simp
      have hb : Below (w4.drew).heap.size (w4.drew) ((w4.drew).alloc (.cells #[.slice none 0 0, .int .i64 0, .int .i64 0] 55)) := (Below.refl _ _).alloc (Nat.le_refl _) _
      have GB := Lib.hid (show Blk ((w4.drew).alloc (.cells #[.slice none 0 0, .int .i64 0, .int .i64 0] 55)) w4.heap.size 55 #[.slice none 0 0, .int .i64 0, .int .i64 0] from Blk.new (w4.drew) 55 #[.slice none 0 0, .int .i64 0, .int .i64 0])
      have HGE := Lib.hid (show w4.heap.size ≤ w4.heap.size from hHeld.size)
      refine hK.out _ _ (hHeld.trans (hb.mono hHeld.size)) (fun hHeld => ?_)
      clear hK K hb
      have GBl := Lib.hid (show w4.heap.size < ((w4.drew).alloc (.cells #[.slice none 0 0, .int .i64 0, .int .i64 0] 55)).heap.size from GB.out.lt)
      refine rd1 1 (fun K hK => ?_)
      go_simp
      go_at_call 24
      refine (gto_Disk HSZD.out (gmv R_Disk_ok HD_4.out hHeld)).mono ?_
      intro e v8_7 h
      obtain ⟨us, rfl, hu, hb⟩ := newV_elim h
      obtain ⟨aD0_8_7, cD0_8_7, rfl, hu⟩ := owc_Disk hu
      have GB := Lib.hid (GB.out.call hb)
      have ND := Lib.hid (owG_new hu)
      clear h hu
      refine hK.out _ _ (hHeld.trans (hb.mono hHeld.size)) (fun hHeld => ?_)
      clear hK K hb
      have GBl := Lib.hid (show w4.heap.size < v8_7.heap.size from GB.out.lt)
      refine rd1 5 (fun K hK => ?_)
      go_simp
      go_at_call 11
      refine (gto_Frame HSZF.out (gmv R_Frame_ok HF_4.out hHeld)).mono ?_
      intro e v8_8 h
      obtain ⟨us, rfl, hu, hb⟩ := newV_elim h
      obtain ⟨rfl, hu⟩ := owc_Frame hu
      have ND := Lib.hid (ND.out.mv R_Disk_ok hb)
      have GB := Lib.hid (GB.out.call hb)
      have NF := Lib.hid (owG_new hu)
      clear h hu
      refine hK.out _ _ (hHeld.trans (hb.mono hHeld.size)) (fun hHeld => ?_)
      clear hK K hb
      have GBl := Lib.hid (show w4.heap.size < v8_8.heap.size from GB.out.lt)
      refine rd1 6 (fun K hK => ?_)
      go_simp
      go_at_call 31
      refine (gdslot_spec (ND.out.rd R_Disk_ok) (NF.out.rd R_Frame_ok)).mono ?_
      intro e v8_9 h
      rw [HDD.out] at h
      obtain ⟨us, rfl, hu, hb⟩ := newV_elim h
      obtain ⟨ra08_9, rc08_9, rfl, hu⟩ := owc_DiskOut hu
      have hHeld0 := Lib.hid hHeld
      have GB := Lib.hid (GB.out.call hb)
      have OW := Lib.hid (owG_new hu)
      have HTB := Lib.hid (show ∀ k, Rg v8_8.heap.size v8_9.heap.size k → w4.heap.size ≤ k ∧ k ≠ w4.heap.size from fun k hk => ⟨Nat.le_trans hHeld.size hk.1, by have h1 := hk.1; have h2 := GBl.out; omega⟩)
      clear h hu ND NF
      refine hK.out _ _ (hHeld.trans (hb.mono hHeld.size)) (fun hHeld => ?_)
      clear hK K hb
      have GBl := Lib.hid (show w4.heap.size < v8_9.heap.size from GB.out.lt)
      refine rd1 8 (fun K hK => ?_)
      have q0 := GB.out.at_ 0 rfl
      have f0 := GB.out.soft 0
      have q1 := GB.out.at_ 1 rfl
      have f1 := GB.out.soft 1
      have q2 := GB.out.at_ 2 rfl
      have f2 := GB.out.soft 2
      go_simp
      refine hK.out _ _ (((hHeld.setCell (p := ⟨w4.heap.size, 0, none⟩) (by exact HGE.out) (.slice ra08_9 dL0.length rc08_9)).setCell (p := ⟨w4.heap.size, 1, none⟩) (by exact HGE.out) (.int .i64 dx1)).setCell (p := ⟨w4.heap.size, 2, none⟩) (by exact HGE.out) (.int .i64 dx2)) (fun hHeld => ?_)
      clear hK K q0 f0 q1 f1 q2 f2
      refine rd0 ?_
      go_wp2_with fail
      go_meet
      exact ⟨_, _, _, _, rfl, Lib.hid (sets_DiskOut GB.out), Lib.hid (OW.out.off R_DiskOut_ok (soff_DiskOut _ _ _ _ _) (fun k hk h2 => (HTB.out k hk).2 h2)), HTB, HGE, Lib.hid hHeld⟩
  case rest =>
    obtain ⟨gw, ra0w, rc0w, Sw, rfl, HX8, HO8, HT8, HG8, hcb⟩ := hcut
    rename World => w5
    have hb := hcb.out
    have PD_5 := Lib.hid (PD_4.out.call hb)
    have PF_5 := Lib.hid (PF_4.out.call hb)
    have HD_5 := Lib.hid (gmv R_Disk_ok HD_4.out hb)
    have HF_5 := Lib.hid (gmv R_Frame_ok HF_4.out hb)
    have HB5 := Lib.hid (HB4.out.trans ((hb).mono HB4.out.size))
    have HZ5 := Lib.hid ((hb).size)
    clear PD_4 PF_4 HD_4 HF_4 HB4
    clear hb hcb
    have Bw_5 := HX8
    have Yw_5 := HO8
    have HTw := HT8
    have HGw := HG8
    clear HX8 HO8 HT8 HG8
    have HSw := Lib.hid (fun k (hk : Sw k) => (⟨(HTw.out k hk).1, Yw_5.out.2 k hk⟩ : w4.heap.size ≤ k ∧ k < w5.heap.size))
    have HGLw := Lib.hid (show gw < w5.heap.size from Bw_5.out.lt)
    have qPD_0 := PD_5.out.at_ 0 rfl
    have qPD_1 := PD_5.out.at_ 1 rfl
    go_wp2_with fail
    refine (gto_Disk HSZD.out HD_5.out).mono ?_
    intro e w6 h
    obtain ⟨us, rfl, hu, hb⟩ := newV_elim h
    obtain ⟨aD06, cD06, rfl, hu⟩ := owc_Disk hu
    clear qPD_0 qPD_1
    have PD_6 := Lib.hid (PD_5.out.call hb)
    have PF_6 := Lib.hid (PF_5.out.call hb)
    have Bw_6 := Lib.hid (Bw_5.out.call hb)
    have HD_6 := Lib.hid (gmv R_Disk_ok HD_5.out hb)
    have HF_6 := Lib.hid (gmv R_Frame_ok HF_5.out hb)
    have Yw_6 := Lib.hid (Yw_5.out.mv R_DiskOut_ok hb)
    have HB6 := Lib.hid (HB5.out.trans ((hb).mono HB5.out.size))
    have HZ6 := Lib.hid ((hb).size)
    clear PD_5 PF_5 Bw_5 HD_5 HF_5 Yw_5 HB5
    have XD_6 := Lib.hid (owG_new hu)
    have HSD := Lib.hid (fun k (hk : Rg w5.heap.size w6.heap.size k) => hk)
    clear hu
    clear h hb
    have hbA : Below (w6).heap.size (w6) (w6.alloc (.cells #[.slice aD06 DL0.length cD06, .int .i64 Dx1] 47)) := (Below.refl _ _).alloc (Nat.le_refl _) _
    have PD_7 := Lib.hid (PD_6.out.call hbA)
    have PF_7 := Lib.hid (PF_6.out.call hbA)
    have Bw_7 := Lib.hid (Bw_6.out.call hbA)
    have HD_7 := Lib.hid (gmv R_Disk_ok HD_6.out hbA)
    have HF_7 := Lib.hid (gmv R_Frame_ok HF_6.out hbA)
    have Yw_7 := Lib.hid (Yw_6.out.mv R_DiskOut_ok hbA)
    have XD_7 := Lib.hid (XD_6.out.mv R_Disk_ok hbA)
    have HB7 := Lib.hid (HB6.out.trans ((hbA).mono HB6.out.size))
    have HZ7 := Lib.hid ((hbA).size)
    clear PD_6 PF_6 Bw_6 HD_6 HF_6 Yw_6 XD_6 HB6
    have BXD_7 := Blk.new (w6) 47 #[.slice aD06 DL0.length cD06, .int .i64 Dx1]
    have BXDh_7 := Lib.hid BXD_7
    clear BXD_7 hbA
    have HZ8 := Lib.hid ((show (w6.alloc (.cells #[.slice aD06 DL0.length cD06, .int .i64 Dx1] 47)).heap.size = w6.heap.size + 1 by simp))
    obtain ⟨wz7, hwz7⟩ : ∃ w, w = w6.alloc (.cells #[.slice aD06 DL0.length cD06, .int .i64 Dx1] 47) := ⟨_, rfl⟩
    rw [← hwz7] at PD_7 PF_7 Bw_7 BXDh_7 HD_7 HF_7 Yw_7 XD_7 HB7 HZ7 HZ8
    go_wp2_with fail
    rw [← hwz7]
    clear hwz7
    go_upto_region 10 with fail
    go_cut [12] (fun s8 wx => ∃ (gg : Nat) (ra0g : Option Addr) (rc0g : Nat) (Sg : Nat → Prop), s8 = .pointer (some ⟨gg, 0, none⟩) ∧ Hid (Blk wx gg 55 #[.slice ra0g dL0.length rc0g, .int .i64 dx1, .int .i64 dx2]) ∧ Hid (OwG R_DiskOut wx Sg ((dL0, dx1), dx2) [.slice ra0g dL0.length rc0g, .int .i64 dx1, .int .i64 dx2]) ∧ Hid (∀ k, Sg k → wz7.heap.size ≤ k ∧ k ≠ gg) ∧ Hid (wz7.heap.size ≤ gg) ∧ Hid (Below wz7.heap.size wz7 wx))
    case first =>
      refine wp_region_held_drew (S := (fun V => Below wz7.heap.size wz7 V)) (by kernel_rfl) ((Below.refl _ _).drew) (fun hHeld => ?_)
      refine tk 0 hHeld ?_ (hy := fun w hSw => by (try dsimp only at hSw); have k0 := (hSw.cell (p := ⟨w6.heap.size, 0, none⟩) BXDh_7.out.lt).trans (BXDh_7.out.at_ 0 rfl); have k1 := (hSw.cell (p := ⟨w6.heap.size, 1, none⟩) BXDh_7.out.lt).trans (BXDh_7.out.at_ 1 rfl); clear hSw; go_simp; try with_reducible rfl)
      refine tk 1 hHeld ?_
      refine tk 2 hHeld ?_
      refine tk 3 hHeld ?_ (hy := fun w hSw => by (try dsimp only at hSw); have k0 := (hSw.cell (p := ⟨(W.heap.size + 1), 0, none⟩) PF_7.out.lt).trans (PF_7.out.at_ 0 rfl); have k1 := (hSw.cell (p := ⟨(W.heap.size + 1), 1, none⟩) PF_7.out.lt).trans (PF_7.out.at_ 1 rfl); clear hSw; go_simp; try with_reducible rfl)
      refine rd2 4 6 (fun K hK => ?_) (fun K hK => ?_)
      · skip
        go_simp
        go_at_call 11
        refine (gto_Frame HSZF.out (gmv R_Frame_ok HF_7.out hHeld)).mono ?_
        intro e v10_1 h
        obtain ⟨us, rfl, hu, hb⟩ := newV_elim h
        obtain ⟨rfl, hu⟩ := owc_Frame hu
        have NF := Lib.hid (owG_new hu)
        clear h hu
        refine hK.out _ _ (hHeld.trans (hb.mono hHeld.size)) (fun hHeld => ?_)
        clear hK K hb
        refine rd2 5 6 (fun K hK => ?_) (fun K hK => ?_)
        · skip
          go_simp
          go_at_call 32
          refine (gdslot_impl (gmv R_Disk_ok (XD_7.out.rd R_Disk_ok) hHeld) (NF.out.rd R_Frame_ok)).mono ?_
          intro e v10_2 h
          rw [HDD.out] at h
          obtain ⟨us, rfl, hu, hb⟩ := newV_elim h
          obtain ⟨ra010_2, rc010_2, rfl, hu⟩ := owc_DiskOut hu
          have hHeld0 := Lib.hid hHeld
          have OW := Lib.hid (owG_new hu)
          clear h hu NF
          refine hK.out _ _ (hHeld.trans (hb.mono hHeld.size)) (fun hHeld => ?_)
          clear hK K hb
          refine rd1 6 (fun K hK => ?_)
          go_simp
          have hb : Below (v10_2).heap.size (v10_2) (v10_2.alloc (.cells #[.slice none 0 0, .int .i64 0, .int .i64 0] 55)) := (Below.refl _ _).alloc (Nat.le_refl _) _
          have OW0 := OW
          have OW := Lib.hid (OW.out.mv R_DiskOut_ok hb)
          have GB := Lib.hid (show Blk (v10_2.alloc (.cells #[.slice none 0 0, .int .i64 0, .int .i64 0] 55)) v10_2.heap.size 55 #[.slice none 0 0, .int .i64 0, .int .i64 0] from Blk.new (v10_2) 55 #[.slice none 0 0, .int .i64 0, .int .i64 0])
          have HGE := Lib.hid (show wz7.heap.size ≤ v10_2.heap.size from hHeld.size)
          have HTB := Lib.hid (show ∀ k, Rg v10_1.heap.size v10_2.heap.size k → wz7.heap.size ≤ k ∧ k ≠ v10_2.heap.size from fun k hk => ⟨Nat.le_trans hHeld0.out.size hk.1, by have := hk.2; omega⟩)
          have hPre := Lib.hid hHeld
          refine hK.out _ _ (hHeld.trans (hb.mono hHeld.size)) (fun hHeld => ?_)
          clear hK K hb
          refine rd1 7 (fun K hK => ?_)
          go_simp
          refine hK.out _ _ (hPre.out.alloc HGE.out (.cells #[.slice ra010_2 dL0.length rc010_2, .int .i64 dx1, .int .i64 dx2] 55)) (fun hHeld => ?_)
          clear hK K
          refine rd0 ?_
          go_wp2_with fail
          go_meet
          exact ⟨_, _, _, _, rfl, Lib.hid (Blk.new v10_2 55 #[.slice ra010_2 dL0.length rc010_2, .int .i64 dx1, .int .i64 dx2]), Lib.hid (OW0.out.mv R_DiskOut_ok ((Below.refl _ _).alloc (Nat.le_refl _) (.cells #[.slice ra010_2 dL0.length rc010_2, .int .i64 dx1, .int .i64 dx2] 55))), HTB, HGE, Lib.hid hHeld⟩
        · skip
          go_simp
          have hb : Below (v10_1).heap.size (v10_1) (v10_1.alloc (.cells #[.slice none 0 0, .int .i64 0, .int .i64 0] 55)) := (Below.refl _ _).alloc (Nat.le_refl _) _
          have NF := Lib.hid (NF.out.mv R_Frame_ok hb)
          have GB := Lib.hid (show Blk (v10_1.alloc (.cells #[.slice none 0 0, .int .i64 0, .int .i64 0] 55)) v10_1.heap.size 55 #[.slice none 0 0, .int .i64 0, .int .i64 0] from Blk.new (v10_1) 55 #[.slice none 0 0, .int .i64 0, .int .i64 0])
          have HGE := Lib.hid (show wz7.heap.size ≤ v10_1.heap.size from hHeld.size)
          refine hK.out _ _ (hHeld.trans (hb.mono hHeld.size)) (fun hHeld => ?_)
          clear hK K hb
          have GBl := Lib.hid (show v10_1.heap.size < (v10_1.alloc (.cells #[.slice none 0 0, .int .i64 0, .int .i64 0] 55)).heap.size from GB.out.lt)
          refine rd1 5 (fun K hK => ?_)
          go_simp
          go_at_call 32
          refine (gdslot_impl (gmv R_Disk_ok (XD_7.out.rd R_Disk_ok) hHeld) (NF.out.rd R_Frame_ok)).mono ?_
          intro e v10_3 h
          rw [HDD.out] at h
          obtain ⟨us, rfl, hu, hb⟩ := newV_elim h
          obtain ⟨ra010_3, rc010_3, rfl, hu⟩ := owc_DiskOut hu
          have hHeld0 := Lib.hid hHeld
          have GB := Lib.hid (GB.out.call hb)
          have OW := Lib.hid (owG_new hu)
          have HTB := Lib.hid (show ∀ k, Rg (v10_1.alloc (.cells #[.slice none 0 0, .int .i64 0, .int .i64 0] 55)).heap.size v10_3.heap.size k → wz7.heap.size ≤ k ∧ k ≠ v10_1.heap.size from fun k hk => ⟨Nat.le_trans hHeld.size hk.1, by have h1 := hk.1; have h2 := GBl.out; omega⟩)
          clear h hu NF
          refine hK.out _ _ (hHeld.trans (hb.mono hHeld.size)) (fun hHeld => ?_)
          clear hK K hb
          have GBl := Lib.hid (show v10_1.heap.size < v10_3.heap.size from GB.out.lt)
          refine rd1 7 (fun K hK => ?_)
          have q0 := GB.out.at_ 0 rfl
          have f0 := GB.out.soft 0
          have q1 := GB.out.at_ 1 rfl
          have f1 := GB.out.soft 1
          have q2 := GB.out.at_ 2 rfl
          have f2 := GB.out.soft 2
          go_simp
          refine hK.out _ _ (((hHeld.setCell (p := ⟨v10_1.heap.size, 0, none⟩) (by exact HGE.out) (.slice ra010_3 dL0.length rc010_3)).setCell (p := ⟨v10_1.heap.size, 1, none⟩) (by exact HGE.out) (.int .i64 dx1)).setCell (p := ⟨v10_1.heap.size, 2, none⟩) (by exact HGE.out) (.int .i64 dx2)) (fun hHeld => ?_)
          clear hK K q0 f0 q1 f1 q2 f2
          refine rd0 ?_
          go_wp2_with fail
          go_meet
          exact ⟨_, _, _, _, rfl, Lib.hid (sets_DiskOut GB.out), Lib.hid (OW.out.off R_DiskOut_ok (soff_DiskOut _ _ _ _ _) (fun k hk h2 => (HTB.out k hk).2 h2)), HTB, HGE, Lib.hid hHeld⟩
      · skip
        go_simp
        have hb : Below (wz7.drew).heap.size (wz7.drew) ((wz7.drew).alloc (.cells #[.slice none 0 0, .int .i64 0, .int .i64 0] 55)) := (Below.refl _ _).alloc (Nat.le_refl _) _
        have GB := Lib.hid (show Blk ((wz7.drew).alloc (.cells #[.slice none 0 0, .int .i64 0, .int .i64 0] 55)) wz7.heap.size 55 #[.slice none 0 0, .int .i64 0, .int .i64 0] from Blk.new (wz7.drew) 55 #[.slice none 0 0, .int .i64 0, .int .i64 0])
        have HGE := Lib.hid (show wz7.heap.size ≤ wz7.heap.size from hHeld.size)
        refine hK.out _ _ (hHeld.trans (hb.mono hHeld.size)) (fun hHeld => ?_)
        clear hK K hb
        have GBl := Lib.hid (show wz7.heap.size < ((wz7.drew).alloc (.cells #[.slice none 0 0, .int .i64 0, .int .i64 0] 55)).heap.size from GB.out.lt)
        refine rd1 4 (fun K hK => ?_)
        go_simp
        go_at_call 11
        refine (gto_Frame HSZF.out (gmv R_Frame_ok HF_7.out hHeld)).mono ?_
        intro e v10_4 h
        obtain ⟨us, rfl, hu, hb⟩ := newV_elim h
        obtain ⟨rfl, hu⟩ := owc_Frame hu
        have GB := Lib.hid (GB.out.call hb)
        have NF := Lib.hid (owG_new hu)
        clear h hu
        refine hK.out _ _ (hHeld.trans (hb.mono hHeld.size)) (fun hHeld => ?_)
        clear hK K hb
        have GBl := Lib.hid (show wz7.heap.size < v10_4.heap.size from GB.out.lt)
        refine rd1 5 (fun K hK => ?_)
        go_simp
        go_at_call 32
        refine (gdslot_impl (gmv R_Disk_ok (XD_7.out.rd R_Disk_ok) hHeld) (NF.out.rd R_Frame_ok)).mono ?_
        intro e v10_5 h
        rw [HDD.out] at h
        obtain ⟨us, rfl, hu, hb⟩ := newV_elim h
        obtain ⟨ra010_5, rc010_5, rfl, hu⟩ := owc_DiskOut hu
        have hHeld0 := Lib.hid hHeld
        have GB := Lib.hid (GB.out.call hb)
        have OW := Lib.hid (owG_new hu)
        have HTB := Lib.hid (show ∀ k, Rg v10_4.heap.size v10_5.heap.size k → wz7.heap.size ≤ k ∧ k ≠ wz7.heap.size from fun k hk => ⟨Nat.le_trans hHeld.size hk.1, by have h1 := hk.1; have h2 := GBl.out; omega⟩)
        clear h hu NF
        refine hK.out _ _ (hHeld.trans (hb.mono hHeld.size)) (fun hHeld => ?_)
        clear hK K hb
        have GBl := Lib.hid (show wz7.heap.size < v10_5.heap.size from GB.out.lt)
        refine rd1 7 (fun K hK => ?_)
        have q0 := GB.out.at_ 0 rfl
        have f0 := GB.out.soft 0
        have q1 := GB.out.at_ 1 rfl
        have f1 := GB.out.soft 1
        have q2 := GB.out.at_ 2 rfl
        have f2 := GB.out.soft 2
        go_simp
        refine hK.out _ _ (((hHeld.setCell (p := ⟨wz7.heap.size, 0, none⟩) (by exact HGE.out) (.slice ra010_5 dL0.length rc010_5)).setCell (p := ⟨wz7.heap.size, 1, none⟩) (by exact HGE.out) (.int .i64 dx1)).setCell (p := ⟨wz7.heap.size, 2, none⟩) (by exact HGE.out) (.int .i64 dx2)) (fun hHeld => ?_)
        clear hK K q0 f0 q1 f1 q2 f2
        refine rd0 ?_
        go_wp2_with fail
        go_meet
        exact ⟨_, _, _, _, rfl, Lib.hid (sets_DiskOut GB.out), Lib.hid (OW.out.off R_DiskOut_ok (soff_DiskOut _ _ _ _ _) (fun k hk h2 => (HTB.out k hk).2 h2)), HTB, HGE, Lib.hid hHeld⟩
    case rest =>
      obtain ⟨gg, ra0g, rc0g, Sg, rfl, HX8, HO8, HT8, HG8, hcb⟩ := hcut
      rename World => w8
      have hb := hcb.out
      have PD_8 := Lib.hid (PD_7.out.call hb)
      have PF_8 := Lib.hid (PF_7.out.call hb)
      have Bw_8 := Lib.hid (Bw_7.out.call hb)
      have BXD_8 := Lib.hid (BXDh_7.out.call hb)
      have HD_8 := Lib.hid (gmv R_Disk_ok HD_7.out hb)
      have HF_8 := Lib.hid (gmv R_Frame_ok HF_7.out hb)
      have Yw_8 := Lib.hid (Yw_7.out.mv R_DiskOut_ok hb)
      have XD_8 := Lib.hid (XD_7.out.mv R_Disk_ok hb)
      have HB8 := Lib.hid (HB7.out.trans ((hb).mono HB7.out.size))
      have HZ9 := Lib.hid ((hb).size)
      clear PD_7 PF_7 Bw_7 BXDh_7 HD_7 HF_7 Yw_7 XD_7 HB7
      clear hb hcb
      have Bg_8 := HX8
      have Yg_8 := HO8
      have HTg := HT8
      have HGg := HG8
      clear HX8 HO8 HT8 HG8
      have HSg := Lib.hid (fun k (hk : Sg k) => (⟨(HTg.out k hk).1, Yg_8.out.2 k hk⟩ : wz7.heap.size ≤ k ∧ k < w8.heap.size))
      have HGLg := Lib.hid (show gg < w8.heap.size from Bg_8.out.lt)
      have qBg_0 := Bg_8.out.at_ 0 rfl
      have qBg_1 := Bg_8.out.at_ 1 rfl
      have qBg_2 := Bg_8.out.at_ 2 rfl
      have qBw_0 := Bw_8.out.at_ 0 rfl
      have qBw_1 := Bw_8.out.at_ 1 rfl
      have qBw_2 := Bw_8.out.at_ 2 rfl
      go_wp2_with fail
      refine (geq_DiskOut (Yg_8.out.rd R_DiskOut_ok) (Yw_8.out.rd R_DiskOut_ok)).mono ?_
      intro e w9 h
      obtain ⟨rfl, hb⟩ := isB_elim h
      clear qBg_0 qBg_1 qBg_2 qBw_0 qBw_1 qBw_2
      have PD_9 := Lib.hid (PD_8.out.call hb)
      have PF_9 := Lib.hid (PF_8.out.call hb)
      have Bw_9 := Lib.hid (Bw_8.out.call hb)
      have BXD_9 := Lib.hid (BXD_8.out.call hb)
      have Bg_9 := Lib.hid (Bg_8.out.call hb)
      have HD_9 := Lib.hid (gmv R_Disk_ok HD_8.out hb)
      have HF_9 := Lib.hid (gmv R_Frame_ok HF_8.out hb)
      have Yw_9 := Lib.hid (Yw_8.out.mv R_DiskOut_ok hb)
      have XD_9 := Lib.hid (XD_8.out.mv R_Disk_ok hb)
      have Yg_9 := Lib.hid (Yg_8.out.mv R_DiskOut_ok hb)
      have HB9 := Lib.hid (HB8.out.trans ((hb).mono HB8.out.size))
      have HZ10 := Lib.hid ((hb).size)
      clear PD_8 PF_8 Bw_8 BXD_8 Bg_8 HD_8 HF_8 Yw_8 XD_8 Yg_8 HB8
      clear h hb
      go_wp2_with fail
      refine wp_region_held_drew (S := (fun V => Below (w9).heap.size (w9) V)) (by kernel_rfl) ((Below.refl _ _).drew) (fun hHeld => ?_)
      refine tk 0 hHeld ?_ (hy := fun w hSw => by (try dsimp only at hSw); have k0 := (hSw.cell (p := ⟨w6.heap.size, 0, none⟩) BXD_9.out.lt).trans (BXD_9.out.at_ 0 rfl); have k1 := (hSw.cell (p := ⟨w6.heap.size, 1, none⟩) BXD_9.out.lt).trans (BXD_9.out.at_ 1 rfl); clear hSw; go_simp; try with_reducible rfl)
      refine tk 1 hHeld ?_ (hy := fun w hSw => by (try dsimp only at hSw); have k0 := (hSw.cell (p := ⟨W.heap.size, 0, none⟩) PD_9.out.lt).trans (PD_9.out.at_ 0 rfl); have k1 := (hSw.cell (p := ⟨W.heap.size, 1, none⟩) PD_9.out.lt).trans (PD_9.out.at_ 1 rfl); clear hSw; go_simp; try with_reducible rfl)
      refine rd1 2 (fun K hK => ?_)
      go_simp
      go_at_call 24
      refine (gto_Disk HSZD.out (gmv R_Disk_ok HD_9.out hHeld)).mono ?_
      intro e w901 h
      obtain ⟨us, rfl, hu, hb⟩ := newV_elim h
      obtain ⟨aD0901, cD0901, rfl, hu⟩ := owc_Disk hu
      have NZ := Lib.hid (owG_new hu)
      clear h hu
      refine hK.out _ _ (hHeld.trans (hb.mono hHeld.size)) (fun hHeld => ?_)
      clear hK K hb
      refine rd1 3 (fun K hK => ?_)
      go_simp
      go_at_call 26
      refine (geq_Disk (gmv R_Disk_ok (XD_9.out.rd R_Disk_ok) hHeld) (NZ.out.rd R_Disk_ok)).mono ?_
      intro e w902 h
      obtain ⟨rfl, hb⟩ := isB_elim h
      clear h
      refine hK.out _ _ (hHeld.trans (hb.mono hHeld.size)) (fun hHeld => ?_)
      clear hK K hb
      refine tk 4 hHeld ?_
      refine rd0 ?_
      have HF := Lib.hid hHeld
      clear hHeld
      have hF := HF.out
      have PD_10 := Lib.hid (PD_9.out.call hF)
      have PF_10 := Lib.hid (PF_9.out.call hF)
      have Bw_10 := Lib.hid (Bw_9.out.call hF)
      have BXD_10 := Lib.hid (BXD_9.out.call hF)
      have Bg_10 := Lib.hid (Bg_9.out.call hF)
      have HD_10 := Lib.hid (gmv R_Disk_ok HD_9.out hF)
      have HF_10 := Lib.hid (gmv R_Frame_ok HF_9.out hF)
      have Yw_10 := Lib.hid (Yw_9.out.mv R_DiskOut_ok hF)
      have XD_10 := Lib.hid (XD_9.out.mv R_Disk_ok hF)
      have Yg_10 := Lib.hid (Yg_9.out.mv R_DiskOut_ok hF)
      have HB10 := Lib.hid (HB9.out.trans ((hF).mono HB9.out.size))
      have HZ11 := Lib.hid ((hF).size)
      clear PD_9 PF_9 Bw_9 BXD_9 Bg_9 HD_9 HF_9 Yw_9 XD_9 Yg_9 HB9
      clear HF hF NZ
      have qBXD_0 := BXD_10.out.at_ 0 rfl
      have qBXD_1 := BXD_10.out.at_ 1 rfl
      go_wp2_with fail
      refine (gmark_Disk (by omega) (by have h1 := HSAD.out; omega) XD_10.out.2 XD_10.out.1).mono ?_
      intro e wm0 h
      obtain ⟨dM0, y0, rfl, hmv, hzz, ho, hoff⟩ := markG_elim h
      clear qBXD_0 qBXD_1
      have HB11 := Lib.hid (HB10.out.trans (hoff.below HB10.out.size (fun k hk => by have zHZ3 := HZ3.out; have zHZ4 := HZ4.out; have zHZ5 := HZ5.out; have zHZ6 := HZ6.out; have zHZ7 := HZ7.out; have zHZ8 := HZ8.out; have zHZ9 := HZ9.out; have zHZ10 := HZ10.out; have zHZ11 := HZ11.out; have yHPL := HPL.out; have yHGLw := HGLw.out; have yHGw := HGw.out; have yHGLg := HGLg.out; have yHGg := HGg.out; have rD := HSD.out _ hk; try unfold Rg at rD; omega)))
      have PD_11 := Lib.hid (PD_10.out.off hoff PD_10.out.lt (fun hk => by have zHZ3 := HZ3.out; have zHZ4 := HZ4.out; have zHZ5 := HZ5.out; have zHZ6 := HZ6.out; have zHZ7 := HZ7.out; have zHZ8 := HZ8.out; have zHZ9 := HZ9.out; have zHZ10 := HZ10.out; have zHZ11 := HZ11.out; have yHPL := HPL.out; have yHGLw := HGLw.out; have yHGw := HGw.out; have yHGLg := HGLg.out; have yHGg := HGg.out; have rD := HSD.out _ hk; try unfold Rg at rD; omega))
      have PF_11 := Lib.hid (PF_10.out.off hoff PF_10.out.lt (fun hk => by have zHZ3 := HZ3.out; have zHZ4 := HZ4.out; have zHZ5 := HZ5.out; have zHZ6 := HZ6.out; have zHZ7 := HZ7.out; have zHZ8 := HZ8.out; have zHZ9 := HZ9.out; have zHZ10 := HZ10.out; have zHZ11 := HZ11.out; have yHPL := HPL.out; have yHGLw := HGLw.out; have yHGw := HGw.out; have yHGLg := HGLg.out; have yHGg := HGg.out; have rD := HSD.out _ hk; try unfold Rg at rD; omega))
      have Bw_11 := Lib.hid (Bw_10.out.off hoff Bw_10.out.lt (fun hk => by have zHZ3 := HZ3.out; have zHZ4 := HZ4.out; have zHZ5 := HZ5.out; have zHZ6 := HZ6.out; have zHZ7 := HZ7.out; have zHZ8 := HZ8.out; have zHZ9 := HZ9.out; have zHZ10 := HZ10.out; have zHZ11 := HZ11.out; have yHPL := HPL.out; have yHGLw := HGLw.out; have yHGw := HGw.out; have yHGLg := HGLg.out; have yHGg := HGg.out; have rD := HSD.out _ hk; try unfold Rg at rD; omega))
      have BXD_11 := Lib.hid (BXD_10.out.off hoff BXD_10.out.lt (fun hk => by have zHZ3 := HZ3.out; have zHZ4 := HZ4.out; have zHZ5 := HZ5.out; have zHZ6 := HZ6.out; have zHZ7 := HZ7.out; have zHZ8 := HZ8.out; have zHZ9 := HZ9.out; have zHZ10 := HZ10.out; have zHZ11 := HZ11.out; have yHPL := HPL.out; have yHGLw := HGLw.out; have yHGw := HGw.out; have yHGLg := HGLg.out; have yHGg := HGg.out; have rD := HSD.out _ hk; try unfold Rg at rD; omega))
      have Bg_11 := Lib.hid (Bg_10.out.off hoff Bg_10.out.lt (fun hk => by have zHZ3 := HZ3.out; have zHZ4 := HZ4.out; have zHZ5 := HZ5.out; have zHZ6 := HZ6.out; have zHZ7 := HZ7.out; have zHZ8 := HZ8.out; have zHZ9 := HZ9.out; have zHZ10 := HZ10.out; have zHZ11 := HZ11.out; have yHPL := HPL.out; have yHGLw := HGLw.out; have yHGw := HGw.out; have yHGLg := HGLg.out; have yHGg := HGg.out; have rD := HSD.out _ hk; try unfold Rg at rD; omega))
      have HD_11 := Lib.hid (gmv R_Disk_ok HD0.out HB11.out)
      have HF_11 := Lib.hid (gmv R_Frame_ok HF0.out HB11.out)
      have Yw_11 := Lib.hid (Yw_10.out.off R_DiskOut_ok hoff (fun k hk hk2 => by have zHZ3 := HZ3.out; have zHZ4 := HZ4.out; have zHZ5 := HZ5.out; have zHZ6 := HZ6.out; have zHZ7 := HZ7.out; have zHZ8 := HZ8.out; have zHZ9 := HZ9.out; have zHZ10 := HZ10.out; have zHZ11 := HZ11.out; have yHPL := HPL.out; have yHGLw := HGLw.out; have yHGw := HGw.out; have yHGLg := HGLg.out; have yHGg := HGg.out; have rD := HSD.out k hk2; try unfold Rg at rD; have rw := HSw.out k hk; try unfold Rg at rw; omega))
      have Yg_11 := Lib.hid (Yg_10.out.off R_DiskOut_ok hoff (fun k hk hk2 => by have zHZ3 := HZ3.out; have zHZ4 := HZ4.out; have zHZ5 := HZ5.out; have zHZ6 := HZ6.out; have zHZ7 := HZ7.out; have zHZ8 := HZ8.out; have zHZ9 := HZ9.out; have zHZ10 := HZ10.out; have zHZ11 := HZ11.out; have yHPL := HPL.out; have yHGLw := HGLw.out; have yHGw := HGw.out; have yHGLg := HGLg.out; have yHGg := HGg.out; have rD := HSD.out k hk2; try unfold Rg at rD; have rg := HSg.out k hk; try unfold Rg at rg; omega))
      have hyl0 : 0 ≤ y0 := by omega
      have hyu0 : y0 ≤ 20000000 := by have h1 := HSAD.out; omega
      have hkn : decide (y0 < 0) = false := decide_eq_false (by omega)
      have HZ12 := Lib.hid (hoff.size)
      clear h hmv hzz ho hoff
      have qBg_0 := Bg_11.out.at_ 0 rfl
      have qBg_1 := Bg_11.out.at_ 1 rfl
      have qBg_2 := Bg_11.out.at_ 2 rfl
      have qBw_0 := Bw_11.out.at_ 0 rfl
      have qBw_1 := Bw_11.out.at_ 1 rfl
      have qBw_2 := Bw_11.out.at_ 2 rfl
      go_wp2_with fail
      refine (geq_DiskOut (Yg_11.out.rd R_DiskOut_ok) (Yw_11.out.rd R_DiskOut_ok)).mono ?_
      intro e w12 h
      obtain ⟨rfl, hb⟩ := isB_elim h
      clear qBg_0 qBg_1 qBg_2 qBw_0 qBw_1 qBw_2
      have PD_12 := Lib.hid (PD_11.out.call hb)
      have PF_12 := Lib.hid (PF_11.out.call hb)
      have Bw_12 := Lib.hid (Bw_11.out.call hb)
      have BXD_12 := Lib.hid (BXD_11.out.call hb)
      have Bg_12 := Lib.hid (Bg_11.out.call hb)
      have HD_12 := Lib.hid (gmv R_Disk_ok HD_11.out hb)
      have HF_12 := Lib.hid (gmv R_Frame_ok HF_11.out hb)
      have Yw_12 := Lib.hid (Yw_11.out.mv R_DiskOut_ok hb)
      have Yg_12 := Lib.hid (Yg_11.out.mv R_DiskOut_ok hb)
      have HB12 := Lib.hid (HB11.out.trans ((hb).mono HB11.out.size))
      have HZ13 := Lib.hid ((hb).size)
      clear PD_11 PF_11 Bw_11 BXD_11 Bg_11 HD_11 HF_11 Yw_11 Yg_11 HB11
      clear h hb
      clear hkn
      have qBg_0 := Bg_12.out.at_ 0 rfl
      have qBg_1 := Bg_12.out.at_ 1 rfl
      have qBg_2 := Bg_12.out.at_ 2 rfl
      go_wp2_with fail
      refine (gmark_DiskOut (by omega) (by have h1 := HSM.out; omega) Yg_12.out.2 Yg_12.out.1).mono ?_
      intro e wn h
      obtain ⟨dN, zN, rfl, hmv, hzz, ho, hoff⟩ := markG_elim h
      clear qBg_0 qBg_1 qBg_2
      have HB13 := Lib.hid (HB12.out.trans (hoff.below HB12.out.size (fun k hk => by have zHZ3 := HZ3.out; have zHZ4 := HZ4.out; have zHZ5 := HZ5.out; have zHZ6 := HZ6.out; have zHZ7 := HZ7.out; have zHZ8 := HZ8.out; have zHZ9 := HZ9.out; have zHZ10 := HZ10.out; have zHZ11 := HZ11.out; have zHZ12 := HZ12.out; have zHZ13 := HZ13.out; have yHPL := HPL.out; have yHGLw := HGLw.out; have yHGw := HGw.out; have yHGLg := HGLg.out; have yHGg := HGg.out; have rg := HSg.out _ hk; try unfold Rg at rg; omega)))
      have PD_13 := Lib.hid (PD_12.out.off hoff PD_12.out.lt (fun hk => by have zHZ3 := HZ3.out; have zHZ4 := HZ4.out; have zHZ5 := HZ5.out; have zHZ6 := HZ6.out; have zHZ7 := HZ7.out; have zHZ8 := HZ8.out; have zHZ9 := HZ9.out; have zHZ10 := HZ10.out; have zHZ11 := HZ11.out; have zHZ12 := HZ12.out; have zHZ13 := HZ13.out; have yHPL := HPL.out; have yHGLw := HGLw.out; have yHGw := HGw.out; have yHGLg := HGLg.out; have yHGg := HGg.out; have rg := HSg.out _ hk; try unfold Rg at rg; omega))
      have PF_13 := Lib.hid (PF_12.out.off hoff PF_12.out.lt (fun hk => by have zHZ3 := HZ3.out; have zHZ4 := HZ4.out; have zHZ5 := HZ5.out; have zHZ6 := HZ6.out; have zHZ7 := HZ7.out; have zHZ8 := HZ8.out; have zHZ9 := HZ9.out; have zHZ10 := HZ10.out; have zHZ11 := HZ11.out; have zHZ12 := HZ12.out; have zHZ13 := HZ13.out; have yHPL := HPL.out; have yHGLw := HGLw.out; have yHGw := HGw.out; have yHGLg := HGLg.out; have yHGg := HGg.out; have rg := HSg.out _ hk; try unfold Rg at rg; omega))
      have Bw_13 := Lib.hid (Bw_12.out.off hoff Bw_12.out.lt (fun hk => by have zHZ3 := HZ3.out; have zHZ4 := HZ4.out; have zHZ5 := HZ5.out; have zHZ6 := HZ6.out; have zHZ7 := HZ7.out; have zHZ8 := HZ8.out; have zHZ9 := HZ9.out; have zHZ10 := HZ10.out; have zHZ11 := HZ11.out; have zHZ12 := HZ12.out; have zHZ13 := HZ13.out; have yHPL := HPL.out; have yHGLw := HGLw.out; have yHGw := HGw.out; have yHGLg := HGLg.out; have yHGg := HGg.out; have rg := HSg.out _ hk; try unfold Rg at rg; omega))
      have BXD_13 := Lib.hid (BXD_12.out.off hoff BXD_12.out.lt (fun hk => by have zHZ3 := HZ3.out; have zHZ4 := HZ4.out; have zHZ5 := HZ5.out; have zHZ6 := HZ6.out; have zHZ7 := HZ7.out; have zHZ8 := HZ8.out; have zHZ9 := HZ9.out; have zHZ10 := HZ10.out; have zHZ11 := HZ11.out; have zHZ12 := HZ12.out; have zHZ13 := HZ13.out; have yHPL := HPL.out; have yHGLw := HGLw.out; have yHGw := HGw.out; have yHGLg := HGLg.out; have yHGg := HGg.out; have rg := HSg.out _ hk; try unfold Rg at rg; omega))
      have Bg_13 := Lib.hid (Bg_12.out.off hoff Bg_12.out.lt (fun hk => by exact (HTg.out _ hk).2 rfl))
      have HD_13 := Lib.hid (gmv R_Disk_ok HD0.out HB13.out)
      have HF_13 := Lib.hid (gmv R_Frame_ok HF0.out HB13.out)
      have Yw_13 := Lib.hid (Yw_12.out.off R_DiskOut_ok hoff (fun k hk hk2 => by have zHZ3 := HZ3.out; have zHZ4 := HZ4.out; have zHZ5 := HZ5.out; have zHZ6 := HZ6.out; have zHZ7 := HZ7.out; have zHZ8 := HZ8.out; have zHZ9 := HZ9.out; have zHZ10 := HZ10.out; have zHZ11 := HZ11.out; have zHZ12 := HZ12.out; have zHZ13 := HZ13.out; have yHPL := HPL.out; have yHGLw := HGLw.out; have yHGw := HGw.out; have yHGLg := HGLg.out; have yHGg := HGg.out; have rg := HSg.out k hk2; try unfold Rg at rg; have rw := HSw.out k hk; try unfold Rg at rw; omega))
      have Yg_13 := Lib.hid (show OwG R_DiskOut wn _ dN _ from ⟨ho, fun k hk => Nat.lt_of_lt_of_le (Yg_12.out.2 k hk) hoff.size⟩)
      have HMV := Lib.hid hmv
      have hzn : decide (zN < 0) = false := decide_eq_false (by omega)
      have hze : (zN != zN) = false := by simp
      have hzb : zN ≤ 4611686018427387904 := by have := HSM.out; omega
      have HZ14 := Lib.hid (hoff.size)
      clear h hmv hzz ho hoff
      have qBg_0 := Bg_13.out.at_ 0 rfl
      have qBg_1 := Bg_13.out.at_ 1 rfl
      have qBg_2 := Bg_13.out.at_ 2 rfl
      go_wp2_with fail
      refine (gheld_DiskOut (by omega) hzb HMV.out (Yg_13.out.rd R_DiskOut_ok)).mono ?_
      intro e w14 h
      obtain ⟨rfl, hb⟩ := heldC_elim h
      clear qBg_0 qBg_1 qBg_2
      have PD_14 := Lib.hid (PD_13.out.call hb)
      have PF_14 := Lib.hid (PF_13.out.call hb)
      have Bw_14 := Lib.hid (Bw_13.out.call hb)
      have BXD_14 := Lib.hid (BXD_13.out.call hb)
      have Bg_14 := Lib.hid (Bg_13.out.call hb)
      have HD_14 := Lib.hid (gmv R_Disk_ok HD_13.out hb)
      have HF_14 := Lib.hid (gmv R_Frame_ok HF_13.out hb)
      have Yw_14 := Lib.hid (Yw_13.out.mv R_DiskOut_ok hb)
      have Yg_14 := Lib.hid (Yg_13.out.mv R_DiskOut_ok hb)
      have HB14 := Lib.hid (HB13.out.trans ((hb).mono HB13.out.size))
      have HZ15 := Lib.hid ((hb).size)
      clear PD_13 PF_13 Bw_13 BXD_13 Bg_13 HD_13 HF_13 Yw_13 Yg_13 HB13
      clear h hb
      go_upto_region 27 with fail
      go_cut [16] (fun s8 wx => ∃ (gh : Nat) (ra0h : Option Addr) (rc0h : Nat) (Sh : Nat → Prop), s8 = .pointer (some ⟨gh, 0, none⟩) ∧ Hid (Blk wx gh 55 #[.slice ra0h dL0.length rc0h, .int .i64 dx1, .int .i64 dx2]) ∧ Hid (OwG R_DiskOut wx Sh ((dL0, dx1), dx2) [.slice ra0h dL0.length rc0h, .int .i64 dx1, .int .i64 dx2]) ∧ Hid (∀ k, Sh k → w14.heap.size ≤ k ∧ k ≠ gh) ∧ Hid (w14.heap.size ≤ gh) ∧ Hid (Below w14.heap.size w14 wx))
      case first =>
        refine wp_region_held_drew (S := (fun V => Below w14.heap.size w14 V)) (by kernel_rfl) ((Below.refl _ _).drew) (fun hHeld => ?_)
        refine tk 0 hHeld ?_ (hy := fun w hSw => by (try dsimp only at hSw); have k0 := (hSw.cell (p := ⟨W.heap.size, 0, none⟩) PD_14.out.lt).trans (PD_14.out.at_ 0 rfl); have k1 := (hSw.cell (p := ⟨W.heap.size, 1, none⟩) PD_14.out.lt).trans (PD_14.out.at_ 1 rfl); clear hSw; go_simp; try with_reducible rfl)
        refine tk 2 hHeld ?_
        refine tk 3 hHeld ?_
        refine tk 4 hHeld ?_ (hy := fun w hSw => by (try dsimp only at hSw); have k0 := (hSw.cell (p := ⟨(W.heap.size + 1), 0, none⟩) PF_14.out.lt).trans (PF_14.out.at_ 0 rfl); have k1 := (hSw.cell (p := ⟨(W.heap.size + 1), 1, none⟩) PF_14.out.lt).trans (PF_14.out.at_ 1 rfl); clear hSw; go_simp; try with_reducible rfl)
        refine rd2 1 7 (fun K hK => ?_) (fun K hK => ?_)
        · skip
          go_simp
          go_at_call 24
          refine (gto_Disk HSZD.out (gmv R_Disk_ok HD_14.out hHeld)).mono ?_
          intro e v27_1 h
          obtain ⟨us, rfl, hu, hb⟩ := newV_elim h
          obtain ⟨aD0_27_1, cD0_27_1, rfl, hu⟩ := owc_Disk hu
          have ND := Lib.hid (owG_new hu)
          clear h hu
          refine hK.out _ _ (hHeld.trans (hb.mono hHeld.size)) (fun hHeld => ?_)
          clear hK K hb
          refine rd2 5 7 (fun K hK => ?_) (fun K hK => ?_)
          · skip
            go_simp
            go_at_call 11
            refine (gto_Frame HSZF.out (gmv R_Frame_ok HF_14.out hHeld)).mono ?_
            intro e v27_2 h
            obtain ⟨us, rfl, hu, hb⟩ := newV_elim h
            obtain ⟨rfl, hu⟩ := owc_Frame hu
            have ND := Lib.hid (ND.out.mv R_Disk_ok hb)
            have NF := Lib.hid (owG_new hu)
            clear h hu
            refine hK.out _ _ (hHeld.trans (hb.mono hHeld.size)) (fun hHeld => ?_)
            clear hK K hb
            refine rd2 6 7 (fun K hK => ?_) (fun K hK => ?_)
            · skip
              go_simp
              go_at_call 32
              refine (gdslot_impl (ND.out.rd R_Disk_ok) (NF.out.rd R_Frame_ok)).mono ?_
              intro e v27_3 h
              rw [HDD.out] at h
              obtain ⟨us, rfl, hu, hb⟩ := newV_elim h
              obtain ⟨ra027_3, rc027_3, rfl, hu⟩ := owc_DiskOut hu
              have hHeld0 := Lib.hid hHeld
              have OW := Lib.hid (owG_new hu)
              clear h hu ND NF
              refine hK.out _ _ (hHeld.trans (hb.mono hHeld.size)) (fun hHeld => ?_)
              clear hK K hb
              refine rd1 7 (fun K hK => ?_)
              go_simp
              have hb : Below (v27_3).heap.size (v27_3) (v27_3.alloc (.cells #[.slice none 0 0, .int .i64 0, .int .i64 0] 55)) := (Below.refl _ _).alloc (Nat.le_refl _) _
              have OW0 := OW
              have OW := Lib.hid (OW.out.mv R_DiskOut_ok hb)
              have GB := Lib.hid (show Blk (v27_3.alloc (.cells #[.slice none 0 0, .int .i64 0, .int .i64 0] 55)) v27_3.heap.size 55 #[.slice none 0 0, .int .i64 0, .int .i64 0] from Blk.new (v27_3) 55 #[.slice none 0 0, .int .i64 0, .int .i64 0])
              have HGE := Lib.hid (show w14.heap.size ≤ v27_3.heap.size from hHeld.size)
              have HTB := Lib.hid (show ∀ k, Rg v27_2.heap.size v27_3.heap.size k → w14.heap.size ≤ k ∧ k ≠ v27_3.heap.size from fun k hk => ⟨Nat.le_trans hHeld0.out.size hk.1, by have := hk.2; omega⟩)
              have hPre := Lib.hid hHeld
              refine hK.out _ _ (hHeld.trans (hb.mono hHeld.size)) (fun hHeld => ?_)
              clear hK K hb
              refine rd1 8 (fun K hK => ?_)
              go_simp
              refine hK.out _ _ (hPre.out.alloc HGE.out (.cells #[.slice ra027_3 dL0.length rc027_3, .int .i64 dx1, .int .i64 dx2] 55)) (fun hHeld => ?_)
              clear hK K
              refine rd0 ?_
              go_wp2_with fail
              go_meet
              exact ⟨_, _, _, _, rfl, Lib.hid (Blk.new v27_3 55 #[.slice ra027_3 dL0.length rc027_3, .int .i64 dx1, .int .i64 dx2]), Lib.hid (OW0.out.mv R_DiskOut_ok ((Below.refl _ _).alloc (Nat.le_refl _) (.cells #[.slice ra027_3 dL0.length rc027_3, .int .i64 dx1, .int .i64 dx2] 55))), HTB, HGE, Lib.hid hHeld⟩
            · skip
              go_simp
              have hb : Below (v27_2).heap.size (v27_2) (v27_2.alloc (.cells #[.slice none 0 0, .int .i64 0, .int .i64 0] 55)) := (Below.refl _ _).alloc (Nat.le_refl _) _
              have ND := Lib.hid (ND.out.mv R_Disk_ok hb)
              have NF := Lib.hid (NF.out.mv R_Frame_ok hb)
              have GB := Lib.hid (show Blk (v27_2.alloc (.cells #[.slice none 0 0, .int .i64 0, .int .i64 0] 55)) v27_2.heap.size 55 #[.slice none 0 0, .int .i64 0, .int .i64 0] from Blk.new (v27_2) 55 #[.slice none 0 0, .int .i64 0, .int .i64 0])
              have HGE := Lib.hid (show w14.heap.size ≤ v27_2.heap.size from hHeld.size)
              refine hK.out _ _ (hHeld.trans (hb.mono hHeld.size)) (fun hHeld => ?_)
              clear hK K hb
              have GBl := Lib.hid (show v27_2.heap.size < (v27_2.alloc (.cells #[.slice none 0 0, .int .i64 0, .int .i64 0] 55)).heap.size from GB.out.lt)
              refine rd1 6 (fun K hK => ?_)
              go_simp
              go_at_call 32
              refine (gdslot_impl (ND.out.rd R_Disk_ok) (NF.out.rd R_Frame_ok)).mono ?_
              intro e v27_4 h
              rw [HDD.out] at h
              obtain ⟨us, rfl, hu, hb⟩ := newV_elim h
              obtain ⟨ra027_4, rc027_4, rfl, hu⟩ := owc_DiskOut hu
              have hHeld0 := Lib.hid hHeld
              have GB := Lib.hid (GB.out.call hb)
              have OW := Lib.hid (owG_new hu)
              have HTB := Lib.hid (show ∀ k, Rg (v27_2.alloc (.cells #[.slice none 0 0, .int .i64 0, .int .i64 0] 55)).heap.size v27_4.heap.size k → w14.heap.size ≤ k ∧ k ≠ v27_2.heap.size from fun k hk => ⟨Nat.le_trans hHeld.size hk.1, by have h1 := hk.1; have h2 := GBl.out; omega⟩)
              clear h hu ND NF
              refine hK.out _ _ (hHeld.trans (hb.mono hHeld.size)) (fun hHeld => ?_)
              clear hK K hb
              have GBl := Lib.hid (show v27_2.heap.size < v27_4.heap.size from GB.out.lt)
              refine rd1 8 (fun K hK => ?_)
              have q0 := GB.out.at_ 0 rfl
              have f0 := GB.out.soft 0
              have q1 := GB.out.at_ 1 rfl
              have f1 := GB.out.soft 1
              have q2 := GB.out.at_ 2 rfl
              have f2 := GB.out.soft 2
              go_simp
              refine hK.out _ _ (((hHeld.setCell (p := ⟨v27_2.heap.size, 0, none⟩) (by exact HGE.out) (.slice ra027_4 dL0.length rc027_4)).setCell (p := ⟨v27_2.heap.size, 1, none⟩) (by exact HGE.out) (.int .i64 dx1)).setCell (p := ⟨v27_2.heap.size, 2, none⟩) (by exact HGE.out) (.int .i64 dx2)) (fun hHeld => ?_)
              clear hK K q0 f0 q1 f1 q2 f2
              refine rd0 ?_
              go_wp2_with fail
              go_meet
              exact ⟨_, _, _, _, rfl, Lib.hid (sets_DiskOut GB.out), Lib.hid (OW.out.off R_DiskOut_ok (soff_DiskOut _ _ _ _ _) (fun k hk h2 => (HTB.out k hk).2 h2)), HTB, HGE, Lib.hid hHeld⟩
          · skip
            go_simp
            have hb : Below (v27_1).heap.size (v27_1) (v27_1.alloc (.cells #[.slice none 0 0, .int .i64 0, .int .i64 0] 55)) := (Below.refl _ _).alloc (Nat.le_refl _) _
            have ND := Lib.hid (ND.out.mv R_Disk_ok hb)
            have GB := Lib.hid (show Blk (v27_1.alloc (.cells #[.slice none 0 0, .int .i64 0, .int .i64 0] 55)) v27_1.heap.size 55 #[.slice none 0 0, .int .i64 0, .int .i64 0] from Blk.new (v27_1) 55 #[.slice none 0 0, .int .i64 0, .int .i64 0])
            have HGE := Lib.hid (show w14.heap.size ≤ v27_1.heap.size from hHeld.size)
            refine hK.out _ _ (hHeld.trans (hb.mono hHeld.size)) (fun hHeld => ?_)
            clear hK K hb
            have GBl := Lib.hid (show v27_1.heap.size < (v27_1.alloc (.cells #[.slice none 0 0, .int .i64 0, .int .i64 0] 55)).heap.size from GB.out.lt)
            refine rd1 5 (fun K hK => ?_)
            go_simp
            go_at_call 11
            refine (gto_Frame HSZF.out (gmv R_Frame_ok HF_14.out hHeld)).mono ?_
            intro e v27_5 h
            obtain ⟨us, rfl, hu, hb⟩ := newV_elim h
            obtain ⟨rfl, hu⟩ := owc_Frame hu
            have ND := Lib.hid (ND.out.mv R_Disk_ok hb)
            have GB := Lib.hid (GB.out.call hb)
            have NF := Lib.hid (owG_new hu)
            clear h hu
            refine hK.out _ _ (hHeld.trans (hb.mono hHeld.size)) (fun hHeld => ?_)
            clear hK K hb
            have GBl := Lib.hid (show v27_1.heap.size < v27_5.heap.size from GB.out.lt)
            refine rd1 6 (fun K hK => ?_)
            go_simp
            go_at_call 32
            refine (gdslot_impl (ND.out.rd R_Disk_ok) (NF.out.rd R_Frame_ok)).mono ?_
            intro e v27_6 h
            rw [HDD.out] at h
            obtain ⟨us, rfl, hu, hb⟩ := newV_elim h
            obtain ⟨ra027_6, rc027_6, rfl, hu⟩ := owc_DiskOut hu
            have hHeld0 := Lib.hid hHeld
            have GB := Lib.hid (GB.out.call hb)
            have OW := Lib.hid (owG_new hu)
            have HTB := Lib.hid (show ∀ k, Rg v27_5.heap.size v27_6.heap.size k → w14.heap.size ≤ k ∧ k ≠ v27_1.heap.size from fun k hk => ⟨Nat.le_trans hHeld.size hk.1, by have h1 := hk.1; have h2 := GBl.out; omega⟩)
            clear h hu ND NF
            refine hK.out _ _ (hHeld.trans (hb.mono hHeld.size)) (fun hHeld => ?_)
            clear hK K hb
            have GBl := Lib.hid (show v27_1.heap.size < v27_6.heap.size from GB.out.lt)
            refine rd1 8 (fun K hK => ?_)
            have q0 := GB.out.at_ 0 rfl
            have f0 := GB.out.soft 0
            have q1 := GB.out.at_ 1 rfl
            have f1 := GB.out.soft 1
            have q2 := GB.out.at_ 2 rfl
            have f2 := GB.out.soft 2
            go_simp
            refine hK.out _ _ (((hHeld.setCell (p := ⟨v27_1.heap.size, 0, none⟩) (by exact HGE.out) (.slice ra027_6 dL0.length rc027_6)).setCell (p := ⟨v27_1.heap.size, 1, none⟩) (by exact HGE.out) (.int .i64 dx1)).setCell (p := ⟨v27_1.heap.size, 2, none⟩) (by exact HGE.out) (.int .i64 dx2)) (fun hHeld => ?_)
            clear hK K q0 f0 q1 f1 q2 f2
            refine rd0 ?_
            go_wp2_with fail
            go_meet
            exact ⟨_, _, _, _, rfl, Lib.hid (sets_DiskOut GB.out), Lib.hid (OW.out.off R_DiskOut_ok (soff_DiskOut _ _ _ _ _) (fun k hk h2 => (HTB.out k hk).2 h2)), HTB, HGE, Lib.hid hHeld⟩
        · skip
          go_simp
          have hb : Below (w14.drew).heap.size (w14.drew) ((w14.drew).alloc (.cells #[.slice none 0 0, .int .i64 0, .int .i64 0] 55)) := (Below.refl _ _).alloc (Nat.le_refl _) _
          have GB := Lib.hid (show Blk ((w14.drew).alloc (.cells #[.slice none 0 0, .int .i64 0, .int .i64 0] 55)) w14.heap.size 55 #[.slice none 0 0, .int .i64 0, .int .i64 0] from Blk.new (w14.drew) 55 #[.slice none 0 0, .int .i64 0, .int .i64 0])
          have HGE := Lib.hid (show w14.heap.size ≤ w14.heap.size from hHeld.size)
          refine hK.out _ _ (hHeld.trans (hb.mono hHeld.size)) (fun hHeld => ?_)
          clear hK K hb
          have GBl := Lib.hid (show w14.heap.size < ((w14.drew).alloc (.cells #[.slice none 0 0, .int .i64 0, .int .i64 0] 55)).heap.size from GB.out.lt)
          refine rd1 1 (fun K hK => ?_)
          go_simp
          go_at_call 24
          refine (gto_Disk HSZD.out (gmv R_Disk_ok HD_14.out hHeld)).mono ?_
          intro e v27_7 h
          obtain ⟨us, rfl, hu, hb⟩ := newV_elim h
          obtain ⟨aD0_27_7, cD0_27_7, rfl, hu⟩ := owc_Disk hu
          have GB := Lib.hid (GB.out.call hb)
          have ND := Lib.hid (owG_new hu)
          clear h hu
          refine hK.out _ _ (hHeld.trans (hb.mono hHeld.size)) (fun hHeld => ?_)
          clear hK K hb
          have GBl := Lib.hid (show w14.heap.size < v27_7.heap.size from GB.out.lt)
          refine rd1 5 (fun K hK => ?_)
          go_simp
          go_at_call 11
          refine (gto_Frame HSZF.out (gmv R_Frame_ok HF_14.out hHeld)).mono ?_
          intro e v27_8 h
          obtain ⟨us, rfl, hu, hb⟩ := newV_elim h
          obtain ⟨rfl, hu⟩ := owc_Frame hu
          have ND := Lib.hid (ND.out.mv R_Disk_ok hb)
          have GB := Lib.hid (GB.out.call hb)
          have NF := Lib.hid (owG_new hu)
          clear h hu
          refine hK.out _ _ (hHeld.trans (hb.mono hHeld.size)) (fun hHeld => ?_)
          clear hK K hb
          have GBl := Lib.hid (show w14.heap.size < v27_8.heap.size from GB.out.lt)
          refine rd1 6 (fun K hK => ?_)
          go_simp
          go_at_call 32
          refine (gdslot_impl (ND.out.rd R_Disk_ok) (NF.out.rd R_Frame_ok)).mono ?_
          intro e v27_9 h
          rw [HDD.out] at h
          obtain ⟨us, rfl, hu, hb⟩ := newV_elim h
          obtain ⟨ra027_9, rc027_9, rfl, hu⟩ := owc_DiskOut hu
          have hHeld0 := Lib.hid hHeld
          have GB := Lib.hid (GB.out.call hb)
          have OW := Lib.hid (owG_new hu)
          have HTB := Lib.hid (show ∀ k, Rg v27_8.heap.size v27_9.heap.size k → w14.heap.size ≤ k ∧ k ≠ w14.heap.size from fun k hk => ⟨Nat.le_trans hHeld.size hk.1, by have h1 := hk.1; have h2 := GBl.out; omega⟩)
          clear h hu ND NF
          refine hK.out _ _ (hHeld.trans (hb.mono hHeld.size)) (fun hHeld => ?_)
          clear hK K hb
          have GBl := Lib.hid (show w14.heap.size < v27_9.heap.size from GB.out.lt)
          refine rd1 8 (fun K hK => ?_)
          have q0 := GB.out.at_ 0 rfl
          have f0 := GB.out.soft 0
          have q1 := GB.out.at_ 1 rfl
          have f1 := GB.out.soft 1
          have q2 := GB.out.at_ 2 rfl
          have f2 := GB.out.soft 2
          go_simp
          refine hK.out _ _ (((hHeld.setCell (p := ⟨w14.heap.size, 0, none⟩) (by exact HGE.out) (.slice ra027_9 dL0.length rc027_9)).setCell (p := ⟨w14.heap.size, 1, none⟩) (by exact HGE.out) (.int .i64 dx1)).setCell (p := ⟨w14.heap.size, 2, none⟩) (by exact HGE.out) (.int .i64 dx2)) (fun hHeld => ?_)
          clear hK K q0 f0 q1 f1 q2 f2
          refine rd0 ?_
          go_wp2_with fail
          go_meet
          exact ⟨_, _, _, _, rfl, Lib.hid (sets_DiskOut GB.out), Lib.hid (OW.out.off R_DiskOut_ok (soff_DiskOut _ _ _ _ _) (fun k hk h2 => (HTB.out k hk).2 h2)), HTB, HGE, Lib.hid hHeld⟩
      case rest =>
        obtain ⟨gh, ra0h, rc0h, Sh, rfl, HX8, HO8, HT8, HG8, hcb⟩ := hcut
        rename World => w15
        have hb := hcb.out
        have PD_15 := Lib.hid (PD_14.out.call hb)
        have PF_15 := Lib.hid (PF_14.out.call hb)
        have Bw_15 := Lib.hid (Bw_14.out.call hb)
        have BXD_15 := Lib.hid (BXD_14.out.call hb)
        have Bg_15 := Lib.hid (Bg_14.out.call hb)
        have HD_15 := Lib.hid (gmv R_Disk_ok HD_14.out hb)
        have HF_15 := Lib.hid (gmv R_Frame_ok HF_14.out hb)
        have Yw_15 := Lib.hid (Yw_14.out.mv R_DiskOut_ok hb)
        have Yg_15 := Lib.hid (Yg_14.out.mv R_DiskOut_ok hb)
        have HB15 := Lib.hid (HB14.out.trans ((hb).mono HB14.out.size))
        have HZ16 := Lib.hid ((hb).size)
        clear PD_14 PF_14 Bw_14 BXD_14 Bg_14 HD_14 HF_14 Yw_14 Yg_14 HB14
        clear hb hcb
        have Bh_15 := HX8
        have Yh_15 := HO8
        have HTh := HT8
        have HGh := HG8
        clear HX8 HO8 HT8 HG8
        have HSh := Lib.hid (fun k (hk : Sh k) => (⟨(HTh.out k hk).1, Yh_15.out.2 k hk⟩ : w14.heap.size ≤ k ∧ k < w15.heap.size))
        have HGLh := Lib.hid (show gh < w15.heap.size from Bh_15.out.lt)
        have qBh_0 := Bh_15.out.at_ 0 rfl
        have qBh_1 := Bh_15.out.at_ 1 rfl
        have qBh_2 := Bh_15.out.at_ 2 rfl
        have qBw_0 := Bw_15.out.at_ 0 rfl
        have qBw_1 := Bw_15.out.at_ 1 rfl
        have qBw_2 := Bw_15.out.at_ 2 rfl
        go_wp2_with fail
        refine (geq_DiskOut (Yh_15.out.rd R_DiskOut_ok) (Yw_15.out.rd R_DiskOut_ok)).mono ?_
        intro e w16 h
        obtain ⟨rfl, hb⟩ := isB_elim h
        clear qBh_0 qBh_1 qBh_2 qBw_0 qBw_1 qBw_2
        have PD_16 := Lib.hid (PD_15.out.call hb)
        have PF_16 := Lib.hid (PF_15.out.call hb)
        have Bw_16 := Lib.hid (Bw_15.out.call hb)
        have BXD_16 := Lib.hid (BXD_15.out.call hb)
        have Bg_16 := Lib.hid (Bg_15.out.call hb)
        have Bh_16 := Lib.hid (Bh_15.out.call hb)
        have HD_16 := Lib.hid (gmv R_Disk_ok HD_15.out hb)
        have HF_16 := Lib.hid (gmv R_Frame_ok HF_15.out hb)
        have Yw_16 := Lib.hid (Yw_15.out.mv R_DiskOut_ok hb)
        have Yg_16 := Lib.hid (Yg_15.out.mv R_DiskOut_ok hb)
        have Yh_16 := Lib.hid (Yh_15.out.mv R_DiskOut_ok hb)
        have HB16 := Lib.hid (HB15.out.trans ((hb).mono HB15.out.size))
        have HZ17 := Lib.hid ((hb).size)
        clear PD_15 PF_15 Bw_15 BXD_15 Bg_15 Bh_15 HD_15 HF_15 Yw_15 Yg_15 Yh_15 HB15
        clear h hb
        have qBg_0 := Bg_16.out.at_ 0 rfl
        have qBg_1 := Bg_16.out.at_ 1 rfl
        have qBg_2 := Bg_16.out.at_ 2 rfl
        go_wp2_with fail
        refine (gheld_DiskOut (by omega) hzb HMV.out (Yg_16.out.rd R_DiskOut_ok)).mono ?_
        intro e w17 h
        obtain ⟨rfl, hb⟩ := heldC_elim h
        clear qBg_0 qBg_1 qBg_2
        have PD_17 := Lib.hid (PD_16.out.call hb)
        have PF_17 := Lib.hid (PF_16.out.call hb)
        have Bw_17 := Lib.hid (Bw_16.out.call hb)
        have BXD_17 := Lib.hid (BXD_16.out.call hb)
        have Bg_17 := Lib.hid (Bg_16.out.call hb)
        have Bh_17 := Lib.hid (Bh_16.out.call hb)
        have HD_17 := Lib.hid (gmv R_Disk_ok HD_16.out hb)
        have HF_17 := Lib.hid (gmv R_Frame_ok HF_16.out hb)
        have Yw_17 := Lib.hid (Yw_16.out.mv R_DiskOut_ok hb)
        have Yg_17 := Lib.hid (Yg_16.out.mv R_DiskOut_ok hb)
        have Yh_17 := Lib.hid (Yh_16.out.mv R_DiskOut_ok hb)
        have HB17 := Lib.hid (HB16.out.trans ((hb).mono HB16.out.size))
        have HZ18 := Lib.hid ((hb).size)
        clear PD_16 PF_16 Bw_16 BXD_16 Bg_16 Bh_16 HD_16 HF_16 Yw_16 Yg_16 Yh_16 HB16
        clear h hb
        go_wp2
        go_ret
        exact ⟨rfl, HB17.out⟩
end Go.Proofs.Ytdedomfocljhaaa.RepC
