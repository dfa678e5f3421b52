/- Of this claim's texts the part 5: NdW8. -/
import Derived.Test.YtfciojkibklkfaaPT4
section
namespace Go.Proofs.Ytfciojkibklkfaa.RepC
open Go.RowKit RowC ValC SpanC KeptC
set_option linter.unusedVariables false
set_option linter.unusedSimpArgs false
set_option maxRecDepth 100000 in
set_option maxHeartbeats 4000000 in
theorem law_bookput {L : List (D_Node)} {La : Option Addr} {Lc : Nat} {M : Int} {Xx0 : Int} {Xx1 : Int}  {K : Int} {W : World} (hL : (Sl R_Node).rd W W.heap.size L [.slice La L.length Lc]) :
    Calls Try.prog 7 #[.slice La L.length Lc, .int .i64 M, .agg #[.int .i64 Xx0, .int .i64 Xx1], .int .i64 K] W fun e w' => e = .returned (.bool true) ∧ Below W.heap.size W w' := by
  have HL := Lib.hid hL
  have HL0 := Lib.hid hL
  clear hL
  have hbA : Below (W).heap.size (W) (W.alloc (.cells #[.int .i64 Xx0, .int .i64 Xx1] 55)) := (Below.refl _ _).alloc (Nat.le_refl _) _
  have HL_1 := Lib.hid (gmv (Sl_ok R_Node_ok) HL.out hbA)
  have HB1 := Lib.hid (show Below W.heap.size W (W.alloc (.cells #[.int .i64 Xx0, .int .i64 Xx1] 55)) from hbA)
  have HZ1 := Lib.hid ((hbA).size)
  clear HL
  have PX_1 := Blk.new (W) 55 #[.int .i64 Xx0, .int .i64 Xx1]
  have PXh_1 := Lib.hid PX_1
  clear PX_1 hbA
  by_cases hsz : (Sl R_Node).sz L ≤ 1048576
  rotate_left
  · skip
    go_enter Try.func7, Try.ntmps7
    have qPX_0 := PXh_1.out.at_ 0 rfl
    have qPX_1 := PXh_1.out.at_ 1 rfl
    go_wp2_with fail
    refine (gsz_NodeS (by omega) (by omega) HL_1.out).mono ?_
    intro e w2 h
    obtain ⟨rfl, hb⟩ := szC_elim h
    rw [szR_no (by omega)]
    clear qPX_0 qPX_1
    have PX_2 := Lib.hid (PXh_1.out.call hb)
    have HL_2 := Lib.hid (gmv (Sl_ok R_Node_ok) HL_1.out hb)
    have HB2 := Lib.hid (HB1.out.trans ((hb).mono HB1.out.size))
    have HZ2 := Lib.hid ((hb).size)
    clear PXh_1 HL_1 HB1
    clear h hb
    go_wp2
    go_ret
    exact ⟨rfl, HB2.out⟩
  have HSZL := Lib.hid hsz
  have HSAL := Lib.hid (cvs_NodeS hsz)
  obtain ⟨m, hm⟩ : ∃ m : Nat, (Sl R_Node).sz L = m := ⟨_, rfl⟩
  have HM := Lib.hid hm
  rw [hm] at hsz
  clear hm
  have hlt1 : decide ((1048576 : Int) - (m : Int) < 0) = false := decide_eq_false (by omega)
  obtain ⟨⟨dL0, dx1⟩, hD⟩ : ∃ d, chgV L M (spB Xx0 Xx1 && isB K 0 999900) (putN (Xx0, Xx1) K) = d := ⟨_, rfl⟩
  have HDD := Lib.hid hD
  have HSM := Lib.hid (put_small HSZL.out hD)
  clear hD
  go_enter Try.func7, Try.ntmps7
  have qPX_0 := PXh_1.out.at_ 0 rfl
  have qPX_1 := PXh_1.out.at_ 1 rfl
  go_wp2_with fail
  refine (gsz_NodeS (by omega) (by omega) HL_1.out).mono ?_
  intro e w2 h
  obtain ⟨rfl, hb⟩ := szC_elim h
  rw [HM.out, szR_yes (by omega)]
  clear qPX_0 qPX_1
  have PX_2 := Lib.hid (PXh_1.out.call hb)
  have HL_2 := Lib.hid (gmv (Sl_ok R_Node_ok) HL_1.out hb)
  have HB2 := Lib.hid (HB1.out.trans ((hb).mono HB1.out.size))
  have HZ2 := Lib.hid ((hb).size)
  clear PXh_1 HL_1 HB1
  clear hsz
  clear h hb
  have HPL := Lib.hid (PX_2.out.lt)
  go_upto_region 5 with fail
  go_cut [10] (fun s8 wx => ∃ (gw : Nat) (ra0w : Option Addr) (rc0w : Nat) (Sw : Nat → Prop), s8 = .pointer (some ⟨gw, 0, none⟩) ∧ Hid (Blk wx gw 29 #[.slice ra0w dL0.length rc0w, .int .i64 dx1]) ∧ Hid (OwG R_NodesOut wx Sw (dL0, dx1) [.slice ra0w dL0.length rc0w, .int .i64 dx1]) ∧ Hid (∀ k, Sw k → w2.heap.size ≤ k ∧ k ≠ gw) ∧ Hid (w2.heap.size ≤ gw) ∧ Hid (Below w2.heap.size w2 wx))
  case first =>
    refine wp_region_held_drew (S := (fun V => Below w2.heap.size w2 V)) (by kernel_rfl) ((Below.refl _ _).drew) (fun hHeld => ?_)
    refine tk 0 hHeld ?_
    refine tk 2 hHeld ?_
    refine tk 3 hHeld ?_ (hy := fun w hSw => by (try dsimp only at hSw); have k0 := (hSw.cell (p := ⟨W.heap.size, 0, none⟩) PX_2.out.lt).trans (PX_2.out.at_ 0 rfl); have k1 := (hSw.cell (p := ⟨W.heap.size, 1, none⟩) PX_2.out.lt).trans (PX_2.out.at_ 1 rfl); clear hSw; go_simp; try with_reducible rfl)
    refine tk 5 hHeld ?_
    refine rd2 1 7 (fun K hK => ?_) (fun K hK => ?_)
    · skip
      go_simp
      go_at_call 28
      refine (gto_NodeS HSZL.out (gmv (Sl_ok R_Node_ok) HL_2.out hHeld)).mono ?_
      intro e v5_1 h
      obtain ⟨aL_5_1, cL_5_1, rfl, hu, hb⟩ := newS_elim2 h
      have NL := Lib.hid (owG_new hu)
      clear h hu
      refine hK.out _ _ (hHeld.trans (hb.mono hHeld.size)) (fun hHeld => ?_)
      clear hK K hb
      refine rd2 4 7 (fun K hK => ?_) (fun K hK => ?_)
      · skip
        go_simp
        go_at_call 37
        refine (to_Span (by simp only [R_Span, Pr, I, atom] <;> omega)).mono ?_
        intro e v5_2 h
        obtain ⟨us, rfl, hu, hb⟩ := newV_elim h
        obtain rfl := ow0_Span hu
        have NL := Lib.hid (NL.out.mv (Sl_ok R_Node_ok) hb)
        clear h hu
        refine hK.out _ _ (hHeld.trans (hb.mono hHeld.size)) (fun hHeld => ?_)
        clear hK K hb
        refine rd2 6 7 (fun K hK => ?_) (fun K hK => ?_)
        · skip
          go_simp
          go_at_call 14
          refine (gbu_spec (NL.out.rd (Sl_ok R_Node_ok))).mono ?_
          intro e v5_3 h
          rw [HDD.out] at h
          obtain ⟨us, rfl, hu, hb⟩ := newV_elim h
          obtain ⟨ra05_3, rc05_3, rfl, hu⟩ := owc_NodesOut hu
          have hHeld0 := Lib.hid hHeld
          have OW := Lib.hid (owG_new hu)
          clear h hu NL
          refine hK.out _ _ (hHeld.trans (hb.mono hHeld.size)) (fun hHeld => ?_)
          clear hK K hb
          refine rd1 7 (fun K hK => ?_)
          go_simp
          have hb : Below (v5_3).heap.size (v5_3) (v5_3.alloc (.cells #[.slice none 0 0, .int .i64 0] 29)) := (Below.refl _ _).alloc (Nat.le_refl _) _
          have OW0 := OW
          have OW := Lib.hid (OW.out.mv R_NodesOut_ok hb)
          have GB := Lib.hid (show Blk (v5_3.alloc (.cells #[.slice none 0 0, .int .i64 0] 29)) v5_3.heap.size 29 #[.slice none 0 0, .int .i64 0] from Blk.new (v5_3) 29 #[.slice none 0 0, .int .i64 0])
          have HGE := Lib.hid (show w2.heap.size ≤ v5_3.heap.size from hHeld.size)
          have HTB := Lib.hid (show ∀ k, Rg v5_2.heap.size v5_3.heap.size k → w2.heap.size ≤ k ∧ k ≠ v5_3.heap.size from fun k hk => ⟨Nat.le_trans hHeld0.out.size hk.1, by have := hk.2; omega⟩)
          have hPre := Lib.hid hHeld
          refine hK.out _ _ (hHeld.trans (hb.mono hHeld.size)) (fun hHeld => ?_)
          clear hK K hb
          refine rd1 8 (fun K hK => ?_)
          go_simp
          refine hK.out _ _ (hPre.out.alloc HGE.out (.cells #[.slice ra05_3 dL0.length rc05_3, .int .i64 dx1] 29)) (fun hHeld => ?_)
          clear hK K
          refine rd0 ?_
          go_wp2_with fail
          go_meet
          exact ⟨_, _, _, _, rfl, Lib.hid (Blk.new v5_3 29 #[.slice ra05_3 dL0.length rc05_3, .int .i64 dx1]), Lib.hid (OW0.out.mv R_NodesOut_ok ((Below.refl _ _).alloc (Nat.le_refl _) (.cells #[.slice ra05_3 dL0.length rc05_3, .int .i64 dx1] 29))), HTB, HGE, Lib.hid hHeld⟩
        · skip
          go_simp
          have hb : Below (v5_2).heap.size (v5_2) (v5_2.alloc (.cells #[.slice none 0 0, .int .i64 0] 29)) := (Below.refl _ _).alloc (Nat.le_refl _) _
          have NL := Lib.hid (NL.out.mv (Sl_ok R_Node_ok) hb)
          have GB := Lib.hid (show Blk (v5_2.alloc (.cells #[.slice none 0 0, .int .i64 0] 29)) v5_2.heap.size 29 #[.slice none 0 0, .int .i64 0] from Blk.new (v5_2) 29 #[.slice none 0 0, .int .i64 0])
          have HGE := Lib.hid (show w2.heap.size ≤ v5_2.heap.size from hHeld.size)
          refine hK.out _ _ (hHeld.trans (hb.mono hHeld.size)) (fun hHeld => ?_)
          clear hK K hb
          have GBl := Lib.hid (show v5_2.heap.size < (v5_2.alloc (.cells #[.slice none 0 0, .int .i64 0] 29)).heap.size from GB.out.lt)
          refine rd1 6 (fun K hK => ?_)
          go_simp
          go_at_call 14
          refine (gbu_spec (NL.out.rd (Sl_ok R_Node_ok))).mono ?_
          intro e v5_4 h
          rw [HDD.out] at h
          obtain ⟨us, rfl, hu, hb⟩ := newV_elim h
          obtain ⟨ra05_4, rc05_4, rfl, hu⟩ := owc_NodesOut hu
          have hHeld0 := Lib.hid hHeld
          have GB := Lib.hid (GB.out.call hb)
          have OW := Lib.hid (owG_new hu)
          have HTB := Lib.hid (show ∀ k, Rg (v5_2.alloc (.cells #[.slice none 0 0, .int .i64 0] 29)).heap.size v5_4.heap.size k → w2.heap.size ≤ k ∧ k ≠ v5_2.heap.size from fun k hk => ⟨Nat.le_trans hHeld.size hk.1, by have h1 := hk.1; have h2 := GBl.out; omega⟩)
          clear h hu NL
          refine hK.out _ _ (hHeld.trans (hb.mono hHeld.size)) (fun hHeld => ?_)
          clear hK K hb
          have GBl := Lib.hid (show v5_2.heap.size < v5_4.heap.size from GB.out.lt)
          refine rd1 8 (fun K hK => ?_)
          have q0 := GB.out.at_ 0 rfl
          have f0 := GB.out.soft 0
          have q1 := GB.out.at_ 1 rfl
          have f1 := GB.out.soft 1
          go_simp
          refine hK.out _ _ ((hHeld.setCell (p := ⟨v5_2.heap.size, 0, none⟩) (by exact HGE.out) (.slice ra05_4 dL0.length rc05_4)).setCell (p := ⟨v5_2.heap.size, 1, none⟩) (by exact HGE.out) (.int .i64 dx1)) (fun hHeld => ?_)
          clear hK K q0 f0 q1 f1
          refine rd0 ?_
          go_wp2_with fail
          go_meet
          exact ⟨_, _, _, _, rfl, Lib.hid (sets_NodesOut GB.out), Lib.hid (OW.out.off R_NodesOut_ok (soff_NodesOut _ _ _ _) (fun k hk h2 => (HTB.out k hk).2 h2)), HTB, HGE, Lib.hid hHeld⟩
      · skip
        go_simp
        have hb : Below (v5_1).heap.size (v5_1) (v5_1.alloc (.cells #[.slice none 0 0, .int .i64 0] 29)) := (Below.refl _ _).alloc (Nat.le_refl _) _
        have NL := Lib.hid (NL.out.mv (Sl_ok R_Node_ok) hb)
        have GB := Lib.hid (show Blk (v5_1.alloc (.cells #[.slice none 0 0, .int .i64 0] 29)) v5_1.heap.size 29 #[.slice none 0 0, .int .i64 0] from Blk.new (v5_1) 29 #[.slice none 0 0, .int .i64 0])
        have HGE := Lib.hid (show w2.heap.size ≤ v5_1.heap.size from hHeld.size)
        refine hK.out _ _ (hHeld.trans (hb.mono hHeld.size)) (fun hHeld => ?_)
        clear hK K hb
        have GBl := Lib.hid (show v5_1.heap.size < (v5_1.alloc (.cells #[.slice none 0 0, .int .i64 0] 29)).heap.size from GB.out.lt)
        refine rd1 4 (fun K hK => ?_)
        go_simp
        go_at_call 37
        refine (to_Span (by simp only [R_Span, Pr, I, atom] <;> omega)).mono ?_
        intro e v5_5 h
        obtain ⟨us, rfl, hu, hb⟩ := newV_elim h
        obtain rfl := ow0_Span hu
        have NL := Lib.hid (NL.out.mv (Sl_ok R_Node_ok) hb)
        have GB := Lib.hid (GB.out.call hb)
        clear h hu
        refine hK.out _ _ (hHeld.trans (hb.mono hHeld.size)) (fun hHeld => ?_)
        clear hK K hb
        have GBl := Lib.hid (show v5_1.heap.size < v5_5.heap.size from GB.out.lt)
        refine rd1 6 (fun K hK => ?_)
        go_simp
        go_at_call 14
        refine (gbu_spec (NL.out.rd (Sl_ok R_Node_ok))).mono ?_
        intro e v5_6 h
        rw [HDD.out] at h
        obtain ⟨us, rfl, hu, hb⟩ := newV_elim h
        obtain ⟨ra05_6, rc05_6, rfl, hu⟩ := owc_NodesOut hu
        have hHeld0 := Lib.hid hHeld
        have GB := Lib.hid (GB.out.call hb)
        have OW := Lib.hid (owG_new hu)
        have HTB := Lib.hid (show ∀ k, Rg v5_5.heap.size v5_6.heap.size k → w2.heap.size ≤ k ∧ k ≠ v5_1.heap.size from fun k hk => ⟨Nat.le_trans hHeld.size hk.1, by have h1 := hk.1; have h2 := GBl.out; omega⟩)
        clear h hu NL
        refine hK.out _ _ (hHeld.trans (hb.mono hHeld.size)) (fun hHeld => ?_)
        clear hK K hb
        have GBl := Lib.hid (show v5_1.heap.size < v5_6.heap.size from GB.out.lt)
        refine rd1 8 (fun K hK => ?_)
        have q0 := GB.out.at_ 0 rfl
        have f0 := GB.out.soft 0
        have q1 := GB.out.at_ 1 rfl
        have f1 := GB.out.soft 1
        go_simp
        refine hK.out _ _ ((hHeld.setCell (p := ⟨v5_1.heap.size, 0, none⟩) (by exact HGE.out) (.slice ra05_6 dL0.length rc05_6)).setCell (p := ⟨v5_1.heap.size, 1, none⟩) (by exact HGE.out) (.int .i64 dx1)) (fun hHeld => ?_)
        clear hK K q0 f0 q1 f1
        refine rd0 ?_
        go_wp2_with fail
        go_meet
        exact ⟨_, _, _, _, rfl, Lib.hid (sets_NodesOut GB.out), Lib.hid (OW.out.off R_NodesOut_ok (soff_NodesOut _ _ _ _) (fun k hk h2 => (HTB.out k hk).2 h2)), HTB, HGE, Lib.hid hHeld⟩
    · skip
      go_simp
      have hb : Below (w2.drew).heap.size (w2.drew) ((w2.drew).alloc (.cells #[.slice none 0 0, .int .i64 0] 29)) := (Below.refl _ _).alloc (Nat.le_refl _) _
      have GB := Lib.hid (show Blk ((w2.drew).alloc (.cells #[.slice none 0 0, .int .i64 0] 29)) w2.heap.size 29 #[.slice none 0 0, .int .i64 0] from Blk.new (w2.drew) 29 #[.slice none 0 0, .int .i64 0])
      have HGE := Lib.hid (show w2.heap.size ≤ w2.heap.size from hHeld.size)
      refine hK.out _ _ (hHeld.trans (hb.mono hHeld.size)) (fun hHeld => ?_)
      clear hK K hb
      have GBl := Lib.hid (show w2.heap.size < ((w2.drew).alloc (.cells #[.slice none 0 0, .int .i64 0] 29)).heap.size from GB.out.lt)
      refine rd1 1 (fun K hK => ?_)
      go_simp
      go_at_call 28
      refine (gto_NodeS HSZL.out (gmv (Sl_ok R_Node_ok) HL_2.out hHeld)).mono ?_
      intro e v5_7 h
      obtain ⟨aL_5_7, cL_5_7, rfl, hu, hb⟩ := newS_elim2 h
      have GB := Lib.hid (GB.out.call hb)
      have NL := Lib.hid (owG_new hu)
      clear h hu
      refine hK.out _ _ (hHeld.trans (hb.mono hHeld.size)) (fun hHeld => ?_)
      clear hK K hb
      have GBl := Lib.hid (show w2.heap.size < v5_7.heap.size from GB.out.lt)
      refine rd1 4 (fun K hK => ?_)
      go_simp
      go_at_call 37
      refine (to_Span (by simp only [R_Span, Pr, I, atom] <;> omega)).mono ?_
      intro e v5_8 h
      obtain ⟨us, rfl, hu, hb⟩ := newV_elim h
      obtain rfl := ow0_Span hu
      have NL := Lib.hid (NL.out.mv (Sl_ok R_Node_ok) hb)
      have GB := Lib.hid (GB.out.call hb)
      clear h hu
      refine hK.out _ _ (hHeld.trans (hb.mono hHeld.size)) (fun hHeld => ?_)
      clear hK K hb
      have GBl := Lib.hid (show w2.heap.size < v5_8.heap.size from GB.out.lt)
      refine rd1 6 (fun K hK => ?_)
      go_simp
      go_at_call 14
      refine (gbu_spec (NL.out.rd (Sl_ok R_Node_ok))).mono ?_
      intro e v5_9 h
      rw [HDD.out] at h
      obtain ⟨us, rfl, hu, hb⟩ := newV_elim h
      obtain ⟨ra05_9, rc05_9, rfl, hu⟩ := owc_NodesOut hu
      have hHeld0 := Lib.hid hHeld
      have GB := Lib.hid (GB.out.call hb)
      have OW := Lib.hid (owG_new hu)
      have HTB := Lib.hid (show ∀ k, Rg v5_8.heap.size v5_9.heap.size k → w2.heap.size ≤ k ∧ k ≠ w2.heap.size from fun k hk => ⟨Nat.le_trans hHeld.size hk.1, by have h1 := hk.1; have h2 := GBl.out; omega⟩)
      clear h hu NL
      refine hK.out _ _ (hHeld.trans (hb.mono hHeld.size)) (fun hHeld => ?_)
      clear hK K hb
      have GBl := Lib.hid (show w2.heap.size < v5_9.heap.size from GB.out.lt)
      refine rd1 8 (fun K hK => ?_)
      have q0 := GB.out.at_ 0 rfl
      have f0 := GB.out.soft 0
      have q1 := GB.out.at_ 1 rfl
      have f1 := GB.out.soft 1
      go_simp
      refine hK.out _ _ ((hHeld.setCell (p := ⟨w2.heap.size, 0, none⟩) (by exact HGE.out) (.slice ra05_9 dL0.length rc05_9)).setCell (p := ⟨w2.heap.size, 1, none⟩) (by exact HGE.out) (.int .i64 dx1)) (fun hHeld => ?_)
      clear hK K q0 f0 q1 f1
      refine rd0 ?_
      go_wp2_with fail
      go_meet
      exact ⟨_, _, _, _, rfl, Lib.hid (sets_NodesOut GB.out), Lib.hid (OW.out.off R_NodesOut_ok (soff_NodesOut _ _ _ _) (fun k hk h2 => (HTB.out k hk).2 h2)), HTB, HGE, Lib.hid hHeld⟩
  case rest =>
    obtain ⟨gw, ra0w, rc0w, Sw, rfl, HX8, HO8, HT8, HG8, hcb⟩ := hcut
    rename World => w3
    have hb := hcb.out
    have PX_3 := Lib.hid (PX_2.out.call hb)
    have HL_3 := Lib.hid (gmv (Sl_ok R_Node_ok) HL_2.out hb)
    have HB3 := Lib.hid (HB2.out.trans ((hb).mono HB2.out.size))
    have HZ3 := Lib.hid ((hb).size)
    clear PX_2 HL_2 HB2
    clear hb hcb
    have Bw_3 := HX8
    have Yw_3 := HO8
    have HTw := HT8
    have HGw := HG8
    clear HX8 HO8 HT8 HG8
    have HSw := Lib.hid (fun k (hk : Sw k) => (⟨(HTw.out k hk).1, Yw_3.out.2 k hk⟩ : w2.heap.size ≤ k ∧ k < w3.heap.size))
    have HGLw := Lib.hid (show gw < w3.heap.size from Bw_3.out.lt)
    go_wp2_with fail
    refine (gto_NodeS HSZL.out HL_3.out).mono ?_
    intro e w4 h
    obtain ⟨aL4, cL4, rfl, hu, hb⟩ := newS_elim2 h
    have PX_4 := Lib.hid (PX_3.out.call hb)
    have Bw_4 := Lib.hid (Bw_3.out.call hb)
    have HL_4 := Lib.hid (gmv (Sl_ok R_Node_ok) HL_3.out hb)
    have Yw_4 := Lib.hid (Yw_3.out.mv R_NodesOut_ok hb)
    have HB4 := Lib.hid (HB3.out.trans ((hb).mono HB3.out.size))
    have HZ4 := Lib.hid ((hb).size)
    clear PX_3 Bw_3 HL_3 Yw_3 HB3
    have X_4 := Lib.hid (owG_new hu)
    have HSX := Lib.hid (fun k (hk : Rg w3.heap.size w4.heap.size k) => hk)
    clear hu
    clear h hb
    have qPX_0 := PX_4.out.at_ 0 rfl
    have qPX_1 := PX_4.out.at_ 1 rfl
    go_wp2_with fail
    refine (to_Span (by simp only [R_Span, Pr, I, atom] <;> omega)).mono ?_
    intro e w5 h
    obtain ⟨us, rfl, hu, hb⟩ := newV_elim h
    obtain rfl := ow0_Span hu
    clear qPX_0 qPX_1
    have PX_5 := Lib.hid (PX_4.out.call hb)
    have Bw_5 := Lib.hid (Bw_4.out.call hb)
    have HL_5 := Lib.hid (gmv (Sl_ok R_Node_ok) HL_4.out hb)
    have Yw_5 := Lib.hid (Yw_4.out.mv R_NodesOut_ok hb)
    have X_5 := Lib.hid (X_4.out.mv (Sl_ok R_Node_ok) hb)
    have HB5 := Lib.hid (HB4.out.trans ((hb).mono HB4.out.size))
    have HZ5 := Lib.hid ((hb).size)
    clear PX_4 Bw_4 HL_4 Yw_4 X_4 HB4
    clear h hb
    go_wp2_with fail
    refine (gbu_impl (X_5.out.rd (Sl_ok R_Node_ok))).mono ?_
    intro e w6 h
    rw [HDD.out] at h
    obtain ⟨us, rfl, hu, hb⟩ := newV_elim h
    obtain ⟨ra0g, rc0g, rfl, hu⟩ := owc_NodesOut hu
    have PX_6 := Lib.hid (PX_5.out.call hb)
    have Bw_6 := Lib.hid (Bw_5.out.call hb)
    have HL_6 := Lib.hid (gmv (Sl_ok R_Node_ok) HL_5.out hb)
    have Yw_6 := Lib.hid (Yw_5.out.mv R_NodesOut_ok hb)
    have X_6 := Lib.hid (X_5.out.mv (Sl_ok R_Node_ok) hb)
    have HB6 := Lib.hid (HB5.out.trans ((hb).mono HB5.out.size))
    have HZ6 := Lib.hid ((hb).size)
    clear PX_5 Bw_5 HL_5 Yw_5 X_5 HB5
    have Yg_6 := Lib.hid (owG_new hu)
    have HSg := Lib.hid (fun k (hk : Rg w5.heap.size w6.heap.size k) => hk)
    clear hu
    clear h hb
    have hbA : Below (w6).heap.size (w6) (w6.alloc (.cells #[.slice ra0g dL0.length rc0g, .int .i64 dx1] 29)) := (Below.refl _ _).alloc (Nat.le_refl _) _
    have PX_7 := Lib.hid (PX_6.out.call hbA)
    have Bw_7 := Lib.hid (Bw_6.out.call hbA)
    have HL_7 := Lib.hid (gmv (Sl_ok R_Node_ok) HL_6.out hbA)
    have Yw_7 := Lib.hid (Yw_6.out.mv R_NodesOut_ok hbA)
    have X_7 := Lib.hid (X_6.out.mv (Sl_ok R_Node_ok) hbA)
    have Yg_7 := Lib.hid (Yg_6.out.mv R_NodesOut_ok hbA)
    have HB7 := Lib.hid (HB6.out.trans ((hbA).mono HB6.out.size))
    have HZ7 := Lib.hid ((hbA).size)
    clear PX_6 Bw_6 HL_6 Yw_6 X_6 Yg_6 HB6
    have Bg_7 := Blk.new (w6) 29 #[.slice ra0g dL0.length rc0g, .int .i64 dx1]
    have Bgh_7 := Lib.hid Bg_7
    clear Bg_7 hbA
    have HZ8 := Lib.hid ((show (w6.alloc (.cells #[.slice ra0g dL0.length rc0g, .int .i64 dx1] 29)).heap.size = w6.heap.size + 1 by simp))
    obtain ⟨wz7, hwz7⟩ : ∃ w, w = w6.alloc (.cells #[.slice ra0g dL0.length rc0g, .int .i64 dx1] 29) := ⟨_, rfl⟩
    rw [← hwz7] at PX_7 Bw_7 Bgh_7 HL_7 Yw_7 X_7 Yg_7 HB7 HZ7 HZ8
    have qBg_0 := Bgh_7.out.at_ 0 rfl
    have qBg_1 := Bgh_7.out.at_ 1 rfl
    have qBw_0 := Bw_7.out.at_ 0 rfl
    have qBw_1 := Bw_7.out.at_ 1 rfl
    have qBg_0_u := qBg_0
    rw [hwz7] at qBg_0_u
    have qBg_1_u := qBg_1
    rw [hwz7] at qBg_1_u
    have qBw_0_u := qBw_0
    rw [hwz7] at qBw_0_u
    have qBw_1_u := qBw_1
    rw [hwz7] at qBw_1_u
    go_wp2_with fail
    rw [← hwz7]
    clear hwz7
    refine (geq_NodesOut (Yg_7.out.rd R_NodesOut_ok) (Yw_7.out.rd R_NodesOut_ok)).mono ?_
    intro e w8 h
    obtain ⟨rfl, hb⟩ := isB_elim h
    clear qBg_0 qBg_1 qBw_0 qBw_1 qBg_0_u qBg_1_u qBw_0_u qBw_1_u
    have PX_8 := Lib.hid (PX_7.out.call hb)
    have Bw_8 := Lib.hid (Bw_7.out.call hb)
    have Bg_8 := Lib.hid (Bgh_7.out.call hb)
    have HL_8 := Lib.hid (gmv (Sl_ok R_Node_ok) HL_7.out hb)
    have Yw_8 := Lib.hid (Yw_7.out.mv R_NodesOut_ok hb)
    have X_8 := Lib.hid (X_7.out.mv (Sl_ok R_Node_ok) hb)
    have Yg_8 := Lib.hid (Yg_7.out.mv R_NodesOut_ok hb)
    have HB8 := Lib.hid (HB7.out.trans ((hb).mono HB7.out.size))
    have HZ9 := Lib.hid ((hb).size)
    clear PX_7 Bw_7 Bgh_7 HL_7 Yw_7 X_7 Yg_7 HB7
    clear h hb
    go_wp2_with fail
    refine (gto_NodeS HSZL.out HL_8.out).mono ?_
    intro e w9 h
    obtain ⟨aL9, cL9, rfl, hu, hb⟩ := newS_elim2 h
    have PX_9 := Lib.hid (PX_8.out.call hb)
    have Bw_9 := Lib.hid (Bw_8.out.call hb)
    have Bg_9 := Lib.hid (Bg_8.out.call hb)
    have HL_9 := Lib.hid (gmv (Sl_ok R_Node_ok) HL_8.out hb)
    have Yw_9 := Lib.hid (Yw_8.out.mv R_NodesOut_ok hb)
    have X_9 := Lib.hid (X_8.out.mv (Sl_ok R_Node_ok) hb)
    have Yg_9 := Lib.hid (Yg_8.out.mv R_NodesOut_ok hb)
    have HB9 := Lib.hid (HB8.out.trans ((hb).mono HB8.out.size))
    have HZ10 := Lib.hid ((hb).size)
    clear PX_8 Bw_8 Bg_8 HL_8 Yw_8 X_8 Yg_8 HB8
    have NL_9 := Lib.hid (owG_new hu)
    clear hu
    clear h hb
    go_wp2_with fail
    refine (geq_NodeS (X_9.out.rd (Sl_ok R_Node_ok)) (NL_9.out.rd (Sl_ok R_Node_ok))).mono ?_
    intro e w10 h
    obtain ⟨rfl, hb⟩ := isB_elim h
    have PX_10 := Lib.hid (PX_9.out.call hb)
    have Bw_10 := Lib.hid (Bw_9.out.call hb)
    have Bg_10 := Lib.hid (Bg_9.out.call hb)
    have HL_10 := Lib.hid (gmv (Sl_ok R_Node_ok) HL_9.out hb)
    have Yw_10 := Lib.hid (Yw_9.out.mv R_NodesOut_ok hb)
    have X_10 := Lib.hid (X_9.out.mv (Sl_ok R_Node_ok) hb)
    have Yg_10 := Lib.hid (Yg_9.out.mv R_NodesOut_ok hb)
    have NL_10 := Lib.hid (NL_9.out.mv (Sl_ok R_Node_ok) hb)
    have HB10 := Lib.hid (HB9.out.trans ((hb).mono HB9.out.size))
    have HZ11 := Lib.hid ((hb).size)
    clear PX_9 Bw_9 Bg_9 HL_9 Yw_9 X_9 Yg_9 NL_9 HB9
    clear h hb
    clear NL_10
    go_wp2_with fail
    refine (gmark_NodeS (by omega) (by have h1 := HSAL.out; omega) X_10.out.2 X_10.out.1).mono ?_
    intro e wm h
    obtain ⟨dM, y1, rfl, hmv, hzz, ho, hoff⟩ := markG_elim h
    have HB11 := Lib.hid (HB10.out.trans (hoff.below HB10.out.size (fun k hk => by have zHZ2 := HZ2.out; have zHZ3 := HZ3.out; have zHZ4 := HZ4.out; have zHZ5 := HZ5.out; have zHZ6 := HZ6.out; have zHZ7 := HZ7.out; have zHZ8 := HZ8.out; have zHZ9 := HZ9.out; have zHZ10 := HZ10.out; have zHZ11 := HZ11.out; have yHPL := HPL.out; have yHGLw := HGLw.out; have yHGw := HGw.out; have rX := HSX.out _ hk; try unfold Rg at rX; omega)))
    have PX_11 := Lib.hid (PX_10.out.off hoff PX_10.out.lt (fun hk => by have zHZ2 := HZ2.out; have zHZ3 := HZ3.out; have zHZ4 := HZ4.out; have zHZ5 := HZ5.out; have zHZ6 := HZ6.out; have zHZ7 := HZ7.out; have zHZ8 := HZ8.out; have zHZ9 := HZ9.out; have zHZ10 := HZ10.out; have zHZ11 := HZ11.out; have yHPL := HPL.out; have yHGLw := HGLw.out; have yHGw := HGw.out; have rX := HSX.out _ hk; try unfold Rg at rX; omega))
    have Bw_11 := Lib.hid (Bw_10.out.off hoff Bw_10.out.lt (fun hk => by have zHZ2 := HZ2.out; have zHZ3 := HZ3.out; have zHZ4 := HZ4.out; have zHZ5 := HZ5.out; have zHZ6 := HZ6.out; have zHZ7 := HZ7.out; have zHZ8 := HZ8.out; have zHZ9 := HZ9.out; have zHZ10 := HZ10.out; have zHZ11 := HZ11.out; have yHPL := HPL.out; have yHGLw := HGLw.out; have yHGw := HGw.out; have rX := HSX.out _ hk; try unfold Rg at rX; omega))
    have Bg_11 := Lib.hid (Bg_10.out.off hoff Bg_10.out.lt (fun hk => by have zHZ2 := HZ2.out; have zHZ3 := HZ3.out; have zHZ4 := HZ4.out; have zHZ5 := HZ5.out; have zHZ6 := HZ6.out; have zHZ7 := HZ7.out; have zHZ8 := HZ8.out; have zHZ9 := HZ9.out; have zHZ10 := HZ10.out; have zHZ11 := HZ11.out; have yHPL := HPL.out; have yHGLw := HGLw.out; have yHGw := HGw.out; have rX := HSX.out _ hk; try unfold Rg at rX; omega))
    have HL_11 := Lib.hid (gmv (Sl_ok R_Node_ok) HL0.out HB11.out)
    have Yw_11 := Lib.hid (Yw_10.out.off R_NodesOut_ok hoff (fun k hk hk2 => by have zHZ2 := HZ2.out; have zHZ3 := HZ3.out; have zHZ4 := HZ4.out; have zHZ5 := HZ5.out; have zHZ6 := HZ6.out; have zHZ7 := HZ7.out; have zHZ8 := HZ8.out; have zHZ9 := HZ9.out; have zHZ10 := HZ10.out; have zHZ11 := HZ11.out; have yHPL := HPL.out; have yHGLw := HGLw.out; have yHGw := HGw.out; have rX := HSX.out k hk2; try unfold Rg at rX; have rw := HSw.out k hk; try unfold Rg at rw; omega))
    have Yg_11 := Lib.hid (Yg_10.out.off R_NodesOut_ok hoff (fun k hk hk2 => by have zHZ2 := HZ2.out; have zHZ3 := HZ3.out; have zHZ4 := HZ4.out; have zHZ5 := HZ5.out; have zHZ6 := HZ6.out; have zHZ7 := HZ7.out; have zHZ8 := HZ8.out; have zHZ9 := HZ9.out; have zHZ10 := HZ10.out; have zHZ11 := HZ11.out; have yHPL := HPL.out; have yHGLw := HGLw.out; have yHGw := HGw.out; have rX := HSX.out k hk2; try unfold Rg at rX; have rg := HSg.out k hk; try unfold Rg at rg; omega))
    have hkn : decide (y1 < 0) = false := decide_eq_false (by omega)
    have HZ12 := Lib.hid (hoff.size)
    clear h hmv hzz ho hoff
    have qBg_0 := Bg_11.out.at_ 0 rfl
    have qBg_1 := Bg_11.out.at_ 1 rfl
    have qBw_0 := Bw_11.out.at_ 0 rfl
    have qBw_1 := Bw_11.out.at_ 1 rfl
    go_wp2_with fail
    refine (geq_NodesOut (Yg_11.out.rd R_NodesOut_ok) (Yw_11.out.rd R_NodesOut_ok)).mono ?_
    intro e w12 h
    obtain ⟨rfl, hb⟩ := isB_elim h
    clear qBg_0 qBg_1 qBw_0 qBw_1
    have PX_12 := Lib.hid (PX_11.out.call hb)
    have Bw_12 := Lib.hid (Bw_11.out.call hb)
    have Bg_12 := Lib.hid (Bg_11.out.call hb)
    have HL_12 := Lib.hid (gmv (Sl_ok R_Node_ok) HL_11.out hb)
    have Yw_12 := Lib.hid (Yw_11.out.mv R_NodesOut_ok hb)
    have Yg_12 := Lib.hid (Yg_11.out.mv R_NodesOut_ok hb)
    have HB12 := Lib.hid (HB11.out.trans ((hb).mono HB11.out.size))
    have HZ13 := Lib.hid ((hb).size)
    clear PX_11 Bw_11 Bg_11 HL_11 Yw_11 Yg_11 HB11
    clear h hb
    clear hkn
    have qBg_0 := Bg_12.out.at_ 0 rfl
    have qBg_1 := Bg_12.out.at_ 1 rfl
    go_wp2_with fail
    refine (gmark_NodesOut (by omega) (by have h1 := HSM.out; omega) Yg_12.out.2 Yg_12.out.1).mono ?_
    intro e wn h
    obtain ⟨dN, zN, rfl, hmv, hzz, ho, hoff⟩ := markG_elim h
    clear qBg_0 qBg_1
    have HB13 := Lib.hid (HB12.out.trans (hoff.below HB12.out.size (fun k hk => by have zHZ2 := HZ2.out; have zHZ3 := HZ3.out; have zHZ4 := HZ4.out; have zHZ5 := HZ5.out; have zHZ6 := HZ6.out; have zHZ7 := HZ7.out; have zHZ8 := HZ8.out; have zHZ9 := HZ9.out; have zHZ10 := HZ10.out; have zHZ11 := HZ11.out; have zHZ12 := HZ12.out; have zHZ13 := HZ13.out; have yHPL := HPL.out; have yHGLw := HGLw.out; have yHGw := HGw.out; have rg := HSg.out _ hk; try unfold Rg at rg; omega)))
    have PX_13 := Lib.hid (PX_12.out.off hoff PX_12.out.lt (fun hk => by have zHZ2 := HZ2.out; have zHZ3 := HZ3.out; have zHZ4 := HZ4.out; have zHZ5 := HZ5.out; have zHZ6 := HZ6.out; have zHZ7 := HZ7.out; have zHZ8 := HZ8.out; have zHZ9 := HZ9.out; have zHZ10 := HZ10.out; have zHZ11 := HZ11.out; have zHZ12 := HZ12.out; have zHZ13 := HZ13.out; have yHPL := HPL.out; have yHGLw := HGLw.out; have yHGw := HGw.out; have rg := HSg.out _ hk; try unfold Rg at rg; omega))
    have Bw_13 := Lib.hid (Bw_12.out.off hoff Bw_12.out.lt (fun hk => by have zHZ2 := HZ2.out; have zHZ3 := HZ3.out; have zHZ4 := HZ4.out; have zHZ5 := HZ5.out; have zHZ6 := HZ6.out; have zHZ7 := HZ7.out; have zHZ8 := HZ8.out; have zHZ9 := HZ9.out; have zHZ10 := HZ10.out; have zHZ11 := HZ11.out; have zHZ12 := HZ12.out; have zHZ13 := HZ13.out; have yHPL := HPL.out; have yHGLw := HGLw.out; have yHGw := HGw.out; have rg := HSg.out _ hk; try unfold Rg at rg; omega))
    have Bg_13 := Lib.hid (Bg_12.out.off hoff Bg_12.out.lt (fun hk => by have zHZ2 := HZ2.out; have zHZ3 := HZ3.out; have zHZ4 := HZ4.out; have zHZ5 := HZ5.out; have zHZ6 := HZ6.out; have zHZ7 := HZ7.out; have zHZ8 := HZ8.out; have zHZ9 := HZ9.out; have zHZ10 := HZ10.out; have zHZ11 := HZ11.out; have zHZ12 := HZ12.out; have zHZ13 := HZ13.out; have yHPL := HPL.out; have yHGLw := HGLw.out; have yHGw := HGw.out; have rg := HSg.out _ hk; try unfold Rg at rg; omega))
    have HL_13 := Lib.hid (gmv (Sl_ok R_Node_ok) HL0.out HB13.out)
    have Yw_13 := Lib.hid (Yw_12.out.off R_NodesOut_ok hoff (fun k hk hk2 => by have zHZ2 := HZ2.out; have zHZ3 := HZ3.out; have zHZ4 := HZ4.out; have zHZ5 := HZ5.out; have zHZ6 := HZ6.out; have zHZ7 := HZ7.out; have zHZ8 := HZ8.out; have zHZ9 := HZ9.out; have zHZ10 := HZ10.out; have zHZ11 := HZ11.out; have zHZ12 := HZ12.out; have zHZ13 := HZ13.out; have yHPL := HPL.out; have yHGLw := HGLw.out; have yHGw := HGw.out; have rg := HSg.out k hk2; try unfold Rg at rg; have rw := HSw.out k hk; try unfold Rg at rw; omega))
    have Yg_13 := Lib.hid (show OwG R_NodesOut wn _ dN _ from ⟨ho, fun k hk => Nat.lt_of_lt_of_le (Yg_12.out.2 k hk) hoff.size⟩)
    have HMV := Lib.hid hmv
    have hzn : decide (zN < 0) = false := decide_eq_false (by omega)
    have hze : (zN != zN) = false := by simp
    have hzb : zN ≤ 4611686018427387904 := by have := HSM.out; omega
    have HZ14 := Lib.hid (hoff.size)
    clear h hmv hzz ho hoff
    have qBg_0 := Bg_13.out.at_ 0 rfl
    have qBg_1 := Bg_13.out.at_ 1 rfl
    go_wp2_with fail
    refine (gheld_NodesOut (by omega) hzb HMV.out (Yg_13.out.rd R_NodesOut_ok)).mono ?_
    intro e w14 h
    obtain ⟨rfl, hb⟩ := heldC_elim h
    clear qBg_0 qBg_1
    have PX_14 := Lib.hid (PX_13.out.call hb)
    have Bw_14 := Lib.hid (Bw_13.out.call hb)
    have Bg_14 := Lib.hid (Bg_13.out.call hb)
    have HL_14 := Lib.hid (gmv (Sl_ok R_Node_ok) HL_13.out hb)
    have Yw_14 := Lib.hid (Yw_13.out.mv R_NodesOut_ok hb)
    have Yg_14 := Lib.hid (Yg_13.out.mv R_NodesOut_ok hb)
    have HB14 := Lib.hid (HB13.out.trans ((hb).mono HB13.out.size))
    have HZ15 := Lib.hid ((hb).size)
    clear PX_13 Bw_13 Bg_13 HL_13 Yw_13 Yg_13 HB13
    clear h hb
    go_upto_region 24 with fail
    go_cut [16] (fun s8 wx => ∃ (gh : Nat) (ra0h : Option Addr) (rc0h : Nat) (Sh : Nat → Prop), s8 = .pointer (some ⟨gh, 0, none⟩) ∧ Hid (Blk wx gh 29 #[.slice ra0h dL0.length rc0h, .int .i64 dx1]) ∧ Hid (OwG R_NodesOut wx Sh (dL0, dx1) [.slice ra0h dL0.length rc0h, .int .i64 dx1]) ∧ Hid (∀ k, Sh k → w14.heap.size ≤ k ∧ k ≠ gh) ∧ Hid (w14.heap.size ≤ gh) ∧ Hid (Below w14.heap.size w14 wx))
    case first =>
      refine wp_region_held_drew (S := (fun V => Below w14.heap.size w14 V)) (by kernel_rfl) ((Below.refl _ _).drew) (fun hHeld => ?_)
      refine tk 0 hHeld ?_
      refine tk 2 hHeld ?_
      refine tk 3 hHeld ?_ (hy := fun w hSw => by (try dsimp only at hSw); have k0 := (hSw.cell (p := ⟨W.heap.size, 0, none⟩) PX_14.out.lt).trans (PX_14.out.at_ 0 rfl); have k1 := (hSw.cell (p := ⟨W.heap.size, 1, none⟩) PX_14.out.lt).trans (PX_14.out.at_ 1 rfl); clear hSw; go_simp; try with_reducible rfl)
      refine tk 5 hHeld ?_
      refine rd2 1 7 (fun K hK => ?_) (fun K hK => ?_)
      · skip
        go_simp
        go_at_call 28
        refine (gto_NodeS HSZL.out (gmv (Sl_ok R_Node_ok) HL_14.out hHeld)).mono ?_
        intro e v24_1 h
        obtain ⟨aL_24_1, cL_24_1, rfl, hu, hb⟩ := newS_elim2 h
        have NL := Lib.hid (owG_new hu)
        clear h hu
        refine hK.out _ _ (hHeld.trans (hb.mono hHeld.size)) (fun hHeld => ?_)
        clear hK K hb
        refine rd2 4 7 (fun K hK => ?_) (fun K hK => ?_)
        · skip
          go_simp
          go_at_call 37
          refine (to_Span (by simp only [R_Span, Pr, I, atom] <;> omega)).mono ?_
          intro e v24_2 h
          obtain ⟨us, rfl, hu, hb⟩ := newV_elim h
          obtain rfl := ow0_Span hu
          have NL := Lib.hid (NL.out.mv (Sl_ok R_Node_ok) hb)
          clear h hu
          refine hK.out _ _ (hHeld.trans (hb.mono hHeld.size)) (fun hHeld => ?_)
          clear hK K hb
          refine rd2 6 7 (fun K hK => ?_) (fun K hK => ?_)
          · skip
            go_simp
            go_at_call 13
            refine (gbu_impl (NL.out.rd (Sl_ok R_Node_ok))).mono ?_
            intro e v24_3 h
            rw [HDD.out] at h
            obtain ⟨us, rfl, hu, hb⟩ := newV_elim h
            obtain ⟨ra024_3, rc024_3, rfl, hu⟩ := owc_NodesOut hu
            have hHeld0 := Lib.hid hHeld
            have OW := Lib.hid (owG_new hu)
            clear h hu NL
            refine hK.out _ _ (hHeld.trans (hb.mono hHeld.size)) (fun hHeld => ?_)
            clear hK K hb
            refine rd1 7 (fun K hK => ?_)
            go_simp
            have hb : Below (v24_3).heap.size (v24_3) (v24_3.alloc (.cells #[.slice none 0 0, .int .i64 0] 29)) := (Below.refl _ _).alloc (Nat.le_refl _) _
            have OW0 := OW
            have OW := Lib.hid (OW.out.mv R_NodesOut_ok hb)
            have GB := Lib.hid (show Blk (v24_3.alloc (.cells #[.slice none 0 0, .int .i64 0] 29)) v24_3.heap.size 29 #[.slice none 0 0, .int .i64 0] from Blk.new (v24_3) 29 #[.slice none 0 0, .int .i64 0])
            have HGE := Lib.hid (show w14.heap.size ≤ v24_3.heap.size from hHeld.size)
            have HTB := Lib.hid (show ∀ k, Rg v24_2.heap.size v24_3.heap.size k → w14.heap.size ≤ k ∧ k ≠ v24_3.heap.size from fun k hk => ⟨Nat.le_trans hHeld0.out.size hk.1, by have := hk.2; omega⟩)
            have hPre := Lib.hid hHeld
            refine hK.out _ _ (hHeld.trans (hb.mono hHeld.size)) (fun hHeld => ?_)
            clear hK K hb
            refine rd1 8 (fun K hK => ?_)
            go_simp
            refine hK.out _ _ (hPre.out.alloc HGE.out (.cells #[.slice ra024_3 dL0.length rc024_3, .int .i64 dx1] 29)) (fun hHeld => ?_)
            clear hK K
            refine rd0 ?_
            go_wp2_with fail
            go_meet
            exact ⟨_, _, _, _, rfl, Lib.hid (Blk.new v24_3 29 #[.slice ra024_3 dL0.length rc024_3, .int .i64 dx1]), Lib.hid (OW0.out.mv R_NodesOut_ok ((Below.refl _ _).alloc (Nat.le_refl _) (.cells #[.slice ra024_3 dL0.length rc024_3, .int .i64 dx1] 29))), HTB, HGE, Lib.hid hHeld⟩
          · skip
            go_simp
            have hb : Below (v24_2).heap.size (v24_2) (v24_2.alloc (.cells #[.slice none 0 0, .int .i64 0] 29)) := (Below.refl _ _).alloc (Nat.le_refl _) _
            have NL := Lib.hid (NL.out.mv (Sl_ok R_Node_ok) hb)
            have GB := Lib.hid (show Blk (v24_2.alloc (.cells #[.slice none 0 0, .int .i64 0] 29)) v24_2.heap.size 29 #[.slice none 0 0, .int .i64 0] from Blk.new (v24_2) 29 #[.slice none 0 0, .int .i64 0])
            have HGE := Lib.hid (show w14.heap.size ≤ v24_2.heap.size from hHeld.size)
            refine hK.out _ _ (hHeld.trans (hb.mono hHeld.size)) (fun hHeld => ?_)
            clear hK K hb
            have GBl := Lib.hid (show v24_2.heap.size < (v24_2.alloc (.cells #[.slice none 0 0, .int .i64 0] 29)).heap.size from GB.out.lt)
            refine rd1 6 (fun K hK => ?_)
            go_simp
            go_at_call 13
            refine (gbu_impl (NL.out.rd (Sl_ok R_Node_ok))).mono ?_
            intro e v24_4 h
            rw [HDD.out] at h
            obtain ⟨us, rfl, hu, hb⟩ := newV_elim h
            obtain ⟨ra024_4, rc024_4, rfl, hu⟩ := owc_NodesOut hu
            have hHeld0 := Lib.hid hHeld
            have GB := Lib.hid (GB.out.call hb)
            have OW := Lib.hid (owG_new hu)
            have HTB := Lib.hid (show ∀ k, Rg (v24_2.alloc (.cells #[.slice none 0 0, .int .i64 0] 29)).heap.size v24_4.heap.size k → w14.heap.size ≤ k ∧ k ≠ v24_2.heap.size from fun k hk => ⟨Nat.le_trans hHeld.size hk.1, by have h1 := hk.1; have h2 := GBl.out; omega⟩)
            clear h hu NL
            refine hK.out _ _ (hHeld.trans (hb.mono hHeld.size)) (fun hHeld => ?_)
            clear hK K hb
            have GBl := Lib.hid (show v24_2.heap.size < v24_4.heap.size from GB.out.lt)
            refine rd1 8 (fun K hK => ?_)
            have q0 := GB.out.at_ 0 rfl
            have f0 := GB.out.soft 0
            have q1 := GB.out.at_ 1 rfl
            have f1 := GB.out.soft 1
            go_simp
            refine hK.out _ _ ((hHeld.setCell (p := ⟨v24_2.heap.size, 0, none⟩) (by exact HGE.out) (.slice ra024_4 dL0.length rc024_4)).setCell (p := ⟨v24_2.heap.size, 1, none⟩) (by exact HGE.out) (.int .i64 dx1)) (fun hHeld => ?_)
            clear hK K q0 f0 q1 f1
            refine rd0 ?_
            go_wp2_with fail
            go_meet
            exact ⟨_, _, _, _, rfl, Lib.hid (sets_NodesOut GB.out), Lib.hid (OW.out.off R_NodesOut_ok (soff_NodesOut _ _ _ _) (fun k hk h2 => (HTB.out k hk).2 h2)), HTB, HGE, Lib.hid hHeld⟩
        · skip
          go_simp
          have hb : Below (v24_1).heap.size (v24_1) (v24_1.alloc (.cells #[.slice none 0 0, .int .i64 0] 29)) := (Below.refl _ _).alloc (Nat.le_refl _) _
          have NL := Lib.hid (NL.out.mv (Sl_ok R_Node_ok) hb)
          have GB := Lib.hid (show Blk (v24_1.alloc (.cells #[.slice none 0 0, .int .i64 0] 29)) v24_1.heap.size 29 #[.slice none 0 0, .int .i64 0] from Blk.new (v24_1) 29 #[.slice none 0 0, .int .i64 0])
          have HGE := Lib.hid (show w14.heap.size ≤ v24_1.heap.size from hHeld.size)
          refine hK.out _ _ (hHeld.trans (hb.mono hHeld.size)) (fun hHeld => ?_)
          clear hK K hb
          have GBl := Lib.hid (show v24_1.heap.size < (v24_1.alloc (.cells #[.slice none 0 0, .int .i64 0] 29)).heap.size from GB.out.lt)
          refine rd1 4 (fun K hK => ?_)
          go_simp
          go_at_call 37
          refine (to_Span (by simp only [R_Span, Pr, I, atom] <;> omega)).mono ?_
          intro e v24_5 h
          obtain ⟨us, rfl, hu, hb⟩ := newV_elim h
          obtain rfl := ow0_Span hu
          have NL := Lib.hid (NL.out.mv (Sl_ok R_Node_ok) hb)
          have GB := Lib.hid (GB.out.call hb)
          clear h hu
          refine hK.out _ _ (hHeld.trans (hb.mono hHeld.size)) (fun hHeld => ?_)
          clear hK K hb
          have GBl := Lib.hid (show v24_1.heap.size < v24_5.heap.size from GB.out.lt)
          refine rd1 6 (fun K hK => ?_)
          go_simp
          go_at_call 13
          refine (gbu_impl (NL.out.rd (Sl_ok R_Node_ok))).mono ?_
          intro e v24_6 h
          rw [HDD.out] at h
          obtain ⟨us, rfl, hu, hb⟩ := newV_elim h
          obtain ⟨ra024_6, rc024_6, rfl, hu⟩ := owc_NodesOut hu
          have hHeld0 := Lib.hid hHeld
          have GB := Lib.hid (GB.out.call hb)
          have OW := Lib.hid (owG_new hu)
          have HTB := Lib.hid (show ∀ k, Rg v24_5.heap.size v24_6.heap.size k → w14.heap.size ≤ k ∧ k ≠ v24_1.heap.size from fun k hk => ⟨Nat.le_trans hHeld.size hk.1, by have h1 := hk.1; have h2 := GBl.out; omega⟩)
          clear h hu NL
          refine hK.out _ _ (hHeld.trans (hb.mono hHeld.size)) (fun hHeld => ?_)
          clear hK K hb
          have GBl := Lib.hid (show v24_1.heap.size < v24_6.heap.size from GB.out.lt)
          refine rd1 8 (fun K hK => ?_)
          have q0 := GB.out.at_ 0 rfl
          have f0 := GB.out.soft 0
          have q1 := GB.out.at_ 1 rfl
          have f1 := GB.out.soft 1
          go_simp
          refine hK.out _ _ ((hHeld.setCell (p := ⟨v24_1.heap.size, 0, none⟩) (by exact HGE.out) (.slice ra024_6 dL0.length rc024_6)).setCell (p := ⟨v24_1.heap.size, 1, none⟩) (by exact HGE.out) (.int .i64 dx1)) (fun hHeld => ?_)
          clear hK K q0 f0 q1 f1
          refine rd0 ?_
          go_wp2_with fail
          go_meet
          exact ⟨_, _, _, _, rfl, Lib.hid (sets_NodesOut GB.out), Lib.hid (OW.out.off R_NodesOut_ok (soff_NodesOut _ _ _ _) (fun k hk h2 => (HTB.out k hk).2 h2)), HTB, HGE, Lib.hid hHeld⟩
      · skip
        go_simp
        have hb : Below (w14.drew).heap.size (w14.drew) ((w14.drew).alloc (.cells #[.slice none 0 0, .int .i64 0] 29)) := (Below.refl _ _).alloc (Nat.le_refl _) _
        have GB := Lib.hid (show Blk ((w14.drew).alloc (.cells #[.slice none 0 0, .int .i64 0] 29)) w14.heap.size 29 #[.slice none 0 0, .int .i64 0] from Blk.new (w14.drew) 29 #[.slice none 0 0, .int .i64 0])
        have HGE := Lib.hid (show w14.heap.size ≤ w14.heap.size from hHeld.size)
        refine hK.out _ _ (hHeld.trans (hb.mono hHeld.size)) (fun hHeld => ?_)
        clear hK K hb
        have GBl := Lib.hid (show w14.heap.size < ((w14.drew).alloc (.cells #[.slice none 0 0, .int .i64 0] 29)).heap.size from GB.out.lt)
        refine rd1 1 (fun K hK => ?_)
        go_simp
        go_at_call 28
        refine (gto_NodeS HSZL.out (gmv (Sl_ok R_Node_ok) HL_14.out hHeld)).mono ?_
        intro e v24_7 h
        obtain ⟨aL_24_7, cL_24_7, rfl, hu, hb⟩ := newS_elim2 h
        have GB := Lib.hid (GB.out.call hb)
        have NL := Lib.hid (owG_new hu)
        clear h hu
        refine hK.out _ _ (hHeld.trans (hb.mono hHeld.size)) (fun hHeld => ?_)
        clear hK K hb
        have GBl := Lib.hid (show w14.heap.size < v24_7.heap.size from GB.out.lt)
        refine rd1 4 (fun K hK => ?_)
        go_simp
        go_at_call 37
        refine (to_Span (by simp only [R_Span, Pr, I, atom] <;> omega)).mono ?_
        intro e v24_8 h
        obtain ⟨us, rfl, hu, hb⟩ := newV_elim h
        obtain rfl := ow0_Span hu
        have NL := Lib.hid (NL.out.mv (Sl_ok R_Node_ok) hb)
        have GB := Lib.hid (GB.out.call hb)
        clear h hu
        refine hK.out _ _ (hHeld.trans (hb.mono hHeld.size)) (fun hHeld => ?_)
        clear hK K hb
        have GBl := Lib.hid (show w14.heap.size < v24_8.heap.size from GB.out.lt)
        refine rd1 6 (fun K hK => ?_)
        go_simp
        go_at_call 13
        refine (gbu_impl (NL.out.rd (Sl_ok R_Node_ok))).mono ?_
        intro e v24_9 h
        rw [HDD.out] at h
        obtain ⟨us, rfl, hu, hb⟩ := newV_elim h
        obtain ⟨ra024_9, rc024_9, rfl, hu⟩ := owc_NodesOut hu
        have hHeld0 := Lib.hid hHeld
        have GB := Lib.hid (GB.out.call hb)
        have OW := Lib.hid (owG_new hu)
        have HTB := Lib.hid (show ∀ k, Rg v24_8.heap.size v24_9.heap.size k → w14.heap.size ≤ k ∧ k ≠ w14.heap.size from fun k hk => ⟨Nat.le_trans hHeld.size hk.1, by have h1 := hk.1; have h2 := GBl.out; omega⟩)
        clear h hu NL
        refine hK.out _ _ (hHeld.trans (hb.mono hHeld.size)) (fun hHeld => ?_)
        clear hK K hb
        have GBl := Lib.hid (show w14.heap.size < v24_9.heap.size from GB.out.lt)
        refine rd1 8 (fun K hK => ?_)
        have q0 := GB.out.at_ 0 rfl
        have f0 := GB.out.soft 0
        have q1 := GB.out.at_ 1 rfl
        have f1 := GB.out.soft 1
        go_simp
        refine hK.out _ _ ((hHeld.setCell (p := ⟨w14.heap.size, 0, none⟩) (by exact HGE.out) (.slice ra024_9 dL0.length rc024_9)).setCell (p := ⟨w14.heap.size, 1, none⟩) (by exact HGE.out) (.int .i64 dx1)) (fun hHeld => ?_)
        clear hK K q0 f0 q1 f1
        refine rd0 ?_
        go_wp2_with fail
        go_meet
        exact ⟨_, _, _, _, rfl, Lib.hid (sets_NodesOut GB.out), Lib.hid (OW.out.off R_NodesOut_ok (soff_NodesOut _ _ _ _) (fun k hk h2 => (HTB.out k hk).2 h2)), HTB, HGE, Lib.hid hHeld⟩
    case rest =>
      obtain ⟨gh, ra0h, rc0h, Sh, rfl, HX8, HO8, HT8, HG8, hcb⟩ := hcut
      rename World => w15
      have hb := hcb.out
      have PX_15 := Lib.hid (PX_14.out.call hb)
      have Bw_15 := Lib.hid (Bw_14.out.call hb)
      have Bg_15 := Lib.hid (Bg_14.out.call hb)
      have HL_15 := Lib.hid (gmv (Sl_ok R_Node_ok) HL_14.out hb)
      have Yw_15 := Lib.hid (Yw_14.out.mv R_NodesOut_ok hb)
      have Yg_15 := Lib.hid (Yg_14.out.mv R_NodesOut_ok hb)
      have HB15 := Lib.hid (HB14.out.trans ((hb).mono HB14.out.size))
      have HZ16 := Lib.hid ((hb).size)
      clear PX_14 Bw_14 Bg_14 HL_14 Yw_14 Yg_14 HB14
      clear hb hcb
      have Bh_15 := HX8
      have Yh_15 := HO8
      have HTh := HT8
      have HGh := HG8
      clear HX8 HO8 HT8 HG8
      have HSh := Lib.hid (fun k (hk : Sh k) => (⟨(HTh.out k hk).1, Yh_15.out.2 k hk⟩ : w14.heap.size ≤ k ∧ k < w15.heap.size))
      have HGLh := Lib.hid (show gh < w15.heap.size from Bh_15.out.lt)
      have qBh_0 := Bh_15.out.at_ 0 rfl
      have qBh_1 := Bh_15.out.at_ 1 rfl
      have qBw_0 := Bw_15.out.at_ 0 rfl
      have qBw_1 := Bw_15.out.at_ 1 rfl
      go_wp2_with fail
      refine (geq_NodesOut (Yh_15.out.rd R_NodesOut_ok) (Yw_15.out.rd R_NodesOut_ok)).mono ?_
      intro e w16 h
      obtain ⟨rfl, hb⟩ := isB_elim h
      clear qBh_0 qBh_1 qBw_0 qBw_1
      have PX_16 := Lib.hid (PX_15.out.call hb)
      have Bw_16 := Lib.hid (Bw_15.out.call hb)
      have Bg_16 := Lib.hid (Bg_15.out.call hb)
      have Bh_16 := Lib.hid (Bh_15.out.call hb)
      have HL_16 := Lib.hid (gmv (Sl_ok R_Node_ok) HL_15.out hb)
      have Yw_16 := Lib.hid (Yw_15.out.mv R_NodesOut_ok hb)
      have Yg_16 := Lib.hid (Yg_15.out.mv R_NodesOut_ok hb)
      have Yh_16 := Lib.hid (Yh_15.out.mv R_NodesOut_ok hb)
      have HB16 := Lib.hid (HB15.out.trans ((hb).mono HB15.out.size))
      have HZ17 := Lib.hid ((hb).size)
      clear PX_15 Bw_15 Bg_15 Bh_15 HL_15 Yw_15 Yg_15 Yh_15 HB15
      clear h hb
      have qBg_0 := Bg_16.out.at_ 0 rfl
      have qBg_1 := Bg_16.out.at_ 1 rfl
      go_wp2_with fail
      refine (gheld_NodesOut (by omega) hzb HMV.out (Yg_16.out.rd R_NodesOut_ok)).mono ?_
      intro e w17 h
      obtain ⟨rfl, hb⟩ := heldC_elim h
      clear qBg_0 qBg_1
      have PX_17 := Lib.hid (PX_16.out.call hb)
      have Bw_17 := Lib.hid (Bw_16.out.call hb)
      have Bg_17 := Lib.hid (Bg_16.out.call hb)
      have Bh_17 := Lib.hid (Bh_16.out.call hb)
      have HL_17 := Lib.hid (gmv (Sl_ok R_Node_ok) HL_16.out hb)
      have Yw_17 := Lib.hid (Yw_16.out.mv R_NodesOut_ok hb)
      have Yg_17 := Lib.hid (Yg_16.out.mv R_NodesOut_ok hb)
      have Yh_17 := Lib.hid (Yh_16.out.mv R_NodesOut_ok hb)
      have HB17 := Lib.hid (HB16.out.trans ((hb).mono HB16.out.size))
      have HZ18 := Lib.hid ((hb).size)
      clear PX_16 Bw_16 Bg_16 Bh_16 HL_16 Yw_16 Yg_16 Yh_16 HB16
      clear h hb
      go_wp2
      go_ret
      exact ⟨rfl, HB17.out⟩
end Go.Proofs.Ytfciojkibklkfaa.RepC
end
