/- The law on labels (FnLabel): its walk, out of the contracts. -/
import Derived.Test.YtdimpopkkjpddaaDoorLDraw4
import Derived.Test.YtdimpopkkjpddaaDoorLDraw6
import Derived.Test.YtdimpopkkjpddaaDoorLMath
import Derived.Test.YtdimpopkkjpddaaDoorLLat
import Derived.Test.YtdimpopkkjpddaaDoorLChainI
import Derived.Test.YtdimpopkkjpddaaDoorLLaw0
namespace Go.Proofs.YtdimpopkkjpddaaDoor.DrawC
open Go.RowKit RepC LabC KeptC
set_option linter.unusedVariables false
set_option linter.unusedSimpArgs false

set_option maxRecDepth 100000 in
set_option maxHeartbeats 16000000 in
theorem law_label (ba : Option Addr) (la ca : Nat) (bm : Option Addr) (lm cm : Nat) (W : World) (hD : Door W) (hC : CodeIn W ba la) (hM : CodeIn W bm lm) :
    Calls Tryd.prog 5 #[.slice ba la ca, .slice bm lm cm] W fun e w' => e = .returned (.bool true) ∧ Below W.heap.size W w' := by
  have HD := Lib.hid hD
  have HC := Lib.hid hC
  have HM := Lib.hid hM
  have h0W := hD.lt
  clear hD hC hM
  go_enter Tryd.func5, Tryd.ntmps5
  by_cases hla : la ≤ 1048576
  · by_cases hlm : lm ≤ 1048576
    · have d1 : decide ((1048576 : Int) < (la : Int)) = false := decide_eq_false (by omega)
      have d2 : decide ((1048576 : Int) < (lm : Int)) = false := decide_eq_false (by omega)
      go_wp2_with fail
      refine (draw_joinof ba la ca _ hla HC.out).mono ?_
      intro e w1 h
      obtain ⟨x1, y1, x2, y2, rfl, hb⟩ := drawnLL_elim h
      have HB1 := Lib.hid hb
      have hz1 := hb.size
      clear h hb
      go_upto_region 4 with fail
      obtain ⟨W2, hW2⟩ : ∃ x, x = (w1.alloc (.cells #[.int .i64 x1, .int .i64 y1] 23)).alloc (.cells #[.int .i64 x2, .int .i64 y2] 23) := ⟨_, rfl⟩
      rw [← hW2]
      have HX := two_new hW2
      clear hW2
      obtain ⟨jx, jy, hj⟩ := joinV_form x1 y1 x2 y2
      obtain ⟨mx, my, hm⟩ := meetV_form x1 y1 x2 y2
      have HJ := Lib.hid hj
      have HMM := Lib.hid hm
      clear hj hm
      go_cut [7, 8] (fun s7 s8 wx => ∃ (g7 g8 : Nat), s7 = .pointer (some ⟨g7, 0, none⟩) ∧ s8 = .pointer (some ⟨g8, 0, none⟩) ∧ Hid (Blk wx g7 23 #[.int .i64 jx, .int .i64 jy]) ∧ Hid (Blk wx g8 23 #[.int .i64 mx, .int .i64 my]) ∧ Hid (Below W2.heap.size W2 wx))
      case first =>
        refine reg4 HX HJ HMM ?_
        intro _ _ _ _ _ _ g7 g8 wx H7 H8 HBx
        go_wp2_with fail
        go_meet
        exact ⟨g7, g8, rfl, rfl, H7, H8, HBx⟩
      case rest =>
        obtain ⟨g7, g8, rfl, rfl, HX7, HX8, hcb⟩ := hcut
        rename World => w3
        have hb := hcb.out
        have HX5 := Lib.hid (HX.out.2.1.call hb)
        have HX6 := Lib.hid (HX.out.2.2.call hb)
        have HB := Lib.hid ((HB1.out.trans (HX.out.1.mono hz1)).trans (hb.mono (Nat.le_trans hz1 HX.out.1.size)))
        clear hb hcb HX HB1 hz1
        go_wp2_with fail
        refine (draw_below bm lm cm _ hlm (HM.out.below HB.out)).mono ?_
        intro e w4 h
        obtain ⟨x3, y3, x4, y4, rfl, hb⟩ := drawnLL_elim h
        clear h
        have HX5 := Lib.hid (HX5.out.call hb)
        have HX6 := Lib.hid (HX6.out.call hb)
        have HX7 := Lib.hid (HX7.out.call hb)
        have HX8 := Lib.hid (HX8.out.call hb)
        have HB := Lib.hid (HB.out.trans (hb.mono HB.out.size))
        clear hb
        have HX9 := Lib.hid (two_new (w := w4) (l := x3) (s := y3) (m := x4) (t := y4) rfl).out.2.1
        have HX10 := Lib.hid (two_new (w := w4) (l := x3) (s := y3) (m := x4) (t := y4) rfl).out.2.2
        have hb := (two_new (w := w4) (l := x3) (s := y3) (m := x4) (t := y4) rfl).out.1
        have HX5 := Lib.hid (HX5.out.call hb)
        have HX6 := Lib.hid (HX6.out.call hb)
        have HX7 := Lib.hid (HX7.out.call hb)
        have HX8 := Lib.hid (HX8.out.call hb)
        have HB := Lib.hid (HB.out.trans (hb.mono HB.out.size))
        clear hb
        obtain ⟨W5, hV⟩ : ∃ x, x = (w4.alloc (.cells #[.int .i64 x3, .int .i64 y3] 23)).alloc (.cells #[.int .i64 x4, .int .i64 y4] 23) := ⟨_, rfl⟩
        rw [← hV] at HX5 HX6 HX7 HX8 HX9 HX10 HB
        go_wp2_with fail
        rw [← hV]
        clear hV
        refine (draw_labeltext bm lm cm _ hlm (HM.out.below HB.out)).mono ?_
        intro e w6 h
        obtain ⟨x5, y5, rfl, hb⟩ := drawnL1_elim h
        clear h
        have HX5 := Lib.hid (HX5.out.call hb)
        have HX6 := Lib.hid (HX6.out.call hb)
        have HX7 := Lib.hid (HX7.out.call hb)
        have HX8 := Lib.hid (HX8.out.call hb)
        have HX9 := Lib.hid (HX9.out.call hb)
        have HX10 := Lib.hid (HX10.out.call hb)
        have HB := Lib.hid (HB.out.trans (hb.mono HB.out.size))
        clear hb
        have HX11 := Lib.hid (Blk.new w6 23 #[.int .i64 x5, .int .i64 y5])
        have hb := (Below.refl w6.heap.size w6).alloc (Nat.le_refl _) (.cells #[.int .i64 x5, .int .i64 y5] 23)
        have HX5 := Lib.hid (HX5.out.call hb)
        have HX6 := Lib.hid (HX6.out.call hb)
        have HX7 := Lib.hid (HX7.out.call hb)
        have HX8 := Lib.hid (HX8.out.call hb)
        have HX9 := Lib.hid (HX9.out.call hb)
        have HX10 := Lib.hid (HX10.out.call hb)
        have HB := Lib.hid (HB.out.trans (hb.mono HB.out.size))
        clear hb
        obtain ⟨W7, hV⟩ : ∃ x, x = w6.alloc (.cells #[.int .i64 x5, .int .i64 y5] 23) := ⟨_, rfl⟩
        rw [← hV] at HX5 HX6 HX7 HX8 HX9 HX10 HX11 HB
        have q0 := HX11.out.at_ 0 rfl
        have q1 := HX11.out.at_ 1 rfl
        have q0' := q0
        have q1' := q1
        rw [hV] at q0' q1'
        go_wp2_with fail
        rw [← hV]
        clear hV q0 q1 q0' q1'
        refine (ti_w x5 y5 _ (HD.out.below HB.out h0W)).mono ?_
        rintro e w8 ⟨rfl, hb⟩
        have HX5 := Lib.hid (HX5.out.call hb)
        have HX6 := Lib.hid (HX6.out.call hb)
        have HX7 := Lib.hid (HX7.out.call hb)
        have HX8 := Lib.hid (HX8.out.call hb)
        have HX9 := Lib.hid (HX9.out.call hb)
        have HX10 := Lib.hid (HX10.out.call hb)
        have HX11 := Lib.hid (HX11.out.call hb)
        have HB := Lib.hid (HB.out.trans (hb.mono HB.out.size))
        clear hb
        go_wp2_with fail
        refine (draw_labelread ba la ca _ hla (HC.out.below HB.out)).mono ?_
        rintro e w9 ⟨u, rfl, hu, hb⟩
        have HX5 := Lib.hid (HX5.out.call hb)
        have HX6 := Lib.hid (HX6.out.call hb)
        have HX7 := Lib.hid (HX7.out.call hb)
        have HX8 := Lib.hid (HX8.out.call hb)
        have HX9 := Lib.hid (HX9.out.call hb)
        have HX10 := Lib.hid (HX10.out.call hb)
        have HX11 := Lib.hid (HX11.out.call hb)
        have HB := Lib.hid (HB.out.trans (hb.mono HB.out.size))
        clear hb
        go_wp2_with fail
        refine (read_impl u _ (by omega) (HD.out.below HB.out h0W)).mono ?_
        intro e w10 h
        obtain ⟨l6, s6, c6, rfl, hP, hb⟩ := readR_elim h
        have HP := Lib.hid hP
        clear h hP
        have HX5 := Lib.hid (HX5.out.call hb)
        have HX6 := Lib.hid (HX6.out.call hb)
        have HX7 := Lib.hid (HX7.out.call hb)
        have HX8 := Lib.hid (HX8.out.call hb)
        have HX9 := Lib.hid (HX9.out.call hb)
        have HX10 := Lib.hid (HX10.out.call hb)
        have HX11 := Lib.hid (HX11.out.call hb)
        have HB := Lib.hid (HB.out.trans (hb.mono HB.out.size))
        clear hb
        have HX14 := Lib.hid (Blk.new w10 58 #[.int .i64 l6, .int .i64 s6, .int .i64 c6])
        have hb := (Below.refl w10.heap.size w10).alloc (Nat.le_refl _) (.cells #[.int .i64 l6, .int .i64 s6, .int .i64 c6] 58)
        have HX5 := Lib.hid (HX5.out.call hb)
        have HX6 := Lib.hid (HX6.out.call hb)
        have HX7 := Lib.hid (HX7.out.call hb)
        have HX8 := Lib.hid (HX8.out.call hb)
        have HX9 := Lib.hid (HX9.out.call hb)
        have HX10 := Lib.hid (HX10.out.call hb)
        have HX11 := Lib.hid (HX11.out.call hb)
        have HB := Lib.hid (HB.out.trans (hb.mono HB.out.size))
        clear hb
        obtain ⟨W11, hV⟩ : ∃ x, x = w10.alloc (.cells #[.int .i64 l6, .int .i64 s6, .int .i64 c6] 58) := ⟨_, rfl⟩
        rw [← hV] at HX5 HX6 HX7 HX8 HX9 HX10 HX11 HX14 HB
        go_wp2_with fail
        rw [← hV]
        clear hV
        refine (draw_chain bm lm cm _ hlm (HM.out.below HB.out)).mono ?_
        rintro e w12 ⟨L, hL4, a, c, rfl, ho, hb⟩
        have HX5 := Lib.hid (HX5.out.call hb)
        have HX6 := Lib.hid (HX6.out.call hb)
        have HX7 := Lib.hid (HX7.out.call hb)
        have HX8 := Lib.hid (HX8.out.call hb)
        have HX9 := Lib.hid (HX9.out.call hb)
        have HX10 := Lib.hid (HX10.out.call hb)
        have HX11 := Lib.hid (HX11.out.call hb)
        have HX14 := Lib.hid (HX14.out.call hb)
        have HB := Lib.hid (HB.out.trans (hb.mono HB.out.size))
        clear hb
        have HL := Lib.hid (ho.rd R_Label_ok fun k hk => hk.2)
        clear ho
        go_upto_region 11 with fail
        go_cut [96] (fun s9 wx => s9 = .bool false ∧ Hid (Below w12.heap.size w12 wx))
        case first =>
          refine reg11 HX5 HX6 HX7 HX8 HX9 HX10 HX11 HX14 HJ HMM HP hu HL ?_
          intro _ _ _ _ _ _ _ _ _ _ _ _ _ _ _ _ _ _ _ _ _ _ _ _ _ _ _ _ _ _ _ _ _ _ _ _ _ _ _ _ _ _ _ _ _ _ wx HBx
          go_wp2_with fail
          go_meet
          exact ⟨rfl, HBx⟩
        case rest =>
        obtain ⟨rfl, HF⟩ := hcut
        rename World => v
        have hb := HF.out
        clear HF
        have HX5 := Lib.hid (HX5.out.call hb)
        have HX6 := Lib.hid (HX6.out.call hb)
        have HX7 := Lib.hid (HX7.out.call hb)
        have HX8 := Lib.hid (HX8.out.call hb)
        have HX9 := Lib.hid (HX9.out.call hb)
        have HX10 := Lib.hid (HX10.out.call hb)
        have HX11 := Lib.hid (HX11.out.call hb)
        have HX14 := Lib.hid (HX14.out.call hb)
        have HB := Lib.hid (HB.out.trans (hb.mono HB.out.size))
        clear hb
        obtain ⟨T, hT⟩ : ∃ T, T = textV x5 y5 := ⟨_, rfl⟩
        have HT := Lib.hid hT
        rw [← hT]
        have HTS := Lib.hid (show T.size ≤ 1048576 from by rw [hT]; exact Nat.le_trans (textV_small x5 y5) (by omega))
        clear hT
        go_upto_region 13 with fail
        go_cut [117] (fun s9 wx => s9 = .bool false ∧ Hid (Below v.heap.size v wx))
        case first =>
          refine reg13 HX11 HX14 (Lib.hid (HD.out.below HB.out h0W)) (Nat.lt_of_lt_of_le h0W HB.out.size) HT HTS HP ?_
          intro _ _ _ _ _ _ _ _ _ _ _ _ _ _ _ _ _ _ _ _ wx HBx
          go_wp2_with fail
          go_meet
          exact ⟨rfl, HBx⟩
        case rest =>
        obtain ⟨rfl, HF⟩ := hcut
        rename World => v
        have hb := HF.out
        clear HF
        have HX5 := Lib.hid (HX5.out.call hb)
        have HX6 := Lib.hid (HX6.out.call hb)
        have HX7 := Lib.hid (HX7.out.call hb)
        have HX8 := Lib.hid (HX8.out.call hb)
        have HX9 := Lib.hid (HX9.out.call hb)
        have HX10 := Lib.hid (HX10.out.call hb)
        have HX11 := Lib.hid (HX11.out.call hb)
        have HX14 := Lib.hid (HX14.out.call hb)
        have HB := Lib.hid (HB.out.trans (hb.mono HB.out.size))
        clear hb
        obtain ⟨p1, hp1⟩ : ∃ b, rB x1 y1 = b := ⟨_, rfl⟩
        have Pp1 := Lib.hid hp1
        clear hp1
        obtain ⟨p2, hp2⟩ : ∃ b, rB x2 y2 = b := ⟨_, rfl⟩
        have Pp2 := Lib.hid hp2
        clear hp2
        obtain ⟨p3, hp3⟩ : ∃ b, rB x3 y3 = b := ⟨_, rfl⟩
        have Pp3 := Lib.hid hp3
        clear hp3
        have q5_0 := HX5.out.at_ 0 rfl
        have q5_1 := HX5.out.at_ 1 rfl
        have q6_0 := HX6.out.at_ 0 rfl
        have q6_1 := HX6.out.at_ 1 rfl
        have q9_0 := HX9.out.at_ 0 rfl
        have q9_1 := HX9.out.at_ 1 rfl
        go_wp2_with fail
        refine (rs_w x1 y1 _).mono ?_
        rintro e v ⟨rfl, hb⟩
        rw [Pp1.out]
        clear q5_0 q5_1 q6_0 q6_1 q9_0 q9_1
        have HX5 := Lib.hid (HX5.out.call hb)
        have HX6 := Lib.hid (HX6.out.call hb)
        have HX7 := Lib.hid (HX7.out.call hb)
        have HX8 := Lib.hid (HX8.out.call hb)
        have HX9 := Lib.hid (HX9.out.call hb)
        have HX10 := Lib.hid (HX10.out.call hb)
        have HX11 := Lib.hid (HX11.out.call hb)
        have HX14 := Lib.hid (HX14.out.call hb)
        have HB := Lib.hid (HB.out.trans (hb.mono HB.out.size))
        clear hb
        cases p1
        case false =>
          go_wp2
          go_ret
          exact ⟨rfl, HB.out⟩
        have q5_0 := HX5.out.at_ 0 rfl
        have q5_1 := HX5.out.at_ 1 rfl
        have q6_0 := HX6.out.at_ 0 rfl
        have q6_1 := HX6.out.at_ 1 rfl
        have q9_0 := HX9.out.at_ 0 rfl
        have q9_1 := HX9.out.at_ 1 rfl
        go_wp2_with fail
        refine (rs_w x2 y2 _).mono ?_
        rintro e v ⟨rfl, hb⟩
        rw [Pp2.out]
        clear q5_0 q5_1 q6_0 q6_1 q9_0 q9_1
        have HX5 := Lib.hid (HX5.out.call hb)
        have HX6 := Lib.hid (HX6.out.call hb)
        have HX7 := Lib.hid (HX7.out.call hb)
        have HX8 := Lib.hid (HX8.out.call hb)
        have HX9 := Lib.hid (HX9.out.call hb)
        have HX10 := Lib.hid (HX10.out.call hb)
        have HX11 := Lib.hid (HX11.out.call hb)
        have HX14 := Lib.hid (HX14.out.call hb)
        have HB := Lib.hid (HB.out.trans (hb.mono HB.out.size))
        clear hb
        cases p2
        case false =>
          go_wp2
          go_ret
          exact ⟨rfl, HB.out⟩
        have q5_0 := HX5.out.at_ 0 rfl
        have q5_1 := HX5.out.at_ 1 rfl
        have q6_0 := HX6.out.at_ 0 rfl
        have q6_1 := HX6.out.at_ 1 rfl
        have q9_0 := HX9.out.at_ 0 rfl
        have q9_1 := HX9.out.at_ 1 rfl
        go_wp2_with fail
        refine (rs_w x3 y3 _).mono ?_
        rintro e v ⟨rfl, hb⟩
        rw [Pp3.out]
        clear q5_0 q5_1 q6_0 q6_1 q9_0 q9_1
        have HX5 := Lib.hid (HX5.out.call hb)
        have HX6 := Lib.hid (HX6.out.call hb)
        have HX7 := Lib.hid (HX7.out.call hb)
        have HX8 := Lib.hid (HX8.out.call hb)
        have HX9 := Lib.hid (HX9.out.call hb)
        have HX10 := Lib.hid (HX10.out.call hb)
        have HX11 := Lib.hid (HX11.out.call hb)
        have HX14 := Lib.hid (HX14.out.call hb)
        have HB := Lib.hid (HB.out.trans (hb.mono HB.out.size))
        clear hb
        cases p3
        case false =>
          go_wp2
          go_ret
          exact ⟨rfl, HB.out⟩
        obtain ⟨LF, LG⟩ := lat_at Pp1.out Pp2.out Pp3.out HJ.out HMM.out
        have L1 := Lib.hid LF.1
        have L2 := Lib.hid LF.2.1
        have L3 := Lib.hid LF.2.2.1
        have L4 := Lib.hid LF.2.2.2.1
        have L5 := Lib.hid LF.2.2.2.2
        have L6 := Lib.hid LG.1
        have L7 := Lib.hid LG.2
        clear LF LG
        obtain ⟨q, hq⟩ : ∃ b, belowB x1 y1 x2 y2 = b := ⟨_, rfl⟩
        have Pq := Lib.hid hq
        clear hq
        have hqe := eq_lab2_at (L5.out.symm.trans Pq.out)
        have hqq : (q != q) = false := by simp
        go_upto_region 17 with fail
        refine wp_region_held_drew (S := (fun V => Below (v).heap.size (v) V)) (by kernel_rfl) ((Below.refl _ _).drew) (fun hHeld => ?_)
        (refine wpAnyH_take (i := 0) (v := ?hv1) rfl (by kernel_rfl) (by kernel_rfl) (by kernel_rfl) (fun _ _ _ h => h) (Or.inl ⟨by kernel_rfl, ?hy1⟩) hHeld ?hr1; case hy1 => (intro w hSw; (try dsimp only at hSw); have k0 := (hSw.cell (p := ⟨w1.heap.size, 0, none⟩) HX5.out.lt).trans (HX5.out.at_ 0 rfl); have k1 := (hSw.cell (p := ⟨w1.heap.size, 1, none⟩) HX5.out.lt).trans (HX5.out.at_ 1 rfl); clear hSw; go_simp; try with_reducible rfl))
        simp only [Act.put, List.getElem_toArray, List.getElem_cons_succ, List.getElem_cons_zero, List.setIfInBounds_toArray, List.set_cons_zero, List.set_cons_succ]
        (refine wpAnyH_take (i := 1) (v := ?hv2) rfl (by kernel_rfl) (by kernel_rfl) (by kernel_rfl) (fun _ _ _ h => h) (Or.inl ⟨by kernel_rfl, ?hy2⟩) hHeld ?hr2; case hy2 => (intro w hSw; (try dsimp only at hSw); have k0 := (hSw.cell (p := ⟨g7, 0, none⟩) HX7.out.lt).trans (HX7.out.at_ 0 rfl); have k1 := (hSw.cell (p := ⟨g7, 1, none⟩) HX7.out.lt).trans (HX7.out.at_ 1 rfl); clear hSw; go_simp; try with_reducible rfl))
        simp only [Act.put, List.getElem_toArray, List.getElem_cons_succ, List.getElem_cons_zero, List.setIfInBounds_toArray, List.set_cons_zero, List.set_cons_succ]
        refine wpAnyH_ready (rs := [2]) (by kernel_rfl) (by simp) ?_
        refine AllReadyH.cons rfl (fun K hK => ?_) AllReadyH.nil
        go_simp
        go_at_call 34
        refine (LabC.below_impl x1 y1 jx jy _).mono ?_
        rintro e v ⟨rfl, hb⟩
        rw [L1.out]
        refine hK.out _ _ (hHeld.trans (hb.mono hHeld.size)) (fun hHeld => ?_)
        clear hK K hb
        try simp only [Act.put, List.getElem_toArray, List.getElem_cons_succ, List.getElem_cons_zero, List.setIfInBounds_toArray, List.set_cons_zero, List.set_cons_succ]
        (refine wpAnyH_take (i := 3) (v := ?hv3) rfl (by kernel_rfl) (by kernel_rfl) (by kernel_rfl) (fun _ _ _ h => h) (Or.inl ⟨by kernel_rfl, ?hy3⟩) hHeld ?hr3; case hy3 => (intro w hSw; (try dsimp only at hSw); go_simp; try with_reducible rfl))
        simp only [Act.put, List.getElem_toArray, List.getElem_cons_succ, List.getElem_cons_zero, List.setIfInBounds_toArray, List.set_cons_zero, List.set_cons_succ]
        (refine wpAnyH_take (i := 4) (v := ?hv4) rfl (by kernel_rfl) (by kernel_rfl) (by kernel_rfl) (fun _ _ _ h => h) (Or.inl ⟨by kernel_rfl, ?hy4⟩) hHeld ?hr4; case hy4 => (intro w hSw; (try dsimp only at hSw); go_simp; try with_reducible rfl))
        simp only [Act.put, List.getElem_toArray, List.getElem_cons_succ, List.getElem_cons_zero, List.setIfInBounds_toArray, List.set_cons_zero, List.set_cons_succ]
        (refine wpAnyH_take (i := 5) (v := ?hv5) rfl (by kernel_rfl) (by kernel_rfl) (by kernel_rfl) (fun _ _ _ h => h) (Or.inl ⟨by kernel_rfl, ?hy5⟩) hHeld ?hr5; case hy5 => (intro w hSw; (try dsimp only at hSw); have k0 := (hSw.cell (p := ⟨w1.heap.size + 1, 0, none⟩) HX6.out.lt).trans (HX6.out.at_ 0 rfl); have k1 := (hSw.cell (p := ⟨w1.heap.size + 1, 1, none⟩) HX6.out.lt).trans (HX6.out.at_ 1 rfl); clear hSw; go_simp; try with_reducible rfl))
        simp only [Act.put, List.getElem_toArray, List.getElem_cons_succ, List.getElem_cons_zero, List.setIfInBounds_toArray, List.set_cons_zero, List.set_cons_succ]
        (refine wpAnyH_take (i := 6) (v := ?hv6) rfl (by kernel_rfl) (by kernel_rfl) (by kernel_rfl) (fun _ _ _ h => h) (Or.inl ⟨by kernel_rfl, ?hy6⟩) hHeld ?hr6; case hy6 => (intro w hSw; (try dsimp only at hSw); have k0 := (hSw.cell (p := ⟨g7, 0, none⟩) HX7.out.lt).trans (HX7.out.at_ 0 rfl); have k1 := (hSw.cell (p := ⟨g7, 1, none⟩) HX7.out.lt).trans (HX7.out.at_ 1 rfl); clear hSw; go_simp; try with_reducible rfl))
        simp only [Act.put, List.getElem_toArray, List.getElem_cons_succ, List.getElem_cons_zero, List.setIfInBounds_toArray, List.set_cons_zero, List.set_cons_succ]
        refine wpAnyH_ready (rs := [7]) (by kernel_rfl) (by simp) ?_
        refine AllReadyH.cons rfl (fun K hK => ?_) AllReadyH.nil
        go_simp
        go_at_call 34
        refine (LabC.below_impl x2 y2 jx jy _).mono ?_
        rintro e v ⟨rfl, hb⟩
        rw [L2.out]
        refine hK.out _ _ (hHeld.trans (hb.mono hHeld.size)) (fun hHeld => ?_)
        clear hK K hb
        try simp only [Act.put, List.getElem_toArray, List.getElem_cons_succ, List.getElem_cons_zero, List.setIfInBounds_toArray, List.set_cons_zero, List.set_cons_succ]
        (refine wpAnyH_take (i := 8) (v := ?hv7) rfl (by kernel_rfl) (by kernel_rfl) (by kernel_rfl) (fun _ _ _ h => h) (Or.inl ⟨by kernel_rfl, ?hy7⟩) hHeld ?hr7; case hy7 => (intro w hSw; (try dsimp only at hSw); go_simp; try with_reducible rfl))
        simp only [Act.put, List.getElem_toArray, List.getElem_cons_succ, List.getElem_cons_zero, List.setIfInBounds_toArray, List.set_cons_zero, List.set_cons_succ]
        (refine wpAnyH_take (i := 9) (v := ?hv8) rfl (by kernel_rfl) (by kernel_rfl) (by kernel_rfl) (fun _ _ _ h => h) (Or.inl ⟨by kernel_rfl, ?hy8⟩) hHeld ?hr8; case hy8 => (intro w hSw; (try dsimp only at hSw); go_simp; try with_reducible rfl))
        simp only [Act.put, List.getElem_toArray, List.getElem_cons_succ, List.getElem_cons_zero, List.setIfInBounds_toArray, List.set_cons_zero, List.set_cons_succ]
        (refine wpAnyH_take (i := 10) (v := ?hv9) rfl (by kernel_rfl) (by kernel_rfl) (by kernel_rfl) (fun _ _ _ h => h) (Or.inl ⟨by kernel_rfl, ?hy9⟩) hHeld ?hr9; case hy9 => (intro w hSw; (try dsimp only at hSw); go_simp; try with_reducible rfl))
        simp only [Act.put, List.getElem_toArray, List.getElem_cons_succ, List.getElem_cons_zero, List.setIfInBounds_toArray, List.set_cons_zero, List.set_cons_succ]
        (refine wpAnyH_take (i := 11) (v := ?hv10) rfl (by kernel_rfl) (by kernel_rfl) (by kernel_rfl) (fun _ _ _ h => h) (Or.inl ⟨by kernel_rfl, ?hy10⟩) hHeld ?hr10; case hy10 => (intro w hSw; (try dsimp only at hSw); have k0 := (hSw.cell (p := ⟨g8, 0, none⟩) HX8.out.lt).trans (HX8.out.at_ 0 rfl); have k1 := (hSw.cell (p := ⟨g8, 1, none⟩) HX8.out.lt).trans (HX8.out.at_ 1 rfl); clear hSw; go_simp; try with_reducible rfl))
        simp only [Act.put, List.getElem_toArray, List.getElem_cons_succ, List.getElem_cons_zero, List.setIfInBounds_toArray, List.set_cons_zero, List.set_cons_succ]
        (refine wpAnyH_take (i := 12) (v := ?hv11) rfl (by kernel_rfl) (by kernel_rfl) (by kernel_rfl) (fun _ _ _ h => h) (Or.inl ⟨by kernel_rfl, ?hy11⟩) hHeld ?hr11; case hy11 => (intro w hSw; (try dsimp only at hSw); have k0 := (hSw.cell (p := ⟨w1.heap.size, 0, none⟩) HX5.out.lt).trans (HX5.out.at_ 0 rfl); have k1 := (hSw.cell (p := ⟨w1.heap.size, 1, none⟩) HX5.out.lt).trans (HX5.out.at_ 1 rfl); clear hSw; go_simp; try with_reducible rfl))
        simp only [Act.put, List.getElem_toArray, List.getElem_cons_succ, List.getElem_cons_zero, List.setIfInBounds_toArray, List.set_cons_zero, List.set_cons_succ]
        refine wpAnyH_ready (rs := [13]) (by kernel_rfl) (by simp) ?_
        refine AllReadyH.cons rfl (fun K hK => ?_) AllReadyH.nil
        go_simp
        go_at_call 34
        refine (LabC.below_impl mx my x1 y1 _).mono ?_
        rintro e v ⟨rfl, hb⟩
        rw [L3.out]
        refine hK.out _ _ (hHeld.trans (hb.mono hHeld.size)) (fun hHeld => ?_)
        clear hK K hb
        try simp only [Act.put, List.getElem_toArray, List.getElem_cons_succ, List.getElem_cons_zero, List.setIfInBounds_toArray, List.set_cons_zero, List.set_cons_succ]
        (refine wpAnyH_take (i := 14) (v := ?hv12) rfl (by kernel_rfl) (by kernel_rfl) (by kernel_rfl) (fun _ _ _ h => h) (Or.inl ⟨by kernel_rfl, ?hy12⟩) hHeld ?hr12; case hy12 => (intro w hSw; (try dsimp only at hSw); go_simp; try with_reducible rfl))
        simp only [Act.put, List.getElem_toArray, List.getElem_cons_succ, List.getElem_cons_zero, List.setIfInBounds_toArray, List.set_cons_zero, List.set_cons_succ]
        (refine wpAnyH_take (i := 15) (v := ?hv13) rfl (by kernel_rfl) (by kernel_rfl) (by kernel_rfl) (fun _ _ _ h => h) (Or.inl ⟨by kernel_rfl, ?hy13⟩) hHeld ?hr13; case hy13 => (intro w hSw; (try dsimp only at hSw); go_simp; try with_reducible rfl))
        simp only [Act.put, List.getElem_toArray, List.getElem_cons_succ, List.getElem_cons_zero, List.setIfInBounds_toArray, List.set_cons_zero, List.set_cons_succ]
        (refine wpAnyH_take (i := 16) (v := ?hv14) rfl (by kernel_rfl) (by kernel_rfl) (by kernel_rfl) (fun _ _ _ h => h) (Or.inl ⟨by kernel_rfl, ?hy14⟩) hHeld ?hr14; case hy14 => (intro w hSw; (try dsimp only at hSw); go_simp; try with_reducible rfl))
        simp only [Act.put, List.getElem_toArray, List.getElem_cons_succ, List.getElem_cons_zero, List.setIfInBounds_toArray, List.set_cons_zero, List.set_cons_succ]
        (refine wpAnyH_take (i := 17) (v := ?hv15) rfl (by kernel_rfl) (by kernel_rfl) (by kernel_rfl) (fun _ _ _ h => h) (Or.inl ⟨by kernel_rfl, ?hy15⟩) hHeld ?hr15; case hy15 => (intro w hSw; (try dsimp only at hSw); have k0 := (hSw.cell (p := ⟨g8, 0, none⟩) HX8.out.lt).trans (HX8.out.at_ 0 rfl); have k1 := (hSw.cell (p := ⟨g8, 1, none⟩) HX8.out.lt).trans (HX8.out.at_ 1 rfl); clear hSw; go_simp; try with_reducible rfl))
        simp only [Act.put, List.getElem_toArray, List.getElem_cons_succ, List.getElem_cons_zero, List.setIfInBounds_toArray, List.set_cons_zero, List.set_cons_succ]
        (refine wpAnyH_take (i := 18) (v := ?hv16) rfl (by kernel_rfl) (by kernel_rfl) (by kernel_rfl) (fun _ _ _ h => h) (Or.inl ⟨by kernel_rfl, ?hy16⟩) hHeld ?hr16; case hy16 => (intro w hSw; (try dsimp only at hSw); have k0 := (hSw.cell (p := ⟨w1.heap.size + 1, 0, none⟩) HX6.out.lt).trans (HX6.out.at_ 0 rfl); have k1 := (hSw.cell (p := ⟨w1.heap.size + 1, 1, none⟩) HX6.out.lt).trans (HX6.out.at_ 1 rfl); clear hSw; go_simp; try with_reducible rfl))
        simp only [Act.put, List.getElem_toArray, List.getElem_cons_succ, List.getElem_cons_zero, List.setIfInBounds_toArray, List.set_cons_zero, List.set_cons_succ]
        refine wpAnyH_ready (rs := [19]) (by kernel_rfl) (by simp) ?_
        refine AllReadyH.cons rfl (fun K hK => ?_) AllReadyH.nil
        go_simp
        go_at_call 34
        refine (LabC.below_impl mx my x2 y2 _).mono ?_
        rintro e v ⟨rfl, hb⟩
        rw [L4.out]
        refine hK.out _ _ (hHeld.trans (hb.mono hHeld.size)) (fun hHeld => ?_)
        clear hK K hb
        try simp only [Act.put, List.getElem_toArray, List.getElem_cons_succ, List.getElem_cons_zero, List.setIfInBounds_toArray, List.set_cons_zero, List.set_cons_succ]
        (refine wpAnyH_take (i := 20) (v := ?hv17) rfl (by kernel_rfl) (by kernel_rfl) (by kernel_rfl) (fun _ _ _ h => h) (Or.inl ⟨by kernel_rfl, ?hy17⟩) hHeld ?hr17; case hy17 => (intro w hSw; (try dsimp only at hSw); go_simp; try with_reducible rfl))
        simp only [Act.put, List.getElem_toArray, List.getElem_cons_succ, List.getElem_cons_zero, List.setIfInBounds_toArray, List.set_cons_zero, List.set_cons_succ]
        (refine wpAnyH_take (i := 21) (v := ?hv18) rfl (by kernel_rfl) (by kernel_rfl) (by kernel_rfl) (fun _ _ _ h => h) (Or.inl ⟨by kernel_rfl, ?hy18⟩) hHeld ?hr18; case hy18 => (intro w hSw; (try dsimp only at hSw); go_simp; try with_reducible rfl))
        simp only [Act.put, List.getElem_toArray, List.getElem_cons_succ, List.getElem_cons_zero, List.setIfInBounds_toArray, List.set_cons_zero, List.set_cons_succ]
        (refine wpAnyH_take (i := 22) (v := ?hv19) rfl (by kernel_rfl) (by kernel_rfl) (by kernel_rfl) (fun _ _ _ h => h) (Or.inl ⟨by kernel_rfl, ?hy19⟩) hHeld ?hr19; case hy19 => (intro w hSw; (try dsimp only at hSw); go_simp; try with_reducible rfl))
        simp only [Act.put, List.getElem_toArray, List.getElem_cons_succ, List.getElem_cons_zero, List.setIfInBounds_toArray, List.set_cons_zero, List.set_cons_succ]
        (refine wpAnyH_take (i := 23) (v := ?hv20) rfl (by kernel_rfl) (by kernel_rfl) (by kernel_rfl) (fun _ _ _ h => h) (Or.inl ⟨by kernel_rfl, ?hy20⟩) hHeld ?hr20; case hy20 => (intro w hSw; (try dsimp only at hSw); have k0 := (hSw.cell (p := ⟨w1.heap.size, 0, none⟩) HX5.out.lt).trans (HX5.out.at_ 0 rfl); have k1 := (hSw.cell (p := ⟨w1.heap.size, 1, none⟩) HX5.out.lt).trans (HX5.out.at_ 1 rfl); clear hSw; go_simp; try with_reducible rfl))
        simp only [Act.put, List.getElem_toArray, List.getElem_cons_succ, List.getElem_cons_zero, List.setIfInBounds_toArray, List.set_cons_zero, List.set_cons_succ]
        (refine wpAnyH_take (i := 24) (v := ?hv21) rfl (by kernel_rfl) (by kernel_rfl) (by kernel_rfl) (fun _ _ _ h => h) (Or.inl ⟨by kernel_rfl, ?hy21⟩) hHeld ?hr21; case hy21 => (intro w hSw; (try dsimp only at hSw); have k0 := (hSw.cell (p := ⟨w1.heap.size + 1, 0, none⟩) HX6.out.lt).trans (HX6.out.at_ 0 rfl); have k1 := (hSw.cell (p := ⟨w1.heap.size + 1, 1, none⟩) HX6.out.lt).trans (HX6.out.at_ 1 rfl); clear hSw; go_simp; try with_reducible rfl))
        simp only [Act.put, List.getElem_toArray, List.getElem_cons_succ, List.getElem_cons_zero, List.setIfInBounds_toArray, List.set_cons_zero, List.set_cons_succ]
        (refine wpAnyH_take (i := 26) (v := ?hv22) rfl (by kernel_rfl) (by kernel_rfl) (by kernel_rfl) (fun _ _ _ h => h) (Or.inl ⟨by kernel_rfl, ?hy22⟩) hHeld ?hr22; case hy22 => (intro w hSw; (try dsimp only at hSw); have k0 := (hSw.cell (p := ⟨g7, 0, none⟩) HX7.out.lt).trans (HX7.out.at_ 0 rfl); have k1 := (hSw.cell (p := ⟨g7, 1, none⟩) HX7.out.lt).trans (HX7.out.at_ 1 rfl); clear hSw; go_simp; try with_reducible rfl))
        simp only [Act.put, List.getElem_toArray, List.getElem_cons_succ, List.getElem_cons_zero, List.setIfInBounds_toArray, List.set_cons_zero, List.set_cons_succ]
        (refine wpAnyH_take (i := 27) (v := ?hv23) rfl (by kernel_rfl) (by kernel_rfl) (by kernel_rfl) (fun _ _ _ h => h) (Or.inl ⟨by kernel_rfl, ?hy23⟩) hHeld ?hr23; case hy23 => (intro w hSw; (try dsimp only at hSw); have k0 := (hSw.cell (p := ⟨w1.heap.size + 1, 0, none⟩) HX6.out.lt).trans (HX6.out.at_ 0 rfl); have k1 := (hSw.cell (p := ⟨w1.heap.size + 1, 1, none⟩) HX6.out.lt).trans (HX6.out.at_ 1 rfl); clear hSw; go_simp; try with_reducible rfl))
        simp only [Act.put, List.getElem_toArray, List.getElem_cons_succ, List.getElem_cons_zero, List.setIfInBounds_toArray, List.set_cons_zero, List.set_cons_succ]
        (refine wpAnyH_take (i := 28) (v := ?hv24) rfl (by kernel_rfl) (by kernel_rfl) (by kernel_rfl) (fun _ _ _ h => h) (Or.inl ⟨by kernel_rfl, ?hy24⟩) hHeld ?hr24; case hy24 => (intro w hSw; (try dsimp only at hSw); go_simp; try with_reducible rfl))
        simp only [Act.put, List.getElem_toArray, List.getElem_cons_succ, List.getElem_cons_zero, List.setIfInBounds_toArray, List.set_cons_zero, List.set_cons_succ]
        refine wpAnyH_ready (rs := [25]) (by kernel_rfl) (by simp) ?_
        refine AllReadyH.cons rfl (fun K hK => ?_) AllReadyH.nil
        go_simp
        go_at_call 34
        refine (LabC.below_impl x1 y1 x2 y2 _).mono ?_
        rintro e v ⟨rfl, hb⟩
        rw [Pq.out]
        refine hK.out _ _ (hHeld.trans (hb.mono hHeld.size)) (fun hHeld => ?_)
        clear hK K hb
        try simp only [Act.put, List.getElem_toArray, List.getElem_cons_succ, List.getElem_cons_zero, List.setIfInBounds_toArray, List.set_cons_zero, List.set_cons_succ]
        (refine wpAnyH_take (i := 29) (v := ?hv25) rfl (by kernel_rfl) (by kernel_rfl) (by kernel_rfl) (fun _ _ _ h => h) (Or.inl ⟨by kernel_rfl, ?hy25⟩) hHeld ?hr25; case hy25 => (intro w hSw; (try dsimp only at hSw); go_simp; try with_reducible rfl))
        simp only [Act.put, List.getElem_toArray, List.getElem_cons_succ, List.getElem_cons_zero, List.setIfInBounds_toArray, List.set_cons_zero, List.set_cons_succ]
        (refine wpAnyH_take (i := 30) (v := ?hv26) rfl (by kernel_rfl) (by kernel_rfl) (by kernel_rfl) (fun _ _ _ h => h) (Or.inl ⟨by kernel_rfl, ?hy26⟩) hHeld ?hr26; case hy26 => (intro w hSw; (try dsimp only at hSw); go_simp; try with_reducible rfl))
        simp only [Act.put, List.getElem_toArray, List.getElem_cons_succ, List.getElem_cons_zero, List.setIfInBounds_toArray, List.set_cons_zero, List.set_cons_succ]
        refine wpAnyH_done (by kernel_rfl) ?_ _
        have HF := Lib.hid hHeld
        clear hHeld
        have hb := HF.out
        clear HF
        have HX5 := Lib.hid (HX5.out.call hb)
        have HX6 := Lib.hid (HX6.out.call hb)
        have HX7 := Lib.hid (HX7.out.call hb)
        have HX8 := Lib.hid (HX8.out.call hb)
        have HX9 := Lib.hid (HX9.out.call hb)
        have HX10 := Lib.hid (HX10.out.call hb)
        have HX11 := Lib.hid (HX11.out.call hb)
        have HX14 := Lib.hid (HX14.out.call hb)
        have HB := Lib.hid (HB.out.trans (hb.mono HB.out.size))
        clear hb
        clear hqe hqq
        obtain ⟨r1, hr1⟩ : ∃ b, belowB x1 y1 x3 y3 = b := ⟨_, rfl⟩
        have Pr1 := Lib.hid hr1
        clear hr1
        obtain ⟨r2, hr2⟩ : ∃ b, belowB x2 y2 x3 y3 = b := ⟨_, rfl⟩
        have Pr2 := Lib.hid hr2
        clear hr2
        obtain ⟨u1, hu1⟩ : ∃ b, belowB x3 y3 x1 y1 = b := ⟨_, rfl⟩
        have Pu1 := Lib.hid hu1
        clear hu1
        obtain ⟨u2, hu2⟩ : ∃ b, belowB x3 y3 x2 y2 = b := ⟨_, rfl⟩
        have Pu2 := Lib.hid hu2
        clear hu2
        rw [Pr1.out, Pr2.out] at L6
        rw [Pu1.out, Pu2.out] at L7
        have hrr : (r2 == r2) = true := by simp
        have huu : (u2 == u2) = true := by simp
        go_upto_region 19 with fail
        cases r1
        case false =>
          have l6 := L6.out
          clear L6
          simp only [Bool.true_and, Bool.false_and] at l6
          have L6 := Lib.hid l6
          clear l6
          cases u1
          case false =>
            have l7 := L7.out
            clear L7
            simp only [Bool.true_and, Bool.false_and] at l7
            have L7 := Lib.hid l7
            clear l7
            refine wp_region_held_drew (S := (fun V => Below (v).heap.size (v) V)) (by kernel_rfl) ((Below.refl _ _).drew) (fun hHeld => ?_)
            (refine wpAnyH_take (i := 0) (v := ?hv27) rfl (by kernel_rfl) (by kernel_rfl) (by kernel_rfl) (fun _ _ _ h => h) (Or.inl ⟨by kernel_rfl, ?hy27⟩) hHeld ?hr27; case hy27 => (intro w hSw; (try dsimp only at hSw); have k0 := (hSw.cell (p := ⟨g7, 0, none⟩) HX7.out.lt).trans (HX7.out.at_ 0 rfl); have k1 := (hSw.cell (p := ⟨g7, 1, none⟩) HX7.out.lt).trans (HX7.out.at_ 1 rfl); clear hSw; go_simp; try with_reducible rfl))
            simp only [Act.put, List.getElem_toArray, List.getElem_cons_succ, List.getElem_cons_zero, List.setIfInBounds_toArray, List.set_cons_zero, List.set_cons_succ]
            (refine wpAnyH_take (i := 1) (v := ?hv28) rfl (by kernel_rfl) (by kernel_rfl) (by kernel_rfl) (fun _ _ _ h => h) (Or.inl ⟨by kernel_rfl, ?hy28⟩) hHeld ?hr28; case hy28 => (intro w hSw; (try dsimp only at hSw); have k0 := (hSw.cell (p := ⟨w4.heap.size, 0, none⟩) HX9.out.lt).trans (HX9.out.at_ 0 rfl); have k1 := (hSw.cell (p := ⟨w4.heap.size, 1, none⟩) HX9.out.lt).trans (HX9.out.at_ 1 rfl); clear hSw; go_simp; try with_reducible rfl))
            simp only [Act.put, List.getElem_toArray, List.getElem_cons_succ, List.getElem_cons_zero, List.setIfInBounds_toArray, List.set_cons_zero, List.set_cons_succ]
            (refine wpAnyH_take (i := 3) (v := ?hv29) rfl (by kernel_rfl) (by kernel_rfl) (by kernel_rfl) (fun _ _ _ h => h) (Or.inl ⟨by kernel_rfl, ?hy29⟩) hHeld ?hr29; case hy29 => (intro w hSw; (try dsimp only at hSw); have k0 := (hSw.cell (p := ⟨w1.heap.size, 0, none⟩) HX5.out.lt).trans (HX5.out.at_ 0 rfl); have k1 := (hSw.cell (p := ⟨w1.heap.size, 1, none⟩) HX5.out.lt).trans (HX5.out.at_ 1 rfl); clear hSw; go_simp; try with_reducible rfl))
            simp only [Act.put, List.getElem_toArray, List.getElem_cons_succ, List.getElem_cons_zero, List.setIfInBounds_toArray, List.set_cons_zero, List.set_cons_succ]
            (refine wpAnyH_take (i := 4) (v := ?hv30) rfl (by kernel_rfl) (by kernel_rfl) (by kernel_rfl) (fun _ _ _ h => h) (Or.inl ⟨by kernel_rfl, ?hy30⟩) hHeld ?hr30; case hy30 => (intro w hSw; (try dsimp only at hSw); have k0 := (hSw.cell (p := ⟨w4.heap.size, 0, none⟩) HX9.out.lt).trans (HX9.out.at_ 0 rfl); have k1 := (hSw.cell (p := ⟨w4.heap.size, 1, none⟩) HX9.out.lt).trans (HX9.out.at_ 1 rfl); clear hSw; go_simp; try with_reducible rfl))
            simp only [Act.put, List.getElem_toArray, List.getElem_cons_succ, List.getElem_cons_zero, List.setIfInBounds_toArray, List.set_cons_zero, List.set_cons_succ]
            refine wpAnyH_ready (rs := [2]) (by kernel_rfl) (by simp) ?_
            refine AllReadyH.cons rfl (fun K hK => ?_) AllReadyH.nil
            go_simp
            go_at_call 34
            refine (LabC.below_impl jx jy x3 y3 _).mono ?_
            rintro e v ⟨rfl, hb⟩
            rw [L6.out]
            refine hK.out _ _ (hHeld.trans (hb.mono hHeld.size)) (fun hHeld => ?_)
            clear hK K hb
            try simp only [Act.put, List.getElem_toArray, List.getElem_cons_succ, List.getElem_cons_zero, List.setIfInBounds_toArray, List.set_cons_zero, List.set_cons_succ]
            refine wpAnyH_ready (rs := [5]) (by kernel_rfl) (by simp) ?_
            refine AllReadyH.cons rfl (fun K hK => ?_) AllReadyH.nil
            go_simp
            go_at_call 34
            refine (LabC.below_impl x1 y1 x3 y3 _).mono ?_
            rintro e v ⟨rfl, hb⟩
            rw [Pr1.out]
            refine hK.out _ _ (hHeld.trans (hb.mono hHeld.size)) (fun hHeld => ?_)
            clear hK K hb
            try simp only [Act.put, List.getElem_toArray, List.getElem_cons_succ, List.getElem_cons_zero, List.setIfInBounds_toArray, List.set_cons_zero, List.set_cons_succ]
            (refine wpAnyH_take (i := 6) (v := ?hv31) rfl (by kernel_rfl) (by kernel_rfl) (by kernel_rfl) (fun _ _ _ h => h) (Or.inl ⟨by kernel_rfl, ?hy31⟩) hHeld ?hr31; case hy31 => (intro w hSw; (try dsimp only at hSw); go_simp; try with_reducible rfl))
            simp only [Act.put, List.getElem_toArray, List.getElem_cons_succ, List.getElem_cons_zero, List.setIfInBounds_toArray, List.set_cons_zero, List.set_cons_succ]
            (refine wpAnyH_take (i := 7) (v := undef) rfl (by kernel_rfl) (by kernel_rfl) (by kernel_rfl) (fun _ _ _ h => h) (Or.inr ⟨by kernel_rfl, rfl⟩) hHeld ?_)
            simp only [Act.put, List.getElem_toArray, List.getElem_cons_succ, List.getElem_cons_zero, List.setIfInBounds_toArray, List.set_cons_zero, List.set_cons_succ]
            (refine wpAnyH_take (i := 8) (v := undef) rfl (by kernel_rfl) (by kernel_rfl) (by kernel_rfl) (fun _ _ _ h => h) (Or.inr ⟨by kernel_rfl, rfl⟩) hHeld ?_)
            simp only [Act.put, List.getElem_toArray, List.getElem_cons_succ, List.getElem_cons_zero, List.setIfInBounds_toArray, List.set_cons_zero, List.set_cons_succ]
            (refine wpAnyH_take (i := 9) (v := undef) rfl (by kernel_rfl) (by kernel_rfl) (by kernel_rfl) (fun _ _ _ h => h) (Or.inr ⟨by kernel_rfl, rfl⟩) hHeld ?_)
            simp only [Act.put, List.getElem_toArray, List.getElem_cons_succ, List.getElem_cons_zero, List.setIfInBounds_toArray, List.set_cons_zero, List.set_cons_succ]
            (refine wpAnyH_take (i := 10) (v := ?hv35) rfl (by kernel_rfl) (by kernel_rfl) (by kernel_rfl) (fun _ _ _ h => h) (Or.inl ⟨by kernel_rfl, ?hy35⟩) hHeld ?hr35; case hy35 => (intro w hSw; (try dsimp only at hSw); go_simp; try with_reducible rfl))
            simp only [Act.put, List.getElem_toArray, List.getElem_cons_succ, List.getElem_cons_zero, List.setIfInBounds_toArray, List.set_cons_zero, List.set_cons_succ]
            (refine wpAnyH_take (i := 11) (v := ?hv36) rfl (by kernel_rfl) (by kernel_rfl) (by kernel_rfl) (fun _ _ _ h => h) (Or.inl ⟨by kernel_rfl, ?hy36⟩) hHeld ?hr36; case hy36 => (intro w hSw; (try dsimp only at hSw); go_simp; try with_reducible rfl))
            simp only [Act.put, List.getElem_toArray, List.getElem_cons_succ, List.getElem_cons_zero, List.setIfInBounds_toArray, List.set_cons_zero, List.set_cons_succ]
            (refine wpAnyH_take (i := 12) (v := ?hv37) rfl (by kernel_rfl) (by kernel_rfl) (by kernel_rfl) (fun _ _ _ h => h) (Or.inl ⟨by kernel_rfl, ?hy37⟩) hHeld ?hr37; case hy37 => (intro w hSw; (try dsimp only at hSw); go_simp; try with_reducible rfl))
            simp only [Act.put, List.getElem_toArray, List.getElem_cons_succ, List.getElem_cons_zero, List.setIfInBounds_toArray, List.set_cons_zero, List.set_cons_succ]
            (refine wpAnyH_take (i := 13) (v := ?hv38) rfl (by kernel_rfl) (by kernel_rfl) (by kernel_rfl) (fun _ _ _ h => h) (Or.inl ⟨by kernel_rfl, ?hy38⟩) hHeld ?hr38; case hy38 => (intro w hSw; (try dsimp only at hSw); have k0 := (hSw.cell (p := ⟨w4.heap.size, 0, none⟩) HX9.out.lt).trans (HX9.out.at_ 0 rfl); have k1 := (hSw.cell (p := ⟨w4.heap.size, 1, none⟩) HX9.out.lt).trans (HX9.out.at_ 1 rfl); clear hSw; go_simp; try with_reducible rfl))
            simp only [Act.put, List.getElem_toArray, List.getElem_cons_succ, List.getElem_cons_zero, List.setIfInBounds_toArray, List.set_cons_zero, List.set_cons_succ]
            (refine wpAnyH_take (i := 14) (v := ?hv39) rfl (by kernel_rfl) (by kernel_rfl) (by kernel_rfl) (fun _ _ _ h => h) (Or.inl ⟨by kernel_rfl, ?hy39⟩) hHeld ?hr39; case hy39 => (intro w hSw; (try dsimp only at hSw); have k0 := (hSw.cell (p := ⟨g8, 0, none⟩) HX8.out.lt).trans (HX8.out.at_ 0 rfl); have k1 := (hSw.cell (p := ⟨g8, 1, none⟩) HX8.out.lt).trans (HX8.out.at_ 1 rfl); clear hSw; go_simp; try with_reducible rfl))
            simp only [Act.put, List.getElem_toArray, List.getElem_cons_succ, List.getElem_cons_zero, List.setIfInBounds_toArray, List.set_cons_zero, List.set_cons_succ]
            (refine wpAnyH_take (i := 16) (v := ?hv40) rfl (by kernel_rfl) (by kernel_rfl) (by kernel_rfl) (fun _ _ _ h => h) (Or.inl ⟨by kernel_rfl, ?hy40⟩) hHeld ?hr40; case hy40 => (intro w hSw; (try dsimp only at hSw); have k0 := (hSw.cell (p := ⟨w4.heap.size, 0, none⟩) HX9.out.lt).trans (HX9.out.at_ 0 rfl); have k1 := (hSw.cell (p := ⟨w4.heap.size, 1, none⟩) HX9.out.lt).trans (HX9.out.at_ 1 rfl); clear hSw; go_simp; try with_reducible rfl))
            simp only [Act.put, List.getElem_toArray, List.getElem_cons_succ, List.getElem_cons_zero, List.setIfInBounds_toArray, List.set_cons_zero, List.set_cons_succ]
            (refine wpAnyH_take (i := 17) (v := ?hv41) rfl (by kernel_rfl) (by kernel_rfl) (by kernel_rfl) (fun _ _ _ h => h) (Or.inl ⟨by kernel_rfl, ?hy41⟩) hHeld ?hr41; case hy41 => (intro w hSw; (try dsimp only at hSw); have k0 := (hSw.cell (p := ⟨w1.heap.size, 0, none⟩) HX5.out.lt).trans (HX5.out.at_ 0 rfl); have k1 := (hSw.cell (p := ⟨w1.heap.size, 1, none⟩) HX5.out.lt).trans (HX5.out.at_ 1 rfl); clear hSw; go_simp; try with_reducible rfl))
            simp only [Act.put, List.getElem_toArray, List.getElem_cons_succ, List.getElem_cons_zero, List.setIfInBounds_toArray, List.set_cons_zero, List.set_cons_succ]
            refine wpAnyH_ready (rs := [15]) (by kernel_rfl) (by simp) ?_
            refine AllReadyH.cons rfl (fun K hK => ?_) AllReadyH.nil
            go_simp
            go_at_call 34
            refine (LabC.below_impl x3 y3 mx my _).mono ?_
            rintro e v ⟨rfl, hb⟩
            rw [L7.out]
            refine hK.out _ _ (hHeld.trans (hb.mono hHeld.size)) (fun hHeld => ?_)
            clear hK K hb
            try simp only [Act.put, List.getElem_toArray, List.getElem_cons_succ, List.getElem_cons_zero, List.setIfInBounds_toArray, List.set_cons_zero, List.set_cons_succ]
            refine wpAnyH_ready (rs := [18]) (by kernel_rfl) (by simp) ?_
            refine AllReadyH.cons rfl (fun K hK => ?_) AllReadyH.nil
            go_simp
            go_at_call 34
            refine (LabC.below_impl x3 y3 x1 y1 _).mono ?_
            rintro e v ⟨rfl, hb⟩
            rw [Pu1.out]
            refine hK.out _ _ (hHeld.trans (hb.mono hHeld.size)) (fun hHeld => ?_)
            clear hK K hb
            try simp only [Act.put, List.getElem_toArray, List.getElem_cons_succ, List.getElem_cons_zero, List.setIfInBounds_toArray, List.set_cons_zero, List.set_cons_succ]
            (refine wpAnyH_take (i := 19) (v := ?hv42) rfl (by kernel_rfl) (by kernel_rfl) (by kernel_rfl) (fun _ _ _ h => h) (Or.inl ⟨by kernel_rfl, ?hy42⟩) hHeld ?hr42; case hy42 => (intro w hSw; (try dsimp only at hSw); go_simp; try with_reducible rfl))
            simp only [Act.put, List.getElem_toArray, List.getElem_cons_succ, List.getElem_cons_zero, List.setIfInBounds_toArray, List.set_cons_zero, List.set_cons_succ]
            (refine wpAnyH_take (i := 20) (v := undef) rfl (by kernel_rfl) (by kernel_rfl) (by kernel_rfl) (fun _ _ _ h => h) (Or.inr ⟨by kernel_rfl, rfl⟩) hHeld ?_)
            simp only [Act.put, List.getElem_toArray, List.getElem_cons_succ, List.getElem_cons_zero, List.setIfInBounds_toArray, List.set_cons_zero, List.set_cons_succ]
            (refine wpAnyH_take (i := 21) (v := undef) rfl (by kernel_rfl) (by kernel_rfl) (by kernel_rfl) (fun _ _ _ h => h) (Or.inr ⟨by kernel_rfl, rfl⟩) hHeld ?_)
            simp only [Act.put, List.getElem_toArray, List.getElem_cons_succ, List.getElem_cons_zero, List.setIfInBounds_toArray, List.set_cons_zero, List.set_cons_succ]
            (refine wpAnyH_take (i := 22) (v := undef) rfl (by kernel_rfl) (by kernel_rfl) (by kernel_rfl) (fun _ _ _ h => h) (Or.inr ⟨by kernel_rfl, rfl⟩) hHeld ?_)
            simp only [Act.put, List.getElem_toArray, List.getElem_cons_succ, List.getElem_cons_zero, List.setIfInBounds_toArray, List.set_cons_zero, List.set_cons_succ]
            (refine wpAnyH_take (i := 23) (v := ?hv46) rfl (by kernel_rfl) (by kernel_rfl) (by kernel_rfl) (fun _ _ _ h => h) (Or.inl ⟨by kernel_rfl, ?hy46⟩) hHeld ?hr46; case hy46 => (intro w hSw; (try dsimp only at hSw); go_simp; try with_reducible rfl))
            simp only [Act.put, List.getElem_toArray, List.getElem_cons_succ, List.getElem_cons_zero, List.setIfInBounds_toArray, List.set_cons_zero, List.set_cons_succ]
            (refine wpAnyH_take (i := 24) (v := ?hv47) rfl (by kernel_rfl) (by kernel_rfl) (by kernel_rfl) (fun _ _ _ h => h) (Or.inl ⟨by kernel_rfl, ?hy47⟩) hHeld ?hr47; case hy47 => (intro w hSw; (try dsimp only at hSw); go_simp; try with_reducible rfl))
            simp only [Act.put, List.getElem_toArray, List.getElem_cons_succ, List.getElem_cons_zero, List.setIfInBounds_toArray, List.set_cons_zero, List.set_cons_succ]
            (refine wpAnyH_take (i := 25) (v := ?hv48) rfl (by kernel_rfl) (by kernel_rfl) (by kernel_rfl) (fun _ _ _ h => h) (Or.inl ⟨by kernel_rfl, ?hy48⟩) hHeld ?hr48; case hy48 => (intro w hSw; (try dsimp only at hSw); go_simp; try with_reducible rfl))
            simp only [Act.put, List.getElem_toArray, List.getElem_cons_succ, List.getElem_cons_zero, List.setIfInBounds_toArray, List.set_cons_zero, List.set_cons_succ]
            (refine wpAnyH_take (i := 26) (v := ?hv49) rfl (by kernel_rfl) (by kernel_rfl) (by kernel_rfl) (fun _ _ _ h => h) (Or.inl ⟨by kernel_rfl, ?hy49⟩) hHeld ?hr49; case hy49 => (intro w hSw; (try dsimp only at hSw); go_simp; try with_reducible rfl))
            simp only [Act.put, List.getElem_toArray, List.getElem_cons_succ, List.getElem_cons_zero, List.setIfInBounds_toArray, List.set_cons_zero, List.set_cons_succ]
            refine wpAnyH_done (by kernel_rfl) ?_ _
            have HF := Lib.hid hHeld
            clear hHeld
            go_wp2
            go_ret
            exact ⟨rfl, HB.out.trans (HF.out.mono HB.out.size)⟩
          case true =>
            have l7 := L7.out
            clear L7
            simp only [Bool.true_and, Bool.false_and] at l7
            have L7 := Lib.hid l7
            clear l7
            refine wp_region_held_drew (S := (fun V => Below (v).heap.size (v) V)) (by kernel_rfl) ((Below.refl _ _).drew) (fun hHeld => ?_)
            (refine wpAnyH_take (i := 0) (v := ?hv50) rfl (by kernel_rfl) (by kernel_rfl) (by kernel_rfl) (fun _ _ _ h => h) (Or.inl ⟨by kernel_rfl, ?hy50⟩) hHeld ?hr50; case hy50 => (intro w hSw; (try dsimp only at hSw); have k0 := (hSw.cell (p := ⟨g7, 0, none⟩) HX7.out.lt).trans (HX7.out.at_ 0 rfl); have k1 := (hSw.cell (p := ⟨g7, 1, none⟩) HX7.out.lt).trans (HX7.out.at_ 1 rfl); clear hSw; go_simp; try with_reducible rfl))
            simp only [Act.put, List.getElem_toArray, List.getElem_cons_succ, List.getElem_cons_zero, List.setIfInBounds_toArray, List.set_cons_zero, List.set_cons_succ]
            (refine wpAnyH_take (i := 1) (v := ?hv51) rfl (by kernel_rfl) (by kernel_rfl) (by kernel_rfl) (fun _ _ _ h => h) (Or.inl ⟨by kernel_rfl, ?hy51⟩) hHeld ?hr51; case hy51 => (intro w hSw; (try dsimp only at hSw); have k0 := (hSw.cell (p := ⟨w4.heap.size, 0, none⟩) HX9.out.lt).trans (HX9.out.at_ 0 rfl); have k1 := (hSw.cell (p := ⟨w4.heap.size, 1, none⟩) HX9.out.lt).trans (HX9.out.at_ 1 rfl); clear hSw; go_simp; try with_reducible rfl))
            simp only [Act.put, List.getElem_toArray, List.getElem_cons_succ, List.getElem_cons_zero, List.setIfInBounds_toArray, List.set_cons_zero, List.set_cons_succ]
            (refine wpAnyH_take (i := 3) (v := ?hv52) rfl (by kernel_rfl) (by kernel_rfl) (by kernel_rfl) (fun _ _ _ h => h) (Or.inl ⟨by kernel_rfl, ?hy52⟩) hHeld ?hr52; case hy52 => (intro w hSw; (try dsimp only at hSw); have k0 := (hSw.cell (p := ⟨w1.heap.size, 0, none⟩) HX5.out.lt).trans (HX5.out.at_ 0 rfl); have k1 := (hSw.cell (p := ⟨w1.heap.size, 1, none⟩) HX5.out.lt).trans (HX5.out.at_ 1 rfl); clear hSw; go_simp; try with_reducible rfl))
            simp only [Act.put, List.getElem_toArray, List.getElem_cons_succ, List.getElem_cons_zero, List.setIfInBounds_toArray, List.set_cons_zero, List.set_cons_succ]
            (refine wpAnyH_take (i := 4) (v := ?hv53) rfl (by kernel_rfl) (by kernel_rfl) (by kernel_rfl) (fun _ _ _ h => h) (Or.inl ⟨by kernel_rfl, ?hy53⟩) hHeld ?hr53; case hy53 => (intro w hSw; (try dsimp only at hSw); have k0 := (hSw.cell (p := ⟨w4.heap.size, 0, none⟩) HX9.out.lt).trans (HX9.out.at_ 0 rfl); have k1 := (hSw.cell (p := ⟨w4.heap.size, 1, none⟩) HX9.out.lt).trans (HX9.out.at_ 1 rfl); clear hSw; go_simp; try with_reducible rfl))
            simp only [Act.put, List.getElem_toArray, List.getElem_cons_succ, List.getElem_cons_zero, List.setIfInBounds_toArray, List.set_cons_zero, List.set_cons_succ]
            refine wpAnyH_ready (rs := [2]) (by kernel_rfl) (by simp) ?_
            refine AllReadyH.cons rfl (fun K hK => ?_) AllReadyH.nil
            go_simp
            go_at_call 34
            refine (LabC.below_impl jx jy x3 y3 _).mono ?_
            rintro e v ⟨rfl, hb⟩
            rw [L6.out]
            refine hK.out _ _ (hHeld.trans (hb.mono hHeld.size)) (fun hHeld => ?_)
            clear hK K hb
            try simp only [Act.put, List.getElem_toArray, List.getElem_cons_succ, List.getElem_cons_zero, List.setIfInBounds_toArray, List.set_cons_zero, List.set_cons_succ]
            refine wpAnyH_ready (rs := [5]) (by kernel_rfl) (by simp) ?_
            refine AllReadyH.cons rfl (fun K hK => ?_) AllReadyH.nil
            go_simp
            go_at_call 34
            refine (LabC.below_impl x1 y1 x3 y3 _).mono ?_
            rintro e v ⟨rfl, hb⟩
            rw [Pr1.out]
            refine hK.out _ _ (hHeld.trans (hb.mono hHeld.size)) (fun hHeld => ?_)
            clear hK K hb
            try simp only [Act.put, List.getElem_toArray, List.getElem_cons_succ, List.getElem_cons_zero, List.setIfInBounds_toArray, List.set_cons_zero, List.set_cons_succ]
            (refine wpAnyH_take (i := 6) (v := ?hv54) rfl (by kernel_rfl) (by kernel_rfl) (by kernel_rfl) (fun _ _ _ h => h) (Or.inl ⟨by kernel_rfl, ?hy54⟩) hHeld ?hr54; case hy54 => (intro w hSw; (try dsimp only at hSw); go_simp; try with_reducible rfl))
            simp only [Act.put, List.getElem_toArray, List.getElem_cons_succ, List.getElem_cons_zero, List.setIfInBounds_toArray, List.set_cons_zero, List.set_cons_succ]
            (refine wpAnyH_take (i := 7) (v := undef) rfl (by kernel_rfl) (by kernel_rfl) (by kernel_rfl) (fun _ _ _ h => h) (Or.inr ⟨by kernel_rfl, rfl⟩) hHeld ?_)
            simp only [Act.put, List.getElem_toArray, List.getElem_cons_succ, List.getElem_cons_zero, List.setIfInBounds_toArray, List.set_cons_zero, List.set_cons_succ]
            (refine wpAnyH_take (i := 8) (v := undef) rfl (by kernel_rfl) (by kernel_rfl) (by kernel_rfl) (fun _ _ _ h => h) (Or.inr ⟨by kernel_rfl, rfl⟩) hHeld ?_)
            simp only [Act.put, List.getElem_toArray, List.getElem_cons_succ, List.getElem_cons_zero, List.setIfInBounds_toArray, List.set_cons_zero, List.set_cons_succ]
            (refine wpAnyH_take (i := 9) (v := undef) rfl (by kernel_rfl) (by kernel_rfl) (by kernel_rfl) (fun _ _ _ h => h) (Or.inr ⟨by kernel_rfl, rfl⟩) hHeld ?_)
            simp only [Act.put, List.getElem_toArray, List.getElem_cons_succ, List.getElem_cons_zero, List.setIfInBounds_toArray, List.set_cons_zero, List.set_cons_succ]
            (refine wpAnyH_take (i := 10) (v := ?hv58) rfl (by kernel_rfl) (by kernel_rfl) (by kernel_rfl) (fun _ _ _ h => h) (Or.inl ⟨by kernel_rfl, ?hy58⟩) hHeld ?hr58; case hy58 => (intro w hSw; (try dsimp only at hSw); go_simp; try with_reducible rfl))
            simp only [Act.put, List.getElem_toArray, List.getElem_cons_succ, List.getElem_cons_zero, List.setIfInBounds_toArray, List.set_cons_zero, List.set_cons_succ]
            (refine wpAnyH_take (i := 11) (v := ?hv59) rfl (by kernel_rfl) (by kernel_rfl) (by kernel_rfl) (fun _ _ _ h => h) (Or.inl ⟨by kernel_rfl, ?hy59⟩) hHeld ?hr59; case hy59 => (intro w hSw; (try dsimp only at hSw); go_simp; try with_reducible rfl))
            simp only [Act.put, List.getElem_toArray, List.getElem_cons_succ, List.getElem_cons_zero, List.setIfInBounds_toArray, List.set_cons_zero, List.set_cons_succ]
            (refine wpAnyH_take (i := 12) (v := ?hv60) rfl (by kernel_rfl) (by kernel_rfl) (by kernel_rfl) (fun _ _ _ h => h) (Or.inl ⟨by kernel_rfl, ?hy60⟩) hHeld ?hr60; case hy60 => (intro w hSw; (try dsimp only at hSw); go_simp; try with_reducible rfl))
            simp only [Act.put, List.getElem_toArray, List.getElem_cons_succ, List.getElem_cons_zero, List.setIfInBounds_toArray, List.set_cons_zero, List.set_cons_succ]
            (refine wpAnyH_take (i := 13) (v := ?hv61) rfl (by kernel_rfl) (by kernel_rfl) (by kernel_rfl) (fun _ _ _ h => h) (Or.inl ⟨by kernel_rfl, ?hy61⟩) hHeld ?hr61; case hy61 => (intro w hSw; (try dsimp only at hSw); have k0 := (hSw.cell (p := ⟨w4.heap.size, 0, none⟩) HX9.out.lt).trans (HX9.out.at_ 0 rfl); have k1 := (hSw.cell (p := ⟨w4.heap.size, 1, none⟩) HX9.out.lt).trans (HX9.out.at_ 1 rfl); clear hSw; go_simp; try with_reducible rfl))
            simp only [Act.put, List.getElem_toArray, List.getElem_cons_succ, List.getElem_cons_zero, List.setIfInBounds_toArray, List.set_cons_zero, List.set_cons_succ]
            (refine wpAnyH_take (i := 14) (v := ?hv62) rfl (by kernel_rfl) (by kernel_rfl) (by kernel_rfl) (fun _ _ _ h => h) (Or.inl ⟨by kernel_rfl, ?hy62⟩) hHeld ?hr62; case hy62 => (intro w hSw; (try dsimp only at hSw); have k0 := (hSw.cell (p := ⟨g8, 0, none⟩) HX8.out.lt).trans (HX8.out.at_ 0 rfl); have k1 := (hSw.cell (p := ⟨g8, 1, none⟩) HX8.out.lt).trans (HX8.out.at_ 1 rfl); clear hSw; go_simp; try with_reducible rfl))
            simp only [Act.put, List.getElem_toArray, List.getElem_cons_succ, List.getElem_cons_zero, List.setIfInBounds_toArray, List.set_cons_zero, List.set_cons_succ]
            (refine wpAnyH_take (i := 16) (v := ?hv63) rfl (by kernel_rfl) (by kernel_rfl) (by kernel_rfl) (fun _ _ _ h => h) (Or.inl ⟨by kernel_rfl, ?hy63⟩) hHeld ?hr63; case hy63 => (intro w hSw; (try dsimp only at hSw); have k0 := (hSw.cell (p := ⟨w4.heap.size, 0, none⟩) HX9.out.lt).trans (HX9.out.at_ 0 rfl); have k1 := (hSw.cell (p := ⟨w4.heap.size, 1, none⟩) HX9.out.lt).trans (HX9.out.at_ 1 rfl); clear hSw; go_simp; try with_reducible rfl))
            simp only [Act.put, List.getElem_toArray, List.getElem_cons_succ, List.getElem_cons_zero, List.setIfInBounds_toArray, List.set_cons_zero, List.set_cons_succ]
            (refine wpAnyH_take (i := 17) (v := ?hv64) rfl (by kernel_rfl) (by kernel_rfl) (by kernel_rfl) (fun _ _ _ h => h) (Or.inl ⟨by kernel_rfl, ?hy64⟩) hHeld ?hr64; case hy64 => (intro w hSw; (try dsimp only at hSw); have k0 := (hSw.cell (p := ⟨w1.heap.size, 0, none⟩) HX5.out.lt).trans (HX5.out.at_ 0 rfl); have k1 := (hSw.cell (p := ⟨w1.heap.size, 1, none⟩) HX5.out.lt).trans (HX5.out.at_ 1 rfl); clear hSw; go_simp; try with_reducible rfl))
            simp only [Act.put, List.getElem_toArray, List.getElem_cons_succ, List.getElem_cons_zero, List.setIfInBounds_toArray, List.set_cons_zero, List.set_cons_succ]
            refine wpAnyH_ready (rs := [15]) (by kernel_rfl) (by simp) ?_
            refine AllReadyH.cons rfl (fun K hK => ?_) AllReadyH.nil
            go_simp
            go_at_call 34
            refine (LabC.below_impl x3 y3 mx my _).mono ?_
            rintro e v ⟨rfl, hb⟩
            rw [L7.out]
            refine hK.out _ _ (hHeld.trans (hb.mono hHeld.size)) (fun hHeld => ?_)
            clear hK K hb
            try simp only [Act.put, List.getElem_toArray, List.getElem_cons_succ, List.getElem_cons_zero, List.setIfInBounds_toArray, List.set_cons_zero, List.set_cons_succ]
            refine wpAnyH_ready (rs := [18]) (by kernel_rfl) (by simp) ?_
            refine AllReadyH.cons rfl (fun K hK => ?_) AllReadyH.nil
            go_simp
            go_at_call 34
            refine (LabC.below_impl x3 y3 x1 y1 _).mono ?_
            rintro e v ⟨rfl, hb⟩
            rw [Pu1.out]
            refine hK.out _ _ (hHeld.trans (hb.mono hHeld.size)) (fun hHeld => ?_)
            clear hK K hb
            try simp only [Act.put, List.getElem_toArray, List.getElem_cons_succ, List.getElem_cons_zero, List.setIfInBounds_toArray, List.set_cons_zero, List.set_cons_succ]
            (refine wpAnyH_take (i := 19) (v := ?hv65) rfl (by kernel_rfl) (by kernel_rfl) (by kernel_rfl) (fun _ _ _ h => h) (Or.inl ⟨by kernel_rfl, ?hy65⟩) hHeld ?hr65; case hy65 => (intro w hSw; (try dsimp only at hSw); go_simp; try with_reducible rfl))
            simp only [Act.put, List.getElem_toArray, List.getElem_cons_succ, List.getElem_cons_zero, List.setIfInBounds_toArray, List.set_cons_zero, List.set_cons_succ]
            (refine wpAnyH_take (i := 20) (v := ?hv66) rfl (by kernel_rfl) (by kernel_rfl) (by kernel_rfl) (fun _ _ _ h => h) (Or.inl ⟨by kernel_rfl, ?hy66⟩) hHeld ?hr66; case hy66 => (intro w hSw; (try dsimp only at hSw); have k0 := (hSw.cell (p := ⟨w4.heap.size, 0, none⟩) HX9.out.lt).trans (HX9.out.at_ 0 rfl); have k1 := (hSw.cell (p := ⟨w4.heap.size, 1, none⟩) HX9.out.lt).trans (HX9.out.at_ 1 rfl); clear hSw; go_simp; try with_reducible rfl))
            simp only [Act.put, List.getElem_toArray, List.getElem_cons_succ, List.getElem_cons_zero, List.setIfInBounds_toArray, List.set_cons_zero, List.set_cons_succ]
            (refine wpAnyH_take (i := 21) (v := ?hv67) rfl (by kernel_rfl) (by kernel_rfl) (by kernel_rfl) (fun _ _ _ h => h) (Or.inl ⟨by kernel_rfl, ?hy67⟩) hHeld ?hr67; case hy67 => (intro w hSw; (try dsimp only at hSw); have k0 := (hSw.cell (p := ⟨w1.heap.size + 1, 0, none⟩) HX6.out.lt).trans (HX6.out.at_ 0 rfl); have k1 := (hSw.cell (p := ⟨w1.heap.size + 1, 1, none⟩) HX6.out.lt).trans (HX6.out.at_ 1 rfl); clear hSw; go_simp; try with_reducible rfl))
            simp only [Act.put, List.getElem_toArray, List.getElem_cons_succ, List.getElem_cons_zero, List.setIfInBounds_toArray, List.set_cons_zero, List.set_cons_succ]
            refine wpAnyH_ready (rs := [22]) (by kernel_rfl) (by simp) ?_
            refine AllReadyH.cons rfl (fun K hK => ?_) AllReadyH.nil
            go_simp
            go_at_call 34
            refine (LabC.below_impl x3 y3 x2 y2 _).mono ?_
            rintro e v ⟨rfl, hb⟩
            rw [Pu2.out]
            refine hK.out _ _ (hHeld.trans (hb.mono hHeld.size)) (fun hHeld => ?_)
            clear hK K hb
            try simp only [Act.put, List.getElem_toArray, List.getElem_cons_succ, List.getElem_cons_zero, List.setIfInBounds_toArray, List.set_cons_zero, List.set_cons_succ]
            (refine wpAnyH_take (i := 23) (v := ?hv68) rfl (by kernel_rfl) (by kernel_rfl) (by kernel_rfl) (fun _ _ _ h => h) (Or.inl ⟨by kernel_rfl, ?hy68⟩) hHeld ?hr68; case hy68 => (intro w hSw; (try dsimp only at hSw); go_simp; try with_reducible rfl))
            simp only [Act.put, List.getElem_toArray, List.getElem_cons_succ, List.getElem_cons_zero, List.setIfInBounds_toArray, List.set_cons_zero, List.set_cons_succ]
            (refine wpAnyH_take (i := 24) (v := ?hv69) rfl (by kernel_rfl) (by kernel_rfl) (by kernel_rfl) (fun _ _ _ h => h) (Or.inl ⟨by kernel_rfl, ?hy69⟩) hHeld ?hr69; case hy69 => (intro w hSw; (try dsimp only at hSw); go_simp; try with_reducible rfl))
            simp only [Act.put, List.getElem_toArray, List.getElem_cons_succ, List.getElem_cons_zero, List.setIfInBounds_toArray, List.set_cons_zero, List.set_cons_succ]
            (refine wpAnyH_take (i := 25) (v := ?hv70) rfl (by kernel_rfl) (by kernel_rfl) (by kernel_rfl) (fun _ _ _ h => h) (Or.inl ⟨by kernel_rfl, ?hy70⟩) hHeld ?hr70; case hy70 => (intro w hSw; (try dsimp only at hSw); go_simp; try with_reducible rfl))
            simp only [Act.put, List.getElem_toArray, List.getElem_cons_succ, List.getElem_cons_zero, List.setIfInBounds_toArray, List.set_cons_zero, List.set_cons_succ]
            (refine wpAnyH_take (i := 26) (v := ?hv71) rfl (by kernel_rfl) (by kernel_rfl) (by kernel_rfl) (fun _ _ _ h => h) (Or.inl ⟨by kernel_rfl, ?hy71⟩) hHeld ?hr71; case hy71 => (intro w hSw; (try dsimp only at hSw); go_simp; try with_reducible rfl))
            simp only [Act.put, List.getElem_toArray, List.getElem_cons_succ, List.getElem_cons_zero, List.setIfInBounds_toArray, List.set_cons_zero, List.set_cons_succ]
            refine wpAnyH_done (by kernel_rfl) ?_ _
            have HF := Lib.hid hHeld
            clear hHeld
            go_wp2
            go_ret
            exact ⟨rfl, HB.out.trans (HF.out.mono HB.out.size)⟩
        skip
        case true =>
          have l6 := L6.out
          clear L6
          simp only [Bool.true_and, Bool.false_and] at l6
          have L6 := Lib.hid l6
          clear l6
          cases u1
          case false =>
            have l7 := L7.out
            clear L7
            simp only [Bool.true_and, Bool.false_and] at l7
            have L7 := Lib.hid l7
            clear l7
            refine wp_region_held_drew (S := (fun V => Below (v).heap.size (v) V)) (by kernel_rfl) ((Below.refl _ _).drew) (fun hHeld => ?_)
            (refine wpAnyH_take (i := 0) (v := ?hv72) rfl (by kernel_rfl) (by kernel_rfl) (by kernel_rfl) (fun _ _ _ h => h) (Or.inl ⟨by kernel_rfl, ?hy72⟩) hHeld ?hr72; case hy72 => (intro w hSw; (try dsimp only at hSw); have k0 := (hSw.cell (p := ⟨g7, 0, none⟩) HX7.out.lt).trans (HX7.out.at_ 0 rfl); have k1 := (hSw.cell (p := ⟨g7, 1, none⟩) HX7.out.lt).trans (HX7.out.at_ 1 rfl); clear hSw; go_simp; try with_reducible rfl))
            simp only [Act.put, List.getElem_toArray, List.getElem_cons_succ, List.getElem_cons_zero, List.setIfInBounds_toArray, List.set_cons_zero, List.set_cons_succ]
            (refine wpAnyH_take (i := 1) (v := ?hv73) rfl (by kernel_rfl) (by kernel_rfl) (by kernel_rfl) (fun _ _ _ h => h) (Or.inl ⟨by kernel_rfl, ?hy73⟩) hHeld ?hr73; case hy73 => (intro w hSw; (try dsimp only at hSw); have k0 := (hSw.cell (p := ⟨w4.heap.size, 0, none⟩) HX9.out.lt).trans (HX9.out.at_ 0 rfl); have k1 := (hSw.cell (p := ⟨w4.heap.size, 1, none⟩) HX9.out.lt).trans (HX9.out.at_ 1 rfl); clear hSw; go_simp; try with_reducible rfl))
            simp only [Act.put, List.getElem_toArray, List.getElem_cons_succ, List.getElem_cons_zero, List.setIfInBounds_toArray, List.set_cons_zero, List.set_cons_succ]
            (refine wpAnyH_take (i := 3) (v := ?hv74) rfl (by kernel_rfl) (by kernel_rfl) (by kernel_rfl) (fun _ _ _ h => h) (Or.inl ⟨by kernel_rfl, ?hy74⟩) hHeld ?hr74; case hy74 => (intro w hSw; (try dsimp only at hSw); have k0 := (hSw.cell (p := ⟨w1.heap.size, 0, none⟩) HX5.out.lt).trans (HX5.out.at_ 0 rfl); have k1 := (hSw.cell (p := ⟨w1.heap.size, 1, none⟩) HX5.out.lt).trans (HX5.out.at_ 1 rfl); clear hSw; go_simp; try with_reducible rfl))
            simp only [Act.put, List.getElem_toArray, List.getElem_cons_succ, List.getElem_cons_zero, List.setIfInBounds_toArray, List.set_cons_zero, List.set_cons_succ]
            (refine wpAnyH_take (i := 4) (v := ?hv75) rfl (by kernel_rfl) (by kernel_rfl) (by kernel_rfl) (fun _ _ _ h => h) (Or.inl ⟨by kernel_rfl, ?hy75⟩) hHeld ?hr75; case hy75 => (intro w hSw; (try dsimp only at hSw); have k0 := (hSw.cell (p := ⟨w4.heap.size, 0, none⟩) HX9.out.lt).trans (HX9.out.at_ 0 rfl); have k1 := (hSw.cell (p := ⟨w4.heap.size, 1, none⟩) HX9.out.lt).trans (HX9.out.at_ 1 rfl); clear hSw; go_simp; try with_reducible rfl))
            simp only [Act.put, List.getElem_toArray, List.getElem_cons_succ, List.getElem_cons_zero, List.setIfInBounds_toArray, List.set_cons_zero, List.set_cons_succ]
            refine wpAnyH_ready (rs := [2]) (by kernel_rfl) (by simp) ?_
            refine AllReadyH.cons rfl (fun K hK => ?_) AllReadyH.nil
            go_simp
            go_at_call 34
            refine (LabC.below_impl jx jy x3 y3 _).mono ?_
            rintro e v ⟨rfl, hb⟩
            rw [L6.out]
            refine hK.out _ _ (hHeld.trans (hb.mono hHeld.size)) (fun hHeld => ?_)
            clear hK K hb
            try simp only [Act.put, List.getElem_toArray, List.getElem_cons_succ, List.getElem_cons_zero, List.setIfInBounds_toArray, List.set_cons_zero, List.set_cons_succ]
            refine wpAnyH_ready (rs := [5]) (by kernel_rfl) (by simp) ?_
            refine AllReadyH.cons rfl (fun K hK => ?_) AllReadyH.nil
            go_simp
            go_at_call 34
            refine (LabC.below_impl x1 y1 x3 y3 _).mono ?_
            rintro e v ⟨rfl, hb⟩
            rw [Pr1.out]
            refine hK.out _ _ (hHeld.trans (hb.mono hHeld.size)) (fun hHeld => ?_)
            clear hK K hb
            try simp only [Act.put, List.getElem_toArray, List.getElem_cons_succ, List.getElem_cons_zero, List.setIfInBounds_toArray, List.set_cons_zero, List.set_cons_succ]
            (refine wpAnyH_take (i := 6) (v := ?hv76) rfl (by kernel_rfl) (by kernel_rfl) (by kernel_rfl) (fun _ _ _ h => h) (Or.inl ⟨by kernel_rfl, ?hy76⟩) hHeld ?hr76; case hy76 => (intro w hSw; (try dsimp only at hSw); go_simp; try with_reducible rfl))
            simp only [Act.put, List.getElem_toArray, List.getElem_cons_succ, List.getElem_cons_zero, List.setIfInBounds_toArray, List.set_cons_zero, List.set_cons_succ]
            (refine wpAnyH_take (i := 7) (v := ?hv77) rfl (by kernel_rfl) (by kernel_rfl) (by kernel_rfl) (fun _ _ _ h => h) (Or.inl ⟨by kernel_rfl, ?hy77⟩) hHeld ?hr77; case hy77 => (intro w hSw; (try dsimp only at hSw); have k0 := (hSw.cell (p := ⟨w1.heap.size + 1, 0, none⟩) HX6.out.lt).trans (HX6.out.at_ 0 rfl); have k1 := (hSw.cell (p := ⟨w1.heap.size + 1, 1, none⟩) HX6.out.lt).trans (HX6.out.at_ 1 rfl); clear hSw; go_simp; try with_reducible rfl))
            simp only [Act.put, List.getElem_toArray, List.getElem_cons_succ, List.getElem_cons_zero, List.setIfInBounds_toArray, List.set_cons_zero, List.set_cons_succ]
            (refine wpAnyH_take (i := 8) (v := ?hv78) rfl (by kernel_rfl) (by kernel_rfl) (by kernel_rfl) (fun _ _ _ h => h) (Or.inl ⟨by kernel_rfl, ?hy78⟩) hHeld ?hr78; case hy78 => (intro w hSw; (try dsimp only at hSw); have k0 := (hSw.cell (p := ⟨w4.heap.size, 0, none⟩) HX9.out.lt).trans (HX9.out.at_ 0 rfl); have k1 := (hSw.cell (p := ⟨w4.heap.size, 1, none⟩) HX9.out.lt).trans (HX9.out.at_ 1 rfl); clear hSw; go_simp; try with_reducible rfl))
            simp only [Act.put, List.getElem_toArray, List.getElem_cons_succ, List.getElem_cons_zero, List.setIfInBounds_toArray, List.set_cons_zero, List.set_cons_succ]
            refine wpAnyH_ready (rs := [9]) (by kernel_rfl) (by simp) ?_
            refine AllReadyH.cons rfl (fun K hK => ?_) AllReadyH.nil
            go_simp
            go_at_call 34
            refine (LabC.below_impl x2 y2 x3 y3 _).mono ?_
            rintro e v ⟨rfl, hb⟩
            rw [Pr2.out]
            refine hK.out _ _ (hHeld.trans (hb.mono hHeld.size)) (fun hHeld => ?_)
            clear hK K hb
            try simp only [Act.put, List.getElem_toArray, List.getElem_cons_succ, List.getElem_cons_zero, List.setIfInBounds_toArray, List.set_cons_zero, List.set_cons_succ]
            (refine wpAnyH_take (i := 10) (v := ?hv79) rfl (by kernel_rfl) (by kernel_rfl) (by kernel_rfl) (fun _ _ _ h => h) (Or.inl ⟨by kernel_rfl, ?hy79⟩) hHeld ?hr79; case hy79 => (intro w hSw; (try dsimp only at hSw); go_simp; try with_reducible rfl))
            simp only [Act.put, List.getElem_toArray, List.getElem_cons_succ, List.getElem_cons_zero, List.setIfInBounds_toArray, List.set_cons_zero, List.set_cons_succ]
            (refine wpAnyH_take (i := 11) (v := ?hv80) rfl (by kernel_rfl) (by kernel_rfl) (by kernel_rfl) (fun _ _ _ h => h) (Or.inl ⟨by kernel_rfl, ?hy80⟩) hHeld ?hr80; case hy80 => (intro w hSw; (try dsimp only at hSw); go_simp; try with_reducible rfl))
            simp only [Act.put, List.getElem_toArray, List.getElem_cons_succ, List.getElem_cons_zero, List.setIfInBounds_toArray, List.set_cons_zero, List.set_cons_succ]
            (refine wpAnyH_take (i := 12) (v := ?hv81) rfl (by kernel_rfl) (by kernel_rfl) (by kernel_rfl) (fun _ _ _ h => h) (Or.inl ⟨by kernel_rfl, ?hy81⟩) hHeld ?hr81; case hy81 => (intro w hSw; (try dsimp only at hSw); go_simp; try with_reducible rfl))
            simp only [Act.put, List.getElem_toArray, List.getElem_cons_succ, List.getElem_cons_zero, List.setIfInBounds_toArray, List.set_cons_zero, List.set_cons_succ]
            (refine wpAnyH_take (i := 13) (v := ?hv82) rfl (by kernel_rfl) (by kernel_rfl) (by kernel_rfl) (fun _ _ _ h => h) (Or.inl ⟨by kernel_rfl, ?hy82⟩) hHeld ?hr82; case hy82 => (intro w hSw; (try dsimp only at hSw); have k0 := (hSw.cell (p := ⟨w4.heap.size, 0, none⟩) HX9.out.lt).trans (HX9.out.at_ 0 rfl); have k1 := (hSw.cell (p := ⟨w4.heap.size, 1, none⟩) HX9.out.lt).trans (HX9.out.at_ 1 rfl); clear hSw; go_simp; try with_reducible rfl))
            simp only [Act.put, List.getElem_toArray, List.getElem_cons_succ, List.getElem_cons_zero, List.setIfInBounds_toArray, List.set_cons_zero, List.set_cons_succ]
            (refine wpAnyH_take (i := 14) (v := ?hv83) rfl (by kernel_rfl) (by kernel_rfl) (by kernel_rfl) (fun _ _ _ h => h) (Or.inl ⟨by kernel_rfl, ?hy83⟩) hHeld ?hr83; case hy83 => (intro w hSw; (try dsimp only at hSw); have k0 := (hSw.cell (p := ⟨g8, 0, none⟩) HX8.out.lt).trans (HX8.out.at_ 0 rfl); have k1 := (hSw.cell (p := ⟨g8, 1, none⟩) HX8.out.lt).trans (HX8.out.at_ 1 rfl); clear hSw; go_simp; try with_reducible rfl))
            simp only [Act.put, List.getElem_toArray, List.getElem_cons_succ, List.getElem_cons_zero, List.setIfInBounds_toArray, List.set_cons_zero, List.set_cons_succ]
            (refine wpAnyH_take (i := 16) (v := ?hv84) rfl (by kernel_rfl) (by kernel_rfl) (by kernel_rfl) (fun _ _ _ h => h) (Or.inl ⟨by kernel_rfl, ?hy84⟩) hHeld ?hr84; case hy84 => (intro w hSw; (try dsimp only at hSw); have k0 := (hSw.cell (p := ⟨w4.heap.size, 0, none⟩) HX9.out.lt).trans (HX9.out.at_ 0 rfl); have k1 := (hSw.cell (p := ⟨w4.heap.size, 1, none⟩) HX9.out.lt).trans (HX9.out.at_ 1 rfl); clear hSw; go_simp; try with_reducible rfl))
            simp only [Act.put, List.getElem_toArray, List.getElem_cons_succ, List.getElem_cons_zero, List.setIfInBounds_toArray, List.set_cons_zero, List.set_cons_succ]
            (refine wpAnyH_take (i := 17) (v := ?hv85) rfl (by kernel_rfl) (by kernel_rfl) (by kernel_rfl) (fun _ _ _ h => h) (Or.inl ⟨by kernel_rfl, ?hy85⟩) hHeld ?hr85; case hy85 => (intro w hSw; (try dsimp only at hSw); have k0 := (hSw.cell (p := ⟨w1.heap.size, 0, none⟩) HX5.out.lt).trans (HX5.out.at_ 0 rfl); have k1 := (hSw.cell (p := ⟨w1.heap.size, 1, none⟩) HX5.out.lt).trans (HX5.out.at_ 1 rfl); clear hSw; go_simp; try with_reducible rfl))
            simp only [Act.put, List.getElem_toArray, List.getElem_cons_succ, List.getElem_cons_zero, List.setIfInBounds_toArray, List.set_cons_zero, List.set_cons_succ]
            refine wpAnyH_ready (rs := [15]) (by kernel_rfl) (by simp) ?_
            refine AllReadyH.cons rfl (fun K hK => ?_) AllReadyH.nil
            go_simp
            go_at_call 34
            refine (LabC.below_impl x3 y3 mx my _).mono ?_
            rintro e v ⟨rfl, hb⟩
            rw [L7.out]
            refine hK.out _ _ (hHeld.trans (hb.mono hHeld.size)) (fun hHeld => ?_)
            clear hK K hb
            try simp only [Act.put, List.getElem_toArray, List.getElem_cons_succ, List.getElem_cons_zero, List.setIfInBounds_toArray, List.set_cons_zero, List.set_cons_succ]
            refine wpAnyH_ready (rs := [18]) (by kernel_rfl) (by simp) ?_
            refine AllReadyH.cons rfl (fun K hK => ?_) AllReadyH.nil
            go_simp
            go_at_call 34
            refine (LabC.below_impl x3 y3 x1 y1 _).mono ?_
            rintro e v ⟨rfl, hb⟩
            rw [Pu1.out]
            refine hK.out _ _ (hHeld.trans (hb.mono hHeld.size)) (fun hHeld => ?_)
            clear hK K hb
            try simp only [Act.put, List.getElem_toArray, List.getElem_cons_succ, List.getElem_cons_zero, List.setIfInBounds_toArray, List.set_cons_zero, List.set_cons_succ]
            (refine wpAnyH_take (i := 19) (v := ?hv86) rfl (by kernel_rfl) (by kernel_rfl) (by kernel_rfl) (fun _ _ _ h => h) (Or.inl ⟨by kernel_rfl, ?hy86⟩) hHeld ?hr86; case hy86 => (intro w hSw; (try dsimp only at hSw); go_simp; try with_reducible rfl))
            simp only [Act.put, List.getElem_toArray, List.getElem_cons_succ, List.getElem_cons_zero, List.setIfInBounds_toArray, List.set_cons_zero, List.set_cons_succ]
            (refine wpAnyH_take (i := 20) (v := undef) rfl (by kernel_rfl) (by kernel_rfl) (by kernel_rfl) (fun _ _ _ h => h) (Or.inr ⟨by kernel_rfl, rfl⟩) hHeld ?_)
            simp only [Act.put, List.getElem_toArray, List.getElem_cons_succ, List.getElem_cons_zero, List.setIfInBounds_toArray, List.set_cons_zero, List.set_cons_succ]
            (refine wpAnyH_take (i := 21) (v := undef) rfl (by kernel_rfl) (by kernel_rfl) (by kernel_rfl) (fun _ _ _ h => h) (Or.inr ⟨by kernel_rfl, rfl⟩) hHeld ?_)
            simp only [Act.put, List.getElem_toArray, List.getElem_cons_succ, List.getElem_cons_zero, List.setIfInBounds_toArray, List.set_cons_zero, List.set_cons_succ]
            (refine wpAnyH_take (i := 22) (v := undef) rfl (by kernel_rfl) (by kernel_rfl) (by kernel_rfl) (fun _ _ _ h => h) (Or.inr ⟨by kernel_rfl, rfl⟩) hHeld ?_)
            simp only [Act.put, List.getElem_toArray, List.getElem_cons_succ, List.getElem_cons_zero, List.setIfInBounds_toArray, List.set_cons_zero, List.set_cons_succ]
            (refine wpAnyH_take (i := 23) (v := ?hv90) rfl (by kernel_rfl) (by kernel_rfl) (by kernel_rfl) (fun _ _ _ h => h) (Or.inl ⟨by kernel_rfl, ?hy90⟩) hHeld ?hr90; case hy90 => (intro w hSw; (try dsimp only at hSw); go_simp; try with_reducible rfl))
            simp only [Act.put, List.getElem_toArray, List.getElem_cons_succ, List.getElem_cons_zero, List.setIfInBounds_toArray, List.set_cons_zero, List.set_cons_succ]
            (refine wpAnyH_take (i := 24) (v := ?hv91) rfl (by kernel_rfl) (by kernel_rfl) (by kernel_rfl) (fun _ _ _ h => h) (Or.inl ⟨by kernel_rfl, ?hy91⟩) hHeld ?hr91; case hy91 => (intro w hSw; (try dsimp only at hSw); go_simp; try with_reducible rfl))
            simp only [Act.put, List.getElem_toArray, List.getElem_cons_succ, List.getElem_cons_zero, List.setIfInBounds_toArray, List.set_cons_zero, List.set_cons_succ]
            (refine wpAnyH_take (i := 25) (v := ?hv92) rfl (by kernel_rfl) (by kernel_rfl) (by kernel_rfl) (fun _ _ _ h => h) (Or.inl ⟨by kernel_rfl, ?hy92⟩) hHeld ?hr92; case hy92 => (intro w hSw; (try dsimp only at hSw); go_simp; try with_reducible rfl))
            simp only [Act.put, List.getElem_toArray, List.getElem_cons_succ, List.getElem_cons_zero, List.setIfInBounds_toArray, List.set_cons_zero, List.set_cons_succ]
            (refine wpAnyH_take (i := 26) (v := ?hv93) rfl (by kernel_rfl) (by kernel_rfl) (by kernel_rfl) (fun _ _ _ h => h) (Or.inl ⟨by kernel_rfl, ?hy93⟩) hHeld ?hr93; case hy93 => (intro w hSw; (try dsimp only at hSw); go_simp; try with_reducible rfl))
            simp only [Act.put, List.getElem_toArray, List.getElem_cons_succ, List.getElem_cons_zero, List.setIfInBounds_toArray, List.set_cons_zero, List.set_cons_succ]
            refine wpAnyH_done (by kernel_rfl) ?_ _
            have HF := Lib.hid hHeld
            clear hHeld
            go_wp2
            go_ret
            exact ⟨rfl, HB.out.trans (HF.out.mono HB.out.size)⟩
          case true =>
            have l7 := L7.out
            clear L7
            simp only [Bool.true_and, Bool.false_and] at l7
            have L7 := Lib.hid l7
            clear l7
            refine wp_region_held_drew (S := (fun V => Below (v).heap.size (v) V)) (by kernel_rfl) ((Below.refl _ _).drew) (fun hHeld => ?_)
            (refine wpAnyH_take (i := 0) (v := ?hv94) rfl (by kernel_rfl) (by kernel_rfl) (by kernel_rfl) (fun _ _ _ h => h) (Or.inl ⟨by kernel_rfl, ?hy94⟩) hHeld ?hr94; case hy94 => (intro w hSw; (try dsimp only at hSw); have k0 := (hSw.cell (p := ⟨g7, 0, none⟩) HX7.out.lt).trans (HX7.out.at_ 0 rfl); have k1 := (hSw.cell (p := ⟨g7, 1, none⟩) HX7.out.lt).trans (HX7.out.at_ 1 rfl); clear hSw; go_simp; try with_reducible rfl))
            simp only [Act.put, List.getElem_toArray, List.getElem_cons_succ, List.getElem_cons_zero, List.setIfInBounds_toArray, List.set_cons_zero, List.set_cons_succ]
            (refine wpAnyH_take (i := 1) (v := ?hv95) rfl (by kernel_rfl) (by kernel_rfl) (by kernel_rfl) (fun _ _ _ h => h) (Or.inl ⟨by kernel_rfl, ?hy95⟩) hHeld ?hr95; case hy95 => (intro w hSw; (try dsimp only at hSw); have k0 := (hSw.cell (p := ⟨w4.heap.size, 0, none⟩) HX9.out.lt).trans (HX9.out.at_ 0 rfl); have k1 := (hSw.cell (p := ⟨w4.heap.size, 1, none⟩) HX9.out.lt).trans (HX9.out.at_ 1 rfl); clear hSw; go_simp; try with_reducible rfl))
            simp only [Act.put, List.getElem_toArray, List.getElem_cons_succ, List.getElem_cons_zero, List.setIfInBounds_toArray, List.set_cons_zero, List.set_cons_succ]
            (refine wpAnyH_take (i := 3) (v := ?hv96) rfl (by kernel_rfl) (by kernel_rfl) (by kernel_rfl) (fun _ _ _ h => h) (Or.inl ⟨by kernel_rfl, ?hy96⟩) hHeld ?hr96; case hy96 => (intro w hSw; (try dsimp only at hSw); have k0 := (hSw.cell (p := ⟨w1.heap.size, 0, none⟩) HX5.out.lt).trans (HX5.out.at_ 0 rfl); have k1 := (hSw.cell (p := ⟨w1.heap.size, 1, none⟩) HX5.out.lt).trans (HX5.out.at_ 1 rfl); clear hSw; go_simp; try with_reducible rfl))
            simp only [Act.put, List.getElem_toArray, List.getElem_cons_succ, List.getElem_cons_zero, List.setIfInBounds_toArray, List.set_cons_zero, List.set_cons_succ]
            (refine wpAnyH_take (i := 4) (v := ?hv97) rfl (by kernel_rfl) (by kernel_rfl) (by kernel_rfl) (fun _ _ _ h => h) (Or.inl ⟨by kernel_rfl, ?hy97⟩) hHeld ?hr97; case hy97 => (intro w hSw; (try dsimp only at hSw); have k0 := (hSw.cell (p := ⟨w4.heap.size, 0, none⟩) HX9.out.lt).trans (HX9.out.at_ 0 rfl); have k1 := (hSw.cell (p := ⟨w4.heap.size, 1, none⟩) HX9.out.lt).trans (HX9.out.at_ 1 rfl); clear hSw; go_simp; try with_reducible rfl))
            simp only [Act.put, List.getElem_toArray, List.getElem_cons_succ, List.getElem_cons_zero, List.setIfInBounds_toArray, List.set_cons_zero, List.set_cons_succ]
            refine wpAnyH_ready (rs := [2]) (by kernel_rfl) (by simp) ?_
            refine AllReadyH.cons rfl (fun K hK => ?_) AllReadyH.nil
            go_simp
            go_at_call 34
            refine (LabC.below_impl jx jy x3 y3 _).mono ?_
            rintro e v ⟨rfl, hb⟩
            rw [L6.out]
            refine hK.out _ _ (hHeld.trans (hb.mono hHeld.size)) (fun hHeld => ?_)
            clear hK K hb
            try simp only [Act.put, List.getElem_toArray, List.getElem_cons_succ, List.getElem_cons_zero, List.setIfInBounds_toArray, List.set_cons_zero, List.set_cons_succ]
            refine wpAnyH_ready (rs := [5]) (by kernel_rfl) (by simp) ?_
            refine AllReadyH.cons rfl (fun K hK => ?_) AllReadyH.nil
            go_simp
            go_at_call 34
            refine (LabC.below_impl x1 y1 x3 y3 _).mono ?_
            rintro e v ⟨rfl, hb⟩
            rw [Pr1.out]
            refine hK.out _ _ (hHeld.trans (hb.mono hHeld.size)) (fun hHeld => ?_)
            clear hK K hb
            try simp only [Act.put, List.getElem_toArray, List.getElem_cons_succ, List.getElem_cons_zero, List.setIfInBounds_toArray, List.set_cons_zero, List.set_cons_succ]
            (refine wpAnyH_take (i := 6) (v := ?hv98) rfl (by kernel_rfl) (by kernel_rfl) (by kernel_rfl) (fun _ _ _ h => h) (Or.inl ⟨by kernel_rfl, ?hy98⟩) hHeld ?hr98; case hy98 => (intro w hSw; (try dsimp only at hSw); go_simp; try with_reducible rfl))
            simp only [Act.put, List.getElem_toArray, List.getElem_cons_succ, List.getElem_cons_zero, List.setIfInBounds_toArray, List.set_cons_zero, List.set_cons_succ]
            (refine wpAnyH_take (i := 7) (v := ?hv99) rfl (by kernel_rfl) (by kernel_rfl) (by kernel_rfl) (fun _ _ _ h => h) (Or.inl ⟨by kernel_rfl, ?hy99⟩) hHeld ?hr99; case hy99 => (intro w hSw; (try dsimp only at hSw); have k0 := (hSw.cell (p := ⟨w1.heap.size + 1, 0, none⟩) HX6.out.lt).trans (HX6.out.at_ 0 rfl); have k1 := (hSw.cell (p := ⟨w1.heap.size + 1, 1, none⟩) HX6.out.lt).trans (HX6.out.at_ 1 rfl); clear hSw; go_simp; try with_reducible rfl))
            simp only [Act.put, List.getElem_toArray, List.getElem_cons_succ, List.getElem_cons_zero, List.setIfInBounds_toArray, List.set_cons_zero, List.set_cons_succ]
            (refine wpAnyH_take (i := 8) (v := ?hv100) rfl (by kernel_rfl) (by kernel_rfl) (by kernel_rfl) (fun _ _ _ h => h) (Or.inl ⟨by kernel_rfl, ?hy100⟩) hHeld ?hr100; case hy100 => (intro w hSw; (try dsimp only at hSw); have k0 := (hSw.cell (p := ⟨w4.heap.size, 0, none⟩) HX9.out.lt).trans (HX9.out.at_ 0 rfl); have k1 := (hSw.cell (p := ⟨w4.heap.size, 1, none⟩) HX9.out.lt).trans (HX9.out.at_ 1 rfl); clear hSw; go_simp; try with_reducible rfl))
            simp only [Act.put, List.getElem_toArray, List.getElem_cons_succ, List.getElem_cons_zero, List.setIfInBounds_toArray, List.set_cons_zero, List.set_cons_succ]
            refine wpAnyH_ready (rs := [9]) (by kernel_rfl) (by simp) ?_
            refine AllReadyH.cons rfl (fun K hK => ?_) AllReadyH.nil
            go_simp
            go_at_call 34
            refine (LabC.below_impl x2 y2 x3 y3 _).mono ?_
            rintro e v ⟨rfl, hb⟩
            rw [Pr2.out]
            refine hK.out _ _ (hHeld.trans (hb.mono hHeld.size)) (fun hHeld => ?_)
            clear hK K hb
            try simp only [Act.put, List.getElem_toArray, List.getElem_cons_succ, List.getElem_cons_zero, List.setIfInBounds_toArray, List.set_cons_zero, List.set_cons_succ]
            (refine wpAnyH_take (i := 10) (v := ?hv101) rfl (by kernel_rfl) (by kernel_rfl) (by kernel_rfl) (fun _ _ _ h => h) (Or.inl ⟨by kernel_rfl, ?hy101⟩) hHeld ?hr101; case hy101 => (intro w hSw; (try dsimp only at hSw); go_simp; try with_reducible rfl))
            simp only [Act.put, List.getElem_toArray, List.getElem_cons_succ, List.getElem_cons_zero, List.setIfInBounds_toArray, List.set_cons_zero, List.set_cons_succ]
            (refine wpAnyH_take (i := 11) (v := ?hv102) rfl (by kernel_rfl) (by kernel_rfl) (by kernel_rfl) (fun _ _ _ h => h) (Or.inl ⟨by kernel_rfl, ?hy102⟩) hHeld ?hr102; case hy102 => (intro w hSw; (try dsimp only at hSw); go_simp; try with_reducible rfl))
            simp only [Act.put, List.getElem_toArray, List.getElem_cons_succ, List.getElem_cons_zero, List.setIfInBounds_toArray, List.set_cons_zero, List.set_cons_succ]
            (refine wpAnyH_take (i := 12) (v := ?hv103) rfl (by kernel_rfl) (by kernel_rfl) (by kernel_rfl) (fun _ _ _ h => h) (Or.inl ⟨by kernel_rfl, ?hy103⟩) hHeld ?hr103; case hy103 => (intro w hSw; (try dsimp only at hSw); go_simp; try with_reducible rfl))
            simp only [Act.put, List.getElem_toArray, List.getElem_cons_succ, List.getElem_cons_zero, List.setIfInBounds_toArray, List.set_cons_zero, List.set_cons_succ]
            (refine wpAnyH_take (i := 13) (v := ?hv104) rfl (by kernel_rfl) (by kernel_rfl) (by kernel_rfl) (fun _ _ _ h => h) (Or.inl ⟨by kernel_rfl, ?hy104⟩) hHeld ?hr104; case hy104 => (intro w hSw; (try dsimp only at hSw); have k0 := (hSw.cell (p := ⟨w4.heap.size, 0, none⟩) HX9.out.lt).trans (HX9.out.at_ 0 rfl); have k1 := (hSw.cell (p := ⟨w4.heap.size, 1, none⟩) HX9.out.lt).trans (HX9.out.at_ 1 rfl); clear hSw; go_simp; try with_reducible rfl))
            simp only [Act.put, List.getElem_toArray, List.getElem_cons_succ, List.getElem_cons_zero, List.setIfInBounds_toArray, List.set_cons_zero, List.set_cons_succ]
            (refine wpAnyH_take (i := 14) (v := ?hv105) rfl (by kernel_rfl) (by kernel_rfl) (by kernel_rfl) (fun _ _ _ h => h) (Or.inl ⟨by kernel_rfl, ?hy105⟩) hHeld ?hr105; case hy105 => (intro w hSw; (try dsimp only at hSw); have k0 := (hSw.cell (p := ⟨g8, 0, none⟩) HX8.out.lt).trans (HX8.out.at_ 0 rfl); have k1 := (hSw.cell (p := ⟨g8, 1, none⟩) HX8.out.lt).trans (HX8.out.at_ 1 rfl); clear hSw; go_simp; try with_reducible rfl))
            simp only [Act.put, List.getElem_toArray, List.getElem_cons_succ, List.getElem_cons_zero, List.setIfInBounds_toArray, List.set_cons_zero, List.set_cons_succ]
            (refine wpAnyH_take (i := 16) (v := ?hv106) rfl (by kernel_rfl) (by kernel_rfl) (by kernel_rfl) (fun _ _ _ h => h) (Or.inl ⟨by kernel_rfl, ?hy106⟩) hHeld ?hr106; case hy106 => (intro w hSw; (try dsimp only at hSw); have k0 := (hSw.cell (p := ⟨w4.heap.size, 0, none⟩) HX9.out.lt).trans (HX9.out.at_ 0 rfl); have k1 := (hSw.cell (p := ⟨w4.heap.size, 1, none⟩) HX9.out.lt).trans (HX9.out.at_ 1 rfl); clear hSw; go_simp; try with_reducible rfl))
            simp only [Act.put, List.getElem_toArray, List.getElem_cons_succ, List.getElem_cons_zero, List.setIfInBounds_toArray, List.set_cons_zero, List.set_cons_succ]
            (refine wpAnyH_take (i := 17) (v := ?hv107) rfl (by kernel_rfl) (by kernel_rfl) (by kernel_rfl) (fun _ _ _ h => h) (Or.inl ⟨by kernel_rfl, ?hy107⟩) hHeld ?hr107; case hy107 => (intro w hSw; (try dsimp only at hSw); have k0 := (hSw.cell (p := ⟨w1.heap.size, 0, none⟩) HX5.out.lt).trans (HX5.out.at_ 0 rfl); have k1 := (hSw.cell (p := ⟨w1.heap.size, 1, none⟩) HX5.out.lt).trans (HX5.out.at_ 1 rfl); clear hSw; go_simp; try with_reducible rfl))
            simp only [Act.put, List.getElem_toArray, List.getElem_cons_succ, List.getElem_cons_zero, List.setIfInBounds_toArray, List.set_cons_zero, List.set_cons_succ]
            refine wpAnyH_ready (rs := [15]) (by kernel_rfl) (by simp) ?_
            refine AllReadyH.cons rfl (fun K hK => ?_) AllReadyH.nil
            go_simp
            go_at_call 34
            refine (LabC.below_impl x3 y3 mx my _).mono ?_
            rintro e v ⟨rfl, hb⟩
            rw [L7.out]
            refine hK.out _ _ (hHeld.trans (hb.mono hHeld.size)) (fun hHeld => ?_)
            clear hK K hb
            try simp only [Act.put, List.getElem_toArray, List.getElem_cons_succ, List.getElem_cons_zero, List.setIfInBounds_toArray, List.set_cons_zero, List.set_cons_succ]
            refine wpAnyH_ready (rs := [18]) (by kernel_rfl) (by simp) ?_
            refine AllReadyH.cons rfl (fun K hK => ?_) AllReadyH.nil
            go_simp
            go_at_call 34
            refine (LabC.below_impl x3 y3 x1 y1 _).mono ?_
            rintro e v ⟨rfl, hb⟩
            rw [Pu1.out]
            refine hK.out _ _ (hHeld.trans (hb.mono hHeld.size)) (fun hHeld => ?_)
            clear hK K hb
            try simp only [Act.put, List.getElem_toArray, List.getElem_cons_succ, List.getElem_cons_zero, List.setIfInBounds_toArray, List.set_cons_zero, List.set_cons_succ]
            (refine wpAnyH_take (i := 19) (v := ?hv108) rfl (by kernel_rfl) (by kernel_rfl) (by kernel_rfl) (fun _ _ _ h => h) (Or.inl ⟨by kernel_rfl, ?hy108⟩) hHeld ?hr108; case hy108 => (intro w hSw; (try dsimp only at hSw); go_simp; try with_reducible rfl))
            simp only [Act.put, List.getElem_toArray, List.getElem_cons_succ, List.getElem_cons_zero, List.setIfInBounds_toArray, List.set_cons_zero, List.set_cons_succ]
            (refine wpAnyH_take (i := 20) (v := ?hv109) rfl (by kernel_rfl) (by kernel_rfl) (by kernel_rfl) (fun _ _ _ h => h) (Or.inl ⟨by kernel_rfl, ?hy109⟩) hHeld ?hr109; case hy109 => (intro w hSw; (try dsimp only at hSw); have k0 := (hSw.cell (p := ⟨w4.heap.size, 0, none⟩) HX9.out.lt).trans (HX9.out.at_ 0 rfl); have k1 := (hSw.cell (p := ⟨w4.heap.size, 1, none⟩) HX9.out.lt).trans (HX9.out.at_ 1 rfl); clear hSw; go_simp; try with_reducible rfl))
            simp only [Act.put, List.getElem_toArray, List.getElem_cons_succ, List.getElem_cons_zero, List.setIfInBounds_toArray, List.set_cons_zero, List.set_cons_succ]
            (refine wpAnyH_take (i := 21) (v := ?hv110) rfl (by kernel_rfl) (by kernel_rfl) (by kernel_rfl) (fun _ _ _ h => h) (Or.inl ⟨by kernel_rfl, ?hy110⟩) hHeld ?hr110; case hy110 => (intro w hSw; (try dsimp only at hSw); have k0 := (hSw.cell (p := ⟨w1.heap.size + 1, 0, none⟩) HX6.out.lt).trans (HX6.out.at_ 0 rfl); have k1 := (hSw.cell (p := ⟨w1.heap.size + 1, 1, none⟩) HX6.out.lt).trans (HX6.out.at_ 1 rfl); clear hSw; go_simp; try with_reducible rfl))
            simp only [Act.put, List.getElem_toArray, List.getElem_cons_succ, List.getElem_cons_zero, List.setIfInBounds_toArray, List.set_cons_zero, List.set_cons_succ]
            refine wpAnyH_ready (rs := [22]) (by kernel_rfl) (by simp) ?_
            refine AllReadyH.cons rfl (fun K hK => ?_) AllReadyH.nil
            go_simp
            go_at_call 34
            refine (LabC.below_impl x3 y3 x2 y2 _).mono ?_
            rintro e v ⟨rfl, hb⟩
            rw [Pu2.out]
            refine hK.out _ _ (hHeld.trans (hb.mono hHeld.size)) (fun hHeld => ?_)
            clear hK K hb
            try simp only [Act.put, List.getElem_toArray, List.getElem_cons_succ, List.getElem_cons_zero, List.setIfInBounds_toArray, List.set_cons_zero, List.set_cons_succ]
            (refine wpAnyH_take (i := 23) (v := ?hv111) rfl (by kernel_rfl) (by kernel_rfl) (by kernel_rfl) (fun _ _ _ h => h) (Or.inl ⟨by kernel_rfl, ?hy111⟩) hHeld ?hr111; case hy111 => (intro w hSw; (try dsimp only at hSw); go_simp; try with_reducible rfl))
            simp only [Act.put, List.getElem_toArray, List.getElem_cons_succ, List.getElem_cons_zero, List.setIfInBounds_toArray, List.set_cons_zero, List.set_cons_succ]
            (refine wpAnyH_take (i := 24) (v := ?hv112) rfl (by kernel_rfl) (by kernel_rfl) (by kernel_rfl) (fun _ _ _ h => h) (Or.inl ⟨by kernel_rfl, ?hy112⟩) hHeld ?hr112; case hy112 => (intro w hSw; (try dsimp only at hSw); go_simp; try with_reducible rfl))
            simp only [Act.put, List.getElem_toArray, List.getElem_cons_succ, List.getElem_cons_zero, List.setIfInBounds_toArray, List.set_cons_zero, List.set_cons_succ]
            (refine wpAnyH_take (i := 25) (v := ?hv113) rfl (by kernel_rfl) (by kernel_rfl) (by kernel_rfl) (fun _ _ _ h => h) (Or.inl ⟨by kernel_rfl, ?hy113⟩) hHeld ?hr113; case hy113 => (intro w hSw; (try dsimp only at hSw); go_simp; try with_reducible rfl))
            simp only [Act.put, List.getElem_toArray, List.getElem_cons_succ, List.getElem_cons_zero, List.setIfInBounds_toArray, List.set_cons_zero, List.set_cons_succ]
            (refine wpAnyH_take (i := 26) (v := ?hv114) rfl (by kernel_rfl) (by kernel_rfl) (by kernel_rfl) (fun _ _ _ h => h) (Or.inl ⟨by kernel_rfl, ?hy114⟩) hHeld ?hr114; case hy114 => (intro w hSw; (try dsimp only at hSw); go_simp; try with_reducible rfl))
            simp only [Act.put, List.getElem_toArray, List.getElem_cons_succ, List.getElem_cons_zero, List.setIfInBounds_toArray, List.set_cons_zero, List.set_cons_succ]
            refine wpAnyH_done (by kernel_rfl) ?_ _
            have HF := Lib.hid hHeld
            clear hHeld
            go_wp2
            go_ret
            exact ⟨rfl, HB.out.trans (HF.out.mono HB.out.size)⟩
    · have d1 : decide ((1048576 : Int) < (la : Int)) = false := decide_eq_false (by omega)
      have d2 : decide ((1048576 : Int) < (lm : Int)) = true := decide_eq_true (by omega)
      go_wp2
      go_ret
      exact ⟨rfl, Below.refl _ _⟩
  · have d1 : decide ((1048576 : Int) < (la : Int)) = true := decide_eq_true (by omega)
    go_wp2
    go_ret
    exact ⟨rfl, Below.refl _ _⟩
end Go.Proofs.YtdimpopkkjpddaaDoor.DrawC
