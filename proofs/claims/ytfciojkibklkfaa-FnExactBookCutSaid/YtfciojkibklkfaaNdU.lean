/- BookCut in the model: a contract. -/
import Derived.Test.YtfciojkibklkfaaNdY2
import Derived.Test.YtfciojkibklkfaaNdS2
namespace Go.Proofs.Ytfciojkibklkfaa.RepC
open Go.RowKit RowC ValC SpanC KeptC
set_option linter.unusedVariables false
set_option linter.unusedSimpArgs false

set_option maxRecDepth 100000 in
set_option maxHeartbeats 3200000 in
theorem cut_spec {L : List D_Node} {n frm : Int} {a : Option Addr} {cap : Nat} {W : World} (h : RdSl R_Node W W.heap.size L a cap) :
    Calls Try.prog 38 #[.slice a L.length cap, .int .i64 n, .int .i64 frm] W (NewV R_NodesOut (chgV L n true (cutN frm)) W) := by
  obtain ⟨w0, hw0⟩ : ∃ w, w = W.alloc (.cells #[.slice none 0 0, .int .i64 0] 29) := ⟨_, rfl⟩
  have hb0 : Below W.heap.size W w0 := by rw [hw0]; exact (Below.refl _ _).alloc (Nat.le_refl _) _
  have X0 := Lib.hid (show Blk w0 W.heap.size 29 #[.slice none 0 0, .int .i64 0] from by rw [hw0]; exact Blk.new _ _ _)
  have H0 := Lib.hid (mv_rd R_Node_ok h hb0)
  have HB0 := Lib.hid hb0
  have hnn := nd_len h
  have hz0 := hb0.size
  have hs := nodes_spec H0.out
  obtain ⟨z, hz⟩ : ∃ z, nodesB L = z := ⟨_, rfl⟩
  rw [hz] at hs
  have HZ := Lib.hid hz
  clear h hz hb0
  by_cases h400 : 400 < L.length
  · have HE := Lib.hid (chgV_size (n := n) (ok := true) (chg := cutN frm) h400)
    have hd : decide ((400 : Int) < (L.length : Int)) = true := decide_eq_true (by omega)
    go_enter Try.func38, Try.ntmps38
    go_wp2_with fail
    rw [← hw0]
    clear hw0
    refine (ill_spec 2 _).mono ?_
    rintro e w9 ⟨rfl, hb9⟩
    have X9 := Lib.hid (X0.out.call hb9)
    have HB9 := Lib.hid (HB0.out.trans (hb9.mono HB0.out.size))
    have q0 := X9.out.at_ 0 rfl
    have q1 := X9.out.at_ 1 rfl
    have f0 := X9.out.soft 0
    have f1 := X9.out.soft 1
    clear hb9
    go_wp2
    rw [HE.out]
    refine bodyPost_ret (v := .agg #[.slice none 0 0, .int .i64 2]) (by simp [results, Try.results38, go_sem, *]) rfl (out_ill ?_)
    exact (HB9.out.setCell (p := ⟨W.heap.size, 0, none⟩) (show W.heap.size ≤ W.heap.size by omega) _).setCell (p := ⟨W.heap.size, 1, none⟩) (show W.heap.size ≤ W.heap.size by omega) _
  have hd : decide ((400 : Int) < (L.length : Int)) = false := decide_eq_false (by omega)
  go_enter Try.func38, Try.ntmps38
  go_wp2_with fail
  rw [← hw0]
  clear hw0
  refine hs.mono ?_
  intro e w1 h
  obtain ⟨rfl, hb⟩ := isB_elim h
  have XR := Lib.hid (X0.out.call hb)
  have H1 := Lib.hid (mv_rd R_Node_ok H0.out hb)
  have HB1 := Lib.hid (HB0.out.trans (hb.mono hz0))
  clear h hb hs
  cases z with
  | false =>
    have HE := Lib.hid (chgV_form (n := n) (ok := true) (chg := cutN frm) h400 (by rw [HZ.out]; rfl))
    go_wp2_with fail
    refine (ill_spec 1 _).mono ?_
    rintro e w9 ⟨rfl, hb9⟩
    have X9 := Lib.hid (XR.out.call hb9)
    have HB9 := Lib.hid (HB1.out.trans (hb9.mono HB1.out.size))
    have q0 := X9.out.at_ 0 rfl
    have q1 := X9.out.at_ 1 rfl
    have f0 := X9.out.soft 0
    have f1 := X9.out.soft 1
    clear hb9
    go_wp2
    rw [HE.out]
    refine bodyPost_ret (v := .agg #[.slice none 0 0, .int .i64 1]) (by simp [results, Try.results38, go_sem, *]) rfl (out_ill ?_)
    exact (HB9.out.setCell (p := ⟨W.heap.size, 0, none⟩) (show W.heap.size ≤ W.heap.size by omega) _).setCell (p := ⟨W.heap.size, 1, none⟩) (show W.heap.size ≤ W.heap.size by omega) _
  | true =>
  have HZO := Lib.hid (show (nodesB L && true) = true from by rw [HZ.out]; rfl)
  have hN := nodesB_iff.1 HZ.out
  have hsm := nodesR_small hN
  have hL1 := hN.1.1
  have hL6 := hN.1.2
  have HN := Lib.hid hN
  clear hN
  obtain ⟨y, hy⟩ : ∃ y, isB n 0 ((L.length : Int) - 1) = y := ⟨_, rfl⟩
  have hi := fun W => place_spec (L := L) a cap n W hsm.1
  rw [hy] at hi
  have HY := Lib.hid hy
  clear hy
  cases y with
  | false =>
    have HE := Lib.hid (chgV_none (chg := cutN frm) h400 HZO.out HY.out)
    go_wp2_with (first | (go_at_call 58; refine (hi _).mono ?_; rintro e w' ⟨rfl, rfl⟩) | fail)
    refine (ill_spec 6 _).mono ?_
    rintro e w9 ⟨rfl, hb9⟩
    have X9 := Lib.hid (XR.out.call hb9)
    have HB9 := Lib.hid (HB1.out.trans (hb9.mono HB1.out.size))
    have q0 := X9.out.at_ 0 rfl
    have q1 := X9.out.at_ 1 rfl
    have f0 := X9.out.soft 0
    have f1 := X9.out.soft 1
    clear hb9
    go_wp2
    rw [HE.out]
    refine bodyPost_ret (v := .agg #[.slice none 0 0, .int .i64 6]) (by simp [results, Try.results38, go_sem, *]) rfl (out_ill ?_)
    exact (HB9.out.setCell (p := ⟨W.heap.size, 0, none⟩) (show W.heap.size ≤ W.heap.size by omega) _).setCell (p := ⟨W.heap.size, 1, none⟩) (show W.heap.size ≤ W.heap.size by omega) _
  | true =>
    have hnb := (isB_iff _ _ _).1 HY.out
    obtain ⟨m, rfl⟩ : ∃ m : Nat, n = m := ⟨n.toNat, by omega⟩
    have hm : m < L.length := by omega
    obtain ⟨x, hx⟩ := el_some hm
    have hok := nodesR_at HN.out hx
    obtain ⟨gl, o, us, rfl, hg, hu, hr⟩ := H1.out.at_ hx
    obtain ⟨s, M⟩ := x
    obtain ⟨ba, bc, rfl, hM⟩ := rd_Node hr
    have e1 : w1.cell? ⟨gl, o + m * 2 + 1, none⟩ = some (.slice ba M.length bc) := by simpa [size_NodeS, Nat.add_assoc] using hu 1 _ rfl
    have HCV := Lib.hid (chgV_at (chg := cutN frm) h400 HZO.out hx)
    have hml : M.length ≤ 4 := hok.2.1
    have HX := Lib.hid hx
    have HM := Lib.hid hM
    have HE1 := Lib.hid e1
    have HG := Lib.hid hg
    have hi0 : (0 : Int) ≤ (m : Int) := Int.natCast_nonneg _
    have hi1 : (m : Int) < (L.length : Int) := by omega
    clear hx hnb hu hr hM hok e1 hg
    go_wp2_with (first | (go_at_call 58; refine (hi _).mono ?_; rintro e w' ⟨rfl, rfl⟩) | fail)
    refine (copy_nodes hsm.1 hsm.2 H1.out).mono ?_
    intro e w2 h
    obtain ⟨a', c', rfl, ho, hb⟩ := newS_elim h
    obtain ⟨g, Sf, rfl, hrow⟩ := ho.row (by omega)
    have hc1 := ho.1
    have hc2 := ho.2.1
    have HR := Lib.hid hrow
    have HB2 := Lib.hid hb
    have hz2 := hb.size
    have hlt1 := XR.out.lt
    obtain ⟨w3, hw3⟩ : ∃ w, w = w2.alloc (.cells #[] 25) := ⟨_, rfl⟩
    have HL3 := Lib.hid (show XRow w3 w2.heap.size (.slice (some ⟨w2.heap.size, 0, none⟩) 0 0) ((M.take 0).filter fun s => !decide (s.1 = frm)) from by rw [hw3]; exact FRow.made _ _ _ _)
    have HB3 := Lib.hid (show Below w2.heap.size w2 w3 from by rw [hw3]; exact (Below.refl _ _).alloc (Nat.le_refl _) _)
    clear h ho hb hrow hi
    go_wp2
    rw [← hw3]
    clear hw3
    go_loopw [9, 8] (fun i v wq => ∃ j : Nat, j ≤ M.length ∧ i = .int .i64 j ∧ Hid (XRow wq w2.heap.size v ((M.take j).filter fun s => !decide (s.1 = frm))) ∧ Hid (Below w2.heap.size w2 wq)) (fun i _ _ => M.length - (intOf i).toNat)
    case atStart => exact ⟨0, Nat.zero_le _, rfl, HL3, HB3⟩
    case round =>
      obtain ⟨j, hj, rfl, HV, HQ⟩ := hrel
      rename World => wq
      have hBW : Below w1.heap.size w1 wq := HB2.out.trans (HQ.out.mono hz2)
      have hgw : gl < wq.heap.size := Nat.lt_of_lt_of_le HG.out hBW.size
      have e1 : wq.cell? ⟨gl, o + m * 2 + 1, none⟩ = some (.slice ba M.length bc) := (hBW.cell (p := ⟨gl, o + m * 2 + 1, none⟩) HG.out).trans HE1.out
      obtain ⟨va, vc, rfl⟩ := HV.out.isSlice
      have hvl : ((M.take j).filter fun s => !decide (s.1 = frm)).length ≤ j := Nat.le_trans (List.length_filter_le _ _) (by rw [List.length_take]; omega)
      have hqz := HQ.out.size
      by_cases hjl : j < M.length
      · obtain ⟨y, hy⟩ := el_some hjl
        obtain ⟨gb, ob, us, rfl, hgb, hu, hr⟩ := HM.out.at_ hy
        obtain ⟨y0, y1⟩ := y
        obtain rfl := rd_Span hr
        have c0 : wq.cell? ⟨gb, ob + j * 2, none⟩ = some (.int .i64 y0) := (hBW.cell (p := ⟨gb, ob + j * 2, none⟩) hgb).trans (by simpa [size_SpanS] using hu 0 _ rfl)
        have c1 : wq.cell? ⟨gb, ob + j * 2 + 1, none⟩ = some (.int .i64 y1) := (hBW.cell (p := ⟨gb, ob + j * 2 + 1, none⟩) hgb).trans (by simpa [size_SpanS, Nat.add_assoc] using hu 1 _ rfl)
        have hj0 : (0 : Int) ≤ (j : Int) := Int.natCast_nonneg _
        have hj1 : (j : Int) < (M.length : Int) := by omega
        by_cases hne : y0 = frm
        · have hd : (y0 != frm) = false := by simp [hne]
          have HF := Lib.hid (filt_no (q := fun s => !decide (s.1 = frm)) hy (by simp [hne]))
          clear hBW hy hu hr hne
          go_wp2
          go_roundw
          case rel => exact ⟨j + 1, by omega, by go_num, Lib.hid (by rw [HF.out]; exact HV.out), HQ⟩
          case measure => simp [intOf]; omega
        · have hd : (y0 != frm) = true := by simp [hne]
          have HF := Lib.hid (filt_yes (q := fun s => !decide (s.1 = frm)) hy (by simp [hne]))
          obtain ⟨w5, hw5⟩ : ∃ w, w = wq.alloc (.cells #[.int .i64 y0, .int .i64 y1] 25) := ⟨_, rfl⟩
          have hb5 : Below wq.heap.size wq w5 := by rw [hw5]; exact (Below.refl _ _).alloc (Nat.le_refl _) _
          have X5 : Blk w5 wq.heap.size 25 #[.int .i64 y0, .int .i64 y1] := by rw [hw5]; exact Blk.new _ _ _
          have hz5 := hb5.size
          obtain ⟨a6, c6, w6, hrun, hrow, hb6⟩ := XRow.more (HV.out.call hb5) (rd_oneS y0 y1 X5) (show w2.heap.size ≤ w5.heap.size by omega) (by simp only [List.length_singleton]; omega)
          have HRun := Lib.hid hrun
          rw [hw5] at HRun
          have HV6 := Lib.hid hrow
          have HQ6 := Lib.hid ((HQ.out.trans (hb5.mono hqz)).trans hb6)
          clear hrun hrow hb5 hb6 X5 hw5 hBW hy hu hr hne
          go_wp2_with (at_builtin; refine wpList_app rfl (.tmp 47) (.tmp 56) 39 rfl rfl rfl HRun.out ?_)
          go_roundw
          case rel => exact ⟨j + 1, by omega, by go_num, Lib.hid (by rw [HF.out]; simpa using HV6.out), HQ6⟩
          case measure => simp [intOf]; omega
      · have hdj : decide ((j : Int) < (M.length : Int)) = false := decide_eq_false (by omega)
        obtain rfl : j = M.length := by omega
        obtain ⟨N, hNN⟩ : ∃ N, M.filter (fun s => !decide (s.1 = frm)) = N := ⟨_, rfl⟩
        have HVM := HV.out
        rw [List.take_length, hNN] at HVM
        have HVN := Lib.hid (show XRow wq w2.heap.size (.slice va N.length vc) N from HVM)
        have hcu : cutN frm (s, M) = if N.length = M.length then (6, (s, M)) else (0, (s, N)) := by unfold cutN; rw [hNN]
        have hfl : (List.filter (fun s => !decide (s.1 = frm)) (List.take M.length M)).length = N.length := by rw [List.take_length, hNN]
        have hfl2 : (List.filter (fun s => !decide (s.1 = frm)) M).length = N.length := by rw [hNN]
        have XQ := Lib.hid (XR.out.call hBW)
        have HBQ := Lib.hid (HB1.out.trans (hBW.mono HB1.out.size))
        have hBWz := hBW.size
        clear hBW HVM hNN
        by_cases hNM : N.length = M.length
        · have HE := Lib.hid (show chgV L m true (cutN frm) = ([], 6) from by rw [HCV.out, hcu, if_pos hNM, if_neg (show ¬ (6 : Int) = 0 by decide)])
          have hq : ((N.length : Int) == (M.length : Int)) = true := beq_iff_eq.2 (by omega)
          clear hcu hNM
          go_wp2_with fail
          refine (ill_spec 6 _).mono ?_
          rintro e w9 ⟨rfl, hb9⟩
          have X9 := Lib.hid (XQ.out.call hb9)
          have HB9 := Lib.hid (HBQ.out.trans (hb9.mono HBQ.out.size))
          have q0 := X9.out.at_ 0 rfl
          have q1 := X9.out.at_ 1 rfl
          have f0 := X9.out.soft 0
          have f1 := X9.out.soft 1
          clear hb9
          go_wp2
          rw [HE.out]
          refine bodyPost_ret (v := .agg #[.slice none 0 0, .int .i64 6]) (by simp [results, Try.results38, go_sem, *]) rfl (out_ill ?_)
          exact (HB9.out.setCell (p := ⟨W.heap.size, 0, none⟩) (show W.heap.size ≤ W.heap.size by omega) _).setCell (p := ⟨W.heap.size, 1, none⟩) (show W.heap.size ≤ W.heap.size by omega) _
        · have HVV := Lib.hid (show chgV L m true (cutN frm) = (L.set m (s, N), 0) from by rw [HCV.out, hcu, if_neg hNM, if_pos rfl])
          have hq : ((N.length : Int) == (M.length : Int)) = false := beq_eq_false_iff_ne.2 (by omega)
          obtain ⟨RR, hRR⟩ : ∃ R, L.set m (s, N) = R := ⟨_, rfl⟩
          have HRL := Lib.hid (show RR.length = L.length from by rw [← hRR, List.length_set])
          rw [hRR] at HVV
          have HV := HVV
          obtain ⟨S', Sf2, hrow, hS', hW', ⟨u, d1⟩, f1⟩ := Row.books (W := w1) HR.out (fun q hq => hq) HX.out HQ.out HVN.out HB2.out
          rw [hRR] at hrow
          have hgw2 : w1.heap.size ≤ g := HR.out.own.1
          have hx6 : Blk (wq.setCell ⟨g, m * 2 + 1, none⟩ (.slice va N.length vc)) W.heap.size 29 #[.slice none 0 0, .int .i64 0] := XQ.out.far (by omega) _
          have hb6 : Below W.heap.size W (wq.setCell ⟨g, m * 2 + 1, none⟩ (.slice va N.length vc)) := HBQ.out.setCell (p := ⟨g, m * 2 + 1, none⟩) (show W.heap.size ≤ g by omega) _
          have hs6 : ∀ q, S' q → W.heap.size < q ∧ q < (wq.setCell ⟨g, m * 2 + 1, none⟩ (.slice va N.length vc)).heap.size := fun q hq => by have := hS' q hq; omega
          clear hS' hW' hRR hcu hNM
          have X6 := Lib.hid hx6
          have HB6 := Lib.hid hb6
          have HROW := Lib.hid hrow
          have HS6 := Lib.hid hs6
          have q0 := X6.out.at_ 0 rfl
          have q1 := X6.out.at_ 1 rfl
          have f0 := X6.out.soft 0
          have f1 := X6.out.soft 1
          clear hx6 hb6 hrow hs6
          go_wp2
          rw [HV.out]
          refine bodyPost_ret (v := .agg #[.slice (some ⟨g, 0, none⟩) L.length c', .int .i64 0]) (by simp [results, Try.results38, go_sem, *]) rfl ⟨[.slice (some ⟨g, 0, none⟩) RR.length c', .int .i64 0], by rw [HRL.out], ?_, (HB6.out.setCell (p := ⟨W.heap.size, 0, none⟩) (show W.heap.size ≤ W.heap.size by omega) _).setCell (p := ⟨W.heap.size, 1, none⟩) (show W.heap.size ≤ W.heap.size by omega) _⟩
          refine mkow_NodesOut (T0 := S') (fun q hq => ⟨?_, ?_⟩) ((HROW.out.slice (by rw [HRL.out]; exact hc1) hc2).keep R_Node_ok fun q hq => ?_)
          · have := (HS6.out q hq).1
            omega
          · have := (HS6.out q hq).2
            simpa using this
          · have h9 := (HS6.out q hq).1
            rw [Below.heap_setCell _ ⟨W.heap.size, 1, none⟩ _ q (show q ≠ W.heap.size by omega), Below.heap_setCell _ ⟨W.heap.size, 0, none⟩ _ q (show q ≠ W.heap.size by omega)]
end Go.Proofs.Ytfciojkibklkfaa.RepC
