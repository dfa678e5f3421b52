/- Of this claim's texts the part 6: DnY DnU DnD DnE DnF DnG. -/
import Derived.Deep.QuietTactic
import Derived.BigQuiet
import Derived.Test.YtphklknaagjmpaaDoorPk5
section
namespace Go.Proofs.YtphklknaagjmpaaDoor.RepC
open Go.RowKit RowC ValC SpanC KeptC
set_option linter.unusedVariables false
set_option linter.unusedSimpArgs false
set_option maxRecDepth 100000 in
set_option maxHeartbeats 2000000 in
theorem letdown_rows {P B A : List D_Letter} {pa ba aa : Option Addr} {pc bc ac : Nat} {u n : Int} {f0 f1 t0 t1 z : Int} {W : World} (hlen : P.length ≤ 1048576 ∧ B.length ≤ 1048576 ∧ A.length ≤ 1048576) (hP : RdSl R_Letter W W.heap.size P pa pc) (hB : RdSl R_Letter W W.heap.size B ba bc) (hA : RdSl R_Letter W W.heap.size A aa ac) : Calls Tryd.prog 10 #[.agg #[.slice pa P.length pc, .slice ba B.length bc, .slice aa A.length ac, .int .i64 u, .int .i64 n], .agg #[.int .i64 f0, .int .i64 f1], .agg #[.int .i64 t0, .int .i64 t1], .int .i64 z] W (NewR (letG (P, B, A, u, n) (f0, f1) (t0, t1) z) W) := by
  obtain ⟨hb0, hd0, hf0, ht0, hr0⟩ := bx4 W #[.slice pa P.length pc, .slice ba B.length bc, .slice aa A.length ac, .int .i64 u, .int .i64 n] #[.int .i64 f0, .int .i64 f1] #[.int .i64 t0, .int .i64 t1] #[.slice none 0 0, .slice none 0 0, .slice none 0 0, .int .i64 0, .int .i64 0, .int .i64 0] 25 27 27 31
  obtain ⟨w0, hw0⟩ : ∃ w, w = (((W.alloc (.cells #[.slice pa P.length pc, .slice ba B.length bc, .slice aa A.length ac, .int .i64 u, .int .i64 n] 25)).alloc (.cells #[.int .i64 f0, .int .i64 f1] 27)).alloc (.cells #[.int .i64 t0, .int .i64 t1] 27)).alloc (.cells #[.slice none 0 0, .slice none 0 0, .slice none 0 0, .int .i64 0, .int .i64 0, .int .i64 0] 31) := ⟨_, rfl⟩
  rw [← hw0] at hb0 hd0 hf0 ht0 hr0
  have HB := Lib.hid hb0
  have HR := Lib.hid hr0
  have HD := Lib.hid hd0
  have HF1 := Lib.hid hf0
  have HT1 := Lib.hid ht0
  have HPw := Lib.hid (gmvS hP hb0)
  have HBw := Lib.hid (gmvS hB hb0)
  have HAw := Lib.hid (gmvS hA hb0)
  have hz0 := hb0.size
  clear hb0 hd0 hf0 ht0 hr0 hP hB hA
  obtain ⟨q1, Q1⟩ := nameB (DeskR P B A u n)
  obtain ⟨q2, Q2⟩ : ∃ b, Hid (isB z 0 1000000 = b) := ⟨_, Lib.hid rfl⟩
  obtain ⟨q3, Q3⟩ := nameB (HasCh P (f0, f1) (t0, t1))
  go_enter Tryd.func10, Tryd.ntmps10
  go_wp2_with fail
  rw [← hw0]
  clear hw0
  refine ((box_spec HPw.out HBw.out HAw.out).mono (fun _ _ => resB_at Q1.out)).mono ?_
  rintro e w1 ⟨rfl, hb⟩
  have HB1 := Lib.hid (HB.out.trans (hb.mono hz0))
  have hz1 := HB1.out.size
  have HR := Lib.hid (HR.out.call hb)
  have HD := Lib.hid (HD.out.call hb)
  have HF1 := Lib.hid (HF1.out.call hb)
  have HT1 := Lib.hid (HT1.out.call hb)
  replace HPw := Lib.hid (gmvS HPw.out hb)
  replace HBw := Lib.hid (gmvS HBw.out hb)
  replace HAw := Lib.hid (gmvS HAw.out hb)
  have d1_0 := HD.out.at_ 0 rfl
  have d1_1 := HD.out.at_ 1 rfl
  have d1_2 := HD.out.at_ 2 rfl
  have d1_3 := HD.out.at_ 3 rfl
  have d1_4 := HD.out.at_ 4 rfl
  have x1_0 := HF1.out.at_ 0 rfl
  have x1_1 := HF1.out.at_ 1 rfl
  have y1_0 := HT1.out.at_ 0 rfl
  have y1_1 := HT1.out.at_ 1 rfl
  have r1_0 := HR.out.at_ 0 rfl
  have r1_1 := HR.out.at_ 1 rfl
  have r1_2 := HR.out.at_ 2 rfl
  have r1_3 := HR.out.at_ 3 rfl
  have r1_4 := HR.out.at_ 4 rfl
  have r1_5 := HR.out.at_ 5 rfl
  have f1_0 := HR.out.soft 0
  have f1_1 := HR.out.soft 1
  have f1_2 := HR.out.soft 2
  have f1_3 := HR.out.soft 3
  have f1_4 := HR.out.soft 4
  have f1_5 := HR.out.soft 5
  clear hb
  cases q1 with
  | false =>
    have HG := Lib.hid (show letG (P, B, A, u, n) (f0, f1) (t0, t1) z = (zeroD, 1) from letG_no (fun h => by have := Q1.out.2 (boxB_iff.1 h.1); cases this))
    go_wp2
    refine bodyPost_ret (v := .agg #[.slice none 0 0, .slice none 0 0, .slice none 0 0, .int .i64 0, .int .i64 0, .int .i64 1]) (by simp [results, Tryd.results10, go_sem, *]) rfl ?_
    rw [HG.out]
    exact ⟨_, rfl, step_rows 1, ((((((HB1.out.setCell (p := ⟨W.heap.size + 1 + 1 + 1, 0, none⟩) (by show W.heap.size ≤ W.heap.size + 1 + 1 + 1; omega) (.slice none 0 0)).setCell (p := ⟨W.heap.size + 1 + 1 + 1, 1, none⟩) (by show W.heap.size ≤ W.heap.size + 1 + 1 + 1; omega) (.slice none 0 0)).setCell (p := ⟨W.heap.size + 1 + 1 + 1, 2, none⟩) (by show W.heap.size ≤ W.heap.size + 1 + 1 + 1; omega) (.slice none 0 0)).setCell (p := ⟨W.heap.size + 1 + 1 + 1, 3, none⟩) (by show W.heap.size ≤ W.heap.size + 1 + 1 + 1; omega) (.int .i64 0)).setCell (p := ⟨W.heap.size + 1 + 1 + 1, 4, none⟩) (by show W.heap.size ≤ W.heap.size + 1 + 1 + 1; omega) (.int .i64 0)).setCell (p := ⟨W.heap.size + 1 + 1 + 1, 5, none⟩) (by show W.heap.size ≤ W.heap.size + 1 + 1 + 1; omega) (.int .i64 1))⟩
  | true =>
    go_wp2_with fail
    refine (is_at z 0 1000000 Q2.out _).mono ?_
    rintro e w2 ⟨rfl, hb⟩
    have HB2 := Lib.hid (HB1.out.trans (hb.mono hz1))
    have hz2 := HB2.out.size
    have HR := Lib.hid (HR.out.call hb)
    have HD := Lib.hid (HD.out.call hb)
    have HF1 := Lib.hid (HF1.out.call hb)
    have HT1 := Lib.hid (HT1.out.call hb)
    replace HPw := Lib.hid (gmvS HPw.out hb)
    replace HBw := Lib.hid (gmvS HBw.out hb)
    replace HAw := Lib.hid (gmvS HAw.out hb)
    have d2_0 := HD.out.at_ 0 rfl
    have d2_1 := HD.out.at_ 1 rfl
    have d2_2 := HD.out.at_ 2 rfl
    have d2_3 := HD.out.at_ 3 rfl
    have d2_4 := HD.out.at_ 4 rfl
    have x2_0 := HF1.out.at_ 0 rfl
    have x2_1 := HF1.out.at_ 1 rfl
    have y2_0 := HT1.out.at_ 0 rfl
    have y2_1 := HT1.out.at_ 1 rfl
    have r2_0 := HR.out.at_ 0 rfl
    have r2_1 := HR.out.at_ 1 rfl
    have r2_2 := HR.out.at_ 2 rfl
    have r2_3 := HR.out.at_ 3 rfl
    have r2_4 := HR.out.at_ 4 rfl
    have r2_5 := HR.out.at_ 5 rfl
    have f2_0 := HR.out.soft 0
    have f2_1 := HR.out.soft 1
    have f2_2 := HR.out.soft 2
    have f2_3 := HR.out.soft 3
    have f2_4 := HR.out.soft 4
    have f2_5 := HR.out.soft 5
    clear hb
    cases q2 with
    | false =>
      have HG := Lib.hid (show letG (P, B, A, u, n) (f0, f1) (t0, t1) z = (zeroD, 1) from letG_no (fun h => by have h2 := h.2; rw [Q2.out] at h2; cases h2))
      go_wp2
      refine bodyPost_ret (v := .agg #[.slice none 0 0, .slice none 0 0, .slice none 0 0, .int .i64 0, .int .i64 0, .int .i64 1]) (by simp [results, Tryd.results10, go_sem, *]) rfl ?_
      rw [HG.out]
      exact ⟨_, rfl, step_rows 1, ((((((HB2.out.setCell (p := ⟨W.heap.size + 1 + 1 + 1, 0, none⟩) (by show W.heap.size ≤ W.heap.size + 1 + 1 + 1; omega) (.slice none 0 0)).setCell (p := ⟨W.heap.size + 1 + 1 + 1, 1, none⟩) (by show W.heap.size ≤ W.heap.size + 1 + 1 + 1; omega) (.slice none 0 0)).setCell (p := ⟨W.heap.size + 1 + 1 + 1, 2, none⟩) (by show W.heap.size ≤ W.heap.size + 1 + 1 + 1; omega) (.slice none 0 0)).setCell (p := ⟨W.heap.size + 1 + 1 + 1, 3, none⟩) (by show W.heap.size ≤ W.heap.size + 1 + 1 + 1; omega) (.int .i64 0)).setCell (p := ⟨W.heap.size + 1 + 1 + 1, 4, none⟩) (by show W.heap.size ≤ W.heap.size + 1 + 1 + 1; omega) (.int .i64 0)).setCell (p := ⟨W.heap.size + 1 + 1 + 1, 5, none⟩) (by show W.heap.size ≤ W.heap.size + 1 + 1 + 1; omega) (.int .i64 1))⟩
    | true =>
      have HY := Lib.hid (Q1.out.1 (by first | rfl | trivial))
      have hYP : boxB (P, B, A, u, n) = true ∧ isB z 0 1000000 = true := ⟨boxB_iff.2 HY.out, Q2.out⟩
      have HYP := Lib.hid hYP
      clear hYP
      have hB6 : B.length ≤ 6 := by have := HY.out.2.2.1.1; omega
      have hA20 : A.length ≤ 20 := by have := HY.out.2.2.2.1.1; omega
      have hur := HY.out.2.2.2.2.1
      simp only [isB, Bool.and_eq_true, decide_eq_true_iff] at hur
      go_wp2_with fail
      refine (pair_at HPw.out Q3.out).mono ?_
      rintro e w3 ⟨rfl, hb⟩
      have HB3 := Lib.hid (HB2.out.trans (hb.mono hz2))
      have hz3 := HB3.out.size
      have HR := Lib.hid (HR.out.call hb)
      have HD := Lib.hid (HD.out.call hb)
      have HF1 := Lib.hid (HF1.out.call hb)
      have HT1 := Lib.hid (HT1.out.call hb)
      replace HPw := Lib.hid (gmvS HPw.out hb)
      replace HBw := Lib.hid (gmvS HBw.out hb)
      replace HAw := Lib.hid (gmvS HAw.out hb)
      have d3_0 := HD.out.at_ 0 rfl
      have d3_1 := HD.out.at_ 1 rfl
      have d3_2 := HD.out.at_ 2 rfl
      have d3_3 := HD.out.at_ 3 rfl
      have d3_4 := HD.out.at_ 4 rfl
      have x3_0 := HF1.out.at_ 0 rfl
      have x3_1 := HF1.out.at_ 1 rfl
      have y3_0 := HT1.out.at_ 0 rfl
      have y3_1 := HT1.out.at_ 1 rfl
      have r3_0 := HR.out.at_ 0 rfl
      have r3_1 := HR.out.at_ 1 rfl
      have r3_2 := HR.out.at_ 2 rfl
      have r3_3 := HR.out.at_ 3 rfl
      have r3_4 := HR.out.at_ 4 rfl
      have r3_5 := HR.out.at_ 5 rfl
      have f3_0 := HR.out.soft 0
      have f3_1 := HR.out.soft 1
      have f3_2 := HR.out.soft 2
      have f3_3 := HR.out.soft 3
      have f3_4 := HR.out.soft 4
      have f3_5 := HR.out.soft 5
      clear hb
      cases q3 with
      | false =>
        have HG := Lib.hid (show letG (P, B, A, u, n) (f0, f1) (t0, t1) z = (zeroD, 11) from letG_label HYP.out (fun h => by have := Q3.out.2 h; cases this))
        go_wp2
        refine bodyPost_ret (v := .agg #[.slice none 0 0, .slice none 0 0, .slice none 0 0, .int .i64 0, .int .i64 0, .int .i64 11]) (by simp [results, Tryd.results10, go_sem, *]) rfl ?_
        rw [HG.out]
        exact ⟨_, rfl, step_rows 11, ((((((HB3.out.setCell (p := ⟨W.heap.size + 1 + 1 + 1, 0, none⟩) (by show W.heap.size ≤ W.heap.size + 1 + 1 + 1; omega) (.slice none 0 0)).setCell (p := ⟨W.heap.size + 1 + 1 + 1, 1, none⟩) (by show W.heap.size ≤ W.heap.size + 1 + 1 + 1; omega) (.slice none 0 0)).setCell (p := ⟨W.heap.size + 1 + 1 + 1, 2, none⟩) (by show W.heap.size ≤ W.heap.size + 1 + 1 + 1; omega) (.slice none 0 0)).setCell (p := ⟨W.heap.size + 1 + 1 + 1, 3, none⟩) (by show W.heap.size ≤ W.heap.size + 1 + 1 + 1; omega) (.int .i64 0)).setCell (p := ⟨W.heap.size + 1 + 1 + 1, 4, none⟩) (by show W.heap.size ≤ W.heap.size + 1 + 1 + 1; omega) (.int .i64 0)).setCell (p := ⟨W.heap.size + 1 + 1 + 1, 5, none⟩) (by show W.heap.size ≤ W.heap.size + 1 + 1 + 1; omega) (.int .i64 11))⟩
      | true =>
        have HC := Lib.hid (Q3.out.1 (by first | rfl | trivial))
        by_cases hu : u = 2
        · have hbe : decide (u ≥ 2) = true := decide_eq_true (by omega)
          have HU := Lib.hid hu
          clear hu
          have HG := Lib.hid (show letG (P, B, A, u, n) (f0, f1) (t0, t1) z = (zeroD, 8) from letG_range HYP.out HC.out HU.out)
          go_wp2
          refine bodyPost_ret (v := .agg #[.slice none 0 0, .slice none 0 0, .slice none 0 0, .int .i64 0, .int .i64 0, .int .i64 8]) (by simp [results, Tryd.results10, go_sem, *]) rfl ?_
          rw [HG.out]
          exact ⟨_, rfl, step_rows 8, ((((((HB3.out.setCell (p := ⟨W.heap.size + 1 + 1 + 1, 0, none⟩) (by show W.heap.size ≤ W.heap.size + 1 + 1 + 1; omega) (.slice none 0 0)).setCell (p := ⟨W.heap.size + 1 + 1 + 1, 1, none⟩) (by show W.heap.size ≤ W.heap.size + 1 + 1 + 1; omega) (.slice none 0 0)).setCell (p := ⟨W.heap.size + 1 + 1 + 1, 2, none⟩) (by show W.heap.size ≤ W.heap.size + 1 + 1 + 1; omega) (.slice none 0 0)).setCell (p := ⟨W.heap.size + 1 + 1 + 1, 3, none⟩) (by show W.heap.size ≤ W.heap.size + 1 + 1 + 1; omega) (.int .i64 0)).setCell (p := ⟨W.heap.size + 1 + 1 + 1, 4, none⟩) (by show W.heap.size ≤ W.heap.size + 1 + 1 + 1; omega) (.int .i64 0)).setCell (p := ⟨W.heap.size + 1 + 1 + 1, 5, none⟩) (by show W.heap.size ≤ W.heap.size + 1 + 1 + 1; omega) (.int .i64 8))⟩
        have hbe : decide (u ≥ 2) = false := decide_eq_false (by omega)
        have HU := Lib.hid hu
        clear hu
        by_cases h6 : B.length = 6
        · have hb6 : decide ((B.length : Int) ≥ 6) = true := decide_eq_true (by omega)
          have H6 := Lib.hid h6
          clear h6
          have HG := Lib.hid (show letG (P, B, A, u, n) (f0, f1) (t0, t1) z = (zeroD, 9) from letG_full HYP.out HC.out HU.out (.inl H6.out))
          go_wp2
          refine bodyPost_ret (v := .agg #[.slice none 0 0, .slice none 0 0, .slice none 0 0, .int .i64 0, .int .i64 0, .int .i64 9]) (by simp [results, Tryd.results10, go_sem, *]) rfl ?_
          rw [HG.out]
          exact ⟨_, rfl, step_rows 9, ((((((HB3.out.setCell (p := ⟨W.heap.size + 1 + 1 + 1, 0, none⟩) (by show W.heap.size ≤ W.heap.size + 1 + 1 + 1; omega) (.slice none 0 0)).setCell (p := ⟨W.heap.size + 1 + 1 + 1, 1, none⟩) (by show W.heap.size ≤ W.heap.size + 1 + 1 + 1; omega) (.slice none 0 0)).setCell (p := ⟨W.heap.size + 1 + 1 + 1, 2, none⟩) (by show W.heap.size ≤ W.heap.size + 1 + 1 + 1; omega) (.slice none 0 0)).setCell (p := ⟨W.heap.size + 1 + 1 + 1, 3, none⟩) (by show W.heap.size ≤ W.heap.size + 1 + 1 + 1; omega) (.int .i64 0)).setCell (p := ⟨W.heap.size + 1 + 1 + 1, 4, none⟩) (by show W.heap.size ≤ W.heap.size + 1 + 1 + 1; omega) (.int .i64 0)).setCell (p := ⟨W.heap.size + 1 + 1 + 1, 5, none⟩) (by show W.heap.size ≤ W.heap.size + 1 + 1 + 1; omega) (.int .i64 9))⟩
        have hb6 : decide ((B.length : Int) ≥ 6) = false := decide_eq_false (by omega)
        by_cases h20 : A.length = 20
        · have hb20 : decide ((A.length : Int) ≥ 20) = true := decide_eq_true (by omega)
          have H20 := Lib.hid h20
          clear h20
          have HG := Lib.hid (show letG (P, B, A, u, n) (f0, f1) (t0, t1) z = (zeroD, 9) from letG_full HYP.out HC.out HU.out (.inr H20.out))
          go_wp2
          refine bodyPost_ret (v := .agg #[.slice none 0 0, .slice none 0 0, .slice none 0 0, .int .i64 0, .int .i64 0, .int .i64 9]) (by simp [results, Tryd.results10, go_sem, *]) rfl ?_
          rw [HG.out]
          exact ⟨_, rfl, step_rows 9, ((((((HB3.out.setCell (p := ⟨W.heap.size + 1 + 1 + 1, 0, none⟩) (by show W.heap.size ≤ W.heap.size + 1 + 1 + 1; omega) (.slice none 0 0)).setCell (p := ⟨W.heap.size + 1 + 1 + 1, 1, none⟩) (by show W.heap.size ≤ W.heap.size + 1 + 1 + 1; omega) (.slice none 0 0)).setCell (p := ⟨W.heap.size + 1 + 1 + 1, 2, none⟩) (by show W.heap.size ≤ W.heap.size + 1 + 1 + 1; omega) (.slice none 0 0)).setCell (p := ⟨W.heap.size + 1 + 1 + 1, 3, none⟩) (by show W.heap.size ≤ W.heap.size + 1 + 1 + 1; omega) (.int .i64 0)).setCell (p := ⟨W.heap.size + 1 + 1 + 1, 4, none⟩) (by show W.heap.size ≤ W.heap.size + 1 + 1 + 1; omega) (.int .i64 0)).setCell (p := ⟨W.heap.size + 1 + 1 + 1, 5, none⟩) (by show W.heap.size ≤ W.heap.size + 1 + 1 + 1; omega) (.int .i64 9))⟩
        have hb20 : decide ((A.length : Int) ≥ 20) = false := decide_eq_false (by omega)
        have HG := Lib.hid (show letG (P, B, A, u, n) (f0, f1) (t0, t1) z = ((P, B ++ [((f0, f1), (t0, t1), n, z)], A ++ [((f0, f1), (t0, t1), n, z)], u + 1, n), 0) from letG_ok HYP.out HC.out HU.out h6 h20)
        have hwr : IntKind.i64.wrap (u + 1) = u + 1 := IntWalk.i64_in _ (by omega)
        clear h6 h20
        have HRL := Lib.hid HR.out.lt
        go_wp2_with fail
        refine (copy_spec ⟨by omega, by omega, by omega⟩ HPw.out HBw.out HAw.out).mono ?_
        intro e w4 h
        obtain ⟨xa, xc, ya, yc, za, zc, rfl, hx, hy, hz, hd1, hd2, hb⟩ := copyR_elim h
        have HX := Lib.hid hx
        have HYR := Lib.hid hy
        have HZ := Lib.hid hz
        have HD1 := Lib.hid hd1
        have HD2 := Lib.hid hd2
        have hs34 := hb.size
        clear h hx hy hz hd1 hd2
        have HB4 := Lib.hid (HB3.out.trans (hb.mono hz3))
        have hz4 := HB4.out.size
        have HR := Lib.hid (HR.out.call hb)
        have HD := Lib.hid (HD.out.call hb)
        have HF1 := Lib.hid (HF1.out.call hb)
        have HT1 := Lib.hid (HT1.out.call hb)
        replace HPw := Lib.hid (gmvS HPw.out hb)
        replace HBw := Lib.hid (gmvS HBw.out hb)
        replace HAw := Lib.hid (gmvS HAw.out hb)
        have d4_0 := HD.out.at_ 0 rfl
        have d4_1 := HD.out.at_ 1 rfl
        have d4_2 := HD.out.at_ 2 rfl
        have d4_3 := HD.out.at_ 3 rfl
        have d4_4 := HD.out.at_ 4 rfl
        have x4_0 := HF1.out.at_ 0 rfl
        have x4_1 := HF1.out.at_ 1 rfl
        have y4_0 := HT1.out.at_ 0 rfl
        have y4_1 := HT1.out.at_ 1 rfl
        have r4_0 := HR.out.at_ 0 rfl
        have r4_1 := HR.out.at_ 1 rfl
        have r4_2 := HR.out.at_ 2 rfl
        have r4_3 := HR.out.at_ 3 rfl
        have r4_4 := HR.out.at_ 4 rfl
        have r4_5 := HR.out.at_ 5 rfl
        have f4_0 := HR.out.soft 0
        have f4_1 := HR.out.soft 1
        have f4_2 := HR.out.soft 2
        have f4_3 := HR.out.soft 3
        have f4_4 := HR.out.soft 4
        have f4_5 := HR.out.soft 5
        clear hb
        have hbo : Below w4.heap.size w4 ((w4.alloc (.cells #[.slice xa P.length xc, .slice ya B.length yc, .slice za A.length zc, .int .i64 u, .int .i64 n] 25)).alloc (.cells #[.int .i64 f0, .int .i64 f1, .int .i64 t0, .int .i64 t1, .int .i64 n, .int .i64 z] 48)) := ((Below.refl _ _).alloc (Nat.le_refl _) _).alloc (by simp) _
        obtain ⟨_, ho, hxl⟩ := bx2 w4 #[.slice xa P.length xc, .slice ya B.length yc, .slice za A.length zc, .int .i64 u, .int .i64 n] #[.int .i64 f0, .int .i64 f1, .int .i64 t0, .int .i64 t1, .int .i64 n, .int .i64 z] 25 48
        obtain ⟨wx, hwx⟩ : ∃ w, w = (w4.alloc (.cells #[.slice xa P.length xc, .slice ya B.length yc, .slice za A.length zc, .int .i64 u, .int .i64 n] 25)).alloc (.cells #[.int .i64 f0, .int .i64 f1, .int .i64 t0, .int .i64 t1, .int .i64 n, .int .i64 z] 48) := ⟨_, rfl⟩
        have hsx : wx.heap.size = w4.heap.size + 2 := by rw [hwx]; simp
        rw [← hwx] at hbo ho hxl
        have hX := HX.out.call hbo
        have hY := HYR.out.call hbo
        have hZ := HZ.out.call hbo
        obtain ⟨ya', yc', w5, hr5, hY5, hs5, hk5, ho5, hb5⟩ := LRow.one hY f0 f1 t0 t1 n z (by omega) (by omega)
        have hRk : W.heap.size + 1 + 1 + 1 < w4.heap.size := Nat.lt_of_lt_of_le HRL.out hs34
        have hlo3 : ∀ k, (Value.slice ya B.length yc).ownBlock = some k → w3.heap.size ≤ k ∧ k < w4.heap.size := fun k hk => HYR.out.blk k hk
        have hloz : ∀ k, (Value.slice za A.length zc).ownBlock = some k → w3.heap.size ≤ k ∧ k < w4.heap.size := fun k hk => HZ.out.blk k hk
        have hlox : ∀ k, (Value.slice xa P.length xc).ownBlock = some k → w3.heap.size ≤ k ∧ k < w4.heap.size := fun k hk => HX.out.blk k hk
        have ho5' : Blk w5 w4.heap.size 25 #[.slice xa P.length xc, .slice ya B.length yc, .slice za A.length zc, .int .i64 u, .int .i64 n] := (hk5 _ (by omega) (fun e => by have := hlo3 _ e; omega)).trans ho
        have hx5 : Blk w5 (w4.heap.size + 1) 48 #[.int .i64 f0, .int .i64 f1, .int .i64 t0, .int .i64 t1, .int .i64 n, .int .i64 z] := (hk5 _ (by omega) (fun e => by have := hlo3 _ e; omega)).trans hxl
        have hR5 : Blk w5 (W.heap.size + 1 + 1 + 1) 31 #[.slice none 0 0, .slice none 0 0, .slice none 0 0, .int .i64 0, .int .i64 0, .int .i64 0] := (hk5 _ (by omega) (fun e => by have := hlo3 _ e; have := HRL.out; omega)).trans (HR.out.call hbo)
        have hD5 : Blk w5 W.heap.size 25 #[.slice pa P.length pc, .slice ba B.length bc, .slice aa A.length ac, .int .i64 u, .int .i64 n] := (hk5 _ (by omega) (fun e => by have := hlo3 _ e; have := HRL.out; omega)).trans (HD.out.call hbo)
        have hX5 : LRow w5 w3.heap.size (.slice xa P.length xc) P := FRow.mv hX hs5 fun k hk => hk5 k (by have := hlox k hk; omega) (fun e => (HD1.out k hk).1 e)
        have hZ5 : LRow w5 w3.heap.size (.slice za A.length zc) A := FRow.mv hZ hs5 fun k hk => hk5 k (by have := hloz k hk; omega) (fun e => HD2.out k e hk)
        obtain ⟨w6, hw6⟩ : ∃ w, w = w5.setCell ⟨w4.heap.size, 1, none⟩ (.slice ya' (B.length + 1) yc') := ⟨_, rfl⟩
        have hoff6 : Off (fun k => k = w4.heap.size) w5 w6 := by rw [hw6]; exact (Off.refl (fun k => k = w4.heap.size) w5).setCell (p := ⟨w4.heap.size, 1, none⟩) rfl _
        have ho6 : Blk w6 w4.heap.size 25 #[.slice xa P.length xc, .slice ya' (B.length + 1) yc', .slice za A.length zc, .int .i64 u, .int .i64 n] := by rw [hw6]; exact (ho5'.set 1 _).as rfl
        have hO6 := But2.off hoff6
        have hx6 := hO6.blk hx5 (by omega)
        have hR6 := hO6.blk hR5 (by omega)
        have hD6 := hO6.blk hD5 (by omega)
        have hX6 := LRow.mv2 hX5 hO6 (fun k hk => by have := hlox k hk; omega)
        have hZ6 := LRow.mv2 hZ5 hO6 (fun k hk => by have := hloz k hk; omega)
        have hY6 := LRow.mv2 hY5 hO6 (fun k hk => by rcases ho5 k hk with e | e; (have := hlo3 k e; omega); omega)
        have hs6 := hO6.1
        obtain ⟨za', zc', w7, hr7, hZ7, hs7, hk7, ho7, hb7⟩ := LRow.one hZ6 f0 f1 t0 t1 n z (by omega) (by omega)
        have ho7' : Blk w7 w4.heap.size 25 #[.slice xa P.length xc, .slice ya' (B.length + 1) yc', .slice za A.length zc, .int .i64 u, .int .i64 n] := (hk7 _ ho6.lt (fun e => by have := hloz _ e; omega)).trans ho6
        have hx7 : Blk w7 (w4.heap.size + 1) 48 #[.int .i64 f0, .int .i64 f1, .int .i64 t0, .int .i64 t1, .int .i64 n, .int .i64 z] := (hk7 _ hx6.lt (fun e => by have := hloz _ e; omega)).trans hx6
        have hR7 : Blk w7 (W.heap.size + 1 + 1 + 1) 31 #[.slice none 0 0, .slice none 0 0, .slice none 0 0, .int .i64 0, .int .i64 0, .int .i64 0] := (hk7 _ hR6.lt (fun e => by have := hloz _ e; have := HRL.out; omega)).trans hR6
        have hD7 : Blk w7 W.heap.size 25 #[.slice pa P.length pc, .slice ba B.length bc, .slice aa A.length ac, .int .i64 u, .int .i64 n] := (hk7 _ hD6.lt (fun e => by have := hloz _ e; have := HRL.out; omega)).trans hD6
        have hX7 : LRow w7 w3.heap.size (.slice xa P.length xc) P := FRow.mv hX6 hs7 fun k hk => hk7 k (hX6.blk k hk).2 (fun e => (HD1.out k hk).2 e)
        have hY7 : LRow w7 w3.heap.size (.slice ya' (B.length + 1) yc') (B ++ [((f0, f1), (t0, t1), n, z)]) := FRow.mv hY6 hs7 fun k hk => hk7 k (hY6.blk k hk).2 (fun e => by rcases ho5 k hk with e2 | e2; exact HD2.out k e2 e; (have := hloz k e; omega))
        obtain ⟨w8, hw8⟩ : ∃ w, w = w7.setCell ⟨w4.heap.size, 2, none⟩ (.slice za' (A.length + 1) zc') := ⟨_, rfl⟩
        obtain ⟨w9, hw9⟩ : ∃ w, w = w8.setCell ⟨w4.heap.size, 3, none⟩ (.int .i64 (u + 1)) := ⟨_, rfl⟩
        have ho8 : Blk w8 w4.heap.size 25 #[.slice xa P.length xc, .slice ya' (B.length + 1) yc', .slice za' (A.length + 1) zc', .int .i64 u, .int .i64 n] := by rw [hw8]; exact (ho7'.set 2 _).as rfl
        have ho9 : Blk w9 w4.heap.size 25 #[.slice xa P.length xc, .slice ya' (B.length + 1) yc', .slice za' (A.length + 1) zc', .int .i64 (u + 1), .int .i64 n] := by rw [hw9]; exact (ho8.set 3 _).as rfl
        have hO8 : But2 w7 w8 w4.heap.size := by rw [hw8]; exact But2.off ((Off.refl (fun k => k = w4.heap.size) w7).setCell (p := ⟨w4.heap.size, 2, none⟩) rfl _)
        have hO9 : But2 w8 w9 w4.heap.size := by rw [hw9]; exact But2.off ((Off.refl (fun k => k = w4.heap.size) w8).setCell (p := ⟨w4.heap.size, 3, none⟩) rfl _)
        have hO79 := hO8.trans hO9
        have hR9 := hO79.blk hR7 (by omega)
        have hD8 := hO8.blk hD7 (by omega)
        have hD9 := hO79.blk hD7 (by omega)
        have hX9 := Lib.hid (LRow.mv2 hX7 hO79 (fun k hk => by have := hlox k hk; omega))
        have hY9 := Lib.hid (LRow.mv2 hY7 hO79 (fun k hk => by rcases ho5 k hk with e | e; (have := hlo3 k e; omega); omega))
        have hZ9 := Lib.hid (LRow.mv2 hZ7 hO79 (fun k hk => by rcases ho7 k hk with e | e; (have := hloz k e; omega); omega))
        have HB9 := Lib.hid (show Below W.heap.size W w9 from (HB4.out.trans (hbo.mono HB4.out.size)).trans (((hb5 W.heap.size (by omega)).trans (hO6.2.2 W.heap.size (by omega) (by omega))).trans ((hb7 W.heap.size (by omega)).trans (hO79.2.2 W.heap.size (by omega) (by have := hs7; omega)))))
        have HE1 := Lib.hid (show ∀ k, (Value.slice xa P.length xc).ownBlock = some k → (Value.slice ya' (B.length + 1) yc').ownBlock ≠ some k ∧ (Value.slice za' (A.length + 1) zc').ownBlock ≠ some k from fun k hk => ⟨fun e => by rcases ho5 k e with e2 | e2; exact (HD1.out k hk).1 e2; (have := hlox k hk; omega), fun e => by rcases ho7 k e with e2 | e2; exact (HD1.out k hk).2 e2; (have := hlox k hk; omega)⟩)
        have HE2 := Lib.hid (show ∀ k, (Value.slice ya' (B.length + 1) yc').ownBlock = some k → (Value.slice za' (A.length + 1) zc').ownBlock ≠ some k from fun k hk e => by rcases ho7 k e with e2 | e2; (rcases ho5 k hk with e3 | e3; exact HD2.out k e3 e2; (have := hloz k e2; omega)); (have := (hY6.blk k hk).2; omega))
        have m5_0 := ho5'.at_ 0 rfl
        have m5_1 := ho5'.at_ 1 rfl
        have m5_2 := ho5'.at_ 2 rfl
        have m5_3 := ho5'.at_ 3 rfl
        have m5_4 := ho5'.at_ 4 rfl
        have m6_0 := ho6.at_ 0 rfl
        have m6_1 := ho6.at_ 1 rfl
        have m6_2 := ho6.at_ 2 rfl
        have m6_3 := ho6.at_ 3 rfl
        have m6_4 := ho6.at_ 4 rfl
        have m7_0 := ho7'.at_ 0 rfl
        have m7_1 := ho7'.at_ 1 rfl
        have m7_2 := ho7'.at_ 2 rfl
        have m7_3 := ho7'.at_ 3 rfl
        have m7_4 := ho7'.at_ 4 rfl
        have m8_0 := ho8.at_ 0 rfl
        have m8_1 := ho8.at_ 1 rfl
        have m8_2 := ho8.at_ 2 rfl
        have m8_3 := ho8.at_ 3 rfl
        have m8_4 := ho8.at_ 4 rfl
        have m9_0 := ho9.at_ 0 rfl
        have m9_1 := ho9.at_ 1 rfl
        have m9_2 := ho9.at_ 2 rfl
        have m9_3 := ho9.at_ 3 rfl
        have m9_4 := ho9.at_ 4 rfl
        have s5_0 := ho5'.soft 0
        have s5_1 := ho5'.soft 1
        have s5_2 := ho5'.soft 2
        have s5_3 := ho5'.soft 3
        have s5_4 := ho5'.soft 4
        have s7_0 := ho7'.soft 0
        have s7_1 := ho7'.soft 1
        have s7_2 := ho7'.soft 2
        have s7_3 := ho7'.soft 3
        have s7_4 := ho7'.soft 4
        have s8_0 := ho8.soft 0
        have s8_1 := ho8.soft 1
        have s8_2 := ho8.soft 2
        have s8_3 := ho8.soft 3
        have s8_4 := ho8.soft 4
        have l6_0 := hx6.at_ 0 rfl
        have l6_1 := hx6.at_ 1 rfl
        have l6_2 := hx6.at_ 2 rfl
        have l6_3 := hx6.at_ 3 rfl
        have l6_4 := hx6.at_ 4 rfl
        have l6_5 := hx6.at_ 5 rfl
        have p8_0 := hD8.at_ 0 rfl
        have p8_1 := hD8.at_ 1 rfl
        have p8_2 := hD8.at_ 2 rfl
        have p8_3 := hD8.at_ 3 rfl
        have p8_4 := hD8.at_ 4 rfl
        have r9_0 := hR9.at_ 0 rfl
        have r9_1 := hR9.at_ 1 rfl
        have r9_2 := hR9.at_ 2 rfl
        have r9_3 := hR9.at_ 3 rfl
        have r9_4 := hR9.at_ 4 rfl
        have r9_5 := hR9.at_ 5 rfl
        have g9_0 := hR9.soft 0
        have g9_1 := hR9.soft 1
        have g9_2 := hR9.soft 2
        have g9_3 := hR9.soft 3
        have g9_4 := hR9.soft 4
        have g9_5 := hR9.soft 5
        rw [hwx] at hr5
        simp only [World.size_alloc] at hr5
        have e6 : w6.heap.size = w5.heap.size := by rw [hw6]; simp [World.setCell]
        rw [e6] at hr7
        rw [hw6] at hr7 m6_0 m6_1 m6_2 m6_3 m6_4 l6_0 l6_1 l6_2 l6_3 l6_4 l6_5
        have HW8 := Lib.hid hw8
        have HW9 := Lib.hid hw9
        rw [hw9] at m9_0 m9_1 m9_2 m9_3 m9_4 r9_0 r9_1 r9_2 r9_3 r9_4 r9_5 g9_0 g9_1 g9_2 g9_3 g9_4 g9_5
        rw [hw8] at m8_0 m8_1 m8_2 m8_3 m8_4 s8_0 s8_1 s8_2 s8_3 s8_4 p8_0 p8_1 p8_2 p8_3 p8_4 m9_0 m9_1 m9_2 m9_3 m9_4 r9_0 r9_1 r9_2 r9_3 r9_4 r9_5 g9_0 g9_1 g9_2 g9_3 g9_4 g9_5
        have HR5 := Lib.hid hr5
        have HR7 := Lib.hid hr7
        clear hbo ho hxl hX hY hZ hr5 hY5 hk5 ho5 hb5 hlo3 hloz hlox ho5' hx5 hR5 hD5 hX5 hZ5 hoff6 ho6 hO6 hx6 hR6 hD6 hX6 hZ6 hY6 hr7 hZ7 hk7 ho7 hb7 ho7' hx7 hR7 hD7 hX7 hY7 ho8 ho9 hO8 hO9 hO79 hR9 hD8 hD9 hw6 hw8 hw9 hwx e6 hsx
        have hbA : Below w4.heap.size w4 (w4.alloc (.cells #[.slice xa P.length xc, .slice ya B.length yc, .slice za A.length zc, .int .i64 u, .int .i64 n] 25)) := (Below.refl _ _).alloc (Nat.le_refl _) _
        have a1_0 := (HF1.out.call hbA).at_ 0 rfl
        have a1_1 := (HF1.out.call hbA).at_ 1 rfl
        have a2_0 := (HT1.out.call hbA).at_ 0 rfl
        have a2_1 := (HT1.out.call hbA).at_ 1 rfl
        have a3_0 := (HD.out.call hbA).at_ 0 rfl
        have a3_1 := (HD.out.call hbA).at_ 1 rfl
        have a3_2 := (HD.out.call hbA).at_ 2 rfl
        have a3_3 := (HD.out.call hbA).at_ 3 rfl
        have a3_4 := (HD.out.call hbA).at_ 4 rfl
        clear hbA
        go_wp2_with (at_builtin; first | refine wpList_app rfl (.tmp 54) (.tmp 56) 23 rfl rfl rfl HR5.out ?_ | refine wpList_app rfl (.tmp 60) (.tmp 62) 23 rfl rfl rfl HR7.out ?_)
        refine bodyPost_ret (v := .agg #[.slice xa P.length xc, .slice ya' (B.length + 1) yc', .slice za' (A.length + 1) zc', .int .i64 (u + 1), .int .i64 n, .int .i64 0]) (by simp [results, Tryd.results10, go_sem, *]) rfl ?_
        rw [HG.out, ← HW8.out, ← HW9.out]
        have hoff := (((((((Off.refl (fun x => x = W.heap.size + 1 + 1 + 1) w9).setCell (p := ⟨W.heap.size + 1 + 1 + 1, 0, none⟩) (rfl) (.slice xa P.length xc)).setCell (p := ⟨W.heap.size + 1 + 1 + 1, 1, none⟩) (rfl) (.slice ya' (B.length + 1) yc')).setCell (p := ⟨W.heap.size + 1 + 1 + 1, 2, none⟩) (rfl) (.slice za' (A.length + 1) zc')).setCell (p := ⟨W.heap.size + 1 + 1 + 1, 3, none⟩) (rfl) (.int .i64 (u + 1))).setCell (p := ⟨W.heap.size + 1 + 1 + 1, 4, none⟩) (rfl) (.int .i64 n)).setCell (p := ⟨W.heap.size + 1 + 1 + 1, 5, none⟩) (rfl) (.int .i64 0))
        exact ⟨_, rfl, let_rows hX9.out hY9.out hZ9.out (by simp) (by simp) HE1.out HE2.out hoff HRL.out hz3, ((((((HB9.out.setCell (p := ⟨W.heap.size + 1 + 1 + 1, 0, none⟩) (by show W.heap.size ≤ W.heap.size + 1 + 1 + 1; omega) (.slice xa P.length xc)).setCell (p := ⟨W.heap.size + 1 + 1 + 1, 1, none⟩) (by show W.heap.size ≤ W.heap.size + 1 + 1 + 1; omega) (.slice ya' (B.length + 1) yc')).setCell (p := ⟨W.heap.size + 1 + 1 + 1, 2, none⟩) (by show W.heap.size ≤ W.heap.size + 1 + 1 + 1; omega) (.slice za' (A.length + 1) zc')).setCell (p := ⟨W.heap.size + 1 + 1 + 1, 3, none⟩) (by show W.heap.size ≤ W.heap.size + 1 + 1 + 1; omega) (.int .i64 (u + 1))).setCell (p := ⟨W.heap.size + 1 + 1 + 1, 4, none⟩) (by show W.heap.size ≤ W.heap.size + 1 + 1 + 1; omega) (.int .i64 n)).setCell (p := ⟨W.heap.size + 1 + 1 + 1, 5, none⟩) (by show W.heap.size ≤ W.heap.size + 1 + 1 + 1; omega) (.int .i64 0))⟩
end Go.Proofs.YtphklknaagjmpaaDoor.RepC
end
section
namespace Go.Proofs.YtphklknaagjmpaaDoor.RepC
open Go.RowKit RowC ValC SpanC KeptC
set_option linter.unusedVariables false
set_option linter.unusedSimpArgs false
set_option maxRecDepth 100000 in
set_option maxHeartbeats 1000000 in
theorem nexttime_rows {P B A : List D_Letter} {pa ba aa : Option Addr} {pc bc ac : Nat} {u n : Int} {W : World} (hlen : P.length ≤ 1048576 ∧ B.length ≤ 1048576 ∧ A.length ≤ 1048576) (hP : RdSl R_Letter W W.heap.size P pa pc) (hB : RdSl R_Letter W W.heap.size B ba bc) (hA : RdSl R_Letter W W.heap.size A aa ac) : Calls Tryd.prog 11 #[.agg #[.slice pa P.length pc, .slice ba B.length bc, .slice aa A.length ac, .int .i64 u, .int .i64 n]] W (NewR (nextG (P, B, A, u, n)) W) := by
  obtain ⟨hb0, hd0, hr0⟩ := bx2 W #[.slice pa P.length pc, .slice ba B.length bc, .slice aa A.length ac, .int .i64 u, .int .i64 n] #[.slice none 0 0, .slice none 0 0, .slice none 0 0, .int .i64 0, .int .i64 0, .int .i64 0] 25 31
  obtain ⟨w0, hw0⟩ : ∃ w, w = (W.alloc (.cells #[.slice pa P.length pc, .slice ba B.length bc, .slice aa A.length ac, .int .i64 u, .int .i64 n] 25)).alloc (.cells #[.slice none 0 0, .slice none 0 0, .slice none 0 0, .int .i64 0, .int .i64 0, .int .i64 0] 31) := ⟨_, rfl⟩
  rw [← hw0] at hb0 hd0 hr0
  have HB0 := Lib.hid hb0
  have HR0 := Lib.hid hr0
  have HD0 := Lib.hid hd0
  have HPw := Lib.hid (gmvS hP hb0)
  have HBw := Lib.hid (gmvS hB hb0)
  have HAw := Lib.hid (gmvS hA hb0)
  have hz0 := hb0.size
  clear hb0 hd0 hr0 hP hB hA
  obtain ⟨q1, Q1⟩ := nameB (DeskR P B A u n)
  go_enter Tryd.func11, Tryd.ntmps11
  go_wp2_with fail
  rw [← hw0]
  clear hw0
  refine ((box_spec HPw.out HBw.out HAw.out).mono (fun _ _ => resB_at Q1.out)).mono ?_
  rintro e w1 ⟨rfl, hb⟩
  have HB1 := Lib.hid (HB0.out.trans (hb.mono hz0))
  have hz1 := HB1.out.size
  have HR1 := Lib.hid (HR0.out.call hb)
  have HD1 := Lib.hid (HD0.out.call hb)
  replace HPw := Lib.hid (gmvS HPw.out hb)
  replace HBw := Lib.hid (gmvS HBw.out hb)
  replace HAw := Lib.hid (gmvS HAw.out hb)
  have qHR1_0 := HR1.out.at_ 0 rfl
  have qHR1_1 := HR1.out.at_ 1 rfl
  have qHR1_2 := HR1.out.at_ 2 rfl
  have qHR1_3 := HR1.out.at_ 3 rfl
  have qHR1_4 := HR1.out.at_ 4 rfl
  have qHR1_5 := HR1.out.at_ 5 rfl
  have sHR1_0 := HR1.out.soft 0
  have sHR1_1 := HR1.out.soft 1
  have sHR1_2 := HR1.out.soft 2
  have sHR1_3 := HR1.out.soft 3
  have sHR1_4 := HR1.out.soft 4
  have sHR1_5 := HR1.out.soft 5
  have qHD1_0 := HD1.out.at_ 0 rfl
  have qHD1_1 := HD1.out.at_ 1 rfl
  have qHD1_2 := HD1.out.at_ 2 rfl
  have qHD1_3 := HD1.out.at_ 3 rfl
  have qHD1_4 := HD1.out.at_ 4 rfl
  have hlt1 := HR1.out.lt
  clear hb
  cases q1 with
  | false =>
    have HG := Lib.hid (show nextG (P, B, A, u, n) = (zeroD, 1) from by unfold nextG; rw [if_neg (by rw [boxB_iff]; intro h; have := Q1.out.2 h; cases this)])
    go_wp2
    refine bodyPost_ret (v := .agg #[.slice none 0 0, .slice none 0 0, .slice none 0 0, .int .i64 0, .int .i64 0, .int .i64 1]) (by simp [results, Tryd.results11, go_sem, *]) rfl ?_
    rw [HG.out]
    exact ⟨_, rfl, step_rows 1, ((((((HB1.out.setCell (p := ⟨W.heap.size + 1, 0, none⟩) (Nat.le_succ _) (.slice none 0 0)).setCell (p := ⟨W.heap.size + 1, 1, none⟩) (Nat.le_succ _) (.slice none 0 0)).setCell (p := ⟨W.heap.size + 1, 2, none⟩) (Nat.le_succ _) (.slice none 0 0)).setCell (p := ⟨W.heap.size + 1, 3, none⟩) (Nat.le_succ _) (.int .i64 0)).setCell (p := ⟨W.heap.size + 1, 4, none⟩) (Nat.le_succ _) (.int .i64 0)).setCell (p := ⟨W.heap.size + 1, 5, none⟩) (Nat.le_succ _) (.int .i64 1))⟩
  | true =>
    have HY := Lib.hid (Q1.out.1 (by first | rfl | trivial))
    have hr := HY.out.2.1
    simp only [isB, Bool.and_eq_true, decide_eq_true_iff] at hr
    by_cases hn : n = 999900
    · have HG := Lib.hid (show nextG (P, B, A, u, n) = (zeroD, 9) from by unfold nextG; rw [if_pos (by rw [boxB_iff]; exact HY.out), if_pos hn])
      have hd : decide (n ≥ 999900) = true := decide_eq_true (by omega)
      clear hn hr
      go_wp2
      refine bodyPost_ret (v := .agg #[.slice none 0 0, .slice none 0 0, .slice none 0 0, .int .i64 0, .int .i64 0, .int .i64 9]) (by simp [results, Tryd.results11, go_sem, *]) rfl ?_
      rw [HG.out]
      exact ⟨_, rfl, step_rows 9, ((((((HB1.out.setCell (p := ⟨W.heap.size + 1, 0, none⟩) (Nat.le_succ _) (.slice none 0 0)).setCell (p := ⟨W.heap.size + 1, 1, none⟩) (Nat.le_succ _) (.slice none 0 0)).setCell (p := ⟨W.heap.size + 1, 2, none⟩) (Nat.le_succ _) (.slice none 0 0)).setCell (p := ⟨W.heap.size + 1, 3, none⟩) (Nat.le_succ _) (.int .i64 0)).setCell (p := ⟨W.heap.size + 1, 4, none⟩) (Nat.le_succ _) (.int .i64 0)).setCell (p := ⟨W.heap.size + 1, 5, none⟩) (Nat.le_succ _) (.int .i64 9))⟩
    · have HG := Lib.hid (show nextG (P, B, A, u, n) = ((P, [], A, 0, n + 1), 0) from by unfold nextG; rw [if_pos (by rw [boxB_iff]; exact HY.out), if_neg hn])
      have hd : decide (n ≥ 999900) = false := decide_eq_false (by omega)
      have hwr : IntKind.i64.wrap (n + 1) = n + 1 := IntWalk.i64_in _ (by omega)
      clear hn hr
      go_wp2_with fail
      refine (copy_spec ⟨by omega, by omega, by omega⟩ HPw.out HBw.out HAw.out).mono ?_
      intro e w2 h
      obtain ⟨xa, xc, ya, yc, za, zc, rfl, hx, hy, hz, hd1, hd2, hb⟩ := copyR_elim h
      have HB2 := Lib.hid (HB1.out.trans (hb.mono hz1))
      have hs12 := hb.size
      have HR2 := Lib.hid (HR1.out.call hb)
      have HD2 := Lib.hid (HD1.out.call hb)
      have HX := Lib.hid hx
      have HZ := Lib.hid hz
      have HDJ := Lib.hid hd1
      have hbo : Below w2.heap.size w2 (w2.alloc (.cells #[.slice xa P.length xc, .slice ya B.length yc, .slice za A.length zc, .int .i64 u, .int .i64 n] 25)) := (Below.refl _ _).alloc (Nat.le_refl _) _
      have hbo2 : Below w2.heap.size w2 (w2.alloc (.cells #[.slice xa P.length xc, .slice none 0 0, .slice za A.length zc, .int .i64 0, .int .i64 (n + 1)] 25)) := (Below.refl _ _).alloc (Nat.le_refl _) _
      have HD3 := Lib.hid (HD2.out.call hbo)
      have HR3 := Lib.hid (HR2.out.call hbo2)
      obtain ⟨wo, hwo⟩ : ∃ w, w = w2.alloc (.cells #[.slice xa P.length xc, .slice none 0 0, .slice za A.length zc, .int .i64 0, .int .i64 (n + 1)] 25) := ⟨_, rfl⟩
      have HB3 := Lib.hid (show Below W.heap.size W wo from hwo ▸ HB2.out.trans (hbo2.mono HB2.out.size))
      have HX3 := Lib.hid (show LRow wo w1.heap.size (.slice xa P.length xc) P from hwo ▸ HX.out.call hbo2)
      have HZ3 := Lib.hid (show LRow wo w1.heap.size (.slice za A.length zc) A from hwo ▸ HZ.out.call hbo2)
      have HWO := Lib.hid hwo
      have qHD2_0 := HD2.out.at_ 0 rfl
      have qHD2_1 := HD2.out.at_ 1 rfl
      have qHD2_2 := HD2.out.at_ 2 rfl
      have qHD2_3 := HD2.out.at_ 3 rfl
      have qHD2_4 := HD2.out.at_ 4 rfl
      have qHD3_0 := HD3.out.at_ 0 rfl
      have qHD3_1 := HD3.out.at_ 1 rfl
      have qHD3_2 := HD3.out.at_ 2 rfl
      have qHD3_3 := HD3.out.at_ 3 rfl
      have qHD3_4 := HD3.out.at_ 4 rfl
      have qHR3_0 := HR3.out.at_ 0 rfl
      have qHR3_1 := HR3.out.at_ 1 rfl
      have qHR3_2 := HR3.out.at_ 2 rfl
      have qHR3_3 := HR3.out.at_ 3 rfl
      have qHR3_4 := HR3.out.at_ 4 rfl
      have qHR3_5 := HR3.out.at_ 5 rfl
      have sHR3_0 := HR3.out.soft 0
      have sHR3_1 := HR3.out.soft 1
      have sHR3_2 := HR3.out.soft 2
      have sHR3_3 := HR3.out.soft 3
      have sHR3_4 := HR3.out.soft 4
      have sHR3_5 := HR3.out.soft 5
      clear h hx hy hz hd1 hd2 hb hbo hbo2 hwo
      go_wp2
      refine bodyPost_ret (v := .agg #[.slice xa P.length xc, .slice none 0 0, .slice za A.length zc, .int .i64 0, .int .i64 (n + 1), .int .i64 0]) (by simp [results, Tryd.results11, go_sem, *]) rfl ?_
      rw [HG.out, ← HWO.out]
      have hoff := (((((((Off.refl (fun x => x = W.heap.size + 1) wo).setCell (p := ⟨W.heap.size + 1, 0, none⟩) (rfl) (.slice xa P.length xc)).setCell (p := ⟨W.heap.size + 1, 1, none⟩) (rfl) (.slice none 0 0)).setCell (p := ⟨W.heap.size + 1, 2, none⟩) (rfl) (.slice za A.length zc)).setCell (p := ⟨W.heap.size + 1, 3, none⟩) (rfl) (.int .i64 0)).setCell (p := ⟨W.heap.size + 1, 4, none⟩) (rfl) (.int .i64 (n + 1))).setCell (p := ⟨W.heap.size + 1, 5, none⟩) (rfl) (.int .i64 0))
      exact ⟨_, rfl, next_rows HX3.out HZ3.out (fun k hk => (HDJ.out k hk).2) hoff hlt1 hz1, ((((((HB3.out.setCell (p := ⟨W.heap.size + 1, 0, none⟩) (Nat.le_succ _) (.slice xa P.length xc)).setCell (p := ⟨W.heap.size + 1, 1, none⟩) (Nat.le_succ _) (.slice none 0 0)).setCell (p := ⟨W.heap.size + 1, 2, none⟩) (Nat.le_succ _) (.slice za A.length zc)).setCell (p := ⟨W.heap.size + 1, 3, none⟩) (Nat.le_succ _) (.int .i64 0)).setCell (p := ⟨W.heap.size + 1, 4, none⟩) (Nat.le_succ _) (.int .i64 (n + 1))).setCell (p := ⟨W.heap.size + 1, 5, none⟩) (Nat.le_succ _) (.int .i64 0))⟩
end Go.Proofs.YtphklknaagjmpaaDoor.RepC
end
section
namespace Go.Proofs.YtphklknaagjmpaaDoor.DrawC
open Go.RowKit RepC RowC ValC
set_option linter.unusedVariables false
set_option linter.unusedSimpArgs false
set_option maxRecDepth 100000
abbrev LS (g : Nat) (b : Option Addr) (len cap : Nat) (wr V : World) : Prop := Src g b len cap V ∧ But g wr V
section
variable {g : Nat} {b : Option Addr} {len cap : Nat} {wr V V' : World}
theorem ls_far (h : LS g b len cap wr V) (hg : g < wr.heap.size) (hb : Below wr.heap.size V V') : LS g b len cap wr V' := ⟨h.1.mono (hb.mono hg), but_far h.2 hb⟩
theorem ls_call (h : LS g b len cap wr V) (hg : g < wr.heap.size) (hb : Below V.heap.size V V') : LS g b len cap wr V' := ls_far h hg (hb.mono h.2.size)
theorem ls_set (h : LS g b len cap wr V) (hg : g < wr.heap.size) {bx : Nat} (hbx : wr.heap.size ≤ bx) (o : Nat) (u : Value) : LS g b len cap wr (V.setCell ⟨bx, o, none⟩ u) :=
  ls_far h hg ((Below.refl _ _).setCell (p := ⟨bx, o, none⟩) hbx _)
theorem ls_alloc (h : LS g b len cap wr V) (hg : g < wr.heap.size) (o : Obj) : LS g b len cap wr (V.alloc o) := ls_far h hg ((Below.refl _ _).alloc h.2.size _)
theorem ls_new (h : LS g b len cap wr V) (hg : g < wr.heap.size) (cs : Array Value) (T : TypeId) : ∃ (U : World) (bx : Nat), U = V.alloc (.cells cs T) ∧ bx = V.heap.size ∧ LS g b len cap wr U ∧ Blk U bx T cs ∧ wr.heap.size ≤ bx ∧ Below V.heap.size V U :=
  ⟨_, _, rfl, rfl, ls_alloc h hg _, Blk.new _ _ _, h.2.size, (Below.refl _ _).alloc (Nat.le_refl _) _⟩
theorem ls_letter {bx : Nat} (h : LS g b len cap wr V) (hX : Blk V bx 48 #[.int .i64 0, .int .i64 0, .int .i64 0, .int .i64 0, .int .i64 0, .int .i64 0]) (hg : g < wr.heap.size) (hbx : wr.heap.size ≤ bx) (x0 x1 x2 x3 x4 x5 : Int) :
    ∃ Z : World, Z = ((((((V.setCell ⟨bx, 0, none⟩ (.int .i64 x0)).setCell ⟨bx, 1, none⟩ (.int .i64 x1)).setCell ⟨bx, 2, none⟩ (.int .i64 x2)).setCell ⟨bx, 3, none⟩ (.int .i64 x3)).setCell ⟨bx, 4, none⟩ (.int .i64 x4)).setCell ⟨bx, 5, none⟩ (.int .i64 x5)) ∧ LS g b len cap wr Z ∧ Blk Z bx 48 #[.int .i64 x0, .int .i64 x1, .int .i64 x2, .int .i64 x3, .int .i64 x4, .int .i64 x5] := ⟨_, rfl, (ls_set (ls_set (ls_set (ls_set (ls_set (ls_set h hg hbx 0 _) hg hbx 1 _) hg hbx 2 _) hg hbx 3 _) hg hbx 4 _) hg hbx 5 _), (((((((hX.set 0 (.int .i64 x0)).set 1 (.int .i64 x1)).set 2 (.int .i64 x2)).set 3 (.int .i64 x3)).set 4 (.int .i64 x4)).set 5 (.int .i64 x5))).as rfl⟩
theorem ls_step {bx : Nat} (h : LS g b len cap wr V) (hX : Blk V bx 31 #[.slice none 0 0, .slice none 0 0, .slice none 0 0, .int .i64 0, .int .i64 0, .int .i64 0]) (hg : g < wr.heap.size) (hbx : wr.heap.size ≤ bx) (v0 v1 v2 v3 v4 v5 : Value) :
    ∃ Z : World, Z = ((((((V.setCell ⟨bx, 0, none⟩ v0).setCell ⟨bx, 1, none⟩ v1).setCell ⟨bx, 2, none⟩ v2).setCell ⟨bx, 3, none⟩ v3).setCell ⟨bx, 4, none⟩ v4).setCell ⟨bx, 5, none⟩ v5) ∧ LS g b len cap wr Z ∧ Blk Z bx 31 #[v0, v1, v2, v3, v4, v5] ∧ Off (fun k => k = bx) V Z := ⟨_, rfl, (ls_set (ls_set (ls_set (ls_set (ls_set (ls_set h hg hbx 0 _) hg hbx 1 _) hg hbx 2 _) hg hbx 3 _) hg hbx 4 _) hg hbx 5 _), (((((((hX.set 0 v0).set 1 v1).set 2 v2).set 3 v3).set 4 v4).set 5 v5)).as rfl, (((((((Off.refl (fun k => k = bx) V).setCell (p := ⟨bx, 0, none⟩) rfl v0).setCell (p := ⟨bx, 1, none⟩) rfl v1).setCell (p := ⟨bx, 2, none⟩) rfl v2).setCell (p := ⟨bx, 3, none⟩) rfl v3).setCell (p := ⟨bx, 4, none⟩) rfl v4).setCell (p := ⟨bx, 5, none⟩) rfl v5)⟩
end
theorem row_ne {V : World} {lo : Nat} {v : Value} {L : List D_Letter} {bx : Nat} {T : TypeId} {cs : Array Value} (h : LRow V lo v L) (hX : Blk V bx T cs) (hT : T ≠ 48) : v.ownBlock ≠ some bx := by
  intro e
  obtain ⟨_, h2⟩ := h.own
  rcases h2 with ⟨rfl, _⟩ | ⟨gg, cp, cur, rfl, _, hg, _⟩
  · cases e
  · cases e
    have := hX.symm.trans hg
    simp at this
    exact hT this.2
theorem r3_off {V V' : World} {lo : Nat} {P B A : List D_Letter} {xa ya za : Option Addr} {xc yc zc : Nat} (h : R3 V lo P B A xa xc ya yc za zc) {bx : Nat} {T : TypeId} {cs : Array Value} (hX : Blk V bx T cs) (hT : T ≠ 48) (ho : Off (fun k => k = bx) V V') : R3 V' lo P B A xa xc ya yc za zc :=
  ⟨h.x.mv ho.size fun k hk => ho.block k (h.x.blk k hk).2 fun e => row_ne h.x hX hT (by rw [hk, e]), h.y.mv ho.size fun k hk => ho.block k (h.y.blk k hk).2 fun e => row_ne h.y hX hT (by rw [hk, e]), h.z.mv ho.size fun k hk => ho.block k (h.z.blk k hk).2 fun e => row_ne h.z hX hT (by rw [hk, e]), h.d1, h.d2⟩
theorem r3_but {V V' : World} {lo g : Nat} {P B A : List D_Letter} {xa ya za : Option Addr} {xc yc zc : Nat} (h : R3 V lo P B A xa xc ya yc za zc) (hg : g < lo) (hb : But g V V') : R3 V' lo P B A xa xc ya yc za zc :=
  h.mv hb.size fun k hk hk2 => hb.block k hk2 (by omega)
theorem r3_pair {V : World} {lo : Nat} {P B A : List D_Letter} {xa ya za : Option Addr} {xc yc zc : Nat} (h : R3 V lo P B A xa xc ya yc za zc) {r : Nat} (hr : r < P.length) :
    ∃ (gp : Nat) (x0 x1 x2 x3 x4 x5 : Int), xa = some ⟨gp, 0, none⟩ ∧ lo ≤ gp ∧ gp < V.heap.size ∧ V.cell? ⟨gp, r * 6, none⟩ = some (.int .i64 x0) ∧ V.cell? ⟨gp, r * 6 + 1, none⟩ = some (.int .i64 x1) ∧ V.cell? ⟨gp, r * 6 + 2, none⟩ = some (.int .i64 x2) ∧ V.cell? ⟨gp, r * 6 + 3, none⟩ = some (.int .i64 x3) ∧ V.cell? ⟨gp, r * 6 + 4, none⟩ = some (.int .i64 x4) ∧ V.cell? ⟨gp, r * 6 + 5, none⟩ = some (.int .i64 x5) := by
  obtain ⟨⟨⟨x0, x1⟩, ⟨x2, x3⟩, x4, x5⟩, hx⟩ := el_some hr
  obtain ⟨gp, Sf, rfl, hs, _, _, _, hel⟩ := h.x.ow.2.2 (by omega)
  obtain ⟨us, hu, ho⟩ := hel r _ hx
  obtain rfl := ow0_Letter ho
  have hb := h.x.blk gp rfl
  exact ⟨gp, x0, x1, x2, x3, x4, x5, rfl, hb.1, hb.2, by simpa [size_LetterS, Nat.add_assoc] using hu 0 _ rfl, by simpa [size_LetterS, Nat.add_assoc] using hu 1 _ rfl, by simpa [size_LetterS, Nat.add_assoc] using hu 2 _ rfl, by simpa [size_LetterS, Nat.add_assoc] using hu 3 _ rfl, by simpa [size_LetterS, Nat.add_assoc] using hu 4 _ rfl, by simpa [size_LetterS, Nat.add_assoc] using hu 5 _ rfl⟩
theorem row_two (W : World) (x0 x1 x2 x3 x4 x5 y0 y1 y2 y3 y4 y5 : Int) : LRow (W.alloc (.cells #[.int .i64 x0, .int .i64 x1, .int .i64 x2, .int .i64 x3, .int .i64 x4, .int .i64 x5, .int .i64 y0, .int .i64 y1, .int .i64 y2, .int .i64 y3, .int .i64 y4, .int .i64 y5] 48)) W.heap.size (.slice (some ⟨W.heap.size, 0, none⟩) 2 2) [((x0, x1), (x2, x3), x4, x5), ((y0, y1), (y2, y3), y4, y5)] :=
  ⟨⟨rfl, .inr ⟨W.heap.size, 2, _, rfl, Nat.le_refl _, heap_alloc_new W _, Nat.le_refl _, by decide, rfl, rfl⟩⟩, fun k hk => by cases hk; exact ⟨Nat.le_refl _, by simp⟩⟩
structure DS (g : Nat) (b : Option Addr) (len cap : Nat) (w : World) (P B A : List D_Letter) (u n : Int) (xa : Option Addr) (xc : Nat) (ya : Option Addr) (yc : Nat) (za : Option Addr) (zc : Nat) (V : World) : Prop where
  src : Src g b len cap V
  but : But g w V
  rows : R3 V w.heap.size P B A xa xc ya yc za zc
  desk : Blk V (w.heap.size + 1 + 1) 25 #[.slice xa P.length xc, .slice ya B.length yc, .slice za A.length zc, .int .i64 u, .int .i64 n]
  out : Blk V w.heap.size 25 #[.slice none 0 0, .slice none 0 0, .slice none 0 0, .int .i64 0, .int .i64 0]
theorem DS.bu {g : Nat} {b : Option Addr} {len cap : Nat} {w : World} {P B A : List D_Letter} {u n : Int} {xa : Option Addr} {xc : Nat} {ya : Option Addr} {yc : Nat} {za : Option Addr} {zc : Nat} {V V' : World} (h : DS g b len cap w P B A u n xa xc ya yc za zc V) (hg : g < w.heap.size) (hs : Src g b len cap V') (hb : But g V V') : DS g b len cap w P B A u n xa xc ya yc za zc V' :=
  ⟨hs, h.but.trans hb, r3_but h.rows hg hb, Blk.but h.desk hb (by omega), Blk.but h.out hb (by omega)⟩
theorem DS.call {g : Nat} {b : Option Addr} {len cap : Nat} {w : World} {P B A : List D_Letter} {u n : Int} {xa : Option Addr} {xc : Nat} {ya : Option Addr} {yc : Nat} {za : Option Addr} {zc : Nat} {V V' : World} (h : DS g b len cap w P B A u n xa xc ya yc za zc V) (hb : Below V.heap.size V V') : DS g b len cap w P B A u n xa xc ya yc za zc V' :=
  ⟨h.src.mono (hb.mono h.src.lt), but_far h.but (hb.mono h.but.size), h.rows.call hb, h.desk.call hb, h.out.call hb⟩
theorem DS.off {g : Nat} {b : Option Addr} {len cap : Nat} {w : World} {P B A : List D_Letter} {u n : Int} {xa : Option Addr} {xc : Nat} {ya : Option Addr} {yc : Nat} {za : Option Addr} {zc : Nat} {V V' : World} (h : DS g b len cap w P B A u n xa xc ya yc za zc V) {bx : Nat} {T : TypeId} {cs : Array Value} (hX : Blk V bx T cs) (hT : T ≠ 48) (hlo : w.heap.size + 1 + 1 < bx) (hg : g < w.heap.size) (hb : Below bx V V') (ho : Off (fun k => k = bx) V V') : DS g b len cap w P B A u n xa xc ya yc za zc V' :=
  ⟨h.src.mono (hb.mono (by omega)), but_far h.but (hb.mono (by omega)), r3_off h.rows hX hT ho, (hb.block _ hlo).trans h.desk, (hb.block _ (by omega)).trans h.out⟩
theorem rowsD_elim {V : World} {W0 : Nat} {P B A : List D_Letter} {u n c : Int} {cs : List Value} (h : RowsD V W0 ((P, B, A, u, n), c) cs) : ∃ xa xc ya yc za zc, cs = [.slice xa P.length xc, .slice ya B.length yc, .slice za A.length zc, .int .i64 u, .int .i64 n, .int .i64 c] ∧ R3 V W0 P B A xa xc ya yc za zc := h
theorem r3_rd {V : World} {lo : Nat} {P B A : List D_Letter} {xa ya za : Option Addr} {xc yc zc : Nat} (h : R3 V lo P B A xa xc ya yc za zc) : RdSl R_Letter V V.heap.size P xa xc ∧ RdSl R_Letter V V.heap.size B ya yc ∧ RdSl R_Letter V V.heap.size A za zc :=
  ⟨h.x.ow.rd R_Letter_ok fun k hk => (h.x.blk k hk).2, h.y.ow.rd R_Letter_ok fun k hk => (h.y.blk k hk).2, h.z.ow.rd R_Letter_ok fun k hk => (h.z.blk k hk).2⟩
theorem step_put {V : World} {bx : Nat} {c0 c1 c2 c3 c4 c5 : Value} (hX : Blk V bx 31 #[c0, c1, c2, c3, c4, c5]) (v0 v1 v2 v3 v4 v5 : Value) : ∃ Z : World, Z = ((((((V.setCell ⟨bx, 0, none⟩ v0).setCell ⟨bx, 1, none⟩ v1).setCell ⟨bx, 2, none⟩ v2).setCell ⟨bx, 3, none⟩ v3).setCell ⟨bx, 4, none⟩ v4).setCell ⟨bx, 5, none⟩ v5) ∧ Blk Z bx 31 #[v0, v1, v2, v3, v4, v5] ∧ Off (fun k => k = bx) V Z ∧ Below bx V Z := ⟨_, rfl, (((((((hX.set 0 v0).set 1 v1).set 2 v2).set 3 v3).set 4 v4).set 5 v5)).as rfl, (((((((Off.refl (fun k => k = bx) V).setCell (p := ⟨bx, 0, none⟩) rfl v0).setCell (p := ⟨bx, 1, none⟩) rfl v1).setCell (p := ⟨bx, 2, none⟩) rfl v2).setCell (p := ⟨bx, 3, none⟩) rfl v3).setCell (p := ⟨bx, 4, none⟩) rfl v4).setCell (p := ⟨bx, 5, none⟩) rfl v5), (((((((Below.refl bx V).setCell (p := ⟨bx, 0, none⟩) (Nat.le_refl _) v0).setCell (p := ⟨bx, 1, none⟩) (Nat.le_refl _) v1).setCell (p := ⟨bx, 2, none⟩) (Nat.le_refl _) v2).setCell (p := ⟨bx, 3, none⟩) (Nat.le_refl _) v3).setCell (p := ⟨bx, 4, none⟩) (Nat.le_refl _) v4).setCell (p := ⟨bx, 5, none⟩) (Nat.le_refl _) v5)⟩
theorem DS.put {g : Nat} {b : Option Addr} {len cap : Nat} {w : World} {P B A P' B' A' : List D_Letter} {u n u' n' : Int} {xa : Option Addr} {xc : Nat} {ya : Option Addr} {yc : Nat} {za : Option Addr} {zc : Nat} {xa' : Option Addr} {xc' : Nat} {ya' : Option Addr} {yc' : Nat} {za' : Option Addr} {zc' : Nat} {V : World} (h : DS g b len cap w P B A u n xa xc ya yc za zc V) (hg : g < w.heap.size) (hr : R3 V w.heap.size P' B' A' xa' xc' ya' yc' za' zc') :
    ∃ Z : World, Z = (((((V.setCell ⟨w.heap.size + 1 + 1, 0, none⟩ (.slice xa' P'.length xc')).setCell ⟨w.heap.size + 1 + 1, 1, none⟩ (.slice ya' B'.length yc')).setCell ⟨w.heap.size + 1 + 1, 2, none⟩ (.slice za' A'.length zc')).setCell ⟨w.heap.size + 1 + 1, 3, none⟩ (.int .i64 u')).setCell ⟨w.heap.size + 1 + 1, 4, none⟩ (.int .i64 n')) ∧ DS g b len cap w P' B' A' u' n' xa' xc' ya' yc' za' zc' Z :=
  ⟨_, rfl, ⟨h.src.mono ((((((Below.refl (g + 1) V).setCell (p := ⟨w.heap.size + 1 + 1, 0, none⟩) (by show g + 1 ≤ w.heap.size + 1 + 1; omega) (.slice xa' P'.length xc')).setCell (p := ⟨w.heap.size + 1 + 1, 1, none⟩) (by show g + 1 ≤ w.heap.size + 1 + 1; omega) (.slice ya' B'.length yc')).setCell (p := ⟨w.heap.size + 1 + 1, 2, none⟩) (by show g + 1 ≤ w.heap.size + 1 + 1; omega) (.slice za' A'.length zc')).setCell (p := ⟨w.heap.size + 1 + 1, 3, none⟩) (by show g + 1 ≤ w.heap.size + 1 + 1; omega) (.int .i64 u')).setCell (p := ⟨w.heap.size + 1 + 1, 4, none⟩) (by show g + 1 ≤ w.heap.size + 1 + 1; omega) (.int .i64 n')), but_far h.but ((((((Below.refl w.heap.size V).setCell (p := ⟨w.heap.size + 1 + 1, 0, none⟩) (by show w.heap.size ≤ w.heap.size + 1 + 1; omega) (.slice xa' P'.length xc')).setCell (p := ⟨w.heap.size + 1 + 1, 1, none⟩) (by show w.heap.size ≤ w.heap.size + 1 + 1; omega) (.slice ya' B'.length yc')).setCell (p := ⟨w.heap.size + 1 + 1, 2, none⟩) (by show w.heap.size ≤ w.heap.size + 1 + 1; omega) (.slice za' A'.length zc')).setCell (p := ⟨w.heap.size + 1 + 1, 3, none⟩) (by show w.heap.size ≤ w.heap.size + 1 + 1; omega) (.int .i64 u')).setCell (p := ⟨w.heap.size + 1 + 1, 4, none⟩) (by show w.heap.size ≤ w.heap.size + 1 + 1; omega) (.int .i64 n')), r3_off hr h.desk (by decide) ((((((Off.refl (fun k => k = w.heap.size + 1 + 1) V).setCell (p := ⟨w.heap.size + 1 + 1, 0, none⟩) rfl (.slice xa' P'.length xc')).setCell (p := ⟨w.heap.size + 1 + 1, 1, none⟩) rfl (.slice ya' B'.length yc')).setCell (p := ⟨w.heap.size + 1 + 1, 2, none⟩) rfl (.slice za' A'.length zc')).setCell (p := ⟨w.heap.size + 1 + 1, 3, none⟩) rfl (.int .i64 u')).setCell (p := ⟨w.heap.size + 1 + 1, 4, none⟩) rfl (.int .i64 n')), ((((((h.desk.set 0 (.slice xa' P'.length xc')).set 1 (.slice ya' B'.length yc')).set 2 (.slice za' A'.length zc')).set 3 (.int .i64 u')).set 4 (.int .i64 n'))).as rfl, (((((h.out.far (by omega) _).far (by omega) _).far (by omega) _).far (by omega) _).far (by omega) _)⟩⟩
theorem ds_set {V : World} {g : Nat} {b : Option Addr} {len cap : Nat} {w : World} {P B A : List D_Letter} {u n : Int} {xa : Option Addr} {xc : Nat} {ya : Option Addr} {yc : Nat} {za : Option Addr} {zc : Nat} (h : DS g b len cap w P B A u n xa xc ya yc za zc V) (hg : g < w.heap.size) : (∀ u' : Int, ∃ Z : World, Z = V.setCell ⟨w.heap.size + 1 + 1, 3, none⟩ (.int .i64 u') ∧ DS g b len cap w P B A u' n xa xc ya yc za zc Z) ∧ ∀ n' : Int, ∃ Z : World, Z = V.setCell ⟨w.heap.size + 1 + 1, 4, none⟩ (.int .i64 n') ∧ DS g b len cap w P B A u n' xa xc ya yc za zc Z := by
  have hb : ∀ (i : Nat) (x : Value), Below (w.heap.size + 1 + 1) V (V.setCell ⟨w.heap.size + 1 + 1, i, none⟩ x) := fun i x => (Below.refl _ V).setCell (p := ⟨w.heap.size + 1 + 1, i, none⟩) (Nat.le_refl _) x
  have ho : ∀ (i : Nat) (x : Value), Off (fun k => k = w.heap.size + 1 + 1) V (V.setCell ⟨w.heap.size + 1 + 1, i, none⟩ x) := fun i x => (Off.refl (fun k => k = w.heap.size + 1 + 1) V).setCell (p := ⟨w.heap.size + 1 + 1, i, none⟩) rfl x
  exact ⟨fun u' => ⟨_, rfl, h.src.mono ((hb 3 _).mono (by omega)), but_far h.but ((hb 3 _).mono (by omega)), r3_off h.rows h.desk (by decide) (ho 3 _), (h.desk.set 3 (.int .i64 u')).as rfl, h.out.far (by omega) _⟩,
    fun n' => ⟨_, rfl, h.src.mono ((hb 4 _).mono (by omega)), but_far h.but ((hb 4 _).mono (by omega)), r3_off h.rows h.desk (by decide) (ho 4 _), (h.desk.set 4 (.int .i64 n')).as rfl, h.out.far (by omega) _⟩⟩
theorem ds_out {V : World} {g : Nat} {b : Option Addr} {len cap : Nat} {w : World} {P B A : List D_Letter} {u n : Int} {xa : Option Addr} {xc : Nat} {ya : Option Addr} {yc : Nat} {za : Option Addr} {zc : Nat} (h : DS g b len cap w P B A u n xa xc ya yc za zc V) (hg : g < w.heap.size) : ∃ Z : World, Z = (((((V.setCell ⟨w.heap.size, 0, none⟩ (.slice xa P.length xc)).setCell ⟨w.heap.size, 1, none⟩ (.slice ya B.length yc)).setCell ⟨w.heap.size, 2, none⟩ (.slice za A.length zc)).setCell ⟨w.heap.size, 3, none⟩ (.int .i64 u)).setCell ⟨w.heap.size, 4, none⟩ (.int .i64 n)) ∧ Blk Z w.heap.size 25 #[.slice xa P.length xc, .slice ya B.length yc, .slice za A.length zc, .int .i64 u, .int .i64 n] ∧ R3 Z w.heap.size P B A xa xc ya yc za zc ∧ Src g b len cap Z ∧ But g w Z :=
  ⟨_, rfl, ((((((h.out.set 0 (.slice xa P.length xc)).set 1 (.slice ya B.length yc)).set 2 (.slice za A.length zc)).set 3 (.int .i64 u)).set 4 (.int .i64 n))).as rfl, r3_off h.rows h.out (by decide) ((((((Off.refl (fun k => k = w.heap.size) V).setCell (p := ⟨w.heap.size, 0, none⟩) rfl (.slice xa P.length xc)).setCell (p := ⟨w.heap.size, 1, none⟩) rfl (.slice ya B.length yc)).setCell (p := ⟨w.heap.size, 2, none⟩) rfl (.slice za A.length zc)).setCell (p := ⟨w.heap.size, 3, none⟩) rfl (.int .i64 u)).setCell (p := ⟨w.heap.size, 4, none⟩) rfl (.int .i64 n)), h.src.mono ((((((Below.refl (g + 1) V).setCell (p := ⟨w.heap.size, 0, none⟩) (by show g + 1 ≤ w.heap.size; omega) (.slice xa P.length xc)).setCell (p := ⟨w.heap.size, 1, none⟩) (by show g + 1 ≤ w.heap.size; omega) (.slice ya B.length yc)).setCell (p := ⟨w.heap.size, 2, none⟩) (by show g + 1 ≤ w.heap.size; omega) (.slice za A.length zc)).setCell (p := ⟨w.heap.size, 3, none⟩) (by show g + 1 ≤ w.heap.size; omega) (.int .i64 u)).setCell (p := ⟨w.heap.size, 4, none⟩) (by show g + 1 ≤ w.heap.size; omega) (.int .i64 n)), but_far h.but ((((((Below.refl w.heap.size V).setCell (p := ⟨w.heap.size, 0, none⟩) (Nat.le_refl _) (.slice xa P.length xc)).setCell (p := ⟨w.heap.size, 1, none⟩) (Nat.le_refl _) (.slice ya B.length yc)).setCell (p := ⟨w.heap.size, 2, none⟩) (Nat.le_refl _) (.slice za A.length zc)).setCell (p := ⟨w.heap.size, 3, none⟩) (Nat.le_refl _) (.int .i64 u)).setCell (p := ⟨w.heap.size, 4, none⟩) (Nat.le_refl _) (.int .i64 n))⟩
theorem len1 (L : List D_Letter) (x : D_Letter) : (L ++ [x]).length = L.length + 1 := by simp
theorem ds_box {V : World} {g : Nat} {b : Option Addr} {len cap : Nat} {w : World} {P B A : List D_Letter} {u n : Int} {xa : Option Addr} {xc : Nat} {ya : Option Addr} {yc : Nat} {za : Option Addr} {zc : Nat} (h : DS g b len cap w P B A u n xa xc ya yc za zc V) (hg : g < w.heap.size) (hB : B.length ≤ 8) (x0 x1 x2 x3 x4 x5 : Int) :
    ∃ (na : Option Addr) (nc : Nat) (w9 : World), (Builtin.append_ #[23, 23] 23 #[.slice ya B.length yc, .slice (some ⟨V.heap.size, 0, none⟩) 1 1]).run Tryd.prog (V.alloc (.cells #[.int .i64 x0, .int .i64 x1, .int .i64 x2, .int .i64 x3, .int .i64 x4, .int .i64 x5] 48)) = .ok (.slice na (B.length + 1) nc) w9 ∧ Blk w9 (w.heap.size + 1 + 1) 25 #[.slice xa P.length xc, .slice ya B.length yc, .slice za A.length zc, .int .i64 u, .int .i64 n] ∧ ∃ Z : World, Z = w9.setCell ⟨w.heap.size + 1 + 1, 1, none⟩ (.slice na (B.length + 1) nc) ∧ DS g b len cap w P (B ++ [((x0, x1), (x2, x3), x4, x5)]) A u n xa xc na nc za zc Z := by
  obtain ⟨na, nc, w9, hr, hrow, hsz, hpre, hown, hbel⟩ := LRow.one h.rows.y x0 x1 x2 x3 x4 x5 h.but.size (by omega)
  have hdk := h.desk.lt
  have hne := row_ne h.rows.y h.desk (by decide)
  have hne2 := row_ne h.rows.y h.out (by decide)
  have hd9 : Blk w9 (w.heap.size + 1 + 1) 25 #[.slice xa P.length xc, .slice ya B.length yc, .slice za A.length zc, .int .i64 u, .int .i64 n] := (hpre _ h.desk.lt hne).trans h.desk
  have ho9 : Blk w9 w.heap.size 25 #[.slice none 0 0, .slice none 0 0, .slice none 0 0, .int .i64 0, .int .i64 0] := (hpre _ h.out.lt hne2).trans h.out
  have hl := len1 B ((x0, x1), (x2, x3), x4, x5)
  have hrow' : LRow w9 w.heap.size (.slice na (B ++ [((x0, x1), (x2, x3), x4, x5)]).length nc) (B ++ [((x0, x1), (x2, x3), x4, x5)]) := by rw [hl]; exact hrow
  have hown' : ∀ k, (Value.slice na (B ++ [((x0, x1), (x2, x3), x4, x5)]).length nc).ownBlock = some k → (Value.slice ya B.length yc).ownBlock = some k ∨ V.heap.size ≤ k := fun k hk => hown k (by rw [hl] at hk; exact hk)
  have hR9 : R3 w9 w.heap.size P (B ++ [((x0, x1), (x2, x3), x4, x5)]) A xa xc na nc za zc := by
    refine ⟨h.rows.x.mv hsz fun k hk => hpre k (h.rows.x.blk k hk).2 (h.rows.d1 k hk).1, hrow', h.rows.z.mv hsz fun k hk => hpre k (h.rows.z.blk k hk).2 fun e => h.rows.d2 k e hk, fun k hk => ⟨fun e => ?_, (h.rows.d1 k hk).2⟩, fun k hk e => ?_⟩
    · rcases hown' k e with e2 | e2
      · exact (h.rows.d1 k hk).1 e2
      · have := (h.rows.x.blk k hk).2; omega
    · rcases hown' k hk with e2 | e2
      · exact h.rows.d2 k e2 e
      · have := (h.rows.z.blk k e).2; omega
  have hb : Below (w.heap.size + 1 + 1) w9 (w9.setCell ⟨w.heap.size + 1 + 1, 1, none⟩ (.slice na (B.length + 1) nc)) := (Below.refl _ w9).setCell (p := ⟨w.heap.size + 1 + 1, 1, none⟩) (Nat.le_refl _) _
  refine ⟨na, nc, w9, hr, hd9, _, rfl, (h.src.mono (hbel (g + 1) (by omega))).mono (hb.mono (by omega)), but_far (but_far h.but (hbel w.heap.size (Nat.le_refl _))) (hb.mono (by omega)), r3_off hR9 hd9 (by decide) ((Off.refl (fun k => k = w.heap.size + 1 + 1) w9).setCell (p := ⟨w.heap.size + 1 + 1, 1, none⟩) rfl _), ?_, ho9.far (by omega) _⟩
  rw [hl]
  exact (hd9.set 1 (.slice na (B.length + 1) nc)).as rfl
theorem ds_pairs {V : World} {g : Nat} {b : Option Addr} {len cap : Nat} {w : World} {P B A : List D_Letter} {u n : Int} {xa : Option Addr} {xc : Nat} {ya : Option Addr} {yc : Nat} {za : Option Addr} {zc : Nat} (h : DS g b len cap w P B A u n xa xc ya yc za zc V) (hg : g < w.heap.size) (hP : P.length ≤ 4) (x0 x1 x2 x3 x4 x5 : Int) :
    ∃ (na : Option Addr) (nc : Nat) (w9 : World), (Builtin.append_ #[23, 23] 23 #[.slice xa P.length xc, .slice (some ⟨V.heap.size, 0, none⟩) 1 1]).run Tryd.prog (V.alloc (.cells #[.int .i64 x0, .int .i64 x1, .int .i64 x2, .int .i64 x3, .int .i64 x4, .int .i64 x5] 48)) = .ok (.slice na (P.length + 1) nc) w9 ∧ Blk w9 (w.heap.size + 1 + 1) 25 #[.slice xa P.length xc, .slice ya B.length yc, .slice za A.length zc, .int .i64 u, .int .i64 n] ∧ ∃ Z : World, Z = w9.setCell ⟨w.heap.size + 1 + 1, 0, none⟩ (.slice na (P.length + 1) nc) ∧ DS g b len cap w (P ++ [((x0, x1), (x2, x3), x4, x5)]) B A u n na nc ya yc za zc Z := by
  obtain ⟨na, nc, w9, hr, hrow, hsz, hpre, hown, hbel⟩ := LRow.one h.rows.x x0 x1 x2 x3 x4 x5 h.but.size (by omega)
  have hdk := h.desk.lt
  have hne := row_ne h.rows.x h.desk (by decide)
  have hne2 := row_ne h.rows.x h.out (by decide)
  have hd9 : Blk w9 (w.heap.size + 1 + 1) 25 #[.slice xa P.length xc, .slice ya B.length yc, .slice za A.length zc, .int .i64 u, .int .i64 n] := (hpre _ h.desk.lt hne).trans h.desk
  have ho9 : Blk w9 w.heap.size 25 #[.slice none 0 0, .slice none 0 0, .slice none 0 0, .int .i64 0, .int .i64 0] := (hpre _ h.out.lt hne2).trans h.out
  have hl := len1 P ((x0, x1), (x2, x3), x4, x5)
  have hrow' : LRow w9 w.heap.size (.slice na (P ++ [((x0, x1), (x2, x3), x4, x5)]).length nc) (P ++ [((x0, x1), (x2, x3), x4, x5)]) := by rw [hl]; exact hrow
  have hown' : ∀ k, (Value.slice na (P ++ [((x0, x1), (x2, x3), x4, x5)]).length nc).ownBlock = some k → (Value.slice xa P.length xc).ownBlock = some k ∨ V.heap.size ≤ k := fun k hk => hown k (by rw [hl] at hk; exact hk)
  have hR9 : R3 w9 w.heap.size (P ++ [((x0, x1), (x2, x3), x4, x5)]) B A na nc ya yc za zc := by
    refine ⟨hrow', h.rows.y.mv hsz fun k hk => hpre k (h.rows.y.blk k hk).2 fun e => (h.rows.d1 k e).1 hk, h.rows.z.mv hsz fun k hk => hpre k (h.rows.z.blk k hk).2 fun e => (h.rows.d1 k e).2 hk, fun k hk => ⟨fun e => ?_, fun e => ?_⟩, h.rows.d2⟩
    · rcases hown' k hk with e2 | e2
      · exact (h.rows.d1 k e2).1 e
      · have := (h.rows.y.blk k e).2; omega
    · rcases hown' k hk with e2 | e2
      · exact (h.rows.d1 k e2).2 e
      · have := (h.rows.z.blk k e).2; omega
  have hb : Below (w.heap.size + 1 + 1) w9 (w9.setCell ⟨w.heap.size + 1 + 1, 0, none⟩ (.slice na (P.length + 1) nc)) := (Below.refl _ w9).setCell (p := ⟨w.heap.size + 1 + 1, 0, none⟩) (Nat.le_refl _) _
  refine ⟨na, nc, w9, hr, hd9, _, rfl, (h.src.mono (hbel (g + 1) (by omega))).mono (hb.mono (by omega)), but_far (but_far h.but (hbel w.heap.size (Nat.le_refl _))) (hb.mono (by omega)), r3_off hR9 hd9 (by decide) ((Off.refl (fun k => k = w.heap.size + 1 + 1) w9).setCell (p := ⟨w.heap.size + 1 + 1, 0, none⟩) rfl _), ?_, ho9.far (by omega) _⟩
  rw [hl]
  exact (hd9.set 0 (.slice na (P.length + 1) nc)).as rfl
end Go.Proofs.YtphklknaagjmpaaDoor.DrawC
end
section
namespace Go.Proofs.YtphklknaagjmpaaDoor.DrawC
open Go.RowKit RepC RowC ValC
set_option linter.unusedVariables false
set_option linter.unusedSimpArgs false
def DrawnD (g : Nat) (b : Option Addr) (len cap : Nat) (w0 : World) (e : Ending) (w' : World) : Prop :=
  ∃ (P B A : List D_Letter) (u n : Int) (xa : Option Addr) (xc : Nat) (ya : Option Addr) (yc : Nat) (za : Option Addr) (zc : Nat), e = .returned (.agg #[.slice xa P.length xc, .slice ya B.length yc, .slice za A.length zc, .int .i64 u, .int .i64 n]) ∧ 2 ≤ P.length ∧ P.length ≤ 5 ∧ B.length ≤ 9 ∧ A.length ≤ 20 ∧ R3 w' w0.heap.size P B A xa xc ya yc za zc ∧ Src g b len cap w' ∧ But g w0 w'
set_option maxRecDepth 100000 in
set_option maxHeartbeats 4000000 in
theorem desk_any (g : Nat) (b : Option Addr) (len cap : Nat) (w0 : World) (h : Src g b len cap w0) :
    Calls Tryd.prog 19 #[.pointer (some ⟨g, 0, none⟩)] w0 (DrawnD g b len cap w0) := by
  have hg := h.lt
  obtain ⟨W1, hW1⟩ : ∃ x, x = ((w0.alloc (.cells #[.slice none 0 0, .slice none 0 0, .slice none 0 0, .int .i64 0, .int .i64 0] 25)).alloc (.cells #[.int .i64 2, .int .i64 0, .int .i64 0, .int .i64 0, .int .i64 0, .int .i64 0, .int .i64 2, .int .i64 1, .int .i64 1, .int .i64 0, .int .i64 0, .int .i64 0] 48)).alloc (.cells #[.slice (some ⟨w0.heap.size + 1, 0, none⟩) 2 2, .slice none 0 0, .slice none 0 0, .int .i64 0, .int .i64 0] 25) := ⟨_, rfl⟩
  have hD1 : DS g b len cap w0 [((2, 0), (0, 0), 0, 0), ((2, 1), (1, 0), 0, 0)] [] [] 0 0 (some ⟨w0.heap.size + 1, 0, none⟩) 2 none 0 none 0 W1 := by
    have hr := row_two (w0.alloc (.cells #[.slice none 0 0, .slice none 0 0, .slice none 0 0, .int .i64 0, .int .i64 0] 25)) 2 0 0 0 0 0 2 1 1 0 0 0
    have hb3 := Blk.new ((w0.alloc (.cells #[.slice none 0 0, .slice none 0 0, .slice none 0 0, .int .i64 0, .int .i64 0] 25)).alloc (.cells #[.int .i64 2, .int .i64 0, .int .i64 0, .int .i64 0, .int .i64 0, .int .i64 0, .int .i64 2, .int .i64 1, .int .i64 1, .int .i64 0, .int .i64 0, .int .i64 0] 48)) 25 #[.slice (some ⟨w0.heap.size + 1, 0, none⟩) 2 2, .slice none 0 0, .slice none 0 0, .int .i64 0, .int .i64 0]
    rw [World.size_alloc] at hr
    rw [World.size_alloc, World.size_alloc] at hb3
    rw [hW1]
    refine ⟨((h.alloc _).alloc _).alloc _, (((But.refl _ _).alloc _).alloc _).alloc _, ⟨LRow.low (hr.call ((Below.refl _ _).alloc (Nat.le_refl _) _)) (Nat.le_succ _), FRow.none_ _ _ _ _ _, FRow.none_ _ _ _ _ _, (fun k hk => ⟨(fun e => by cases e), (fun e => by cases e)⟩), (fun k hk => by cases hk)⟩, hb3, ((Blk.new _ _ _).alloc _).alloc _⟩
  have HD1 := Lib.hid hD1
  clear h hD1
  go_enter Tryd.func19, Tryd.ntmps19
  go_wp2_with fail
  rw [← hW1]
  clear hW1
  refine (n_any g b len cap _ _ HD1.out.src (by omega)).mono ?_
  rintro e w2 ⟨q, rfl, v0, v1, hs, hb⟩
  obtain ⟨r, rfl⟩ : ∃ r : Nat, q = (r : Int) := ⟨q.toNat, by omega⟩
  have hr0 : r ≤ 12 := by omega
  have HD2 := Lib.hid (HD1.out.bu hg hs hb)
  clear HD1 hs hb v0 v1
  go_wp2_with fail
  go_loopw [4] (fun i wr => ∃ (r : Nat) (P B A : List D_Letter) (u n : Int) (xa : Option Addr) (xc : Nat) (ya : Option Addr) (yc : Nat) (za : Option Addr) (zc : Nat), i = .int .i64 r ∧ r ≤ 12 ∧ DrawD (P, B, A, u, n) ∧ DS g b len cap w0 P B A u n xa xc ya yc za zc wr) (fun i _ => (intOf i).toNat)
  case atStart => exact ⟨r, _, _, _, _, _, _, _, _, _, _, _, rfl, hr0, ⟨by decide, by decide, by decide, by decide, by decide, by decide⟩, HD2.out⟩
  case round =>
    obtain ⟨r, P, B, A, u, n, xa, xc, ya, yc, za, zc, rfl, hr12, hdd, hD⟩ := hrel
    have HD := Lib.hid hD
    have HDD := Lib.hid hdd
    have hP2 : 2 ≤ P.length := hdd.1
    have hl1 : P.length ≤ 4 := hdd.2.1
    have hl2 : B.length ≤ 8 := hdd.2.2.1
    have hl3 : A.length ≤ 20 := hdd.2.2.2.1
    clear hD hdd HD2
    by_cases h0 : r = 0
    · subst h0
      have hnn : 0 ≤ n ∧ n ≤ 1000000 := ⟨HDD.out.2.2.2.2.1, HDD.out.2.2.2.2.2⟩
      go_wp2_with fail
      refine (one_any g b len cap _ _ HD.out.src (by omega)).mono ?_
      rintro e w2 ⟨t, rfl, hs, hb⟩
      have HD2 := Lib.hid (HD.out.bu hg hs hb)
      clear HD hs hb
      have HLEN : 2 ≤ P.length ∧ P.length ≤ 5 ∧ B.length ≤ 9 ∧ A.length ≤ 20 := ⟨by omega, by omega, by omega, by omega⟩
      cases t with
      | false =>
        have d0 := HD2.out.desk.at_ 0 rfl
        have d1 := HD2.out.desk.at_ 1 rfl
        have d2 := HD2.out.desk.at_ 2 rfl
        have d3 := HD2.out.desk.at_ 3 rfl
        have d4 := HD2.out.desk.at_ 4 rfl
        have z0 := HD2.out.out.at_ 0 rfl
        have z1 := HD2.out.out.at_ 1 rfl
        have z2 := HD2.out.out.at_ 2 rfl
        have z3 := HD2.out.out.at_ 3 rfl
        have z4 := HD2.out.out.at_ 4 rfl
        have o0 := HD2.out.out.soft 0
        have o1 := HD2.out.out.soft 1
        have o2 := HD2.out.out.soft 2
        have o3 := HD2.out.out.soft 3
        have o4 := HD2.out.out.soft 4
        obtain ⟨Wf, hWf, hf, hR3, hSf, hBf⟩ := ds_out HD2.out hg
        have q0 := hf.at_ 0 rfl
        have q1 := hf.at_ 1 rfl
        have q2 := hf.at_ 2 rfl
        have q3 := hf.at_ 3 rfl
        have q4 := hf.at_ 4 rfl
        have HRF := Lib.hid hR3
        have HSF := Lib.hid hSf
        have HBF := Lib.hid hBf
        clear hR3 hSf hBf hf
        go_wp2
        rw [← hWf]
        clear hWf
        exact bodyPost_ret (v := .agg #[.slice xa P.length xc, .slice ya B.length yc, .slice za A.length zc, .int .i64 u, .int .i64 n]) (by simp [results, Tryd.results19, go_sem, q0, q1, q2, q3, q4]) rfl ⟨_, _, _, _, _, _, _, _, _, _, _, rfl, HLEN.1, HLEN.2.1, HLEN.2.2.1, HLEN.2.2.2, HRF.out, HSF.out, HBF.out⟩
      | true =>
        go_wp2_with fail
        refine (n_any g b len cap _ _ HD2.out.src (by omega)).mono ?_
        rintro e w3 ⟨q, rfl, v0, v1, hs, hb⟩
        have HD3 := Lib.hid (HD2.out.bu hg hs hb)
        have hq : q = 0 ∨ q = 1 ∨ q = 2 ∨ q = 3 := by omega
        clear HD2 hs hb v0 v1
        rcases hq with rfl | rfl | rfl | rfl
        · go_wp2_with fail
          refine (n_any g b len cap _ _ HD3.out.src (by omega)).mono ?_
          rintro e w4 ⟨z, rfl, v0, v1, hs, hb⟩
          have HD4 := Lib.hid (HD3.out.bu hg hs hb)
          obtain ⟨Z, hZ, hDZ⟩ := (ds_set HD4.out hg).1 z
          have HDZ := Lib.hid hDZ
          have k0 := HD4.out.desk.at_ 3 rfl
          have s0 := HD4.out.desk.soft 3
          clear HD3 hs hb v0 v1 hDZ
          go_upto_region 20 with fail
          rw [← hZ]
          clear hZ k0 s0 HD4
          have d0 := HDZ.out.desk.at_ 0 rfl
          have d1 := HDZ.out.desk.at_ 1 rfl
          have d2 := HDZ.out.desk.at_ 2 rfl
          have d3 := HDZ.out.desk.at_ 3 rfl
          have d4 := HDZ.out.desk.at_ 4 rfl
          have z0 := HDZ.out.out.at_ 0 rfl
          have z1 := HDZ.out.out.at_ 1 rfl
          have z2 := HDZ.out.out.at_ 2 rfl
          have z3 := HDZ.out.out.at_ 3 rfl
          have z4 := HDZ.out.out.at_ 4 rfl
          have o0 := HDZ.out.out.soft 0
          have o1 := HDZ.out.out.soft 1
          have o2 := HDZ.out.out.soft 2
          have o3 := HDZ.out.out.soft 3
          have o4 := HDZ.out.out.soft 4
          obtain ⟨Wf, hWf, hf, hR3, hSf, hBf⟩ := ds_out HDZ.out hg
          have q0 := hf.at_ 0 rfl
          have q1 := hf.at_ 1 rfl
          have q2 := hf.at_ 2 rfl
          have q3 := hf.at_ 3 rfl
          have q4 := hf.at_ 4 rfl
          have HRF := Lib.hid hR3
          have HSF := Lib.hid hSf
          have HBF := Lib.hid hBf
          clear hR3 hSf hBf hf
          go_wp2
          rw [← hWf]
          clear hWf
          exact bodyPost_ret (v := .agg #[.slice xa P.length xc, .slice ya B.length yc, .slice za A.length zc, .int .i64 z, .int .i64 n]) (by simp [results, Tryd.results19, go_sem, q0, q1, q2, q3, q4]) rfl ⟨_, _, _, _, _, _, _, _, _, _, _, rfl, HLEN.1, HLEN.2.1, HLEN.2.2.1, HLEN.2.2.2, HRF.out, HSF.out, HBF.out⟩
        · go_upto_region 17 with fail
          refine wp_region_held_drew (S := (fun _ => True)) (by kernel_rfl) (trivial) (fun hHeld => ?_)
          obtain ⟨wd, hwd⟩ : ∃ x, x = w3.drew := ⟨_, rfl⟩
          have HC := Lib.hid (show DS g b len cap w0 P B A u n xa xc ya yc za zc wd from by rw [hwd]; exact HD3.out.call (Below.refl _ _).drew)
          rw [← hwd]
          clear hwd HD3
          refine tk 0 hHeld ?_
          refine tk 2 hHeld ?_
          refine rd2 1 3 (fun K hK => ?_) (fun K hK => ?_)
          · skip
            have k0 := HC.out.desk.at_ 4 rfl
            go_simp
            refine hK.out _ _ trivial (fun _ => ?_)
            clear k0
            clear hK K
            refine rd1 3 (fun K hK => ?_)
            go_simp
            go_at_call 20
            refine (n_any g b len cap _ _ HC.out.src (by omega)).mono ?_
            rintro e v4 ⟨z, rfl, v0, v1, hs, hb⟩
            have HC := Lib.hid (HC.out.bu hg hs hb)
            have hz0 : 0 ≤ z := v0
            have hz3 : z < 3 := by omega
            clear hs hb v0 v1
            refine hK.out _ _ trivial (fun _ => ?_)
            clear hK K
            refine tk 4 hHeld ?_
            refine tk 5 hHeld ?_
            refine tk 6 hHeld ?_
            refine rd1 7 (fun K hK => ?_)
            have k0 := HC.out.desk.at_ 4 rfl
            have s0 := HC.out.desk.soft 4
            have hw1 : IntKind.i64.wrap (n + z) = n + z := IntWalk.i64_in _ (by omega)
            have hw2 : IntKind.i64.wrap (n + z - 1) = n + z - 1 := IntWalk.i64_in _ (by omega)
            obtain ⟨Z, hZ, hDZ⟩ := (ds_set HC.out hg).2 (n + z - 1)
            go_simp
            rw [← hZ]
            have HDZ := Lib.hid hDZ
            clear hZ hDZ k0 s0
            refine hK.out _ _ trivial (fun _ => ?_)
            clear hK K
            refine rd0 ?_
            have HLEN : 2 ≤ P.length ∧ P.length ≤ 5 ∧ B.length ≤ 9 ∧ A.length ≤ 20 := ⟨by omega, by omega, by omega, by omega⟩
            have d0 := HDZ.out.desk.at_ 0 rfl
            have d1 := HDZ.out.desk.at_ 1 rfl
            have d2 := HDZ.out.desk.at_ 2 rfl
            have d3 := HDZ.out.desk.at_ 3 rfl
            have d4 := HDZ.out.desk.at_ 4 rfl
            have z0 := HDZ.out.out.at_ 0 rfl
            have z1 := HDZ.out.out.at_ 1 rfl
            have z2 := HDZ.out.out.at_ 2 rfl
            have z3 := HDZ.out.out.at_ 3 rfl
            have z4 := HDZ.out.out.at_ 4 rfl
            have o0 := HDZ.out.out.soft 0
            have o1 := HDZ.out.out.soft 1
            have o2 := HDZ.out.out.soft 2
            have o3 := HDZ.out.out.soft 3
            have o4 := HDZ.out.out.soft 4
            obtain ⟨Wf, hWf, hf, hR3, hSf, hBf⟩ := ds_out HDZ.out hg
            have q0 := hf.at_ 0 rfl
            have q1 := hf.at_ 1 rfl
            have q2 := hf.at_ 2 rfl
            have q3 := hf.at_ 3 rfl
            have q4 := hf.at_ 4 rfl
            have HRF := Lib.hid hR3
            have HSF := Lib.hid hSf
            have HBF := Lib.hid hBf
            clear hR3 hSf hBf hf
            go_wp2
            rw [← hWf]
            clear hWf
            exact bodyPost_ret (v := .agg #[.slice xa P.length xc, .slice ya B.length yc, .slice za A.length zc, .int .i64 u, .int .i64 (n + z - 1)]) (by simp [results, Tryd.results19, go_sem, q0, q1, q2, q3, q4]) rfl ⟨_, _, _, _, _, _, _, _, _, _, _, rfl, HLEN.1, HLEN.2.1, HLEN.2.2.1, HLEN.2.2.2, HRF.out, HSF.out, HBF.out⟩
          · skip
            go_simp
            go_at_call 20
            refine (n_any g b len cap _ _ HC.out.src (by omega)).mono ?_
            rintro e v4 ⟨z, rfl, v0, v1, hs, hb⟩
            have HC := Lib.hid (HC.out.bu hg hs hb)
            have hz0 : 0 ≤ z := v0
            have hz3 : z < 3 := by omega
            clear hs hb v0 v1
            refine hK.out _ _ trivial (fun _ => ?_)
            clear hK K
            refine rd1 1 (fun K hK => ?_)
            have k0 := HC.out.desk.at_ 4 rfl
            go_simp
            refine hK.out _ _ trivial (fun _ => ?_)
            clear k0
            clear hK K
            refine tk 4 hHeld ?_
            refine tk 5 hHeld ?_
            refine tk 6 hHeld ?_
            refine rd1 7 (fun K hK => ?_)
            have k0 := HC.out.desk.at_ 4 rfl
            have s0 := HC.out.desk.soft 4
            have hw1 : IntKind.i64.wrap (n + z) = n + z := IntWalk.i64_in _ (by omega)
            have hw2 : IntKind.i64.wrap (n + z - 1) = n + z - 1 := IntWalk.i64_in _ (by omega)
            obtain ⟨Z, hZ, hDZ⟩ := (ds_set HC.out hg).2 (n + z - 1)
            go_simp
            rw [← hZ]
            have HDZ := Lib.hid hDZ
            clear hZ hDZ k0 s0
            refine hK.out _ _ trivial (fun _ => ?_)
            clear hK K
            refine rd0 ?_
            have HLEN : 2 ≤ P.length ∧ P.length ≤ 5 ∧ B.length ≤ 9 ∧ A.length ≤ 20 := ⟨by omega, by omega, by omega, by omega⟩
            have d0 := HDZ.out.desk.at_ 0 rfl
            have d1 := HDZ.out.desk.at_ 1 rfl
            have d2 := HDZ.out.desk.at_ 2 rfl
            have d3 := HDZ.out.desk.at_ 3 rfl
            have d4 := HDZ.out.desk.at_ 4 rfl
            have z0 := HDZ.out.out.at_ 0 rfl
            have z1 := HDZ.out.out.at_ 1 rfl
            have z2 := HDZ.out.out.at_ 2 rfl
            have z3 := HDZ.out.out.at_ 3 rfl
            have z4 := HDZ.out.out.at_ 4 rfl
            have o0 := HDZ.out.out.soft 0
            have o1 := HDZ.out.out.soft 1
            have o2 := HDZ.out.out.soft 2
            have o3 := HDZ.out.out.soft 3
            have o4 := HDZ.out.out.soft 4
            obtain ⟨Wf, hWf, hf, hR3, hSf, hBf⟩ := ds_out HDZ.out hg
            have q0 := hf.at_ 0 rfl
            have q1 := hf.at_ 1 rfl
            have q2 := hf.at_ 2 rfl
            have q3 := hf.at_ 3 rfl
            have q4 := hf.at_ 4 rfl
            have HRF := Lib.hid hR3
            have HSF := Lib.hid hSf
            have HBF := Lib.hid hBf
            clear hR3 hSf hBf hf
            go_wp2
            rw [← hWf]
            clear hWf
            exact bodyPost_ret (v := .agg #[.slice xa P.length xc, .slice ya B.length yc, .slice za A.length zc, .int .i64 u, .int .i64 (n + z - 1)]) (by simp [results, Tryd.results19, go_sem, q0, q1, q2, q3, q4]) rfl ⟨_, _, _, _, _, _, _, _, _, _, _, rfl, HLEN.1, HLEN.2.1, HLEN.2.2.1, HLEN.2.2.2, HRF.out, HSF.out, HBF.out⟩
        · go_upto_region 19 with fail
          refine wp_region_held_drew (S := (fun _ => True)) (by kernel_rfl) (trivial) (fun hHeld => ?_)
          obtain ⟨wd, hwd⟩ : ∃ x, x = w3.drew := ⟨_, rfl⟩
          have HC := Lib.hid (show DS g b len cap w0 P B A u n xa xc ya yc za zc wd from by rw [hwd]; exact HD3.out.call (Below.refl _ _).drew)
          rw [← hwd]
          clear hwd HD3
          refine tk 0 hHeld ?_
          refine tk 2 hHeld ?_
          refine rd2 1 3 (fun K hK => ?_) (fun K hK => ?_)
          · skip
            have k0 := HC.out.desk.at_ 1 rfl
            try have k1 := (HC.out.call ((Below.refl _ _).alloc (Nat.le_refl _) (.cells #[.int .i64 0, .int .i64 0, .int .i64 0, .int .i64 0, .int .i64 z, .int .i64 0] 48))).desk.at_ 1 rfl
            go_simp
            refine hK.out _ _ trivial (fun _ => ?_)
            clear k0
            try clear k1
            clear hK K
            refine rd1 3 (fun K hK => ?_)
            go_simp
            go_at_call 20
            refine (n_any g b len cap _ _ HC.out.src (by omega)).mono ?_
            rintro e v4 ⟨z, rfl, v0, v1, hs, hb⟩
            have HC := Lib.hid (HC.out.bu hg hs hb)
            have hz0 : 0 ≤ z := v0
            have hz3 : z < 3 := by omega
            clear hs hb v0 v1
            refine hK.out _ _ trivial (fun _ => ?_)
            clear hK K
            refine tk 4 hHeld ?_
            refine rd1 5 (fun K hK => ?_)
            go_simp
            refine hK.out _ _ trivial (fun _ => ?_)
            clear hK K
            refine rd1 6 (fun K hK => ?_)
            obtain ⟨na, nc, w9, hr, hd9, Z, hZ, hDZ⟩ := ds_box HC.out hg hl2 0 0 0 0 z 0
            obtain ⟨B2, hB2⟩ : ∃ L, L = B ++ [((0, 0), (0, 0), z, 0)] := ⟨_, rfl⟩
            rw [← hB2] at hDZ
            have hlB : B2.length ≤ 9 := by rw [hB2, len1]; omega
            clear hB2
            have HR := Lib.hid hr
            have HD9 := Lib.hid hd9
            have HZ := Lib.hid hZ
            have HDZ := Lib.hid hDZ
            clear hr hd9 hZ hDZ
            refine step_app rfl (.tmp 74) (.tmp 78) 23 rfl rfl rfl HR.out ?_
            refine hK.out _ _ trivial (fun _ => ?_)
            clear hK K
            refine tk 7 hHeld ?_
            refine rd1 8 (fun K hK => ?_)
            have k0 := HD9.out.at_ 1 rfl
            have s0 := HD9.out.soft 1
            go_simp
            rw [← HZ.out]
            refine hK.out _ _ trivial (fun _ => ?_)
            clear hK K
            refine rd0 ?_
            have HLEN : 2 ≤ P.length ∧ P.length ≤ 5 ∧ B2.length ≤ 9 ∧ A.length ≤ 20 := ⟨by omega, by omega, hlB, by omega⟩
            have d0 := HDZ.out.desk.at_ 0 rfl
            have d1 := HDZ.out.desk.at_ 1 rfl
            have d2 := HDZ.out.desk.at_ 2 rfl
            have d3 := HDZ.out.desk.at_ 3 rfl
            have d4 := HDZ.out.desk.at_ 4 rfl
            have z0 := HDZ.out.out.at_ 0 rfl
            have z1 := HDZ.out.out.at_ 1 rfl
            have z2 := HDZ.out.out.at_ 2 rfl
            have z3 := HDZ.out.out.at_ 3 rfl
            have z4 := HDZ.out.out.at_ 4 rfl
            have o0 := HDZ.out.out.soft 0
            have o1 := HDZ.out.out.soft 1
            have o2 := HDZ.out.out.soft 2
            have o3 := HDZ.out.out.soft 3
            have o4 := HDZ.out.out.soft 4
            obtain ⟨Wf, hWf, hf, hR3, hSf, hBf⟩ := ds_out HDZ.out hg
            have q0 := hf.at_ 0 rfl
            have q1 := hf.at_ 1 rfl
            have q2 := hf.at_ 2 rfl
            have q3 := hf.at_ 3 rfl
            have q4 := hf.at_ 4 rfl
            have HRF := Lib.hid hR3
            have HSF := Lib.hid hSf
            have HBF := Lib.hid hBf
            clear hR3 hSf hBf hf
            go_wp2
            rw [← hWf]
            clear hWf
            exact bodyPost_ret (v := .agg #[.slice xa P.length xc, .slice na B2.length nc, .slice za A.length zc, .int .i64 u, .int .i64 n]) (by simp [results, Tryd.results19, go_sem, q0, q1, q2, q3, q4]) rfl ⟨_, _, _, _, _, _, _, _, _, _, _, rfl, HLEN.1, HLEN.2.1, HLEN.2.2.1, HLEN.2.2.2, HRF.out, HSF.out, HBF.out⟩
          · skip
            go_simp
            go_at_call 20
            refine (n_any g b len cap _ _ HC.out.src (by omega)).mono ?_
            rintro e v4 ⟨z, rfl, v0, v1, hs, hb⟩
            have HC := Lib.hid (HC.out.bu hg hs hb)
            have hz0 : 0 ≤ z := v0
            have hz3 : z < 3 := by omega
            clear hs hb v0 v1
            refine hK.out _ _ trivial (fun _ => ?_)
            clear hK K
            refine tk 4 hHeld ?_
            refine rd2 1 5 (fun K hK => ?_) (fun K hK => ?_)
            · skip
              have k0 := HC.out.desk.at_ 1 rfl
              try have k1 := (HC.out.call ((Below.refl _ _).alloc (Nat.le_refl _) (.cells #[.int .i64 0, .int .i64 0, .int .i64 0, .int .i64 0, .int .i64 z, .int .i64 0] 48))).desk.at_ 1 rfl
              go_simp
              refine hK.out _ _ trivial (fun _ => ?_)
              clear k0
              try clear k1
              clear hK K
              refine rd1 5 (fun K hK => ?_)
              go_simp
              refine hK.out _ _ trivial (fun _ => ?_)
              clear hK K
              refine rd1 6 (fun K hK => ?_)
              obtain ⟨na, nc, w9, hr, hd9, Z, hZ, hDZ⟩ := ds_box HC.out hg hl2 0 0 0 0 z 0
              obtain ⟨B2, hB2⟩ : ∃ L, L = B ++ [((0, 0), (0, 0), z, 0)] := ⟨_, rfl⟩
              rw [← hB2] at hDZ
              have hlB : B2.length ≤ 9 := by rw [hB2, len1]; omega
              clear hB2
              have HR := Lib.hid hr
              have HD9 := Lib.hid hd9
              have HZ := Lib.hid hZ
              have HDZ := Lib.hid hDZ
              clear hr hd9 hZ hDZ
              refine step_app rfl (.tmp 74) (.tmp 78) 23 rfl rfl rfl HR.out ?_
              refine hK.out _ _ trivial (fun _ => ?_)
              clear hK K
              refine tk 7 hHeld ?_
              refine rd1 8 (fun K hK => ?_)
              have k0 := HD9.out.at_ 1 rfl
              have s0 := HD9.out.soft 1
              go_simp
              rw [← HZ.out]
              refine hK.out _ _ trivial (fun _ => ?_)
              clear hK K
              refine rd0 ?_
              have HLEN : 2 ≤ P.length ∧ P.length ≤ 5 ∧ B2.length ≤ 9 ∧ A.length ≤ 20 := ⟨by omega, by omega, hlB, by omega⟩
              have d0 := HDZ.out.desk.at_ 0 rfl
              have d1 := HDZ.out.desk.at_ 1 rfl
              have d2 := HDZ.out.desk.at_ 2 rfl
              have d3 := HDZ.out.desk.at_ 3 rfl
              have d4 := HDZ.out.desk.at_ 4 rfl
              have z0 := HDZ.out.out.at_ 0 rfl
              have z1 := HDZ.out.out.at_ 1 rfl
              have z2 := HDZ.out.out.at_ 2 rfl
              have z3 := HDZ.out.out.at_ 3 rfl
              have z4 := HDZ.out.out.at_ 4 rfl
              have o0 := HDZ.out.out.soft 0
              have o1 := HDZ.out.out.soft 1
              have o2 := HDZ.out.out.soft 2
              have o3 := HDZ.out.out.soft 3
              have o4 := HDZ.out.out.soft 4
              obtain ⟨Wf, hWf, hf, hR3, hSf, hBf⟩ := ds_out HDZ.out hg
              have q0 := hf.at_ 0 rfl
              have q1 := hf.at_ 1 rfl
              have q2 := hf.at_ 2 rfl
              have q3 := hf.at_ 3 rfl
              have q4 := hf.at_ 4 rfl
              have HRF := Lib.hid hR3
              have HSF := Lib.hid hSf
              have HBF := Lib.hid hBf
              clear hR3 hSf hBf hf
              go_wp2
              rw [← hWf]
              clear hWf
              exact bodyPost_ret (v := .agg #[.slice xa P.length xc, .slice na B2.length nc, .slice za A.length zc, .int .i64 u, .int .i64 n]) (by simp [results, Tryd.results19, go_sem, q0, q1, q2, q3, q4]) rfl ⟨_, _, _, _, _, _, _, _, _, _, _, rfl, HLEN.1, HLEN.2.1, HLEN.2.2.1, HLEN.2.2.2, HRF.out, HSF.out, HBF.out⟩
            · skip
              go_simp
              refine hK.out _ _ trivial (fun _ => ?_)
              clear hK K
              refine rd1 1 (fun K hK => ?_)
              have k0 := HC.out.desk.at_ 1 rfl
              try have k1 := (HC.out.call ((Below.refl _ _).alloc (Nat.le_refl _) (.cells #[.int .i64 0, .int .i64 0, .int .i64 0, .int .i64 0, .int .i64 z, .int .i64 0] 48))).desk.at_ 1 rfl
              go_simp
              refine hK.out _ _ trivial (fun _ => ?_)
              clear k0
              try clear k1
              clear hK K
              refine rd1 6 (fun K hK => ?_)
              obtain ⟨na, nc, w9, hr, hd9, Z, hZ, hDZ⟩ := ds_box HC.out hg hl2 0 0 0 0 z 0
              obtain ⟨B2, hB2⟩ : ∃ L, L = B ++ [((0, 0), (0, 0), z, 0)] := ⟨_, rfl⟩
              rw [← hB2] at hDZ
              have hlB : B2.length ≤ 9 := by rw [hB2, len1]; omega
              clear hB2
              have HR := Lib.hid hr
              have HD9 := Lib.hid hd9
              have HZ := Lib.hid hZ
              have HDZ := Lib.hid hDZ
              clear hr hd9 hZ hDZ
              refine step_app rfl (.tmp 74) (.tmp 78) 23 rfl rfl rfl HR.out ?_
              refine hK.out _ _ trivial (fun _ => ?_)
              clear hK K
              refine tk 7 hHeld ?_
              refine rd1 8 (fun K hK => ?_)
              have k0 := HD9.out.at_ 1 rfl
              have s0 := HD9.out.soft 1
              go_simp
              rw [← HZ.out]
              refine hK.out _ _ trivial (fun _ => ?_)
              clear hK K
              refine rd0 ?_
              have HLEN : 2 ≤ P.length ∧ P.length ≤ 5 ∧ B2.length ≤ 9 ∧ A.length ≤ 20 := ⟨by omega, by omega, hlB, by omega⟩
              have d0 := HDZ.out.desk.at_ 0 rfl
              have d1 := HDZ.out.desk.at_ 1 rfl
              have d2 := HDZ.out.desk.at_ 2 rfl
              have d3 := HDZ.out.desk.at_ 3 rfl
              have d4 := HDZ.out.desk.at_ 4 rfl
              have z0 := HDZ.out.out.at_ 0 rfl
              have z1 := HDZ.out.out.at_ 1 rfl
              have z2 := HDZ.out.out.at_ 2 rfl
              have z3 := HDZ.out.out.at_ 3 rfl
              have z4 := HDZ.out.out.at_ 4 rfl
              have o0 := HDZ.out.out.soft 0
              have o1 := HDZ.out.out.soft 1
              have o2 := HDZ.out.out.soft 2
              have o3 := HDZ.out.out.soft 3
              have o4 := HDZ.out.out.soft 4
              obtain ⟨Wf, hWf, hf, hR3, hSf, hBf⟩ := ds_out HDZ.out hg
              have q0 := hf.at_ 0 rfl
              have q1 := hf.at_ 1 rfl
              have q2 := hf.at_ 2 rfl
              have q3 := hf.at_ 3 rfl
              have q4 := hf.at_ 4 rfl
              have HRF := Lib.hid hR3
              have HSF := Lib.hid hSf
              have HBF := Lib.hid hBf
              clear hR3 hSf hBf hf
              go_wp2
              rw [← hWf]
              clear hWf
              exact bodyPost_ret (v := .agg #[.slice xa P.length xc, .slice na B2.length nc, .slice za A.length zc, .int .i64 u, .int .i64 n]) (by simp [results, Tryd.results19, go_sem, q0, q1, q2, q3, q4]) rfl ⟨_, _, _, _, _, _, _, _, _, _, _, rfl, HLEN.1, HLEN.2.1, HLEN.2.2.1, HLEN.2.2.2, HRF.out, HSF.out, HBF.out⟩
        · go_upto_region 13 with fail
          refine wp_region_held_drew (S := (fun _ => True)) (by kernel_rfl) (trivial) (fun hHeld => ?_)
          obtain ⟨wd, hwd⟩ : ∃ x, x = w3.drew := ⟨_, rfl⟩
          have HC := Lib.hid (show DS g b len cap w0 P B A u n xa xc ya yc za zc wd from by rw [hwd]; exact HD3.out.call (Below.refl _ _).drew)
          rw [← hwd]
          clear hwd HD3
          obtain ⟨gp, x0, x1, x2, x3, x4, x5, hxa, hgp, hgpl, f0, f1, f2, f3, f4, f5⟩ := r3_pair HC.out.rows (r := 0) (by omega)
          simp only [Nat.zero_mul, Nat.zero_add] at f0 f1 f2 f3 f4 f5
          subst hxa
          have F0 := Lib.hid f0
          have F1 := Lib.hid f1
          have F2 := Lib.hid f2
          have F3 := Lib.hid f3
          have F4 := Lib.hid f4
          have F5 := Lib.hid f5
          clear f0 f1 f2 f3 f4 f5
          have hi1 : (0 : Int) < (P.length : Int) := by omega
          have hi2 : 0 < P.length := by omega
          refine tk 0 hHeld ?_
          refine tk 2 hHeld ?_
          refine rd2 1 3 (fun K hK => ?_) (fun K hK => ?_)
          · skip
            have k0 := HC.out.desk.at_ 0 rfl
            try have k1 := (HC.out.call ((Below.refl _ _).alloc (Nat.le_refl _) (.cells #[.int .i64 x0, .int .i64 x1, .int .i64 x2, .int .i64 x3, .int .i64 x4, .int .i64 x5] 48))).desk.at_ 0 rfl
            go_simp
            refine hK.out _ _ trivial (fun _ => ?_)
            clear k0
            try clear k1
            clear hK K
            refine rd1 3 (fun K hK => ?_)
            have k0 := HC.out.desk.at_ 0 rfl
            go_simp
            refine hK.out _ _ trivial (fun _ => ?_)
            clear k0
            clear hK K
            refine tk 4 hHeld ?_
            refine rd1 5 (fun K hK => ?_)
            have f0 := F0.out
            have f1 := F1.out
            have f2 := F2.out
            have f3 := F3.out
            have f4 := F4.out
            have f5 := F5.out
            go_simp
            refine hK.out _ _ trivial (fun _ => ?_)
            clear f0 f1 f2 f3 f4 f5
            clear hK K
            refine rd1 6 (fun K hK => ?_)
            go_simp
            refine hK.out _ _ trivial (fun _ => ?_)
            clear hK K
            refine rd1 7 (fun K hK => ?_)
            obtain ⟨na, nc, w9, hr, hd9, Z, hZ, hDZ⟩ := ds_pairs HC.out hg hl1 x0 x1 x2 x3 x4 x5
            obtain ⟨P2, hP2'⟩ : ∃ L, L = P ++ [((x0, x1), (x2, x3), x4, x5)] := ⟨_, rfl⟩
            rw [← hP2'] at hDZ
            have hlP : 2 ≤ P2.length ∧ P2.length ≤ 5 := by rw [hP2', len1]; omega
            clear hP2'
            have HR := Lib.hid hr
            have HD9 := Lib.hid hd9
            have HZ := Lib.hid hZ
            have HDZ := Lib.hid hDZ
            clear hr hd9 hZ hDZ
            refine step_app rfl (.tmp 49) (.tmp 54) 23 rfl rfl rfl HR.out ?_
            refine hK.out _ _ trivial (fun _ => ?_)
            clear hK K
            refine tk 8 hHeld ?_
            refine rd1 9 (fun K hK => ?_)
            have k0 := HD9.out.at_ 0 rfl
            have s0 := HD9.out.soft 0
            go_simp
            rw [← HZ.out]
            refine hK.out _ _ trivial (fun _ => ?_)
            clear hK K
            refine rd0 ?_
            have HLEN : 2 ≤ P2.length ∧ P2.length ≤ 5 ∧ B.length ≤ 9 ∧ A.length ≤ 20 := ⟨hlP.1, hlP.2, by omega, by omega⟩
            have d0 := HDZ.out.desk.at_ 0 rfl
            have d1 := HDZ.out.desk.at_ 1 rfl
            have d2 := HDZ.out.desk.at_ 2 rfl
            have d3 := HDZ.out.desk.at_ 3 rfl
            have d4 := HDZ.out.desk.at_ 4 rfl
            have z0 := HDZ.out.out.at_ 0 rfl
            have z1 := HDZ.out.out.at_ 1 rfl
            have z2 := HDZ.out.out.at_ 2 rfl
            have z3 := HDZ.out.out.at_ 3 rfl
            have z4 := HDZ.out.out.at_ 4 rfl
            have o0 := HDZ.out.out.soft 0
            have o1 := HDZ.out.out.soft 1
            have o2 := HDZ.out.out.soft 2
            have o3 := HDZ.out.out.soft 3
            have o4 := HDZ.out.out.soft 4
            obtain ⟨Wf, hWf, hf, hR3, hSf, hBf⟩ := ds_out HDZ.out hg
            have q0 := hf.at_ 0 rfl
            have q1 := hf.at_ 1 rfl
            have q2 := hf.at_ 2 rfl
            have q3 := hf.at_ 3 rfl
            have q4 := hf.at_ 4 rfl
            have HRF := Lib.hid hR3
            have HSF := Lib.hid hSf
            have HBF := Lib.hid hBf
            clear hR3 hSf hBf hf
            go_wp2
            rw [← hWf]
            clear hWf
            exact bodyPost_ret (v := .agg #[.slice na P2.length nc, .slice ya B.length yc, .slice za A.length zc, .int .i64 u, .int .i64 n]) (by simp [results, Tryd.results19, go_sem, q0, q1, q2, q3, q4]) rfl ⟨_, _, _, _, _, _, _, _, _, _, _, rfl, HLEN.1, HLEN.2.1, HLEN.2.2.1, HLEN.2.2.2, HRF.out, HSF.out, HBF.out⟩
          · skip
            have k0 := HC.out.desk.at_ 0 rfl
            go_simp
            refine hK.out _ _ trivial (fun _ => ?_)
            clear k0
            clear hK K
            refine tk 4 hHeld ?_
            refine rd2 1 5 (fun K hK => ?_) (fun K hK => ?_)
            · skip
              have k0 := HC.out.desk.at_ 0 rfl
              try have k1 := (HC.out.call ((Below.refl _ _).alloc (Nat.le_refl _) (.cells #[.int .i64 x0, .int .i64 x1, .int .i64 x2, .int .i64 x3, .int .i64 x4, .int .i64 x5] 48))).desk.at_ 0 rfl
              go_simp
              refine hK.out _ _ trivial (fun _ => ?_)
              clear k0
              try clear k1
              clear hK K
              refine rd1 5 (fun K hK => ?_)
              have f0 := F0.out
              have f1 := F1.out
              have f2 := F2.out
              have f3 := F3.out
              have f4 := F4.out
              have f5 := F5.out
              go_simp
              refine hK.out _ _ trivial (fun _ => ?_)
              clear f0 f1 f2 f3 f4 f5
              clear hK K
              refine rd1 6 (fun K hK => ?_)
              go_simp
              refine hK.out _ _ trivial (fun _ => ?_)
              clear hK K
              refine rd1 7 (fun K hK => ?_)
              obtain ⟨na, nc, w9, hr, hd9, Z, hZ, hDZ⟩ := ds_pairs HC.out hg hl1 x0 x1 x2 x3 x4 x5
              obtain ⟨P2, hP2'⟩ : ∃ L, L = P ++ [((x0, x1), (x2, x3), x4, x5)] := ⟨_, rfl⟩
              rw [← hP2'] at hDZ
              have hlP : 2 ≤ P2.length ∧ P2.length ≤ 5 := by rw [hP2', len1]; omega
              clear hP2'
              have HR := Lib.hid hr
              have HD9 := Lib.hid hd9
              have HZ := Lib.hid hZ
              have HDZ := Lib.hid hDZ
              clear hr hd9 hZ hDZ
              refine step_app rfl (.tmp 49) (.tmp 54) 23 rfl rfl rfl HR.out ?_
              refine hK.out _ _ trivial (fun _ => ?_)
              clear hK K
              refine tk 8 hHeld ?_
              refine rd1 9 (fun K hK => ?_)
              have k0 := HD9.out.at_ 0 rfl
              have s0 := HD9.out.soft 0
              go_simp
              rw [← HZ.out]
              refine hK.out _ _ trivial (fun _ => ?_)
              clear hK K
              refine rd0 ?_
              have HLEN : 2 ≤ P2.length ∧ P2.length ≤ 5 ∧ B.length ≤ 9 ∧ A.length ≤ 20 := ⟨hlP.1, hlP.2, by omega, by omega⟩
              have d0 := HDZ.out.desk.at_ 0 rfl
              have d1 := HDZ.out.desk.at_ 1 rfl
              have d2 := HDZ.out.desk.at_ 2 rfl
              have d3 := HDZ.out.desk.at_ 3 rfl
              have d4 := HDZ.out.desk.at_ 4 rfl
              have z0 := HDZ.out.out.at_ 0 rfl
              have z1 := HDZ.out.out.at_ 1 rfl
              have z2 := HDZ.out.out.at_ 2 rfl
              have z3 := HDZ.out.out.at_ 3 rfl
              have z4 := HDZ.out.out.at_ 4 rfl
              have o0 := HDZ.out.out.soft 0
              have o1 := HDZ.out.out.soft 1
              have o2 := HDZ.out.out.soft 2
              have o3 := HDZ.out.out.soft 3
              have o4 := HDZ.out.out.soft 4
              obtain ⟨Wf, hWf, hf, hR3, hSf, hBf⟩ := ds_out HDZ.out hg
              have q0 := hf.at_ 0 rfl
              have q1 := hf.at_ 1 rfl
              have q2 := hf.at_ 2 rfl
              have q3 := hf.at_ 3 rfl
              have q4 := hf.at_ 4 rfl
              have HRF := Lib.hid hR3
              have HSF := Lib.hid hSf
              have HBF := Lib.hid hBf
              clear hR3 hSf hBf hf
              go_wp2
              rw [← hWf]
              clear hWf
              exact bodyPost_ret (v := .agg #[.slice na P2.length nc, .slice ya B.length yc, .slice za A.length zc, .int .i64 u, .int .i64 n]) (by simp [results, Tryd.results19, go_sem, q0, q1, q2, q3, q4]) rfl ⟨_, _, _, _, _, _, _, _, _, _, _, rfl, HLEN.1, HLEN.2.1, HLEN.2.2.1, HLEN.2.2.2, HRF.out, HSF.out, HBF.out⟩
            · skip
              have f0 := F0.out
              have f1 := F1.out
              have f2 := F2.out
              have f3 := F3.out
              have f4 := F4.out
              have f5 := F5.out
              go_simp
              refine hK.out _ _ trivial (fun _ => ?_)
              clear f0 f1 f2 f3 f4 f5
              clear hK K
              refine rd2 1 6 (fun K hK => ?_) (fun K hK => ?_)
              · skip
                have k0 := HC.out.desk.at_ 0 rfl
                try have k1 := (HC.out.call ((Below.refl _ _).alloc (Nat.le_refl _) (.cells #[.int .i64 x0, .int .i64 x1, .int .i64 x2, .int .i64 x3, .int .i64 x4, .int .i64 x5] 48))).desk.at_ 0 rfl
                go_simp
                refine hK.out _ _ trivial (fun _ => ?_)
                clear k0
                try clear k1
                clear hK K
                refine rd1 6 (fun K hK => ?_)
                go_simp
                refine hK.out _ _ trivial (fun _ => ?_)
                clear hK K
                refine rd1 7 (fun K hK => ?_)
                obtain ⟨na, nc, w9, hr, hd9, Z, hZ, hDZ⟩ := ds_pairs HC.out hg hl1 x0 x1 x2 x3 x4 x5
                obtain ⟨P2, hP2'⟩ : ∃ L, L = P ++ [((x0, x1), (x2, x3), x4, x5)] := ⟨_, rfl⟩
                rw [← hP2'] at hDZ
                have hlP : 2 ≤ P2.length ∧ P2.length ≤ 5 := by rw [hP2', len1]; omega
                clear hP2'
                have HR := Lib.hid hr
                have HD9 := Lib.hid hd9
                have HZ := Lib.hid hZ
                have HDZ := Lib.hid hDZ
                clear hr hd9 hZ hDZ
                refine step_app rfl (.tmp 49) (.tmp 54) 23 rfl rfl rfl HR.out ?_
                refine hK.out _ _ trivial (fun _ => ?_)
                clear hK K
                refine tk 8 hHeld ?_
                refine rd1 9 (fun K hK => ?_)
                have k0 := HD9.out.at_ 0 rfl
                have s0 := HD9.out.soft 0
                go_simp
                rw [← HZ.out]
                refine hK.out _ _ trivial (fun _ => ?_)
                clear hK K
                refine rd0 ?_
                have HLEN : 2 ≤ P2.length ∧ P2.length ≤ 5 ∧ B.length ≤ 9 ∧ A.length ≤ 20 := ⟨hlP.1, hlP.2, by omega, by omega⟩
                have d0 := HDZ.out.desk.at_ 0 rfl
                have d1 := HDZ.out.desk.at_ 1 rfl
                have d2 := HDZ.out.desk.at_ 2 rfl
                have d3 := HDZ.out.desk.at_ 3 rfl
                have d4 := HDZ.out.desk.at_ 4 rfl
                have z0 := HDZ.out.out.at_ 0 rfl
                have z1 := HDZ.out.out.at_ 1 rfl
                have z2 := HDZ.out.out.at_ 2 rfl
                have z3 := HDZ.out.out.at_ 3 rfl
                have z4 := HDZ.out.out.at_ 4 rfl
                have o0 := HDZ.out.out.soft 0
                have o1 := HDZ.out.out.soft 1
                have o2 := HDZ.out.out.soft 2
                have o3 := HDZ.out.out.soft 3
                have o4 := HDZ.out.out.soft 4
                obtain ⟨Wf, hWf, hf, hR3, hSf, hBf⟩ := ds_out HDZ.out hg
                have q0 := hf.at_ 0 rfl
                have q1 := hf.at_ 1 rfl
                have q2 := hf.at_ 2 rfl
                have q3 := hf.at_ 3 rfl
                have q4 := hf.at_ 4 rfl
                have HRF := Lib.hid hR3
                have HSF := Lib.hid hSf
                have HBF := Lib.hid hBf
                clear hR3 hSf hBf hf
                go_wp2
                rw [← hWf]
                clear hWf
                exact bodyPost_ret (v := .agg #[.slice na P2.length nc, .slice ya B.length yc, .slice za A.length zc, .int .i64 u, .int .i64 n]) (by simp [results, Tryd.results19, go_sem, q0, q1, q2, q3, q4]) rfl ⟨_, _, _, _, _, _, _, _, _, _, _, rfl, HLEN.1, HLEN.2.1, HLEN.2.2.1, HLEN.2.2.2, HRF.out, HSF.out, HBF.out⟩
              · skip
                go_simp
                refine hK.out _ _ trivial (fun _ => ?_)
                clear hK K
                refine rd1 1 (fun K hK => ?_)
                have k0 := HC.out.desk.at_ 0 rfl
                try have k1 := (HC.out.call ((Below.refl _ _).alloc (Nat.le_refl _) (.cells #[.int .i64 x0, .int .i64 x1, .int .i64 x2, .int .i64 x3, .int .i64 x4, .int .i64 x5] 48))).desk.at_ 0 rfl
                go_simp
                refine hK.out _ _ trivial (fun _ => ?_)
                clear k0
                try clear k1
                clear hK K
                refine rd1 7 (fun K hK => ?_)
                obtain ⟨na, nc, w9, hr, hd9, Z, hZ, hDZ⟩ := ds_pairs HC.out hg hl1 x0 x1 x2 x3 x4 x5
                obtain ⟨P2, hP2'⟩ : ∃ L, L = P ++ [((x0, x1), (x2, x3), x4, x5)] := ⟨_, rfl⟩
                rw [← hP2'] at hDZ
                have hlP : 2 ≤ P2.length ∧ P2.length ≤ 5 := by rw [hP2', len1]; omega
                clear hP2'
                have HR := Lib.hid hr
                have HD9 := Lib.hid hd9
                have HZ := Lib.hid hZ
                have HDZ := Lib.hid hDZ
                clear hr hd9 hZ hDZ
                refine step_app rfl (.tmp 49) (.tmp 54) 23 rfl rfl rfl HR.out ?_
                refine hK.out _ _ trivial (fun _ => ?_)
                clear hK K
                refine tk 8 hHeld ?_
                refine rd1 9 (fun K hK => ?_)
                have k0 := HD9.out.at_ 0 rfl
                have s0 := HD9.out.soft 0
                go_simp
                rw [← HZ.out]
                refine hK.out _ _ trivial (fun _ => ?_)
                clear hK K
                refine rd0 ?_
                have HLEN : 2 ≤ P2.length ∧ P2.length ≤ 5 ∧ B.length ≤ 9 ∧ A.length ≤ 20 := ⟨hlP.1, hlP.2, by omega, by omega⟩
                have d0 := HDZ.out.desk.at_ 0 rfl
                have d1 := HDZ.out.desk.at_ 1 rfl
                have d2 := HDZ.out.desk.at_ 2 rfl
                have d3 := HDZ.out.desk.at_ 3 rfl
                have d4 := HDZ.out.desk.at_ 4 rfl
                have z0 := HDZ.out.out.at_ 0 rfl
                have z1 := HDZ.out.out.at_ 1 rfl
                have z2 := HDZ.out.out.at_ 2 rfl
                have z3 := HDZ.out.out.at_ 3 rfl
                have z4 := HDZ.out.out.at_ 4 rfl
                have o0 := HDZ.out.out.soft 0
                have o1 := HDZ.out.out.soft 1
                have o2 := HDZ.out.out.soft 2
                have o3 := HDZ.out.out.soft 3
                have o4 := HDZ.out.out.soft 4
                obtain ⟨Wf, hWf, hf, hR3, hSf, hBf⟩ := ds_out HDZ.out hg
                have q0 := hf.at_ 0 rfl
                have q1 := hf.at_ 1 rfl
                have q2 := hf.at_ 2 rfl
                have q3 := hf.at_ 3 rfl
                have q4 := hf.at_ 4 rfl
                have HRF := Lib.hid hR3
                have HSF := Lib.hid hSf
                have HBF := Lib.hid hBf
                clear hR3 hSf hBf hf
                go_wp2
                rw [← hWf]
                clear hWf
                exact bodyPost_ret (v := .agg #[.slice na P2.length nc, .slice ya B.length yc, .slice za A.length zc, .int .i64 u, .int .i64 n]) (by simp [results, Tryd.results19, go_sem, q0, q1, q2, q3, q4]) rfl ⟨_, _, _, _, _, _, _, _, _, _, _, rfl, HLEN.1, HLEN.2.1, HLEN.2.2.1, HLEN.2.2.2, HRF.out, HSF.out, HBF.out⟩
    · have hpos : (0 : Int) < r := by omega
      have hrm : (r : Int) - 1 = ((r - 1 : Nat) : Int) := by omega
      have hrw : IntKind.i64.wrap ((r - 1 : Nat) : Int) = ((r - 1 : Nat) : Int) := IntWalk.i64_in _ (by omega)
      have hgr : g < wr.heap.size := HD.out.src.lt
      have hdl := HD.out.desk.lt
      have hdg : w0.heap.size + 1 + 1 ≠ g := by omega
      have hzw := HD.out.but.size
      have E0 := Lib.hid (HD.out.desk.at_ 0 rfl)
      have E1 := Lib.hid (HD.out.desk.at_ 1 rfl)
      have E2 := Lib.hid (HD.out.desk.at_ 2 rfl)
      have E3 := Lib.hid (HD.out.desk.at_ 3 rfl)
      have E4 := Lib.hid (HD.out.desk.at_ 4 rfl)
      go_upto_region 5 with fail
      go_cut [5] from 17 to 43 (fun s5 wx => ∃ (bx : Nat) (x0 x1 x2 x3 x4 x5 : Int), s5 = .pointer (some ⟨bx, 0, none⟩) ∧ wr.heap.size ≤ bx ∧ Hid (Blk wx bx 48 #[.int .i64 x0, .int .i64 x1, .int .i64 x2, .int .i64 x3, .int .i64 x4, .int .i64 x5]) ∧ Hid (LS g b len cap wr wx))
      case first =>
        refine wp_region_held_drew (S := (fun V => LS g b len cap wr V)) (by kernel_rfl) (⟨HD.out.src.mono (Below.refl _ _).drew, (But.refl _ _).drew⟩) (fun hHeld => ?_)
        refine tk 0 hHeld ?_
        refine tk 1 hHeld ?_ (hy := fun w hSw => by (try dsimp only at hSw); have k0 := (hSw.2.cell (p := ⟨w0.heap.size + 1 + 1, 0, none⟩) hdl hdg).trans E0.out; clear hSw; go_simp; try with_reducible rfl)
        refine tk 2 hHeld ?_
        refine rd2 3 6 (fun K hK => ?_) (fun K hK => ?_)
        · skip
          go_simp
          go_at_call 20
          refine (n_any g b len cap _ _ hHeld.1 (by omega)).mono ?_
          rintro e v4 ⟨q, rfl, v0, v1, hs, hb⟩
          obtain ⟨j, rfl⟩ : ∃ j : Nat, q = (j : Int) := ⟨q.toNat, by omega⟩
          have hj : j < P.length := by omega
          obtain ⟨gp, x0, x1, x2, x3, x4, x5, hxa, hgp, hgpl, f0, f1, f2, f3, f4, f5⟩ := r3_pair HD.out.rows hj
          have hgpg : gp ≠ g := by omega
          have HXA := Lib.hid hxa
          subst hxa
          have F0 := Lib.hid f0
          have F1 := Lib.hid f1
          have F2 := Lib.hid f2
          have F3 := Lib.hid f3
          have F4 := Lib.hid f4
          have F5 := Lib.hid f5
          clear f0 f1 f2 f3 f4 f5
          have hi0 : (0 : Int) ≤ (j : Int) := Int.natCast_nonneg _
          have hi1 : (j : Int) < (P.length : Int) := by omega
          try have HX := Lib.hid (Blk.but HX.out hb (by have := HX0.out; omega))
          have hsx : LS g b len cap wr v4 := ⟨hs, hHeld.2.trans hb⟩
          clear hs hb v0 v1
          refine hK.out _ _ hsx (fun hHeld => ?_)
          clear hsx
          clear hK K
          refine tk 4 hHeld ?_
          refine tk 5 hHeld ?_ (hy := fun w hSw => by (try dsimp only at hSw); have k0 := (hSw.2.cell (p := ⟨gp, j * 6, none⟩) hgpl hgpg).trans F0.out; have k1 := (hSw.2.cell (p := ⟨gp, j * 6 + 1, none⟩) hgpl hgpg).trans F1.out; have k2 := (hSw.2.cell (p := ⟨gp, j * 6 + 2, none⟩) hgpl hgpg).trans F2.out; have k3 := (hSw.2.cell (p := ⟨gp, j * 6 + 3, none⟩) hgpl hgpg).trans F3.out; have k4 := (hSw.2.cell (p := ⟨gp, j * 6 + 4, none⟩) hgpl hgpg).trans F4.out; have k5 := (hSw.2.cell (p := ⟨gp, j * 6 + 5, none⟩) hgpl hgpg).trans F5.out; clear hSw; go_simp; try with_reducible rfl)
          refine rd1 6 (fun K hK => ?_)
          obtain ⟨U, bx, hU, hbx, hsU, hXU, hX0, hbU⟩ := ls_new hHeld hgr #[.int .i64 0, .int .i64 0, .int .i64 0, .int .i64 0, .int .i64 0, .int .i64 0] 48
          go_simp
          first | rw [← hU, ← hbx] | rw [show (wr.alloc (.cells #[.int .i64 0, .int .i64 0, .int .i64 0, .int .i64 0, .int .i64 0, .int .i64 0] 48)).drew = U from hU.symm, show wr.heap.size = bx from hbx.symm]
          have HX := Lib.hid hXU
          have HX0 := Lib.hid hX0
          refine hK.out _ _ hsU (fun hHeld => ?_)
          clear hU hbx hXU hsU hX0 hbU
          clear hK K
          refine rd1 7 (fun K hK => ?_)
          obtain ⟨Z, hZ, hsZ, hXZ⟩ := ls_letter hHeld HX.out hgr HX0.out x0 x1 x2 x3 x4 x5
          have r0 := HX.out.at_ 0 rfl
          have r1 := HX.out.at_ 1 rfl
          have r2 := HX.out.at_ 2 rfl
          have r3 := HX.out.at_ 3 rfl
          have r4 := HX.out.at_ 4 rfl
          have r5 := HX.out.at_ 5 rfl
          have o0 := HX.out.soft 0
          have o1 := HX.out.soft 1
          have o2 := HX.out.soft 2
          have o3 := HX.out.soft 3
          have o4 := HX.out.soft 4
          have o5 := HX.out.soft 5
          go_simp
          rw [← hZ]
          have HX := Lib.hid hXZ
          clear hZ hXZ r0 r1 r2 r3 r4 r5 o0 o1 o2 o3 o4 o5
          refine hK.out _ _ hsZ (fun hHeld => ?_)
          clear hsZ
          clear hK K
          refine rd0 ?_
          have HL := Lib.hid hHeld
          clear hHeld
          go_wp2_with fail
          go_meet
          exact ⟨_, x0, x1, x2, x3, x4, x5, rfl, HX0.out, HX, HL⟩
        · skip
          obtain ⟨U, bx, hU, hbx, hsU, hXU, hX0, hbU⟩ := ls_new hHeld hgr #[.int .i64 0, .int .i64 0, .int .i64 0, .int .i64 0, .int .i64 0, .int .i64 0] 48
          go_simp
          first | rw [← hU, ← hbx] | rw [show (wr.alloc (.cells #[.int .i64 0, .int .i64 0, .int .i64 0, .int .i64 0, .int .i64 0, .int .i64 0] 48)).drew = U from hU.symm, show wr.heap.size = bx from hbx.symm]
          have HX := Lib.hid hXU
          have HX0 := Lib.hid hX0
          refine hK.out _ _ hsU (fun hHeld => ?_)
          clear hU hbx hXU hsU hX0 hbU
          clear hK K
          refine rd1 3 (fun K hK => ?_)
          go_simp
          go_at_call 20
          refine (n_any g b len cap _ _ hHeld.1 (by omega)).mono ?_
          rintro e v4 ⟨q, rfl, v0, v1, hs, hb⟩
          obtain ⟨j, rfl⟩ : ∃ j : Nat, q = (j : Int) := ⟨q.toNat, by omega⟩
          have hj : j < P.length := by omega
          obtain ⟨gp, x0, x1, x2, x3, x4, x5, hxa, hgp, hgpl, f0, f1, f2, f3, f4, f5⟩ := r3_pair HD.out.rows hj
          have hgpg : gp ≠ g := by omega
          have HXA := Lib.hid hxa
          subst hxa
          have F0 := Lib.hid f0
          have F1 := Lib.hid f1
          have F2 := Lib.hid f2
          have F3 := Lib.hid f3
          have F4 := Lib.hid f4
          have F5 := Lib.hid f5
          clear f0 f1 f2 f3 f4 f5
          have hi0 : (0 : Int) ≤ (j : Int) := Int.natCast_nonneg _
          have hi1 : (j : Int) < (P.length : Int) := by omega
          try have HX := Lib.hid (Blk.but HX.out hb (by have := HX0.out; omega))
          have hsx : LS g b len cap wr v4 := ⟨hs, hHeld.2.trans hb⟩
          clear hs hb v0 v1
          refine hK.out _ _ hsx (fun hHeld => ?_)
          clear hsx
          clear hK K
          refine tk 4 hHeld ?_
          refine tk 5 hHeld ?_ (hy := fun w hSw => by (try dsimp only at hSw); have k0 := (hSw.2.cell (p := ⟨gp, j * 6, none⟩) hgpl hgpg).trans F0.out; have k1 := (hSw.2.cell (p := ⟨gp, j * 6 + 1, none⟩) hgpl hgpg).trans F1.out; have k2 := (hSw.2.cell (p := ⟨gp, j * 6 + 2, none⟩) hgpl hgpg).trans F2.out; have k3 := (hSw.2.cell (p := ⟨gp, j * 6 + 3, none⟩) hgpl hgpg).trans F3.out; have k4 := (hSw.2.cell (p := ⟨gp, j * 6 + 4, none⟩) hgpl hgpg).trans F4.out; have k5 := (hSw.2.cell (p := ⟨gp, j * 6 + 5, none⟩) hgpl hgpg).trans F5.out; clear hSw; go_simp; try with_reducible rfl)
          refine rd1 7 (fun K hK => ?_)
          obtain ⟨Z, hZ, hsZ, hXZ⟩ := ls_letter hHeld HX.out hgr HX0.out x0 x1 x2 x3 x4 x5
          have r0 := HX.out.at_ 0 rfl
          have r1 := HX.out.at_ 1 rfl
          have r2 := HX.out.at_ 2 rfl
          have r3 := HX.out.at_ 3 rfl
          have r4 := HX.out.at_ 4 rfl
          have r5 := HX.out.at_ 5 rfl
          have o0 := HX.out.soft 0
          have o1 := HX.out.soft 1
          have o2 := HX.out.soft 2
          have o3 := HX.out.soft 3
          have o4 := HX.out.soft 4
          have o5 := HX.out.soft 5
          go_simp
          rw [← hZ]
          have HX := Lib.hid hXZ
          clear hZ hXZ r0 r1 r2 r3 r4 r5 o0 o1 o2 o3 o4 o5
          refine hK.out _ _ hsZ (fun hHeld => ?_)
          clear hsZ
          clear hK K
          refine rd0 ?_
          have HL := Lib.hid hHeld
          clear hHeld
          go_wp2_with fail
          go_meet
          exact ⟨_, x0, x1, x2, x3, x4, x5, rfl, HX0.out, HX, HL⟩
      case rest =>
        obtain ⟨bx, x0, x1, x2, x3, x4, x5, rfl, hbx, HX, HL⟩ := hcut
        rename World => w5
        have HD5 := Lib.hid (HD.out.bu hg HL.out.1 HL.out.2)
        have hbxg : bx ≠ g := by omega
        have hg5 : g < w5.heap.size := HL.out.1.lt
        have hdl5 := HD5.out.desk.lt
        have hxl5 := HX.out.lt
        have hz5 := HL.out.2.size
        clear HL HD E0 E1 E2 E3 E4
        have hw05 := HD5.out.but.size
        have K0 := Lib.hid (HD5.out.desk.at_ 0 rfl)
        have K1 := Lib.hid (HD5.out.desk.at_ 1 rfl)
        have K2 := Lib.hid (HD5.out.desk.at_ 2 rfl)
        have K3 := Lib.hid (HD5.out.desk.at_ 3 rfl)
        have K4 := Lib.hid (HD5.out.desk.at_ 4 rfl)
        have XL0 := Lib.hid (HX.out.at_ 0 rfl)
        have XL1 := Lib.hid (HX.out.at_ 1 rfl)
        have XL2 := Lib.hid (HX.out.at_ 2 rfl)
        have XL3 := Lib.hid (HX.out.at_ 3 rfl)
        clear HX
        go_upto_region 6 with fail
        go_cut [6] from 17 to 43 (fun s6 wx => ∃ (by' : Nat) (P' B' A' : List D_Letter) (u' n' c' : Int) (xa' : Option Addr) (xc' : Nat) (ya' : Option Addr) (yc' : Nat) (za' : Option Addr) (zc' : Nat) (z : Int), s6 = .pointer (some ⟨by', 0, none⟩) ∧ w5.heap.size ≤ by' ∧ Hid (letG (P, B, A, u, n) (x0, x1) (x2, x3) z = ((P', B', A', u', n'), c')) ∧ Hid (Blk wx by' 31 #[.slice xa' P'.length xc', .slice ya' B'.length yc', .slice za' A'.length zc', .int .i64 u', .int .i64 n', .int .i64 c']) ∧ Hid (R3 wx w0.heap.size P' B' A' xa' xc' ya' yc' za' zc') ∧ Hid (LS g b len cap w5 wx))
        case first =>
          refine wp_region_held_drew (S := (fun V => LS g b len cap w5 V)) (by kernel_rfl) (⟨HD5.out.src.mono (Below.refl _ _).drew, (But.refl _ _).drew⟩) (fun hHeld => ?_)
          refine tk 0 hHeld ?_ (hy := fun w hSw => by (try dsimp only at hSw); have k0 := (hSw.2.cell (p := ⟨w0.heap.size + 1 + 1, 0, none⟩) hdl5 hdg).trans K0.out; have k1 := (hSw.2.cell (p := ⟨w0.heap.size + 1 + 1, 1, none⟩) hdl5 hdg).trans K1.out; have k2 := (hSw.2.cell (p := ⟨w0.heap.size + 1 + 1, 2, none⟩) hdl5 hdg).trans K2.out; have k3 := (hSw.2.cell (p := ⟨w0.heap.size + 1 + 1, 3, none⟩) hdl5 hdg).trans K3.out; have k4 := (hSw.2.cell (p := ⟨w0.heap.size + 1 + 1, 4, none⟩) hdl5 hdg).trans K4.out; clear hSw; go_simp; try with_reducible rfl)
          refine tk 1 hHeld ?_
          refine tk 2 hHeld ?_ (hy := fun w hSw => by (try dsimp only at hSw); have k0 := (hSw.2.cell (p := ⟨bx, 0, none⟩) hxl5 hbxg).trans XL0.out; have k1 := (hSw.2.cell (p := ⟨bx, 1, none⟩) hxl5 hbxg).trans XL1.out; clear hSw; go_simp; try with_reducible rfl)
          refine tk 3 hHeld ?_
          refine tk 4 hHeld ?_ (hy := fun w hSw => by (try dsimp only at hSw); have k0 := (hSw.2.cell (p := ⟨bx, 2, none⟩) hxl5 hbxg).trans XL2.out; have k1 := (hSw.2.cell (p := ⟨bx, 3, none⟩) hxl5 hbxg).trans XL3.out; clear hSw; go_simp; try with_reducible rfl)
          refine tk 5 hHeld ?_
          refine rd2 6 8 (fun K hK => ?_) (fun K hK => ?_)
          · skip
            go_simp
            go_at_call 20
            refine (n_any g b len cap _ _ hHeld.1 (by omega)).mono ?_
            rintro e v4 ⟨z, rfl, v0, v1, hs, hb⟩
            try have HX := Lib.hid (Blk.but HX.out hb (by have := HX0.out; omega))
            have hsx : LS g b len cap w5 v4 := ⟨hs, hHeld.2.trans hb⟩
            clear hs hb v0 v1
            refine hK.out _ _ hsx (fun hHeld => ?_)
            clear hsx
            clear hK K
            refine rd2 7 8 (fun K hK => ?_) (fun K hK => ?_)
            · skip
              go_simp
              go_at_call 10
              have hrw := r3_but HD5.out.rows hg hHeld.2
              have hrd := r3_rd hrw
              refine (letdown_rows (f0 := x0) (f1 := x1) (t0 := x2) (t1 := x3) (z := z) ⟨by omega, by omega, by omega⟩ hrd.1 hrd.2.1 hrd.2.2).mono ?_
              intro e v h
              obtain ⟨us, rfl, hro, hb⟩ := newR_elim h
              obtain ⟨⟨⟨P', B', A', u', n'⟩, c'⟩, hd⟩ : ∃ d, letG (P, B, A, u, n) (x0, x1) (x2, x3) z = d := ⟨_, rfl⟩
              rw [hd] at hro
              obtain ⟨xa', xc', ya', yc', za', zc', rfl, hR⟩ := rowsD_elim hro
              have HLD := Lib.hid hd
              have HR := Lib.hid (hR.low (Nat.le_trans hw05 hHeld.2.size))
              try have HX := Lib.hid (HX.out.call hb)
              have hsx := ls_call hHeld hg5 hb
              clear h hro hd hR hb hrw hrd
              refine hK.out _ _ hsx (fun hHeld => ?_)
              clear hsx
              clear hK K
              refine rd1 8 (fun K hK => ?_)
              obtain ⟨U, bx, hU, hbx, hsU, hXU, hX0, hbU⟩ := ls_new hHeld hg5 #[.slice none 0 0, .slice none 0 0, .slice none 0 0, .int .i64 0, .int .i64 0, .int .i64 0] 31
              go_simp
              first | rw [← hU, ← hbx] | rw [show (w5.alloc (.cells #[.slice none 0 0, .slice none 0 0, .slice none 0 0, .int .i64 0, .int .i64 0, .int .i64 0] 31)).drew = U from hU.symm, show w5.heap.size = bx from hbx.symm]
              have HX := Lib.hid hXU
              have HX0 := Lib.hid hX0
              try have HR := Lib.hid (HR.out.call hbU)
              refine hK.out _ _ hsU (fun hHeld => ?_)
              clear hU hbx hXU hsU hX0 hbU
              clear hK K
              refine rd1 9 (fun K hK => ?_)
              obtain ⟨Z, hZ, hsZ, hXZ, hof⟩ := ls_step hHeld HX.out hg5 HX0.out (.slice xa' P'.length xc') (.slice ya' B'.length yc') (.slice za' A'.length zc') (.int .i64 u') (.int .i64 n') (.int .i64 c')
              have r0 := HX.out.at_ 0 rfl
              have r1 := HX.out.at_ 1 rfl
              have r2 := HX.out.at_ 2 rfl
              have r3 := HX.out.at_ 3 rfl
              have r4 := HX.out.at_ 4 rfl
              have r5 := HX.out.at_ 5 rfl
              have o0 := HX.out.soft 0
              have o1 := HX.out.soft 1
              have o2 := HX.out.soft 2
              have o3 := HX.out.soft 3
              have o4 := HX.out.soft 4
              have o5 := HX.out.soft 5
              go_simp
              rw [← hZ]
              have HR := Lib.hid (r3_off HR.out HX.out (by decide) hof)
              have HX := Lib.hid hXZ
              clear hZ hXZ hof r0 r1 r2 r3 r4 r5 o0 o1 o2 o3 o4 o5
              refine hK.out _ _ hsZ (fun hHeld => ?_)
              clear hsZ
              clear hK K
              refine rd0 ?_
              have HL := Lib.hid hHeld
              clear hHeld
              go_wp2_with fail
              go_meet
              exact ⟨_, P', B', A', u', n', c', xa', xc', ya', yc', za', zc', z, rfl, HX0.out, HLD, HX, HR, HL⟩
            · skip
              obtain ⟨U, bx, hU, hbx, hsU, hXU, hX0, hbU⟩ := ls_new hHeld hg5 #[.slice none 0 0, .slice none 0 0, .slice none 0 0, .int .i64 0, .int .i64 0, .int .i64 0] 31
              go_simp
              first | rw [← hU, ← hbx] | rw [show (w5.alloc (.cells #[.slice none 0 0, .slice none 0 0, .slice none 0 0, .int .i64 0, .int .i64 0, .int .i64 0] 31)).drew = U from hU.symm, show w5.heap.size = bx from hbx.symm]
              have HX := Lib.hid hXU
              have HX0 := Lib.hid hX0
              try have HR := Lib.hid (HR.out.call hbU)
              refine hK.out _ _ hsU (fun hHeld => ?_)
              clear hU hbx hXU hsU hX0 hbU
              clear hK K
              refine rd1 7 (fun K hK => ?_)
              go_simp
              go_at_call 10
              have hrw := r3_but HD5.out.rows hg hHeld.2
              have hrd := r3_rd hrw
              refine (letdown_rows (f0 := x0) (f1 := x1) (t0 := x2) (t1 := x3) (z := z) ⟨by omega, by omega, by omega⟩ hrd.1 hrd.2.1 hrd.2.2).mono ?_
              intro e v h
              obtain ⟨us, rfl, hro, hb⟩ := newR_elim h
              obtain ⟨⟨⟨P', B', A', u', n'⟩, c'⟩, hd⟩ : ∃ d, letG (P, B, A, u, n) (x0, x1) (x2, x3) z = d := ⟨_, rfl⟩
              rw [hd] at hro
              obtain ⟨xa', xc', ya', yc', za', zc', rfl, hR⟩ := rowsD_elim hro
              have HLD := Lib.hid hd
              have HR := Lib.hid (hR.low (Nat.le_trans hw05 hHeld.2.size))
              try have HX := Lib.hid (HX.out.call hb)
              have hsx := ls_call hHeld hg5 hb
              clear h hro hd hR hb hrw hrd
              refine hK.out _ _ hsx (fun hHeld => ?_)
              clear hsx
              clear hK K
              refine rd1 9 (fun K hK => ?_)
              obtain ⟨Z, hZ, hsZ, hXZ, hof⟩ := ls_step hHeld HX.out hg5 HX0.out (.slice xa' P'.length xc') (.slice ya' B'.length yc') (.slice za' A'.length zc') (.int .i64 u') (.int .i64 n') (.int .i64 c')
              have r0 := HX.out.at_ 0 rfl
              have r1 := HX.out.at_ 1 rfl
              have r2 := HX.out.at_ 2 rfl
              have r3 := HX.out.at_ 3 rfl
              have r4 := HX.out.at_ 4 rfl
              have r5 := HX.out.at_ 5 rfl
              have o0 := HX.out.soft 0
              have o1 := HX.out.soft 1
              have o2 := HX.out.soft 2
              have o3 := HX.out.soft 3
              have o4 := HX.out.soft 4
              have o5 := HX.out.soft 5
              go_simp
              rw [← hZ]
              have HR := Lib.hid (r3_off HR.out HX.out (by decide) hof)
              have HX := Lib.hid hXZ
              clear hZ hXZ hof r0 r1 r2 r3 r4 r5 o0 o1 o2 o3 o4 o5
              refine hK.out _ _ hsZ (fun hHeld => ?_)
              clear hsZ
              clear hK K
              refine rd0 ?_
              have HL := Lib.hid hHeld
              clear hHeld
              go_wp2_with fail
              go_meet
              exact ⟨_, P', B', A', u', n', c', xa', xc', ya', yc', za', zc', z, rfl, HX0.out, HLD, HX, HR, HL⟩
          · skip
            obtain ⟨U, bx, hU, hbx, hsU, hXU, hX0, hbU⟩ := ls_new hHeld hg5 #[.slice none 0 0, .slice none 0 0, .slice none 0 0, .int .i64 0, .int .i64 0, .int .i64 0] 31
            go_simp
            first | rw [← hU, ← hbx] | rw [show (w5.alloc (.cells #[.slice none 0 0, .slice none 0 0, .slice none 0 0, .int .i64 0, .int .i64 0, .int .i64 0] 31)).drew = U from hU.symm, show w5.heap.size = bx from hbx.symm]
            have HX := Lib.hid hXU
            have HX0 := Lib.hid hX0
            try have HR := Lib.hid (HR.out.call hbU)
            refine hK.out _ _ hsU (fun hHeld => ?_)
            clear hU hbx hXU hsU hX0 hbU
            clear hK K
            refine rd1 6 (fun K hK => ?_)
            go_simp
            go_at_call 20
            refine (n_any g b len cap _ _ hHeld.1 (by omega)).mono ?_
            rintro e v4 ⟨z, rfl, v0, v1, hs, hb⟩
            try have HX := Lib.hid (Blk.but HX.out hb (by have := HX0.out; omega))
            have hsx : LS g b len cap w5 v4 := ⟨hs, hHeld.2.trans hb⟩
            clear hs hb v0 v1
            refine hK.out _ _ hsx (fun hHeld => ?_)
            clear hsx
            clear hK K
            refine rd1 7 (fun K hK => ?_)
            go_simp
            go_at_call 10
            have hrw := r3_but HD5.out.rows hg hHeld.2
            have hrd := r3_rd hrw
            refine (letdown_rows (f0 := x0) (f1 := x1) (t0 := x2) (t1 := x3) (z := z) ⟨by omega, by omega, by omega⟩ hrd.1 hrd.2.1 hrd.2.2).mono ?_
            intro e v h
            obtain ⟨us, rfl, hro, hb⟩ := newR_elim h
            obtain ⟨⟨⟨P', B', A', u', n'⟩, c'⟩, hd⟩ : ∃ d, letG (P, B, A, u, n) (x0, x1) (x2, x3) z = d := ⟨_, rfl⟩
            rw [hd] at hro
            obtain ⟨xa', xc', ya', yc', za', zc', rfl, hR⟩ := rowsD_elim hro
            have HLD := Lib.hid hd
            have HR := Lib.hid (hR.low (Nat.le_trans hw05 hHeld.2.size))
            try have HX := Lib.hid (HX.out.call hb)
            have hsx := ls_call hHeld hg5 hb
            clear h hro hd hR hb hrw hrd
            refine hK.out _ _ hsx (fun hHeld => ?_)
            clear hsx
            clear hK K
            refine rd1 9 (fun K hK => ?_)
            obtain ⟨Z, hZ, hsZ, hXZ, hof⟩ := ls_step hHeld HX.out hg5 HX0.out (.slice xa' P'.length xc') (.slice ya' B'.length yc') (.slice za' A'.length zc') (.int .i64 u') (.int .i64 n') (.int .i64 c')
            have r0 := HX.out.at_ 0 rfl
            have r1 := HX.out.at_ 1 rfl
            have r2 := HX.out.at_ 2 rfl
            have r3 := HX.out.at_ 3 rfl
            have r4 := HX.out.at_ 4 rfl
            have r5 := HX.out.at_ 5 rfl
            have o0 := HX.out.soft 0
            have o1 := HX.out.soft 1
            have o2 := HX.out.soft 2
            have o3 := HX.out.soft 3
            have o4 := HX.out.soft 4
            have o5 := HX.out.soft 5
            go_simp
            rw [← hZ]
            have HR := Lib.hid (r3_off HR.out HX.out (by decide) hof)
            have HX := Lib.hid hXZ
            clear hZ hXZ hof r0 r1 r2 r3 r4 r5 o0 o1 o2 o3 o4 o5
            refine hK.out _ _ hsZ (fun hHeld => ?_)
            clear hsZ
            clear hK K
            refine rd0 ?_
            have HL := Lib.hid hHeld
            clear hHeld
            go_wp2_with fail
            go_meet
            exact ⟨_, P', B', A', u', n', c', xa', xc', ya', yc', za', zc', z, rfl, HX0.out, HLD, HX, HR, HL⟩
        case rest =>
          obtain ⟨by', P', B', A', u', n', c', xa', xc', ya', yc', za', zc', z, rfl, hby, HLD, HY, HR, HL⟩ := hcut
          rename World => w6
          have HD6 := Lib.hid (HD5.out.bu hg HL.out.1 HL.out.2)
          have hbyg : by' ≠ g := by omega
          have hz6 := HL.out.2.size
          have hdby : w0.heap.size + 1 + 1 < by' := by omega
          clear HL HD5 K0 K1 K2 K3 K4 XL0 XL1 XL2 XL3
          go_wp2_with fail
          refine (one_any g b len cap _ _ HD6.out.src (by omega)).mono ?_
          rintro e w7 ⟨t, rfl, hs, hb⟩
          have HD7 := Lib.hid (HD6.out.bu hg hs hb)
          have HY7 := Lib.hid (Blk.but HY.out hb hbyg)
          have HR7 := Lib.hid (r3_but HR.out hg hb)
          clear HD6 HY HR hs hb
          cases t with
          | false =>
            have y0 := HY7.out.at_ 0 rfl
            have y1 := HY7.out.at_ 1 rfl
            have y2 := HY7.out.at_ 2 rfl
            have y3 := HY7.out.at_ 3 rfl
            have y4 := HY7.out.at_ 4 rfl
            have y5 := HY7.out.at_ 5 rfl
            have d0 := HD7.out.desk.at_ 0 rfl
            have d1 := HD7.out.desk.at_ 1 rfl
            have d2 := HD7.out.desk.at_ 2 rfl
            have d3 := HD7.out.desk.at_ 3 rfl
            have d4 := HD7.out.desk.at_ 4 rfl
            have f0 := HD7.out.desk.soft 0
            have f1 := HD7.out.desk.soft 1
            have f2 := HD7.out.desk.soft 2
            have f3 := HD7.out.desk.soft 3
            have f4 := HD7.out.desk.soft 4
            by_cases hc0 : c' = 0
            · subst hc0
              obtain ⟨Z2, hZ2, hDS2⟩ := HD7.out.put (u' := u') (n' := n') hg HR7.out
              have HDS2 := Lib.hid hDS2
              have HDD2 := Lib.hid (draw_let HDD.out HLD.out)
              clear hDS2
              go_wp2
              go_roundw
              case rel => exact ⟨r - 1, P', B', A', u', n', xa', xc', ya', yc', za', zc', by go_num, by omega, HDD2.out, by rw [← hZ2]; exact HDS2.out⟩
              case measure => simp [intOf]; omega
            · have hc' : (c' == 0) = false := beq_eq_false_iff_ne.2 hc0
              clear hc0
              go_wp2
              go_roundw
              case rel => exact ⟨r - 1, P, B, A, u, n, xa, xc, ya, yc, za, zc, by go_num, by omega, HDD.out, HD7.out⟩
              case measure => simp [intOf]; omega
          | true =>
            have hrd := r3_rd HD7.out.rows
            have q0 := HD7.out.desk.at_ 0 rfl
            have q1 := HD7.out.desk.at_ 1 rfl
            have q2 := HD7.out.desk.at_ 2 rfl
            have q3 := HD7.out.desk.at_ 3 rfl
            have q4 := HD7.out.desk.at_ 4 rfl
            go_wp2_with fail
            refine (nexttime_rows ⟨by omega, by omega, by omega⟩ hrd.1 hrd.2.1 hrd.2.2).mono ?_
            intro e w8 h
            obtain ⟨us, rfl, hro, hb⟩ := newR_elim h
            clear HLD HR7
            obtain ⟨⟨⟨P', B', A', u', n'⟩, c'⟩, hd⟩ : ∃ d, nextG (P, B, A, u, n) = d := ⟨_, rfl⟩
            rw [hd] at hro
            obtain ⟨xa', xc', ya', yc', za', zc', rfl, hR⟩ := rowsD_elim hro
            have HNG := Lib.hid hd
            have HD8 := Lib.hid (HD7.out.call hb)
            have HY8 := Lib.hid (HY7.out.call hb)
            have HR8 := Lib.hid (hR.low HD7.out.but.size)
            obtain ⟨Z, hZ, hYZ, hof, hbz⟩ := step_put HY8.out (.slice xa' P'.length xc') (.slice ya' B'.length yc') (.slice za' A'.length zc') (.int .i64 u') (.int .i64 n') (.int .i64 c')
            have HDZ := Lib.hid (HD8.out.off HY8.out (by decide) hdby hg hbz hof)
            have HYZ := Lib.hid hYZ
            have HRZ := Lib.hid (r3_off HR8.out HY8.out (by decide) hof)
            have y0 := HY8.out.at_ 0 rfl
            have o0 := HY8.out.soft 0
            have y1 := HY8.out.at_ 1 rfl
            have o1 := HY8.out.soft 1
            have y2 := HY8.out.at_ 2 rfl
            have o2 := HY8.out.soft 2
            have y3 := HY8.out.at_ 3 rfl
            have o3 := HY8.out.soft 3
            have y4 := HY8.out.at_ 4 rfl
            have o4 := HY8.out.soft 4
            have y5 := HY8.out.at_ 5 rfl
            have o5 := HY8.out.soft 5
            clear h hro hd hR hb hrd hYZ hof hbz q0 q1 q2 q3 q4
            go_upto_region 9 with fail
            rw [← hZ]
            clear hZ y0 o0 y1 o1 y2 o2 y3 o3 y4 o4 y5 o5 HD7 HD8 HY7 HY8 HR8
            have y0 := HYZ.out.at_ 0 rfl
            have y1 := HYZ.out.at_ 1 rfl
            have y2 := HYZ.out.at_ 2 rfl
            have y3 := HYZ.out.at_ 3 rfl
            have y4 := HYZ.out.at_ 4 rfl
            have y5 := HYZ.out.at_ 5 rfl
            have d0 := HDZ.out.desk.at_ 0 rfl
            have d1 := HDZ.out.desk.at_ 1 rfl
            have d2 := HDZ.out.desk.at_ 2 rfl
            have d3 := HDZ.out.desk.at_ 3 rfl
            have d4 := HDZ.out.desk.at_ 4 rfl
            have f0 := HDZ.out.desk.soft 0
            have f1 := HDZ.out.desk.soft 1
            have f2 := HDZ.out.desk.soft 2
            have f3 := HDZ.out.desk.soft 3
            have f4 := HDZ.out.desk.soft 4
            by_cases hc0 : c' = 0
            · subst hc0
              obtain ⟨Z2, hZ2, hDS2⟩ := HDZ.out.put (u' := u') (n' := n') hg HRZ.out
              have HDS2 := Lib.hid hDS2
              have HDD2 := Lib.hid (draw_next HDD.out HNG.out)
              clear hDS2
              go_wp2
              go_roundw
              case rel => exact ⟨r - 1, P', B', A', u', n', xa', xc', ya', yc', za', zc', by go_num, by omega, HDD2.out, by rw [← hZ2]; exact HDS2.out⟩
              case measure => simp [intOf]; omega
            · have hc' : (c' == 0) = false := beq_eq_false_iff_ne.2 hc0
              clear hc0
              go_wp2
              go_roundw
              case rel => exact ⟨r - 1, P, B, A, u, n, xa, xc, ya, yc, za, zc, by go_num, by omega, HDD.out, HDZ.out⟩
              case measure => simp [intOf]; omega
end Go.Proofs.YtphklknaagjmpaaDoor.DrawC
end
section
namespace Go.Proofs.YtphklknaagjmpaaDoor.DrawC
open Go.RowKit RepC RowC ValC
set_option linter.unusedVariables false
set_option linter.unusedSimpArgs false
set_option maxRecDepth 100000
theorem drawnD_elim {g : Nat} {b : Option Addr} {len cap : Nat} {w : World} {e : Ending} {w' : World} (h : DrawnD g b len cap w e w') : ∃ (P B A : List D_Letter) (u n : Int) (xa : Option Addr) (xc : Nat) (ya : Option Addr) (yc : Nat) (za : Option Addr) (zc : Nat), e = .returned (.agg #[.slice xa P.length xc, .slice ya B.length yc, .slice za A.length zc, .int .i64 u, .int .i64 n]) ∧ 2 ≤ P.length ∧ P.length ≤ 5 ∧ B.length ≤ 9 ∧ A.length ≤ 20 ∧ R3 w' w.heap.size P B A xa xc ya yc za zc ∧ Src g b len cap w' ∧ But g w w' := h
theorem out_put {V : World} {o lo : Nat} {P B A : List D_Letter} {u n : Int} {xa : Option Addr} {xc : Nat} {ya : Option Addr} {yc : Nat} {za : Option Addr} {zc : Nat} (hO : Blk V o 25 #[.slice none 0 0, .slice none 0 0, .slice none 0 0, .int .i64 0, .int .i64 0]) (hR : R3 V lo P B A xa xc ya yc za zc) :
    ∃ Z : World, Z = (((((V.setCell ⟨o, 0, none⟩ (.slice xa P.length xc)).setCell ⟨o, 1, none⟩ (.slice ya B.length yc)).setCell ⟨o, 2, none⟩ (.slice za A.length zc)).setCell ⟨o, 3, none⟩ (.int .i64 u)).setCell ⟨o, 4, none⟩ (.int .i64 n)) ∧ Blk Z o 25 #[.slice xa P.length xc, .slice ya B.length yc, .slice za A.length zc, .int .i64 u, .int .i64 n] ∧ R3 Z lo P B A xa xc ya yc za zc ∧ Below o V Z ∧ ∀ k T cs, k ≠ o → Blk V k T cs → Blk Z k T cs :=
  ⟨_, rfl, ((((((hO.set 0 (.slice xa P.length xc)).set 1 (.slice ya B.length yc)).set 2 (.slice za A.length zc)).set 3 (.int .i64 u)).set 4 (.int .i64 n))).as rfl, r3_off hR hO (by decide) ((((((Off.refl (fun k => k = o) V).setCell (p := ⟨o, 0, none⟩) rfl (.slice xa P.length xc)).setCell (p := ⟨o, 1, none⟩) rfl (.slice ya B.length yc)).setCell (p := ⟨o, 2, none⟩) rfl (.slice za A.length zc)).setCell (p := ⟨o, 3, none⟩) rfl (.int .i64 u)).setCell (p := ⟨o, 4, none⟩) rfl (.int .i64 n)), ((((((Below.refl o V).setCell (p := ⟨o, 0, none⟩) (Nat.le_refl _) (.slice xa P.length xc)).setCell (p := ⟨o, 1, none⟩) (Nat.le_refl _) (.slice ya B.length yc)).setCell (p := ⟨o, 2, none⟩) (Nat.le_refl _) (.slice za A.length zc)).setCell (p := ⟨o, 3, none⟩) (Nat.le_refl _) (.int .i64 u)).setCell (p := ⟨o, 4, none⟩) (Nat.le_refl _) (.int .i64 n)), fun k T cs hk h => (((((h.far hk _).far hk _).far hk _).far hk _).far hk _)⟩
theorem lab_put {V : World} {o lo : Nat} {P B A : List D_Letter} {xa : Option Addr} {xc : Nat} {ya : Option Addr} {yc : Nat} {za : Option Addr} {zc : Nat} {l0 s0 : Int} (hO : Blk V o 27 #[.int .i64 l0, .int .i64 s0]) (hR : R3 V lo P B A xa xc ya yc za zc) (l s : Int) :
    ∃ Z : World, Z = ((V.setCell ⟨o, 0, none⟩ (.int .i64 l)).setCell ⟨o, 1, none⟩ (.int .i64 s)) ∧ Blk Z o 27 #[.int .i64 l, .int .i64 s] ∧ R3 Z lo P B A xa xc ya yc za zc ∧ Below o V Z ∧ ∀ k T cs, k ≠ o → Blk V k T cs → Blk Z k T cs :=
  ⟨_, rfl, (((hO.set 0 (.int .i64 l)).set 1 (.int .i64 s))).as rfl, r3_off hR hO (by decide) (((Off.refl (fun k => k = o) V).setCell (p := ⟨o, 0, none⟩) rfl (.int .i64 l)).setCell (p := ⟨o, 1, none⟩) rfl (.int .i64 s)), (((Below.refl o V).setCell (p := ⟨o, 0, none⟩) (Nat.le_refl _) (.int .i64 l)).setCell (p := ⟨o, 1, none⟩) (Nat.le_refl _) (.int .i64 s)), fun k T cs hk h => (h.far hk _).far hk _⟩
def DrawnK (w : World) (e : Ending) (w' : World) : Prop := ∃ (P B A : List D_Letter) (u n : Int) (xa : Option Addr) (xc : Nat) (ya : Option Addr) (yc : Nat) (za : Option Addr) (zc : Nat), e = .returned (.agg #[.slice xa P.length xc, .slice ya B.length yc, .slice za A.length zc, .int .i64 u, .int .i64 n]) ∧ (2 ≤ P.length ∧ P.length ≤ 5 ∧ B.length ≤ 9 ∧ A.length ≤ 20) ∧ R3 w' w.heap.size P B A xa xc ya yc za zc ∧ Below w.heap.size w w'
set_option maxHeartbeats 1600000 in
theorem draw_nexttime (b : Option Addr) (len cap : Nat) (w0 : World) (hlen : len ≤ 1048576) (h : CodeIn w0 b len) :
    Calls Tryd.prog 6 #[.slice b len cap] w0 (DrawnK w0) := by
  have HO1 := Lib.hid (Blk.new w0 25 #[.slice none 0 0, .slice none 0 0, .slice none 0 0, .int .i64 0, .int .i64 0])
  have hb1 : Below w0.heap.size w0 (w0.alloc (.cells #[.slice none 0 0, .slice none 0 0, .slice none 0 0, .int .i64 0, .int .i64 0] 25)) := (Below.refl _ _).alloc (Nat.le_refl _) _
  have HB1 := Lib.hid hb1
  have HC := Lib.hid (h.below hb1)
  clear h hb1
  go_enter Tryd.func6, Tryd.ntmps6
  go_wp2_with fail
  refine (source_any b len cap _ hlen HC.out).mono ?_
  rintro e w1 ⟨rfl, hs, hb⟩
  have HO2 := Lib.hid (HO1.out.call hb)
  have HB2 := Lib.hid (HB1.out.trans (hb.mono HB1.out.size))
  have HS2 := Lib.hid hs
  have hgz := hs.lt
  simp only [World.size_alloc] at hgz
  have hg2 : (w0.alloc (.cells #[.slice none 0 0, .slice none 0 0, .slice none 0 0, .int .i64 0, .int .i64 0] 25)).heap.size = w0.heap.size + 1 := by simp
  obtain ⟨g, hg⟩ : ∃ g, g = (w0.alloc (.cells #[.slice none 0 0, .slice none 0 0, .slice none 0 0, .int .i64 0, .int .i64 0] 25)).heap.size := ⟨_, rfl⟩
  rw [← hg] at HS2 hg2
  clear hs hb HO1 HB1 HC
  go_wp2_with fail
  try rw [← hg]
  try rw [← hg2]
  refine (desk_any g b len cap _ HS2.out).mono ?_
  intro e w2 h
  obtain ⟨P, B, A, u, n, xa, xc, ya, yc, za, zc, rfl, l1, l2, l3, l4, hR, hs, hb⟩ := drawnD_elim h
  have HO3 := Lib.hid (Blk.but HO2.out hb (by omega))
  have HB3 := Lib.hid (HB2.out.trans (hb.below (B := w0.heap.size) HB2.out.size (by omega)))
  obtain ⟨Z, hZ, hf, hR9, hbz, _⟩ := out_put (u := u) (n := n) HO3.out (hR.low (show w0.heap.size ≤ w1.heap.size from HB2.out.size))
  have HLEN := Lib.hid (show 2 ≤ P.length ∧ P.length ≤ 5 ∧ B.length ≤ 9 ∧ A.length ≤ 20 from ⟨l1, l2, l3, l4⟩)
  have HR9 := Lib.hid hR9
  have HB9 := Lib.hid (HB3.out.trans hbz)
  have c0 := HO3.out.at_ 0 rfl
  have s0 := HO3.out.soft 0
  have c1 := HO3.out.at_ 1 rfl
  have s1 := HO3.out.soft 1
  have c2 := HO3.out.at_ 2 rfl
  have s2 := HO3.out.soft 2
  have c3 := HO3.out.at_ 3 rfl
  have s3 := HO3.out.soft 3
  have c4 := HO3.out.at_ 4 rfl
  have s4 := HO3.out.soft 4
  have q0 := hf.at_ 0 rfl
  have q1 := hf.at_ 1 rfl
  have q2 := hf.at_ 2 rfl
  have q3 := hf.at_ 3 rfl
  have q4 := hf.at_ 4 rfl
  clear h l1 l2 l3 l4 hR hs hb hf hR9 hbz HO2 HB2 HS2 hg hg2 hgz
  go_wp2
  rw [← hZ]
  clear hZ
  exact bodyPost_ret (v := .agg #[.slice xa P.length xc, .slice ya B.length yc, .slice za A.length zc, .int .i64 u, .int .i64 n]) (by simp [results, Tryd.results6, go_sem, q0, q1, q2, q3, q4]) rfl ⟨P, B, A, u, n, xa, xc, ya, yc, za, zc, rfl, HLEN.out, HR9.out, HB9.out⟩
end Go.Proofs.YtphklknaagjmpaaDoor.DrawC
end
section
namespace Go.Proofs.YtphklknaagjmpaaDoor.DrawC
open Go.RowKit RepC RowC ValC
set_option linter.unusedVariables false
set_option linter.unusedSimpArgs false
set_option maxRecDepth 100000
def DrawnKL (w : World) (e : Ending) (w' : World) : Prop := ∃ (P B A : List D_Letter) (u n : Int) (xa : Option Addr) (xc : Nat) (ya : Option Addr) (yc : Nat) (za : Option Addr) (zc : Nat) (l s : Int), e = .returned (.tuple #[.agg #[.slice xa P.length xc, .slice ya B.length yc, .slice za A.length zc, .int .i64 u, .int .i64 n], .agg #[.int .i64 l, .int .i64 s]]) ∧ (2 ≤ P.length ∧ P.length ≤ 5 ∧ B.length ≤ 9 ∧ A.length ≤ 20) ∧ R3 w' w.heap.size P B A xa xc ya yc za zc ∧ Below w.heap.size w w'
def DrawnKQ (w : World) (e : Ending) (w' : World) : Prop := ∃ (P B A : List D_Letter) (u n : Int) (xa : Option Addr) (xc : Nat) (ya : Option Addr) (yc : Nat) (za : Option Addr) (zc : Nat) (f0 f1 t0 t1 z : Int), e = .returned (.tuple #[.agg #[.slice xa P.length xc, .slice ya B.length yc, .slice za A.length zc, .int .i64 u, .int .i64 n], .agg #[.int .i64 f0, .int .i64 f1], .agg #[.int .i64 t0, .int .i64 t1], .int .i64 z]) ∧ (2 ≤ P.length ∧ P.length ≤ 5 ∧ B.length ≤ 9 ∧ A.length ≤ 20) ∧ R3 w' w.heap.size P B A xa xc ya yc za zc ∧ Below w.heap.size w w'
set_option maxHeartbeats 4000000 in
theorem draw_reads (b : Option Addr) (len cap : Nat) (w0 : World) (hlen : len ≤ 1048576) (h : CodeIn w0 b len) :
    Calls Tryd.prog 8 #[.slice b len cap] w0 (DrawnKL w0) := by
  obtain ⟨Wa, hWa⟩ : ∃ x, x = ((w0.alloc (.cells #[.slice none 0 0, .slice none 0 0, .slice none 0 0, .int .i64 0, .int .i64 0] 25)).alloc (.cells #[.int .i64 0, .int .i64 0] 27)) := ⟨_, rfl⟩
  have hza : Wa.heap.size = w0.heap.size + 1 + 1 := by rw [hWa]; simp
  have hb1 : Below w0.heap.size w0 Wa := by rw [hWa]; exact (((Below.refl _ _).alloc (Nat.le_refl _) _).alloc (by simp) _)
  have hHO2 : Blk Wa (w0.heap.size) 25 #[.slice none 0 0, .slice none 0 0, .slice none 0 0, .int .i64 0, .int .i64 0] := by
    have h9 := ((Blk.new w0 25 #[.slice none 0 0, .slice none 0 0, .slice none 0 0, .int .i64 0, .int .i64 0]).alloc (.cells #[.int .i64 0, .int .i64 0] 27))
    skip
    rw [hWa]; exact h9
  have HO2 := Lib.hid hHO2
  clear hHO2
  have hHO3 : Blk Wa (w0.heap.size + 1) 27 #[.int .i64 0, .int .i64 0] := by
    have h9 := (Blk.new (w0.alloc (.cells #[.slice none 0 0, .slice none 0 0, .slice none 0 0, .int .i64 0, .int .i64 0] 25)) 27 #[.int .i64 0, .int .i64 0])
    simp only [World.size_alloc] at h9
    rw [hWa]; exact h9
  have HO3 := Lib.hid hHO3
  clear hHO3
  have HB1 := Lib.hid hb1
  have HC := Lib.hid (h.below hb1)
  clear h hb1
  go_enter Tryd.func8, Tryd.ntmps8
  go_wp2_with fail
  rw [← hWa]
  clear hWa
  refine (source_any b len cap _ hlen HC.out).mono ?_
  rintro e w1 ⟨rfl, hs, hb⟩
  obtain ⟨g, hg⟩ : ∃ g, g = Wa.heap.size := ⟨_, rfl⟩
  have HO2 := Lib.hid (HO2.out.call hb)
  have HO3 := Lib.hid (HO3.out.call hb)
  have HB2 := Lib.hid (HB1.out.trans (hb.mono HB1.out.size))
  have HS2 := Lib.hid (show Src g b len cap w1 from by rw [hg]; exact hs)
  have hgz : g < w1.heap.size := HS2.out.lt
  have hg2 : w0.heap.size + 1 < g := by rw [hg, hza]; omega
  rw [← hg]
  clear hs hb HB1 HC hg hza
  go_wp2_with fail
  refine (desk_any g b len cap _ HS2.out).mono ?_
  intro e w2 h
  obtain ⟨P, B, A, u, n, xa, xc, ya, yc, za, zc, rfl, l1, l2, l3, l4, hR, hs, hb⟩ := drawnD_elim h
  have HO2 := Lib.hid (Blk.but HO2.out hb (by omega))
  have HO3 := Lib.hid (Blk.but HO3.out hb (by omega))
  have HB3 := Lib.hid (HB2.out.trans (hb.below (B := w0.heap.size) HB2.out.size (by omega)))
  have HLEN := Lib.hid (show 2 ≤ P.length ∧ P.length ≤ 5 ∧ B.length ≤ 9 ∧ A.length ≤ 20 from ⟨l1, l2, l3, l4⟩)
  have hP2 := l1
  have HR3 := Lib.hid hR
  have HS3 := Lib.hid hs
  have hz3 := hb.size
  clear h l1 l2 l3 l4 hR hs hb HB2 HS2
  obtain ⟨V7, hV7⟩ : ∃ x, x = w2.alloc (.cells #[.slice xa P.length xc, .slice ya B.length yc, .slice za A.length zc, .int .i64 u, .int .i64 n] 25) := ⟨_, rfl⟩
  have hb7 : Below w2.heap.size w2 V7 := by rw [hV7]; exact (Below.refl _ _).alloc (Nat.le_refl _) _
  have HO2 := Lib.hid (HO2.out.call hb7)
  have HO3 := Lib.hid (HO3.out.call hb7)
  obtain ⟨t7, ht7⟩ : ∃ t, t = w2.heap.size := ⟨_, rfl⟩
  have HT := Lib.hid (show Blk V7 t7 25 #[.slice xa P.length xc, .slice ya B.length yc, .slice za A.length zc, .int .i64 u, .int .i64 n] from by rw [hV7, ht7]; exact Blk.new _ _ _)
  have HB4 := Lib.hid (HB3.out.trans (hb7.mono HB3.out.size))
  have HR4 := Lib.hid (HR3.out.call hb7)
  have HS4 := Lib.hid (HS3.out.mono (hb7.mono (by omega)))
  have ht1 : w1.heap.size ≤ t7 := by omega
  have hgw : w0.heap.size < g := by omega
  skip
  clear HB3 HR3 HS3 hb7
  go_upto_region 3 with fail
  rw [← hV7]
  clear hV7
  try rw [← ht7]
  clear ht7
  refine wp_region_held_drew (S := (fun V => Blk V t7 25 #[.slice xa P.length xc, .slice ya B.length yc, .slice za A.length zc, .int .i64 u, .int .i64 n])) (by kernel_rfl) ((HT.out.call (Below.refl V7.heap.size V7).drew)) (fun hHeld => ?_)
  have HO2 := Lib.hid (HO2.out.call (Below.refl V7.heap.size V7).drew)
  have HO3 := Lib.hid (HO3.out.call (Below.refl V7.heap.size V7).drew)
  have HRR := Lib.hid ((HR4.out.call (Below.refl V7.heap.size V7).drew))
  have HSS := Lib.hid (HS4.out.mono (Below.refl _ _).drew)
  have HBB := Lib.hid (HB4.out.trans ((Below.refl w0.heap.size V7).drew))
  obtain ⟨wd, hwd⟩ : ∃ x, x = V7.drew := ⟨_, rfl⟩
  rw [← hwd] at HO2 HO3 HRR HSS HBB hHeld ⊢
  clear hwd HR4 HS4 HB4
  refine tk 0 hHeld ?_ (hy := fun w hSw => by (try dsimp only at hSw); have k0 := hSw.at_ 0 rfl; have k1 := hSw.at_ 1 rfl; have k2 := hSw.at_ 2 rfl; have k3 := hSw.at_ 3 rfl; have k4 := hSw.at_ 4 rfl; clear hSw; go_simp; try with_reducible rfl)
  refine tk 1 hHeld ?_
  refine rd1 2 (fun K hK => ?_)
  go_simp
  go_at_call 22
  refine (label_any g b len cap _ HSS.out).mono ?_
  intro e w4 h
  obtain ⟨lm, sm, rfl, hs, hb⟩ := drawnL_elim h
  have HO2 := Lib.hid (Blk.but HO2.out hb (by omega))
  have HO3 := Lib.hid (Blk.but HO3.out hb (by omega))
  have HRR := Lib.hid (r3_but HRR.out (show g < w1.heap.size from hgz) hb)
  have HBB := Lib.hid (HBB.out.trans (hb.below (B := w0.heap.size) HBB.out.size (by omega)))
  have hs9 := Blk.but hHeld hb (by omega)
  clear h hs hb HSS
  refine hK.out _ _ hs9 (fun hHeld => ?_)
  clear hs9
  clear hK K
  refine rd1 3 (fun K hK => ?_)
  obtain ⟨Z, hZ, hf9, hR9, hbz, hfar⟩ := out_put (u := u) (n := n) HO2.out HRR.out
  have c0 := HO2.out.at_ 0 rfl
  have c1 := HO2.out.at_ 1 rfl
  have c2 := HO2.out.at_ 2 rfl
  have c3 := HO2.out.at_ 3 rfl
  have c4 := HO2.out.at_ 4 rfl
  have s0 := HO2.out.soft 0
  have s1 := HO2.out.soft 1
  have s2 := HO2.out.soft 2
  have s3 := HO2.out.soft 3
  have s4 := HO2.out.soft 4
  go_simp
  rw [← hZ]
  have HO2 := Lib.hid hf9
  have HRR := Lib.hid hR9
  have HBB := Lib.hid (HBB.out.trans (hbz.mono (by omega)))
  have HO3 := Lib.hid (hfar _ _ _ (by omega) HO3.out)
  have hs9 := hfar _ _ _ (by omega) hHeld
  clear hZ hf9 hR9 hbz hfar c0 s0 c1 s1 c2 s2 c3 s3 c4 s4
  refine hK.out _ _ hs9 (fun hHeld => ?_)
  clear hs9
  clear hK K
  refine rd1 4 (fun K hK => ?_)
  obtain ⟨Z, hZ, hf9, hR9, hbz, hfar⟩ := lab_put HO3.out HRR.out lm sm
  have c0 := HO3.out.at_ 0 rfl
  have c1 := HO3.out.at_ 1 rfl
  have s0 := HO3.out.soft 0
  have s1 := HO3.out.soft 1
  go_simp
  rw [← hZ]
  have HO3 := Lib.hid hf9
  have HRR := Lib.hid hR9
  have HBB := Lib.hid (HBB.out.trans (hbz.mono (by omega)))
  have HO2 := Lib.hid (hfar _ _ _ (by omega) HO2.out)
  have hs9 := hfar _ _ _ (by omega) hHeld
  clear hZ hf9 hR9 hbz hfar c0 s0 c1 s1
  refine hK.out _ _ hs9 (fun hHeld => ?_)
  clear hs9
  clear hK K
  refine rd0 ?_
  have q0 := HO2.out.at_ 0 rfl
  have q1 := HO2.out.at_ 1 rfl
  have q2 := HO2.out.at_ 2 rfl
  have q3 := HO2.out.at_ 3 rfl
  have q4 := HO2.out.at_ 4 rfl
  have r0 := HO3.out.at_ 0 rfl
  have r1 := HO3.out.at_ 1 rfl
  clear hHeld
  go_wp2
  exact bodyPost_ret (v := .tuple #[.agg #[.slice xa P.length xc, .slice ya B.length yc, .slice za A.length zc, .int .i64 u, .int .i64 n], .agg #[.int .i64 lm, .int .i64 sm]]) (by simp [results, Tryd.results8, go_sem, q0, q1, q2, q3, q4, r0, r1]) rfl ⟨P, B, A, u, n, xa, xc, ya, yc, za, zc, lm, sm, rfl, HLEN.out, HRR.out.low (show w0.heap.size ≤ w1.heap.size by omega), HBB.out⟩
end Go.Proofs.YtphklknaagjmpaaDoor.DrawC
end
