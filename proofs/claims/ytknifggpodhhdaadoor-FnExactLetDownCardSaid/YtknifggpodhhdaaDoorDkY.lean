/- LetDown of the model: a contract. -/
import Derived.Test.YtknifggpodhhdaaDoorDkU
import Derived.Test.YtknifggpodhhdaaDoorDkW0
namespace Go.Proofs.YtknifggpodhhdaaDoor.RepC
open Go.RowKit RowC ValC SpanC KeptC
set_option linter.unusedVariables false
set_option linter.unusedSimpArgs false

theorem LRow.ow2 {w : World} {lo n : Nat} {a : Option Addr} {c : Nat} {L : List D_Letter} (h : LRow w lo (.slice a n c) L) (hn : L.length = n) : OwSl R_Letter w (fun k => (Value.slice a n c).ownBlock = some k) L a c := by
  subst hn; exact h.ow
theorem blkof {v : Value} : ∃ g : Nat, ∀ k, v.ownBlock = some k → k = g := by
  cases h : v.ownBlock with
  | none => exact ⟨0, fun k hk => by cases hk⟩
  | some g => exact ⟨g, fun k hk => by cases hk; rfl⟩
/-- one letter more at the end of a row, whatever its block -/
theorem LRow.one {w : World} {lo : Nat} {a : Option Addr} {c : Nat} {L : List D_Letter} (h : LRow w lo (.slice a L.length c) L) (x0 x1 x2 x3 x4 x5 : Int) (hlo : lo ≤ w.heap.size) (hL : L.length + 1 ≤ 2932031007402) :
    ∃ a' c' w', (Builtin.append_ #[40, 40] 40 #[.slice a L.length c, .slice (some ⟨w.heap.size, 0, none⟩) 1 1]).run Tryd.prog (w.alloc (.cells #[.int .i64 x0, .int .i64 x1, .int .i64 x2, .int .i64 x3, .int .i64 x4, .int .i64 x5] 87)) = .ok (.slice a' (L.length + 1) c') w' ∧ LRow w' lo (.slice a' (L.length + 1) c') (L ++ [((x0, x1), (x2, x3), x4, x5)]) ∧ w.heap.size ≤ w'.heap.size ∧
      (∀ k, k < w.heap.size → (Value.slice a L.length c).ownBlock ≠ some k → w'.heap[k]? = w.heap[k]?) ∧ (∀ k, (Value.slice a' (L.length + 1) c').ownBlock = some k → (Value.slice a L.length c).ownBlock = some k ∨ w.heap.size ≤ k) ∧ (∀ C, C ≤ lo → Below C w w') := by
  have hb : Below w.heap.size w (w.alloc (.cells #[.int .i64 x0, .int .i64 x1, .int .i64 x2, .int .i64 x3, .int .i64 x4, .int .i64 x5] 87)) := (Below.refl _ _).alloc (Nat.le_refl _) _
  have hk := Blk.new w 87 #[.int .i64 x0, .int .i64 x1, .int .i64 x2, .int .i64 x3, .int .i64 x4, .int .i64 x5]
  obtain ⟨wa, hwa⟩ : ∃ v, v = w.alloc (.cells #[.int .i64 x0, .int .i64 x1, .int .i64 x2, .int .i64 x3, .int .i64 x4, .int .i64 x5] 87) := ⟨_, rfl⟩
  rw [← hwa] at hb hk ⊢
  clear hwa
  have h1 := h.call hb
  have hsz := hb.size
  have hlt := hk.lt
  cases ho : (Value.slice a L.length c).ownBlock with
  | some g =>
    have hgl := (h.blk g ho).2
    obtain ⟨a', c', w', hr, hrow, hO, hown⟩ := LRow.grow h1 (g := g) (fun k hk => by rw [ho] at hk; cases hk; rfl) (by omega) (rd_one x0 x1 x2 x3 x4 x5 hk) (h.blk g ho).1 (by simp only [List.length_singleton]; omega)
    simp only [List.length_append, List.length_singleton] at hr hrow hown
    refine ⟨a', c', w', hr, hrow, Nat.le_trans hsz hO.1, fun k hk hne => (hO.2.1 k (by omega) (fun e => hne (by rw [e]))).trans (hb.block k hk), fun k hk => ?_, fun C hC => (hb.mono (by omega)).trans (hO.2.2 C (by have := (h.blk g ho).1; omega) (by omega))⟩
    rcases hown k hk with e | e
    · exact .inl (by rw [e])
    · exact .inr (by omega)
  | none =>
    have hbl : ∀ k, (Value.slice a L.length c).ownBlock = some k → k = w.heap.size := fun k hk => by rw [ho] at hk; cases hk
    obtain ⟨a', c', w', hr, hrow, hO, hown⟩ := LRow.grow h1 (g := w.heap.size) hbl (by omega) (rd_one x0 x1 x2 x3 x4 x5 hk) hlo (by simp only [List.length_singleton]; omega)
    simp only [List.length_append, List.length_singleton] at hr hrow hown
    refine ⟨a', c', w', hr, hrow, Nat.le_trans hsz hO.1, fun k hk hne => (hO.2.1 k (by omega) (by omega)).trans (hb.block k hk), fun k hk => ?_, fun C hC => (hb.mono (by omega)).trans (hO.2.2 C (by omega) (by omega))⟩
    rcases hown k hk with e | e
    · exact .inr (by omega)
    · exact .inr (by omega)
theorem let_fin2 {P B A : List D_Letter} {xa ya za : Option Addr} {xc yc zc nb na g lo W0 : Nat} {m n : Int} {w V : World} (hx : LRow w lo (.slice xa P.length xc) P) (hy : LRow w lo (.slice ya nb yc) B) (hz : LRow w lo (.slice za na zc) A) (hB : B.length = nb) (hA : A.length = na)
    (h1 : ∀ k, (Value.slice xa P.length xc).ownBlock = some k → (Value.slice ya nb yc).ownBlock ≠ some k ∧ (Value.slice za na zc).ownBlock ≠ some k) (h2 : ∀ k, (Value.slice ya nb yc).ownBlock = some k → (Value.slice za na zc).ownBlock ≠ some k) (hoff : Off (fun k => k = g) w V) (hg : g < lo) (hW : W0 ≤ lo) :
    R_DeskStep.ow V (Rg W0 V.heap.size) ((P, B, A, m, n), 0) [.slice xa P.length xc, .slice ya nb yc, .slice za na zc, .int .i64 m, .int .i64 n, .int .i64 0] := by
  subst hB hA
  have hs := hoff.size
  refine mkow_DeskStep (T0 := fun k => (Value.slice xa P.length xc).ownBlock = some k) (T1 := fun k => (Value.slice ya B.length yc).ownBlock = some k) (T2 := fun k => (Value.slice za A.length zc).ownBlock = some k) (fun k hk => ?_) (fun k hk => ?_) (fun k hk => ?_) (fun k hk => (h1 k hk).1) (fun k hk => (h1 k hk).2) (fun k hk => h2 k hk)
    (OwSl.keep R_Letter_ok hx.ow fun k hk => hoff.block k (hx.blk k hk).2 fun e => ?_) (OwSl.keep R_Letter_ok hy.ow fun k hk => hoff.block k (hy.blk k hk).2 fun e => ?_) (OwSl.keep R_Letter_ok hz.ow fun k hk => hoff.block k (hz.blk k hk).2 fun e => ?_)
  · have := hx.blk k hk; unfold Rg; omega
  · have := hy.blk k hk; unfold Rg; omega
  · have := hz.blk k hk; unfold Rg; omega
  · have := hx.blk k hk; subst e; omega
  · have := hy.blk k hk; subst e; omega
  · have := hz.blk k hk; subst e; omega
set_option maxRecDepth 100000 in
set_option maxHeartbeats 2000000 in
theorem letdown_spec {P B A : List D_Letter} {pa ba aa : Option Addr} {pc bc ac : Nat} {u n : Int} {f0 f1 t0 t1 z : Int} {W : World} (hlen : P.length ≤ 1048576 ∧ B.length ≤ 1048576 ∧ A.length ≤ 1048576) (hP : RdSl R_Letter W W.heap.size P pa pc) (hB : RdSl R_Letter W W.heap.size B ba bc) (hA : RdSl R_Letter W W.heap.size A aa ac) : Calls Tryd.prog 32 #[.agg #[.slice pa P.length pc, .slice ba B.length bc, .slice aa A.length ac, .int .i64 u, .int .i64 n], .agg #[.int .i64 f0, .int .i64 f1], .agg #[.int .i64 t0, .int .i64 t1], .int .i64 z] W (NewV R_DeskStep (letG (P, B, A, u, n) (f0, f1) (t0, t1) z) W) := by
  obtain ⟨hb0, hd0, hf0, ht0, hr0⟩ := bx4 W #[.slice pa P.length pc, .slice ba B.length bc, .slice aa A.length ac, .int .i64 u, .int .i64 n] #[.int .i64 f0, .int .i64 f1] #[.int .i64 t0, .int .i64 t1] #[.slice none 0 0, .slice none 0 0, .slice none 0 0, .int .i64 0, .int .i64 0, .int .i64 0] 42 24 24 46
  obtain ⟨w0, hw0⟩ : ∃ w, w = (((W.alloc (.cells #[.slice pa P.length pc, .slice ba B.length bc, .slice aa A.length ac, .int .i64 u, .int .i64 n] 42)).alloc (.cells #[.int .i64 f0, .int .i64 f1] 24)).alloc (.cells #[.int .i64 t0, .int .i64 t1] 24)).alloc (.cells #[.slice none 0 0, .slice none 0 0, .slice none 0 0, .int .i64 0, .int .i64 0, .int .i64 0] 46) := ⟨_, rfl⟩
  rw [← hw0] at hb0 hd0 hf0 ht0 hr0
  have HB := Lib.hid hb0
  have HR := Lib.hid hr0
  have HD := Lib.hid hd0
  have HF1 := Lib.hid hf0
  have HT1 := Lib.hid ht0
  have HPw := Lib.hid (gmvS hP hb0)
  have HBw := Lib.hid (gmvS hB hb0)
  have HAw := Lib.hid (gmvS hA hb0)
  have hz0 := hb0.size
  clear hb0 hd0 hf0 ht0 hr0 hP hB hA
  obtain ⟨q1, Q1⟩ := nameB (DeskR P B A u n)
  obtain ⟨q2, Q2⟩ : ∃ b, Hid (isB z 0 1000000 = b) := ⟨_, Lib.hid rfl⟩
  obtain ⟨q3, Q3⟩ := nameB (HasCh P (f0, f1) (t0, t1))
  go_enter Tryd.func32, Tryd.ntmps32
  go_wp2_with fail
  rw [← hw0]
  clear hw0
  refine ((box_spec HPw.out HBw.out HAw.out).mono (fun _ _ => resB_at Q1.out)).mono ?_
  rintro e w1 ⟨rfl, hb⟩
  have HB1 := Lib.hid (HB.out.trans (hb.mono hz0))
  have hz1 := HB1.out.size
  have HR := Lib.hid (HR.out.call hb)
  have HD := Lib.hid (HD.out.call hb)
  have HF1 := Lib.hid (HF1.out.call hb)
  have HT1 := Lib.hid (HT1.out.call hb)
  replace HPw := Lib.hid (gmvS HPw.out hb)
  replace HBw := Lib.hid (gmvS HBw.out hb)
  replace HAw := Lib.hid (gmvS HAw.out hb)
  have d1_0 := HD.out.at_ 0 rfl
  have d1_1 := HD.out.at_ 1 rfl
  have d1_2 := HD.out.at_ 2 rfl
  have d1_3 := HD.out.at_ 3 rfl
  have d1_4 := HD.out.at_ 4 rfl
  have x1_0 := HF1.out.at_ 0 rfl
  have x1_1 := HF1.out.at_ 1 rfl
  have y1_0 := HT1.out.at_ 0 rfl
  have y1_1 := HT1.out.at_ 1 rfl
  have r1_0 := HR.out.at_ 0 rfl
  have r1_1 := HR.out.at_ 1 rfl
  have r1_2 := HR.out.at_ 2 rfl
  have r1_3 := HR.out.at_ 3 rfl
  have r1_4 := HR.out.at_ 4 rfl
  have r1_5 := HR.out.at_ 5 rfl
  have f1_0 := HR.out.soft 0
  have f1_1 := HR.out.soft 1
  have f1_2 := HR.out.soft 2
  have f1_3 := HR.out.soft 3
  have f1_4 := HR.out.soft 4
  have f1_5 := HR.out.soft 5
  clear hb
  cases q1 with
  | false =>
    have HG := Lib.hid (show letG (P, B, A, u, n) (f0, f1) (t0, t1) z = (zeroD, 1) from letG_no (fun h => by have := Q1.out.2 (boxB_iff.1 h.1); cases this))
    go_wp2
    refine bodyPost_ret (v := .agg #[.slice none 0 0, .slice none 0 0, .slice none 0 0, .int .i64 0, .int .i64 0, .int .i64 1]) (by simp [results, Tryd.results32, go_sem, *]) rfl ?_
    rw [HG.out]
    exact ⟨_, rfl, step_ow 1, ((((((HB1.out.setCell (p := ⟨W.heap.size + 1 + 1 + 1, 0, none⟩) (by show W.heap.size ≤ W.heap.size + 1 + 1 + 1; omega) (.slice none 0 0)).setCell (p := ⟨W.heap.size + 1 + 1 + 1, 1, none⟩) (by show W.heap.size ≤ W.heap.size + 1 + 1 + 1; omega) (.slice none 0 0)).setCell (p := ⟨W.heap.size + 1 + 1 + 1, 2, none⟩) (by show W.heap.size ≤ W.heap.size + 1 + 1 + 1; omega) (.slice none 0 0)).setCell (p := ⟨W.heap.size + 1 + 1 + 1, 3, none⟩) (by show W.heap.size ≤ W.heap.size + 1 + 1 + 1; omega) (.int .i64 0)).setCell (p := ⟨W.heap.size + 1 + 1 + 1, 4, none⟩) (by show W.heap.size ≤ W.heap.size + 1 + 1 + 1; omega) (.int .i64 0)).setCell (p := ⟨W.heap.size + 1 + 1 + 1, 5, none⟩) (by show W.heap.size ≤ W.heap.size + 1 + 1 + 1; omega) (.int .i64 1))⟩
  | true =>
    go_wp2_with fail
    refine (is_at z 0 1000000 Q2.out _).mono ?_
    rintro e w2 ⟨rfl, hb⟩
    have HB2 := Lib.hid (HB1.out.trans (hb.mono hz1))
    have hz2 := HB2.out.size
    have HR := Lib.hid (HR.out.call hb)
    have HD := Lib.hid (HD.out.call hb)
    have HF1 := Lib.hid (HF1.out.call hb)
    have HT1 := Lib.hid (HT1.out.call hb)
    replace HPw := Lib.hid (gmvS HPw.out hb)
    replace HBw := Lib.hid (gmvS HBw.out hb)
    replace HAw := Lib.hid (gmvS HAw.out hb)
    have d2_0 := HD.out.at_ 0 rfl
    have d2_1 := HD.out.at_ 1 rfl
    have d2_2 := HD.out.at_ 2 rfl
    have d2_3 := HD.out.at_ 3 rfl
    have d2_4 := HD.out.at_ 4 rfl
    have x2_0 := HF1.out.at_ 0 rfl
    have x2_1 := HF1.out.at_ 1 rfl
    have y2_0 := HT1.out.at_ 0 rfl
    have y2_1 := HT1.out.at_ 1 rfl
    have r2_0 := HR.out.at_ 0 rfl
    have r2_1 := HR.out.at_ 1 rfl
    have r2_2 := HR.out.at_ 2 rfl
    have r2_3 := HR.out.at_ 3 rfl
    have r2_4 := HR.out.at_ 4 rfl
    have r2_5 := HR.out.at_ 5 rfl
    have f2_0 := HR.out.soft 0
    have f2_1 := HR.out.soft 1
    have f2_2 := HR.out.soft 2
    have f2_3 := HR.out.soft 3
    have f2_4 := HR.out.soft 4
    have f2_5 := HR.out.soft 5
    clear hb
    cases q2 with
    | false =>
      have HG := Lib.hid (show letG (P, B, A, u, n) (f0, f1) (t0, t1) z = (zeroD, 1) from letG_no (fun h => by have h2 := h.2; rw [Q2.out] at h2; cases h2))
      go_wp2
      refine bodyPost_ret (v := .agg #[.slice none 0 0, .slice none 0 0, .slice none 0 0, .int .i64 0, .int .i64 0, .int .i64 1]) (by simp [results, Tryd.results32, go_sem, *]) rfl ?_
      rw [HG.out]
      exact ⟨_, rfl, step_ow 1, ((((((HB2.out.setCell (p := ⟨W.heap.size + 1 + 1 + 1, 0, none⟩) (by show W.heap.size ≤ W.heap.size + 1 + 1 + 1; omega) (.slice none 0 0)).setCell (p := ⟨W.heap.size + 1 + 1 + 1, 1, none⟩) (by show W.heap.size ≤ W.heap.size + 1 + 1 + 1; omega) (.slice none 0 0)).setCell (p := ⟨W.heap.size + 1 + 1 + 1, 2, none⟩) (by show W.heap.size ≤ W.heap.size + 1 + 1 + 1; omega) (.slice none 0 0)).setCell (p := ⟨W.heap.size + 1 + 1 + 1, 3, none⟩) (by show W.heap.size ≤ W.heap.size + 1 + 1 + 1; omega) (.int .i64 0)).setCell (p := ⟨W.heap.size + 1 + 1 + 1, 4, none⟩) (by show W.heap.size ≤ W.heap.size + 1 + 1 + 1; omega) (.int .i64 0)).setCell (p := ⟨W.heap.size + 1 + 1 + 1, 5, none⟩) (by show W.heap.size ≤ W.heap.size + 1 + 1 + 1; omega) (.int .i64 1))⟩
    | true =>
      have HY := Lib.hid (Q1.out.1 (by first | rfl | trivial))
      have hYP : boxB (P, B, A, u, n) = true ∧ isB z 0 1000000 = true := ⟨boxB_iff.2 HY.out, Q2.out⟩
      have HYP := Lib.hid hYP
      clear hYP
      have hB6 : B.length ≤ 6 := by have := HY.out.2.2.1.1; omega
      have hA20 : A.length ≤ 20 := by have := HY.out.2.2.2.1.1; omega
      have hur := HY.out.2.2.2.2.1
      simp only [isB, Bool.and_eq_true, decide_eq_true_iff] at hur
      go_wp2_with fail
      refine (pair_at HPw.out Q3.out).mono ?_
      rintro e w3 ⟨rfl, hb⟩
      have HB3 := Lib.hid (HB2.out.trans (hb.mono hz2))
      have hz3 := HB3.out.size
      have HR := Lib.hid (HR.out.call hb)
      have HD := Lib.hid (HD.out.call hb)
      have HF1 := Lib.hid (HF1.out.call hb)
      have HT1 := Lib.hid (HT1.out.call hb)
      replace HPw := Lib.hid (gmvS HPw.out hb)
      replace HBw := Lib.hid (gmvS HBw.out hb)
      replace HAw := Lib.hid (gmvS HAw.out hb)
      have d3_0 := HD.out.at_ 0 rfl
      have d3_1 := HD.out.at_ 1 rfl
      have d3_2 := HD.out.at_ 2 rfl
      have d3_3 := HD.out.at_ 3 rfl
      have d3_4 := HD.out.at_ 4 rfl
      have x3_0 := HF1.out.at_ 0 rfl
      have x3_1 := HF1.out.at_ 1 rfl
      have y3_0 := HT1.out.at_ 0 rfl
      have y3_1 := HT1.out.at_ 1 rfl
      have r3_0 := HR.out.at_ 0 rfl
      have r3_1 := HR.out.at_ 1 rfl
      have r3_2 := HR.out.at_ 2 rfl
      have r3_3 := HR.out.at_ 3 rfl
      have r3_4 := HR.out.at_ 4 rfl
      have r3_5 := HR.out.at_ 5 rfl
      have f3_0 := HR.out.soft 0
      have f3_1 := HR.out.soft 1
      have f3_2 := HR.out.soft 2
      have f3_3 := HR.out.soft 3
      have f3_4 := HR.out.soft 4
      have f3_5 := HR.out.soft 5
      clear hb
      cases q3 with
      | false =>
        have HG := Lib.hid (show letG (P, B, A, u, n) (f0, f1) (t0, t1) z = (zeroD, 11) from letG_label HYP.out (fun h => by have := Q3.out.2 h; cases this))
        go_wp2
        refine bodyPost_ret (v := .agg #[.slice none 0 0, .slice none 0 0, .slice none 0 0, .int .i64 0, .int .i64 0, .int .i64 11]) (by simp [results, Tryd.results32, go_sem, *]) rfl ?_
        rw [HG.out]
        exact ⟨_, rfl, step_ow 11, ((((((HB3.out.setCell (p := ⟨W.heap.size + 1 + 1 + 1, 0, none⟩) (by show W.heap.size ≤ W.heap.size + 1 + 1 + 1; omega) (.slice none 0 0)).setCell (p := ⟨W.heap.size + 1 + 1 + 1, 1, none⟩) (by show W.heap.size ≤ W.heap.size + 1 + 1 + 1; omega) (.slice none 0 0)).setCell (p := ⟨W.heap.size + 1 + 1 + 1, 2, none⟩) (by show W.heap.size ≤ W.heap.size + 1 + 1 + 1; omega) (.slice none 0 0)).setCell (p := ⟨W.heap.size + 1 + 1 + 1, 3, none⟩) (by show W.heap.size ≤ W.heap.size + 1 + 1 + 1; omega) (.int .i64 0)).setCell (p := ⟨W.heap.size + 1 + 1 + 1, 4, none⟩) (by show W.heap.size ≤ W.heap.size + 1 + 1 + 1; omega) (.int .i64 0)).setCell (p := ⟨W.heap.size + 1 + 1 + 1, 5, none⟩) (by show W.heap.size ≤ W.heap.size + 1 + 1 + 1; omega) (.int .i64 11))⟩
      | true =>
        have HC := Lib.hid (Q3.out.1 (by first | rfl | trivial))
        by_cases hu : u = 2
        · have hbe : decide (u ≥ 2) = true := decide_eq_true (by omega)
          have HU := Lib.hid hu
          clear hu
          have HG := Lib.hid (show letG (P, B, A, u, n) (f0, f1) (t0, t1) z = (zeroD, 8) from letG_range HYP.out HC.out HU.out)
          go_wp2
          refine bodyPost_ret (v := .agg #[.slice none 0 0, .slice none 0 0, .slice none 0 0, .int .i64 0, .int .i64 0, .int .i64 8]) (by simp [results, Tryd.results32, go_sem, *]) rfl ?_
          rw [HG.out]
          exact ⟨_, rfl, step_ow 8, ((((((HB3.out.setCell (p := ⟨W.heap.size + 1 + 1 + 1, 0, none⟩) (by show W.heap.size ≤ W.heap.size + 1 + 1 + 1; omega) (.slice none 0 0)).setCell (p := ⟨W.heap.size + 1 + 1 + 1, 1, none⟩) (by show W.heap.size ≤ W.heap.size + 1 + 1 + 1; omega) (.slice none 0 0)).setCell (p := ⟨W.heap.size + 1 + 1 + 1, 2, none⟩) (by show W.heap.size ≤ W.heap.size + 1 + 1 + 1; omega) (.slice none 0 0)).setCell (p := ⟨W.heap.size + 1 + 1 + 1, 3, none⟩) (by show W.heap.size ≤ W.heap.size + 1 + 1 + 1; omega) (.int .i64 0)).setCell (p := ⟨W.heap.size + 1 + 1 + 1, 4, none⟩) (by show W.heap.size ≤ W.heap.size + 1 + 1 + 1; omega) (.int .i64 0)).setCell (p := ⟨W.heap.size + 1 + 1 + 1, 5, none⟩) (by show W.heap.size ≤ W.heap.size + 1 + 1 + 1; omega) (.int .i64 8))⟩
        have hbe : decide (u ≥ 2) = false := decide_eq_false (by omega)
        have HU := Lib.hid hu
        clear hu
        by_cases h6 : B.length = 6
        · have hb6 : decide ((B.length : Int) ≥ 6) = true := decide_eq_true (by omega)
          have H6 := Lib.hid h6
          clear h6
          have HG := Lib.hid (show letG (P, B, A, u, n) (f0, f1) (t0, t1) z = (zeroD, 9) from letG_full HYP.out HC.out HU.out (.inl H6.out))
          go_wp2
          refine bodyPost_ret (v := .agg #[.slice none 0 0, .slice none 0 0, .slice none 0 0, .int .i64 0, .int .i64 0, .int .i64 9]) (by simp [results, Tryd.results32, go_sem, *]) rfl ?_
          rw [HG.out]
          exact ⟨_, rfl, step_ow 9, ((((((HB3.out.setCell (p := ⟨W.heap.size + 1 + 1 + 1, 0, none⟩) (by show W.heap.size ≤ W.heap.size + 1 + 1 + 1; omega) (.slice none 0 0)).setCell (p := ⟨W.heap.size + 1 + 1 + 1, 1, none⟩) (by show W.heap.size ≤ W.heap.size + 1 + 1 + 1; omega) (.slice none 0 0)).setCell (p := ⟨W.heap.size + 1 + 1 + 1, 2, none⟩) (by show W.heap.size ≤ W.heap.size + 1 + 1 + 1; omega) (.slice none 0 0)).setCell (p := ⟨W.heap.size + 1 + 1 + 1, 3, none⟩) (by show W.heap.size ≤ W.heap.size + 1 + 1 + 1; omega) (.int .i64 0)).setCell (p := ⟨W.heap.size + 1 + 1 + 1, 4, none⟩) (by show W.heap.size ≤ W.heap.size + 1 + 1 + 1; omega) (.int .i64 0)).setCell (p := ⟨W.heap.size + 1 + 1 + 1, 5, none⟩) (by show W.heap.size ≤ W.heap.size + 1 + 1 + 1; omega) (.int .i64 9))⟩
        have hb6 : decide ((B.length : Int) ≥ 6) = false := decide_eq_false (by omega)
        by_cases h20 : A.length = 20
        · have hb20 : decide ((A.length : Int) ≥ 20) = true := decide_eq_true (by omega)
          have H20 := Lib.hid h20
          clear h20
          have HG := Lib.hid (show letG (P, B, A, u, n) (f0, f1) (t0, t1) z = (zeroD, 9) from letG_full HYP.out HC.out HU.out (.inr H20.out))
          go_wp2
          refine bodyPost_ret (v := .agg #[.slice none 0 0, .slice none 0 0, .slice none 0 0, .int .i64 0, .int .i64 0, .int .i64 9]) (by simp [results, Tryd.results32, go_sem, *]) rfl ?_
          rw [HG.out]
          exact ⟨_, rfl, step_ow 9, ((((((HB3.out.setCell (p := ⟨W.heap.size + 1 + 1 + 1, 0, none⟩) (by show W.heap.size ≤ W.heap.size + 1 + 1 + 1; omega) (.slice none 0 0)).setCell (p := ⟨W.heap.size + 1 + 1 + 1, 1, none⟩) (by show W.heap.size ≤ W.heap.size + 1 + 1 + 1; omega) (.slice none 0 0)).setCell (p := ⟨W.heap.size + 1 + 1 + 1, 2, none⟩) (by show W.heap.size ≤ W.heap.size + 1 + 1 + 1; omega) (.slice none 0 0)).setCell (p := ⟨W.heap.size + 1 + 1 + 1, 3, none⟩) (by show W.heap.size ≤ W.heap.size + 1 + 1 + 1; omega) (.int .i64 0)).setCell (p := ⟨W.heap.size + 1 + 1 + 1, 4, none⟩) (by show W.heap.size ≤ W.heap.size + 1 + 1 + 1; omega) (.int .i64 0)).setCell (p := ⟨W.heap.size + 1 + 1 + 1, 5, none⟩) (by show W.heap.size ≤ W.heap.size + 1 + 1 + 1; omega) (.int .i64 9))⟩
        have hb20 : decide ((A.length : Int) ≥ 20) = false := decide_eq_false (by omega)
        have HG := Lib.hid (show letG (P, B, A, u, n) (f0, f1) (t0, t1) z = ((P, B ++ [((f0, f1), (t0, t1), n, z)], A ++ [((f0, f1), (t0, t1), n, z)], u + 1, n), 0) from letG_ok HYP.out HC.out HU.out h6 h20)
        have hwr : IntKind.i64.wrap (u + 1) = u + 1 := IntWalk.i64_in _ (by omega)
        clear h6 h20
        have HRL := Lib.hid HR.out.lt
        go_wp2_with fail
        refine (copy_spec ⟨by omega, by omega, by omega⟩ HPw.out HBw.out HAw.out).mono ?_
        intro e w4 h
        obtain ⟨xa, xc, ya, yc, za, zc, rfl, hx, hy, hz, hd1, hd2, hb⟩ := copyR_elim h
        have HX := Lib.hid hx
        have HYR := Lib.hid hy
        have HZ := Lib.hid hz
        have HD1 := Lib.hid hd1
        have HD2 := Lib.hid hd2
        have hs34 := hb.size
        clear h hx hy hz hd1 hd2
        have HB4 := Lib.hid (HB3.out.trans (hb.mono hz3))
        have hz4 := HB4.out.size
        have HR := Lib.hid (HR.out.call hb)
        have HD := Lib.hid (HD.out.call hb)
        have HF1 := Lib.hid (HF1.out.call hb)
        have HT1 := Lib.hid (HT1.out.call hb)
        replace HPw := Lib.hid (gmvS HPw.out hb)
        replace HBw := Lib.hid (gmvS HBw.out hb)
        replace HAw := Lib.hid (gmvS HAw.out hb)
        have d4_0 := HD.out.at_ 0 rfl
        have d4_1 := HD.out.at_ 1 rfl
        have d4_2 := HD.out.at_ 2 rfl
        have d4_3 := HD.out.at_ 3 rfl
        have d4_4 := HD.out.at_ 4 rfl
        have x4_0 := HF1.out.at_ 0 rfl
        have x4_1 := HF1.out.at_ 1 rfl
        have y4_0 := HT1.out.at_ 0 rfl
        have y4_1 := HT1.out.at_ 1 rfl
        have r4_0 := HR.out.at_ 0 rfl
        have r4_1 := HR.out.at_ 1 rfl
        have r4_2 := HR.out.at_ 2 rfl
        have r4_3 := HR.out.at_ 3 rfl
        have r4_4 := HR.out.at_ 4 rfl
        have r4_5 := HR.out.at_ 5 rfl
        have f4_0 := HR.out.soft 0
        have f4_1 := HR.out.soft 1
        have f4_2 := HR.out.soft 2
        have f4_3 := HR.out.soft 3
        have f4_4 := HR.out.soft 4
        have f4_5 := HR.out.soft 5
        clear hb
        have hbo : Below w4.heap.size w4 ((w4.alloc (.cells #[.slice xa P.length xc, .slice ya B.length yc, .slice za A.length zc, .int .i64 u, .int .i64 n] 42)).alloc (.cells #[.int .i64 f0, .int .i64 f1, .int .i64 t0, .int .i64 t1, .int .i64 n, .int .i64 z] 87)) := ((Below.refl _ _).alloc (Nat.le_refl _) _).alloc (by simp) _
        obtain ⟨_, ho, hxl⟩ := bx2 w4 #[.slice xa P.length xc, .slice ya B.length yc, .slice za A.length zc, .int .i64 u, .int .i64 n] #[.int .i64 f0, .int .i64 f1, .int .i64 t0, .int .i64 t1, .int .i64 n, .int .i64 z] 42 87
        obtain ⟨wx, hwx⟩ : ∃ w, w = (w4.alloc (.cells #[.slice xa P.length xc, .slice ya B.length yc, .slice za A.length zc, .int .i64 u, .int .i64 n] 42)).alloc (.cells #[.int .i64 f0, .int .i64 f1, .int .i64 t0, .int .i64 t1, .int .i64 n, .int .i64 z] 87) := ⟨_, rfl⟩
        have hsx : wx.heap.size = w4.heap.size + 2 := by rw [hwx]; simp
        rw [← hwx] at hbo ho hxl
        have hX := HX.out.call hbo
        have hY := HYR.out.call hbo
        have hZ := HZ.out.call hbo
        obtain ⟨ya', yc', w5, hr5, hY5, hs5, hk5, ho5, hb5⟩ := LRow.one hY f0 f1 t0 t1 n z (by omega) (by omega)
        have hRk : W.heap.size + 1 + 1 + 1 < w4.heap.size := Nat.lt_of_lt_of_le HRL.out hs34
        have hlo3 : ∀ k, (Value.slice ya B.length yc).ownBlock = some k → w3.heap.size ≤ k ∧ k < w4.heap.size := fun k hk => HYR.out.blk k hk
        have hloz : ∀ k, (Value.slice za A.length zc).ownBlock = some k → w3.heap.size ≤ k ∧ k < w4.heap.size := fun k hk => HZ.out.blk k hk
        have hlox : ∀ k, (Value.slice xa P.length xc).ownBlock = some k → w3.heap.size ≤ k ∧ k < w4.heap.size := fun k hk => HX.out.blk k hk
        have ho5' : Blk w5 w4.heap.size 42 #[.slice xa P.length xc, .slice ya B.length yc, .slice za A.length zc, .int .i64 u, .int .i64 n] := (hk5 _ (by omega) (fun e => by have := hlo3 _ e; omega)).trans ho
        have hx5 : Blk w5 (w4.heap.size + 1) 87 #[.int .i64 f0, .int .i64 f1, .int .i64 t0, .int .i64 t1, .int .i64 n, .int .i64 z] := (hk5 _ (by omega) (fun e => by have := hlo3 _ e; omega)).trans hxl
        have hR5 : Blk w5 (W.heap.size + 1 + 1 + 1) 46 #[.slice none 0 0, .slice none 0 0, .slice none 0 0, .int .i64 0, .int .i64 0, .int .i64 0] := (hk5 _ (by omega) (fun e => by have := hlo3 _ e; have := HRL.out; omega)).trans (HR.out.call hbo)
        have hD5 : Blk w5 W.heap.size 42 #[.slice pa P.length pc, .slice ba B.length bc, .slice aa A.length ac, .int .i64 u, .int .i64 n] := (hk5 _ (by omega) (fun e => by have := hlo3 _ e; have := HRL.out; omega)).trans (HD.out.call hbo)
        have hX5 : LRow w5 w3.heap.size (.slice xa P.length xc) P := FRow.mv hX hs5 fun k hk => hk5 k (by have := hlox k hk; omega) (fun e => (HD1.out k hk).1 e)
        have hZ5 : LRow w5 w3.heap.size (.slice za A.length zc) A := FRow.mv hZ hs5 fun k hk => hk5 k (by have := hloz k hk; omega) (fun e => HD2.out k e hk)
        obtain ⟨w6, hw6⟩ : ∃ w, w = w5.setCell ⟨w4.heap.size, 1, none⟩ (.slice ya' (B.length + 1) yc') := ⟨_, rfl⟩
        have hoff6 : Off (fun k => k = w4.heap.size) w5 w6 := by rw [hw6]; exact (Off.refl (fun k => k = w4.heap.size) w5).setCell (p := ⟨w4.heap.size, 1, none⟩) rfl _
        have ho6 : Blk w6 w4.heap.size 42 #[.slice xa P.length xc, .slice ya' (B.length + 1) yc', .slice za A.length zc, .int .i64 u, .int .i64 n] := by rw [hw6]; exact (ho5'.set 1 _).as rfl
        have hO6 := But2.off hoff6
        have hx6 := hO6.blk hx5 (by omega)
        have hR6 := hO6.blk hR5 (by omega)
        have hD6 := hO6.blk hD5 (by omega)
        have hX6 := LRow.mv2 hX5 hO6 (fun k hk => by have := hlox k hk; omega)
        have hZ6 := LRow.mv2 hZ5 hO6 (fun k hk => by have := hloz k hk; omega)
        have hY6 := LRow.mv2 hY5 hO6 (fun k hk => by rcases ho5 k hk with e | e; (have := hlo3 k e; omega); omega)
        have hs6 := hO6.1
        obtain ⟨za', zc', w7, hr7, hZ7, hs7, hk7, ho7, hb7⟩ := LRow.one hZ6 f0 f1 t0 t1 n z (by omega) (by omega)
        have ho7' : Blk w7 w4.heap.size 42 #[.slice xa P.length xc, .slice ya' (B.length + 1) yc', .slice za A.length zc, .int .i64 u, .int .i64 n] := (hk7 _ ho6.lt (fun e => by have := hloz _ e; omega)).trans ho6
        have hx7 : Blk w7 (w4.heap.size + 1) 87 #[.int .i64 f0, .int .i64 f1, .int .i64 t0, .int .i64 t1, .int .i64 n, .int .i64 z] := (hk7 _ hx6.lt (fun e => by have := hloz _ e; omega)).trans hx6
        have hR7 : Blk w7 (W.heap.size + 1 + 1 + 1) 46 #[.slice none 0 0, .slice none 0 0, .slice none 0 0, .int .i64 0, .int .i64 0, .int .i64 0] := (hk7 _ hR6.lt (fun e => by have := hloz _ e; have := HRL.out; omega)).trans hR6
        have hD7 : Blk w7 W.heap.size 42 #[.slice pa P.length pc, .slice ba B.length bc, .slice aa A.length ac, .int .i64 u, .int .i64 n] := (hk7 _ hD6.lt (fun e => by have := hloz _ e; have := HRL.out; omega)).trans hD6
        have hX7 : LRow w7 w3.heap.size (.slice xa P.length xc) P := FRow.mv hX6 hs7 fun k hk => hk7 k (hX6.blk k hk).2 (fun e => (HD1.out k hk).2 e)
        have hY7 : LRow w7 w3.heap.size (.slice ya' (B.length + 1) yc') (B ++ [((f0, f1), (t0, t1), n, z)]) := FRow.mv hY6 hs7 fun k hk => hk7 k (hY6.blk k hk).2 (fun e => by rcases ho5 k hk with e2 | e2; exact HD2.out k e2 e; (have := hloz k e; omega))
        obtain ⟨w8, hw8⟩ : ∃ w, w = w7.setCell ⟨w4.heap.size, 2, none⟩ (.slice za' (A.length + 1) zc') := ⟨_, rfl⟩
        obtain ⟨w9, hw9⟩ : ∃ w, w = w8.setCell ⟨w4.heap.size, 3, none⟩ (.int .i64 (u + 1)) := ⟨_, rfl⟩
        have ho8 : Blk w8 w4.heap.size 42 #[.slice xa P.length xc, .slice ya' (B.length + 1) yc', .slice za' (A.length + 1) zc', .int .i64 u, .int .i64 n] := by rw [hw8]; exact (ho7'.set 2 _).as rfl
        have ho9 : Blk w9 w4.heap.size 42 #[.slice xa P.length xc, .slice ya' (B.length + 1) yc', .slice za' (A.length + 1) zc', .int .i64 (u + 1), .int .i64 n] := by rw [hw9]; exact (ho8.set 3 _).as rfl
        have hO8 : But2 w7 w8 w4.heap.size := by rw [hw8]; exact But2.off ((Off.refl (fun k => k = w4.heap.size) w7).setCell (p := ⟨w4.heap.size, 2, none⟩) rfl _)
        have hO9 : But2 w8 w9 w4.heap.size := by rw [hw9]; exact But2.off ((Off.refl (fun k => k = w4.heap.size) w8).setCell (p := ⟨w4.heap.size, 3, none⟩) rfl _)
        have hO79 := hO8.trans hO9
        have hR9 := hO79.blk hR7 (by omega)
        have hD8 := hO8.blk hD7 (by omega)
        have hD9 := hO79.blk hD7 (by omega)
        have hX9 := Lib.hid (LRow.mv2 hX7 hO79 (fun k hk => by have := hlox k hk; omega))
        have hY9 := Lib.hid (LRow.mv2 hY7 hO79 (fun k hk => by rcases ho5 k hk with e | e; (have := hlo3 k e; omega); omega))
        have hZ9 := Lib.hid (LRow.mv2 hZ7 hO79 (fun k hk => by rcases ho7 k hk with e | e; (have := hloz k e; omega); omega))
        have HB9 := Lib.hid (show Below W.heap.size W w9 from (HB4.out.trans (hbo.mono HB4.out.size)).trans (((hb5 W.heap.size (by omega)).trans (hO6.2.2 W.heap.size (by omega) (by omega))).trans ((hb7 W.heap.size (by omega)).trans (hO79.2.2 W.heap.size (by omega) (by have := hs7; omega)))))
        have HE1 := Lib.hid (show ∀ k, (Value.slice xa P.length xc).ownBlock = some k → (Value.slice ya' (B.length + 1) yc').ownBlock ≠ some k ∧ (Value.slice za' (A.length + 1) zc').ownBlock ≠ some k from fun k hk => ⟨fun e => by rcases ho5 k e with e2 | e2; exact (HD1.out k hk).1 e2; (have := hlox k hk; omega), fun e => by rcases ho7 k e with e2 | e2; exact (HD1.out k hk).2 e2; (have := hlox k hk; omega)⟩)
        have HE2 := Lib.hid (show ∀ k, (Value.slice ya' (B.length + 1) yc').ownBlock = some k → (Value.slice za' (A.length + 1) zc').ownBlock ≠ some k from fun k hk e => by rcases ho7 k e with e2 | e2; (rcases ho5 k hk with e3 | e3; exact HD2.out k e3 e2; (have := hloz k e2; omega)); (have := (hY6.blk k hk).2; omega))
        have m5_0 := ho5'.at_ 0 rfl
        have m5_1 := ho5'.at_ 1 rfl
        have m5_2 := ho5'.at_ 2 rfl
        have m5_3 := ho5'.at_ 3 rfl
        have m5_4 := ho5'.at_ 4 rfl
        have m6_0 := ho6.at_ 0 rfl
        have m6_1 := ho6.at_ 1 rfl
        have m6_2 := ho6.at_ 2 rfl
        have m6_3 := ho6.at_ 3 rfl
        have m6_4 := ho6.at_ 4 rfl
        have m7_0 := ho7'.at_ 0 rfl
        have m7_1 := ho7'.at_ 1 rfl
        have m7_2 := ho7'.at_ 2 rfl
        have m7_3 := ho7'.at_ 3 rfl
        have m7_4 := ho7'.at_ 4 rfl
        have m8_0 := ho8.at_ 0 rfl
        have m8_1 := ho8.at_ 1 rfl
        have m8_2 := ho8.at_ 2 rfl
        have m8_3 := ho8.at_ 3 rfl
        have m8_4 := ho8.at_ 4 rfl
        have m9_0 := ho9.at_ 0 rfl
        have m9_1 := ho9.at_ 1 rfl
        have m9_2 := ho9.at_ 2 rfl
        have m9_3 := ho9.at_ 3 rfl
        have m9_4 := ho9.at_ 4 rfl
        have s5_0 := ho5'.soft 0
        have s5_1 := ho5'.soft 1
        have s5_2 := ho5'.soft 2
        have s5_3 := ho5'.soft 3
        have s5_4 := ho5'.soft 4
        have s7_0 := ho7'.soft 0
        have s7_1 := ho7'.soft 1
        have s7_2 := ho7'.soft 2
        have s7_3 := ho7'.soft 3
        have s7_4 := ho7'.soft 4
        have s8_0 := ho8.soft 0
        have s8_1 := ho8.soft 1
        have s8_2 := ho8.soft 2
        have s8_3 := ho8.soft 3
        have s8_4 := ho8.soft 4
        have l6_0 := hx6.at_ 0 rfl
        have l6_1 := hx6.at_ 1 rfl
        have l6_2 := hx6.at_ 2 rfl
        have l6_3 := hx6.at_ 3 rfl
        have l6_4 := hx6.at_ 4 rfl
        have l6_5 := hx6.at_ 5 rfl
        have p8_0 := hD8.at_ 0 rfl
        have p8_1 := hD8.at_ 1 rfl
        have p8_2 := hD8.at_ 2 rfl
        have p8_3 := hD8.at_ 3 rfl
        have p8_4 := hD8.at_ 4 rfl
        have r9_0 := hR9.at_ 0 rfl
        have r9_1 := hR9.at_ 1 rfl
        have r9_2 := hR9.at_ 2 rfl
        have r9_3 := hR9.at_ 3 rfl
        have r9_4 := hR9.at_ 4 rfl
        have r9_5 := hR9.at_ 5 rfl
        have g9_0 := hR9.soft 0
        have g9_1 := hR9.soft 1
        have g9_2 := hR9.soft 2
        have g9_3 := hR9.soft 3
        have g9_4 := hR9.soft 4
        have g9_5 := hR9.soft 5
        rw [hwx] at hr5
        simp only [World.size_alloc] at hr5
        have e6 : w6.heap.size = w5.heap.size := by rw [hw6]; simp [World.setCell]
        rw [e6] at hr7
        rw [hw6] at hr7 m6_0 m6_1 m6_2 m6_3 m6_4 l6_0 l6_1 l6_2 l6_3 l6_4 l6_5
        have HW8 := Lib.hid hw8
        have HW9 := Lib.hid hw9
        rw [hw9] at m9_0 m9_1 m9_2 m9_3 m9_4 r9_0 r9_1 r9_2 r9_3 r9_4 r9_5 g9_0 g9_1 g9_2 g9_3 g9_4 g9_5
        rw [hw8] at m8_0 m8_1 m8_2 m8_3 m8_4 s8_0 s8_1 s8_2 s8_3 s8_4 p8_0 p8_1 p8_2 p8_3 p8_4 m9_0 m9_1 m9_2 m9_3 m9_4 r9_0 r9_1 r9_2 r9_3 r9_4 r9_5 g9_0 g9_1 g9_2 g9_3 g9_4 g9_5
        have HR5 := Lib.hid hr5
        have HR7 := Lib.hid hr7
        clear hbo ho hxl hX hY hZ hr5 hY5 hk5 ho5 hb5 hlo3 hloz hlox ho5' hx5 hR5 hD5 hX5 hZ5 hoff6 ho6 hO6 hx6 hR6 hD6 hX6 hZ6 hY6 hr7 hZ7 hk7 ho7 hb7 ho7' hx7 hR7 hD7 hX7 hY7 ho8 ho9 hO8 hO9 hO79 hR9 hD8 hD9 hw6 hw8 hw9 hwx e6 hsx
        have hbA : Below w4.heap.size w4 (w4.alloc (.cells #[.slice xa P.length xc, .slice ya B.length yc, .slice za A.length zc, .int .i64 u, .int .i64 n] 42)) := (Below.refl _ _).alloc (Nat.le_refl _) _
        have a1_0 := (HF1.out.call hbA).at_ 0 rfl
        have a1_1 := (HF1.out.call hbA).at_ 1 rfl
        have a2_0 := (HT1.out.call hbA).at_ 0 rfl
        have a2_1 := (HT1.out.call hbA).at_ 1 rfl
        have a3_0 := (HD.out.call hbA).at_ 0 rfl
        have a3_1 := (HD.out.call hbA).at_ 1 rfl
        have a3_2 := (HD.out.call hbA).at_ 2 rfl
        have a3_3 := (HD.out.call hbA).at_ 3 rfl
        have a3_4 := (HD.out.call hbA).at_ 4 rfl
        clear hbA
        go_wp2_with (at_builtin; first | refine wpList_app rfl (.tmp 54) (.tmp 56) 40 rfl rfl rfl HR5.out ?_ | refine wpList_app rfl (.tmp 60) (.tmp 62) 40 rfl rfl rfl HR7.out ?_)
        refine bodyPost_ret (v := .agg #[.slice xa P.length xc, .slice ya' (B.length + 1) yc', .slice za' (A.length + 1) zc', .int .i64 (u + 1), .int .i64 n, .int .i64 0]) (by simp [results, Tryd.results32, go_sem, *]) rfl ?_
        rw [HG.out, ← HW8.out, ← HW9.out]
        have hoff := (((((((Off.refl (fun x => x = W.heap.size + 1 + 1 + 1) w9).setCell (p := ⟨W.heap.size + 1 + 1 + 1, 0, none⟩) (rfl) (.slice xa P.length xc)).setCell (p := ⟨W.heap.size + 1 + 1 + 1, 1, none⟩) (rfl) (.slice ya' (B.length + 1) yc')).setCell (p := ⟨W.heap.size + 1 + 1 + 1, 2, none⟩) (rfl) (.slice za' (A.length + 1) zc')).setCell (p := ⟨W.heap.size + 1 + 1 + 1, 3, none⟩) (rfl) (.int .i64 (u + 1))).setCell (p := ⟨W.heap.size + 1 + 1 + 1, 4, none⟩) (rfl) (.int .i64 n)).setCell (p := ⟨W.heap.size + 1 + 1 + 1, 5, none⟩) (rfl) (.int .i64 0))
        exact ⟨_, rfl, let_fin2 hX9.out hY9.out hZ9.out (by simp) (by simp) HE1.out HE2.out hoff HRL.out hz3, ((((((HB9.out.setCell (p := ⟨W.heap.size + 1 + 1 + 1, 0, none⟩) (by show W.heap.size ≤ W.heap.size + 1 + 1 + 1; omega) (.slice xa P.length xc)).setCell (p := ⟨W.heap.size + 1 + 1 + 1, 1, none⟩) (by show W.heap.size ≤ W.heap.size + 1 + 1 + 1; omega) (.slice ya' (B.length + 1) yc')).setCell (p := ⟨W.heap.size + 1 + 1 + 1, 2, none⟩) (by show W.heap.size ≤ W.heap.size + 1 + 1 + 1; omega) (.slice za' (A.length + 1) zc')).setCell (p := ⟨W.heap.size + 1 + 1 + 1, 3, none⟩) (by show W.heap.size ≤ W.heap.size + 1 + 1 + 1; omega) (.int .i64 (u + 1))).setCell (p := ⟨W.heap.size + 1 + 1 + 1, 4, none⟩) (by show W.heap.size ≤ W.heap.size + 1 + 1 + 1; omega) (.int .i64 n)).setCell (p := ⟨W.heap.size + 1 + 1 + 1, 5, none⟩) (by show W.heap.size ≤ W.heap.size + 1 + 1 + 1; omega) (.int .i64 0))⟩
end Go.Proofs.YtknifggpodhhdaaDoor.RepC
