/- NextTime of the model: a contract. -/
import Derived.Test.YtknifggpodhhdaaDoorDkR
namespace Go.Proofs.YtknifggpodhhdaaDoor.RepC
open Go.RowKit RowC ValC SpanC KeptC
set_option linter.unusedVariables false
set_option linter.unusedSimpArgs false

theorem LRow.ow {w : World} {lo : Nat} {a : Option Addr} {c : Nat} {L : List D_Letter} (h : LRow w lo (.slice a L.length c) L) : OwSl R_Letter w (fun k => (Value.slice a L.length c).ownBlock = some k) L a c := by
  obtain ⟨a', c', e, ho⟩ := h.sl R_Letter_ok flat_Letter
  cases e
  exact ho
theorem next_fin {P A : List D_Letter} {xa za : Option Addr} {xc zc : Nat} {w V : World} {lo g W0 : Nat} {m : Int} (hx : LRow w lo (.slice xa P.length xc) P) (hz : LRow w lo (.slice za A.length zc) A) (hd : ∀ k, (Value.slice xa P.length xc).ownBlock = some k → (Value.slice za A.length zc).ownBlock ≠ some k) (hoff : Off (fun k => k = g) w V) (hg : g < lo) (hW : W0 ≤ lo) :
    R_DeskStep.ow V (Rg W0 V.heap.size) ((P, [], A, 0, m), 0) [.slice xa P.length xc, .slice none 0 0, .slice za A.length zc, .int .i64 0, .int .i64 m, .int .i64 0] := by
  have hs := hoff.size
  refine mkow_DeskStep (T0 := fun k => (Value.slice xa P.length xc).ownBlock = some k) (T1 := fun _ => False) (T2 := fun k => (Value.slice za A.length zc).ownBlock = some k) (fun k hk => ?_) (fun k h => h.elim) (fun k hk => ?_) (fun k _ h => h) (fun k h1 h2 => hd k h1 h2) (fun k h => h.elim) (OwSl.keep R_Letter_ok hx.ow fun k hk => hoff.block k (hx.blk k hk).2 fun e => ?_) (nil_ow _ _) (OwSl.keep R_Letter_ok hz.ow fun k hk => hoff.block k (hz.blk k hk).2 fun e => ?_)
  · have := hx.blk k hk; unfold Rg; omega
  · have := hz.blk k hk; unfold Rg; omega
  · have := hx.blk k hk; subst e; omega
  · have := hz.blk k hk; subst e; omega
set_option maxRecDepth 100000 in
set_option maxHeartbeats 1000000 in
theorem nexttime_spec {P B A : List D_Letter} {pa ba aa : Option Addr} {pc bc ac : Nat} {u n : Int} {W : World} (hlen : P.length ≤ 1048576 ∧ B.length ≤ 1048576 ∧ A.length ≤ 1048576) (hP : RdSl R_Letter W W.heap.size P pa pc) (hB : RdSl R_Letter W W.heap.size B ba bc) (hA : RdSl R_Letter W W.heap.size A aa ac) : Calls Tryd.prog 33 #[.agg #[.slice pa P.length pc, .slice ba B.length bc, .slice aa A.length ac, .int .i64 u, .int .i64 n]] W (NewV R_DeskStep (nextG (P, B, A, u, n)) W) := by
  obtain ⟨hb0, hd0, hr0⟩ := bx2 W #[.slice pa P.length pc, .slice ba B.length bc, .slice aa A.length ac, .int .i64 u, .int .i64 n] #[.slice none 0 0, .slice none 0 0, .slice none 0 0, .int .i64 0, .int .i64 0, .int .i64 0] 42 46
  obtain ⟨w0, hw0⟩ : ∃ w, w = (W.alloc (.cells #[.slice pa P.length pc, .slice ba B.length bc, .slice aa A.length ac, .int .i64 u, .int .i64 n] 42)).alloc (.cells #[.slice none 0 0, .slice none 0 0, .slice none 0 0, .int .i64 0, .int .i64 0, .int .i64 0] 46) := ⟨_, rfl⟩
  rw [← hw0] at hb0 hd0 hr0
  have HB0 := Lib.hid hb0
  have HR0 := Lib.hid hr0
  have HD0 := Lib.hid hd0
  have HPw := Lib.hid (gmvS hP hb0)
  have HBw := Lib.hid (gmvS hB hb0)
  have HAw := Lib.hid (gmvS hA hb0)
  have hz0 := hb0.size
  clear hb0 hd0 hr0 hP hB hA
  obtain ⟨q1, Q1⟩ := nameB (DeskR P B A u n)
  go_enter Tryd.func33, Tryd.ntmps33
  go_wp2_with fail
  rw [← hw0]
  clear hw0
  refine ((box_spec HPw.out HBw.out HAw.out).mono (fun _ _ => resB_at Q1.out)).mono ?_
  rintro e w1 ⟨rfl, hb⟩
  have HB1 := Lib.hid (HB0.out.trans (hb.mono hz0))
  have hz1 := HB1.out.size
  have HR1 := Lib.hid (HR0.out.call hb)
  have HD1 := Lib.hid (HD0.out.call hb)
  replace HPw := Lib.hid (gmvS HPw.out hb)
  replace HBw := Lib.hid (gmvS HBw.out hb)
  replace HAw := Lib.hid (gmvS HAw.out hb)
  have qHR1_0 := HR1.out.at_ 0 rfl
  have qHR1_1 := HR1.out.at_ 1 rfl
  have qHR1_2 := HR1.out.at_ 2 rfl
  have qHR1_3 := HR1.out.at_ 3 rfl
  have qHR1_4 := HR1.out.at_ 4 rfl
  have qHR1_5 := HR1.out.at_ 5 rfl
  have sHR1_0 := HR1.out.soft 0
  have sHR1_1 := HR1.out.soft 1
  have sHR1_2 := HR1.out.soft 2
  have sHR1_3 := HR1.out.soft 3
  have sHR1_4 := HR1.out.soft 4
  have sHR1_5 := HR1.out.soft 5
  have qHD1_0 := HD1.out.at_ 0 rfl
  have qHD1_1 := HD1.out.at_ 1 rfl
  have qHD1_2 := HD1.out.at_ 2 rfl
  have qHD1_3 := HD1.out.at_ 3 rfl
  have qHD1_4 := HD1.out.at_ 4 rfl
  have hlt1 := HR1.out.lt
  clear hb
  cases q1 with
  | false =>
    have HG := Lib.hid (show nextG (P, B, A, u, n) = (zeroD, 1) from by unfold nextG; rw [if_neg (by rw [boxB_iff]; intro h; have := Q1.out.2 h; cases this)])
    go_wp2
    refine bodyPost_ret (v := .agg #[.slice none 0 0, .slice none 0 0, .slice none 0 0, .int .i64 0, .int .i64 0, .int .i64 1]) (by simp [results, Tryd.results33, go_sem, *]) rfl ?_
    rw [HG.out]
    exact ⟨_, rfl, step_ow 1, ((((((HB1.out.setCell (p := ⟨W.heap.size + 1, 0, none⟩) (Nat.le_succ _) (.slice none 0 0)).setCell (p := ⟨W.heap.size + 1, 1, none⟩) (Nat.le_succ _) (.slice none 0 0)).setCell (p := ⟨W.heap.size + 1, 2, none⟩) (Nat.le_succ _) (.slice none 0 0)).setCell (p := ⟨W.heap.size + 1, 3, none⟩) (Nat.le_succ _) (.int .i64 0)).setCell (p := ⟨W.heap.size + 1, 4, none⟩) (Nat.le_succ _) (.int .i64 0)).setCell (p := ⟨W.heap.size + 1, 5, none⟩) (Nat.le_succ _) (.int .i64 1))⟩
  | true =>
    have HY := Lib.hid (Q1.out.1 (by first | rfl | trivial))
    have hr := HY.out.2.1
    simp only [isB, Bool.and_eq_true, decide_eq_true_iff] at hr
    by_cases hn : n = 999900
    · have HG := Lib.hid (show nextG (P, B, A, u, n) = (zeroD, 9) from by unfold nextG; rw [if_pos (by rw [boxB_iff]; exact HY.out), if_pos hn])
      have hd : decide (n ≥ 999900) = true := decide_eq_true (by omega)
      clear hn hr
      go_wp2
      refine bodyPost_ret (v := .agg #[.slice none 0 0, .slice none 0 0, .slice none 0 0, .int .i64 0, .int .i64 0, .int .i64 9]) (by simp [results, Tryd.results33, go_sem, *]) rfl ?_
      rw [HG.out]
      exact ⟨_, rfl, step_ow 9, ((((((HB1.out.setCell (p := ⟨W.heap.size + 1, 0, none⟩) (Nat.le_succ _) (.slice none 0 0)).setCell (p := ⟨W.heap.size + 1, 1, none⟩) (Nat.le_succ _) (.slice none 0 0)).setCell (p := ⟨W.heap.size + 1, 2, none⟩) (Nat.le_succ _) (.slice none 0 0)).setCell (p := ⟨W.heap.size + 1, 3, none⟩) (Nat.le_succ _) (.int .i64 0)).setCell (p := ⟨W.heap.size + 1, 4, none⟩) (Nat.le_succ _) (.int .i64 0)).setCell (p := ⟨W.heap.size + 1, 5, none⟩) (Nat.le_succ _) (.int .i64 9))⟩
    · have HG := Lib.hid (show nextG (P, B, A, u, n) = ((P, [], A, 0, n + 1), 0) from by unfold nextG; rw [if_pos (by rw [boxB_iff]; exact HY.out), if_neg hn])
      have hd : decide (n ≥ 999900) = false := decide_eq_false (by omega)
      have hwr : IntKind.i64.wrap (n + 1) = n + 1 := IntWalk.i64_in _ (by omega)
      clear hn hr
      go_wp2_with fail
      refine (copy_spec ⟨by omega, by omega, by omega⟩ HPw.out HBw.out HAw.out).mono ?_
      intro e w2 h
      obtain ⟨xa, xc, ya, yc, za, zc, rfl, hx, hy, hz, hd1, hd2, hb⟩ := copyR_elim h
      have HB2 := Lib.hid (HB1.out.trans (hb.mono hz1))
      have hs12 := hb.size
      have HR2 := Lib.hid (HR1.out.call hb)
      have HD2 := Lib.hid (HD1.out.call hb)
      have HX := Lib.hid hx
      have HZ := Lib.hid hz
      have HDJ := Lib.hid hd1
      have hbo : Below w2.heap.size w2 (w2.alloc (.cells #[.slice xa P.length xc, .slice ya B.length yc, .slice za A.length zc, .int .i64 u, .int .i64 n] 42)) := (Below.refl _ _).alloc (Nat.le_refl _) _
      have hbo2 : Below w2.heap.size w2 (w2.alloc (.cells #[.slice xa P.length xc, .slice none 0 0, .slice za A.length zc, .int .i64 0, .int .i64 (n + 1)] 42)) := (Below.refl _ _).alloc (Nat.le_refl _) _
      have HD3 := Lib.hid (HD2.out.call hbo)
      have HR3 := Lib.hid (HR2.out.call hbo2)
      obtain ⟨wo, hwo⟩ : ∃ w, w = w2.alloc (.cells #[.slice xa P.length xc, .slice none 0 0, .slice za A.length zc, .int .i64 0, .int .i64 (n + 1)] 42) := ⟨_, rfl⟩
      have HB3 := Lib.hid (show Below W.heap.size W wo from hwo ▸ HB2.out.trans (hbo2.mono HB2.out.size))
      have HX3 := Lib.hid (show LRow wo w1.heap.size (.slice xa P.length xc) P from hwo ▸ HX.out.call hbo2)
      have HZ3 := Lib.hid (show LRow wo w1.heap.size (.slice za A.length zc) A from hwo ▸ HZ.out.call hbo2)
      have HWO := Lib.hid hwo
      have qHD2_0 := HD2.out.at_ 0 rfl
      have qHD2_1 := HD2.out.at_ 1 rfl
      have qHD2_2 := HD2.out.at_ 2 rfl
      have qHD2_3 := HD2.out.at_ 3 rfl
      have qHD2_4 := HD2.out.at_ 4 rfl
      have qHD3_0 := HD3.out.at_ 0 rfl
      have qHD3_1 := HD3.out.at_ 1 rfl
      have qHD3_2 := HD3.out.at_ 2 rfl
      have qHD3_3 := HD3.out.at_ 3 rfl
      have qHD3_4 := HD3.out.at_ 4 rfl
      have qHR3_0 := HR3.out.at_ 0 rfl
      have qHR3_1 := HR3.out.at_ 1 rfl
      have qHR3_2 := HR3.out.at_ 2 rfl
      have qHR3_3 := HR3.out.at_ 3 rfl
      have qHR3_4 := HR3.out.at_ 4 rfl
      have qHR3_5 := HR3.out.at_ 5 rfl
      have sHR3_0 := HR3.out.soft 0
      have sHR3_1 := HR3.out.soft 1
      have sHR3_2 := HR3.out.soft 2
      have sHR3_3 := HR3.out.soft 3
      have sHR3_4 := HR3.out.soft 4
      have sHR3_5 := HR3.out.soft 5
      clear h hx hy hz hd1 hd2 hb hbo hbo2 hwo
      go_wp2
      refine bodyPost_ret (v := .agg #[.slice xa P.length xc, .slice none 0 0, .slice za A.length zc, .int .i64 0, .int .i64 (n + 1), .int .i64 0]) (by simp [results, Tryd.results33, go_sem, *]) rfl ?_
      rw [HG.out, ← HWO.out]
      have hoff := (((((((Off.refl (fun x => x = W.heap.size + 1) wo).setCell (p := ⟨W.heap.size + 1, 0, none⟩) (rfl) (.slice xa P.length xc)).setCell (p := ⟨W.heap.size + 1, 1, none⟩) (rfl) (.slice none 0 0)).setCell (p := ⟨W.heap.size + 1, 2, none⟩) (rfl) (.slice za A.length zc)).setCell (p := ⟨W.heap.size + 1, 3, none⟩) (rfl) (.int .i64 0)).setCell (p := ⟨W.heap.size + 1, 4, none⟩) (rfl) (.int .i64 (n + 1))).setCell (p := ⟨W.heap.size + 1, 5, none⟩) (rfl) (.int .i64 0))
      exact ⟨_, rfl, next_fin HX3.out HZ3.out (fun k hk => (HDJ.out k hk).2) hoff hlt1 hz1, ((((((HB3.out.setCell (p := ⟨W.heap.size + 1, 0, none⟩) (Nat.le_succ _) (.slice xa P.length xc)).setCell (p := ⟨W.heap.size + 1, 1, none⟩) (Nat.le_succ _) (.slice none 0 0)).setCell (p := ⟨W.heap.size + 1, 2, none⟩) (Nat.le_succ _) (.slice za A.length zc)).setCell (p := ⟨W.heap.size + 1, 3, none⟩) (Nat.le_succ _) (.int .i64 0)).setCell (p := ⟨W.heap.size + 1, 4, none⟩) (Nat.le_succ _) (.int .i64 (n + 1))).setCell (p := ⟨W.heap.size + 1, 5, none⟩) (Nat.le_succ _) (.int .i64 0))⟩
end Go.Proofs.YtknifggpodhhdaaDoor.RepC
