/- FirstFit in the program: a contract. -/
import Derived.Test.YtphklknaagjmpaaSqSoon
namespace Go.Proofs.Ytphklknaagjmpaa.SpanC
open Go.RowKit Go.Shelf KeptC RowC ValC
attribute [local go_sem] Oper.semAt_some
set_option linter.unusedSimpArgs false
set_option linter.unusedVariables false

theorem keeps_of {B : Nat} {W W' : World} (h : Below W.heap.size W W') : KeepsFrom B W W' := ⟨h.size, fun k o _ hk _ => (h.block k (Array.getElem?_eq_some_iff.1 hk).1).trans hk⟩

set_option maxRecDepth 100000 in
set_option maxHeartbeats 4000000 in
theorem first_impl {qa : Option Addr} {qc m : Nat} {N : Nat → Nat} {F : Nat → Nat → Int × Int} {qA : Nat → Option Addr} {qC : Nat → Nat} {w : World} (q : Nat) (len now : Int) (hq1 : 1 ≤ q) (hq : q ≤ 6) (hl0 : 1 ≤ len) (hl1 : len ≤ 40) (hn0 : 0 ≤ now) (hn1 : now ≤ 999900) (hRP : RowsP m N F) (hN : ∀ i, i < m → N i ≤ 1048576) (h1 : RA w qa m N F qA qC) :
    Calls Try.prog 7 #[.slice qa m qc, .int .i64 q, .int .i64 len, .int .i64 now] w (ResT (FirstQ N F m q len now) w) := by
  have H1 := Lib.hid h1
  have hm := hRP.1
  have HP := Lib.hid hRP
  have HRR := fun (W : World) (h : RA W qa m N F qA qC) => (rows_impl (qc := qc) (by omega) hN h).mono (R' := fun e w' => e = .returned (.bool true) ∧ Below W.heap.size W w') fun e w' h => by
    obtain ⟨b, rfl, hc, hb⟩ := resB_elim h
    obtain rfl : b = true := hc.2 HP.out
    exact ⟨rfl, hb⟩
  have HRR := Lib.hid HRR
  have H2 := Lib.hid (fun W => is_impl q 1 6 W)
  have H3 := Lib.hid (fun W => is_impl len 1 40 W)
  have H4 := Lib.hid (fun W => now_impl now W)
  have e2 : isB (q : Int) 1 6 = true := (isB_iff _ _ _).2 ⟨by omega, by omega⟩
  have e3 : isB len 1 40 = true := (isB_iff _ _ _).2 ⟨by omega, by omega⟩
  have e4 : isB now 0 999900 = true := (isB_iff _ _ _).2 ⟨by omega, by omega⟩
  rw [e2] at H2
  rw [e3] at H3
  rw [e4] at H4
  clear h1 hRP e2 e3 e4
  refine (callsIn_wide (n := 6)).1 ?_
  refine callsIn_of_wp_marks Try.func7 rfl trivial ?_ rfl
  simp only [Try.ntmps7, List.size_toArray, List.length_cons, List.length_nil, Nat.reduceAdd, Nat.reduceSub, Array.replicate_succ, Array.replicate_zero, List.push_toArray, List.append_toArray, List.nil_append, List.cons_append]
  have hb3 : Below w.heap.size w (((w.alloc (.cells #[.slice qa m qc] 29)).alloc (.cells #[.int .i64 q] 2)).alloc (.cells #[.int .i64 0] 2)) := (((Below.refl _ _).alloc (Nat.le_refl _) _).alloc (by simp) _).alloc (by simp; omega) _
  have d0 : (((w.alloc (.cells #[.slice qa m qc] 29)).alloc (.cells #[.int .i64 q] 2)).alloc (.cells #[.int .i64 0] 2)).cell? ⟨w.heap.size, 0, none⟩ = some (.slice qa m qc) := by first | (simp; done) | (simp [go_sem]; done)
  have d1 : (((w.alloc (.cells #[.slice qa m qc] 29)).alloc (.cells #[.int .i64 q] 2)).alloc (.cells #[.int .i64 0] 2)).cell? ⟨w.heap.size + 1, 0, none⟩ = some (.int .i64 q) := by first | (simp; done) | (simp [go_sem]; done)
  have d2 : (((w.alloc (.cells #[.slice qa m qc] 29)).alloc (.cells #[.int .i64 q] 2)).alloc (.cells #[.int .i64 0] 2)).cell? ⟨w.heap.size + 1 + 1, 0, none⟩ = some (.int .i64 0) := by first | (simp; done) | (simp [go_sem]; done)
  have d3 : (((w.alloc (.cells #[.slice qa m qc] 29)).alloc (.cells #[.int .i64 q] 2)).alloc (.cells #[.int .i64 0] 2)).frozen? ⟨w.heap.size + 1 + 1, 0, none⟩ = false := by first | (simp; done) | (simp [go_sem]; done) | (simp [World.frozen?, World.alloc, Array.getElem?_push]; done)
  have d4 : (((w.alloc (.cells #[.slice qa m qc] 29)).alloc (.cells #[.int .i64 q] 2)).alloc (.cells #[.int .i64 0] 2)).heap.size = w.heap.size + 3 := by first | (simp; done) | (simp [go_sem]; done)
  have D0 := Lib.hid d0
  have D1 := Lib.hid d1
  have D2 := Lib.hid d2
  have D3 := Lib.hid d3
  have D4 := Lib.hid d4
  clear d0 d1 d2 d3 d4
  have HB3 := Lib.hid hb3
  clear hb3
  gi_wp2_with fail
  refine ⟨trivial, ?_⟩
  refine (callsIn_wide.2 (HRR.out _ (H1.out.below HB3.out))).mono ?_
  rintro e w1 ⟨rfl, hb⟩
  have HB1 := Lib.hid hb
  have hsz1 : w.heap.size + 3 ≤ w1.heap.size := by have := hb.size; simp at this; omega
  have c0 : w1.cell? ⟨w.heap.size, 0, none⟩ = some (.slice qa m qc) := (hb.cell (p := ⟨w.heap.size, 0, none⟩) (by show w.heap.size < _; rw [D4.out]; omega)).trans D0.out
  have c1 : w1.cell? ⟨w.heap.size + 1, 0, none⟩ = some (.int .i64 q) := (hb.cell (p := ⟨w.heap.size + 1, 0, none⟩) (by show w.heap.size + 1 < _; rw [D4.out]; omega)).trans D1.out
  have c2 : w1.cell? ⟨w.heap.size + 1 + 1, 0, none⟩ = some (.int .i64 0) := (hb.cell (p := ⟨w.heap.size + 1 + 1, 0, none⟩) (by show w.heap.size + 1 + 1 < _; rw [D4.out]; omega)).trans D2.out
  have f2 : w1.frozen? ⟨w.heap.size + 1 + 1, 0, none⟩ = false := (hb.frozen (p := ⟨w.heap.size + 1 + 1, 0, none⟩) (by show w.heap.size + 1 + 1 < _; rw [D4.out]; omega)).trans D3.out
  have HBw := Lib.hid (HB3.out.trans (hb.mono (by simp; omega)))
  clear hb
  gi_wp2_with fail
  refine ⟨trivial, ?_⟩
  refine (callsIn_wide.2 (H2.out _)).mono ?_
  rintro e w' ⟨rfl, rfl⟩
  gi_wp2_with fail
  refine ⟨trivial, ?_⟩
  refine (callsIn_wide.2 (H3.out _)).mono ?_
  rintro e w' ⟨rfl, rfl⟩
  gi_wp2_with fail
  refine ⟨trivial, ?_⟩
  refine (callsIn_wide.2 (H4.out _)).mono ?_
  rintro e w' ⟨rfl, rfl⟩
  gi_wp2_with fail
  refine ⟨trivial, ?_⟩
  refine (callsIn_wide.2 (soon_impl _ _ _)).mono ?_
  rintro e w' ⟨rfl, rfl⟩
  gi_wp2_with fail
  have HB0 := Lib.hid (show Below w.heap.size w ((w1.alloc (.cells #[.int .i64 now] 2)).alloc (.cells #[.int .i64 len] 2)) from (HBw.out.alloc (by omega) _).alloc (by simp; omega) _)
  have HW1 := Lib.hid (show Below w1.heap.size w1 ((w1.alloc (.cells #[.int .i64 now] 2)).alloc (.cells #[.int .i64 len] 2)) from ((Below.refl _ _).alloc (Nat.le_refl _) _).alloc (by simp) _)
  refine wpIn_rangeFunc_ownH rfl (by omega) (gf := 46) (lb := #[.pointer (some ⟨w1.heap.size, 0, none⟩), .pointer (some ⟨w1.heap.size + 1, 0, none⟩)]) rfl trivial (enters_of Try.func46 (by kernel_rfl) rfl)
    (soon_stops 5 (by omega) w1.heap.size (w1.heap.size + 1) (w1.heap.size + 2) now len hn0 hn1 hl0 hl1 ((w1.alloc (.cells #[.int .i64 now] 2)).alloc (.cells #[.int .i64 len] 2)) (by omega) (by omega) (by simp) (by simp) (by simp)) belowK_t (belowK_b (by simp)) (Below.refl _ _) (fun _ => rfl)
    (fun pre W => (∀ y ∈ pre, ¬ okT N F m q len (now + (y : Nat))) ∧ Below (w1.heap.size + 2) ((w1.alloc (.cells #[.int .i64 now] 2)).alloc (.cells #[.int .i64 len] 2)) W)
    (fun c pre W => (c = .ret ∧ ∃ init x, pre = init ++ [x] ∧ okT N F m q len (now + (x : Nat)) ∧ (∀ y ∈ init, ¬ okT N F m q len (now + (y : Nat))) ∧ W.cell? ⟨w.heap.size + 1 + 1, 0, none⟩ = some (.int .i64 (now + x))) ∧ Below w.heap.size w W)
    (OwnFrom.and (ownFrom_pure _ (fun pre => ∀ y ∈ pre, ¬ okT N F m q len (now + (y : Nat)))) (ownFrom_below (by simp) (by simp)))
    (fun c => OwnFrom.and (Own.from (fun s A B row hs hg hr => by obtain ⟨h1, init, x, h2, h3, h4, h5⟩ := hs; exact ⟨h1, init, x, h2, h3, h4, cell_kept h5 hg hr⟩) _) (ownFrom_below (Nat.le_refl _) (by simp; omega)))
    ⟨by simp, Below.refl _ _⟩
    (fun x a' W => ∃ Bx, w1.heap.size + 2 ≤ Bx ∧ W.cell? ⟨Bx, 0, none⟩ = some (.int .i64 (now + x)) ∧ W.cell? ⟨Bx, 1, none⟩ = some (.int .i64 (now + x + len)) ∧ a' = { tmps := #[.slice qa m qc, .int .i64 q, .int .i64 len, .int .i64 now, .pointer (some ⟨w.heap.size, 0, none⟩), .pointer (some ⟨w.heap.size + 1, 0, none⟩), undef, undef, .pointer (some ⟨w.heap.size + 1 + 1, 0, none⟩), .pointer (some ⟨Bx, 0, none⟩), .slice qa m qc, .bool true, .bool false, .bool false, .int .i64 q, .bool true, .bool false, .bool false, .bool false, .int .i64 len, .bool true, .bool false, .bool false, .bool false, .int .i64 now, .bool true, .bool false, .bool false, .int .i64 now, .int .i64 len, .func (.func 46) #[] #[.pointer (some ⟨w1.heap.size, 0, none⟩), .pointer (some ⟨w1.heap.size + 1, 0, none⟩)], .agg #[.int .i64 (now + x), .int .i64 (now + x + len)], undef, undef, undef, undef, undef, undef, undef, undef], defers := [] })
    (fun x a' s X Y row hs hg hr => by obtain ⟨Bx, h1, h2, h3, h4⟩ := hs; exact ⟨Bx, h1, cell_kept h2 hg (fun r e => (hr r e).2), cell_kept h3 hg (fun r e => (hr r e).2), h4⟩)
    ?assign ?body ?done ?stop
  case assign =>
    rintro l pre x W K ⟨hpre, hB⟩ hK
    have HK := Lib.hid hK
    have HPRE := Lib.hid hpre
    have HBB := Lib.hid hB
    have hsz := hB.size
    clear hK hpre hB
    dsimp only [encT]
    gi_wp2
    exact HK.out _ _ ((KeepsOthers.alloc _ _).from _) ((Below.refl _ W).alloc (Nat.le_trans (by simp) hsz) _) ⟨HPRE.out, HBB.out.alloc (Nat.le_trans (by simp) hsz) _⟩ ⟨W.heap.size, by have h := hsz; simp at h; omega, by simp, by simp, rfl⟩
  case body =>
    rintro l pre x a' W hl ⟨r, hr⟩ ⟨hpre, hB⟩ ⟨Bx, hBx, hx0, hx1, rfl⟩ hlt
    have HPRE := Lib.hid hpre
    have HBB := Lib.hid hB
    have hszW : w1.heap.size + 2 ≤ W.heap.size := by have h := hB.size; simp at h; omega
    have HBW := Lib.hid (show Below w1.heap.size w1 W from HW1.out.trans (hB.mono (by omega)))
    have HBx := Lib.hid (show Below w.heap.size w W from HBw.out.trans (HBW.out.mono (by omega)))
    have a0 := (HBW.out.cell (p := ⟨w.heap.size, 0, none⟩) (by show w.heap.size < _; omega)).trans c0
    have a1 := (HBW.out.cell (p := ⟨w.heap.size + 1, 0, none⟩) (by show w.heap.size + 1 < _; omega)).trans c1
    have a2 := (HBW.out.cell (p := ⟨w.heap.size + 1 + 1, 0, none⟩) (by show w.heap.size + 1 + 1 < _; omega)).trans c2
    have s2 := (HBW.out.frozen (p := ⟨w.heap.size + 1 + 1, 0, none⟩) (by show w.heap.size + 1 + 1 < _; omega)).trans f2
    have hBl : Bx < W.heap.size := World.block_lt_of_cell? W ⟨Bx, 0, none⟩ hx0
    have HR := Lib.hid (H1.out.below HBx.out)
    clear hpre hB hr c0 c1 c2 f2
    have HC := Lib.hid (fun (W' : World) (hb : Below W.heap.size W W') => nodes_impl (qc := qc) (w := W') (now + (x : Nat)) (now + (x : Nat) + len) hm hN (HR.out.below hb) HP.out.2 (by omega))
    gi_wp2_with fail
    gi_region_with ((refine ⟨trivial, ?_⟩; gi_at_call 31; refine (CallsIn.inRound l (callsIn_wide.2 (HC.out _ (by repeat (first | exact Below.refl _ _ | refine Below.drew ?_))))).mono ?_; intro e w2 h; obtain ⟨A, ln, cap, L, rfl, hL, hrow, hb⟩ := resL_elim h; have HLn := Lib.hid hrow.1; have HL := Lib.hid hL; have b1 := (hb.cell (p := ⟨w.heap.size + 1, 0, none⟩) (by show w.heap.size + 1 < W.heap.size; omega)).trans a1; have HB2 := Lib.hid hb; clear h hrow hL hb))
    all_goals
      have HB3' := Lib.hid (show Below W.heap.size W w2 from ⟨HB2.out.os, HB2.out.tape, HB2.out.output, HB2.out.size, HB2.out.block⟩)
      have z0 := (HB3'.out.cell (p := ⟨Bx, 0, none⟩) hBl).trans hx0
      have z2 := (HB3'.out.cell (p := ⟨w.heap.size + 1 + 1, 0, none⟩) (by show w.heap.size + 1 + 1 < W.heap.size; omega)).trans a2
      have y2 := (HB3'.out.frozen (p := ⟨w.heap.size + 1 + 1, 0, none⟩) (by show w.heap.size + 1 + 1 < W.heap.size; omega)).trans s2
      clear HB2
      by_cases hok : q ≤ ln
      · have HOK := Lib.hid (show okT N F m q len (now + (x : Nat)) by unfold okT; rw [← HL.out, ← HLn.out]; exact hok)
        have hd : decide ((q : Int) ≤ (ln : Int)) = true := decide_eq_true (by omega)
        have hd' : decide (q ≤ ln) = true := decide_eq_true hok
        gi_wp2
        exact ⟨(keeps_of HB3'.out).trans ((KeepsOthers.setCell _ _ _).from _), ⟨rfl, pre, x, rfl, HOK.out, HPRE.out, World.cell?_setCell_same' _ _ _ (by rw [z2]; rfl)⟩, (HBx.out.trans (HB3'.out.mono (by omega))).setCell (by show w.heap.size ≤ w.heap.size + 1 + 1; omega) _⟩
      · have HOK := Lib.hid (show ¬ okT N F m q len (now + (x : Nat)) by unfold okT; rw [← HL.out, ← HLn.out]; exact hok)
        have hd : decide ((q : Int) ≤ (ln : Int)) = false := decide_eq_false (by omega)
        have hd' : decide (q ≤ ln) = false := decide_eq_false hok
        gi_wp2
        exact ⟨keeps_of HB3'.out, HB3'.out.mono hszW, fun y hy => (List.mem_append.1 hy).elim (HPRE.out y) (fun e => by simp at e; subst e; exact HOK.out), HBB.out.trans (HB3'.out.mono hszW)⟩
  case done =>
    rintro D xs W hD rfl ⟨hne, hB⟩ hK
    have hszW : w1.heap.size + 2 ≤ W.heap.size := by have h := hB.size; simp at h; omega
    have HBW := Lib.hid (show Below w1.heap.size w1 W from HW1.out.trans (hB.mono (by omega)))
    have HBx := Lib.hid (show Below w.heap.size w W from HBw.out.trans (HBW.out.mono (by omega)))
    have a2 := (HBW.out.cell (p := ⟨w.heap.size + 1 + 1, 0, none⟩) (by show w.heap.size + 1 + 1 < _; omega)).trans c2
    have s2 := (HBW.out.frozen (p := ⟨w.heap.size + 1 + 1, 0, none⟩) (by show w.heap.size + 1 + 1 < _; omega)).trans f2
    have HQ := Lib.hid (show FirstQ N F m q len now (-1) from .inr ⟨rfl, fun j hj => hne j (by simp; omega)⟩)
    have HK := Lib.hid hK
    have hDD : w1.heap.size + 2 ≤ D := by have h := hD; simp at h; omega
    clear hne hB hK c0 c1 c2 f2
    gi_wp2
    have hK' := (KeepsOthers.setCell W ⟨w.heap.size + 1 + 1, 0, none⟩ (.int .i64 (-1))).same D _ HK.out rfl
    refine ⟨by simp, .inl ⟨_, _, rfl, run_takeDeferred hK', ?_⟩⟩
    have hc5 := cell_kept (World.cell?_setCell_same' W ⟨w.heap.size + 1 + 1, 0, none⟩ (.int .i64 (-1)) (by rw [a2]; rfl)) (grownBy_putObj' _ D (.deferred none)) (fun r e => by cases e; exact ⟨_, hK', rfl⟩)
    refine ⟨.int .i64 (-1), ?_, -1, rfl, HQ.out, (HBx.out.setCell (p := ⟨w.heap.size + 1 + 1, 0, none⟩) (by show w.heap.size ≤ w.heap.size + 1 + 1; omega) _).trans (belowK_b (w := w) (Nat.le_refl _) _ D _ _ (by omega) hK' rfl rfl)⟩
    simp [results, Try.f7, go_sem, hc5]
  case stop =>
    rintro D c pre W hD ⟨k, hk, rfl⟩ ⟨⟨rfl, init, x, hp, hok, hno, hc⟩, hB⟩ hK
    have HQ := Lib.hid (show FirstQ N F m q len now (now + (x : Nat)) from by
      cases k with
      | zero => simp at hp
      | succ j =>
        rw [List.range_succ] at hp
        obtain ⟨e1, e2⟩ := List.append_inj' hp rfl
        simp at e2
        subst e2
        exact .inl ⟨j, by omega, rfl, hok, fun i hi => hno i (by rw [← e1]; simp [hi])⟩)
    have HK := Lib.hid hK
    have HB := Lib.hid hB
    have hDD : w1.heap.size + 2 ≤ D := by have h := hD; simp at h; omega
    clear hp hok hno hK hB c0 c1 c2 f2
    gi_wp2
    refine ⟨by simp, .inl ⟨_, _, rfl, run_takeDeferred HK.out, ?_⟩⟩
    have hc5 := cell_kept hc (grownBy_putObj' _ D (.deferred none)) (fun r e => by cases e; exact ⟨_, HK.out, rfl⟩)
    refine ⟨.int .i64 (now + (x : Nat)), ?_, _, rfl, HQ.out, HB.out.trans (belowK_b (w := w) (Nat.le_refl _) W D _ _ (by omega) HK.out rfl rfl)⟩
    simp [results, Try.f7, go_sem, hc5]
end Go.Proofs.Ytphklknaagjmpaa.SpanC
