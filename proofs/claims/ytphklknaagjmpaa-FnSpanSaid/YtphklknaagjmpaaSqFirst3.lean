/- FirstFit in the program: a contract. -/
import Derived.Test.YtphklknaagjmpaaSqFirst2
namespace Go.Proofs.Ytphklknaagjmpaa.SpanC
open Go.RowKit KeptC RowC ValC
set_option linter.unusedSimpArgs false
set_option linter.unusedVariables false

set_option maxRecDepth 100000 in
set_option maxHeartbeats 2000000 in
theorem firstfit_impl {qa : Option Addr} {qc m : Nat} {N : Nat → Nat} {F : Nat → Nat → Int × Int} {qA : Nat → Option Addr} {qC : Nat → Nat} {w : World} (need len now : Int) (hm : m ≤ 1048576) (hN : ∀ i, i < m → N i ≤ 1048576) (h1 : RA w qa m N F qA qC) :
    Calls Try.prog 7 #[.slice qa m qc, .int .i64 need, .int .i64 len, .int .i64 now] w (ResT (FirstR N F m need len now) w) := by
  by_cases hC : FirstC N F m need len now
  · obtain ⟨hR, e2, e3, e4⟩ := hC
    obtain ⟨q, rfl, hq1, hq6⟩ := need_nat e2
    have ⟨hl0, hl1⟩ := (isB_iff _ _ _).1 e3
    have ⟨hn0, hn1⟩ := (isB_iff _ _ _).1 e4
    refine (first_impl q len now hq1 hq6 hl0 hl1 hn0 hn1 hR hN h1).mono fun e w' h => ?_
    obtain ⟨t, he, hq, hb⟩ := h
    exact ⟨t, he, .inl ⟨⟨hR, e2, e3, e4⟩, by rw [Int.toNat_natCast]; exact hq⟩, hb⟩
  · have HN := Lib.hid hC
    have HB3 := Lib.hid (show Below w.heap.size w (((w.alloc (.cells #[.slice qa m qc] 29)).alloc (.cells #[.int .i64 need] 2)).alloc (.cells #[.int .i64 0] 2)) from (((Below.refl _ _).alloc (Nat.le_refl _) _).alloc (by simp) _).alloc (by simp; omega) _)
    have d2 : (((w.alloc (.cells #[.slice qa m qc] 29)).alloc (.cells #[.int .i64 need] 2)).alloc (.cells #[.int .i64 0] 2)).cell? ⟨w.heap.size + 1 + 1, 0, none⟩ = some (.int .i64 0) := by first | (simp; done) | (simp [go_sem]; done)
    have d3 : (((w.alloc (.cells #[.slice qa m qc] 29)).alloc (.cells #[.int .i64 need] 2)).alloc (.cells #[.int .i64 0] 2)).frozen? ⟨w.heap.size + 1 + 1, 0, none⟩ = false := by first | (simp; done) | (simp [go_sem]; done) | (simp [World.frozen?, World.alloc, Array.getElem?_push]; done)
    have d4 : (((w.alloc (.cells #[.slice qa m qc] 29)).alloc (.cells #[.int .i64 need] 2)).alloc (.cells #[.int .i64 0] 2)).heap.size = w.heap.size + 3 := by simp
    have hcall := rows_impl (qc := qc) hm hN (h1.below HB3.out)
    have HCALL := Lib.hid hcall
    have D2 := Lib.hid d2
    have D3 := Lib.hid d3
    have D4 := Lib.hid d4
    clear hcall d2 d3 d4 h1
    go_enter Try.func7, Try.ntmps7
    go_wp2_with fail
    refine HCALL.out.mono ?_
    intro e w1 h
    obtain ⟨c, rfl, hc, hb⟩ := resB_elim h
    have c2 : w1.cell? ⟨w.heap.size + 1 + 1, 0, none⟩ = some (.int .i64 0) := (hb.cell (p := ⟨w.heap.size + 1 + 1, 0, none⟩) (by show w.heap.size + 1 + 1 < _; rw [D4.out]; omega)).trans D2.out
    have f2 : w1.frozen? ⟨w.heap.size + 1 + 1, 0, none⟩ = false := (hb.frozen (p := ⟨w.heap.size + 1 + 1, 0, none⟩) (by show w.heap.size + 1 + 1 < _; rw [D4.out]; omega)).trans D3.out
    have c1 : w1.cell? ⟨w.heap.size + 1, 0, none⟩ = some (.int .i64 need) := (hb.cell (p := ⟨w.heap.size + 1, 0, none⟩) (by show w.heap.size + 1 < _; rw [D4.out]; omega)).trans (by first | (simp; done) | (simp [go_sem]; done))
    have HBw := Lib.hid (HB3.out.trans (hb.mono (by rw [D4.out]; omega)))
    have HCC := Lib.hid hc
    clear h hb hc
    have cc2 := World.cell?_setCell_same' w1 ⟨w.heap.size + 1 + 1, 0, none⟩ (.int .i64 (-1)) (by rw [c2]; rfl)
    cases c with
    | false =>
      go_wp2
      refine bodyPost_ret (v := .int .i64 (-1)) (by simp [results, Try.results7, go_sem, cc2]) rfl ⟨-1, rfl, .inr ⟨HN.out, rfl⟩, HBw.out.setCell (by show w.heap.size ≤ w.heap.size + 1 + 1; omega) _⟩
    | true =>
      have HR := Lib.hid (HCC.out.1 rfl)
      have H2 := fun W => is_impl need 1 6 W
      have H3 := fun W => is_impl len 1 40 W
      have H4 := fun W => now_impl now W
      cases e2 : isB need 1 6 with
      | false =>
        rw [e2] at H2
        clear e2 H3 H4
        go_wp2_with fail
        refine (H2 _).mono ?_
        rintro e w2 ⟨rfl, rfl⟩
        clear H2
        go_wp2
        refine bodyPost_ret (v := .int .i64 (-1)) (by simp [results, Try.results7, go_sem, cc2]) rfl ⟨-1, rfl, .inr ⟨HN.out, rfl⟩, HBw.out.setCell (by show w.heap.size ≤ w.heap.size + 1 + 1; omega) _⟩
      | true =>
        rw [e2] at H2
        have HI2 := Lib.hid e2
        clear e2
        cases e3 : isB len 1 40 with
        | false =>
          rw [e3] at H3
          clear e3 H4
          go_wp2_with fail
          refine (H2 _).mono ?_
          rintro e w2 ⟨rfl, rfl⟩
          clear H2
          go_wp2_with fail
          refine (H3 _).mono ?_
          rintro e w2 ⟨rfl, rfl⟩
          clear H3
          go_wp2
          refine bodyPost_ret (v := .int .i64 (-1)) (by simp [results, Try.results7, go_sem, cc2]) rfl ⟨-1, rfl, .inr ⟨HN.out, rfl⟩, HBw.out.setCell (by show w.heap.size ≤ w.heap.size + 1 + 1; omega) _⟩
        | true =>
          rw [e3] at H3
          have HI3 := Lib.hid e3
          clear e3
          cases e4 : isB now 0 999900 with
          | false =>
            rw [e4] at H4
            clear e4
            go_wp2_with fail
            refine (H2 _).mono ?_
            rintro e w2 ⟨rfl, rfl⟩
            clear H2
            go_wp2_with fail
            refine (H3 _).mono ?_
            rintro e w2 ⟨rfl, rfl⟩
            clear H3
            go_wp2_with fail
            refine (H4 _).mono ?_
            rintro e w2 ⟨rfl, rfl⟩
            clear H4
            go_wp2
            refine bodyPost_ret (v := .int .i64 (-1)) (by simp [results, Try.results7, go_sem, cc2]) rfl ⟨-1, rfl, .inr ⟨HN.out, rfl⟩, HBw.out.setCell (by show w.heap.size ≤ w.heap.size + 1 + 1; omega) _⟩
          | true => exact absurd ⟨HR.out, HI2.out, HI3.out, e4⟩ HN.out
end Go.Proofs.Ytphklknaagjmpaa.SpanC
