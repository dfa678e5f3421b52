/- The law on FirstFit, out of the contracts. -/
import Derived.Test.YtglifjjoalkkbaaFitLaw
import Derived.Test.YtglifjjoalkkbaaSpFirst3
namespace Go.Proofs.Ytglifjjoalkkbaa.SpanC
open Go.RowKit KeptC RowC ValC
set_option linter.unusedSimpArgs false
set_option linter.unusedVariables false

set_option maxRecDepth 100000 in
set_option maxHeartbeats 1600000 in
theorem law_first (a : Option Addr) (m cap : Nat) (N : Nat → Nat) (F : Nat → Nat → Int × Int) (need len now : Int) (w : World) (hp : RowsIn w a m cap N F) :
    Calls Try.prog 7 #[.slice a m cap, .int .i64 need, .int .i64 len, .int .i64 now] w fun e w' => e = .returned (.bool true) ∧ Below w.heap.size w w' := by
  have HSZ := Lib.hid (szSS_v hp)
  by_cases hn : m + tot N m ≤ 1048576
  · have HT := Lib.hid (rows_to hp hn)
    have hm : m ≤ 1048576 := by omega
    have hN : ∀ i, i < m → N i ≤ 1048576 := fun i hi => by have := tot_at N hi; omega
    have hl : (0 : Int) ≤ 1048576 - ((m + tot N m : Nat) : Int) := by omega
    clear hp
    go_enter Try.func7, Try.ntmps7
    go_wp2_with fail
    refine HSZ.out.mono ?_
    rintro e w' ⟨rfl, rfl⟩
    rw [szV_yes hn]
    have HB0 := Lib.hid (Below.refl w.heap.size w)
    go_wp2_with fail
    refine (HT.out _ HB0.out).mono ?_
    intro e w1 h
    obtain ⟨rfl, G1, hr, _, _, hb, _⟩ := newRows_elim h
    have HX := Lib.hid hr
    have HB1 := Lib.hid (HB0.out.trans (hb.mono HB0.out.size))
    clear h hr hb
    go_wp2_with fail
    refine (firstfit_spec need len now hm hN HX.out).mono ?_
    intro e w2 h
    obtain ⟨t0, rfl, hq, hb⟩ := resT_elim h
    have HQ := Lib.hid hq
    have HB2 := Lib.hid (HB1.out.trans (hb.mono HB1.out.size))
    clear h hq hb HX
    go_wp2_with fail
    refine (HT.out _ HB2.out).mono ?_
    intro e w3 h
    obtain ⟨rfl, G3, hr, _, _, hb, _⟩ := newRows_elim h
    have HX := Lib.hid hr
    have HB3 := Lib.hid (HB2.out.trans (hb.mono HB2.out.size))
    clear h hr hb
    go_wp2_with fail
    refine (firstfit_impl need len now hm hN HX.out).mono ?_
    intro e w4 h
    obtain ⟨t1, rfl, hq, hb⟩ := resT_elim h
    obtain rfl := firstR_one HQ.out hq
    have HX := Lib.hid (HX.out.below hb)
    have HB4 := Lib.hid (HB3.out.trans (hb.mono HB3.out.size))
    clear h hq hb
    go_wp2_with fail
    refine (HT.out _ HB4.out).mono ?_
    intro e w5 h
    obtain ⟨rfl, G5, hr, _, _, hb, _⟩ := newRows_elim h
    have HY := Lib.hid hr
    have HX := Lib.hid (HX.out.below hb)
    have HB5 := Lib.hid (HB4.out.trans (hb.mono HB4.out.size))
    clear h hr hb
    go_wp2_with fail
    refine (eqSS_v hm hN HX.out HY.out).mono ?_
    intro e w6 h
    obtain ⟨rfl, hb⟩ := isB_elim h
    have HB6 := Lib.hid (HB5.out.trans (hb.mono HB5.out.size))
    clear h hb HX HY
    go_wp2
    all_goals
      go_ret
      exact ⟨rfl, HB6.out⟩
  · clear hp
    go_enter Try.func7, Try.ntmps7
    go_wp2_with fail
    refine HSZ.out.mono ?_
    rintro e w' ⟨rfl, rfl⟩
    rw [szV_no hn]
    go_wp2
    go_ret
    exact ⟨rfl, Below.refl _ _⟩
end Go.Proofs.Ytglifjjoalkkbaa.SpanC
