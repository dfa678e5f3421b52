/- The law on JobRight, out of the contracts. -/
import Derived.Test.YtfmgjkmlnaeagaaTk
import Derived.Test.YtfmgjkmlnaeagaaJobIn
import Derived.Test.YtfmgjkmlnaeagaaJobO
namespace Go.Proofs.Ytfmgjkmlnaeagaa.RepC
open Go.RowKit RowC ValC SpanC KeptC
set_option linter.unusedVariables false
set_option linter.unusedSimpArgs false

theorem rd_call {L : List Int} {a : Option Addr} {c : Nat} {w w' : World} (h : RdSl I w w.heap.size L a c) (hb : Below w.heap.size w w') : RdSl I w' w'.heap.size L a c := (h.below I_ok hb).more I_ok hb.size
theorem rd_new {L : List Int} {a : Option Addr} {c : Nat} {w : World} {T : Nat → Prop} (h : OwSl I w T L a c) (hT : ∀ k, T k → k < w.heap.size) : RdSl I w w.heap.size L a c := h.rd I_ok hT

set_option maxRecDepth 100000 in
set_option maxHeartbeats 6400000 in
theorem law_jobright {x0 x1 x2 x3 x4 x5 x6 x7 : Int} {L : List Int} {a : Option Addr} {c : Nat} {W : World} (h : RdSl I W W.heap.size L a c) :
    Calls Try.prog 3 #[.agg #[.int .i64 x0, .int .i64 x1, .int .i64 x2, .int .i64 x3, .int .i64 x4, .int .i64 x5, .int .i64 x6, .int .i64 x7, .slice a L.length c]] W fun e w' => e = .returned (.bool true) ∧ Below W.heap.size W w' := by
  have H := Lib.hid h
  clear h
  have HB0 := Lib.hid (show Below W.heap.size W (W.alloc (.cells #[.int .i64 x0, .int .i64 x1, .int .i64 x2, .int .i64 x3, .int .i64 x4, .int .i64 x5, .int .i64 x6, .int .i64 x7, .slice a L.length c] 26)) from (Below.refl _ _).alloc (Nat.le_refl _) _)
  have HP0 := Lib.hid (Blk.new W 26 #[.int .i64 x0, .int .i64 x1, .int .i64 x2, .int .i64 x3, .int .i64 x4, .int .i64 x5, .int .i64 x6, .int .i64 x7, .slice a L.length c])
  have hz0 : W.heap.size ≤ (W.alloc (.cells #[.int .i64 x0, .int .i64 x1, .int .i64 x2, .int .i64 x3, .int .i64 x4, .int .i64 x5, .int .i64 x6, .int .i64 x7, .slice a L.length c] 26)).heap.size := HB0.out.size
  have HR0 := Lib.hid ((H.out.below I_ok HB0.out).more I_ok hz0)
  by_cases hsz : R_Job.sz ((x0, x1), x2, x3, x4, x5, x6, x7, L) ≤ 1048576
  · have HSZ := Lib.hid hsz
    go_enter Try.func3, Try.ntmps3
    go_wp2_with fail
    refine (sz_Job (by omega) (by omega) HR0.out).mono ?_
    intro e w1 h
    obtain ⟨rfl, hb⟩ := szC_elim h
    rw [szR_yes (by omega)]
    have HP1 := Lib.hid (HP0.out.call hb)
    have HB1 := Lib.hid (HB0.out.trans (hb.mono hz0))
    have hz1 : W.heap.size ≤ w1.heap.size := HB1.out.size
    have HR1 := Lib.hid (rd_call HR0.out hb)
    have hlt1 : decide ((1048576 : Int) - (R_Job.sz ((x0, x1), x2, x3, x4, x5, x6, x7, L) : Int) < 0) = false := decide_eq_false (by omega)
    clear h hb hsz
    have p0 := HP1.out.at_ 0 rfl
    have p1 := HP1.out.at_ 1 rfl
    have p2 := HP1.out.at_ 2 rfl
    have p3 := HP1.out.at_ 3 rfl
    have p4 := HP1.out.at_ 4 rfl
    have p5 := HP1.out.at_ 5 rfl
    have p6 := HP1.out.at_ 6 rfl
    have p7 := HP1.out.at_ 7 rfl
    have p8 := HP1.out.at_ 8 rfl
    go_wp2_with fail
    refine (to_Job HSZ.out HR1.out).mono ?_
    intro e w2 h
    obtain ⟨us, rfl, hu, hb⟩ := newV_elim h
    obtain ⟨a2, c2, T2, rfl, hT2, ho2⟩ := ow_Job hu
    have HP2 := Lib.hid (HP1.out.call hb)
    have HB2 := Lib.hid (HB1.out.trans (hb.mono hz1))
    have hz2 : W.heap.size ≤ w2.heap.size := HB2.out.size
    have HR2 := Lib.hid (rd_call HR1.out hb)
    have HN2 := Lib.hid (rd_new ho2 fun k hk => (hT2 k hk).2)
    clear h hu hb hT2 ho2 p0 p1 p2 p3 p4 p5 p6 p7 p8
    go_wp2_with fail
    refine (jobright_spec HN2.out).mono ?_
    intro e w3 h
    obtain ⟨b, rfl, hq, hb⟩ := resB_elim h
    have HQ := Lib.hid hq
    have HP3 := Lib.hid (HP2.out.call hb)
    have HB3 := Lib.hid (HB2.out.trans (hb.mono hz2))
    have hz3 : W.heap.size ≤ w3.heap.size := HB3.out.size
    have HR3 := Lib.hid (rd_call HR2.out hb)
    clear h hq hb HN2
    have p0 := HP3.out.at_ 0 rfl
    have p1 := HP3.out.at_ 1 rfl
    have p2 := HP3.out.at_ 2 rfl
    have p3 := HP3.out.at_ 3 rfl
    have p4 := HP3.out.at_ 4 rfl
    have p5 := HP3.out.at_ 5 rfl
    have p6 := HP3.out.at_ 6 rfl
    have p7 := HP3.out.at_ 7 rfl
    have p8 := HP3.out.at_ 8 rfl
    go_wp2_with fail
    refine (to_Job HSZ.out HR3.out).mono ?_
    intro e w4 h
    obtain ⟨us, rfl, hu, hb⟩ := newV_elim h
    obtain ⟨a4, c4, T4, rfl, hT4, ho4⟩ := ow_Job hu
    have HP4 := Lib.hid (HP3.out.call hb)
    have HB4 := Lib.hid (HB3.out.trans (hb.mono hz3))
    have hz4 : W.heap.size ≤ w4.heap.size := HB4.out.size
    have HR4 := Lib.hid (rd_call HR3.out hb)
    have HN4 := Lib.hid (rd_new ho4 fun k hk => (hT4 k hk).2)
    clear h hu hb hT4 ho4 p0 p1 p2 p3 p4 p5 p6 p7 p8
    have HB4' := Lib.hid (HB4.out.trans (((Below.refl _ w4).alloc (Nat.le_refl _) (.cells #[.int .i64 x0, .int .i64 x1, .int .i64 x2, .int .i64 x3, .int .i64 x4, .int .i64 x5, .int .i64 x6, .int .i64 x7, .slice a4 L.length c4] 31)).mono hz4))
    have HP4' := Lib.hid (HP4.out.alloc (.cells #[.int .i64 x0, .int .i64 x1, .int .i64 x2, .int .i64 x3, .int .i64 x4, .int .i64 x5, .int .i64 x6, .int .i64 x7, .slice a4 L.length c4] 31))
    have HX4 := Lib.hid (Blk.new w4 31 #[.int .i64 x0, .int .i64 x1, .int .i64 x2, .int .i64 x3, .int .i64 x4, .int .i64 x5, .int .i64 x6, .int .i64 x7, .slice a4 L.length c4])
    have HN4' := Lib.hid (rd_call HN4.out ((Below.refl _ w4).alloc (Nat.le_refl _) (.cells #[.int .i64 x0, .int .i64 x1, .int .i64 x2, .int .i64 x3, .int .i64 x4, .int .i64 x5, .int .i64 x6, .int .i64 x7, .slice a4 L.length c4] 31)))
    have HR4' := Lib.hid (rd_call HR4.out ((Below.refl _ w4).alloc (Nat.le_refl _) (.cells #[.int .i64 x0, .int .i64 x1, .int .i64 x2, .int .i64 x3, .int .i64 x4, .int .i64 x5, .int .i64 x6, .int .i64 x7, .slice a4 L.length c4] 31)))
    clear HN4 HR4 HP4 HB4
    go_wp2_with fail
    refine (jobright_impl HN4'.out).mono ?_
    intro e w6 h
    obtain ⟨b', rfl, hq, hb⟩ := resB_elim h
    obtain rfl : b' = b := by rw [Bool.eq_iff_iff]; exact hq.trans HQ.out.symm
    have HP6 := Lib.hid (HP4'.out.call hb)
    have HX6 := Lib.hid (HX4.out.call hb)
    have HB6 := Lib.hid (HB4'.out.trans (hb.mono HB4'.out.size))
    have hz6 : W.heap.size ≤ w6.heap.size := HB6.out.size
    have HR6 := Lib.hid (rd_call HR4'.out hb)
    have HN6 := Lib.hid (rd_call HN4'.out hb)
    have hbb : (b' != b') = false := by cases b' <;> rfl
    clear h hq hb HN4' HR4' HP4' HX4 HB4' HQ
    go_wp2_with fail
    refine wp_region_held_drew (S := (fun V => Below (w6).heap.size (w6) V)) (by kernel_rfl) ((Below.refl _ _).drew) (fun hHeld => ?_)
    refine tk 0 hHeld ?_ (hy := fun w hSw => by (try dsimp only at hSw); have k0 := (hSw.cell (p := ⟨w4.heap.size, 0, none⟩) HX6.out.lt).trans (HX6.out.at_ 0 rfl); have k1 := (hSw.cell (p := ⟨w4.heap.size, 1, none⟩) HX6.out.lt).trans (HX6.out.at_ 1 rfl); have k2 := (hSw.cell (p := ⟨w4.heap.size, 2, none⟩) HX6.out.lt).trans (HX6.out.at_ 2 rfl); have k3 := (hSw.cell (p := ⟨w4.heap.size, 3, none⟩) HX6.out.lt).trans (HX6.out.at_ 3 rfl); have k4 := (hSw.cell (p := ⟨w4.heap.size, 4, none⟩) HX6.out.lt).trans (HX6.out.at_ 4 rfl); have k5 := (hSw.cell (p := ⟨w4.heap.size, 5, none⟩) HX6.out.lt).trans (HX6.out.at_ 5 rfl); have k6 := (hSw.cell (p := ⟨w4.heap.size, 6, none⟩) HX6.out.lt).trans (HX6.out.at_ 6 rfl); have k7 := (hSw.cell (p := ⟨w4.heap.size, 7, none⟩) HX6.out.lt).trans (HX6.out.at_ 7 rfl); have k8 := (hSw.cell (p := ⟨w4.heap.size, 8, none⟩) HX6.out.lt).trans (HX6.out.at_ 8 rfl); clear hSw; go_simp; try with_reducible rfl)
    refine tk 1 hHeld ?_ (hy := fun w hSw => by (try dsimp only at hSw); have k0 := (hSw.cell (p := ⟨W.heap.size, 0, none⟩) HP6.out.lt).trans (HP6.out.at_ 0 rfl); have k1 := (hSw.cell (p := ⟨W.heap.size, 1, none⟩) HP6.out.lt).trans (HP6.out.at_ 1 rfl); have k2 := (hSw.cell (p := ⟨W.heap.size, 2, none⟩) HP6.out.lt).trans (HP6.out.at_ 2 rfl); have k3 := (hSw.cell (p := ⟨W.heap.size, 3, none⟩) HP6.out.lt).trans (HP6.out.at_ 3 rfl); have k4 := (hSw.cell (p := ⟨W.heap.size, 4, none⟩) HP6.out.lt).trans (HP6.out.at_ 4 rfl); have k5 := (hSw.cell (p := ⟨W.heap.size, 5, none⟩) HP6.out.lt).trans (HP6.out.at_ 5 rfl); have k6 := (hSw.cell (p := ⟨W.heap.size, 6, none⟩) HP6.out.lt).trans (HP6.out.at_ 6 rfl); have k7 := (hSw.cell (p := ⟨W.heap.size, 7, none⟩) HP6.out.lt).trans (HP6.out.at_ 7 rfl); have k8 := (hSw.cell (p := ⟨W.heap.size, 8, none⟩) HP6.out.lt).trans (HP6.out.at_ 8 rfl); clear hSw; go_simp; try with_reducible rfl)
    refine rd1 2 (fun K hK => ?_)
    go_simp
    go_at_call 9
    refine (to_Job HSZ.out (rd_call HR6.out hHeld)).mono ?_
    intro e w7 h
    obtain ⟨us, rfl, hu, hb⟩ := newV_elim h
    obtain ⟨a7, c7, T7, rfl, hT7, ho7⟩ := ow_Job hu
    have HN7 := Lib.hid (rd_new ho7 fun k hk => (hT7 k hk).2)
    clear h hu hT7 ho7
    refine hK.out _ _ (hHeld.trans (hb.mono hHeld.size)) (fun hHeld => ?_)
    clear hK K hb
    refine rd1 3 (fun K hK => ?_)
    go_simp
    go_at_call 11
    refine (eq_Job (rd_call HN6.out hHeld) HN7.out).mono ?_
    intro e w8 h
    obtain ⟨rfl, hb⟩ := isB_elim h
    clear h
    refine hK.out _ _ (hHeld.trans (hb.mono hHeld.size)) (fun hHeld => ?_)
    clear hK K hb
    refine tk 4 hHeld ?_
    refine rd0 ?_
    have HF := Lib.hid hHeld
    clear hHeld
    have HB9 := Lib.hid (HB6.out.trans (HF.out.mono hz6))
    clear HF HB6
    go_wp2
    go_ret
    exact ⟨rfl, HB9.out⟩
  · go_enter Try.func3, Try.ntmps3
    go_wp2_with fail
    refine (sz_Job (by omega) (by omega) HR0.out).mono ?_
    intro e w1 h
    obtain ⟨rfl, hb⟩ := szC_elim h
    rw [szR_no (by omega)]
    have HB1 := Lib.hid (HB0.out.trans (hb.mono hz0))
    clear h hb
    go_wp2
    go_ret
    exact ⟨rfl, HB1.out⟩
end Go.Proofs.Ytfmgjkmlnaeagaa.RepC
