/- The law on EntryRight, out of the contracts. -/
import Derived.Test.YtdimpopkkjpddaaEnR
import Derived.Test.YtdimpopkkjpddaaEnO
namespace Go.Proofs.Ytdimpopkkjpddaa.EnC
open Go.RowKit KeptC LabC RepC
set_option linter.unusedVariables false
set_option linter.unusedSimpArgs false

theorem toL (l s : Int) (w : World) : Calls Try.prog 29 #[.agg #[.int .i64 l, .int .i64 s]] w fun e w' => e = .returned (.agg #[.int .i64 l, .int .i64 s]) ∧ Below w.heap.size w w' := to_any l s w
set_option maxRecDepth 100000 in
set_option maxHeartbeats 1600000 in
theorem toE (x0 x1 x2 x3 x4 x5 : Int) (W : World) : Calls Try.prog 7 #[.agg #[.int .i64 x0, .int .i64 x1, .int .i64 x2, .int .i64 x3, .int .i64 x4, .int .i64 x5]] W fun e w' => e = .returned (.agg #[.int .i64 x0, .int .i64 x1, .int .i64 x2, .int .i64 x3, .int .i64 x4, .int .i64 x5]) ∧ Below W.heap.size W w' := by
  obtain ⟨V, hV⟩ : ∃ V, V = (((W.alloc (.cells #[.int .i64 x0, .int .i64 x1, .int .i64 x2, .int .i64 x3, .int .i64 x4, .int .i64 x5] 25)).alloc (.cells #[.int .i64 0, .int .i64 0, .int .i64 0, .int .i64 0, .int .i64 0, .int .i64 0] 29)).alloc (.cells #[.int .i64 x0, .int .i64 0, .int .i64 0, .int .i64 0, .int .i64 0, .int .i64 0] 29)) := ⟨_, rfl⟩
  have hA : Blk V W.heap.size 25 #[.int .i64 x0, .int .i64 x1, .int .i64 x2, .int .i64 x3, .int .i64 x4, .int .i64 x5] := by rw [hV]; exact ((Blk.new _ _ _).alloc _).alloc _
  have hB : Blk V (W.heap.size + 1) 29 #[.int .i64 0, .int .i64 0, .int .i64 0, .int .i64 0, .int .i64 0, .int .i64 0] := by
    have h := (Blk.new (W.alloc (.cells #[.int .i64 x0, .int .i64 x1, .int .i64 x2, .int .i64 x3, .int .i64 x4, .int .i64 x5] 25)) 29 #[.int .i64 0, .int .i64 0, .int .i64 0, .int .i64 0, .int .i64 0, .int .i64 0]).alloc (.cells #[.int .i64 x0, .int .i64 0, .int .i64 0, .int .i64 0, .int .i64 0, .int .i64 0] 29)
    rw [World.size_alloc] at h
    rw [hV]; exact h
  have hC : Blk V (W.heap.size + 1 + 1) 29 #[.int .i64 x0, .int .i64 0, .int .i64 0, .int .i64 0, .int .i64 0, .int .i64 0] := by
    have h := Blk.new ((W.alloc (.cells #[.int .i64 x0, .int .i64 x1, .int .i64 x2, .int .i64 x3, .int .i64 x4, .int .i64 x5] 25)).alloc (.cells #[.int .i64 0, .int .i64 0, .int .i64 0, .int .i64 0, .int .i64 0, .int .i64 0] 29)) 29 #[.int .i64 x0, .int .i64 0, .int .i64 0, .int .i64 0, .int .i64 0, .int .i64 0]
    rw [World.size_alloc, World.size_alloc] at h
    rw [hV]; exact h
  have hW : Below W.heap.size W V := by rw [hV]; exact (((Below.refl _ _).alloc (Nat.le_refl _) _).alloc (by simp) _).alloc (by simp; omega) _
  have HA := Lib.hid hA
  have HB := Lib.hid hB
  have HC := Lib.hid hC
  have HW := Lib.hid hW
  clear hA hB hC hW
  go_enter Try.func7, Try.ntmps7
  go_wp2_with fail
  rw [← hV]
  clear hV
  refine (toL x1 x2 _).mono ?_
  rintro e w1 ⟨rfl, hb⟩
  have HA1 := Lib.hid (HA.out.call hb)
  have HB1 := Lib.hid (HB.out.call hb)
  have HC1 := Lib.hid (HC.out.call hb)
  have HW1 := Lib.hid (HW.out.trans (hb.mono HW.out.size))
  have hz : W.heap.size ≤ w1.heap.size := HW1.out.size
  clear HA HB HC HW hb
  have pA0 := HA1.out.at_ 0 rfl
  have pA1 := HA1.out.at_ 1 rfl
  have pA2 := HA1.out.at_ 2 rfl
  have pA3 := HA1.out.at_ 3 rfl
  have pA4 := HA1.out.at_ 4 rfl
  have pA5 := HA1.out.at_ 5 rfl
  have pB0 := HB1.out.at_ 0 rfl
  have pB1 := HB1.out.at_ 1 rfl
  have pB2 := HB1.out.at_ 2 rfl
  have pB3 := HB1.out.at_ 3 rfl
  have pB4 := HB1.out.at_ 4 rfl
  have pB5 := HB1.out.at_ 5 rfl
  have pC0 := HC1.out.at_ 0 rfl
  have pC1 := HC1.out.at_ 1 rfl
  have pC2 := HC1.out.at_ 2 rfl
  have pC3 := HC1.out.at_ 3 rfl
  have pC4 := HC1.out.at_ 4 rfl
  have pC5 := HC1.out.at_ 5 rfl
  have sB0 := HB1.out.soft 0
  have sB1 := HB1.out.soft 1
  have sB2 := HB1.out.soft 2
  have sB3 := HB1.out.soft 3
  have sB4 := HB1.out.soft 4
  have sB5 := HB1.out.soft 5
  have sC0 := HC1.out.soft 0
  have sC1 := HC1.out.soft 1
  have sC2 := HC1.out.soft 2
  have sC3 := HC1.out.soft 3
  have sC4 := HC1.out.soft 4
  have sC5 := HC1.out.soft 5
  go_wp2
  refine bodyPost_ret (v := .agg #[.int .i64 x0, .int .i64 x1, .int .i64 x2, .int .i64 x3, .int .i64 x4, .int .i64 x5]) (by simp [results, Try.results7, go_sem, pB0, pB1, pB2, pB3, pB4, pB5]) rfl ⟨rfl, (((((((((((HW1.out.setCell (p := ⟨W.heap.size + 1 + 1, 1, none⟩) (by show W.heap.size ≤ W.heap.size + 1 + 1; omega) (.int .i64 x1)).setCell (p := ⟨W.heap.size + 1 + 1, 2, none⟩) (by show W.heap.size ≤ W.heap.size + 1 + 1; omega) (.int .i64 x2)).setCell (p := ⟨W.heap.size + 1 + 1, 3, none⟩) (by show W.heap.size ≤ W.heap.size + 1 + 1; omega) (.int .i64 x3)).setCell (p := ⟨W.heap.size + 1 + 1, 4, none⟩) (by show W.heap.size ≤ W.heap.size + 1 + 1; omega) (.int .i64 x4)).setCell (p := ⟨W.heap.size + 1 + 1, 5, none⟩) (by show W.heap.size ≤ W.heap.size + 1 + 1; omega) (.int .i64 x5)).setCell (p := ⟨W.heap.size + 1, 0, none⟩) (by show W.heap.size ≤ W.heap.size + 1; omega) (.int .i64 x0)).setCell (p := ⟨W.heap.size + 1, 1, none⟩) (by show W.heap.size ≤ W.heap.size + 1; omega) (.int .i64 x1)).setCell (p := ⟨W.heap.size + 1, 2, none⟩) (by show W.heap.size ≤ W.heap.size + 1; omega) (.int .i64 x2)).setCell (p := ⟨W.heap.size + 1, 3, none⟩) (by show W.heap.size ≤ W.heap.size + 1; omega) (.int .i64 x3)).setCell (p := ⟨W.heap.size + 1, 4, none⟩) (by show W.heap.size ≤ W.heap.size + 1; omega) (.int .i64 x4)).setCell (p := ⟨W.heap.size + 1, 5, none⟩) (by show W.heap.size ≤ W.heap.size + 1; omega) (.int .i64 x5))⟩

set_option maxRecDepth 100000 in
set_option maxHeartbeats 1600000 in
theorem law_entryright (x0 x1 x2 x3 x4 x5 : Int) (W : World) :
    Calls Try.prog 3 #[.agg #[.int .i64 x0, .int .i64 x1, .int .i64 x2, .int .i64 x3, .int .i64 x4, .int .i64 x5]] W fun e w' => e = .returned (.bool true) ∧ Below W.heap.size W w' := by
  have HP0 := Lib.hid (Blk.new W 25 #[.int .i64 x0, .int .i64 x1, .int .i64 x2, .int .i64 x3, .int .i64 x4, .int .i64 x5])
  have HB0 := Lib.hid (show Below W.heap.size W (W.alloc (.cells #[.int .i64 x0, .int .i64 x1, .int .i64 x2, .int .i64 x3, .int .i64 x4, .int .i64 x5] 25)) from (Below.refl _ _).alloc (Nat.le_refl _) _)
  obtain ⟨v, hv⟩ : ∃ v, entB x0 x1 x2 x3 x4 x5 = v := ⟨_, rfl⟩
  have HS : Hid (∀ W' : World, Calls Try.prog 6 #[.agg #[.int .i64 x0, .int .i64 x1, .int .i64 x2, .int .i64 x3, .int .i64 x4, .int .i64 x5]] W' fun e w' => e = .returned (.bool v) ∧ Below W'.heap.size W' w') := Lib.hid fun W' => by rw [← hv]; exact entright_spec x0 x1 x2 x3 x4 x5 W'
  have HI : Hid (∀ W' : World, Calls Try.prog 8 #[.agg #[.int .i64 x0, .int .i64 x1, .int .i64 x2, .int .i64 x3, .int .i64 x4, .int .i64 x5]] W' fun e w' => e = .returned (.bool v) ∧ Below W'.heap.size W' w') := Lib.hid fun W' => by rw [← hv]; exact entright_impl x0 x1 x2 x3 x4 x5 W'
  clear hv
  go_enter Try.func3, Try.ntmps3
  have p0 := HP0.out.at_ 0 rfl
  have p1 := HP0.out.at_ 1 rfl
  have p2 := HP0.out.at_ 2 rfl
  have p3 := HP0.out.at_ 3 rfl
  have p4 := HP0.out.at_ 4 rfl
  have p5 := HP0.out.at_ 5 rfl
  go_wp2_with fail
  refine (toE x0 x1 x2 x3 x4 x5 _).mono ?_
  rintro e w1 ⟨rfl, hb⟩
  have HP1 := Lib.hid (HP0.out.call hb)
  have HB1 := Lib.hid (HB0.out.trans (hb.mono HB0.out.size))
  clear hb HP0 HB0 p0 p1 p2 p3 p4 p5
  have p0 := HP1.out.at_ 0 rfl
  have p1 := HP1.out.at_ 1 rfl
  have p2 := HP1.out.at_ 2 rfl
  have p3 := HP1.out.at_ 3 rfl
  have p4 := HP1.out.at_ 4 rfl
  have p5 := HP1.out.at_ 5 rfl
  go_wp2_with fail
  refine (HS.out _).mono ?_
  rintro e w2 ⟨rfl, hb⟩
  have HP2 := Lib.hid (HP1.out.call hb)
  have HB2 := Lib.hid (HB1.out.trans (hb.mono HB1.out.size))
  clear hb HP1 HB1 p0 p1 p2 p3 p4 p5
  have p0 := HP2.out.at_ 0 rfl
  have p1 := HP2.out.at_ 1 rfl
  have p2 := HP2.out.at_ 2 rfl
  have p3 := HP2.out.at_ 3 rfl
  have p4 := HP2.out.at_ 4 rfl
  have p5 := HP2.out.at_ 5 rfl
  go_wp2_with fail
  refine (toE x0 x1 x2 x3 x4 x5 _).mono ?_
  rintro e w3 ⟨rfl, hb⟩
  have HP3 := Lib.hid (HP2.out.call hb)
  have HB3 := Lib.hid (HB2.out.trans (hb.mono HB2.out.size))
  clear hb HP2 HB2 p0 p1 p2 p3 p4 p5
  have p0 := HP3.out.at_ 0 rfl
  have p1 := HP3.out.at_ 1 rfl
  have p2 := HP3.out.at_ 2 rfl
  have p3 := HP3.out.at_ 3 rfl
  have p4 := HP3.out.at_ 4 rfl
  have p5 := HP3.out.at_ 5 rfl
  go_wp2_with fail
  refine (HI.out _).mono ?_
  rintro e w4 ⟨rfl, hb⟩
  have HP4 := Lib.hid (HP3.out.call hb)
  have HB4 := Lib.hid (HB3.out.trans (hb.mono HB3.out.size))
  clear hb HP3 HB3 p0 p1 p2 p3 p4 p5
  have hvv : (v != v) = false := by cases v <;> rfl
  go_wp2
  all_goals
    go_ret
    exact ⟨rfl, HB4.out⟩
end Go.Proofs.Ytdimpopkkjpddaa.EnC
