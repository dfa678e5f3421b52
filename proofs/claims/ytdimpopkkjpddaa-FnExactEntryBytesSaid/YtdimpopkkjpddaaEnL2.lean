/- The law on EntryBytes, out of the contracts. -/
import Derived.Test.YtdimpopkkjpddaaEnB
import Derived.Test.YtdimpopkkjpddaaEnL
namespace Go.Proofs.Ytdimpopkkjpddaa.EnC
open Go.RowKit KeptC LabC RepC
set_option linter.unusedVariables false
set_option linter.unusedSimpArgs false


set_option maxRecDepth 100000 in
set_option maxHeartbeats 1600000 in
theorem law_entrybytes (x0 x1 x2 x3 x4 x5 : Int) (W : World) :
    Calls Try.prog 4 #[.agg #[.int .i64 x0, .int .i64 x1, .int .i64 x2, .int .i64 x3, .int .i64 x4, .int .i64 x5]] W fun e w' => e = .returned (.bool true) ∧ Below W.heap.size W w' := by
  have HP0 := Lib.hid (Blk.new W 25 #[.int .i64 x0, .int .i64 x1, .int .i64 x2, .int .i64 x3, .int .i64 x4, .int .i64 x5])
  have HB0 := Lib.hid (show Below W.heap.size W (W.alloc (.cells #[.int .i64 x0, .int .i64 x1, .int .i64 x2, .int .i64 x3, .int .i64 x4, .int .i64 x5] 25)) from (Below.refl _ _).alloc (Nat.le_refl _) _)
  obtain ⟨v, hv⟩ : ∃ v, bytesE x0 x1 x2 x3 x4 x5 = v := ⟨_, rfl⟩
  have HS : Hid (∀ W' : World, Calls Try.prog 9 #[.agg #[.int .i64 x0, .int .i64 x1, .int .i64 x2, .int .i64 x3, .int .i64 x4, .int .i64 x5]] W' fun e w' => e = .returned (.string v) ∧ Below W'.heap.size W' w') := Lib.hid fun W' => by rw [← hv]; exact bytes_spec x0 x1 x2 x3 x4 x5 W'
  have HI : Hid (∀ W' : World, Calls Try.prog 10 #[.agg #[.int .i64 x0, .int .i64 x1, .int .i64 x2, .int .i64 x3, .int .i64 x4, .int .i64 x5]] W' fun e w' => e = .returned (.string v) ∧ Below W'.heap.size W' w') := Lib.hid fun W' => by rw [← hv]; exact bytes_impl x0 x1 x2 x3 x4 x5 W'
  clear hv
  go_enter Try.func4, Try.ntmps4
  have p0 := HP0.out.at_ 0 rfl
  have p1 := HP0.out.at_ 1 rfl
  have p2 := HP0.out.at_ 2 rfl
  have p3 := HP0.out.at_ 3 rfl
  have p4 := HP0.out.at_ 4 rfl
  have p5 := HP0.out.at_ 5 rfl
  go_wp2_with fail
  refine (toE x0 x1 x2 x3 x4 x5 _).mono ?_
  rintro e w1 ⟨rfl, hb⟩
  have HP1 := Lib.hid (HP0.out.call hb)
  have HB1 := Lib.hid (HB0.out.trans (hb.mono HB0.out.size))
  clear hb HP0 HB0 p0 p1 p2 p3 p4 p5
  have p0 := HP1.out.at_ 0 rfl
  have p1 := HP1.out.at_ 1 rfl
  have p2 := HP1.out.at_ 2 rfl
  have p3 := HP1.out.at_ 3 rfl
  have p4 := HP1.out.at_ 4 rfl
  have p5 := HP1.out.at_ 5 rfl
  go_wp2_with fail
  refine (HS.out _).mono ?_
  rintro e w2 ⟨rfl, hb⟩
  have HP2 := Lib.hid (HP1.out.call hb)
  have HB2 := Lib.hid (HB1.out.trans (hb.mono HB1.out.size))
  clear hb HP1 HB1 p0 p1 p2 p3 p4 p5
  have p0 := HP2.out.at_ 0 rfl
  have p1 := HP2.out.at_ 1 rfl
  have p2 := HP2.out.at_ 2 rfl
  have p3 := HP2.out.at_ 3 rfl
  have p4 := HP2.out.at_ 4 rfl
  have p5 := HP2.out.at_ 5 rfl
  go_wp2_with fail
  refine (toE x0 x1 x2 x3 x4 x5 _).mono ?_
  rintro e w3 ⟨rfl, hb⟩
  have HP3 := Lib.hid (HP2.out.call hb)
  have HB3 := Lib.hid (HB2.out.trans (hb.mono HB2.out.size))
  clear hb HP2 HB2 p0 p1 p2 p3 p4 p5
  have p0 := HP3.out.at_ 0 rfl
  have p1 := HP3.out.at_ 1 rfl
  have p2 := HP3.out.at_ 2 rfl
  have p3 := HP3.out.at_ 3 rfl
  have p4 := HP3.out.at_ 4 rfl
  have p5 := HP3.out.at_ 5 rfl
  go_wp2_with fail
  refine (HI.out _).mono ?_
  rintro e w4 ⟨rfl, hb⟩
  have HP4 := Lib.hid (HP3.out.call hb)
  have HB4 := Lib.hid (HB3.out.trans (hb.mono HB3.out.size))
  clear hb HP3 HB3 p0 p1 p2 p3 p4 p5
  go_wp2
  all_goals
    go_ret
    exact ⟨rfl, HB4.out⟩
end Go.Proofs.Ytdimpopkkjpddaa.EnC
