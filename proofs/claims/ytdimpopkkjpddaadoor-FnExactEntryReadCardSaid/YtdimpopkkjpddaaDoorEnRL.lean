/- The law on EntryRead, out of the contracts. -/
import Derived.Test.YtdimpopkkjpddaaDoorEnS
import Derived.Test.YtdimpopkkjpddaaDoorEnI
import Derived.Test.YtdimpopkkjpddaaDoorEnQ
namespace Go.Proofs.YtdimpopkkjpddaaDoor.EnC
open Go.RowKit KeptC LabC RepC EnM PutM GetM GetC SealC ValC
set_option linter.unusedVariables false
set_option maxRecDepth 100000

set_option maxHeartbeats 800000 in
theorem law_entryread (s : ByteArray) (hs : s.size ≤ maxLen) (W : World) (hD : GetC.Door W) :
    Calls Tryd.prog 3 #[.string s] W fun e w' => e = .returned (.bool true) ∧ Below W.heap.size W w' := by
  have HD := Lib.hid hD
  have h0W := hD.lt
  obtain ⟨x0, x1, x2, x3, x4, x5, x6, hv⟩ := readE_form s
  have HS : Hid (∀ w : World, Calls Tryd.prog 6 #[.string s] w fun e w' => e = .returned (.agg #[.int .i64 x0, .int .i64 x1, .int .i64 x2, .int .i64 x3, .int .i64 x4, .int .i64 x5, .int .i64 x6]) ∧ Below w.heap.size w w') := Lib.hid fun w => by rw [← hv]; exact entryread_spec s w hs
  have HI : Hid (∀ w : World, GetC.Door w → Calls Tryd.prog 7 #[.string s] w fun e w' => e = .returned (.agg #[.int .i64 x0, .int .i64 x1, .int .i64 x2, .int .i64 x3, .int .i64 x4, .int .i64 x5, .int .i64 x6]) ∧ Below w.heap.size w w') := Lib.hid fun w hw => by rw [← hv]; exact entryread_impl s w hs hw
  clear hv hD
  by_cases h1 : s.size ≤ 1048576
  · have d1 : decide ((1048576 : Int) < (s.size : Int)) = false := decide_eq_false (by omega)
    go_enter Tryd.func3, Tryd.ntmps3
    go_wp2_with fail
    refine (HS.out _).mono ?_
    rintro e w1 ⟨rfl, hb⟩
    obtain ⟨V, hV⟩ : ∃ V, V = w1.alloc (.cells #[.int .i64 x0, .int .i64 x1, .int .i64 x2, .int .i64 x3, .int .i64 x4, .int .i64 x5, .int .i64 x6] 27) := ⟨_, rfl⟩
    have hbV : Below w1.heap.size w1 V := by rw [hV]; exact (Below.refl _ _).alloc (Nat.le_refl _) _
    have HX1 : Hid (Blk V w1.heap.size 27 #[.int .i64 x0, .int .i64 x1, .int .i64 x2, .int .i64 x3, .int .i64 x4, .int .i64 x5, .int .i64 x6]) := Lib.hid (by rw [hV]; exact Blk.new _ _ _)
    have HB1 := Lib.hid (hb.trans (hbV.mono hb.size))
    have hz1 := HB1.out.size
    clear hb hbV
    go_wp2_with fail
    rw [← hV]
    clear hV
    refine (HI.out _ (HD.out.below HB1.out h0W)).mono ?_
    rintro e w2 ⟨rfl, hb⟩
    obtain ⟨V2, hV2⟩ : ∃ V, V = w2.alloc (.cells #[.int .i64 x0, .int .i64 x1, .int .i64 x2, .int .i64 x3, .int .i64 x4, .int .i64 x5, .int .i64 x6] 27) := ⟨_, rfl⟩
    have hbV : Below w2.heap.size w2 V2 := by rw [hV2]; exact (Below.refl _ _).alloc (Nat.le_refl _) _
    have HX2 : Hid (Blk V2 w2.heap.size 27 #[.int .i64 x0, .int .i64 x1, .int .i64 x2, .int .i64 x3, .int .i64 x4, .int .i64 x5, .int .i64 x6]) := Lib.hid (by rw [hV2]; exact Blk.new _ _ _)
    have HX1b := Lib.hid ((HX1.out.call hb).call hbV)
    have HB2 := Lib.hid ((HB1.out.trans (hb.mono hz1)).trans (hbV.mono (Nat.le_trans hz1 hb.size)))
    have hz2 := HB2.out.size
    have hlt := Nat.lt_of_lt_of_le HX1.out.lt hb.size
    clear hb hbV
    have a0 := HX1b.out.at_ 0 rfl
    have b0 := HX2.out.at_ 0 rfl
    have a0' := a0
    have b0' := b0
    rw [hV2] at a0' b0'
    have a1 := HX1b.out.at_ 1 rfl
    have b1 := HX2.out.at_ 1 rfl
    have a1' := a1
    have b1' := b1
    rw [hV2] at a1' b1'
    have a2 := HX1b.out.at_ 2 rfl
    have b2 := HX2.out.at_ 2 rfl
    have a2' := a2
    have b2' := b2
    rw [hV2] at a2' b2'
    have a3 := HX1b.out.at_ 3 rfl
    have b3 := HX2.out.at_ 3 rfl
    have a3' := a3
    have b3' := b3
    rw [hV2] at a3' b3'
    have a4 := HX1b.out.at_ 4 rfl
    have b4 := HX2.out.at_ 4 rfl
    have a4' := a4
    have b4' := b4
    rw [hV2] at a4' b4'
    have a5 := HX1b.out.at_ 5 rfl
    have b5 := HX2.out.at_ 5 rfl
    have a5' := a5
    have b5' := b5
    rw [hV2] at a5' b5'
    have a6 := HX1b.out.at_ 6 rfl
    have b6 := HX2.out.at_ 6 rfl
    have a6' := a6
    have b6' := b6
    rw [hV2] at a6' b6'
    go_wp2_with fail
    rw [← hV2]
    clear hV2
    refine (eq_EntryOut (W := V2)).mono ?_
    intro e w3 h
    obtain ⟨rfl, hb⟩ := isB_elim h
    have HB3 := Lib.hid (HB2.out.trans (hb.mono hz2))
    clear hb h
    go_wp2
    go_ret
    exact ⟨rfl, HB3.out⟩
  · have d1 : decide ((1048576 : Int) < (s.size : Int)) = true := decide_eq_true (by omega)
    go_enter Tryd.func3, Tryd.ntmps3
    go_wp2
    go_ret
    exact ⟨rfl, Below.refl _ _⟩
end Go.Proofs.YtdimpopkkjpddaaDoor.EnC
