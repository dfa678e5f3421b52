/- The law on FrameRead, out of the contracts. -/
import Derived.Test.YtdedomfocljhaaaDoorFrR
import Derived.Test.YtdedomfocljhaaaDoorFrT
namespace Go.Proofs.YtdedomfocljhaaaDoor.FrC
open Go.RowKit PutM PutC JoinC SealC SpanC GetM GetC CrcC KeptC RepC ValC
set_option linter.unusedVariables false
set_option linter.unusedSimpArgs false
set_option maxRecDepth 100000

set_option maxHeartbeats 800000 in
theorem law_frameread (s : ByteArray) (a : Int) (hs : s.size ≤ maxLen) (ha : a ≤ 9223372036854775807) (W : World) (hD : Door W) :
    Calls Tryd.prog 3 #[.string s, .int .i64 a] W fun e w' => e = .returned (.bool true) ∧ Below W.heap.size W w' := by
  have hs' := hs
  unfold maxLen at hs'
  have HD := Lib.hid hD
  have h0W := hD.lt
  obtain ⟨⟨⟨n, t⟩, q, c⟩, hv⟩ : ∃ x, frR s a = x := ⟨_, rfl⟩
  have HS : Hid (∀ w : World, Calls Tryd.prog 8 #[.string s, .int .i64 a] w fun e w' => e = .returned (.agg #[.int .i64 n, .string t, .int .i64 q, .int .i64 c]) ∧ Below w.heap.size w w') := Lib.hid fun w => by
    have h := fread_s s a w hs ha
    rw [hv] at h
    exact h
  have HI : Hid (∀ w : World, GetC.Door w → Calls Tryd.prog 9 #[.string s, .int .i64 a] w fun e w' => e = .returned (.agg #[.int .i64 n, .string t, .int .i64 q, .int .i64 c]) ∧ Below w.heap.size w w') := Lib.hid fun w hw => by
    have h := fread_i s a w hs ha hw
    rw [hv] at h
    exact h
  clear hv hD hs
  by_cases h1 : s.size ≤ 1048576
  · have d1 : decide ((1048576 : Int) < (s.size : Int)) = false := decide_eq_false (by omega)
    go_enter Tryd.func3, Tryd.ntmps3
    go_wp2_with fail
    refine (HS.out _).mono ?_
    rintro e w1 ⟨rfl, hb⟩
    obtain ⟨V, hV⟩ : ∃ V, V = w1.alloc (.cells #[.int .i64 n, .string t, .int .i64 q, .int .i64 c] 25) := ⟨_, rfl⟩
    have hbV : Below w1.heap.size w1 V := by rw [hV]; exact (Below.refl _ _).alloc (Nat.le_refl _) _
    have HX1 : Hid (Blk V w1.heap.size 25 #[.int .i64 n, .string t, .int .i64 q, .int .i64 c]) := Lib.hid (by rw [hV]; exact Blk.new _ _ _)
    have HB1 := Lib.hid (hb.trans (hbV.mono hb.size))
    have hz1 := HB1.out.size
    clear hb hbV
    go_wp2_with fail
    rw [← hV]
    clear hV
    refine (HI.out _ (HD.out.below HB1.out h0W)).mono ?_
    rintro e w2 ⟨rfl, hb⟩
    obtain ⟨V2, hV2⟩ : ∃ V, V = w2.alloc (.cells #[.int .i64 n, .string t, .int .i64 q, .int .i64 c] 25) := ⟨_, rfl⟩
    have hbV : Below w2.heap.size w2 V2 := by rw [hV2]; exact (Below.refl _ _).alloc (Nat.le_refl _) _
    have HX2 : Hid (Blk V2 w2.heap.size 25 #[.int .i64 n, .string t, .int .i64 q, .int .i64 c]) := Lib.hid (by rw [hV2]; exact Blk.new _ _ _)
    have HX1b := Lib.hid ((HX1.out.call hb).call hbV)
    have HB2 := Lib.hid ((HB1.out.trans (hb.mono hz1)).trans (hbV.mono (Nat.le_trans hz1 hb.size)))
    have hz2 := HB2.out.size
    have hlt := Nat.lt_of_lt_of_le HX1.out.lt hb.size
    clear hb hbV
    have a0 := HX1b.out.at_ 0 rfl
    have b0 := HX2.out.at_ 0 rfl
    have a0' := a0
    have b0' := b0
    rw [hV2] at a0' b0'
    have a1 := HX1b.out.at_ 1 rfl
    have b1 := HX2.out.at_ 1 rfl
    have a1' := a1
    have b1' := b1
    rw [hV2] at a1' b1'
    have a2 := HX1b.out.at_ 2 rfl
    have b2 := HX2.out.at_ 2 rfl
    have a2' := a2
    have b2' := b2
    rw [hV2] at a2' b2'
    have a3 := HX1b.out.at_ 3 rfl
    have b3 := HX2.out.at_ 3 rfl
    have a3' := a3
    have b3' := b3
    rw [hV2] at a3' b3'
    go_wp2_with fail
    rw [← hV2]
    clear hV2
    refine (eq_FrameOut (W := V2)).mono ?_
    intro e w3 h
    obtain ⟨rfl, hb⟩ := isB_elim h
    have HB3 := Lib.hid (HB2.out.trans (hb.mono hz2))
    clear hb h
    go_wp2
    go_ret
    exact ⟨rfl, HB3.out⟩
  · have d1 : decide ((1048576 : Int) < (s.size : Int)) = true := decide_eq_true (by omega)
    go_enter Tryd.func3, Tryd.ntmps3
    go_wp2
    go_ret
    exact ⟨rfl, Below.refl _ _⟩
end Go.Proofs.YtdedomfocljhaaaDoor.FrC
