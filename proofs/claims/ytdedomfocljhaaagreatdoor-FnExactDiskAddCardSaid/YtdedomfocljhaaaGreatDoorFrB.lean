/- FrameBytes, in the program and in its model: contracts. -/
import Derived.Test.YtdedomfocljhaaaGreatDoorTk
import Derived.Test.YtdedomfocljhaaaGreatDoorTk
import Derived.Test.YtdedomfocljhaaaGreatDoorTk
import Derived.Test.YtdedomfocljhaaaGreatDoorFrP
import Derived.Test.YtdedomfocljhaaaGreatDoorTk
import Derived.Test.YtdedomfocljhaaaGreatDoorRep3
namespace Go.Proofs.YtdedomfocljhaaaGreatDoor.FrC
open Go.RowKit PutM PutC JoinC SealC SpanC KeptC RepC
set_option linter.unusedVariables false
set_option linter.unusedSimpArgs false
set_option maxRecDepth 100000

theorem frame_s (n : Int) (t : ByteArray) (w : World) (ht : t.size ≤ maxLen) :
    Calls Tryz.prog 35 #[.agg #[.int .i64 n, .string t]] w fun e w' => e = .returned (.bool (frB n t)) ∧ Below w.heap.size w w' := by
  unfold maxLen at ht
  have HB := Lib.hid (show Below w.heap.size w (w.alloc (.cells #[.int .i64 n, .string t] 36)) from (Below.refl _ _).alloc (Nat.le_refl _) _)
  cases hT : isB n 0 1000000 with
  | false =>
    have HE := Lib.hid (show frB n t = false from by unfold frB; rw [hT]; rfl)
    have HC := Lib.hid (fun w => hT ▸ time_spec n w)
    clear hT
    go_enter Tryz.func35, Tryz.ntmps35
    go_wp2_with fail
    refine (HC.out _).mono ?_
    rintro e w1 ⟨rfl, rfl⟩
    go_wp2
    go_ret
    exact ⟨by rw [HE.out] <;> rfl, HB.out⟩
  | true =>
    have HE := Lib.hid (show frB n t = decide (t.size ≤ 2980) from by unfold frB; rw [hT]; rfl)
    have HC := Lib.hid (fun w => hT ▸ time_spec n w)
    clear hT
    by_cases hz : t.size ≤ 2980
    · have hd : decide ((t.size : Int) ≤ 2980) = true := decide_eq_true (by omega)
      have HE2 := Lib.hid (HE.out.trans (decide_eq_true hz))
      go_enter Tryz.func35, Tryz.ntmps35
      go_wp2_with fail
      refine (HC.out _).mono ?_
      rintro e w1 ⟨rfl, rfl⟩
      go_wp2
      go_ret
      exact ⟨by rw [HE2.out] <;> rfl, HB.out⟩
    · have hd : decide ((t.size : Int) ≤ 2980) = false := decide_eq_false (by omega)
      have HE2 := Lib.hid (HE.out.trans (decide_eq_false hz))
      go_enter Tryz.func35, Tryz.ntmps35
      go_wp2_with fail
      refine (HC.out _).mono ?_
      rintro e w1 ⟨rfl, rfl⟩
      go_wp2
      go_ret
      exact ⟨by rw [HE2.out] <;> rfl, HB.out⟩
theorem frame_i (n : Int) (t : ByteArray) (w : World) (ht : t.size ≤ maxLen) :
    Calls Tryz.prog 26 #[.agg #[.int .i64 n, .string t]] w fun e w' => e = .returned (.bool (frB n t)) ∧ Below w.heap.size w w' := by
  unfold maxLen at ht
  have HB := Lib.hid (show Below w.heap.size w (w.alloc (.cells #[.int .i64 n, .string t] 36)) from (Below.refl _ _).alloc (Nat.le_refl _) _)
  cases hT : isB n 0 1000000 with
  | false =>
    have HE := Lib.hid (show frB n t = false from by unfold frB; rw [hT]; rfl)
    have HC := Lib.hid (fun w => hT ▸ time_impl n w)
    clear hT
    go_enter Tryz.func26, Tryz.ntmps26
    go_wp2_with fail
    refine (HC.out _).mono ?_
    rintro e w1 ⟨rfl, rfl⟩
    go_wp2
    go_ret
    exact ⟨by rw [HE.out] <;> rfl, HB.out⟩
  | true =>
    have HE := Lib.hid (show frB n t = decide (t.size ≤ 2980) from by unfold frB; rw [hT]; rfl)
    have HC := Lib.hid (fun w => hT ▸ time_impl n w)
    clear hT
    by_cases hz : t.size ≤ 2980
    · have hd : decide ((t.size : Int) ≤ 2980) = true := decide_eq_true (by omega)
      have HE2 := Lib.hid (HE.out.trans (decide_eq_true hz))
      go_enter Tryz.func26, Tryz.ntmps26
      go_wp2_with fail
      refine (HC.out _).mono ?_
      rintro e w1 ⟨rfl, rfl⟩
      go_wp2
      go_ret
      exact ⟨by rw [HE2.out] <;> rfl, HB.out⟩
    · have hd : decide ((t.size : Int) ≤ 2980) = false := decide_eq_false (by omega)
      have HE2 := Lib.hid (HE.out.trans (decide_eq_false hz))
      go_enter Tryz.func26, Tryz.ntmps26
      go_wp2_with fail
      refine (HC.out _).mono ?_
      rintro e w1 ⟨rfl, rfl⟩
      go_wp2
      go_ret
      exact ⟨by rw [HE2.out] <;> rfl, HB.out⟩
set_option maxHeartbeats 1600000 in
set_option maxHeartbeats 1600000 in
theorem bytes_s (n : Int) (t : ByteArray) (W : World) (ht : t.size ≤ maxLen) :
    Calls Tryz.prog 18 #[.agg #[.int .i64 n, .string t]] W fun e w' => e = .returned (.string (bytesF n t)) ∧ Below W.heap.size W w' := by
  have HT := Lib.hid ht
  clear ht
  have HB0 := Lib.hid (show Below W.heap.size W (W.alloc (.cells #[.int .i64 n, .string t] 36)) from (Below.refl _ _).alloc (Nat.le_refl _) _)
  have HP0 := Lib.hid (Blk.new W 36 #[.int .i64 n, .string t])
  have p0 := HP0.out.at_ 0 rfl
  have p1 := HP0.out.at_ 1 rfl
  go_enter Tryz.func18, Tryz.ntmps18
  go_wp2_with fail
  refine (frame_s n t _ HT.out).mono ?_
  rintro e w1 ⟨rfl, hb⟩
  have HP1 := Lib.hid (HP0.out.call hb)
  have HB1 := Lib.hid (HB0.out.trans (hb.mono HB0.out.size))
  clear hb HP0 HB0 p0 p1
  cases hq : frB n t with
  | false =>
    have HE := Lib.hid (bytesF_no hq)
    clear hq
    go_wp2
    go_ret
    exact ⟨by rw [HE.out] <;> rfl, HB1.out⟩
  | true =>
    have HE := Lib.hid (bytesF_yes hq)
    obtain ⟨hn, hz⟩ := frB_iff.1 hq
    have hz4 : (fourS n).size = 4 := fourS_size n
    have hzs := frame_seal (n := n) hz
    have H4 := Lib.hid (fun w => four_spec n w (by omega) (by omega))
    obtain ⟨b4, g4⟩ : ∃ b, fourS n = b := ⟨_, rfl⟩
    rw [g4] at H4 hz4 hzs HE
    have hcat : (b4 ++ t).size ≤ 3000 := by rw [ByteArray.size_append]; omega
    have HS := Lib.hid (fun w => seal_spec (b4 ++ t) w (by unfold maxLen; omega))
    obtain ⟨u, gu⟩ : ∃ u, sealOf (b4 ++ t) = u := ⟨_, rfl⟩
    rw [gu] at HS hzs HE
    have HU := Lib.hid (fun w => JoinC.text_spec u w (by unfold maxLen; omega))
    obtain ⟨v, gv⟩ : ∃ v, putT u = v := ⟨_, rfl⟩
    rw [gv] at HU HE
    have hadd := fun w : World => run_string_add_sum (P := Tryz.prog) w b4 t (by omega)
    clear g4 gu gv hq hn hz hz4 hzs hcat
    go_wp2_with fail
    refine wp_region_held_drew (S := (fun V => Below (w1).heap.size (w1) V)) (by kernel_rfl) ((Below.refl _ _).drew) (fun hHeld => ?_)
    refine tk 0 hHeld ?_
    refine tk 1 hHeld ?_ (hy := fun w hSw => by (try dsimp only at hSw); have k0 := (hSw.cell (p := ⟨W.heap.size, 0, none⟩) HP1.out.lt).trans (HP1.out.at_ 0 rfl); clear hSw; go_simp; try with_reducible rfl)
    refine tk 3 hHeld ?_
    refine tk 4 hHeld ?_ (hy := fun w hSw => by (try dsimp only at hSw); have k0 := (hSw.cell (p := ⟨W.heap.size, 1, none⟩) HP1.out.lt).trans (HP1.out.at_ 1 rfl); clear hSw; go_simp; try with_reducible rfl)
    refine rd1 2 (fun K hK => ?_)
    go_simp
    go_at_call 38
    refine (H4.out _).mono ?_
    rintro e v1 ⟨rfl, hb⟩
    refine hK.out _ _ (hHeld.trans (hb.mono hHeld.size)) (fun hHeld => ?_)
    clear hK K hb
    refine tk 5 hHeld ?_
    refine rd1 6 (fun K hK => ?_)
    go_simp
    go_at_call 37
    refine (HS.out _).mono ?_
    rintro e v2 ⟨rfl, hb⟩
    refine hK.out _ _ (hHeld.trans (hb.mono hHeld.size)) (fun hHeld => ?_)
    clear hK K hb
    refine rd1 7 (fun K hK => ?_)
    go_simp
    go_at_call 36
    refine (HU.out _).mono ?_
    rintro e v3 ⟨rfl, hb⟩
    refine hK.out _ _ (hHeld.trans (hb.mono hHeld.size)) (fun hHeld => ?_)
    clear hK K hb
    refine tk 8 hHeld ?_
    refine rd0 ?_
    have HF := Lib.hid hHeld
    clear hHeld
    go_wp2
    go_ret
    exact ⟨by rw [HE.out] <;> rfl, HB1.out.trans (HF.out.mono HB1.out.size)⟩
set_option maxHeartbeats 1600000 in
theorem bytes_i (n : Int) (t : ByteArray) (W : World) (ht : t.size ≤ maxLen) :
    Calls Tryz.prog 27 #[.agg #[.int .i64 n, .string t]] W fun e w' => e = .returned (.string (bytesF n t)) ∧ Below W.heap.size W w' := by
  have HT := Lib.hid ht
  clear ht
  have HB0 := Lib.hid (show Below W.heap.size W (W.alloc (.cells #[.int .i64 n, .string t] 36)) from (Below.refl _ _).alloc (Nat.le_refl _) _)
  have HP0 := Lib.hid (Blk.new W 36 #[.int .i64 n, .string t])
  have p0 := HP0.out.at_ 0 rfl
  have p1 := HP0.out.at_ 1 rfl
  go_enter Tryz.func27, Tryz.ntmps27
  go_wp2_with fail
  refine (frame_i n t _ HT.out).mono ?_
  rintro e w1 ⟨rfl, hb⟩
  have HP1 := Lib.hid (HP0.out.call hb)
  have HB1 := Lib.hid (HB0.out.trans (hb.mono HB0.out.size))
  clear hb HP0 HB0 p0 p1
  cases hq : frB n t with
  | false =>
    have HE := Lib.hid (bytesF_no hq)
    clear hq
    go_wp2
    go_ret
    exact ⟨by rw [HE.out] <;> rfl, HB1.out⟩
  | true =>
    have HE := Lib.hid (bytesF_yes hq)
    obtain ⟨hn, hz⟩ := frB_iff.1 hq
    have hz4 : (fourS n).size = 4 := fourS_size n
    have hzs := frame_seal (n := n) hz
    have H4 := Lib.hid (fun w => put_four n w (by omega) (by omega))
    obtain ⟨b4, g4⟩ : ∃ b, fourS n = b := ⟨_, rfl⟩
    rw [g4] at H4 hz4 hzs HE
    have hcat : (b4 ++ t).size ≤ 3000 := by rw [ByteArray.size_append]; omega
    have HS := Lib.hid (fun w => seal_impl (b4 ++ t) w (by unfold maxLen; omega))
    obtain ⟨u, gu⟩ : ∃ u, sealOf (b4 ++ t) = u := ⟨_, rfl⟩
    rw [gu] at HS hzs HE
    have HU := Lib.hid (fun w => JoinC.text_impl u w (by unfold maxLen; omega))
    obtain ⟨v, gv⟩ : ∃ v, putT u = v := ⟨_, rfl⟩
    rw [gv] at HU HE
    have HJ := Lib.hid (fun w => joined_any b4 t w (by omega))
    clear g4 gu gv hq hn hz hz4 hzs hcat
    go_wp2_with fail
    refine wp_region_held_drew (S := (fun V => Below (w1).heap.size (w1) V)) (by kernel_rfl) ((Below.refl _ _).drew) (fun hHeld => ?_)
    refine tk 0 hHeld ?_
    refine tk 1 hHeld ?_ (hy := fun w hSw => by (try dsimp only at hSw); have k0 := (hSw.cell (p := ⟨W.heap.size, 0, none⟩) HP1.out.lt).trans (HP1.out.at_ 0 rfl); clear hSw; go_simp; try with_reducible rfl)
    refine tk 3 hHeld ?_
    refine tk 4 hHeld ?_ (hy := fun w hSw => by (try dsimp only at hSw); have k0 := (hSw.cell (p := ⟨W.heap.size, 1, none⟩) HP1.out.lt).trans (HP1.out.at_ 1 rfl); clear hSw; go_simp; try with_reducible rfl)
    refine rd1 2 (fun K hK => ?_)
    go_simp
    go_at_call 51
    refine (H4.out _).mono ?_
    rintro e v1 ⟨rfl, hb⟩
    refine hK.out _ _ (hHeld.trans (hb.mono hHeld.size)) (fun hHeld => ?_)
    clear hK K hb
    refine rd1 5 (fun K hK => ?_)
    go_simp
    go_at_call 50
    refine (HJ.out _).mono ?_
    rintro e v4 ⟨rfl, hb⟩
    refine hK.out _ _ (hHeld.trans (hb.mono hHeld.size)) (fun hHeld => ?_)
    clear hK K hb
    refine rd1 6 (fun K hK => ?_)
    go_simp
    go_at_call 49
    refine (HS.out _).mono ?_
    rintro e v2 ⟨rfl, hb⟩
    refine hK.out _ _ (hHeld.trans (hb.mono hHeld.size)) (fun hHeld => ?_)
    clear hK K hb
    refine rd1 7 (fun K hK => ?_)
    go_simp
    go_at_call 48
    refine (HU.out _).mono ?_
    rintro e v3 ⟨rfl, hb⟩
    refine hK.out _ _ (hHeld.trans (hb.mono hHeld.size)) (fun hHeld => ?_)
    clear hK K hb
    refine tk 8 hHeld ?_
    refine rd0 ?_
    have HF := Lib.hid hHeld
    clear hHeld
    go_wp2
    go_ret
    exact ⟨by rw [HE.out] <;> rfl, HB1.out.trans (HF.out.mono HB1.out.size)⟩
end Go.Proofs.YtdedomfocljhaaaGreatDoor.FrC
