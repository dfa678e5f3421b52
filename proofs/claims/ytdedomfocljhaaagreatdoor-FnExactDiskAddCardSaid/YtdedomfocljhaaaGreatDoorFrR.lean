/- FrameRead, in the program and in its model: contracts. -/
import Derived.Test.YtdedomfocljhaaaGreatDoorFrI
namespace Go.Proofs.YtdedomfocljhaaaGreatDoor.FrC
open Go.RowKit PutM PutC JoinC SealC SpanC GetM GetC CrcC KeptC RepC
set_option linter.unusedVariables false
set_option linter.unusedSimpArgs false
set_option maxRecDepth 100000

theorem gettext_s (s : ByteArray) (a : Int) (hs : s.size ≤ maxLen) (ha : a ≤ 9223372036854775807) (w : World) :
    Calls Tryz.prog 60 #[.string s, .int .i64 a] w fun e w' => e = .returned (.agg #[.string (gT s a).1, .int .i64 (gT s a).2.1, .int .i64 (gT s a).2.2]) ∧ Below w.heap.size w w' := by
  have hs' := hs
  unfold maxLen at hs'
  have h := text_spec s a (gN s a).1 (gN s a).2.1 (gN s a).2.2 w hs' (fun w => by rw [← getV_gN]; exact spec_any s a w hs ha) (fun hc => by have := gN_ok hc; omega)
  rw [textOf_gT] at h
  exact h
theorem gettext_i (s : ByteArray) (a : Int) (hs : s.size ≤ maxLen) (ha : a ≤ 9223372036854775807) (w : World) (hD : Door w) :
    Calls Tryz.prog 73 #[.string s, .int .i64 a] w fun e w' => e = .returned (.agg #[.string (gT s a).1, .int .i64 (gT s a).2.1, .int .i64 (gT s a).2.2]) ∧ Below w.heap.size w w' := by
  have hs' := hs
  unfold maxLen at hs'
  have h := text_impl s a (gN s a).1 (gN s a).2.1 (gN s a).2.2 w hs' hD (fun w hw => by rw [← getV_gN]; exact impl_any s a w hs ha hw) (fun hc => by have := gN_ok hc; omega)
  rw [textOf_gT] at h
  exact h
theorem useal_s (t : ByteArray) (ht : t.size ≤ 8000) (w : World) : Calls Tryz.prog 61 #[.string t] w fun e w' => e = .returned (.agg #[.string (unsealT t), .int .i64 0, .int .i64 (unsealE t)]) ∧ Below w.heap.size w w' := unseal_spec t w (by unfold maxLen; omega)
theorem useal_i (t : ByteArray) (ht : t.size ≤ 8000) (w : World) : Calls Tryz.prog 74 #[.string t] w fun e w' => e = .returned (.agg #[.string (unsealT t), .int .i64 0, .int .i64 (unsealE t)]) ∧ Below w.heap.size w w' := unseal_impl t w (by unfold maxLen; omega)
/-- a FrameOut -/
def foV (x : FrO) : Value := .agg #[.int .i64 x.1.1, .string x.1.2, .int .i64 x.2.1, .int .i64 x.2.2]
theorem frR_cases {s : ByteArray} {a : Int} {t u : ByteArray} {q d c : Int} (hT : gT s a = (t, q, d)) (hu : unsealT t = u) (hc : unsealE t = c) :
    frR s a = if d = 0 then if c = 0 then if 4 ≤ u.size then if frB (fourN u) (restF u) = true then ((fourN u, restF u), q, 0) else badF 3 else badF 3 else badF c else badF d := by
  unfold frR
  rw [hT]
  simp only
  rw [hu, hc]
theorem below4 {B : Nat} {w V : World} {b : Nat} (h : Below B w V) (hb : B ≤ b) (x y z u : Value) : Below B w ((((V.setCell ⟨b, 0, none⟩ x).setCell ⟨b, 1, none⟩ y).setCell ⟨b, 2, none⟩ z).setCell ⟨b, 3, none⟩ u) :=
  (((h.setCell (p := ⟨b, 0, none⟩) hb x).setCell (p := ⟨b, 1, none⟩) hb y).setCell (p := ⟨b, 2, none⟩) hb z).setCell (p := ⟨b, 3, none⟩) hb u
/-- the number on the way: of the bytes from k on -/
def parN (u : ByteArray) : Nat → Int
  | 0 => ((bt u 3 * 256 + bt u 2) * 256 + bt u 1) * 256 + bt u 0
  | 1 => (bt u 3 * 256 + bt u 2) * 256 + bt u 1
  | 2 => bt u 3 * 256 + bt u 2
  | 3 => bt u 3
  | _ => 0
theorem parN_zero (u : ByteArray) : parN u 0 = fourN u := by simp only [parN, fourN]; omega
theorem parN_step (u : ByteArray) {k : Nat} (h : k < 4) : parN u k = parN u (k + 1) * 256 + bt u k := by
  rcases (show k = 0 ∨ k = 1 ∨ k = 2 ∨ k = 3 by omega) with rfl | rfl | rfl | rfl <;> simp [parN]
theorem parN_bd (u : ByteArray) (k : Nat) : 0 ≤ parN u k ∧ parN u k ≤ 4294967295 := by
  have h0 := bt_bd u 0
  have h1 := bt_bd u 1
  have h2 := bt_bd u 2
  have h3 := bt_bd u 3
  unfold parN
  split <;> omega
set_option maxHeartbeats 3200000 in
theorem fread_i (s : ByteArray) (a : Int) (W : World) (hs : s.size ≤ maxLen) (ha : a ≤ 9223372036854775807) (hD : Door W) :
    Calls Tryz.prog 67 #[.string s, .int .i64 a] W fun e w' => e = .returned (foV (frR s a)) ∧ Below W.heap.size W w' := by
  have HG := Lib.hid (fun w (h : Door w) => gettext_i s a hs ha w h)
  have ht := gT_size s a
  obtain ⟨⟨t, q, d⟩, hT⟩ : ∃ x, gT s a = x := ⟨_, rfl⟩
  rw [hT] at HG ht
  simp only at HG ht
  have HU := Lib.hid (useal_i t ht)
  obtain ⟨u, hu⟩ : ∃ u, unsealT t = u := ⟨_, rfl⟩
  obtain ⟨c, hc⟩ : ∃ c, unsealE t = c := ⟨_, rfl⟩
  have HR := Lib.hid (frR_cases hT hu hc)
  have hus : u.size ≤ 8000 := by rw [← hu]; exact unsealT_size t ht
  rw [hu, hc] at HU
  clear hT hu hc ht
  obtain ⟨w0, hw0⟩ : ∃ w, w = W.alloc (.cells #[.int .i64 0, .string ⟨#[]⟩, .int .i64 0, .int .i64 0] 77) := ⟨_, rfl⟩
  have HB0 := Lib.hid (show Below W.heap.size W w0 from by rw [hw0]; exact (Below.refl _ _).alloc (Nat.le_refl _) _)
  have X1 := Lib.hid (show Blk w0 W.heap.size 77 #[.int .i64 0, .string ⟨#[]⟩, .int .i64 0, .int .i64 0] from by rw [hw0]; exact Blk.new _ _ _)
  have HD0 := Lib.hid (hD.below HB0.out hD.lt)
  go_enter Tryz.func67, Tryz.ntmps67
  go_upto_region 1 with fail
  rw [← hw0]
  clear hw0
  go_wp2_with fail
  refine (HG.out _ HD0.out).mono ?_
  rintro e w1 ⟨rfl, hb⟩
  obtain ⟨V1, hV1⟩ : ∃ V, V = w1.alloc (.cells #[.string t, .int .i64 q, .int .i64 d] 92) := ⟨_, rfl⟩
  have hbV : Below w1.heap.size w1 V1 := by rw [hV1]; exact (Below.refl _ _).alloc (Nat.le_refl _) _
  have X5 := Lib.hid (show Blk V1 w1.heap.size 92 #[.string t, .int .i64 q, .int .i64 d] from by rw [hV1]; exact Blk.new _ _ _)
  have X1 := Lib.hid ((X1.out.call hb).call hbV)
  have HB1 := Lib.hid ((HB0.out.trans (hb.mono HB0.out.size)).trans (hbV.mono (Nat.le_trans HB0.out.size hb.size)))
  clear hb hbV
  go_upto_region 2 with fail
  rw [← hV1]
  clear hV1
  have e0 := X5.out.at_ 0 rfl
  have e1 := X5.out.at_ 1 rfl
  have e2 := X5.out.at_ 2 rfl
  by_cases hd : d = 0
  rotate_left
  · have hdd : (d != 0) = true := by simpa using hd
    have HF := Lib.hid (show frR s a = badF d from by rw [HR.out, if_neg hd])
    have z0 := X1.out.at_ 0 rfl
    have z1 := X1.out.at_ 1 rfl
    have z2 := X1.out.at_ 2 rfl
    have z3 := X1.out.at_ 3 rfl
    have s0 := X1.out.soft 0
    have s1 := X1.out.soft 1
    have s2 := X1.out.soft 2
    have s3 := X1.out.soft 3
    clear hd
    go_wp2
    exact bodyPost_ret (v := foV (badF d)) (by simp [results, Tryz.results67, go_sem, foV, badF, *]) rfl ⟨by rw [HF.out], below4 HB1.out (Nat.le_refl _) _ _ _ _⟩
  subst hd
  go_wp2_with fail
  refine (HU.out _).mono ?_
  rintro e w2 ⟨rfl, hb⟩
  obtain ⟨V2, hV2⟩ : ∃ V, V = w2.alloc (.cells #[.string u, .int .i64 0, .int .i64 c] 92) := ⟨_, rfl⟩
  have hbV : Below w2.heap.size w2 V2 := by rw [hV2]; exact (Below.refl _ _).alloc (Nat.le_refl _) _
  have X6 := Lib.hid (show Blk V2 w2.heap.size 92 #[.string u, .int .i64 0, .int .i64 c] from by rw [hV2]; exact Blk.new _ _ _)
  have X1 := Lib.hid ((X1.out.call hb).call hbV)
  have X5 := Lib.hid ((X5.out.call hb).call hbV)
  have HB2 := Lib.hid ((HB1.out.trans (hb.mono HB1.out.size)).trans (hbV.mono (Nat.le_trans HB1.out.size hb.size)))
  clear hb hbV e0 e1 e2
  go_upto_region 5 with fail
  rw [← hV2]
  clear hV2
  have e1 := X5.out.at_ 1 rfl
  have f0 := X6.out.at_ 0 rfl
  have f2 := X6.out.at_ 2 rfl
  by_cases hc : c = 0
  rotate_left
  · have hdd : (c != 0) = true := by simpa using hc
    have HF := Lib.hid (show frR s a = badF c from by rw [HR.out]; simp [hc])
    have z0 := X1.out.at_ 0 rfl
    have z1 := X1.out.at_ 1 rfl
    have z2 := X1.out.at_ 2 rfl
    have z3 := X1.out.at_ 3 rfl
    have s0 := X1.out.soft 0
    have s1 := X1.out.soft 1
    have s2 := X1.out.soft 2
    have s3 := X1.out.soft 3
    clear hc
    go_wp2
    exact bodyPost_ret (v := foV (badF c)) (by simp [results, Tryz.results67, go_sem, foV, badF, *]) rfl ⟨by rw [HF.out], below4 HB2.out (Nat.le_refl _) _ _ _ _⟩
  subst hc
  have HI := Lib.hid (fun w => framein u w hus)
  by_cases h4 : 4 ≤ u.size
  rotate_left
  · rw [if_neg h4] at HI
    have HF := Lib.hid (show frR s a = badF 3 from by rw [HR.out]; simp [h4])
    clear h4
    go_wp2_with fail
    refine (HI.out _).mono ?_
    rintro e w3 ⟨rfl, hb⟩
    have X1 := Lib.hid (X1.out.call hb)
    have HB3 := Lib.hid (HB2.out.trans (hb.mono HB2.out.size))
    clear hb e1 f0 f2
    obtain ⟨V3, hV3⟩ : ∃ V, V = w3.alloc (.cells #[.int .i64 0, .string ⟨#[]⟩] 36) := ⟨_, rfl⟩
    have hbV3 : Below w3.heap.size w3 V3 := by rw [hV3]; exact (Below.refl _ _).alloc (Nat.le_refl _) _
    have X7 := Lib.hid (show Blk V3 w3.heap.size 36 #[.int .i64 0, .string ⟨#[]⟩] from by rw [hV3]; exact Blk.new _ _ _)
    have X1 := Lib.hid (X1.out.call hbV3)
    have HB4 := Lib.hid (HB3.out.trans (hbV3.mono HB3.out.size))
    go_upto_region 8 with fail
    rw [← hV3]
    clear hV3
    have z0 := X1.out.at_ 0 rfl
    have z1 := X1.out.at_ 1 rfl
    have z2 := X1.out.at_ 2 rfl
    have z3 := X1.out.at_ 3 rfl
    have s0 := X1.out.soft 0
    have s1 := X1.out.soft 1
    have s2 := X1.out.soft 2
    have s3 := X1.out.soft 3
    go_wp2
    exact bodyPost_ret (v := foV (badF 3)) (by simp [results, Tryz.results67, go_sem, foV, badF, *]) rfl ⟨by rw [HF.out], below4 HB4.out (Nat.le_refl _) _ _ _ _⟩
  rw [if_pos h4] at HI
  cases hq : frB (fourN u) (restF u) with
  | false =>
    rw [hq] at HI
    have HF := Lib.hid (show frR s a = badF 3 from by rw [HR.out]; simp [h4, hq])
    clear h4 hq
    go_wp2_with fail
    refine (HI.out _).mono ?_
    rintro e w3 ⟨rfl, hb⟩
    have X1 := Lib.hid (X1.out.call hb)
    have HB3 := Lib.hid (HB2.out.trans (hb.mono HB2.out.size))
    clear hb e1 f0 f2
    obtain ⟨V3, hV3⟩ : ∃ V, V = w3.alloc (.cells #[.int .i64 (fourN u), .string (restF u)] 36) := ⟨_, rfl⟩
    have hbV3 : Below w3.heap.size w3 V3 := by rw [hV3]; exact (Below.refl _ _).alloc (Nat.le_refl _) _
    have X7 := Lib.hid (show Blk V3 w3.heap.size 36 #[.int .i64 (fourN u), .string (restF u)] from by rw [hV3]; exact Blk.new _ _ _)
    have X1 := Lib.hid (X1.out.call hbV3)
    have HB4 := Lib.hid (HB3.out.trans (hbV3.mono HB3.out.size))
    go_upto_region 8 with fail
    rw [← hV3]
    clear hV3
    have z0 := X1.out.at_ 0 rfl
    have z1 := X1.out.at_ 1 rfl
    have z2 := X1.out.at_ 2 rfl
    have z3 := X1.out.at_ 3 rfl
    have s0 := X1.out.soft 0
    have s1 := X1.out.soft 1
    have s2 := X1.out.soft 2
    have s3 := X1.out.soft 3
    go_wp2
    exact bodyPost_ret (v := foV (badF 3)) (by simp [results, Tryz.results67, go_sem, foV, badF, *]) rfl ⟨by rw [HF.out], below4 HB4.out (Nat.le_refl _) _ _ _ _⟩
  | true =>
    rw [hq] at HI
    have HF := Lib.hid (show frR s a = ((fourN u, restF u), q, 0) from by rw [HR.out]; simp [h4, hq])
    clear h4 hq
    go_wp2_with fail
    refine (HI.out _).mono ?_
    rintro e w3 ⟨rfl, hb⟩
    have X1 := Lib.hid (X1.out.call hb)
    have X5 := Lib.hid (X5.out.call hb)
    have HB3 := Lib.hid (HB2.out.trans (hb.mono HB2.out.size))
    clear hb e1 f0 f2
    obtain ⟨V3, hV3⟩ : ∃ V, V = w3.alloc (.cells #[.int .i64 (fourN u), .string (restF u)] 36) := ⟨_, rfl⟩
    have hbV3 : Below w3.heap.size w3 V3 := by rw [hV3]; exact (Below.refl _ _).alloc (Nat.le_refl _) _
    have X7 := Lib.hid (show Blk V3 w3.heap.size 36 #[.int .i64 (fourN u), .string (restF u)] from by rw [hV3]; exact Blk.new _ _ _)
    have X1 := Lib.hid (X1.out.call hbV3)
    have HB4 := Lib.hid (HB3.out.trans (hbV3.mono HB3.out.size))
    go_upto_region 8 with fail
    rw [← hV3]
    clear hV3
    have X5 := Lib.hid (X5.out.call hbV3)
    have e1 := X5.out.at_ 1 rfl
    have g0 := X7.out.at_ 0 rfl
    have g1 := X7.out.at_ 1 rfl
    have z0 := X1.out.at_ 0 rfl
    have z1 := X1.out.at_ 1 rfl
    have z2 := X1.out.at_ 2 rfl
    have z3 := X1.out.at_ 3 rfl
    have s0 := X1.out.soft 0
    have s1 := X1.out.soft 1
    have s2 := X1.out.soft 2
    have s3 := X1.out.soft 3
    go_wp2
    exact bodyPost_ret (v := foV ((fourN u, restF u), q, 0)) (by simp [results, Tryz.results67, go_sem, foV, *]) rfl ⟨by rw [HF.out], below4 HB4.out (Nat.le_refl _) _ _ _ _⟩
theorem frame_sb (n : Int) (t : ByteArray) (w : World) {b : Bool} (hb : frB n t = b) (ht : t.size ≤ maxLen) : Calls Tryz.prog 35 #[.agg #[.int .i64 n, .string t]] w fun e w' => e = .returned (.bool b) ∧ Below w.heap.size w w' := by
  subst hb
  exact frame_s n t w ht
set_option maxHeartbeats 3200000 in
theorem fread_s (s : ByteArray) (a : Int) (W : World) (hs : s.size ≤ maxLen) (ha : a ≤ 9223372036854775807) :
    Calls Tryz.prog 39 #[.string s, .int .i64 a] W fun e w' => e = .returned (foV (frR s a)) ∧ Below W.heap.size W w' := by
  have HG := Lib.hid (fun w => gettext_s s a hs ha w)
  have ht := gT_size s a
  obtain ⟨⟨t, q, d⟩, hT⟩ : ∃ x, gT s a = x := ⟨_, rfl⟩
  rw [hT] at HG ht
  simp only at HG ht
  have HU := Lib.hid (useal_s t ht)
  obtain ⟨u, hu⟩ : ∃ u, unsealT t = u := ⟨_, rfl⟩
  obtain ⟨c, hc⟩ : ∃ c, unsealE t = c := ⟨_, rfl⟩
  have HR := Lib.hid (frR_cases hT hu hc)
  have hus : u.size ≤ 8000 := by rw [← hu]; exact unsealT_size t ht
  rw [hu, hc] at HU
  clear hT hu hc ht
  obtain ⟨w0, hw0⟩ : ∃ w, w = W.alloc (.cells #[.int .i64 0, .string ⟨#[]⟩, .int .i64 0, .int .i64 0] 77) := ⟨_, rfl⟩
  have HB0 := Lib.hid (show Below W.heap.size W w0 from by rw [hw0]; exact (Below.refl _ _).alloc (Nat.le_refl _) _)
  have X1 := Lib.hid (show Blk w0 W.heap.size 77 #[.int .i64 0, .string ⟨#[]⟩, .int .i64 0, .int .i64 0] from by rw [hw0]; exact Blk.new _ _ _)
  go_enter Tryz.func39, Tryz.ntmps39
  go_upto_region 1 with fail
  rw [← hw0]
  clear hw0
  go_wp2_with fail
  refine (HG.out _).mono ?_
  rintro e w1 ⟨rfl, hb⟩
  obtain ⟨V1, hV1⟩ : ∃ V, V = w1.alloc (.cells #[.string t, .int .i64 q, .int .i64 d] 92) := ⟨_, rfl⟩
  have hbV : Below w1.heap.size w1 V1 := by rw [hV1]; exact (Below.refl _ _).alloc (Nat.le_refl _) _
  have X5 := Lib.hid (show Blk V1 w1.heap.size 92 #[.string t, .int .i64 q, .int .i64 d] from by rw [hV1]; exact Blk.new _ _ _)
  have X1 := Lib.hid ((X1.out.call hb).call hbV)
  have HB1 := Lib.hid ((HB0.out.trans (hb.mono HB0.out.size)).trans (hbV.mono (Nat.le_trans HB0.out.size hb.size)))
  clear hb hbV
  go_upto_region 2 with fail
  rw [← hV1]
  clear hV1
  have e0 := X5.out.at_ 0 rfl
  have e1 := X5.out.at_ 1 rfl
  have e2 := X5.out.at_ 2 rfl
  by_cases hd : d = 0
  rotate_left
  · have hdd : (d != 0) = true := by simpa using hd
    have HF := Lib.hid (show frR s a = badF d from by rw [HR.out, if_neg hd])
    have z0 := X1.out.at_ 0 rfl
    have z1 := X1.out.at_ 1 rfl
    have z2 := X1.out.at_ 2 rfl
    have z3 := X1.out.at_ 3 rfl
    have s0 := X1.out.soft 0
    have s1 := X1.out.soft 1
    have s2 := X1.out.soft 2
    have s3 := X1.out.soft 3
    clear hd
    go_wp2
    exact bodyPost_ret (v := foV (badF d)) (by simp [results, Tryz.results39, go_sem, foV, badF, *]) rfl ⟨by rw [HF.out], below4 HB1.out (Nat.le_refl _) _ _ _ _⟩
  subst hd
  go_wp2_with fail
  refine (HU.out _).mono ?_
  rintro e w2 ⟨rfl, hb⟩
  obtain ⟨V2, hV2⟩ : ∃ V, V = w2.alloc (.cells #[.string u, .int .i64 0, .int .i64 c] 92) := ⟨_, rfl⟩
  have hbV : Below w2.heap.size w2 V2 := by rw [hV2]; exact (Below.refl _ _).alloc (Nat.le_refl _) _
  have X6 := Lib.hid (show Blk V2 w2.heap.size 92 #[.string u, .int .i64 0, .int .i64 c] from by rw [hV2]; exact Blk.new _ _ _)
  have X1 := Lib.hid ((X1.out.call hb).call hbV)
  have X5 := Lib.hid ((X5.out.call hb).call hbV)
  have HB2 := Lib.hid ((HB1.out.trans (hb.mono HB1.out.size)).trans (hbV.mono (Nat.le_trans HB1.out.size hb.size)))
  clear hb hbV e0 e1 e2
  go_upto_region 5 with fail
  rw [← hV2]
  clear hV2
  have e1 := X5.out.at_ 1 rfl
  have f0 := X6.out.at_ 0 rfl
  have f2 := X6.out.at_ 2 rfl
  by_cases hc : c = 0
  rotate_left
  · have hdd : (c != 0) = true := by simpa using hc
    have HF := Lib.hid (show frR s a = badF c from by rw [HR.out]; simp [hc])
    have z0 := X1.out.at_ 0 rfl
    have z1 := X1.out.at_ 1 rfl
    have z2 := X1.out.at_ 2 rfl
    have z3 := X1.out.at_ 3 rfl
    have s0 := X1.out.soft 0
    have s1 := X1.out.soft 1
    have s2 := X1.out.soft 2
    have s3 := X1.out.soft 3
    clear hc
    go_wp2
    exact bodyPost_ret (v := foV (badF c)) (by simp [results, Tryz.results39, go_sem, foV, badF, *]) rfl ⟨by rw [HF.out], below4 HB2.out (Nat.le_refl _) _ _ _ _⟩
  subst hc
  by_cases h4 : 4 ≤ u.size
  rotate_left
  · have hdd : decide ((u.size : Int) < 4) = true := decide_eq_true (by omega)
    have HF := Lib.hid (show frR s a = badF 3 from by rw [HR.out]; simp [h4])
    clear h4
    have z0 := X1.out.at_ 0 rfl
    have z1 := X1.out.at_ 1 rfl
    have z2 := X1.out.at_ 2 rfl
    have z3 := X1.out.at_ 3 rfl
    have s0 := X1.out.soft 0
    have s1 := X1.out.soft 1
    have s2 := X1.out.soft 2
    have s3 := X1.out.soft 3
    go_wp2
    exact bodyPost_ret (v := foV (badF 3)) (by simp [results, Tryz.results39, go_sem, foV, badF, *]) rfl ⟨by rw [HF.out], below4 HB2.out (Nat.le_refl _) _ _ _ _⟩
  have hdd : decide ((u.size : Int) < 4) = false := decide_eq_false (by omega)
  have HCUT := Lib.hid (cut_rest u h4 hus)
  have H4 := Lib.hid h4
  go_wp2
  go_loop [7, 8] (fun n i => (i = .int .i64 (-1) ∧ n = .int .i64 (fourN u)) ∨ ∃ k : Nat, k < 4 ∧ i = .int .i64 k ∧ n = .int .i64 (parN u (k + 1))) (fun _ i => (intOf i + 1).toNat)
  case atStart => exact .inr ⟨3, by omega, rfl, rfl⟩
  case round =>
    rcases hrel with ⟨rfl, rfl⟩ | ⟨k, hk4, rfl, hn⟩
    · skip
      have hcut0 := HCUT.out
      have hr := restF_size (u := u)
      cases hq : frB (fourN u) (restF u) with
      | false =>
        have HFF := Lib.hid (fun w => (frame_sb (fourN u) (restF u) w hq (by unfold maxLen; omega)))
        have HF := Lib.hid (show frR s a = badF 3 from by rw [HR.out]; have h4 := H4.out; simp [h4, hq])
        clear hq hr
        obtain ⟨V3, hV3⟩ : ∃ V, V = V2.alloc (.cells #[.int .i64 (fourN u), .string (restF u)] 36) := ⟨_, rfl⟩
        have hbV3 : Below V2.heap.size V2 V3 := by rw [hV3]; exact (Below.refl _ _).alloc (Nat.le_refl _) _
        have X7 := Lib.hid (show Blk V3 V2.heap.size 36 #[.int .i64 (fourN u), .string (restF u)] from by rw [hV3]; exact Blk.new _ _ _)
        have X1 := Lib.hid (X1.out.call hbV3)
        have X5 := Lib.hid (X5.out.call hbV3)
        have HB3 := Lib.hid (HB2.out.trans (hbV3.mono HB2.out.size))
        clear hbV3
        go_upto_region 15 with fail
        rw [← hV3]
        clear hV3
        have g0 := X7.out.at_ 0 rfl
        have g1 := X7.out.at_ 1 rfl
        go_wp2_with fail
        refine (HFF.out _).mono ?_
        rintro e w3 ⟨rfl, hb⟩
        have X1 := Lib.hid (X1.out.call hb)
        have HB4 := Lib.hid (HB3.out.trans (hb.mono HB3.out.size))
        clear hb e1 f0 f2 g0 g1
        have z0 := X1.out.at_ 0 rfl
        have z1 := X1.out.at_ 1 rfl
        have z2 := X1.out.at_ 2 rfl
        have z3 := X1.out.at_ 3 rfl
        have s0 := X1.out.soft 0
        have s1 := X1.out.soft 1
        have s2 := X1.out.soft 2
        have s3 := X1.out.soft 3
        go_wp2
        exact bodyPost_ret (v := foV (badF 3)) (by simp [results, Tryz.results39, go_sem, foV, badF, *]) rfl ⟨by rw [HF.out], below4 HB4.out (Nat.le_refl _) _ _ _ _⟩
      | true =>
        have HFF := Lib.hid (fun w => (frame_sb (fourN u) (restF u) w hq (by unfold maxLen; omega)))
        have HF := Lib.hid (show frR s a = ((fourN u, restF u), q, 0) from by rw [HR.out]; have h4 := H4.out; simp [h4, hq])
        clear hq hr
        obtain ⟨V3, hV3⟩ : ∃ V, V = V2.alloc (.cells #[.int .i64 (fourN u), .string (restF u)] 36) := ⟨_, rfl⟩
        have hbV3 : Below V2.heap.size V2 V3 := by rw [hV3]; exact (Below.refl _ _).alloc (Nat.le_refl _) _
        have X7 := Lib.hid (show Blk V3 V2.heap.size 36 #[.int .i64 (fourN u), .string (restF u)] from by rw [hV3]; exact Blk.new _ _ _)
        have X1 := Lib.hid (X1.out.call hbV3)
        have X5 := Lib.hid (X5.out.call hbV3)
        have HB3 := Lib.hid (HB2.out.trans (hbV3.mono HB2.out.size))
        clear hbV3
        go_upto_region 15 with fail
        rw [← hV3]
        clear hV3
        have g0 := X7.out.at_ 0 rfl
        have g1 := X7.out.at_ 1 rfl
        go_wp2_with fail
        refine (HFF.out _).mono ?_
        rintro e w3 ⟨rfl, hb⟩
        have X1 := Lib.hid (X1.out.call hb)
        have X5 := Lib.hid (X5.out.call hb)
        have X7 := Lib.hid (X7.out.call hb)
        have HB4 := Lib.hid (HB3.out.trans (hb.mono HB3.out.size))
        clear hb e1 f0 f2 g0 g1
        have e1 := X5.out.at_ 1 rfl
        have g0 := X7.out.at_ 0 rfl
        have g1 := X7.out.at_ 1 rfl
        have z0 := X1.out.at_ 0 rfl
        have z1 := X1.out.at_ 1 rfl
        have z2 := X1.out.at_ 2 rfl
        have z3 := X1.out.at_ 3 rfl
        have s0 := X1.out.soft 0
        have s1 := X1.out.soft 1
        have s2 := X1.out.soft 2
        have s3 := X1.out.soft 3
        go_wp2
        exact bodyPost_ret (v := foV ((fourN u, restF u), q, 0)) (by simp [results, Tryz.results39, go_sem, foV, *]) rfl ⟨by rw [HF.out], below4 HB4.out (Nat.le_refl _) _ _ _ _⟩
    · have hk : k < u.size := by omega
      have hk2 : (k : Int) < (u.size : Int) := by omega
      have hk0 : (0 : Int) ≤ (k : Int) := Int.natCast_nonneg _
      have HN := Lib.hid (parN_step u hk4)
      have hb2 := parN_bd u (k + 1)
      have hb3 := bt_bd u k
      have hbt := bt_at hk
      obtain ⟨z, hz⟩ : ∃ z, parN u (k + 1) = z := ⟨_, rfl⟩
      rw [hz] at HN hb2 hn
      have hw1 : IntKind.i64.wrap (z * 256) = z * 256 := IntWalk.i64_in _ (by omega)
      have hx0 : 0 ≤ (u[k].toNat : Int) := by omega
      have hx1 : (u[k].toNat : Int) < 256 := by omega
      have hw2 : IntKind.i64.wrap (z * 256 + (u[k].toNat : Int)) = z * 256 + (u[k].toNat : Int) := IntWalk.i64_in _ (by omega)
      rw [← hbt] at HN
      subst hn
      clear hz hbt hb3
      go_wp2
      go_round
      case rel =>
        cases k with
        | zero => exact .inl ⟨by go_num, by rw [← parN_zero, HN.out]⟩
        | succ k => exact .inr ⟨k, by omega, by go_num, by rw [HN.out]⟩
      case measure => (simp [intOf]) <;> omega
end Go.Proofs.YtdedomfocljhaaaGreatDoor.FrC
