/- EntryRead of the program: a contract. -/
import Derived.Test.YtdimpopkkjpddaaDoorEnI0
namespace Go.Proofs.YtdimpopkkjpddaaDoor.EnC
open Go.RowKit KeptC LabC RepC EnM PutM GetM GetC SealC ValC
set_option linter.unusedVariables false
set_option linter.unusedSimpArgs false
set_option maxRecDepth 100000

theorem nums_at {T : ByteArray} {x0 x1 x2 x3 x4 x5 : Int} {b : Bool} (h : numsV T = .tuple #[.agg #[.int .i64 x0, .int .i64 x1, .int .i64 x2, .int .i64 x3, .int .i64 x4, .int .i64 x5], .bool b]) (hT : T.size ≤ 8000) (w : World) (hD : GetC.Door w) : Calls Tryd.prog 46 #[.string T] w fun e w' => e = .returned (.tuple #[.agg #[.int .i64 x0, .int .i64 x1, .int .i64 x2, .int .i64 x3, .int .i64 x4, .int .i64 x5], .bool b]) ∧ Below w.heap.size w w' := by
  rw [← h]
  exact nums_impl T w hT hD
theorem right_at {x0 x1 x2 x3 x4 x5 : Int} {q : Bool} (h : entB x0 x1 x2 x3 x4 x5 = q) (w : World) : Calls Tryd.prog 47 #[.agg #[.int .i64 x0, .int .i64 x1, .int .i64 x2, .int .i64 x3, .int .i64 x4, .int .i64 x5]] w fun e w' => e = .returned (.bool q) ∧ Below w.heap.size w w' := by
  subst h
  exact entright_impl x0 x1 x2 x3 x4 x5 w
theorem nums_form (T : ByteArray) : ∃ (x0 x1 x2 x3 x4 x5 : Int) (b : Bool), numsV T = .tuple #[.agg #[.int .i64 x0, .int .i64 x1, .int .i64 x2, .int .i64 x3, .int .i64 x4, .int .i64 x5], .bool b] := by
  unfold numsV numsNo
  split
  · split
    · exact ⟨_, _, _, _, _, _, _, rfl⟩
    · exact ⟨_, _, _, _, _, _, _, rfl⟩
  · exact ⟨_, _, _, _, _, _, _, rfl⟩
/-- what the numbers say of the answer -/
theorem nums_say {s T : ByteArray} {x0 x1 x2 x3 x4 x5 : Int} {b q : Bool} (hE : unsealE s = 0) (hB : bodyOf s = T) (h : numsV T = .tuple #[.agg #[.int .i64 x0, .int .i64 x1, .int .i64 x2, .int .i64 x3, .int .i64 x4, .int .i64 x5], .bool b]) (hq : entB x0 x1 x2 x3 x4 x5 = q) :
    readE s = if b = true ∧ q = true then entV x0 x1 x2 x3 x4 x5 0 else entV 0 0 0 0 0 0 3 := by
  cases hr : rdk T 6 0 [] with
  | none =>
    rw [nums_none hr] at h
    unfold numsNo at h
    simp at h
    rw [readE_none hE (by rw [hB]; exact hr), if_neg (by rw [h.2]; simp)]
  | some lp =>
    obtain ⟨l, p⟩ := lp
    have hl := (rdk_back 6 0 [] (by simp [encs]) (by omega) (by simp) _ _ hr).2.2.1
    obtain ⟨y0, y1, y2, y3, y4, y5, rfl⟩ := six (l := l) (by simpa using hl)
    by_cases hp : p = T.size
    · rw [nums_yes hr hp] at h
      simp at h
      obtain ⟨⟨rfl, rfl, rfl, rfl, rfl, rfl⟩, rfl⟩ := h
      cases q with
      | true =>
        rw [if_pos ⟨rfl, rfl⟩]
        exact readE_yes hE (by rw [hB, ← hp]; exact hr) hq
      | false =>
        rw [if_neg (by simp)]
        exact readE_no hE (by rw [hB]; exact hr) (by rw [hq]; simp)
    · rw [nums_not hr hp] at h
      unfold numsNo at h
      simp at h
      rw [readE_no hE (by rw [hB]; exact hr) (by rw [hB]; exact fun h2 => hp h2.1), if_neg (by rw [h.2]; simp)]
theorem out_al2 {w : World} {g : Nat} (h : Blk w g 27 #[.int .i64 0, .int .i64 0, .int .i64 0, .int .i64 0, .int .i64 0, .int .i64 0, .int .i64 0]) (v0 v1 v2 v3 v4 v5 v6 : Value) (o o2 : Obj) : ∃ Wf : World, Wf = (((((((((w.setCell ⟨g, 0, none⟩ v0).setCell ⟨g, 1, none⟩ v1).setCell ⟨g, 2, none⟩ v2).setCell ⟨g, 3, none⟩ v3).setCell ⟨g, 4, none⟩ v4).setCell ⟨g, 5, none⟩ v5).setCell ⟨g, 6, none⟩ v6).alloc o).alloc o2) ∧ Blk Wf g 27 #[v0, v1, v2, v3, v4, v5, v6] ∧ ∀ (w0 : World) (B : Nat), Below B w0 w → B ≤ g → Below B w0 Wf := by
  obtain ⟨Y, hY, hf, hb⟩ := out_al h v0 v1 v2 v3 v4 v5 v6 o
  refine ⟨Y.alloc o2, by rw [hY], hf.alloc _, fun w0 B h1 h2 => (hb w0 B h1 h2).alloc (Nat.le_trans h2 (Nat.le_of_lt hf.lt)) _⟩

set_option maxHeartbeats 1600000 in
theorem entryread_impl (s : ByteArray) (W : World) (hs : s.size ≤ maxLen) (hD : GetC.Door W) :
    Calls Tryd.prog 7 #[.string s] W fun e w' => e = .returned (readE s) ∧ Below W.heap.size W w' := by
  obtain ⟨T, hT⟩ : ∃ T, unsealT s = T := ⟨_, rfl⟩
  obtain ⟨E, hE⟩ : ∃ E, unsealE s = E := ⟨_, rfl⟩
  have HT := Lib.hid hT
  have HE := Lib.hid hE
  have HS := Lib.hid hs
  have HD := Lib.hid hD
  have h0W := hD.lt
  clear hT hE hs hD
  have HA0 := Lib.hid (Blk.new W 27 #[.int .i64 0, .int .i64 0, .int .i64 0, .int .i64 0, .int .i64 0, .int .i64 0, .int .i64 0])
  have HB0 := Lib.hid (show Below W.heap.size W (W.alloc (.cells #[.int .i64 0, .int .i64 0, .int .i64 0, .int .i64 0, .int .i64 0, .int .i64 0, .int .i64 0] 27)) from (Below.refl _ _).alloc (Nat.le_refl _) _)
  go_enter Tryd.func7, Tryd.ntmps7
  go_wp2_with fail
  refine (unseal_iat HT.out HE.out HS.out _).mono ?_
  rintro e w1 ⟨rfl, hb⟩
  have HA1 := Lib.hid (HA0.out.call hb)
  have HB1 := Lib.hid (HB0.out.trans (hb.mono HB0.out.size))
  have hWt : W.heap.size < w1.heap.size := Nat.lt_of_lt_of_le HA0.out.lt hb.size
  have HSZ : W.heap.size ≤ w1.heap.size := Nat.le_of_lt hWt
  clear hb HA0 HB0
  by_cases h0 : E = 0
  · subst h0
    obtain ⟨g1, g2, g3, g4⟩ := unseal_zero HE.out
    have hTB : bodyOf s = T := by rw [← g4]; exact HT.out
    have hTs : T.size ≤ 8000 := by have := body_size s; rw [hTB] at this; omega
    have HTB := Lib.hid hTB
    clear g1 g2 g3 g4 hTB
    obtain ⟨V, hV⟩ : ∃ V, V = w1.alloc (.cells #[.string T, .int .i64 0, .int .i64 0] 66) := ⟨_, rfl⟩
    have hbV : Below w1.heap.size w1 V := by rw [hV]; exact (Below.refl _ _).alloc (Nat.le_refl _) _
    have HA2 := Lib.hid (HA1.out.call hbV)
    have HB2 := Lib.hid (HB1.out.trans (hbV.mono HSZ))
    have HD2 := Lib.hid (HD.out.below HB2.out h0W)
    have hz2 := HB2.out.size
    clear hbV
    obtain ⟨x0, x1, x2, x3, x4, x5, b, hN⟩ := nums_form T
    obtain ⟨q, hq⟩ : ∃ q, entB x0 x1 x2 x3 x4 x5 = q := ⟨_, rfl⟩
    have HR := Lib.hid (nums_say HE.out HTB.out hN hq)
    have HN := Lib.hid hN
    have HQ := Lib.hid hq
    clear hN hq
    go_wp2_with fail
    rw [← hV]
    clear hV
    refine (nums_at HN.out hTs _ HD2.out).mono ?_
    rintro e w2 ⟨rfl, hb⟩
    have HA3 := Lib.hid (HA2.out.call hb)
    have HB3 := Lib.hid (HB2.out.trans (hb.mono hz2))
    have hWt3 : W.heap.size < w2.heap.size := HA3.out.lt
    clear hb
    cases b with
    | false =>
      have HE2 : Hid (readE s = entV 0 0 0 0 0 0 3) := Lib.hid (by rw [HR.out]; simp)
      have pA0 := HA3.out.at_ 0 rfl
      have sA0 := HA3.out.soft 0
      have pA1 := HA3.out.at_ 1 rfl
      have sA1 := HA3.out.soft 1
      have pA2 := HA3.out.at_ 2 rfl
      have sA2 := HA3.out.soft 2
      have pA3 := HA3.out.at_ 3 rfl
      have sA3 := HA3.out.soft 3
      have pA4 := HA3.out.at_ 4 rfl
      have sA4 := HA3.out.soft 4
      have pA5 := HA3.out.at_ 5 rfl
      have sA5 := HA3.out.soft 5
      have pA6 := HA3.out.at_ 6 rfl
      have sA6 := HA3.out.soft 6
      go_wp2
      obtain ⟨Wf, hWf, hf, hbf⟩ := out_al2 HA3.out (.int .i64 0) (.int .i64 0) (.int .i64 0) (.int .i64 0) (.int .i64 0) (.int .i64 0) (.int .i64 3) (.cells #[.int .i64 x0, .int .i64 x1, .int .i64 x2, .int .i64 x3, .int .i64 x4, .int .i64 x5] 72) (.cells #[.int .i64 x0, .int .i64 x1, .int .i64 x2, .int .i64 x3, .int .i64 x4, .int .i64 x5] 25)
      have q0 := hf.at_ 0 rfl
      have q1 := hf.at_ 1 rfl
      have q2 := hf.at_ 2 rfl
      have q3 := hf.at_ 3 rfl
      have q4 := hf.at_ 4 rfl
      have q5 := hf.at_ 5 rfl
      have q6 := hf.at_ 6 rfl
      have hB9 := hbf _ _ HB3.out (Nat.le_refl _)
      rw [← hWf]
      clear hWf hf hbf
      exact bodyPost_ret (v := .agg #[.int .i64 0, .int .i64 0, .int .i64 0, .int .i64 0, .int .i64 0, .int .i64 0, .int .i64 3]) (by simp [results, Tryd.results7, go_sem, q0, q1, q2, q3, q4, q5, q6]) rfl ⟨ret_e (by rw [HE2.out]; rfl), hB9⟩
    | true =>
      obtain ⟨V2, hV2⟩ : ∃ V, V = (w2.alloc (.cells #[.int .i64 x0, .int .i64 x1, .int .i64 x2, .int .i64 x3, .int .i64 x4, .int .i64 x5] 72)).alloc (.cells #[.int .i64 x0, .int .i64 x1, .int .i64 x2, .int .i64 x3, .int .i64 x4, .int .i64 x5] 25) := ⟨_, rfl⟩
      have hbV : Below w2.heap.size w2 V2 := by rw [hV2]; exact ((Below.refl _ _).alloc (Nat.le_refl _) _).alloc (by simp) _
      have HEN : Hid (Blk V2 (w2.heap.size + 1) 25 #[.int .i64 x0, .int .i64 x1, .int .i64 x2, .int .i64 x3, .int .i64 x4, .int .i64 x5]) := Lib.hid (by
        have h := Blk.new (w2.alloc (.cells #[.int .i64 x0, .int .i64 x1, .int .i64 x2, .int .i64 x3, .int .i64 x4, .int .i64 x5] 72)) 25 #[.int .i64 x0, .int .i64 x1, .int .i64 x2, .int .i64 x3, .int .i64 x4, .int .i64 x5]
        rw [World.size_alloc] at h
        rw [hV2]; exact h)
      have HA4 := Lib.hid (HA3.out.call hbV)
      have HB4 := Lib.hid (HB3.out.trans (hbV.mono (Nat.le_of_lt hWt3)))
      have hz4 := HB4.out.size
      clear hbV
      go_wp2_with fail
      rw [← hV2]
      clear hV2
      refine (right_at HQ.out _).mono ?_
      rintro e w3 ⟨rfl, hb⟩
      have HEN3 := Lib.hid (HEN.out.call hb)
      have HA5 := Lib.hid (HA4.out.call hb)
      have HB5 := Lib.hid (HB4.out.trans (hb.mono hz4))
      clear hb
      have pA0 := HA5.out.at_ 0 rfl
      have sA0 := HA5.out.soft 0
      have pA1 := HA5.out.at_ 1 rfl
      have sA1 := HA5.out.soft 1
      have pA2 := HA5.out.at_ 2 rfl
      have sA2 := HA5.out.soft 2
      have pA3 := HA5.out.at_ 3 rfl
      have sA3 := HA5.out.soft 3
      have pA4 := HA5.out.at_ 4 rfl
      have sA4 := HA5.out.soft 4
      have pA5 := HA5.out.at_ 5 rfl
      have sA5 := HA5.out.soft 5
      have pA6 := HA5.out.at_ 6 rfl
      have sA6 := HA5.out.soft 6
      cases q with
      | false =>
        have HE2 : Hid (readE s = entV 0 0 0 0 0 0 3) := Lib.hid (by rw [HR.out]; simp)
        go_wp2
        obtain ⟨Wf, hWf, hf, hbf⟩ := out_none HA5.out (.int .i64 0) (.int .i64 0) (.int .i64 0) (.int .i64 0) (.int .i64 0) (.int .i64 0) (.int .i64 3)
        have q0 := hf.at_ 0 rfl
        have q1 := hf.at_ 1 rfl
        have q2 := hf.at_ 2 rfl
        have q3 := hf.at_ 3 rfl
        have q4 := hf.at_ 4 rfl
        have q5 := hf.at_ 5 rfl
        have q6 := hf.at_ 6 rfl
        have hB9 := hbf _ _ HB5.out (Nat.le_refl _)
        rw [← hWf]
        clear hWf hf hbf
        exact bodyPost_ret (v := .agg #[.int .i64 0, .int .i64 0, .int .i64 0, .int .i64 0, .int .i64 0, .int .i64 0, .int .i64 3]) (by simp [results, Tryd.results7, go_sem, q0, q1, q2, q3, q4, q5, q6]) rfl ⟨ret_e (by rw [HE2.out]; rfl), hB9⟩
      | true =>
        have HE2 : Hid (readE s = entV x0 x1 x2 x3 x4 x5 0) := Lib.hid (by rw [HR.out]; simp)
        have d0 := HEN3.out.at_ 0 rfl
        have d1 := HEN3.out.at_ 1 rfl
        have d2 := HEN3.out.at_ 2 rfl
        have d3 := HEN3.out.at_ 3 rfl
        have d4 := HEN3.out.at_ 4 rfl
        have d5 := HEN3.out.at_ 5 rfl
        go_wp2
        obtain ⟨Wf, hWf, hf, hbf⟩ := out_none HA5.out (.int .i64 x0) (.int .i64 x1) (.int .i64 x2) (.int .i64 x3) (.int .i64 x4) (.int .i64 x5) (.int .i64 0)
        have q0 := hf.at_ 0 rfl
        have q1 := hf.at_ 1 rfl
        have q2 := hf.at_ 2 rfl
        have q3 := hf.at_ 3 rfl
        have q4 := hf.at_ 4 rfl
        have q5 := hf.at_ 5 rfl
        have q6 := hf.at_ 6 rfl
        have hB9 := hbf _ _ HB5.out (Nat.le_refl _)
        rw [← hWf]
        clear hWf hf hbf
        exact bodyPost_ret (v := .agg #[.int .i64 x0, .int .i64 x1, .int .i64 x2, .int .i64 x3, .int .i64 x4, .int .i64 x5, .int .i64 0]) (by simp [results, Tryd.results7, go_sem, q0, q1, q2, q3, q4, q5, q6]) rfl ⟨ret_e (by rw [HE2.out]; rfl), hB9⟩
  · have h0' : (E != 0) = true := by simpa using h0
    have HR := Lib.hid (readE_ill (s := s) (by rw [HE.out]; exact h0))
    clear h0
    have pA0 := HA1.out.at_ 0 rfl
    have sA0 := HA1.out.soft 0
    have pA1 := HA1.out.at_ 1 rfl
    have sA1 := HA1.out.soft 1
    have pA2 := HA1.out.at_ 2 rfl
    have sA2 := HA1.out.soft 2
    have pA3 := HA1.out.at_ 3 rfl
    have sA3 := HA1.out.soft 3
    have pA4 := HA1.out.at_ 4 rfl
    have sA4 := HA1.out.soft 4
    have pA5 := HA1.out.at_ 5 rfl
    have sA5 := HA1.out.soft 5
    have pA6 := HA1.out.at_ 6 rfl
    have sA6 := HA1.out.soft 6
    go_wp2
    obtain ⟨Wf, hWf, hf, hbf⟩ := out_al HA1.out (.int .i64 0) (.int .i64 0) (.int .i64 0) (.int .i64 0) (.int .i64 0) (.int .i64 0) (.int .i64 E) (.cells #[.string T, .int .i64 0, .int .i64 E] 66)
    have q0 := hf.at_ 0 rfl
    have q1 := hf.at_ 1 rfl
    have q2 := hf.at_ 2 rfl
    have q3 := hf.at_ 3 rfl
    have q4 := hf.at_ 4 rfl
    have q5 := hf.at_ 5 rfl
    have q6 := hf.at_ 6 rfl
    have hB9 := hbf _ _ HB1.out (Nat.le_refl _)
    rw [← hWf]
    clear hWf hf hbf
    exact bodyPost_ret (v := .agg #[.int .i64 0, .int .i64 0, .int .i64 0, .int .i64 0, .int .i64 0, .int .i64 0, .int .i64 E]) (by simp [results, Tryd.results7, go_sem, q0, q1, q2, q3, q4, q5, q6]) rfl ⟨ret_e (by rw [HR.out, HE.out]; rfl), hB9⟩
end Go.Proofs.YtdimpopkkjpddaaDoor.EnC
