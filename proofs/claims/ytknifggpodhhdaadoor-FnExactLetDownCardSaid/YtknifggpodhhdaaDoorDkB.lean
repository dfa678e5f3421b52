/- BoxRight of the model: a contract. -/
import Derived.Test.YtknifggpodhhdaaDoorDkT
namespace Go.Proofs.YtknifggpodhhdaaDoor.RepC
open Go.RowKit RowC ValC SpanC KeptC
set_option linter.unusedVariables false
set_option linter.unusedSimpArgs false

theorem now_at (n : Int) {b : Bool} (hb : isB n 0 999900 = b) (w : World) : Calls Tryd.prog 75 #[.int .i64 n] w fun e w' => e = .returned (.bool b) ∧ Below w.heap.size w w' := by
  subst hb
  go_enter Tryd.func75, Tryd.ntmps75
  go_wp2_with (go_at_call 61; refine (is_spec _ _ _ _).mono ?_; rintro e w' ⟨rfl, rfl⟩)
  go_ret
  exact ⟨rfl, Below.refl _ _⟩
theorem resB_at {p : Prop} {b : Bool} (hb : b = true ↔ p) {w : World} {e : Ending} {w' : World} (h : ResB p w e w') : e = .returned (.bool b) ∧ Below w.heap.size w w' := by
  obtain ⟨q, rfl, hq, hbl⟩ := resB_elim h
  exact ⟨by rw [show q = b from Bool.eq_iff_iff.2 (hq.trans hb.symm)], hbl⟩
theorem nameB (p : Prop) : ∃ b : Bool, Hid (b = true ↔ p) := by
  by_cases h : p
  · exact ⟨true, Lib.hid (by simp [h])⟩
  · exact ⟨false, Lib.hid (by simp [h])⟩
set_option maxRecDepth 100000 in
set_option maxHeartbeats 4000000 in
theorem box_spec {P B A : List D_Letter} {pa ba aa : Option Addr} {pc bc ac : Nat} {u n : Int} {W : World} (hP : RdSl R_Letter W W.heap.size P pa pc) (hB : RdSl R_Letter W W.heap.size B ba bc) (hA : RdSl R_Letter W W.heap.size A aa ac) :
    Calls Tryd.prog 38 #[.agg #[.slice pa P.length pc, .slice ba B.length bc, .slice aa A.length ac, .int .i64 u, .int .i64 n]] W (ResB (DeskR P B A u n) W) := by
  have hnP : P.length ≤ 9223372036854775807 := by have h1 := hP.1; have h2 := hP.2.1; unfold maxLen at h2; omega
  have hnB : B.length ≤ 9223372036854775807 := by have h1 := hB.1; have h2 := hB.2.1; unfold maxLen at h2; omega
  have hnA : A.length ≤ 9223372036854775807 := by have h1 := hA.1; have h2 := hA.2.1; unfold maxLen at h2; omega
  have HP0 := Lib.hid hP
  have HB0' := Lib.hid hB
  have HA0' := Lib.hid hA
  obtain ⟨hb0, hp0⟩ := bx1 W #[.slice pa P.length pc, .slice ba B.length bc, .slice aa A.length ac, .int .i64 u, .int .i64 n] 42
  have HB0 := Lib.hid hb0
  have HD0 := Lib.hid hp0
  have HPw := Lib.hid (gmvS hP hb0)
  have HBw := Lib.hid (gmvS hB hb0)
  have HAw := Lib.hid (gmvS hA hb0)
  clear hb0 hp0 hP hB hA
  by_cases h4 : P.length ≤ 4
  rotate_left
  · have hd : decide ((P.length : Int) > 4) = true := decide_eq_true (by omega)
    have HN := Lib.hid (show ¬ DeskR P B A u n from fun h => h4 h.1.1)
    go_enter Tryd.func38, Tryd.ntmps38
    go_wp2
    go_ret
    exact resB_no HN.out HB0.out
  have hd : decide ((P.length : Int) > 4) = false := decide_eq_false (by omega)
  obtain ⟨q1, Q1⟩ := nameB (PairsR P)
  obtain ⟨q2, Q2⟩ : ∃ b, Hid (isB n 0 999900 = b) := ⟨_, Lib.hid rfl⟩
  obtain ⟨q3, Q3⟩ := nameB (LettersR P n B 6)
  obtain ⟨q4, Q4⟩ := nameB (LettersR P n A 20)
  obtain ⟨q5, Q5⟩ : ∃ b, Hid (isB u 0 2 = b) := ⟨_, Lib.hid rfl⟩
  go_enter Tryd.func38, Tryd.ntmps38
  obtain ⟨W1, hW1⟩ : ∃ w, w = W.alloc (.cells #[.slice pa P.length pc, .slice ba B.length bc, .slice aa A.length ac, .int .i64 u, .int .i64 n] 42) := ⟨_, rfl⟩
  rw [← hW1] at HB0 HD0 HPw HBw HAw
  have hz0 := HB0.out.size
  go_wp2_with fail
  rw [← hW1]
  clear hW1
  refine ((pairs_spec HPw.out).mono (fun _ _ => resB_at Q1.out)).mono ?_
  rintro e w1 ⟨rfl, hb⟩
  have HB1 := Lib.hid (HB0.out.trans (hb.mono hz0))
  have hz1 := HB1.out.size
  have HD1 := Lib.hid (HD0.out.call hb)
  replace HPw := Lib.hid (gmvS HPw.out hb)
  replace HBw := Lib.hid (gmvS HBw.out hb)
  replace HAw := Lib.hid (gmvS HAw.out hb)
  have d1_0 := HD1.out.at_ 0 rfl
  have d1_1 := HD1.out.at_ 1 rfl
  have d1_2 := HD1.out.at_ 2 rfl
  have d1_3 := HD1.out.at_ 3 rfl
  have d1_4 := HD1.out.at_ 4 rfl
  clear hb
  cases q1 with
  | false =>
    have HN := Lib.hid (show ¬ DeskR P B A u n from fun h => by have := Q1.out.2 h.1; cases this)
    go_wp2
    go_ret
    exact resB_no HN.out HB1.out
  | true =>
    go_wp2_with fail
    refine (now_at n Q2.out _).mono ?_
    rintro e w2 ⟨rfl, hb⟩
    have HB2 := Lib.hid (HB1.out.trans (hb.mono hz1))
    have hz2 := HB2.out.size
    have HD2 := Lib.hid (HD1.out.call hb)
    replace HPw := Lib.hid (gmvS HPw.out hb)
    replace HBw := Lib.hid (gmvS HBw.out hb)
    replace HAw := Lib.hid (gmvS HAw.out hb)
    have d2_0 := HD2.out.at_ 0 rfl
    have d2_1 := HD2.out.at_ 1 rfl
    have d2_2 := HD2.out.at_ 2 rfl
    have d2_3 := HD2.out.at_ 3 rfl
    have d2_4 := HD2.out.at_ 4 rfl
    clear hb
    cases q2 with
    | false =>
      have HN := Lib.hid (show ¬ DeskR P B A u n from fun h => by have h2 := h.2.1; rw [Q2.out] at h2; cases h2)
      go_wp2
      go_ret
      exact resB_no HN.out HB2.out
    | true =>
      go_wp2_with fail
      refine ((letters_spec HPw.out HBw.out).mono (fun _ _ => resB_at Q3.out)).mono ?_
      rintro e w3 ⟨rfl, hb⟩
      have HB3 := Lib.hid (HB2.out.trans (hb.mono hz2))
      have hz3 := HB3.out.size
      have HD3 := Lib.hid (HD2.out.call hb)
      replace HPw := Lib.hid (gmvS HPw.out hb)
      replace HBw := Lib.hid (gmvS HBw.out hb)
      replace HAw := Lib.hid (gmvS HAw.out hb)
      have d3_0 := HD3.out.at_ 0 rfl
      have d3_1 := HD3.out.at_ 1 rfl
      have d3_2 := HD3.out.at_ 2 rfl
      have d3_3 := HD3.out.at_ 3 rfl
      have d3_4 := HD3.out.at_ 4 rfl
      clear hb
      cases q3 with
      | false =>
        have HN := Lib.hid (show ¬ DeskR P B A u n from fun h => by have := Q3.out.2 h.2.2.1; cases this)
        go_wp2
        go_ret
        exact resB_no HN.out HB3.out
      | true =>
        go_wp2_with fail
        refine ((letters_spec HPw.out HAw.out).mono (fun _ _ => resB_at Q4.out)).mono ?_
        rintro e w4 ⟨rfl, hb⟩
        have HB4 := Lib.hid (HB3.out.trans (hb.mono hz3))
        have hz4 := HB4.out.size
        have HD4 := Lib.hid (HD3.out.call hb)
        replace HPw := Lib.hid (gmvS HPw.out hb)
        replace HBw := Lib.hid (gmvS HBw.out hb)
        replace HAw := Lib.hid (gmvS HAw.out hb)
        have d4_0 := HD4.out.at_ 0 rfl
        have d4_1 := HD4.out.at_ 1 rfl
        have d4_2 := HD4.out.at_ 2 rfl
        have d4_3 := HD4.out.at_ 3 rfl
        have d4_4 := HD4.out.at_ 4 rfl
        clear hb
        cases q4 with
        | false =>
          have HN := Lib.hid (show ¬ DeskR P B A u n from fun h => by have := Q4.out.2 h.2.2.2.1; cases this)
          go_wp2
          go_ret
          exact resB_no HN.out HB4.out
        | true =>
          go_wp2_with fail
          refine (is_at u 0 2 Q5.out _).mono ?_
          rintro e w5 ⟨rfl, hb⟩
          have HB5 := Lib.hid (HB4.out.trans (hb.mono hz4))
          have hz5 := HB5.out.size
          have HD5 := Lib.hid (HD4.out.call hb)
          replace HPw := Lib.hid (gmvS HPw.out hb)
          replace HBw := Lib.hid (gmvS HBw.out hb)
          replace HAw := Lib.hid (gmvS HAw.out hb)
          have d5_0 := HD5.out.at_ 0 rfl
          have d5_1 := HD5.out.at_ 1 rfl
          have d5_2 := HD5.out.at_ 2 rfl
          have d5_3 := HD5.out.at_ 3 rfl
          have d5_4 := HD5.out.at_ 4 rfl
          clear hb
          cases q5 with
          | false =>
            have HN := Lib.hid (show ¬ DeskR P B A u n from fun h => by have h2 := h.2.2.2.2.1; rw [Q5.out] at h2; cases h2)
            go_wp2
            go_ret
            exact resB_no HN.out HB5.out
          | true =>
            go_wp2
            go_loopw [3, 4] (fun c i wr => ∃ k : Nat, k ≤ A.length ∧ i = .int .i64 k ∧ c = .int .i64 (cntAt n (A.take k) : Nat) ∧ Below W.heap.size W wr ∧ Hid (Blk wr (W.heap.size) 42 #[.slice pa P.length pc, .slice ba B.length bc, .slice aa A.length ac, .int .i64 u, .int .i64 n])) (fun _ i _ => A.length - (intOf i).toNat)
            case atStart => exact ⟨0, Nat.zero_le _, rfl, rfl, HB5.out, HD5⟩
            case round =>
              obtain ⟨k, hk, rfl, rfl, hB, HD⟩ := hrel
              have HB := Lib.hid hB
              have hsz := hB.size
              have r0 := HD.out.at_ 0 rfl
              have r1 := HD.out.at_ 1 rfl
              have r2 := HD.out.at_ 2 rfl
              have r3 := HD.out.at_ 3 rfl
              have r4 := HD.out.at_ 4 rfl
              by_cases hlt : k < A.length
              · obtain ⟨⟨⟨x0, x1⟩, ⟨x2, x3⟩, x4, x5⟩, hx⟩ := el_some hlt
                have Hhx := Lib.hid hx
                obtain ⟨g, o, us, rfl, hgg, hu, hr⟩ := (HA0'.out.below R_Letter_ok hB).at_ hx
                obtain rfl := rd_Letter hr
                have e0 : wr.cell? ⟨g, o + k * 6, none⟩ = some (.int .i64 x0) := by simpa [size_LetterS, Nat.add_assoc] using hu 0 _ rfl
                have e1 : wr.cell? ⟨g, o + k * 6 + 1, none⟩ = some (.int .i64 x1) := by simpa [size_LetterS, Nat.add_assoc] using hu 1 _ rfl
                have e2 : wr.cell? ⟨g, o + k * 6 + 2, none⟩ = some (.int .i64 x2) := by simpa [size_LetterS, Nat.add_assoc] using hu 2 _ rfl
                have e3 : wr.cell? ⟨g, o + k * 6 + 3, none⟩ = some (.int .i64 x3) := by simpa [size_LetterS, Nat.add_assoc] using hu 3 _ rfl
                have e4 : wr.cell? ⟨g, o + k * 6 + 4, none⟩ = some (.int .i64 x4) := by simpa [size_LetterS, Nat.add_assoc] using hu 4 _ rfl
                have e5 : wr.cell? ⟨g, o + k * 6 + 5, none⟩ = some (.int .i64 x5) := by simpa [size_LetterS, Nat.add_assoc] using hu 5 _ rfl
                have hgl : g < wr.heap.size := Nat.lt_of_lt_of_le hgg hsz
                have hi0 : (0 : Int) ≤ (k : Int) := Int.natCast_nonneg _
                have hi1 : (k : Int) < (A.length : Int) := by omega
                have hcl := cntAt_le n (A.take k)
                have hcl2 : (A.take k).length ≤ k := by rw [List.length_take]; omega
                have HCT := Lib.hid (cntAt_take (n := n) Hhx.out)
                clear hB hx hu hr
                obtain ⟨m, hm⟩ : ∃ m : Nat, cntAt n (A.take k) = m := ⟨_, rfl⟩
                rw [hm] at hcl HCT ⊢
                clear hm
                by_cases hn4 : x4 = n
                · have hbe : (x4 == n) = true := beq_iff_eq.2 hn4
                  have HC := Lib.hid (show cntAt n (A.take (k + 1)) = m + 1 from by rw [HCT.out]; simp [hn4])
                  go_wp2_with fail
                  refine wp_region_held_drew (S := (fun V => Below (wr).heap.size (wr) V)) (by kernel_rfl) ((Below.refl _ _).drew) (fun hHeld => ?_)
                  (refine wpAnyH_take (i := 0) (v := ?hv73) rfl (by kernel_rfl) (by kernel_rfl) (by kernel_rfl) (fun _ _ _ h => h) (Or.inl ⟨by kernel_rfl, ?hy73⟩) hHeld ?hr73; case hy73 => (intro w hSw; (try dsimp only at hSw); go_simp; try with_reducible rfl))
                  simp only [Act.put, List.getElem_toArray, List.getElem_cons_succ, List.getElem_cons_zero, List.setIfInBounds_toArray, List.set_cons_zero, List.set_cons_succ]
                  (refine wpAnyH_take (i := 1) (v := ?hv74) rfl (by kernel_rfl) (by kernel_rfl) (by kernel_rfl) (fun _ _ _ h => h) (Or.inl ⟨by kernel_rfl, ?hy74⟩) hHeld ?hr74; case hy74 => (intro w hSw; (try dsimp only at hSw); have k0 := (hSw.cell (p := ⟨W.heap.size, 2, none⟩) HD.out.lt).trans (HD.out.at_ 2 rfl); clear hSw; go_simp; try with_reducible rfl))
                  simp only [Act.put, List.getElem_toArray, List.getElem_cons_succ, List.getElem_cons_zero, List.setIfInBounds_toArray, List.set_cons_zero, List.set_cons_succ]
                  (refine wpAnyH_take (i := 2) (v := ?hv75) rfl (by kernel_rfl) (by kernel_rfl) (by kernel_rfl) (fun _ _ _ h => h) (Or.inl ⟨by kernel_rfl, ?hy75⟩) hHeld ?hr75; case hy75 => (intro w hSw; (try dsimp only at hSw); go_simp; try with_reducible rfl))
                  simp only [Act.put, List.getElem_toArray, List.getElem_cons_succ, List.getElem_cons_zero, List.setIfInBounds_toArray, List.set_cons_zero, List.set_cons_succ]
                  (refine wpAnyH_take (i := 3) (v := ?hv76) rfl (by kernel_rfl) (by kernel_rfl) (by kernel_rfl) (fun _ _ _ h => h) (Or.inl ⟨by kernel_rfl, ?hy76⟩) hHeld ?hr76; case hy76 => (intro w hSw; (try dsimp only at hSw); go_simp; try with_reducible rfl))
                  simp only [Act.put, List.getElem_toArray, List.getElem_cons_succ, List.getElem_cons_zero, List.setIfInBounds_toArray, List.set_cons_zero, List.set_cons_succ]
                  (refine wpAnyH_take (i := 4) (v := ?hv77) rfl (by kernel_rfl) (by kernel_rfl) (by kernel_rfl) (fun _ _ _ h => h) (Or.inl ⟨by kernel_rfl, ?hy77⟩) hHeld ?hr77; case hy77 => (intro w hSw; (try dsimp only at hSw); go_simp; try with_reducible rfl))
                  simp only [Act.put, List.getElem_toArray, List.getElem_cons_succ, List.getElem_cons_zero, List.setIfInBounds_toArray, List.set_cons_zero, List.set_cons_succ]
                  (refine wpAnyH_take (i := 5) (v := ?hv78) rfl (by kernel_rfl) (by kernel_rfl) (by kernel_rfl) (fun _ _ _ h => h) (Or.inl ⟨by kernel_rfl, ?hy78⟩) hHeld ?hr78; case hy78 => (intro w hSw; (try dsimp only at hSw); have k0 := (hSw.cell (p := ⟨g, o + k * 6 + 4, none⟩) hgl).trans e4; clear hSw; go_simp; try with_reducible rfl))
                  simp only [Act.put, List.getElem_toArray, List.getElem_cons_succ, List.getElem_cons_zero, List.setIfInBounds_toArray, List.set_cons_zero, List.set_cons_succ]
                  (refine wpAnyH_take (i := 6) (v := ?hv79) rfl (by kernel_rfl) (by kernel_rfl) (by kernel_rfl) (fun _ _ _ h => h) (Or.inl ⟨by kernel_rfl, ?hy79⟩) hHeld ?hr79; case hy79 => (intro w hSw; (try dsimp only at hSw); go_simp; try with_reducible rfl))
                  simp only [Act.put, List.getElem_toArray, List.getElem_cons_succ, List.getElem_cons_zero, List.setIfInBounds_toArray, List.set_cons_zero, List.set_cons_succ]
                  (refine wpAnyH_take (i := 7) (v := ?hv80) rfl (by kernel_rfl) (by kernel_rfl) (by kernel_rfl) (fun _ _ _ h => h) (Or.inl ⟨by kernel_rfl, ?hy80⟩) hHeld ?hr80; case hy80 => (intro w hSw; (try dsimp only at hSw); have k0 := (hSw.cell (p := ⟨W.heap.size, 4, none⟩) HD.out.lt).trans (HD.out.at_ 4 rfl); clear hSw; go_simp; try with_reducible rfl))
                  simp only [Act.put, List.getElem_toArray, List.getElem_cons_succ, List.getElem_cons_zero, List.setIfInBounds_toArray, List.set_cons_zero, List.set_cons_succ]
                  (refine wpAnyH_take (i := 8) (v := ?hv81) rfl (by kernel_rfl) (by kernel_rfl) (by kernel_rfl) (fun _ _ _ h => h) (Or.inl ⟨by kernel_rfl, ?hy81⟩) hHeld ?hr81; case hy81 => (intro w hSw; (try dsimp only at hSw); go_simp; try with_reducible rfl))
                  simp only [Act.put, List.getElem_toArray, List.getElem_cons_succ, List.getElem_cons_zero, List.setIfInBounds_toArray, List.set_cons_zero, List.set_cons_succ]
                  refine wpAnyH_done (by kernel_rfl) ?_ _
                  have HF := Lib.hid hHeld
                  clear hHeld
                  have HB3 := Lib.hid (HB.out.trans (HF.out.mono hsz))
                  have HD3 := Lib.hid (HD.out.call HF.out)
                  clear HF
                  go_wp2
                  go_roundw
                  case rel => exact ⟨k + 1, by omega, by go_num, by rw [HC.out]; go_num, HB3.out, HD3⟩
                  case measure => simp [intOf]; omega
                · have hbe : (x4 == n) = false := by simpa using hn4
                  have HC := Lib.hid (show cntAt n (A.take (k + 1)) = m from by rw [HCT.out]; simp [hn4])
                  go_wp2_with fail
                  refine wp_region_held_drew (S := (fun V => Below (wr).heap.size (wr) V)) (by kernel_rfl) ((Below.refl _ _).drew) (fun hHeld => ?_)
                  (refine wpAnyH_take (i := 0) (v := ?hv82) rfl (by kernel_rfl) (by kernel_rfl) (by kernel_rfl) (fun _ _ _ h => h) (Or.inl ⟨by kernel_rfl, ?hy82⟩) hHeld ?hr82; case hy82 => (intro w hSw; (try dsimp only at hSw); go_simp; try with_reducible rfl))
                  simp only [Act.put, List.getElem_toArray, List.getElem_cons_succ, List.getElem_cons_zero, List.setIfInBounds_toArray, List.set_cons_zero, List.set_cons_succ]
                  (refine wpAnyH_take (i := 1) (v := ?hv83) rfl (by kernel_rfl) (by kernel_rfl) (by kernel_rfl) (fun _ _ _ h => h) (Or.inl ⟨by kernel_rfl, ?hy83⟩) hHeld ?hr83; case hy83 => (intro w hSw; (try dsimp only at hSw); have k0 := (hSw.cell (p := ⟨W.heap.size, 2, none⟩) HD.out.lt).trans (HD.out.at_ 2 rfl); clear hSw; go_simp; try with_reducible rfl))
                  simp only [Act.put, List.getElem_toArray, List.getElem_cons_succ, List.getElem_cons_zero, List.setIfInBounds_toArray, List.set_cons_zero, List.set_cons_succ]
                  (refine wpAnyH_take (i := 2) (v := ?hv84) rfl (by kernel_rfl) (by kernel_rfl) (by kernel_rfl) (fun _ _ _ h => h) (Or.inl ⟨by kernel_rfl, ?hy84⟩) hHeld ?hr84; case hy84 => (intro w hSw; (try dsimp only at hSw); go_simp; try with_reducible rfl))
                  simp only [Act.put, List.getElem_toArray, List.getElem_cons_succ, List.getElem_cons_zero, List.setIfInBounds_toArray, List.set_cons_zero, List.set_cons_succ]
                  (refine wpAnyH_take (i := 3) (v := ?hv85) rfl (by kernel_rfl) (by kernel_rfl) (by kernel_rfl) (fun _ _ _ h => h) (Or.inl ⟨by kernel_rfl, ?hy85⟩) hHeld ?hr85; case hy85 => (intro w hSw; (try dsimp only at hSw); go_simp; try with_reducible rfl))
                  simp only [Act.put, List.getElem_toArray, List.getElem_cons_succ, List.getElem_cons_zero, List.setIfInBounds_toArray, List.set_cons_zero, List.set_cons_succ]
                  (refine wpAnyH_take (i := 4) (v := ?hv86) rfl (by kernel_rfl) (by kernel_rfl) (by kernel_rfl) (fun _ _ _ h => h) (Or.inl ⟨by kernel_rfl, ?hy86⟩) hHeld ?hr86; case hy86 => (intro w hSw; (try dsimp only at hSw); go_simp; try with_reducible rfl))
                  simp only [Act.put, List.getElem_toArray, List.getElem_cons_succ, List.getElem_cons_zero, List.setIfInBounds_toArray, List.set_cons_zero, List.set_cons_succ]
                  (refine wpAnyH_take (i := 5) (v := ?hv87) rfl (by kernel_rfl) (by kernel_rfl) (by kernel_rfl) (fun _ _ _ h => h) (Or.inl ⟨by kernel_rfl, ?hy87⟩) hHeld ?hr87; case hy87 => (intro w hSw; (try dsimp only at hSw); have k0 := (hSw.cell (p := ⟨g, o + k * 6 + 4, none⟩) hgl).trans e4; clear hSw; go_simp; try with_reducible rfl))
                  simp only [Act.put, List.getElem_toArray, List.getElem_cons_succ, List.getElem_cons_zero, List.setIfInBounds_toArray, List.set_cons_zero, List.set_cons_succ]
                  (refine wpAnyH_take (i := 6) (v := ?hv88) rfl (by kernel_rfl) (by kernel_rfl) (by kernel_rfl) (fun _ _ _ h => h) (Or.inl ⟨by kernel_rfl, ?hy88⟩) hHeld ?hr88; case hy88 => (intro w hSw; (try dsimp only at hSw); go_simp; try with_reducible rfl))
                  simp only [Act.put, List.getElem_toArray, List.getElem_cons_succ, List.getElem_cons_zero, List.setIfInBounds_toArray, List.set_cons_zero, List.set_cons_succ]
                  (refine wpAnyH_take (i := 7) (v := ?hv89) rfl (by kernel_rfl) (by kernel_rfl) (by kernel_rfl) (fun _ _ _ h => h) (Or.inl ⟨by kernel_rfl, ?hy89⟩) hHeld ?hr89; case hy89 => (intro w hSw; (try dsimp only at hSw); have k0 := (hSw.cell (p := ⟨W.heap.size, 4, none⟩) HD.out.lt).trans (HD.out.at_ 4 rfl); clear hSw; go_simp; try with_reducible rfl))
                  simp only [Act.put, List.getElem_toArray, List.getElem_cons_succ, List.getElem_cons_zero, List.setIfInBounds_toArray, List.set_cons_zero, List.set_cons_succ]
                  (refine wpAnyH_take (i := 8) (v := ?hv90) rfl (by kernel_rfl) (by kernel_rfl) (by kernel_rfl) (fun _ _ _ h => h) (Or.inl ⟨by kernel_rfl, ?hy90⟩) hHeld ?hr90; case hy90 => (intro w hSw; (try dsimp only at hSw); go_simp; try with_reducible rfl))
                  simp only [Act.put, List.getElem_toArray, List.getElem_cons_succ, List.getElem_cons_zero, List.setIfInBounds_toArray, List.set_cons_zero, List.set_cons_succ]
                  refine wpAnyH_done (by kernel_rfl) ?_ _
                  have HF := Lib.hid hHeld
                  clear hHeld
                  have HB3 := Lib.hid (HB.out.trans (HF.out.mono hsz))
                  have HD3 := Lib.hid (HD.out.call HF.out)
                  clear HF
                  go_wp2
                  go_roundw
                  case rel => exact ⟨k + 1, by omega, by go_num, by rw [HC.out], HB3.out, HD3⟩
                  case measure => simp [intOf]; omega
              · obtain rfl : k = A.length := by omega
                have hd : decide ((A.length : Int) < (A.length : Int)) = false := decide_eq_false (by omega)
                have HCF := Lib.hid (show cntAt n (A.take A.length) = cntAt n A from by rw [List.take_length])
                obtain ⟨m, hm⟩ : ∃ m : Nat, cntAt n (A.take A.length) = m := ⟨_, rfl⟩
                have HM := Lib.hid (hm.symm.trans HCF.out)
                rw [hm]
                clear hB hm HCF
                go_wp2
                go_loopw [5] (fun i wr => ∃ k : Nat, k ≤ B.length ∧ i = .int .i64 k ∧ Hid (∀ (j : Nat) (x : D_Letter), j < k → B[j]? = some x → x ∈ A) ∧ Below W.heap.size W wr ∧ Hid (Blk wr (W.heap.size) 42 #[.slice pa P.length pc, .slice ba B.length bc, .slice aa A.length ac, .int .i64 u, .int .i64 n])) (fun i _ => B.length - (intOf i).toNat)
                case atStart => exact ⟨0, Nat.zero_le _, rfl, Lib.hid fun j x h => absurd h (Nat.not_lt_zero _), HB.out, HD⟩
                case round =>
                  obtain ⟨k, hk, rfl, HIN, hB, HD⟩ := hrel
                  have HB := Lib.hid hB
                  have hsz := hB.size
                  have r0 := HD.out.at_ 0 rfl
                  have r1 := HD.out.at_ 1 rfl
                  have r2 := HD.out.at_ 2 rfl
                  have r3 := HD.out.at_ 3 rfl
                  have r4 := HD.out.at_ 4 rfl
                  by_cases hlt : k < B.length
                  · obtain ⟨⟨⟨x0, x1⟩, ⟨x2, x3⟩, x4, x5⟩, hx⟩ := el_some hlt
                    have Hhx := Lib.hid hx
                    obtain ⟨g, o, us, rfl, hgg, hu, hr⟩ := (HB0'.out.below R_Letter_ok hB).at_ hx
                    obtain rfl := rd_Letter hr
                    have e0 : wr.cell? ⟨g, o + k * 6, none⟩ = some (.int .i64 x0) := by simpa [size_LetterS, Nat.add_assoc] using hu 0 _ rfl
                    have e1 : wr.cell? ⟨g, o + k * 6 + 1, none⟩ = some (.int .i64 x1) := by simpa [size_LetterS, Nat.add_assoc] using hu 1 _ rfl
                    have e2 : wr.cell? ⟨g, o + k * 6 + 2, none⟩ = some (.int .i64 x2) := by simpa [size_LetterS, Nat.add_assoc] using hu 2 _ rfl
                    have e3 : wr.cell? ⟨g, o + k * 6 + 3, none⟩ = some (.int .i64 x3) := by simpa [size_LetterS, Nat.add_assoc] using hu 3 _ rfl
                    have e4 : wr.cell? ⟨g, o + k * 6 + 4, none⟩ = some (.int .i64 x4) := by simpa [size_LetterS, Nat.add_assoc] using hu 4 _ rfl
                    have e5 : wr.cell? ⟨g, o + k * 6 + 5, none⟩ = some (.int .i64 x5) := by simpa [size_LetterS, Nat.add_assoc] using hu 5 _ rfl
                    have hgl : g < wr.heap.size := Nat.lt_of_lt_of_le hgg hsz
                    have hi0 : (0 : Int) ≤ (k : Int) := Int.natCast_nonneg _
                    have hi1 : (k : Int) < (B.length : Int) := by omega
                    clear hB hx hu hr
                    obtain ⟨wq, hwq⟩ : ∃ x, x = wr := ⟨_, rfl⟩
                    rw [← hwq]
                    rw [← hwq] at e0 e1 e2 e3 e4 e5 HB hsz HD r0 r1 r2 r3 r4 hgl
                    clear hwq
                    go_wp2
                    go_loopw [6, 7] (fun f i wr => ∃ m : Nat, ∃ b : Bool, m ≤ A.length ∧ i = .int .i64 m ∧ f = .bool b ∧ Hid (b = true ↔ ((x0, x1), (x2, x3), x4, x5) ∈ A.take m) ∧ Below wq.heap.size wq wr) (fun _ i _ => A.length - (intOf i).toNat)
                    case atStart => exact ⟨0, false, Nat.zero_le _, rfl, rfl, Lib.hid (by simp), Below.refl _ _⟩
                    case round =>
                      obtain ⟨m, b, hm, rfl, rfl, HIM, hB⟩ := hrel
                      have HBm := Lib.hid hB
                      have hszm := hB.size
                      have HDm := Lib.hid (HD.out.call hB)
                      have s0 := HDm.out.at_ 0 rfl
                      have s1 := HDm.out.at_ 1 rfl
                      have s2 := HDm.out.at_ 2 rfl
                      by_cases hmt : m < A.length
                      · have hj0 : (0 : Int) ≤ (m : Int) := Int.natCast_nonneg _
                        have hj1 : (m : Int) < (A.length : Int) := by omega
                        cases b with
                        | true =>
                          have HC := Lib.hid (show true = true ↔ ((x0, x1), (x2, x3), x4, x5) ∈ A.take (m + 1) from by
                            rw [List.take_add_one]
                            simp [HIM.out.1 rfl])
                          clear hB
                          go_wp2_with fail
                          refine wp_region_held_drew (S := (fun V => Below (wr).heap.size (wr) V)) (by kernel_rfl) ((Below.refl _ _).drew) (fun hHeld => ?_)
                          (refine wpAnyH_take (i := 0) (v := ?hv91) rfl (by kernel_rfl) (by kernel_rfl) (by kernel_rfl) (fun _ _ _ h => h) (Or.inl ⟨by kernel_rfl, ?hy91⟩) hHeld ?hr91; case hy91 => (intro w hSw; (try dsimp only at hSw); go_simp; try with_reducible rfl))
                          simp only [Act.put, List.getElem_toArray, List.getElem_cons_succ, List.getElem_cons_zero, List.setIfInBounds_toArray, List.set_cons_zero, List.set_cons_succ]
                          (refine wpAnyH_take (i := 1) (v := ?hv92) rfl (by kernel_rfl) (by kernel_rfl) (by kernel_rfl) (fun _ _ _ h => h) (Or.inl ⟨by kernel_rfl, ?hy92⟩) hHeld ?hr92; case hy92 => (intro w hSw; (try dsimp only at hSw); go_simp; try with_reducible rfl))
                          simp only [Act.put, List.getElem_toArray, List.getElem_cons_succ, List.getElem_cons_zero, List.setIfInBounds_toArray, List.set_cons_zero, List.set_cons_succ]
                          (refine wpAnyH_take (i := 2) (v := undef) rfl (by kernel_rfl) (by kernel_rfl) (by kernel_rfl) (fun _ _ _ h => h) (Or.inr ⟨by kernel_rfl, rfl⟩) hHeld ?_)
                          simp only [Act.put, List.getElem_toArray, List.getElem_cons_succ, List.getElem_cons_zero, List.setIfInBounds_toArray, List.set_cons_zero, List.set_cons_succ]
                          (refine wpAnyH_take (i := 3) (v := undef) rfl (by kernel_rfl) (by kernel_rfl) (by kernel_rfl) (fun _ _ _ h => h) (Or.inr ⟨by kernel_rfl, rfl⟩) hHeld ?_)
                          simp only [Act.put, List.getElem_toArray, List.getElem_cons_succ, List.getElem_cons_zero, List.setIfInBounds_toArray, List.set_cons_zero, List.set_cons_succ]
                          (refine wpAnyH_take (i := 4) (v := undef) rfl (by kernel_rfl) (by kernel_rfl) (by kernel_rfl) (fun _ _ _ h => h) (Or.inr ⟨by kernel_rfl, rfl⟩) hHeld ?_)
                          simp only [Act.put, List.getElem_toArray, List.getElem_cons_succ, List.getElem_cons_zero, List.setIfInBounds_toArray, List.set_cons_zero, List.set_cons_succ]
                          (refine wpAnyH_take (i := 5) (v := undef) rfl (by kernel_rfl) (by kernel_rfl) (by kernel_rfl) (fun _ _ _ h => h) (Or.inr ⟨by kernel_rfl, rfl⟩) hHeld ?_)
                          simp only [Act.put, List.getElem_toArray, List.getElem_cons_succ, List.getElem_cons_zero, List.setIfInBounds_toArray, List.set_cons_zero, List.set_cons_succ]
                          (refine wpAnyH_take (i := 6) (v := undef) rfl (by kernel_rfl) (by kernel_rfl) (by kernel_rfl) (fun _ _ _ h => h) (Or.inr ⟨by kernel_rfl, rfl⟩) hHeld ?_)
                          simp only [Act.put, List.getElem_toArray, List.getElem_cons_succ, List.getElem_cons_zero, List.setIfInBounds_toArray, List.set_cons_zero, List.set_cons_succ]
                          (refine wpAnyH_take (i := 7) (v := undef) rfl (by kernel_rfl) (by kernel_rfl) (by kernel_rfl) (fun _ _ _ h => h) (Or.inr ⟨by kernel_rfl, rfl⟩) hHeld ?_)
                          simp only [Act.put, List.getElem_toArray, List.getElem_cons_succ, List.getElem_cons_zero, List.setIfInBounds_toArray, List.set_cons_zero, List.set_cons_succ]
                          (refine wpAnyH_take (i := 8) (v := undef) rfl (by kernel_rfl) (by kernel_rfl) (by kernel_rfl) (fun _ _ _ h => h) (Or.inr ⟨by kernel_rfl, rfl⟩) hHeld ?_)
                          simp only [Act.put, List.getElem_toArray, List.getElem_cons_succ, List.getElem_cons_zero, List.setIfInBounds_toArray, List.set_cons_zero, List.set_cons_succ]
                          (refine wpAnyH_take (i := 9) (v := undef) rfl (by kernel_rfl) (by kernel_rfl) (by kernel_rfl) (fun _ _ _ h => h) (Or.inr ⟨by kernel_rfl, rfl⟩) hHeld ?_)
                          simp only [Act.put, List.getElem_toArray, List.getElem_cons_succ, List.getElem_cons_zero, List.setIfInBounds_toArray, List.set_cons_zero, List.set_cons_succ]
                          (refine wpAnyH_take (i := 10) (v := undef) rfl (by kernel_rfl) (by kernel_rfl) (by kernel_rfl) (fun _ _ _ h => h) (Or.inr ⟨by kernel_rfl, rfl⟩) hHeld ?_)
                          simp only [Act.put, List.getElem_toArray, List.getElem_cons_succ, List.getElem_cons_zero, List.setIfInBounds_toArray, List.set_cons_zero, List.set_cons_succ]
                          (refine wpAnyH_take (i := 11) (v := undef) rfl (by kernel_rfl) (by kernel_rfl) (by kernel_rfl) (fun _ _ _ h => h) (Or.inr ⟨by kernel_rfl, rfl⟩) hHeld ?_)
                          simp only [Act.put, List.getElem_toArray, List.getElem_cons_succ, List.getElem_cons_zero, List.setIfInBounds_toArray, List.set_cons_zero, List.set_cons_succ]
                          (refine wpAnyH_take (i := 12) (v := undef) rfl (by kernel_rfl) (by kernel_rfl) (by kernel_rfl) (fun _ _ _ h => h) (Or.inr ⟨by kernel_rfl, rfl⟩) hHeld ?_)
                          simp only [Act.put, List.getElem_toArray, List.getElem_cons_succ, List.getElem_cons_zero, List.setIfInBounds_toArray, List.set_cons_zero, List.set_cons_succ]
                          (refine wpAnyH_take (i := 13) (v := ?hv104) rfl (by kernel_rfl) (by kernel_rfl) (by kernel_rfl) (fun _ _ _ h => h) (Or.inl ⟨by kernel_rfl, ?hy104⟩) hHeld ?hr104; case hy104 => (intro w hSw; (try dsimp only at hSw); go_simp; try with_reducible rfl))
                          simp only [Act.put, List.getElem_toArray, List.getElem_cons_succ, List.getElem_cons_zero, List.setIfInBounds_toArray, List.set_cons_zero, List.set_cons_succ]
                          (refine wpAnyH_take (i := 14) (v := ?hv105) rfl (by kernel_rfl) (by kernel_rfl) (by kernel_rfl) (fun _ _ _ h => h) (Or.inl ⟨by kernel_rfl, ?hy105⟩) hHeld ?hr105; case hy105 => (intro w hSw; (try dsimp only at hSw); go_simp; try with_reducible rfl))
                          simp only [Act.put, List.getElem_toArray, List.getElem_cons_succ, List.getElem_cons_zero, List.setIfInBounds_toArray, List.set_cons_zero, List.set_cons_succ]
                          refine wpAnyH_done (by kernel_rfl) ?_ _
                          have HF := Lib.hid hHeld
                          clear hHeld
                          have HB4 := Lib.hid (HBm.out.trans (HF.out.mono hszm))
                          clear HF
                          go_wp2
                          go_roundw
                          case rel => exact ⟨m + 1, true, by omega, by go_num, rfl, Lib.hid (by simpa using HC.out), HB4.out⟩
                          case measure => simp [intOf]; omega
                        | false =>
                          obtain ⟨⟨⟨y0, y1⟩, ⟨y2, y3⟩, y4, y5⟩, hy⟩ := el_some hmt
                          have Hhy := Lib.hid hy
                          obtain ⟨g2, o2, us, rfl, hgg2, hu, hr⟩ := (HA0'.out.below R_Letter_ok (HB.out.trans (hB.mono hsz))).at_ hy
                          obtain rfl := rd_Letter hr
                          have d0 : wr.cell? ⟨g2, o2 + m * 6, none⟩ = some (.int .i64 y0) := by simpa [size_LetterS, Nat.add_assoc] using hu 0 _ rfl
                          have d1 : wr.cell? ⟨g2, o2 + m * 6 + 1, none⟩ = some (.int .i64 y1) := by simpa [size_LetterS, Nat.add_assoc] using hu 1 _ rfl
                          have d2 : wr.cell? ⟨g2, o2 + m * 6 + 2, none⟩ = some (.int .i64 y2) := by simpa [size_LetterS, Nat.add_assoc] using hu 2 _ rfl
                          have d3 : wr.cell? ⟨g2, o2 + m * 6 + 3, none⟩ = some (.int .i64 y3) := by simpa [size_LetterS, Nat.add_assoc] using hu 3 _ rfl
                          have d4 : wr.cell? ⟨g2, o2 + m * 6 + 4, none⟩ = some (.int .i64 y4) := by simpa [size_LetterS, Nat.add_assoc] using hu 4 _ rfl
                          have d5 : wr.cell? ⟨g2, o2 + m * 6 + 5, none⟩ = some (.int .i64 y5) := by simpa [size_LetterS, Nat.add_assoc] using hu 5 _ rfl
                          have hgl2 : g2 < wr.heap.size := Nat.lt_of_lt_of_le (Nat.lt_of_lt_of_le hgg2 hsz) hszm
                          have hglb : g < wr.heap.size := Nat.lt_of_lt_of_le hgl hszm
                          have f0 := (hB.cell (p := ⟨g, _, none⟩) hgl).trans e0
                          have f1 := (hB.cell (p := ⟨g, _, none⟩) hgl).trans e1
                          have f2 := (hB.cell (p := ⟨g, _, none⟩) hgl).trans e2
                          have f3 := (hB.cell (p := ⟨g, _, none⟩) hgl).trans e3
                          have f4 := (hB.cell (p := ⟨g, _, none⟩) hgl).trans e4
                          have f5 := (hB.cell (p := ⟨g, _, none⟩) hgl).trans e5
                          clear hB hy hu hr
                          obtain ⟨b3, h3⟩ : ∃ b, (((y0, y1), (y2, y3), y4, y5) == (((x0, x1), (x2, x3), x4, x5) : D_Letter)) = b := ⟨_, rfl⟩
                          have q3 := eq_letter_at h3
                          have HC := Lib.hid (show b3 = true ↔ ((x0, x1), (x2, x3), x4, x5) ∈ A.take (m + 1) from by
                            rw [List.take_add_one, Hhy.out]
                            have hno : ((x0, x1), (x2, x3), x4, x5) ∉ A.take m := fun h => by have := HIM.out.2 h; cases this
                            rw [← h3]
                            simp only [Option.toList_some, List.mem_append, List.mem_singleton]
                            constructor
                            · intro h; exact .inr (beq_iff_eq.1 h).symm
                            · rintro (h | h)
                              · exact absurd h hno
                              · exact beq_iff_eq.2 h.symm)
                          clear h3
                          go_wp2_with fail
                          refine wp_region_held_drew (S := (fun V => Below (wr).heap.size (wr) V)) (by kernel_rfl) ((Below.refl _ _).drew) (fun hHeld => ?_)
                          (refine wpAnyH_take (i := 0) (v := ?hv106) rfl (by kernel_rfl) (by kernel_rfl) (by kernel_rfl) (fun _ _ _ h => h) (Or.inl ⟨by kernel_rfl, ?hy106⟩) hHeld ?hr106; case hy106 => (intro w hSw; (try dsimp only at hSw); go_simp; try with_reducible rfl))
                          simp only [Act.put, List.getElem_toArray, List.getElem_cons_succ, List.getElem_cons_zero, List.setIfInBounds_toArray, List.set_cons_zero, List.set_cons_succ]
                          (refine wpAnyH_take (i := 1) (v := ?hv107) rfl (by kernel_rfl) (by kernel_rfl) (by kernel_rfl) (fun _ _ _ h => h) (Or.inl ⟨by kernel_rfl, ?hy107⟩) hHeld ?hr107; case hy107 => (intro w hSw; (try dsimp only at hSw); go_simp; try with_reducible rfl))
                          simp only [Act.put, List.getElem_toArray, List.getElem_cons_succ, List.getElem_cons_zero, List.setIfInBounds_toArray, List.set_cons_zero, List.set_cons_succ]
                          (refine wpAnyH_take (i := 2) (v := ?hv108) rfl (by kernel_rfl) (by kernel_rfl) (by kernel_rfl) (fun _ _ _ h => h) (Or.inl ⟨by kernel_rfl, ?hy108⟩) hHeld ?hr108; case hy108 => (intro w hSw; (try dsimp only at hSw); go_simp; try with_reducible rfl))
                          simp only [Act.put, List.getElem_toArray, List.getElem_cons_succ, List.getElem_cons_zero, List.setIfInBounds_toArray, List.set_cons_zero, List.set_cons_succ]
                          (refine wpAnyH_take (i := 3) (v := ?hv109) rfl (by kernel_rfl) (by kernel_rfl) (by kernel_rfl) (fun _ _ _ h => h) (Or.inl ⟨by kernel_rfl, ?hy109⟩) hHeld ?hr109; case hy109 => (intro w hSw; (try dsimp only at hSw); have k0 := (hSw.cell (p := ⟨W.heap.size, 2, none⟩) HDm.out.lt).trans (HDm.out.at_ 2 rfl); clear hSw; go_simp; try with_reducible rfl))
                          simp only [Act.put, List.getElem_toArray, List.getElem_cons_succ, List.getElem_cons_zero, List.setIfInBounds_toArray, List.set_cons_zero, List.set_cons_succ]
                          (refine wpAnyH_take (i := 4) (v := ?hv110) rfl (by kernel_rfl) (by kernel_rfl) (by kernel_rfl) (fun _ _ _ h => h) (Or.inl ⟨by kernel_rfl, ?hy110⟩) hHeld ?hr110; case hy110 => (intro w hSw; (try dsimp only at hSw); go_simp; try with_reducible rfl))
                          simp only [Act.put, List.getElem_toArray, List.getElem_cons_succ, List.getElem_cons_zero, List.setIfInBounds_toArray, List.set_cons_zero, List.set_cons_succ]
                          (refine wpAnyH_take (i := 5) (v := ?hv111) rfl (by kernel_rfl) (by kernel_rfl) (by kernel_rfl) (fun _ _ _ h => h) (Or.inl ⟨by kernel_rfl, ?hy111⟩) hHeld ?hr111; case hy111 => (intro w hSw; (try dsimp only at hSw); go_simp; try with_reducible rfl))
                          simp only [Act.put, List.getElem_toArray, List.getElem_cons_succ, List.getElem_cons_zero, List.setIfInBounds_toArray, List.set_cons_zero, List.set_cons_succ]
                          (refine wpAnyH_take (i := 6) (v := ?hv112) rfl (by kernel_rfl) (by kernel_rfl) (by kernel_rfl) (fun _ _ _ h => h) (Or.inl ⟨by kernel_rfl, ?hy112⟩) hHeld ?hr112; case hy112 => (intro w hSw; (try dsimp only at hSw); have k0 := (hSw.cell (p := ⟨g2, o2 + m * 6, none⟩) hgl2).trans d0; have k1 := (hSw.cell (p := ⟨g2, o2 + m * 6 + 1, none⟩) hgl2).trans d1; have k2 := (hSw.cell (p := ⟨g2, o2 + m * 6 + 2, none⟩) hgl2).trans d2; have k3 := (hSw.cell (p := ⟨g2, o2 + m * 6 + 3, none⟩) hgl2).trans d3; have k4 := (hSw.cell (p := ⟨g2, o2 + m * 6 + 4, none⟩) hgl2).trans d4; have k5 := (hSw.cell (p := ⟨g2, o2 + m * 6 + 5, none⟩) hgl2).trans d5; clear hSw; go_simp; try with_reducible rfl))
                          simp only [Act.put, List.getElem_toArray, List.getElem_cons_succ, List.getElem_cons_zero, List.setIfInBounds_toArray, List.set_cons_zero, List.set_cons_succ]
                          (refine wpAnyH_take (i := 7) (v := ?hv113) rfl (by kernel_rfl) (by kernel_rfl) (by kernel_rfl) (fun _ _ _ h => h) (Or.inl ⟨by kernel_rfl, ?hy113⟩) hHeld ?hr113; case hy113 => (intro w hSw; (try dsimp only at hSw); go_simp; try with_reducible rfl))
                          simp only [Act.put, List.getElem_toArray, List.getElem_cons_succ, List.getElem_cons_zero, List.setIfInBounds_toArray, List.set_cons_zero, List.set_cons_succ]
                          (refine wpAnyH_take (i := 8) (v := ?hv114) rfl (by kernel_rfl) (by kernel_rfl) (by kernel_rfl) (fun _ _ _ h => h) (Or.inl ⟨by kernel_rfl, ?hy114⟩) hHeld ?hr114; case hy114 => (intro w hSw; (try dsimp only at hSw); have k0 := (hSw.cell (p := ⟨W.heap.size, 1, none⟩) HDm.out.lt).trans (HDm.out.at_ 1 rfl); clear hSw; go_simp; try with_reducible rfl))
                          simp only [Act.put, List.getElem_toArray, List.getElem_cons_succ, List.getElem_cons_zero, List.setIfInBounds_toArray, List.set_cons_zero, List.set_cons_succ]
                          (refine wpAnyH_take (i := 9) (v := ?hv115) rfl (by kernel_rfl) (by kernel_rfl) (by kernel_rfl) (fun _ _ _ h => h) (Or.inl ⟨by kernel_rfl, ?hy115⟩) hHeld ?hr115; case hy115 => (intro w hSw; (try dsimp only at hSw); go_simp; try with_reducible rfl))
                          simp only [Act.put, List.getElem_toArray, List.getElem_cons_succ, List.getElem_cons_zero, List.setIfInBounds_toArray, List.set_cons_zero, List.set_cons_succ]
                          (refine wpAnyH_take (i := 10) (v := ?hv116) rfl (by kernel_rfl) (by kernel_rfl) (by kernel_rfl) (fun _ _ _ h => h) (Or.inl ⟨by kernel_rfl, ?hy116⟩) hHeld ?hr116; case hy116 => (intro w hSw; (try dsimp only at hSw); go_simp; try with_reducible rfl))
                          simp only [Act.put, List.getElem_toArray, List.getElem_cons_succ, List.getElem_cons_zero, List.setIfInBounds_toArray, List.set_cons_zero, List.set_cons_succ]
                          (refine wpAnyH_take (i := 11) (v := ?hv117) rfl (by kernel_rfl) (by kernel_rfl) (by kernel_rfl) (fun _ _ _ h => h) (Or.inl ⟨by kernel_rfl, ?hy117⟩) hHeld ?hr117; case hy117 => (intro w hSw; (try dsimp only at hSw); have k0 := (hSw.cell (p := ⟨g, o + k * 6, none⟩) hglb).trans f0; have k1 := (hSw.cell (p := ⟨g, o + k * 6 + 1, none⟩) hglb).trans f1; have k2 := (hSw.cell (p := ⟨g, o + k * 6 + 2, none⟩) hglb).trans f2; have k3 := (hSw.cell (p := ⟨g, o + k * 6 + 3, none⟩) hglb).trans f3; have k4 := (hSw.cell (p := ⟨g, o + k * 6 + 4, none⟩) hglb).trans f4; have k5 := (hSw.cell (p := ⟨g, o + k * 6 + 5, none⟩) hglb).trans f5; clear hSw; go_simp; try with_reducible rfl))
                          simp only [Act.put, List.getElem_toArray, List.getElem_cons_succ, List.getElem_cons_zero, List.setIfInBounds_toArray, List.set_cons_zero, List.set_cons_succ]
                          (refine wpAnyH_take (i := 12) (v := ?hv118) rfl (by kernel_rfl) (by kernel_rfl) (by kernel_rfl) (fun _ _ _ h => h) (Or.inl ⟨by kernel_rfl, ?hy118⟩) hHeld ?hr118; case hy118 => (intro w hSw; (try dsimp only at hSw); go_simp; try with_reducible rfl))
                          simp only [Act.put, List.getElem_toArray, List.getElem_cons_succ, List.getElem_cons_zero, List.setIfInBounds_toArray, List.set_cons_zero, List.set_cons_succ]
                          (refine wpAnyH_take (i := 13) (v := ?hv119) rfl (by kernel_rfl) (by kernel_rfl) (by kernel_rfl) (fun _ _ _ h => h) (Or.inl ⟨by kernel_rfl, ?hy119⟩) hHeld ?hr119; case hy119 => (intro w hSw; (try dsimp only at hSw); go_simp; try with_reducible rfl))
                          simp only [Act.put, List.getElem_toArray, List.getElem_cons_succ, List.getElem_cons_zero, List.setIfInBounds_toArray, List.set_cons_zero, List.set_cons_succ]
                          (refine wpAnyH_take (i := 14) (v := ?hv120) rfl (by kernel_rfl) (by kernel_rfl) (by kernel_rfl) (fun _ _ _ h => h) (Or.inl ⟨by kernel_rfl, ?hy120⟩) hHeld ?hr120; case hy120 => (intro w hSw; (try dsimp only at hSw); go_simp; try with_reducible rfl))
                          simp only [Act.put, List.getElem_toArray, List.getElem_cons_succ, List.getElem_cons_zero, List.setIfInBounds_toArray, List.set_cons_zero, List.set_cons_succ]
                          refine wpAnyH_done (by kernel_rfl) ?_ _
                          have HF := Lib.hid hHeld
                          clear hHeld
                          have HB4 := Lib.hid (HBm.out.trans (HF.out.mono hszm))
                          clear HF
                          go_wp2
                          go_roundw
                          case rel => exact ⟨m + 1, b3, by omega, by go_num, rfl, HC, HB4.out⟩
                          case measure => simp [intOf]; omega
                      · have hd : decide ((m : Int) < (A.length : Int)) = false := decide_eq_false (by omega)
                        have HE := Lib.hid (show b = true ↔ ((x0, x1), (x2, x3), x4, x5) ∈ A from by have h := HIM.out; rwa [List.take_of_length_le (by omega)] at h)
                        have HB5 := Lib.hid (HB.out.trans (HBm.out.mono hsz))
                        clear hB
                        cases b with
                        | false =>
                          have HN := Lib.hid (show ¬ DeskR P B A u n from fun h => by have := HE.out.2 (h.2.2.2.2.2.1 _ (List.mem_of_getElem? Hhx.out)); cases this)
                          go_wp2
                          go_ret
                          exact resB_no HN.out HB5.out
                        | true =>
                          have HS := Lib.hid (show ∀ (j : Nat) (x : D_Letter), j < k + 1 → B[j]? = some x → x ∈ A from fun j y hj hy => by
                            by_cases e : j = k
                            · subst e
                              have := Hhx.out
                              rw [hy] at this
                              obtain rfl := Option.some.inj this
                              exact HE.out.1 rfl
                            · exact HIN.out j y (by omega) hy)
                          go_wp2
                          go_roundw
                          case rel => exact ⟨k + 1, by omega, by go_num, HS, HB5.out, HDm⟩
                          case measure => simp [intOf]; omega
                  · have hd : decide ((k : Int) < (B.length : Int)) = false := decide_eq_false (by omega)
                    have HALL := Lib.hid (show ∀ x ∈ B, x ∈ A from fun x hx => by
                      obtain ⟨j, hj⟩ := List.mem_iff_getElem?.1 hx
                      exact HIN.out j x (by have := el_lt hj; omega) hj)
                    clear hB
                    by_cases hu : (m : Int) = u
                    · have hbe : ((m : Int) == u) = true := beq_iff_eq.2 hu
                      have HY := Lib.hid (show DeskR P B A u n from ⟨Q1.out.1 (by first | rfl | trivial), Q2.out, Q3.out.1 (by first | rfl | trivial), Q4.out.1 (by first | rfl | trivial), Q5.out, HALL.out, by rw [← hu, HM.out]⟩)
                      clear hu
                      go_wp2
                      go_ret
                      exact resB_yes HY.out HB.out
                    · have hbe : ((m : Int) == u) = false := by simpa using hu
                      have HN := Lib.hid (show ¬ DeskR P B A u n from fun h => hu (by rw [h.2.2.2.2.2.2, HM.out]))
                      clear hu
                      go_wp2
                      go_ret
                      exact resB_no HN.out HB.out
end Go.Proofs.YtknifggpodhhdaaDoor.RepC
