/- The pairs, the letters, the desk, and what may be read: the program: contracts. -/
import Derived.Test.YtknifggpodhhdaaDoorDkJ
namespace Go.Proofs.YtknifggpodhhdaaDoor.RepC
open Go.RowKit RowC ValC SpanC KeptC
set_option linter.unusedVariables false
set_option linter.unusedSimpArgs false

theorem ri_at (l s : Int) {b : Bool} (hb : LabC.rB l s = b) (w : World) : Calls Tryd.prog 24 #[.agg #[.int .i64 l, .int .i64 s]] w fun e w' => e = .returned (.bool b) ∧ Below w.heap.size w w' := by
  subst hb; exact LabC.ri_w l s w
theorem contains_at {L : List D_Letter} {la : Option Addr} {lc m : Nat} {y0 y1 y2 y3 y4 y5 : Int} {W : World} {b : Bool} (hm : L.length = m) (hL : RdSl R_Letter W W.heap.size L la lc) (hb : b = true ↔ ((y0, y1), (y2, y3), y4, y5) ∈ L) :
    Calls Tryd.prog 91 #[.slice la m lc, .agg #[.int .i64 y0, .int .i64 y1, .int .i64 y2, .int .i64 y3, .int .i64 y4, .int .i64 y5]] W fun e w' => e = .returned (.bool b) ∧ Below W.heap.size W w' := by
  subst hm
  exact (contains_letter hL).mono fun _ _ => resB_at hb
theorem rd_take {L : List D_Letter} {la : Option Addr} {lc k : Nat} {W : World} {N : Nat} (h : RdSl R_Letter W N L la lc) : RdSl R_Letter W N (L.take k) la lc := by
  obtain ⟨h1, h2, h3⟩ := h
  have hl : (L.take k).length ≤ L.length := by rw [List.length_take]; omega
  refine ⟨by omega, h2, fun hp => ?_⟩
  obtain ⟨g, o, ha, hg, hc⟩ := h3 (by omega)
  refine ⟨g, o, ha, hg, fun i x hx => hc i x ?_⟩
  rw [List.getElem?_take] at hx
  split at hx
  · exact hx
  · cases hx
set_option maxRecDepth 100000 in
set_option maxHeartbeats 4000000 in
theorem channels_impl {P : List D_Letter} {pa : Option Addr} {pc : Nat} {W : World} (hP : RdSl R_Letter W W.heap.size P pa pc) :
    Calls Tryd.prog 70 #[.slice pa P.length pc] W (ResB (PairsR P) W) := by
  have hcap := hP.1
  have hmax : pc ≤ 9223372036854775807 := by have h2 := hP.2.1; unfold maxLen at h2; omega
  have H := Lib.hid hP
  clear hP
  by_cases h4 : P.length ≤ 4
  rotate_left
  · have hd : decide ((P.length : Int) > 4) = true := decide_eq_true (by omega)
    have HN := Lib.hid (show ¬ PairsR P from fun h => h4 h.1)
    go_enter Tryd.func70, Tryd.ntmps70
    go_wp2
    go_ret
    exact resB_no HN.out (Below.refl _ _)
  have hd : decide ((P.length : Int) > 4) = false := decide_eq_false (by omega)
  go_enter Tryd.func70, Tryd.ntmps70
  go_wp2
  go_loopw [10] (fun i wr => ∃ k : Nat, k ≤ P.length ∧ i = .int .i64 k ∧ Hid (∀ (j : Nat) (x : D_Letter), j < k → P[j]? = some x → PairOk P j x) ∧ Below W.heap.size W wr) (fun i _ => P.length - (intOf i).toNat)
  case atStart => exact ⟨0, Nat.zero_le _, rfl, Lib.hid fun j x h => absurd h (Nat.not_lt_zero _), Below.refl _ _⟩
  case round =>
    obtain ⟨k, hk, rfl, HA, hB⟩ := hrel
    have HB := Lib.hid hB
    have hsz := hB.size
    by_cases hlt : k < P.length
    · obtain ⟨⟨⟨x0, x1⟩, ⟨x2, x3⟩, x4, x5⟩, hx⟩ := el_some hlt
      have Hhx := Lib.hid hx
      obtain ⟨g, o, us, rfl, hgg, hu, hr⟩ := (H.out.below R_Letter_ok hB).at_ hx
      obtain rfl := rd_Letter hr
      have e0 : wr.cell? ⟨g, o + k * 6, none⟩ = some (.int .i64 x0) := by simpa [size_LetterS, Nat.add_assoc] using hu 0 _ rfl
      have e1 : wr.cell? ⟨g, o + k * 6 + 1, none⟩ = some (.int .i64 x1) := by simpa [size_LetterS, Nat.add_assoc] using hu 1 _ rfl
      have e2 : wr.cell? ⟨g, o + k * 6 + 2, none⟩ = some (.int .i64 x2) := by simpa [size_LetterS, Nat.add_assoc] using hu 2 _ rfl
      have e3 : wr.cell? ⟨g, o + k * 6 + 3, none⟩ = some (.int .i64 x3) := by simpa [size_LetterS, Nat.add_assoc] using hu 3 _ rfl
      have e4 : wr.cell? ⟨g, o + k * 6 + 4, none⟩ = some (.int .i64 x4) := by simpa [size_LetterS, Nat.add_assoc] using hu 4 _ rfl
      have e5 : wr.cell? ⟨g, o + k * 6 + 5, none⟩ = some (.int .i64 x5) := by simpa [size_LetterS, Nat.add_assoc] using hu 5 _ rfl
      have hgl : g < wr.heap.size := Nat.lt_of_lt_of_le hgg hsz
      have hi0 : (0 : Int) ≤ (k : Int) := Int.natCast_nonneg _
      have hi1 : (k : Int) < (P.length : Int) := by omega
      have hi2 : (k : Int) ≤ (pc : Int) := by omega
      have hkn : k ≤ pc := by omega
      have hkl : (P.take k).length = k := by rw [List.length_take]; omega
      clear hB hx hu hr
      obtain ⟨b1, H1⟩ : ∃ b, Hid (LabC.rB x0 x1 = b) := ⟨_, Lib.hid rfl⟩
      obtain ⟨b2, H2⟩ : ∃ b, Hid (LabC.rB x2 x3 = b) := ⟨_, Lib.hid rfl⟩
      obtain ⟨b3, h3⟩ : ∃ b, (x4 != 0) = b := ⟨_, rfl⟩
      obtain ⟨b4, h4'⟩ : ∃ b, (x5 != 0) = b := ⟨_, rfl⟩
      obtain ⟨b5, H5⟩ := nameB (((x0, x1), (x2, x3), x4, x5) ∈ P.take k)
      have H3 := Lib.hid h3
      have H4 := Lib.hid h4'
      have HX0 := Lib.hid (show Below wr.heap.size wr (wr.alloc (.cells #[.int .i64 x0, .int .i64 x1, .int .i64 x2, .int .i64 x3, .int .i64 x4, .int .i64 x5] 87)) from (Below.refl _ _).alloc (Nat.le_refl _) _)
      have HXB := Lib.hid (Blk.new wr 87 #[.int .i64 x0, .int .i64 x1, .int .i64 x2, .int .i64 x3, .int .i64 x4, .int .i64 x5])
      obtain ⟨wx, hwx⟩ : ∃ w, w = wr.alloc (.cells #[.int .i64 x0, .int .i64 x1, .int .i64 x2, .int .i64 x3, .int .i64 x4, .int .i64 x5] 87) := ⟨_, rfl⟩
      rw [← hwx] at HX0 HXB
      have HBX := Lib.hid (HB.out.trans (HX0.out.mono hsz))
      have hzx := HBX.out.size
      have HPX := Lib.hid (rd_take (k := k) ((H.out.below R_Letter_ok HBX.out).more R_Letter_ok hzx))
      go_wp2_with fail
      rw [← hwx]
      clear hwx
      cases b1 with
      | false =>
        have HN := Lib.hid (show ¬ PairsR P from fun h => by have h1 := h.2 k _ Hhx.out; have h2 := h1.1; rw [show LabC.rB x0 x1 = false from H1.out] at h2; cases h2)
        refine wp_region_held_drew (S := (fun V => Below (wx).heap.size (wx) V)) (by kernel_rfl) ((Below.refl _ _).drew) (fun hHeld => ?_)
        (refine wpAnyH_take (i := 0) (v := ?hv73) rfl (by kernel_rfl) (by kernel_rfl) (by kernel_rfl) (fun _ _ _ h => h) (Or.inl ⟨by kernel_rfl, ?hy73⟩) hHeld ?hr73; case hy73 => (intro w hSw; (try dsimp only at hSw); go_simp; try with_reducible rfl))
        simp only [Act.put, List.getElem_toArray, List.getElem_cons_succ, List.getElem_cons_zero, List.setIfInBounds_toArray, List.set_cons_zero, List.set_cons_succ]
        (refine wpAnyH_take (i := 1) (v := ?hv74) rfl (by kernel_rfl) (by kernel_rfl) (by kernel_rfl) (fun _ _ _ h => h) (Or.inl ⟨by kernel_rfl, ?hy74⟩) hHeld ?hr74; case hy74 => (intro w hSw; (try dsimp only at hSw); have k0 := (hSw.cell (p := ⟨wr.heap.size, 0, none⟩) HXB.out.lt).trans (HXB.out.at_ 0 rfl); have k1 := (hSw.cell (p := ⟨wr.heap.size, 1, none⟩) HXB.out.lt).trans (HXB.out.at_ 1 rfl); clear hSw; go_simp; try with_reducible rfl))
        simp only [Act.put, List.getElem_toArray, List.getElem_cons_succ, List.getElem_cons_zero, List.setIfInBounds_toArray, List.set_cons_zero, List.set_cons_succ]
        refine wpAnyH_ready (rs := [2]) (by kernel_rfl) (by simp) ?_
        refine AllReadyH.cons rfl (fun K hK => ?_) AllReadyH.nil
        go_simp
        go_at_call 24
        refine (ri_at x0 x1 H1.out _).mono ?_
        rintro e v1 ⟨rfl, hb⟩
        refine hK.out _ _ (hHeld.trans (hb.mono hHeld.size)) (fun hHeld => ?_)
        clear hK K hb
        try simp only [Act.put, List.getElem_toArray, List.getElem_cons_succ, List.getElem_cons_zero, List.setIfInBounds_toArray, List.set_cons_zero, List.set_cons_succ]
        (refine wpAnyH_take (i := 3) (v := ?hv75) rfl (by kernel_rfl) (by kernel_rfl) (by kernel_rfl) (fun _ _ _ h => h) (Or.inl ⟨by kernel_rfl, ?hy75⟩) hHeld ?hr75; case hy75 => (intro w hSw; (try dsimp only at hSw); go_simp; try with_reducible rfl))
        simp only [Act.put, List.getElem_toArray, List.getElem_cons_succ, List.getElem_cons_zero, List.setIfInBounds_toArray, List.set_cons_zero, List.set_cons_succ]
        (refine wpAnyH_take (i := 4) (v := ?hv76) rfl (by kernel_rfl) (by kernel_rfl) (by kernel_rfl) (fun _ _ _ h => h) (Or.inl ⟨by kernel_rfl, ?hy76⟩) hHeld ?hr76; case hy76 => (intro w hSw; (try dsimp only at hSw); go_simp; try with_reducible rfl))
        simp only [Act.put, List.getElem_toArray, List.getElem_cons_succ, List.getElem_cons_zero, List.setIfInBounds_toArray, List.set_cons_zero, List.set_cons_succ]
        (refine wpAnyH_take (i := 5) (v := undef) rfl (by kernel_rfl) (by kernel_rfl) (by kernel_rfl) (fun _ _ _ h => h) (Or.inr ⟨by kernel_rfl, rfl⟩) hHeld ?_)
        simp only [Act.put, List.getElem_toArray, List.getElem_cons_succ, List.getElem_cons_zero, List.setIfInBounds_toArray, List.set_cons_zero, List.set_cons_succ]
        (refine wpAnyH_take (i := 6) (v := undef) rfl (by kernel_rfl) (by kernel_rfl) (by kernel_rfl) (fun _ _ _ h => h) (Or.inr ⟨by kernel_rfl, rfl⟩) hHeld ?_)
        simp only [Act.put, List.getElem_toArray, List.getElem_cons_succ, List.getElem_cons_zero, List.setIfInBounds_toArray, List.set_cons_zero, List.set_cons_succ]
        (refine wpAnyH_take (i := 7) (v := undef) rfl (by kernel_rfl) (by kernel_rfl) (by kernel_rfl) (fun _ _ _ h => h) (Or.inr ⟨by kernel_rfl, rfl⟩) hHeld ?_)
        simp only [Act.put, List.getElem_toArray, List.getElem_cons_succ, List.getElem_cons_zero, List.setIfInBounds_toArray, List.set_cons_zero, List.set_cons_succ]
        (refine wpAnyH_take (i := 8) (v := undef) rfl (by kernel_rfl) (by kernel_rfl) (by kernel_rfl) (fun _ _ _ h => h) (Or.inr ⟨by kernel_rfl, rfl⟩) hHeld ?_)
        simp only [Act.put, List.getElem_toArray, List.getElem_cons_succ, List.getElem_cons_zero, List.setIfInBounds_toArray, List.set_cons_zero, List.set_cons_succ]
        (refine wpAnyH_take (i := 9) (v := ?hv81) rfl (by kernel_rfl) (by kernel_rfl) (by kernel_rfl) (fun _ _ _ h => h) (Or.inl ⟨by kernel_rfl, ?hy81⟩) hHeld ?hr81; case hy81 => (intro w hSw; (try dsimp only at hSw); go_simp; try with_reducible rfl))
        simp only [Act.put, List.getElem_toArray, List.getElem_cons_succ, List.getElem_cons_zero, List.setIfInBounds_toArray, List.set_cons_zero, List.set_cons_succ]
        (refine wpAnyH_take (i := 10) (v := ?hv82) rfl (by kernel_rfl) (by kernel_rfl) (by kernel_rfl) (fun _ _ _ h => h) (Or.inl ⟨by kernel_rfl, ?hy82⟩) hHeld ?hr82; case hy82 => (intro w hSw; (try dsimp only at hSw); go_simp; try with_reducible rfl))
        simp only [Act.put, List.getElem_toArray, List.getElem_cons_succ, List.getElem_cons_zero, List.setIfInBounds_toArray, List.set_cons_zero, List.set_cons_succ]
        (refine wpAnyH_take (i := 11) (v := undef) rfl (by kernel_rfl) (by kernel_rfl) (by kernel_rfl) (fun _ _ _ h => h) (Or.inr ⟨by kernel_rfl, rfl⟩) hHeld ?_)
        simp only [Act.put, List.getElem_toArray, List.getElem_cons_succ, List.getElem_cons_zero, List.setIfInBounds_toArray, List.set_cons_zero, List.set_cons_succ]
        (refine wpAnyH_take (i := 12) (v := undef) rfl (by kernel_rfl) (by kernel_rfl) (by kernel_rfl) (fun _ _ _ h => h) (Or.inr ⟨by kernel_rfl, rfl⟩) hHeld ?_)
        simp only [Act.put, List.getElem_toArray, List.getElem_cons_succ, List.getElem_cons_zero, List.setIfInBounds_toArray, List.set_cons_zero, List.set_cons_succ]
        (refine wpAnyH_take (i := 13) (v := undef) rfl (by kernel_rfl) (by kernel_rfl) (by kernel_rfl) (fun _ _ _ h => h) (Or.inr ⟨by kernel_rfl, rfl⟩) hHeld ?_)
        simp only [Act.put, List.getElem_toArray, List.getElem_cons_succ, List.getElem_cons_zero, List.setIfInBounds_toArray, List.set_cons_zero, List.set_cons_succ]
        (refine wpAnyH_take (i := 14) (v := ?hv86) rfl (by kernel_rfl) (by kernel_rfl) (by kernel_rfl) (fun _ _ _ h => h) (Or.inl ⟨by kernel_rfl, ?hy86⟩) hHeld ?hr86; case hy86 => (intro w hSw; (try dsimp only at hSw); go_simp; try with_reducible rfl))
        simp only [Act.put, List.getElem_toArray, List.getElem_cons_succ, List.getElem_cons_zero, List.setIfInBounds_toArray, List.set_cons_zero, List.set_cons_succ]
        (refine wpAnyH_take (i := 15) (v := ?hv87) rfl (by kernel_rfl) (by kernel_rfl) (by kernel_rfl) (fun _ _ _ h => h) (Or.inl ⟨by kernel_rfl, ?hy87⟩) hHeld ?hr87; case hy87 => (intro w hSw; (try dsimp only at hSw); go_simp; try with_reducible rfl))
        simp only [Act.put, List.getElem_toArray, List.getElem_cons_succ, List.getElem_cons_zero, List.setIfInBounds_toArray, List.set_cons_zero, List.set_cons_succ]
        (refine wpAnyH_take (i := 16) (v := undef) rfl (by kernel_rfl) (by kernel_rfl) (by kernel_rfl) (fun _ _ _ h => h) (Or.inr ⟨by kernel_rfl, rfl⟩) hHeld ?_)
        simp only [Act.put, List.getElem_toArray, List.getElem_cons_succ, List.getElem_cons_zero, List.setIfInBounds_toArray, List.set_cons_zero, List.set_cons_succ]
        (refine wpAnyH_take (i := 17) (v := undef) rfl (by kernel_rfl) (by kernel_rfl) (by kernel_rfl) (fun _ _ _ h => h) (Or.inr ⟨by kernel_rfl, rfl⟩) hHeld ?_)
        simp only [Act.put, List.getElem_toArray, List.getElem_cons_succ, List.getElem_cons_zero, List.setIfInBounds_toArray, List.set_cons_zero, List.set_cons_succ]
        (refine wpAnyH_take (i := 18) (v := undef) rfl (by kernel_rfl) (by kernel_rfl) (by kernel_rfl) (fun _ _ _ h => h) (Or.inr ⟨by kernel_rfl, rfl⟩) hHeld ?_)
        simp only [Act.put, List.getElem_toArray, List.getElem_cons_succ, List.getElem_cons_zero, List.setIfInBounds_toArray, List.set_cons_zero, List.set_cons_succ]
        (refine wpAnyH_take (i := 19) (v := ?hv91) rfl (by kernel_rfl) (by kernel_rfl) (by kernel_rfl) (fun _ _ _ h => h) (Or.inl ⟨by kernel_rfl, ?hy91⟩) hHeld ?hr91; case hy91 => (intro w hSw; (try dsimp only at hSw); go_simp; try with_reducible rfl))
        simp only [Act.put, List.getElem_toArray, List.getElem_cons_succ, List.getElem_cons_zero, List.setIfInBounds_toArray, List.set_cons_zero, List.set_cons_succ]
        (refine wpAnyH_take (i := 20) (v := ?hv92) rfl (by kernel_rfl) (by kernel_rfl) (by kernel_rfl) (fun _ _ _ h => h) (Or.inl ⟨by kernel_rfl, ?hy92⟩) hHeld ?hr92; case hy92 => (intro w hSw; (try dsimp only at hSw); go_simp; try with_reducible rfl))
        simp only [Act.put, List.getElem_toArray, List.getElem_cons_succ, List.getElem_cons_zero, List.setIfInBounds_toArray, List.set_cons_zero, List.set_cons_succ]
        (refine wpAnyH_take (i := 21) (v := undef) rfl (by kernel_rfl) (by kernel_rfl) (by kernel_rfl) (fun _ _ _ h => h) (Or.inr ⟨by kernel_rfl, rfl⟩) hHeld ?_)
        simp only [Act.put, List.getElem_toArray, List.getElem_cons_succ, List.getElem_cons_zero, List.setIfInBounds_toArray, List.set_cons_zero, List.set_cons_succ]
        (refine wpAnyH_take (i := 22) (v := undef) rfl (by kernel_rfl) (by kernel_rfl) (by kernel_rfl) (fun _ _ _ h => h) (Or.inr ⟨by kernel_rfl, rfl⟩) hHeld ?_)
        simp only [Act.put, List.getElem_toArray, List.getElem_cons_succ, List.getElem_cons_zero, List.setIfInBounds_toArray, List.set_cons_zero, List.set_cons_succ]
        (refine wpAnyH_take (i := 23) (v := undef) rfl (by kernel_rfl) (by kernel_rfl) (by kernel_rfl) (fun _ _ _ h => h) (Or.inr ⟨by kernel_rfl, rfl⟩) hHeld ?_)
        simp only [Act.put, List.getElem_toArray, List.getElem_cons_succ, List.getElem_cons_zero, List.setIfInBounds_toArray, List.set_cons_zero, List.set_cons_succ]
        (refine wpAnyH_take (i := 24) (v := undef) rfl (by kernel_rfl) (by kernel_rfl) (by kernel_rfl) (fun _ _ _ h => h) (Or.inr ⟨by kernel_rfl, rfl⟩) hHeld ?_)
        simp only [Act.put, List.getElem_toArray, List.getElem_cons_succ, List.getElem_cons_zero, List.setIfInBounds_toArray, List.set_cons_zero, List.set_cons_succ]
        (refine wpAnyH_take (i := 25) (v := undef) rfl (by kernel_rfl) (by kernel_rfl) (by kernel_rfl) (fun _ _ _ h => h) (Or.inr ⟨by kernel_rfl, rfl⟩) hHeld ?_)
        simp only [Act.put, List.getElem_toArray, List.getElem_cons_succ, List.getElem_cons_zero, List.setIfInBounds_toArray, List.set_cons_zero, List.set_cons_succ]
        (refine wpAnyH_take (i := 26) (v := ?hv98) rfl (by kernel_rfl) (by kernel_rfl) (by kernel_rfl) (fun _ _ _ h => h) (Or.inl ⟨by kernel_rfl, ?hy98⟩) hHeld ?hr98; case hy98 => (intro w hSw; (try dsimp only at hSw); go_simp; try with_reducible rfl))
        simp only [Act.put, List.getElem_toArray, List.getElem_cons_succ, List.getElem_cons_zero, List.setIfInBounds_toArray, List.set_cons_zero, List.set_cons_succ]
        refine wpAnyH_done (by kernel_rfl) ?_ _
        have HF := Lib.hid hHeld
        clear hHeld
        have HB3 := Lib.hid (HBX.out.trans (HF.out.mono hzx))
        clear HF
        go_wp2
        go_ret
        exact resB_no HN.out HB3.out
      | true =>
        cases b2 with
        | false =>
          have HN := Lib.hid (show ¬ PairsR P from fun h => by have h1 := h.2 k _ Hhx.out; have h2 := h1.2.1; rw [show LabC.rB x2 x3 = false from H2.out] at h2; cases h2)
          refine wp_region_held_drew (S := (fun V => Below (wx).heap.size (wx) V)) (by kernel_rfl) ((Below.refl _ _).drew) (fun hHeld => ?_)
          (refine wpAnyH_take (i := 0) (v := ?hv99) rfl (by kernel_rfl) (by kernel_rfl) (by kernel_rfl) (fun _ _ _ h => h) (Or.inl ⟨by kernel_rfl, ?hy99⟩) hHeld ?hr99; case hy99 => (intro w hSw; (try dsimp only at hSw); go_simp; try with_reducible rfl))
          simp only [Act.put, List.getElem_toArray, List.getElem_cons_succ, List.getElem_cons_zero, List.setIfInBounds_toArray, List.set_cons_zero, List.set_cons_succ]
          (refine wpAnyH_take (i := 1) (v := ?hv100) rfl (by kernel_rfl) (by kernel_rfl) (by kernel_rfl) (fun _ _ _ h => h) (Or.inl ⟨by kernel_rfl, ?hy100⟩) hHeld ?hr100; case hy100 => (intro w hSw; (try dsimp only at hSw); have k0 := (hSw.cell (p := ⟨wr.heap.size, 0, none⟩) HXB.out.lt).trans (HXB.out.at_ 0 rfl); have k1 := (hSw.cell (p := ⟨wr.heap.size, 1, none⟩) HXB.out.lt).trans (HXB.out.at_ 1 rfl); clear hSw; go_simp; try with_reducible rfl))
          simp only [Act.put, List.getElem_toArray, List.getElem_cons_succ, List.getElem_cons_zero, List.setIfInBounds_toArray, List.set_cons_zero, List.set_cons_succ]
          refine wpAnyH_ready (rs := [2]) (by kernel_rfl) (by simp) ?_
          refine AllReadyH.cons rfl (fun K hK => ?_) AllReadyH.nil
          go_simp
          go_at_call 24
          refine (ri_at x0 x1 H1.out _).mono ?_
          rintro e v1 ⟨rfl, hb⟩
          refine hK.out _ _ (hHeld.trans (hb.mono hHeld.size)) (fun hHeld => ?_)
          clear hK K hb
          try simp only [Act.put, List.getElem_toArray, List.getElem_cons_succ, List.getElem_cons_zero, List.setIfInBounds_toArray, List.set_cons_zero, List.set_cons_succ]
          (refine wpAnyH_take (i := 3) (v := ?hv101) rfl (by kernel_rfl) (by kernel_rfl) (by kernel_rfl) (fun _ _ _ h => h) (Or.inl ⟨by kernel_rfl, ?hy101⟩) hHeld ?hr101; case hy101 => (intro w hSw; (try dsimp only at hSw); go_simp; try with_reducible rfl))
          simp only [Act.put, List.getElem_toArray, List.getElem_cons_succ, List.getElem_cons_zero, List.setIfInBounds_toArray, List.set_cons_zero, List.set_cons_succ]
          (refine wpAnyH_take (i := 4) (v := ?hv102) rfl (by kernel_rfl) (by kernel_rfl) (by kernel_rfl) (fun _ _ _ h => h) (Or.inl ⟨by kernel_rfl, ?hy102⟩) hHeld ?hr102; case hy102 => (intro w hSw; (try dsimp only at hSw); go_simp; try with_reducible rfl))
          simp only [Act.put, List.getElem_toArray, List.getElem_cons_succ, List.getElem_cons_zero, List.setIfInBounds_toArray, List.set_cons_zero, List.set_cons_succ]
          (refine wpAnyH_take (i := 5) (v := ?hv103) rfl (by kernel_rfl) (by kernel_rfl) (by kernel_rfl) (fun _ _ _ h => h) (Or.inl ⟨by kernel_rfl, ?hy103⟩) hHeld ?hr103; case hy103 => (intro w hSw; (try dsimp only at hSw); go_simp; try with_reducible rfl))
          simp only [Act.put, List.getElem_toArray, List.getElem_cons_succ, List.getElem_cons_zero, List.setIfInBounds_toArray, List.set_cons_zero, List.set_cons_succ]
          (refine wpAnyH_take (i := 6) (v := ?hv104) rfl (by kernel_rfl) (by kernel_rfl) (by kernel_rfl) (fun _ _ _ h => h) (Or.inl ⟨by kernel_rfl, ?hy104⟩) hHeld ?hr104; case hy104 => (intro w hSw; (try dsimp only at hSw); have k0 := (hSw.cell (p := ⟨wr.heap.size, 2, none⟩) HXB.out.lt).trans (HXB.out.at_ 2 rfl); have k1 := (hSw.cell (p := ⟨wr.heap.size, 3, none⟩) HXB.out.lt).trans (HXB.out.at_ 3 rfl); clear hSw; go_simp; try with_reducible rfl))
          simp only [Act.put, List.getElem_toArray, List.getElem_cons_succ, List.getElem_cons_zero, List.setIfInBounds_toArray, List.set_cons_zero, List.set_cons_succ]
          refine wpAnyH_ready (rs := [7]) (by kernel_rfl) (by simp) ?_
          refine AllReadyH.cons rfl (fun K hK => ?_) AllReadyH.nil
          go_simp
          go_at_call 24
          refine (ri_at x2 x3 H2.out _).mono ?_
          rintro e v2 ⟨rfl, hb⟩
          refine hK.out _ _ (hHeld.trans (hb.mono hHeld.size)) (fun hHeld => ?_)
          clear hK K hb
          try simp only [Act.put, List.getElem_toArray, List.getElem_cons_succ, List.getElem_cons_zero, List.setIfInBounds_toArray, List.set_cons_zero, List.set_cons_succ]
          (refine wpAnyH_take (i := 8) (v := ?hv105) rfl (by kernel_rfl) (by kernel_rfl) (by kernel_rfl) (fun _ _ _ h => h) (Or.inl ⟨by kernel_rfl, ?hy105⟩) hHeld ?hr105; case hy105 => (intro w hSw; (try dsimp only at hSw); go_simp; try with_reducible rfl))
          simp only [Act.put, List.getElem_toArray, List.getElem_cons_succ, List.getElem_cons_zero, List.setIfInBounds_toArray, List.set_cons_zero, List.set_cons_succ]
          (refine wpAnyH_take (i := 9) (v := ?hv106) rfl (by kernel_rfl) (by kernel_rfl) (by kernel_rfl) (fun _ _ _ h => h) (Or.inl ⟨by kernel_rfl, ?hy106⟩) hHeld ?hr106; case hy106 => (intro w hSw; (try dsimp only at hSw); go_simp; try with_reducible rfl))
          simp only [Act.put, List.getElem_toArray, List.getElem_cons_succ, List.getElem_cons_zero, List.setIfInBounds_toArray, List.set_cons_zero, List.set_cons_succ]
          (refine wpAnyH_take (i := 10) (v := ?hv107) rfl (by kernel_rfl) (by kernel_rfl) (by kernel_rfl) (fun _ _ _ h => h) (Or.inl ⟨by kernel_rfl, ?hy107⟩) hHeld ?hr107; case hy107 => (intro w hSw; (try dsimp only at hSw); go_simp; try with_reducible rfl))
          simp only [Act.put, List.getElem_toArray, List.getElem_cons_succ, List.getElem_cons_zero, List.setIfInBounds_toArray, List.set_cons_zero, List.set_cons_succ]
          (refine wpAnyH_take (i := 11) (v := undef) rfl (by kernel_rfl) (by kernel_rfl) (by kernel_rfl) (fun _ _ _ h => h) (Or.inr ⟨by kernel_rfl, rfl⟩) hHeld ?_)
          simp only [Act.put, List.getElem_toArray, List.getElem_cons_succ, List.getElem_cons_zero, List.setIfInBounds_toArray, List.set_cons_zero, List.set_cons_succ]
          (refine wpAnyH_take (i := 12) (v := undef) rfl (by kernel_rfl) (by kernel_rfl) (by kernel_rfl) (fun _ _ _ h => h) (Or.inr ⟨by kernel_rfl, rfl⟩) hHeld ?_)
          simp only [Act.put, List.getElem_toArray, List.getElem_cons_succ, List.getElem_cons_zero, List.setIfInBounds_toArray, List.set_cons_zero, List.set_cons_succ]
          (refine wpAnyH_take (i := 13) (v := undef) rfl (by kernel_rfl) (by kernel_rfl) (by kernel_rfl) (fun _ _ _ h => h) (Or.inr ⟨by kernel_rfl, rfl⟩) hHeld ?_)
          simp only [Act.put, List.getElem_toArray, List.getElem_cons_succ, List.getElem_cons_zero, List.setIfInBounds_toArray, List.set_cons_zero, List.set_cons_succ]
          (refine wpAnyH_take (i := 14) (v := ?hv111) rfl (by kernel_rfl) (by kernel_rfl) (by kernel_rfl) (fun _ _ _ h => h) (Or.inl ⟨by kernel_rfl, ?hy111⟩) hHeld ?hr111; case hy111 => (intro w hSw; (try dsimp only at hSw); go_simp; try with_reducible rfl))
          simp only [Act.put, List.getElem_toArray, List.getElem_cons_succ, List.getElem_cons_zero, List.setIfInBounds_toArray, List.set_cons_zero, List.set_cons_succ]
          (refine wpAnyH_take (i := 15) (v := ?hv112) rfl (by kernel_rfl) (by kernel_rfl) (by kernel_rfl) (fun _ _ _ h => h) (Or.inl ⟨by kernel_rfl, ?hy112⟩) hHeld ?hr112; case hy112 => (intro w hSw; (try dsimp only at hSw); go_simp; try with_reducible rfl))
          simp only [Act.put, List.getElem_toArray, List.getElem_cons_succ, List.getElem_cons_zero, List.setIfInBounds_toArray, List.set_cons_zero, List.set_cons_succ]
          (refine wpAnyH_take (i := 16) (v := undef) rfl (by kernel_rfl) (by kernel_rfl) (by kernel_rfl) (fun _ _ _ h => h) (Or.inr ⟨by kernel_rfl, rfl⟩) hHeld ?_)
          simp only [Act.put, List.getElem_toArray, List.getElem_cons_succ, List.getElem_cons_zero, List.setIfInBounds_toArray, List.set_cons_zero, List.set_cons_succ]
          (refine wpAnyH_take (i := 17) (v := undef) rfl (by kernel_rfl) (by kernel_rfl) (by kernel_rfl) (fun _ _ _ h => h) (Or.inr ⟨by kernel_rfl, rfl⟩) hHeld ?_)
          simp only [Act.put, List.getElem_toArray, List.getElem_cons_succ, List.getElem_cons_zero, List.setIfInBounds_toArray, List.set_cons_zero, List.set_cons_succ]
          (refine wpAnyH_take (i := 18) (v := undef) rfl (by kernel_rfl) (by kernel_rfl) (by kernel_rfl) (fun _ _ _ h => h) (Or.inr ⟨by kernel_rfl, rfl⟩) hHeld ?_)
          simp only [Act.put, List.getElem_toArray, List.getElem_cons_succ, List.getElem_cons_zero, List.setIfInBounds_toArray, List.set_cons_zero, List.set_cons_succ]
          (refine wpAnyH_take (i := 19) (v := ?hv116) rfl (by kernel_rfl) (by kernel_rfl) (by kernel_rfl) (fun _ _ _ h => h) (Or.inl ⟨by kernel_rfl, ?hy116⟩) hHeld ?hr116; case hy116 => (intro w hSw; (try dsimp only at hSw); go_simp; try with_reducible rfl))
          simp only [Act.put, List.getElem_toArray, List.getElem_cons_succ, List.getElem_cons_zero, List.setIfInBounds_toArray, List.set_cons_zero, List.set_cons_succ]
          (refine wpAnyH_take (i := 20) (v := ?hv117) rfl (by kernel_rfl) (by kernel_rfl) (by kernel_rfl) (fun _ _ _ h => h) (Or.inl ⟨by kernel_rfl, ?hy117⟩) hHeld ?hr117; case hy117 => (intro w hSw; (try dsimp only at hSw); go_simp; try with_reducible rfl))
          simp only [Act.put, List.getElem_toArray, List.getElem_cons_succ, List.getElem_cons_zero, List.setIfInBounds_toArray, List.set_cons_zero, List.set_cons_succ]
          (refine wpAnyH_take (i := 21) (v := undef) rfl (by kernel_rfl) (by kernel_rfl) (by kernel_rfl) (fun _ _ _ h => h) (Or.inr ⟨by kernel_rfl, rfl⟩) hHeld ?_)
          simp only [Act.put, List.getElem_toArray, List.getElem_cons_succ, List.getElem_cons_zero, List.setIfInBounds_toArray, List.set_cons_zero, List.set_cons_succ]
          (refine wpAnyH_take (i := 22) (v := undef) rfl (by kernel_rfl) (by kernel_rfl) (by kernel_rfl) (fun _ _ _ h => h) (Or.inr ⟨by kernel_rfl, rfl⟩) hHeld ?_)
          simp only [Act.put, List.getElem_toArray, List.getElem_cons_succ, List.getElem_cons_zero, List.setIfInBounds_toArray, List.set_cons_zero, List.set_cons_succ]
          (refine wpAnyH_take (i := 23) (v := undef) rfl (by kernel_rfl) (by kernel_rfl) (by kernel_rfl) (fun _ _ _ h => h) (Or.inr ⟨by kernel_rfl, rfl⟩) hHeld ?_)
          simp only [Act.put, List.getElem_toArray, List.getElem_cons_succ, List.getElem_cons_zero, List.setIfInBounds_toArray, List.set_cons_zero, List.set_cons_succ]
          (refine wpAnyH_take (i := 24) (v := undef) rfl (by kernel_rfl) (by kernel_rfl) (by kernel_rfl) (fun _ _ _ h => h) (Or.inr ⟨by kernel_rfl, rfl⟩) hHeld ?_)
          simp only [Act.put, List.getElem_toArray, List.getElem_cons_succ, List.getElem_cons_zero, List.setIfInBounds_toArray, List.set_cons_zero, List.set_cons_succ]
          (refine wpAnyH_take (i := 25) (v := undef) rfl (by kernel_rfl) (by kernel_rfl) (by kernel_rfl) (fun _ _ _ h => h) (Or.inr ⟨by kernel_rfl, rfl⟩) hHeld ?_)
          simp only [Act.put, List.getElem_toArray, List.getElem_cons_succ, List.getElem_cons_zero, List.setIfInBounds_toArray, List.set_cons_zero, List.set_cons_succ]
          (refine wpAnyH_take (i := 26) (v := ?hv123) rfl (by kernel_rfl) (by kernel_rfl) (by kernel_rfl) (fun _ _ _ h => h) (Or.inl ⟨by kernel_rfl, ?hy123⟩) hHeld ?hr123; case hy123 => (intro w hSw; (try dsimp only at hSw); go_simp; try with_reducible rfl))
          simp only [Act.put, List.getElem_toArray, List.getElem_cons_succ, List.getElem_cons_zero, List.setIfInBounds_toArray, List.set_cons_zero, List.set_cons_succ]
          refine wpAnyH_done (by kernel_rfl) ?_ _
          have HF := Lib.hid hHeld
          clear hHeld
          have HB3 := Lib.hid (HBX.out.trans (HF.out.mono hzx))
          clear HF
          go_wp2
          go_ret
          exact resB_no HN.out HB3.out
        | true =>
          cases b3 with
          | true =>
            have HN := Lib.hid (show ¬ PairsR P from fun h => by have h1 := h.2 k _ Hhx.out; have h2 : x4 = 0 := h1.2.2.1; have h3 := H3.out; subst h2; cases h3)
            refine wp_region_held_drew (S := (fun V => Below (wx).heap.size (wx) V)) (by kernel_rfl) ((Below.refl _ _).drew) (fun hHeld => ?_)
            (refine wpAnyH_take (i := 0) (v := ?hv124) rfl (by kernel_rfl) (by kernel_rfl) (by kernel_rfl) (fun _ _ _ h => h) (Or.inl ⟨by kernel_rfl, ?hy124⟩) hHeld ?hr124; case hy124 => (intro w hSw; (try dsimp only at hSw); go_simp; try with_reducible rfl))
            simp only [Act.put, List.getElem_toArray, List.getElem_cons_succ, List.getElem_cons_zero, List.setIfInBounds_toArray, List.set_cons_zero, List.set_cons_succ]
            (refine wpAnyH_take (i := 1) (v := ?hv125) rfl (by kernel_rfl) (by kernel_rfl) (by kernel_rfl) (fun _ _ _ h => h) (Or.inl ⟨by kernel_rfl, ?hy125⟩) hHeld ?hr125; case hy125 => (intro w hSw; (try dsimp only at hSw); have k0 := (hSw.cell (p := ⟨wr.heap.size, 0, none⟩) HXB.out.lt).trans (HXB.out.at_ 0 rfl); have k1 := (hSw.cell (p := ⟨wr.heap.size, 1, none⟩) HXB.out.lt).trans (HXB.out.at_ 1 rfl); clear hSw; go_simp; try with_reducible rfl))
            simp only [Act.put, List.getElem_toArray, List.getElem_cons_succ, List.getElem_cons_zero, List.setIfInBounds_toArray, List.set_cons_zero, List.set_cons_succ]
            refine wpAnyH_ready (rs := [2]) (by kernel_rfl) (by simp) ?_
            refine AllReadyH.cons rfl (fun K hK => ?_) AllReadyH.nil
            go_simp
            go_at_call 24
            refine (ri_at x0 x1 H1.out _).mono ?_
            rintro e v1 ⟨rfl, hb⟩
            refine hK.out _ _ (hHeld.trans (hb.mono hHeld.size)) (fun hHeld => ?_)
            clear hK K hb
            try simp only [Act.put, List.getElem_toArray, List.getElem_cons_succ, List.getElem_cons_zero, List.setIfInBounds_toArray, List.set_cons_zero, List.set_cons_succ]
            (refine wpAnyH_take (i := 3) (v := ?hv126) rfl (by kernel_rfl) (by kernel_rfl) (by kernel_rfl) (fun _ _ _ h => h) (Or.inl ⟨by kernel_rfl, ?hy126⟩) hHeld ?hr126; case hy126 => (intro w hSw; (try dsimp only at hSw); go_simp; try with_reducible rfl))
            simp only [Act.put, List.getElem_toArray, List.getElem_cons_succ, List.getElem_cons_zero, List.setIfInBounds_toArray, List.set_cons_zero, List.set_cons_succ]
            (refine wpAnyH_take (i := 4) (v := ?hv127) rfl (by kernel_rfl) (by kernel_rfl) (by kernel_rfl) (fun _ _ _ h => h) (Or.inl ⟨by kernel_rfl, ?hy127⟩) hHeld ?hr127; case hy127 => (intro w hSw; (try dsimp only at hSw); go_simp; try with_reducible rfl))
            simp only [Act.put, List.getElem_toArray, List.getElem_cons_succ, List.getElem_cons_zero, List.setIfInBounds_toArray, List.set_cons_zero, List.set_cons_succ]
            (refine wpAnyH_take (i := 5) (v := ?hv128) rfl (by kernel_rfl) (by kernel_rfl) (by kernel_rfl) (fun _ _ _ h => h) (Or.inl ⟨by kernel_rfl, ?hy128⟩) hHeld ?hr128; case hy128 => (intro w hSw; (try dsimp only at hSw); go_simp; try with_reducible rfl))
            simp only [Act.put, List.getElem_toArray, List.getElem_cons_succ, List.getElem_cons_zero, List.setIfInBounds_toArray, List.set_cons_zero, List.set_cons_succ]
            (refine wpAnyH_take (i := 6) (v := ?hv129) rfl (by kernel_rfl) (by kernel_rfl) (by kernel_rfl) (fun _ _ _ h => h) (Or.inl ⟨by kernel_rfl, ?hy129⟩) hHeld ?hr129; case hy129 => (intro w hSw; (try dsimp only at hSw); have k0 := (hSw.cell (p := ⟨wr.heap.size, 2, none⟩) HXB.out.lt).trans (HXB.out.at_ 2 rfl); have k1 := (hSw.cell (p := ⟨wr.heap.size, 3, none⟩) HXB.out.lt).trans (HXB.out.at_ 3 rfl); clear hSw; go_simp; try with_reducible rfl))
            simp only [Act.put, List.getElem_toArray, List.getElem_cons_succ, List.getElem_cons_zero, List.setIfInBounds_toArray, List.set_cons_zero, List.set_cons_succ]
            refine wpAnyH_ready (rs := [7]) (by kernel_rfl) (by simp) ?_
            refine AllReadyH.cons rfl (fun K hK => ?_) AllReadyH.nil
            go_simp
            go_at_call 24
            refine (ri_at x2 x3 H2.out _).mono ?_
            rintro e v2 ⟨rfl, hb⟩
            refine hK.out _ _ (hHeld.trans (hb.mono hHeld.size)) (fun hHeld => ?_)
            clear hK K hb
            try simp only [Act.put, List.getElem_toArray, List.getElem_cons_succ, List.getElem_cons_zero, List.setIfInBounds_toArray, List.set_cons_zero, List.set_cons_succ]
            (refine wpAnyH_take (i := 8) (v := ?hv130) rfl (by kernel_rfl) (by kernel_rfl) (by kernel_rfl) (fun _ _ _ h => h) (Or.inl ⟨by kernel_rfl, ?hy130⟩) hHeld ?hr130; case hy130 => (intro w hSw; (try dsimp only at hSw); go_simp; try with_reducible rfl))
            simp only [Act.put, List.getElem_toArray, List.getElem_cons_succ, List.getElem_cons_zero, List.setIfInBounds_toArray, List.set_cons_zero, List.set_cons_succ]
            (refine wpAnyH_take (i := 9) (v := ?hv131) rfl (by kernel_rfl) (by kernel_rfl) (by kernel_rfl) (fun _ _ _ h => h) (Or.inl ⟨by kernel_rfl, ?hy131⟩) hHeld ?hr131; case hy131 => (intro w hSw; (try dsimp only at hSw); go_simp; try with_reducible rfl))
            simp only [Act.put, List.getElem_toArray, List.getElem_cons_succ, List.getElem_cons_zero, List.setIfInBounds_toArray, List.set_cons_zero, List.set_cons_succ]
            (refine wpAnyH_take (i := 10) (v := ?hv132) rfl (by kernel_rfl) (by kernel_rfl) (by kernel_rfl) (fun _ _ _ h => h) (Or.inl ⟨by kernel_rfl, ?hy132⟩) hHeld ?hr132; case hy132 => (intro w hSw; (try dsimp only at hSw); go_simp; try with_reducible rfl))
            simp only [Act.put, List.getElem_toArray, List.getElem_cons_succ, List.getElem_cons_zero, List.setIfInBounds_toArray, List.set_cons_zero, List.set_cons_succ]
            (refine wpAnyH_take (i := 11) (v := ?hv133) rfl (by kernel_rfl) (by kernel_rfl) (by kernel_rfl) (fun _ _ _ h => h) (Or.inl ⟨by kernel_rfl, ?hy133⟩) hHeld ?hr133; case hy133 => (intro w hSw; (try dsimp only at hSw); go_simp; try with_reducible rfl))
            simp only [Act.put, List.getElem_toArray, List.getElem_cons_succ, List.getElem_cons_zero, List.setIfInBounds_toArray, List.set_cons_zero, List.set_cons_succ]
            (refine wpAnyH_take (i := 12) (v := ?hv134) rfl (by kernel_rfl) (by kernel_rfl) (by kernel_rfl) (fun _ _ _ h => h) (Or.inl ⟨by kernel_rfl, ?hy134⟩) hHeld ?hr134; case hy134 => (intro w hSw; (try dsimp only at hSw); have k0 := (hSw.cell (p := ⟨wr.heap.size, 4, none⟩) HXB.out.lt).trans (HXB.out.at_ 4 rfl); clear hSw; go_simp; try with_reducible rfl))
            simp only [Act.put, List.getElem_toArray, List.getElem_cons_succ, List.getElem_cons_zero, List.setIfInBounds_toArray, List.set_cons_zero, List.set_cons_succ]
            (refine wpAnyH_take (i := 13) (v := ?hv135) rfl (by kernel_rfl) (by kernel_rfl) (by kernel_rfl) (fun _ _ _ h => h) (Or.inl ⟨by kernel_rfl, ?hy135⟩) hHeld ?hr135; case hy135 => (intro w hSw; (try dsimp only at hSw); go_simp; try with_reducible rfl))
            simp only [Act.put, List.getElem_toArray, List.getElem_cons_succ, List.getElem_cons_zero, List.setIfInBounds_toArray, List.set_cons_zero, List.set_cons_succ]
            (refine wpAnyH_take (i := 14) (v := ?hv136) rfl (by kernel_rfl) (by kernel_rfl) (by kernel_rfl) (fun _ _ _ h => h) (Or.inl ⟨by kernel_rfl, ?hy136⟩) hHeld ?hr136; case hy136 => (intro w hSw; (try dsimp only at hSw); go_simp; try with_reducible rfl))
            simp only [Act.put, List.getElem_toArray, List.getElem_cons_succ, List.getElem_cons_zero, List.setIfInBounds_toArray, List.set_cons_zero, List.set_cons_succ]
            (refine wpAnyH_take (i := 15) (v := ?hv137) rfl (by kernel_rfl) (by kernel_rfl) (by kernel_rfl) (fun _ _ _ h => h) (Or.inl ⟨by kernel_rfl, ?hy137⟩) hHeld ?hr137; case hy137 => (intro w hSw; (try dsimp only at hSw); go_simp; try with_reducible rfl))
            simp only [Act.put, List.getElem_toArray, List.getElem_cons_succ, List.getElem_cons_zero, List.setIfInBounds_toArray, List.set_cons_zero, List.set_cons_succ]
            (refine wpAnyH_take (i := 16) (v := undef) rfl (by kernel_rfl) (by kernel_rfl) (by kernel_rfl) (fun _ _ _ h => h) (Or.inr ⟨by kernel_rfl, rfl⟩) hHeld ?_)
            simp only [Act.put, List.getElem_toArray, List.getElem_cons_succ, List.getElem_cons_zero, List.setIfInBounds_toArray, List.set_cons_zero, List.set_cons_succ]
            (refine wpAnyH_take (i := 17) (v := undef) rfl (by kernel_rfl) (by kernel_rfl) (by kernel_rfl) (fun _ _ _ h => h) (Or.inr ⟨by kernel_rfl, rfl⟩) hHeld ?_)
            simp only [Act.put, List.getElem_toArray, List.getElem_cons_succ, List.getElem_cons_zero, List.setIfInBounds_toArray, List.set_cons_zero, List.set_cons_succ]
            (refine wpAnyH_take (i := 18) (v := undef) rfl (by kernel_rfl) (by kernel_rfl) (by kernel_rfl) (fun _ _ _ h => h) (Or.inr ⟨by kernel_rfl, rfl⟩) hHeld ?_)
            simp only [Act.put, List.getElem_toArray, List.getElem_cons_succ, List.getElem_cons_zero, List.setIfInBounds_toArray, List.set_cons_zero, List.set_cons_succ]
            (refine wpAnyH_take (i := 19) (v := ?hv141) rfl (by kernel_rfl) (by kernel_rfl) (by kernel_rfl) (fun _ _ _ h => h) (Or.inl ⟨by kernel_rfl, ?hy141⟩) hHeld ?hr141; case hy141 => (intro w hSw; (try dsimp only at hSw); go_simp; try with_reducible rfl))
            simp only [Act.put, List.getElem_toArray, List.getElem_cons_succ, List.getElem_cons_zero, List.setIfInBounds_toArray, List.set_cons_zero, List.set_cons_succ]
            (refine wpAnyH_take (i := 20) (v := ?hv142) rfl (by kernel_rfl) (by kernel_rfl) (by kernel_rfl) (fun _ _ _ h => h) (Or.inl ⟨by kernel_rfl, ?hy142⟩) hHeld ?hr142; case hy142 => (intro w hSw; (try dsimp only at hSw); go_simp; try with_reducible rfl))
            simp only [Act.put, List.getElem_toArray, List.getElem_cons_succ, List.getElem_cons_zero, List.setIfInBounds_toArray, List.set_cons_zero, List.set_cons_succ]
            (refine wpAnyH_take (i := 21) (v := undef) rfl (by kernel_rfl) (by kernel_rfl) (by kernel_rfl) (fun _ _ _ h => h) (Or.inr ⟨by kernel_rfl, rfl⟩) hHeld ?_)
            simp only [Act.put, List.getElem_toArray, List.getElem_cons_succ, List.getElem_cons_zero, List.setIfInBounds_toArray, List.set_cons_zero, List.set_cons_succ]
            (refine wpAnyH_take (i := 22) (v := undef) rfl (by kernel_rfl) (by kernel_rfl) (by kernel_rfl) (fun _ _ _ h => h) (Or.inr ⟨by kernel_rfl, rfl⟩) hHeld ?_)
            simp only [Act.put, List.getElem_toArray, List.getElem_cons_succ, List.getElem_cons_zero, List.setIfInBounds_toArray, List.set_cons_zero, List.set_cons_succ]
            (refine wpAnyH_take (i := 23) (v := undef) rfl (by kernel_rfl) (by kernel_rfl) (by kernel_rfl) (fun _ _ _ h => h) (Or.inr ⟨by kernel_rfl, rfl⟩) hHeld ?_)
            simp only [Act.put, List.getElem_toArray, List.getElem_cons_succ, List.getElem_cons_zero, List.setIfInBounds_toArray, List.set_cons_zero, List.set_cons_succ]
            (refine wpAnyH_take (i := 24) (v := undef) rfl (by kernel_rfl) (by kernel_rfl) (by kernel_rfl) (fun _ _ _ h => h) (Or.inr ⟨by kernel_rfl, rfl⟩) hHeld ?_)
            simp only [Act.put, List.getElem_toArray, List.getElem_cons_succ, List.getElem_cons_zero, List.setIfInBounds_toArray, List.set_cons_zero, List.set_cons_succ]
            (refine wpAnyH_take (i := 25) (v := undef) rfl (by kernel_rfl) (by kernel_rfl) (by kernel_rfl) (fun _ _ _ h => h) (Or.inr ⟨by kernel_rfl, rfl⟩) hHeld ?_)
            simp only [Act.put, List.getElem_toArray, List.getElem_cons_succ, List.getElem_cons_zero, List.setIfInBounds_toArray, List.set_cons_zero, List.set_cons_succ]
            (refine wpAnyH_take (i := 26) (v := ?hv148) rfl (by kernel_rfl) (by kernel_rfl) (by kernel_rfl) (fun _ _ _ h => h) (Or.inl ⟨by kernel_rfl, ?hy148⟩) hHeld ?hr148; case hy148 => (intro w hSw; (try dsimp only at hSw); go_simp; try with_reducible rfl))
            simp only [Act.put, List.getElem_toArray, List.getElem_cons_succ, List.getElem_cons_zero, List.setIfInBounds_toArray, List.set_cons_zero, List.set_cons_succ]
            refine wpAnyH_done (by kernel_rfl) ?_ _
            have HF := Lib.hid hHeld
            clear hHeld
            have HB3 := Lib.hid (HBX.out.trans (HF.out.mono hzx))
            clear HF
            go_wp2
            go_ret
            exact resB_no HN.out HB3.out
          | false =>
            cases b4 with
            | true =>
              have HN := Lib.hid (show ¬ PairsR P from fun h => by have h1 := h.2 k _ Hhx.out; have h2 : x5 = 0 := h1.2.2.2.1; have h3 := H4.out; subst h2; cases h3)
              refine wp_region_held_drew (S := (fun V => Below (wx).heap.size (wx) V)) (by kernel_rfl) ((Below.refl _ _).drew) (fun hHeld => ?_)
              (refine wpAnyH_take (i := 0) (v := ?hv149) rfl (by kernel_rfl) (by kernel_rfl) (by kernel_rfl) (fun _ _ _ h => h) (Or.inl ⟨by kernel_rfl, ?hy149⟩) hHeld ?hr149; case hy149 => (intro w hSw; (try dsimp only at hSw); go_simp; try with_reducible rfl))
              simp only [Act.put, List.getElem_toArray, List.getElem_cons_succ, List.getElem_cons_zero, List.setIfInBounds_toArray, List.set_cons_zero, List.set_cons_succ]
              (refine wpAnyH_take (i := 1) (v := ?hv150) rfl (by kernel_rfl) (by kernel_rfl) (by kernel_rfl) (fun _ _ _ h => h) (Or.inl ⟨by kernel_rfl, ?hy150⟩) hHeld ?hr150; case hy150 => (intro w hSw; (try dsimp only at hSw); have k0 := (hSw.cell (p := ⟨wr.heap.size, 0, none⟩) HXB.out.lt).trans (HXB.out.at_ 0 rfl); have k1 := (hSw.cell (p := ⟨wr.heap.size, 1, none⟩) HXB.out.lt).trans (HXB.out.at_ 1 rfl); clear hSw; go_simp; try with_reducible rfl))
              simp only [Act.put, List.getElem_toArray, List.getElem_cons_succ, List.getElem_cons_zero, List.setIfInBounds_toArray, List.set_cons_zero, List.set_cons_succ]
              refine wpAnyH_ready (rs := [2]) (by kernel_rfl) (by simp) ?_
              refine AllReadyH.cons rfl (fun K hK => ?_) AllReadyH.nil
              go_simp
              go_at_call 24
              refine (ri_at x0 x1 H1.out _).mono ?_
              rintro e v1 ⟨rfl, hb⟩
              refine hK.out _ _ (hHeld.trans (hb.mono hHeld.size)) (fun hHeld => ?_)
              clear hK K hb
              try simp only [Act.put, List.getElem_toArray, List.getElem_cons_succ, List.getElem_cons_zero, List.setIfInBounds_toArray, List.set_cons_zero, List.set_cons_succ]
              (refine wpAnyH_take (i := 3) (v := ?hv151) rfl (by kernel_rfl) (by kernel_rfl) (by kernel_rfl) (fun _ _ _ h => h) (Or.inl ⟨by kernel_rfl, ?hy151⟩) hHeld ?hr151; case hy151 => (intro w hSw; (try dsimp only at hSw); go_simp; try with_reducible rfl))
              simp only [Act.put, List.getElem_toArray, List.getElem_cons_succ, List.getElem_cons_zero, List.setIfInBounds_toArray, List.set_cons_zero, List.set_cons_succ]
              (refine wpAnyH_take (i := 4) (v := ?hv152) rfl (by kernel_rfl) (by kernel_rfl) (by kernel_rfl) (fun _ _ _ h => h) (Or.inl ⟨by kernel_rfl, ?hy152⟩) hHeld ?hr152; case hy152 => (intro w hSw; (try dsimp only at hSw); go_simp; try with_reducible rfl))
              simp only [Act.put, List.getElem_toArray, List.getElem_cons_succ, List.getElem_cons_zero, List.setIfInBounds_toArray, List.set_cons_zero, List.set_cons_succ]
              (refine wpAnyH_take (i := 5) (v := ?hv153) rfl (by kernel_rfl) (by kernel_rfl) (by kernel_rfl) (fun _ _ _ h => h) (Or.inl ⟨by kernel_rfl, ?hy153⟩) hHeld ?hr153; case hy153 => (intro w hSw; (try dsimp only at hSw); go_simp; try with_reducible rfl))
              simp only [Act.put, List.getElem_toArray, List.getElem_cons_succ, List.getElem_cons_zero, List.setIfInBounds_toArray, List.set_cons_zero, List.set_cons_succ]
              (refine wpAnyH_take (i := 6) (v := ?hv154) rfl (by kernel_rfl) (by kernel_rfl) (by kernel_rfl) (fun _ _ _ h => h) (Or.inl ⟨by kernel_rfl, ?hy154⟩) hHeld ?hr154; case hy154 => (intro w hSw; (try dsimp only at hSw); have k0 := (hSw.cell (p := ⟨wr.heap.size, 2, none⟩) HXB.out.lt).trans (HXB.out.at_ 2 rfl); have k1 := (hSw.cell (p := ⟨wr.heap.size, 3, none⟩) HXB.out.lt).trans (HXB.out.at_ 3 rfl); clear hSw; go_simp; try with_reducible rfl))
              simp only [Act.put, List.getElem_toArray, List.getElem_cons_succ, List.getElem_cons_zero, List.setIfInBounds_toArray, List.set_cons_zero, List.set_cons_succ]
              refine wpAnyH_ready (rs := [7]) (by kernel_rfl) (by simp) ?_
              refine AllReadyH.cons rfl (fun K hK => ?_) AllReadyH.nil
              go_simp
              go_at_call 24
              refine (ri_at x2 x3 H2.out _).mono ?_
              rintro e v2 ⟨rfl, hb⟩
              refine hK.out _ _ (hHeld.trans (hb.mono hHeld.size)) (fun hHeld => ?_)
              clear hK K hb
              try simp only [Act.put, List.getElem_toArray, List.getElem_cons_succ, List.getElem_cons_zero, List.setIfInBounds_toArray, List.set_cons_zero, List.set_cons_succ]
              (refine wpAnyH_take (i := 8) (v := ?hv155) rfl (by kernel_rfl) (by kernel_rfl) (by kernel_rfl) (fun _ _ _ h => h) (Or.inl ⟨by kernel_rfl, ?hy155⟩) hHeld ?hr155; case hy155 => (intro w hSw; (try dsimp only at hSw); go_simp; try with_reducible rfl))
              simp only [Act.put, List.getElem_toArray, List.getElem_cons_succ, List.getElem_cons_zero, List.setIfInBounds_toArray, List.set_cons_zero, List.set_cons_succ]
              (refine wpAnyH_take (i := 9) (v := ?hv156) rfl (by kernel_rfl) (by kernel_rfl) (by kernel_rfl) (fun _ _ _ h => h) (Or.inl ⟨by kernel_rfl, ?hy156⟩) hHeld ?hr156; case hy156 => (intro w hSw; (try dsimp only at hSw); go_simp; try with_reducible rfl))
              simp only [Act.put, List.getElem_toArray, List.getElem_cons_succ, List.getElem_cons_zero, List.setIfInBounds_toArray, List.set_cons_zero, List.set_cons_succ]
              (refine wpAnyH_take (i := 10) (v := ?hv157) rfl (by kernel_rfl) (by kernel_rfl) (by kernel_rfl) (fun _ _ _ h => h) (Or.inl ⟨by kernel_rfl, ?hy157⟩) hHeld ?hr157; case hy157 => (intro w hSw; (try dsimp only at hSw); go_simp; try with_reducible rfl))
              simp only [Act.put, List.getElem_toArray, List.getElem_cons_succ, List.getElem_cons_zero, List.setIfInBounds_toArray, List.set_cons_zero, List.set_cons_succ]
              (refine wpAnyH_take (i := 11) (v := ?hv158) rfl (by kernel_rfl) (by kernel_rfl) (by kernel_rfl) (fun _ _ _ h => h) (Or.inl ⟨by kernel_rfl, ?hy158⟩) hHeld ?hr158; case hy158 => (intro w hSw; (try dsimp only at hSw); go_simp; try with_reducible rfl))
              simp only [Act.put, List.getElem_toArray, List.getElem_cons_succ, List.getElem_cons_zero, List.setIfInBounds_toArray, List.set_cons_zero, List.set_cons_succ]
              (refine wpAnyH_take (i := 12) (v := ?hv159) rfl (by kernel_rfl) (by kernel_rfl) (by kernel_rfl) (fun _ _ _ h => h) (Or.inl ⟨by kernel_rfl, ?hy159⟩) hHeld ?hr159; case hy159 => (intro w hSw; (try dsimp only at hSw); have k0 := (hSw.cell (p := ⟨wr.heap.size, 4, none⟩) HXB.out.lt).trans (HXB.out.at_ 4 rfl); clear hSw; go_simp; try with_reducible rfl))
              simp only [Act.put, List.getElem_toArray, List.getElem_cons_succ, List.getElem_cons_zero, List.setIfInBounds_toArray, List.set_cons_zero, List.set_cons_succ]
              (refine wpAnyH_take (i := 13) (v := ?hv160) rfl (by kernel_rfl) (by kernel_rfl) (by kernel_rfl) (fun _ _ _ h => h) (Or.inl ⟨by kernel_rfl, ?hy160⟩) hHeld ?hr160; case hy160 => (intro w hSw; (try dsimp only at hSw); go_simp; try with_reducible rfl))
              simp only [Act.put, List.getElem_toArray, List.getElem_cons_succ, List.getElem_cons_zero, List.setIfInBounds_toArray, List.set_cons_zero, List.set_cons_succ]
              (refine wpAnyH_take (i := 14) (v := ?hv161) rfl (by kernel_rfl) (by kernel_rfl) (by kernel_rfl) (fun _ _ _ h => h) (Or.inl ⟨by kernel_rfl, ?hy161⟩) hHeld ?hr161; case hy161 => (intro w hSw; (try dsimp only at hSw); go_simp; try with_reducible rfl))
              simp only [Act.put, List.getElem_toArray, List.getElem_cons_succ, List.getElem_cons_zero, List.setIfInBounds_toArray, List.set_cons_zero, List.set_cons_succ]
              (refine wpAnyH_take (i := 15) (v := ?hv162) rfl (by kernel_rfl) (by kernel_rfl) (by kernel_rfl) (fun _ _ _ h => h) (Or.inl ⟨by kernel_rfl, ?hy162⟩) hHeld ?hr162; case hy162 => (intro w hSw; (try dsimp only at hSw); go_simp; try with_reducible rfl))
              simp only [Act.put, List.getElem_toArray, List.getElem_cons_succ, List.getElem_cons_zero, List.setIfInBounds_toArray, List.set_cons_zero, List.set_cons_succ]
              (refine wpAnyH_take (i := 16) (v := ?hv163) rfl (by kernel_rfl) (by kernel_rfl) (by kernel_rfl) (fun _ _ _ h => h) (Or.inl ⟨by kernel_rfl, ?hy163⟩) hHeld ?hr163; case hy163 => (intro w hSw; (try dsimp only at hSw); go_simp; try with_reducible rfl))
              simp only [Act.put, List.getElem_toArray, List.getElem_cons_succ, List.getElem_cons_zero, List.setIfInBounds_toArray, List.set_cons_zero, List.set_cons_succ]
              (refine wpAnyH_take (i := 17) (v := ?hv164) rfl (by kernel_rfl) (by kernel_rfl) (by kernel_rfl) (fun _ _ _ h => h) (Or.inl ⟨by kernel_rfl, ?hy164⟩) hHeld ?hr164; case hy164 => (intro w hSw; (try dsimp only at hSw); have k0 := (hSw.cell (p := ⟨wr.heap.size, 5, none⟩) HXB.out.lt).trans (HXB.out.at_ 5 rfl); clear hSw; go_simp; try with_reducible rfl))
              simp only [Act.put, List.getElem_toArray, List.getElem_cons_succ, List.getElem_cons_zero, List.setIfInBounds_toArray, List.set_cons_zero, List.set_cons_succ]
              (refine wpAnyH_take (i := 18) (v := ?hv165) rfl (by kernel_rfl) (by kernel_rfl) (by kernel_rfl) (fun _ _ _ h => h) (Or.inl ⟨by kernel_rfl, ?hy165⟩) hHeld ?hr165; case hy165 => (intro w hSw; (try dsimp only at hSw); go_simp; try with_reducible rfl))
              simp only [Act.put, List.getElem_toArray, List.getElem_cons_succ, List.getElem_cons_zero, List.setIfInBounds_toArray, List.set_cons_zero, List.set_cons_succ]
              (refine wpAnyH_take (i := 19) (v := ?hv166) rfl (by kernel_rfl) (by kernel_rfl) (by kernel_rfl) (fun _ _ _ h => h) (Or.inl ⟨by kernel_rfl, ?hy166⟩) hHeld ?hr166; case hy166 => (intro w hSw; (try dsimp only at hSw); go_simp; try with_reducible rfl))
              simp only [Act.put, List.getElem_toArray, List.getElem_cons_succ, List.getElem_cons_zero, List.setIfInBounds_toArray, List.set_cons_zero, List.set_cons_succ]
              (refine wpAnyH_take (i := 20) (v := ?hv167) rfl (by kernel_rfl) (by kernel_rfl) (by kernel_rfl) (fun _ _ _ h => h) (Or.inl ⟨by kernel_rfl, ?hy167⟩) hHeld ?hr167; case hy167 => (intro w hSw; (try dsimp only at hSw); go_simp; try with_reducible rfl))
              simp only [Act.put, List.getElem_toArray, List.getElem_cons_succ, List.getElem_cons_zero, List.setIfInBounds_toArray, List.set_cons_zero, List.set_cons_succ]
              (refine wpAnyH_take (i := 21) (v := undef) rfl (by kernel_rfl) (by kernel_rfl) (by kernel_rfl) (fun _ _ _ h => h) (Or.inr ⟨by kernel_rfl, rfl⟩) hHeld ?_)
              simp only [Act.put, List.getElem_toArray, List.getElem_cons_succ, List.getElem_cons_zero, List.setIfInBounds_toArray, List.set_cons_zero, List.set_cons_succ]
              (refine wpAnyH_take (i := 22) (v := undef) rfl (by kernel_rfl) (by kernel_rfl) (by kernel_rfl) (fun _ _ _ h => h) (Or.inr ⟨by kernel_rfl, rfl⟩) hHeld ?_)
              simp only [Act.put, List.getElem_toArray, List.getElem_cons_succ, List.getElem_cons_zero, List.setIfInBounds_toArray, List.set_cons_zero, List.set_cons_succ]
              (refine wpAnyH_take (i := 23) (v := undef) rfl (by kernel_rfl) (by kernel_rfl) (by kernel_rfl) (fun _ _ _ h => h) (Or.inr ⟨by kernel_rfl, rfl⟩) hHeld ?_)
              simp only [Act.put, List.getElem_toArray, List.getElem_cons_succ, List.getElem_cons_zero, List.setIfInBounds_toArray, List.set_cons_zero, List.set_cons_succ]
              (refine wpAnyH_take (i := 24) (v := undef) rfl (by kernel_rfl) (by kernel_rfl) (by kernel_rfl) (fun _ _ _ h => h) (Or.inr ⟨by kernel_rfl, rfl⟩) hHeld ?_)
              simp only [Act.put, List.getElem_toArray, List.getElem_cons_succ, List.getElem_cons_zero, List.setIfInBounds_toArray, List.set_cons_zero, List.set_cons_succ]
              (refine wpAnyH_take (i := 25) (v := undef) rfl (by kernel_rfl) (by kernel_rfl) (by kernel_rfl) (fun _ _ _ h => h) (Or.inr ⟨by kernel_rfl, rfl⟩) hHeld ?_)
              simp only [Act.put, List.getElem_toArray, List.getElem_cons_succ, List.getElem_cons_zero, List.setIfInBounds_toArray, List.set_cons_zero, List.set_cons_succ]
              (refine wpAnyH_take (i := 26) (v := ?hv173) rfl (by kernel_rfl) (by kernel_rfl) (by kernel_rfl) (fun _ _ _ h => h) (Or.inl ⟨by kernel_rfl, ?hy173⟩) hHeld ?hr173; case hy173 => (intro w hSw; (try dsimp only at hSw); go_simp; try with_reducible rfl))
              simp only [Act.put, List.getElem_toArray, List.getElem_cons_succ, List.getElem_cons_zero, List.setIfInBounds_toArray, List.set_cons_zero, List.set_cons_succ]
              refine wpAnyH_done (by kernel_rfl) ?_ _
              have HF := Lib.hid hHeld
              clear hHeld
              have HB3 := Lib.hid (HBX.out.trans (HF.out.mono hzx))
              clear HF
              go_wp2
              go_ret
              exact resB_no HN.out HB3.out
            | false =>
              cases b5 with
              | true =>
                have HN := Lib.hid (show ¬ PairsR P from fun h => by have h1 := h.2 k _ Hhx.out; exact h1.2.2.2.2 (H5.out.1 rfl))
                refine wp_region_held_drew (S := (fun V => Below (wx).heap.size (wx) V)) (by kernel_rfl) ((Below.refl _ _).drew) (fun hHeld => ?_)
                (refine wpAnyH_take (i := 0) (v := ?hv174) rfl (by kernel_rfl) (by kernel_rfl) (by kernel_rfl) (fun _ _ _ h => h) (Or.inl ⟨by kernel_rfl, ?hy174⟩) hHeld ?hr174; case hy174 => (intro w hSw; (try dsimp only at hSw); go_simp; try with_reducible rfl))
                simp only [Act.put, List.getElem_toArray, List.getElem_cons_succ, List.getElem_cons_zero, List.setIfInBounds_toArray, List.set_cons_zero, List.set_cons_succ]
                (refine wpAnyH_take (i := 1) (v := ?hv175) rfl (by kernel_rfl) (by kernel_rfl) (by kernel_rfl) (fun _ _ _ h => h) (Or.inl ⟨by kernel_rfl, ?hy175⟩) hHeld ?hr175; case hy175 => (intro w hSw; (try dsimp only at hSw); have k0 := (hSw.cell (p := ⟨wr.heap.size, 0, none⟩) HXB.out.lt).trans (HXB.out.at_ 0 rfl); have k1 := (hSw.cell (p := ⟨wr.heap.size, 1, none⟩) HXB.out.lt).trans (HXB.out.at_ 1 rfl); clear hSw; go_simp; try with_reducible rfl))
                simp only [Act.put, List.getElem_toArray, List.getElem_cons_succ, List.getElem_cons_zero, List.setIfInBounds_toArray, List.set_cons_zero, List.set_cons_succ]
                refine wpAnyH_ready (rs := [2]) (by kernel_rfl) (by simp) ?_
                refine AllReadyH.cons rfl (fun K hK => ?_) AllReadyH.nil
                go_simp
                go_at_call 24
                refine (ri_at x0 x1 H1.out _).mono ?_
                rintro e v1 ⟨rfl, hb⟩
                refine hK.out _ _ (hHeld.trans (hb.mono hHeld.size)) (fun hHeld => ?_)
                clear hK K hb
                try simp only [Act.put, List.getElem_toArray, List.getElem_cons_succ, List.getElem_cons_zero, List.setIfInBounds_toArray, List.set_cons_zero, List.set_cons_succ]
                (refine wpAnyH_take (i := 3) (v := ?hv176) rfl (by kernel_rfl) (by kernel_rfl) (by kernel_rfl) (fun _ _ _ h => h) (Or.inl ⟨by kernel_rfl, ?hy176⟩) hHeld ?hr176; case hy176 => (intro w hSw; (try dsimp only at hSw); go_simp; try with_reducible rfl))
                simp only [Act.put, List.getElem_toArray, List.getElem_cons_succ, List.getElem_cons_zero, List.setIfInBounds_toArray, List.set_cons_zero, List.set_cons_succ]
                (refine wpAnyH_take (i := 4) (v := ?hv177) rfl (by kernel_rfl) (by kernel_rfl) (by kernel_rfl) (fun _ _ _ h => h) (Or.inl ⟨by kernel_rfl, ?hy177⟩) hHeld ?hr177; case hy177 => (intro w hSw; (try dsimp only at hSw); go_simp; try with_reducible rfl))
                simp only [Act.put, List.getElem_toArray, List.getElem_cons_succ, List.getElem_cons_zero, List.setIfInBounds_toArray, List.set_cons_zero, List.set_cons_succ]
                (refine wpAnyH_take (i := 5) (v := ?hv178) rfl (by kernel_rfl) (by kernel_rfl) (by kernel_rfl) (fun _ _ _ h => h) (Or.inl ⟨by kernel_rfl, ?hy178⟩) hHeld ?hr178; case hy178 => (intro w hSw; (try dsimp only at hSw); go_simp; try with_reducible rfl))
                simp only [Act.put, List.getElem_toArray, List.getElem_cons_succ, List.getElem_cons_zero, List.setIfInBounds_toArray, List.set_cons_zero, List.set_cons_succ]
                (refine wpAnyH_take (i := 6) (v := ?hv179) rfl (by kernel_rfl) (by kernel_rfl) (by kernel_rfl) (fun _ _ _ h => h) (Or.inl ⟨by kernel_rfl, ?hy179⟩) hHeld ?hr179; case hy179 => (intro w hSw; (try dsimp only at hSw); have k0 := (hSw.cell (p := ⟨wr.heap.size, 2, none⟩) HXB.out.lt).trans (HXB.out.at_ 2 rfl); have k1 := (hSw.cell (p := ⟨wr.heap.size, 3, none⟩) HXB.out.lt).trans (HXB.out.at_ 3 rfl); clear hSw; go_simp; try with_reducible rfl))
                simp only [Act.put, List.getElem_toArray, List.getElem_cons_succ, List.getElem_cons_zero, List.setIfInBounds_toArray, List.set_cons_zero, List.set_cons_succ]
                refine wpAnyH_ready (rs := [7]) (by kernel_rfl) (by simp) ?_
                refine AllReadyH.cons rfl (fun K hK => ?_) AllReadyH.nil
                go_simp
                go_at_call 24
                refine (ri_at x2 x3 H2.out _).mono ?_
                rintro e v2 ⟨rfl, hb⟩
                refine hK.out _ _ (hHeld.trans (hb.mono hHeld.size)) (fun hHeld => ?_)
                clear hK K hb
                try simp only [Act.put, List.getElem_toArray, List.getElem_cons_succ, List.getElem_cons_zero, List.setIfInBounds_toArray, List.set_cons_zero, List.set_cons_succ]
                (refine wpAnyH_take (i := 8) (v := ?hv180) rfl (by kernel_rfl) (by kernel_rfl) (by kernel_rfl) (fun _ _ _ h => h) (Or.inl ⟨by kernel_rfl, ?hy180⟩) hHeld ?hr180; case hy180 => (intro w hSw; (try dsimp only at hSw); go_simp; try with_reducible rfl))
                simp only [Act.put, List.getElem_toArray, List.getElem_cons_succ, List.getElem_cons_zero, List.setIfInBounds_toArray, List.set_cons_zero, List.set_cons_succ]
                (refine wpAnyH_take (i := 9) (v := ?hv181) rfl (by kernel_rfl) (by kernel_rfl) (by kernel_rfl) (fun _ _ _ h => h) (Or.inl ⟨by kernel_rfl, ?hy181⟩) hHeld ?hr181; case hy181 => (intro w hSw; (try dsimp only at hSw); go_simp; try with_reducible rfl))
                simp only [Act.put, List.getElem_toArray, List.getElem_cons_succ, List.getElem_cons_zero, List.setIfInBounds_toArray, List.set_cons_zero, List.set_cons_succ]
                (refine wpAnyH_take (i := 10) (v := ?hv182) rfl (by kernel_rfl) (by kernel_rfl) (by kernel_rfl) (fun _ _ _ h => h) (Or.inl ⟨by kernel_rfl, ?hy182⟩) hHeld ?hr182; case hy182 => (intro w hSw; (try dsimp only at hSw); go_simp; try with_reducible rfl))
                simp only [Act.put, List.getElem_toArray, List.getElem_cons_succ, List.getElem_cons_zero, List.setIfInBounds_toArray, List.set_cons_zero, List.set_cons_succ]
                (refine wpAnyH_take (i := 11) (v := ?hv183) rfl (by kernel_rfl) (by kernel_rfl) (by kernel_rfl) (fun _ _ _ h => h) (Or.inl ⟨by kernel_rfl, ?hy183⟩) hHeld ?hr183; case hy183 => (intro w hSw; (try dsimp only at hSw); go_simp; try with_reducible rfl))
                simp only [Act.put, List.getElem_toArray, List.getElem_cons_succ, List.getElem_cons_zero, List.setIfInBounds_toArray, List.set_cons_zero, List.set_cons_succ]
                (refine wpAnyH_take (i := 12) (v := ?hv184) rfl (by kernel_rfl) (by kernel_rfl) (by kernel_rfl) (fun _ _ _ h => h) (Or.inl ⟨by kernel_rfl, ?hy184⟩) hHeld ?hr184; case hy184 => (intro w hSw; (try dsimp only at hSw); have k0 := (hSw.cell (p := ⟨wr.heap.size, 4, none⟩) HXB.out.lt).trans (HXB.out.at_ 4 rfl); clear hSw; go_simp; try with_reducible rfl))
                simp only [Act.put, List.getElem_toArray, List.getElem_cons_succ, List.getElem_cons_zero, List.setIfInBounds_toArray, List.set_cons_zero, List.set_cons_succ]
                (refine wpAnyH_take (i := 13) (v := ?hv185) rfl (by kernel_rfl) (by kernel_rfl) (by kernel_rfl) (fun _ _ _ h => h) (Or.inl ⟨by kernel_rfl, ?hy185⟩) hHeld ?hr185; case hy185 => (intro w hSw; (try dsimp only at hSw); go_simp; try with_reducible rfl))
                simp only [Act.put, List.getElem_toArray, List.getElem_cons_succ, List.getElem_cons_zero, List.setIfInBounds_toArray, List.set_cons_zero, List.set_cons_succ]
                (refine wpAnyH_take (i := 14) (v := ?hv186) rfl (by kernel_rfl) (by kernel_rfl) (by kernel_rfl) (fun _ _ _ h => h) (Or.inl ⟨by kernel_rfl, ?hy186⟩) hHeld ?hr186; case hy186 => (intro w hSw; (try dsimp only at hSw); go_simp; try with_reducible rfl))
                simp only [Act.put, List.getElem_toArray, List.getElem_cons_succ, List.getElem_cons_zero, List.setIfInBounds_toArray, List.set_cons_zero, List.set_cons_succ]
                (refine wpAnyH_take (i := 15) (v := ?hv187) rfl (by kernel_rfl) (by kernel_rfl) (by kernel_rfl) (fun _ _ _ h => h) (Or.inl ⟨by kernel_rfl, ?hy187⟩) hHeld ?hr187; case hy187 => (intro w hSw; (try dsimp only at hSw); go_simp; try with_reducible rfl))
                simp only [Act.put, List.getElem_toArray, List.getElem_cons_succ, List.getElem_cons_zero, List.setIfInBounds_toArray, List.set_cons_zero, List.set_cons_succ]
                (refine wpAnyH_take (i := 16) (v := ?hv188) rfl (by kernel_rfl) (by kernel_rfl) (by kernel_rfl) (fun _ _ _ h => h) (Or.inl ⟨by kernel_rfl, ?hy188⟩) hHeld ?hr188; case hy188 => (intro w hSw; (try dsimp only at hSw); go_simp; try with_reducible rfl))
                simp only [Act.put, List.getElem_toArray, List.getElem_cons_succ, List.getElem_cons_zero, List.setIfInBounds_toArray, List.set_cons_zero, List.set_cons_succ]
                (refine wpAnyH_take (i := 17) (v := ?hv189) rfl (by kernel_rfl) (by kernel_rfl) (by kernel_rfl) (fun _ _ _ h => h) (Or.inl ⟨by kernel_rfl, ?hy189⟩) hHeld ?hr189; case hy189 => (intro w hSw; (try dsimp only at hSw); have k0 := (hSw.cell (p := ⟨wr.heap.size, 5, none⟩) HXB.out.lt).trans (HXB.out.at_ 5 rfl); clear hSw; go_simp; try with_reducible rfl))
                simp only [Act.put, List.getElem_toArray, List.getElem_cons_succ, List.getElem_cons_zero, List.setIfInBounds_toArray, List.set_cons_zero, List.set_cons_succ]
                (refine wpAnyH_take (i := 18) (v := ?hv190) rfl (by kernel_rfl) (by kernel_rfl) (by kernel_rfl) (fun _ _ _ h => h) (Or.inl ⟨by kernel_rfl, ?hy190⟩) hHeld ?hr190; case hy190 => (intro w hSw; (try dsimp only at hSw); go_simp; try with_reducible rfl))
                simp only [Act.put, List.getElem_toArray, List.getElem_cons_succ, List.getElem_cons_zero, List.setIfInBounds_toArray, List.set_cons_zero, List.set_cons_succ]
                (refine wpAnyH_take (i := 19) (v := ?hv191) rfl (by kernel_rfl) (by kernel_rfl) (by kernel_rfl) (fun _ _ _ h => h) (Or.inl ⟨by kernel_rfl, ?hy191⟩) hHeld ?hr191; case hy191 => (intro w hSw; (try dsimp only at hSw); go_simp; try with_reducible rfl))
                simp only [Act.put, List.getElem_toArray, List.getElem_cons_succ, List.getElem_cons_zero, List.setIfInBounds_toArray, List.set_cons_zero, List.set_cons_succ]
                (refine wpAnyH_take (i := 20) (v := ?hv192) rfl (by kernel_rfl) (by kernel_rfl) (by kernel_rfl) (fun _ _ _ h => h) (Or.inl ⟨by kernel_rfl, ?hy192⟩) hHeld ?hr192; case hy192 => (intro w hSw; (try dsimp only at hSw); go_simp; try with_reducible rfl))
                simp only [Act.put, List.getElem_toArray, List.getElem_cons_succ, List.getElem_cons_zero, List.setIfInBounds_toArray, List.set_cons_zero, List.set_cons_succ]
                (refine wpAnyH_take (i := 21) (v := ?hv193) rfl (by kernel_rfl) (by kernel_rfl) (by kernel_rfl) (fun _ _ _ h => h) (Or.inl ⟨by kernel_rfl, ?hy193⟩) hHeld ?hr193; case hy193 => (intro w hSw; (try dsimp only at hSw); go_simp; try with_reducible rfl))
                simp only [Act.put, List.getElem_toArray, List.getElem_cons_succ, List.getElem_cons_zero, List.setIfInBounds_toArray, List.set_cons_zero, List.set_cons_succ]
                (refine wpAnyH_take (i := 22) (v := ?hv194) rfl (by kernel_rfl) (by kernel_rfl) (by kernel_rfl) (fun _ _ _ h => h) (Or.inl ⟨by kernel_rfl, ?hy194⟩) hHeld ?hr194; case hy194 => (intro w hSw; (try dsimp only at hSw); go_simp; try with_reducible rfl))
                simp only [Act.put, List.getElem_toArray, List.getElem_cons_succ, List.getElem_cons_zero, List.setIfInBounds_toArray, List.set_cons_zero, List.set_cons_succ]
                (refine wpAnyH_take (i := 23) (v := ?hv195) rfl (by kernel_rfl) (by kernel_rfl) (by kernel_rfl) (fun _ _ _ h => h) (Or.inl ⟨by kernel_rfl, ?hy195⟩) hHeld ?hr195; case hy195 => (intro w hSw; (try dsimp only at hSw); go_simp; try with_reducible rfl))
                simp only [Act.put, List.getElem_toArray, List.getElem_cons_succ, List.getElem_cons_zero, List.setIfInBounds_toArray, List.set_cons_zero, List.set_cons_succ]
                (refine wpAnyH_take (i := 24) (v := ?hv196) rfl (by kernel_rfl) (by kernel_rfl) (by kernel_rfl) (fun _ _ _ h => h) (Or.inl ⟨by kernel_rfl, ?hy196⟩) hHeld ?hr196; case hy196 => (intro w hSw; (try dsimp only at hSw); have k0 := (hSw.cell (p := ⟨wr.heap.size, 0, none⟩) HXB.out.lt).trans (HXB.out.at_ 0 rfl); have k1 := (hSw.cell (p := ⟨wr.heap.size, 1, none⟩) HXB.out.lt).trans (HXB.out.at_ 1 rfl); have k2 := (hSw.cell (p := ⟨wr.heap.size, 2, none⟩) HXB.out.lt).trans (HXB.out.at_ 2 rfl); have k3 := (hSw.cell (p := ⟨wr.heap.size, 3, none⟩) HXB.out.lt).trans (HXB.out.at_ 3 rfl); have k4 := (hSw.cell (p := ⟨wr.heap.size, 4, none⟩) HXB.out.lt).trans (HXB.out.at_ 4 rfl); have k5 := (hSw.cell (p := ⟨wr.heap.size, 5, none⟩) HXB.out.lt).trans (HXB.out.at_ 5 rfl); clear hSw; go_simp; try with_reducible rfl))
                simp only [Act.put, List.getElem_toArray, List.getElem_cons_succ, List.getElem_cons_zero, List.setIfInBounds_toArray, List.set_cons_zero, List.set_cons_succ]
                refine wpAnyH_ready (rs := [25]) (by kernel_rfl) (by simp) ?_
                refine AllReadyH.cons rfl (fun K hK => ?_) AllReadyH.nil
                go_simp
                go_at_call 91
                refine (contains_at hkl (gmvS HPX.out hHeld) H5.out).mono ?_
                rintro e v3 ⟨rfl, hb⟩
                refine hK.out _ _ (hHeld.trans (hb.mono hHeld.size)) (fun hHeld => ?_)
                clear hK K hb
                try simp only [Act.put, List.getElem_toArray, List.getElem_cons_succ, List.getElem_cons_zero, List.setIfInBounds_toArray, List.set_cons_zero, List.set_cons_succ]
                (refine wpAnyH_take (i := 26) (v := ?hv197) rfl (by kernel_rfl) (by kernel_rfl) (by kernel_rfl) (fun _ _ _ h => h) (Or.inl ⟨by kernel_rfl, ?hy197⟩) hHeld ?hr197; case hy197 => (intro w hSw; (try dsimp only at hSw); go_simp; try with_reducible rfl))
                simp only [Act.put, List.getElem_toArray, List.getElem_cons_succ, List.getElem_cons_zero, List.setIfInBounds_toArray, List.set_cons_zero, List.set_cons_succ]
                refine wpAnyH_done (by kernel_rfl) ?_ _
                have HF := Lib.hid hHeld
                clear hHeld
                have HB3 := Lib.hid (HBX.out.trans (HF.out.mono hzx))
                clear HF
                go_wp2
                go_ret
                exact resB_no HN.out HB3.out
              | false =>
                have HS := Lib.hid (show ∀ (j : Nat) (x : D_Letter), j < k + 1 → P[j]? = some x → PairOk P j x from fun j y hj hy => by
                  by_cases e : j = k
                  · subst e
                    have := Hhx.out
                    rw [hy] at this
                    obtain rfl := Option.some.inj this
                    exact ⟨H1.out, H2.out, by simpa using H3.out, by simpa using H4.out, fun h => by have := H5.out.2 h; cases this⟩
                  · exact HA.out j y (by omega) hy)
                refine wp_region_held_drew (S := (fun V => Below (wx).heap.size (wx) V)) (by kernel_rfl) ((Below.refl _ _).drew) (fun hHeld => ?_)
                (refine wpAnyH_take (i := 0) (v := ?hv198) rfl (by kernel_rfl) (by kernel_rfl) (by kernel_rfl) (fun _ _ _ h => h) (Or.inl ⟨by kernel_rfl, ?hy198⟩) hHeld ?hr198; case hy198 => (intro w hSw; (try dsimp only at hSw); go_simp; try with_reducible rfl))
                simp only [Act.put, List.getElem_toArray, List.getElem_cons_succ, List.getElem_cons_zero, List.setIfInBounds_toArray, List.set_cons_zero, List.set_cons_succ]
                (refine wpAnyH_take (i := 1) (v := ?hv199) rfl (by kernel_rfl) (by kernel_rfl) (by kernel_rfl) (fun _ _ _ h => h) (Or.inl ⟨by kernel_rfl, ?hy199⟩) hHeld ?hr199; case hy199 => (intro w hSw; (try dsimp only at hSw); have k0 := (hSw.cell (p := ⟨wr.heap.size, 0, none⟩) HXB.out.lt).trans (HXB.out.at_ 0 rfl); have k1 := (hSw.cell (p := ⟨wr.heap.size, 1, none⟩) HXB.out.lt).trans (HXB.out.at_ 1 rfl); clear hSw; go_simp; try with_reducible rfl))
                simp only [Act.put, List.getElem_toArray, List.getElem_cons_succ, List.getElem_cons_zero, List.setIfInBounds_toArray, List.set_cons_zero, List.set_cons_succ]
                refine wpAnyH_ready (rs := [2]) (by kernel_rfl) (by simp) ?_
                refine AllReadyH.cons rfl (fun K hK => ?_) AllReadyH.nil
                go_simp
                go_at_call 24
                refine (ri_at x0 x1 H1.out _).mono ?_
                rintro e v1 ⟨rfl, hb⟩
                refine hK.out _ _ (hHeld.trans (hb.mono hHeld.size)) (fun hHeld => ?_)
                clear hK K hb
                try simp only [Act.put, List.getElem_toArray, List.getElem_cons_succ, List.getElem_cons_zero, List.setIfInBounds_toArray, List.set_cons_zero, List.set_cons_succ]
                (refine wpAnyH_take (i := 3) (v := ?hv200) rfl (by kernel_rfl) (by kernel_rfl) (by kernel_rfl) (fun _ _ _ h => h) (Or.inl ⟨by kernel_rfl, ?hy200⟩) hHeld ?hr200; case hy200 => (intro w hSw; (try dsimp only at hSw); go_simp; try with_reducible rfl))
                simp only [Act.put, List.getElem_toArray, List.getElem_cons_succ, List.getElem_cons_zero, List.setIfInBounds_toArray, List.set_cons_zero, List.set_cons_succ]
                (refine wpAnyH_take (i := 4) (v := ?hv201) rfl (by kernel_rfl) (by kernel_rfl) (by kernel_rfl) (fun _ _ _ h => h) (Or.inl ⟨by kernel_rfl, ?hy201⟩) hHeld ?hr201; case hy201 => (intro w hSw; (try dsimp only at hSw); go_simp; try with_reducible rfl))
                simp only [Act.put, List.getElem_toArray, List.getElem_cons_succ, List.getElem_cons_zero, List.setIfInBounds_toArray, List.set_cons_zero, List.set_cons_succ]
                (refine wpAnyH_take (i := 5) (v := ?hv202) rfl (by kernel_rfl) (by kernel_rfl) (by kernel_rfl) (fun _ _ _ h => h) (Or.inl ⟨by kernel_rfl, ?hy202⟩) hHeld ?hr202; case hy202 => (intro w hSw; (try dsimp only at hSw); go_simp; try with_reducible rfl))
                simp only [Act.put, List.getElem_toArray, List.getElem_cons_succ, List.getElem_cons_zero, List.setIfInBounds_toArray, List.set_cons_zero, List.set_cons_succ]
                (refine wpAnyH_take (i := 6) (v := ?hv203) rfl (by kernel_rfl) (by kernel_rfl) (by kernel_rfl) (fun _ _ _ h => h) (Or.inl ⟨by kernel_rfl, ?hy203⟩) hHeld ?hr203; case hy203 => (intro w hSw; (try dsimp only at hSw); have k0 := (hSw.cell (p := ⟨wr.heap.size, 2, none⟩) HXB.out.lt).trans (HXB.out.at_ 2 rfl); have k1 := (hSw.cell (p := ⟨wr.heap.size, 3, none⟩) HXB.out.lt).trans (HXB.out.at_ 3 rfl); clear hSw; go_simp; try with_reducible rfl))
                simp only [Act.put, List.getElem_toArray, List.getElem_cons_succ, List.getElem_cons_zero, List.setIfInBounds_toArray, List.set_cons_zero, List.set_cons_succ]
                refine wpAnyH_ready (rs := [7]) (by kernel_rfl) (by simp) ?_
                refine AllReadyH.cons rfl (fun K hK => ?_) AllReadyH.nil
                go_simp
                go_at_call 24
                refine (ri_at x2 x3 H2.out _).mono ?_
                rintro e v2 ⟨rfl, hb⟩
                refine hK.out _ _ (hHeld.trans (hb.mono hHeld.size)) (fun hHeld => ?_)
                clear hK K hb
                try simp only [Act.put, List.getElem_toArray, List.getElem_cons_succ, List.getElem_cons_zero, List.setIfInBounds_toArray, List.set_cons_zero, List.set_cons_succ]
                (refine wpAnyH_take (i := 8) (v := ?hv204) rfl (by kernel_rfl) (by kernel_rfl) (by kernel_rfl) (fun _ _ _ h => h) (Or.inl ⟨by kernel_rfl, ?hy204⟩) hHeld ?hr204; case hy204 => (intro w hSw; (try dsimp only at hSw); go_simp; try with_reducible rfl))
                simp only [Act.put, List.getElem_toArray, List.getElem_cons_succ, List.getElem_cons_zero, List.setIfInBounds_toArray, List.set_cons_zero, List.set_cons_succ]
                (refine wpAnyH_take (i := 9) (v := ?hv205) rfl (by kernel_rfl) (by kernel_rfl) (by kernel_rfl) (fun _ _ _ h => h) (Or.inl ⟨by kernel_rfl, ?hy205⟩) hHeld ?hr205; case hy205 => (intro w hSw; (try dsimp only at hSw); go_simp; try with_reducible rfl))
                simp only [Act.put, List.getElem_toArray, List.getElem_cons_succ, List.getElem_cons_zero, List.setIfInBounds_toArray, List.set_cons_zero, List.set_cons_succ]
                (refine wpAnyH_take (i := 10) (v := ?hv206) rfl (by kernel_rfl) (by kernel_rfl) (by kernel_rfl) (fun _ _ _ h => h) (Or.inl ⟨by kernel_rfl, ?hy206⟩) hHeld ?hr206; case hy206 => (intro w hSw; (try dsimp only at hSw); go_simp; try with_reducible rfl))
                simp only [Act.put, List.getElem_toArray, List.getElem_cons_succ, List.getElem_cons_zero, List.setIfInBounds_toArray, List.set_cons_zero, List.set_cons_succ]
                (refine wpAnyH_take (i := 11) (v := ?hv207) rfl (by kernel_rfl) (by kernel_rfl) (by kernel_rfl) (fun _ _ _ h => h) (Or.inl ⟨by kernel_rfl, ?hy207⟩) hHeld ?hr207; case hy207 => (intro w hSw; (try dsimp only at hSw); go_simp; try with_reducible rfl))
                simp only [Act.put, List.getElem_toArray, List.getElem_cons_succ, List.getElem_cons_zero, List.setIfInBounds_toArray, List.set_cons_zero, List.set_cons_succ]
                (refine wpAnyH_take (i := 12) (v := ?hv208) rfl (by kernel_rfl) (by kernel_rfl) (by kernel_rfl) (fun _ _ _ h => h) (Or.inl ⟨by kernel_rfl, ?hy208⟩) hHeld ?hr208; case hy208 => (intro w hSw; (try dsimp only at hSw); have k0 := (hSw.cell (p := ⟨wr.heap.size, 4, none⟩) HXB.out.lt).trans (HXB.out.at_ 4 rfl); clear hSw; go_simp; try with_reducible rfl))
                simp only [Act.put, List.getElem_toArray, List.getElem_cons_succ, List.getElem_cons_zero, List.setIfInBounds_toArray, List.set_cons_zero, List.set_cons_succ]
                (refine wpAnyH_take (i := 13) (v := ?hv209) rfl (by kernel_rfl) (by kernel_rfl) (by kernel_rfl) (fun _ _ _ h => h) (Or.inl ⟨by kernel_rfl, ?hy209⟩) hHeld ?hr209; case hy209 => (intro w hSw; (try dsimp only at hSw); go_simp; try with_reducible rfl))
                simp only [Act.put, List.getElem_toArray, List.getElem_cons_succ, List.getElem_cons_zero, List.setIfInBounds_toArray, List.set_cons_zero, List.set_cons_succ]
                (refine wpAnyH_take (i := 14) (v := ?hv210) rfl (by kernel_rfl) (by kernel_rfl) (by kernel_rfl) (fun _ _ _ h => h) (Or.inl ⟨by kernel_rfl, ?hy210⟩) hHeld ?hr210; case hy210 => (intro w hSw; (try dsimp only at hSw); go_simp; try with_reducible rfl))
                simp only [Act.put, List.getElem_toArray, List.getElem_cons_succ, List.getElem_cons_zero, List.setIfInBounds_toArray, List.set_cons_zero, List.set_cons_succ]
                (refine wpAnyH_take (i := 15) (v := ?hv211) rfl (by kernel_rfl) (by kernel_rfl) (by kernel_rfl) (fun _ _ _ h => h) (Or.inl ⟨by kernel_rfl, ?hy211⟩) hHeld ?hr211; case hy211 => (intro w hSw; (try dsimp only at hSw); go_simp; try with_reducible rfl))
                simp only [Act.put, List.getElem_toArray, List.getElem_cons_succ, List.getElem_cons_zero, List.setIfInBounds_toArray, List.set_cons_zero, List.set_cons_succ]
                (refine wpAnyH_take (i := 16) (v := ?hv212) rfl (by kernel_rfl) (by kernel_rfl) (by kernel_rfl) (fun _ _ _ h => h) (Or.inl ⟨by kernel_rfl, ?hy212⟩) hHeld ?hr212; case hy212 => (intro w hSw; (try dsimp only at hSw); go_simp; try with_reducible rfl))
                simp only [Act.put, List.getElem_toArray, List.getElem_cons_succ, List.getElem_cons_zero, List.setIfInBounds_toArray, List.set_cons_zero, List.set_cons_succ]
                (refine wpAnyH_take (i := 17) (v := ?hv213) rfl (by kernel_rfl) (by kernel_rfl) (by kernel_rfl) (fun _ _ _ h => h) (Or.inl ⟨by kernel_rfl, ?hy213⟩) hHeld ?hr213; case hy213 => (intro w hSw; (try dsimp only at hSw); have k0 := (hSw.cell (p := ⟨wr.heap.size, 5, none⟩) HXB.out.lt).trans (HXB.out.at_ 5 rfl); clear hSw; go_simp; try with_reducible rfl))
                simp only [Act.put, List.getElem_toArray, List.getElem_cons_succ, List.getElem_cons_zero, List.setIfInBounds_toArray, List.set_cons_zero, List.set_cons_succ]
                (refine wpAnyH_take (i := 18) (v := ?hv214) rfl (by kernel_rfl) (by kernel_rfl) (by kernel_rfl) (fun _ _ _ h => h) (Or.inl ⟨by kernel_rfl, ?hy214⟩) hHeld ?hr214; case hy214 => (intro w hSw; (try dsimp only at hSw); go_simp; try with_reducible rfl))
                simp only [Act.put, List.getElem_toArray, List.getElem_cons_succ, List.getElem_cons_zero, List.setIfInBounds_toArray, List.set_cons_zero, List.set_cons_succ]
                (refine wpAnyH_take (i := 19) (v := ?hv215) rfl (by kernel_rfl) (by kernel_rfl) (by kernel_rfl) (fun _ _ _ h => h) (Or.inl ⟨by kernel_rfl, ?hy215⟩) hHeld ?hr215; case hy215 => (intro w hSw; (try dsimp only at hSw); go_simp; try with_reducible rfl))
                simp only [Act.put, List.getElem_toArray, List.getElem_cons_succ, List.getElem_cons_zero, List.setIfInBounds_toArray, List.set_cons_zero, List.set_cons_succ]
                (refine wpAnyH_take (i := 20) (v := ?hv216) rfl (by kernel_rfl) (by kernel_rfl) (by kernel_rfl) (fun _ _ _ h => h) (Or.inl ⟨by kernel_rfl, ?hy216⟩) hHeld ?hr216; case hy216 => (intro w hSw; (try dsimp only at hSw); go_simp; try with_reducible rfl))
                simp only [Act.put, List.getElem_toArray, List.getElem_cons_succ, List.getElem_cons_zero, List.setIfInBounds_toArray, List.set_cons_zero, List.set_cons_succ]
                (refine wpAnyH_take (i := 21) (v := ?hv217) rfl (by kernel_rfl) (by kernel_rfl) (by kernel_rfl) (fun _ _ _ h => h) (Or.inl ⟨by kernel_rfl, ?hy217⟩) hHeld ?hr217; case hy217 => (intro w hSw; (try dsimp only at hSw); go_simp; try with_reducible rfl))
                simp only [Act.put, List.getElem_toArray, List.getElem_cons_succ, List.getElem_cons_zero, List.setIfInBounds_toArray, List.set_cons_zero, List.set_cons_succ]
                (refine wpAnyH_take (i := 22) (v := ?hv218) rfl (by kernel_rfl) (by kernel_rfl) (by kernel_rfl) (fun _ _ _ h => h) (Or.inl ⟨by kernel_rfl, ?hy218⟩) hHeld ?hr218; case hy218 => (intro w hSw; (try dsimp only at hSw); go_simp; try with_reducible rfl))
                simp only [Act.put, List.getElem_toArray, List.getElem_cons_succ, List.getElem_cons_zero, List.setIfInBounds_toArray, List.set_cons_zero, List.set_cons_succ]
                (refine wpAnyH_take (i := 23) (v := ?hv219) rfl (by kernel_rfl) (by kernel_rfl) (by kernel_rfl) (fun _ _ _ h => h) (Or.inl ⟨by kernel_rfl, ?hy219⟩) hHeld ?hr219; case hy219 => (intro w hSw; (try dsimp only at hSw); go_simp; try with_reducible rfl))
                simp only [Act.put, List.getElem_toArray, List.getElem_cons_succ, List.getElem_cons_zero, List.setIfInBounds_toArray, List.set_cons_zero, List.set_cons_succ]
                (refine wpAnyH_take (i := 24) (v := ?hv220) rfl (by kernel_rfl) (by kernel_rfl) (by kernel_rfl) (fun _ _ _ h => h) (Or.inl ⟨by kernel_rfl, ?hy220⟩) hHeld ?hr220; case hy220 => (intro w hSw; (try dsimp only at hSw); have k0 := (hSw.cell (p := ⟨wr.heap.size, 0, none⟩) HXB.out.lt).trans (HXB.out.at_ 0 rfl); have k1 := (hSw.cell (p := ⟨wr.heap.size, 1, none⟩) HXB.out.lt).trans (HXB.out.at_ 1 rfl); have k2 := (hSw.cell (p := ⟨wr.heap.size, 2, none⟩) HXB.out.lt).trans (HXB.out.at_ 2 rfl); have k3 := (hSw.cell (p := ⟨wr.heap.size, 3, none⟩) HXB.out.lt).trans (HXB.out.at_ 3 rfl); have k4 := (hSw.cell (p := ⟨wr.heap.size, 4, none⟩) HXB.out.lt).trans (HXB.out.at_ 4 rfl); have k5 := (hSw.cell (p := ⟨wr.heap.size, 5, none⟩) HXB.out.lt).trans (HXB.out.at_ 5 rfl); clear hSw; go_simp; try with_reducible rfl))
                simp only [Act.put, List.getElem_toArray, List.getElem_cons_succ, List.getElem_cons_zero, List.setIfInBounds_toArray, List.set_cons_zero, List.set_cons_succ]
                refine wpAnyH_ready (rs := [25]) (by kernel_rfl) (by simp) ?_
                refine AllReadyH.cons rfl (fun K hK => ?_) AllReadyH.nil
                go_simp
                go_at_call 91
                refine (contains_at hkl (gmvS HPX.out hHeld) H5.out).mono ?_
                rintro e v3 ⟨rfl, hb⟩
                refine hK.out _ _ (hHeld.trans (hb.mono hHeld.size)) (fun hHeld => ?_)
                clear hK K hb
                try simp only [Act.put, List.getElem_toArray, List.getElem_cons_succ, List.getElem_cons_zero, List.setIfInBounds_toArray, List.set_cons_zero, List.set_cons_succ]
                (refine wpAnyH_take (i := 26) (v := ?hv221) rfl (by kernel_rfl) (by kernel_rfl) (by kernel_rfl) (fun _ _ _ h => h) (Or.inl ⟨by kernel_rfl, ?hy221⟩) hHeld ?hr221; case hy221 => (intro w hSw; (try dsimp only at hSw); go_simp; try with_reducible rfl))
                simp only [Act.put, List.getElem_toArray, List.getElem_cons_succ, List.getElem_cons_zero, List.setIfInBounds_toArray, List.set_cons_zero, List.set_cons_succ]
                refine wpAnyH_done (by kernel_rfl) ?_ _
                have HF := Lib.hid hHeld
                clear hHeld
                have HB3 := Lib.hid (HBX.out.trans (HF.out.mono hzx))
                clear HF
                go_wp2
                go_roundw
                case rel => exact ⟨k + 1, by omega, by go_num, HS, HB3.out⟩
                case measure => simp [intOf]; omega
    · have hd1 : decide ((k : Int) < (P.length : Int)) = false := decide_eq_false (by omega)
      have HY := Lib.hid (show PairsR P from ⟨h4, fun i x hx => HA.out i x (by have := el_lt hx; omega) hx⟩)
      clear hB
      go_wp2
      go_ret
      exact resB_yes HY.out HB.out
set_option maxRecDepth 100000 in
set_option maxHeartbeats 4000000 in
theorem letters_impl {L : List D_Letter} {la : Option Addr} {lc : Nat} {most : Int} {P B A : List D_Letter} {pa ba aa : Option Addr} {pc bc ac : Nat} {u n : Int} {W : World} (hP4 : P.length ≤ 4) (hP : RdSl R_Letter W W.heap.size P pa pc) (hL : RdSl R_Letter W W.heap.size L la lc) :
    Calls Tryd.prog 71 #[.agg #[.slice pa P.length pc, .slice ba B.length bc, .slice aa A.length ac, .int .i64 u, .int .i64 n], .slice la L.length lc, .int .i64 most] W (ResB (LettersR P n L most) W) := by
  have hn : L.length ≤ 9223372036854775807 := by have h1 := hL.1; have h2 := hL.2.1; unfold maxLen at h2; omega
  have HP := Lib.hid hP
  have H := Lib.hid hL
  clear hP hL
  obtain ⟨hb0, hp0⟩ := bx1 W #[.slice pa P.length pc, .slice ba B.length bc, .slice aa A.length ac, .int .i64 u, .int .i64 n] 42
  have HB0 := Lib.hid hb0
  have HD0 := Lib.hid hp0
  clear hb0 hp0
  by_cases hm : (L.length : Int) ≤ most
  rotate_left
  · have hd : decide ((L.length : Int) > most) = true := decide_eq_true (by omega)
    have HN := Lib.hid (show ¬ LettersR P n L most from fun h => hm h.1)
    go_enter Tryd.func71, Tryd.ntmps71
    go_wp2
    go_ret
    exact resB_no HN.out HB0.out
  have HM := Lib.hid hm
  have hd : decide ((L.length : Int) > most) = false := decide_eq_false (by omega)
  clear hm
  go_enter Tryd.func71, Tryd.ntmps71
  go_wp2
  go_loopw [7, 16] (fun l i wr => ∃ k : Nat, k ≤ L.length ∧ i = .int .i64 k ∧ (∃ m : Int, l = .int .i64 m ∧ Hid (0 ≤ m ∧ (k = 0 → m = 0) ∧ ∀ y, 0 < k → L[k - 1]? = some y → y.2.2.1 = m)) ∧ Hid (∀ (j : Nat) (x : D_Letter), j < k → L[j]? = some x → LetOk P n L j x) ∧ Below W.heap.size W wr ∧ Hid (Blk wr (W.heap.size) 42 #[.slice pa P.length pc, .slice ba B.length bc, .slice aa A.length ac, .int .i64 u, .int .i64 n])) (fun _ i _ => L.length - (intOf i).toNat)
  case atStart => exact ⟨0, Nat.zero_le _, rfl, ⟨0, rfl, Lib.hid ⟨by omega, fun _ => rfl, fun y h => absurd h (Nat.lt_irrefl _)⟩⟩, Lib.hid fun j x h => absurd h (Nat.not_lt_zero _), HB0.out, HD0⟩
  case round =>
    obtain ⟨k, hk, rfl, ⟨m, rfl, HLM⟩, HA, hB, HD⟩ := hrel
    have HB := Lib.hid hB
    have hsz := hB.size
    by_cases hlt : k < L.length
    · obtain ⟨⟨⟨x0, x1⟩, ⟨x2, x3⟩, x4, x5⟩, hx⟩ := el_some hlt
      have Hhx := Lib.hid hx
      obtain ⟨g, o, us, rfl, hgg, hu, hr⟩ := (H.out.below R_Letter_ok hB).at_ hx
      obtain rfl := rd_Letter hr
      have e0 : wr.cell? ⟨g, o + k * 6, none⟩ = some (.int .i64 x0) := by simpa [size_LetterS, Nat.add_assoc] using hu 0 _ rfl
      have e1 : wr.cell? ⟨g, o + k * 6 + 1, none⟩ = some (.int .i64 x1) := by simpa [size_LetterS, Nat.add_assoc] using hu 1 _ rfl
      have e2 : wr.cell? ⟨g, o + k * 6 + 2, none⟩ = some (.int .i64 x2) := by simpa [size_LetterS, Nat.add_assoc] using hu 2 _ rfl
      have e3 : wr.cell? ⟨g, o + k * 6 + 3, none⟩ = some (.int .i64 x3) := by simpa [size_LetterS, Nat.add_assoc] using hu 3 _ rfl
      have e4 : wr.cell? ⟨g, o + k * 6 + 4, none⟩ = some (.int .i64 x4) := by simpa [size_LetterS, Nat.add_assoc] using hu 4 _ rfl
      have e5 : wr.cell? ⟨g, o + k * 6 + 5, none⟩ = some (.int .i64 x5) := by simpa [size_LetterS, Nat.add_assoc] using hu 5 _ rfl
      have hi0 : (0 : Int) ≤ (k : Int) := Int.natCast_nonneg _
      have hi1 : (k : Int) < (L.length : Int) := by omega
      have hgl : g < wr.heap.size := Nat.lt_of_lt_of_le hgg hsz
      clear hB hx hu hr
      obtain ⟨b1, H1⟩ := nameB (HasCh P (x0, x1) (x2, x3))
      obtain ⟨b2, H2⟩ : ∃ b, Hid (isB x4 m n = b) := ⟨_, Lib.hid rfl⟩
      obtain ⟨b3, H3⟩ : ∃ b, Hid (isB x5 0 1000000 = b) := ⟨_, Lib.hid rfl⟩
      have HX0 := Lib.hid (show Below wr.heap.size wr (wr.alloc (.cells #[.int .i64 x0, .int .i64 x1, .int .i64 x2, .int .i64 x3, .int .i64 x4, .int .i64 x5] 87)) from (Below.refl _ _).alloc (Nat.le_refl _) _)
      have HXB := Lib.hid (Blk.new wr 87 #[.int .i64 x0, .int .i64 x1, .int .i64 x2, .int .i64 x3, .int .i64 x4, .int .i64 x5])
      obtain ⟨wx, hwx⟩ : ∃ w, w = wr.alloc (.cells #[.int .i64 x0, .int .i64 x1, .int .i64 x2, .int .i64 x3, .int .i64 x4, .int .i64 x5] 87) := ⟨_, rfl⟩
      rw [← hwx] at HX0 HXB
      have HBX := Lib.hid (HB.out.trans (HX0.out.mono hsz))
      have hzx := HBX.out.size
      have HDX := Lib.hid (show Blk wx (W.heap.size) 42 #[.slice pa P.length pc, .slice ba B.length bc, .slice aa A.length ac, .int .i64 u, .int .i64 n] from HD.out.call HX0.out)
      have HPX := Lib.hid ((HP.out.below R_Letter_ok HBX.out).more R_Letter_ok hzx)
      have l0_0 := HDX.out.at_ 0 rfl
      have l0_1 := HDX.out.at_ 1 rfl
      have l0_2 := HDX.out.at_ 2 rfl
      have l0_3 := HDX.out.at_ 3 rfl
      have l0_4 := HDX.out.at_ 4 rfl
      rw [hwx] at l0_0 l0_1 l0_2 l0_3 l0_4
      go_wp2_with fail
      rw [← hwx]
      clear hwx
      have HOK : Hid (b1 = true → b2 = true → b3 = true → LetOk P n L k ((x0, x1), (x2, x3), x4, x5)) := Lib.hid fun e1 e2 e3 => by
        subst e1 e2 e3
        obtain ⟨g0, g1, g2⟩ := HLM.out
        have h2 := H2.out
        simp only [isB, Bool.and_eq_true, decide_eq_true_iff] at h2
        refine ⟨H1.out.1 rfl, ?_, H3.out, fun y hk0 hy => ?_⟩
        · simp only [isB, Bool.and_eq_true, decide_eq_true_iff]; omega
        · have := g2 y hk0 hy; show y.2.2.1 ≤ x4; omega
      have HNO : Hid (LetOk P n L k ((x0, x1), (x2, x3), x4, x5) → b1 = true ∧ b2 = true ∧ b3 = true) := Lib.hid fun h => by
        obtain ⟨g0, g1, g2⟩ := HLM.out
        refine ⟨H1.out.2 h.1, ?_, H3.out.symm.trans h.2.2.1⟩
        have h2 : isB x4 0 n = true := h.2.1
        rw [← H2.out]
        simp only [isB, Bool.and_eq_true, decide_eq_true_iff] at h2 ⊢
        refine ⟨?_, h2.2⟩
        by_cases hk0 : 0 < k
        · obtain ⟨y, hy⟩ := el_some (L := L) (k := k - 1) (by omega)
          have h3 := g2 y hk0 hy
          have h4 : y.2.2.1 ≤ x4 := h.2.2.2 y hk0 hy
          omega
        · have := g1 (by omega); omega
      refine (chan_impl hP4 HPX.out H1.out).mono ?_
      rintro e w1 ⟨rfl, hb⟩
      have HB1 := Lib.hid (HBX.out.trans (hb.mono hzx))
      have hz1 := HB1.out.size
      have HX1 := Lib.hid (HXB.out.call hb)
      have HD1 := Lib.hid (HDX.out.call hb)
      have m1_0 := HX1.out.at_ 0 rfl
      have m1_1 := HX1.out.at_ 1 rfl
      have m1_2 := HX1.out.at_ 2 rfl
      have m1_3 := HX1.out.at_ 3 rfl
      have m1_4 := HX1.out.at_ 4 rfl
      have m1_5 := HX1.out.at_ 5 rfl
      have l1_0 := HD1.out.at_ 0 rfl
      have l1_1 := HD1.out.at_ 1 rfl
      have l1_2 := HD1.out.at_ 2 rfl
      have l1_3 := HD1.out.at_ 3 rfl
      have l1_4 := HD1.out.at_ 4 rfl
      clear hb
      cases b1 with
      | false =>
        have HN := Lib.hid (show ¬ LettersR P n L most from fun h => by have := (HNO.out (h.2 k _ Hhx.out)).1; cases this)
        go_wp2
        go_ret
        exact resB_no HN.out HB1.out
      | true =>
        go_wp2_with fail
        refine (within_at x4 m n H2.out _).mono ?_
        rintro e w2 ⟨rfl, hb⟩
        have HB2 := Lib.hid (HB1.out.trans (hb.mono hz1))
        have hz2 := HB2.out.size
        have HX2 := Lib.hid (HX1.out.call hb)
        have HD2 := Lib.hid (HD1.out.call hb)
        have m2_0 := HX2.out.at_ 0 rfl
        have m2_1 := HX2.out.at_ 1 rfl
        have m2_2 := HX2.out.at_ 2 rfl
        have m2_3 := HX2.out.at_ 3 rfl
        have m2_4 := HX2.out.at_ 4 rfl
        have m2_5 := HX2.out.at_ 5 rfl
        have l2_0 := HD2.out.at_ 0 rfl
        have l2_1 := HD2.out.at_ 1 rfl
        have l2_2 := HD2.out.at_ 2 rfl
        have l2_3 := HD2.out.at_ 3 rfl
        have l2_4 := HD2.out.at_ 4 rfl
        clear hb
        cases b2 with
        | false =>
          have HN := Lib.hid (show ¬ LettersR P n L most from fun h => by have := (HNO.out (h.2 k _ Hhx.out)).2.1; cases this)
          go_wp2
          go_ret
          exact resB_no HN.out HB2.out
        | true =>
          go_wp2_with fail
          refine (word_at x5 H3.out _).mono ?_
          rintro e w3 ⟨rfl, hb⟩
          have HB3 := Lib.hid (HB2.out.trans (hb.mono hz2))
          have HX3 := Lib.hid (HX2.out.call hb)
          have HD3 := Lib.hid (HD2.out.call hb)
          have m3_0 := HX3.out.at_ 0 rfl
          have m3_1 := HX3.out.at_ 1 rfl
          have m3_2 := HX3.out.at_ 2 rfl
          have m3_3 := HX3.out.at_ 3 rfl
          have m3_4 := HX3.out.at_ 4 rfl
          have m3_5 := HX3.out.at_ 5 rfl
          have l3_0 := HD3.out.at_ 0 rfl
          have l3_1 := HD3.out.at_ 1 rfl
          have l3_2 := HD3.out.at_ 2 rfl
          have l3_3 := HD3.out.at_ 3 rfl
          have l3_4 := HD3.out.at_ 4 rfl
          clear hb
          cases b3 with
          | false =>
            have HN := Lib.hid (show ¬ LettersR P n L most from fun h => by have := (HNO.out (h.2 k _ Hhx.out)).2.2; cases this)
            go_wp2
            go_ret
            exact resB_no HN.out HB3.out
          | true =>
            have HOK2 := Lib.hid (HOK.out (by first | rfl | trivial) (by first | rfl | trivial) (by first | rfl | trivial))
            have HS := Lib.hid (show ∀ (j : Nat) (x : D_Letter), j < k + 1 → L[j]? = some x → LetOk P n L j x from fun j y hj hy => by
              by_cases e : j = k
              · subst e
                have := Hhx.out
                rw [hy] at this
                obtain rfl := Option.some.inj this
                exact HOK2.out
              · exact HA.out j y (by omega) hy)
            have HLM2 := Lib.hid (show 0 ≤ x4 ∧ (k + 1 = 0 → x4 = 0) ∧ ∀ y, 0 < k + 1 → L[k + 1 - 1]? = some y → y.2.2.1 = x4 from ⟨by have h2 : isB x4 0 n = true := HOK2.out.2.1; simp only [isB, Bool.and_eq_true, decide_eq_true_iff] at h2; exact h2.1, fun h => by omega, fun y _ hy => by rw [Nat.add_sub_cancel, Hhx.out] at hy; cases hy; rfl⟩)
            go_wp2
            go_roundw
            case rel => exact ⟨k + 1, by omega, by go_num, ⟨x4, rfl, HLM2⟩, HS, HB3.out, HD3⟩
            case measure => simp [intOf]; omega
    · have hd1 : decide ((k : Int) < (L.length : Int)) = false := decide_eq_false (by omega)
      have HY := Lib.hid (show LettersR P n L most from ⟨HM.out, fun i x hx => HA.out i x (by have := el_lt hx; omega) hx⟩)
      clear hB
      go_wp2
      go_ret
      exact resB_yes HY.out HB.out
set_option maxRecDepth 100000 in
set_option maxHeartbeats 4000000 in
theorem box_impl {P B A : List D_Letter} {pa ba aa : Option Addr} {pc bc ac : Nat} {u n : Int} {W : World} (hP : RdSl R_Letter W W.heap.size P pa pc) (hB : RdSl R_Letter W W.heap.size B ba bc) (hA : RdSl R_Letter W W.heap.size A aa ac) :
    Calls Tryd.prog 37 #[.agg #[.slice pa P.length pc, .slice ba B.length bc, .slice aa A.length ac, .int .i64 u, .int .i64 n]] W (ResB (DeskR P B A u n) W) := by
  obtain ⟨hb0, hp0⟩ := bx1 W #[.slice pa P.length pc, .slice ba B.length bc, .slice aa A.length ac, .int .i64 u, .int .i64 n] 42
  have HB0 := Lib.hid hb0
  have HD0 := Lib.hid hp0
  have HPw := Lib.hid (gmvS hP hb0)
  have HBw := Lib.hid (gmvS hB hb0)
  have HAw := Lib.hid (gmvS hA hb0)
  clear hb0 hp0 hP hB hA
  obtain ⟨q1, Q1⟩ : ∃ b, Hid (isB n 0 999900 = b) := ⟨_, Lib.hid rfl⟩
  obtain ⟨q2, Q2⟩ := nameB (PairsR P)
  obtain ⟨q3, Q3⟩ := nameB (LettersR P n B 6)
  obtain ⟨q4, Q4⟩ := nameB (LettersR P n A 20)
  obtain ⟨q5, Q5⟩ := nameB (∀ x ∈ B, x ∈ A)
  obtain ⟨q6, Q6⟩ : ∃ b, Hid ((u == ((cntAt n A : Nat) : Int)) = b) := ⟨_, Lib.hid rfl⟩
  go_enter Tryd.func37, Tryd.ntmps37
  obtain ⟨W0, hW0⟩ : ∃ w, w = W.alloc (.cells #[.slice pa P.length pc, .slice ba B.length bc, .slice aa A.length ac, .int .i64 u, .int .i64 n] 42) := ⟨_, rfl⟩
  rw [← hW0] at HB0 HD0 HPw HBw HAw
  have hz0 := HB0.out.size
  go_wp2_with fail
  rw [← hW0]
  clear hW0
  refine (isNow_at n Q1.out _).mono ?_
  rintro e w1 ⟨rfl, hb⟩
  have HB1 := Lib.hid (HB0.out.trans (hb.mono hz0))
  have hz1 := HB1.out.size
  have HD1 := Lib.hid (HD0.out.call hb)
  replace HPw := Lib.hid (gmvS HPw.out hb)
  replace HBw := Lib.hid (gmvS HBw.out hb)
  replace HAw := Lib.hid (gmvS HAw.out hb)
  have d1_0 := HD1.out.at_ 0 rfl
  have d1_1 := HD1.out.at_ 1 rfl
  have d1_2 := HD1.out.at_ 2 rfl
  have d1_3 := HD1.out.at_ 3 rfl
  have d1_4 := HD1.out.at_ 4 rfl
  clear hb
  cases q1 with
  | false =>
    have HN := Lib.hid (show ¬ DeskR P B A u n from fun h => by have h2 := h.2.1; rw [Q1.out] at h2; cases h2)
    go_wp2
    go_ret
    exact resB_no HN.out HB1.out
  | true =>
    go_wp2_with fail
    refine ((channels_impl HPw.out).mono (fun _ _ => resB_at Q2.out)).mono ?_
    rintro e w2 ⟨rfl, hb⟩
    have HB2 := Lib.hid (HB1.out.trans (hb.mono hz1))
    have hz2 := HB2.out.size
    have HD2 := Lib.hid (HD1.out.call hb)
    replace HPw := Lib.hid (gmvS HPw.out hb)
    replace HBw := Lib.hid (gmvS HBw.out hb)
    replace HAw := Lib.hid (gmvS HAw.out hb)
    have d2_0 := HD2.out.at_ 0 rfl
    have d2_1 := HD2.out.at_ 1 rfl
    have d2_2 := HD2.out.at_ 2 rfl
    have d2_3 := HD2.out.at_ 3 rfl
    have d2_4 := HD2.out.at_ 4 rfl
    clear hb
    cases q2 with
    | false =>
      have HN := Lib.hid (show ¬ DeskR P B A u n from fun h => by have := Q2.out.2 h.1; cases this)
      go_wp2
      go_ret
      exact resB_no HN.out HB2.out
    | true =>
      have hP4 : P.length ≤ 4 := (Q2.out.1 (by first | rfl | trivial)).1
      go_wp2_with fail
      refine ((letters_impl hP4 HPw.out HBw.out).mono (fun _ _ => resB_at Q3.out)).mono ?_
      rintro e w3 ⟨rfl, hb⟩
      have HB3 := Lib.hid (HB2.out.trans (hb.mono hz2))
      have hz3 := HB3.out.size
      have HD3 := Lib.hid (HD2.out.call hb)
      replace HPw := Lib.hid (gmvS HPw.out hb)
      replace HBw := Lib.hid (gmvS HBw.out hb)
      replace HAw := Lib.hid (gmvS HAw.out hb)
      have d3_0 := HD3.out.at_ 0 rfl
      have d3_1 := HD3.out.at_ 1 rfl
      have d3_2 := HD3.out.at_ 2 rfl
      have d3_3 := HD3.out.at_ 3 rfl
      have d3_4 := HD3.out.at_ 4 rfl
      clear hb
      cases q3 with
      | false =>
        have HN := Lib.hid (show ¬ DeskR P B A u n from fun h => by have := Q3.out.2 h.2.2.1; cases this)
        go_wp2
        go_ret
        exact resB_no HN.out HB3.out
      | true =>
        go_wp2_with fail
        refine ((letters_impl hP4 HPw.out HAw.out).mono (fun _ _ => resB_at Q4.out)).mono ?_
        rintro e w4 ⟨rfl, hb⟩
        have HB4 := Lib.hid (HB3.out.trans (hb.mono hz3))
        have hz4 := HB4.out.size
        have HD4 := Lib.hid (HD3.out.call hb)
        replace HPw := Lib.hid (gmvS HPw.out hb)
        replace HBw := Lib.hid (gmvS HBw.out hb)
        replace HAw := Lib.hid (gmvS HAw.out hb)
        have d4_0 := HD4.out.at_ 0 rfl
        have d4_1 := HD4.out.at_ 1 rfl
        have d4_2 := HD4.out.at_ 2 rfl
        have d4_3 := HD4.out.at_ 3 rfl
        have d4_4 := HD4.out.at_ 4 rfl
        clear hb
        cases q4 with
        | false =>
          have HN := Lib.hid (show ¬ DeskR P B A u n from fun h => by have := Q4.out.2 h.2.2.2.1; cases this)
          go_wp2
          go_ret
          exact resB_no HN.out HB4.out
        | true =>
          have hA4 : A.length ≤ 20 := by have h := (Q4.out.1 (by first | rfl | trivial)).1; omega
          go_wp2_with fail
          refine ((audited_impl HBw.out HAw.out).mono (fun _ _ => resB_at Q5.out)).mono ?_
          rintro e w5 ⟨rfl, hb⟩
          have HB5 := Lib.hid (HB4.out.trans (hb.mono hz4))
          have hz5 := HB5.out.size
          have HD5 := Lib.hid (HD4.out.call hb)
          replace HPw := Lib.hid (gmvS HPw.out hb)
          replace HBw := Lib.hid (gmvS HBw.out hb)
          replace HAw := Lib.hid (gmvS HAw.out hb)
          have d5_0 := HD5.out.at_ 0 rfl
          have d5_1 := HD5.out.at_ 1 rfl
          have d5_2 := HD5.out.at_ 2 rfl
          have d5_3 := HD5.out.at_ 3 rfl
          have d5_4 := HD5.out.at_ 4 rfl
          clear hb
          cases q5 with
          | false =>
            have HN := Lib.hid (show ¬ DeskR P B A u n from fun h => by have := Q5.out.2 h.2.2.2.2.2.1; cases this)
            go_wp2
            go_ret
            exact resB_no HN.out HB5.out
          | true =>
            go_wp2_with fail
            refine (counts_impl hA4 HAw.out Q6.out).mono ?_
            rintro e w6 ⟨rfl, hb⟩
            have HB6 := Lib.hid (HB5.out.trans (hb.mono hz5))
            have hz6 := HB6.out.size
            have HD6 := Lib.hid (HD5.out.call hb)
            replace HPw := Lib.hid (gmvS HPw.out hb)
            replace HBw := Lib.hid (gmvS HBw.out hb)
            replace HAw := Lib.hid (gmvS HAw.out hb)
            have d6_0 := HD6.out.at_ 0 rfl
            have d6_1 := HD6.out.at_ 1 rfl
            have d6_2 := HD6.out.at_ 2 rfl
            have d6_3 := HD6.out.at_ 3 rfl
            have d6_4 := HD6.out.at_ 4 rfl
            clear hb
            cases q6 with
            | false =>
              have HN := Lib.hid (show ¬ DeskR P B A u n from fun h => by have h2 := Q6.out; rw [← h.2.2.2.2.2.2] at h2; simp at h2)
              go_wp2
              go_ret
              exact resB_no HN.out HB6.out
            | true =>
              have HEQ := Lib.hid (show u = ((cntAt n A : Nat) : Int) from by have h := Q6.out; first | exact beq_iff_eq.1 h | simpa using h)
              have hu0 : 0 ≤ u := by rw [HEQ.out]; exact Int.natCast_nonneg _
              by_cases h2 : u ≤ 2
              · have hd : decide (u ≤ 2) = true := decide_eq_true h2
                have HY := Lib.hid (show DeskR P B A u n from ⟨Q2.out.1 (by first | rfl | trivial), Q1.out, Q3.out.1 (by first | rfl | trivial), Q4.out.1 (by first | rfl | trivial), by simp only [isB, Bool.and_eq_true, decide_eq_true_iff]; exact ⟨hu0, h2⟩, Q5.out.1 (by first | rfl | trivial), HEQ.out⟩)
                clear h2 hu0
                go_wp2
                go_ret
                exact resB_yes HY.out HB6.out
              · have hd : decide (u ≤ 2) = false := decide_eq_false h2
                have HN := Lib.hid (show ¬ DeskR P B A u n from fun h => by have h3 := h.2.2.2.2.1; simp only [isB, Bool.and_eq_true, decide_eq_true_iff] at h3; exact h2 h3.2)
                clear h2 hu0
                go_wp2
                go_ret
                exact resB_no HN.out HB6.out
/-- what a label may read -/
noncomputable def readD (P B A : List D_Letter) (u n l s : Int) : List Int := by
  classical exact if DeskR P B A u n ∧ LabC.rB l s = true then (B.filter fun x => LabC.belowB x.2.1.1 x.2.1.2 l s).map fun x => x.2.2.2 else []
theorem readD_no {P B A : List D_Letter} {u n l s : Int} (h : ¬ (DeskR P B A u n ∧ LabC.rB l s = true)) : readD P B A u n l s = [] := if_neg h
theorem readD_yes {P B A : List D_Letter} {u n l s : Int} (h : DeskR P B A u n ∧ LabC.rB l s = true) : readD P B A u n l s = (B.filter fun x => LabC.belowB x.2.1.1 x.2.1.2 l s).map fun x => x.2.2.2 := if_pos h
theorem newS_nil {α : Type} {E : Rp α} {w w' : World} (hb : Below w.heap.size w w') : NewS E [] w (.returned (.slice none 0 0)) w' := ⟨none, 0, rfl, ⟨Nat.le_refl _, Nat.zero_le _, fun h => absurd h (Nat.lt_irrefl _)⟩, hb⟩
set_option maxRecDepth 100000 in
set_option maxHeartbeats 4000000 in
theorem reads_impl {P B A : List D_Letter} {pa ba aa : Option Addr} {pc bc ac : Nat} {u n : Int} {W : World} {l s : Int} (hP : RdSl R_Letter W W.heap.size P pa pc) (hB : RdSl R_Letter W W.heap.size B ba bc) (hA : RdSl R_Letter W W.heap.size A aa ac) :
    Calls Tryd.prog 35 #[.agg #[.slice pa P.length pc, .slice ba B.length bc, .slice aa A.length ac, .int .i64 u, .int .i64 n], .agg #[.int .i64 l, .int .i64 s]] W (NewS I (readD P B A u n l s) W) := by
  obtain ⟨hb0, hp0, hl0⟩ := bx2 W #[.slice pa P.length pc, .slice ba B.length bc, .slice aa A.length ac, .int .i64 u, .int .i64 n] #[.int .i64 l, .int .i64 s] 42 24
  have HB0 := Lib.hid hb0
  have HD0 := Lib.hid hp0
  have HL0 := Lib.hid hl0
  have HPw := Lib.hid (gmvS hP hb0)
  have HBw := Lib.hid (gmvS hB hb0)
  have HAw := Lib.hid (gmvS hA hb0)
  clear hb0 hp0 hl0 hP hB hA
  obtain ⟨q1, Q1⟩ := nameB (DeskR P B A u n)
  obtain ⟨q2, Q2⟩ : ∃ b, Hid (LabC.rB l s = b) := ⟨_, Lib.hid rfl⟩
  go_enter Tryd.func35, Tryd.ntmps35
  obtain ⟨W0, hW0⟩ : ∃ w, w = (W.alloc (.cells #[.slice pa P.length pc, .slice ba B.length bc, .slice aa A.length ac, .int .i64 u, .int .i64 n] 42)).alloc (.cells #[.int .i64 l, .int .i64 s] 24) := ⟨_, rfl⟩
  rw [← hW0] at HB0 HD0 HL0 HPw HBw HAw
  have hz0 := HB0.out.size
  go_wp2_with fail
  rw [← hW0]
  clear hW0
  refine ((box_impl HPw.out HBw.out HAw.out).mono (fun _ _ => resB_at Q1.out)).mono ?_
  rintro e w1 ⟨rfl, hb⟩
  have HB1 := Lib.hid (HB0.out.trans (hb.mono hz0))
  have hz1 := HB1.out.size
  have HD1 := Lib.hid (HD0.out.call hb)
  have HL1 := Lib.hid (HL0.out.call hb)
  replace HBw := Lib.hid (gmvS HBw.out hb)
  have d1_0 := HD1.out.at_ 0 rfl
  have d1_1 := HD1.out.at_ 1 rfl
  have d1_2 := HD1.out.at_ 2 rfl
  have d1_3 := HD1.out.at_ 3 rfl
  have d1_4 := HD1.out.at_ 4 rfl
  have c1_0 := HL1.out.at_ 0 rfl
  have c1_1 := HL1.out.at_ 1 rfl
  clear hb
  cases q1 with
  | false =>
    have HN := Lib.hid (readD_no (l := l) (s := s) (fun h => by have := Q1.out.2 h.1; cases this))
    go_wp2
    go_ret
    rw [HN.out]
    exact newS_nil HB1.out
  | true =>
    go_wp2_with fail
    refine (ri_at l s Q2.out _).mono ?_
    rintro e w2 ⟨rfl, hb⟩
    have HB2 := Lib.hid (HB1.out.trans (hb.mono hz1))
    have hz2 := HB2.out.size
    have HD2 := Lib.hid (HD1.out.call hb)
    have HL2 := Lib.hid (HL1.out.call hb)
    replace HBw := Lib.hid (gmvS HBw.out hb)
    have d2_0 := HD2.out.at_ 0 rfl
    have d2_1 := HD2.out.at_ 1 rfl
    have d2_2 := HD2.out.at_ 2 rfl
    have d2_3 := HD2.out.at_ 3 rfl
    have d2_4 := HD2.out.at_ 4 rfl
    have c2_0 := HL2.out.at_ 0 rfl
    have c2_1 := HL2.out.at_ 1 rfl
    clear hb
    cases q2 with
    | false =>
      have HN := Lib.hid (readD_no (P := P) (B := B) (A := A) (u := u) (n := n) (l := l) (s := s) (fun h => by have h2 := h.2; rw [Q2.out] at h2; cases h2))
      go_wp2
      go_ret
      rw [HN.out]
      exact newS_nil HB2.out
    | true =>
      have HY := Lib.hid (readD_yes (l := l) (s := s) ⟨Q1.out.1 (by first | rfl | trivial), Q2.out⟩)
      have hB6 : B.length ≤ 6 := by have h := (Q1.out.1 (by first | rfl | trivial)).2.2.1.1; omega
      go_wp2_with fail
      refine (answer_read hB6 HBw.out).mono ?_
      intro e w3 h
      obtain ⟨ra, rc, rfl, ho, hb⟩ := newI_elim h
      have HB3 := Lib.hid (HB2.out.trans (hb.mono hz2))
      have HO := Lib.hid (ho.more (T := Rg W.heap.size w3.heap.size) fun k hk => ⟨Nat.le_trans hz2 hk.1, hk.2⟩)
      clear h ho hb
      obtain ⟨M, hM⟩ : ∃ M, ((B.filter fun x => LabC.belowB x.2.1.1 x.2.1.2 l s).map fun x => x.2.2.2) = M := ⟨_, rfl⟩
      have HM := Lib.hid hM
      rw [hM] at HO ⊢
      have a1 : ∀ W, (Instr.typeAssert (.iface 54 (.slice ra M.length rc)) 20 54 true).run Tryd.prog W = .ok (.tuple #[.slice ra M.length rc, .bool true]) W := fun W => by kernel_rfl
      clear hM
      go_wp2
      go_ret
      rw [HY.out, HM.out]
      exact ⟨ra, rc, rfl, HO.out, HB3.out⟩
end Go.Proofs.YtknifggpodhhdaaDoor.RepC
