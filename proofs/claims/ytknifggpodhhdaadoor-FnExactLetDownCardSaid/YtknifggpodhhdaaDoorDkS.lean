/- l06Pair, l06Pairs, l06Letters of the model: contracts. -/
import Derived.Test.YtknifggpodhhdaaDoorDkE
import Derived.LoopTactic
import Derived.BigQuiet
namespace Go.Proofs.YtknifggpodhhdaaDoor.RepC
open Go.RowKit RowC ValC SpanC KeptC
set_option linter.unusedVariables false
set_option linter.unusedSimpArgs false

set_option maxRecDepth 100000 in
set_option maxHeartbeats 3200000 in
theorem pair_spec {P : List D_Letter} {a0 : Option Addr} {c0 : Nat} {a1 a2 : Option Addr} {n1 d1 n2 d2 : Nat} {u n f0 f1 t0 t1 : Int} {W : World} (hP : RdSl R_Letter W W.heap.size P a0 c0) :
    Calls Tryd.prog 66 #[.agg #[.slice a0 P.length c0, .slice a1 n1 d1, .slice a2 n2 d2, .int .i64 u, .int .i64 n], .agg #[.int .i64 f0, .int .i64 f1], .agg #[.int .i64 t0, .int .i64 t1]] W (ResB (HasCh P (f0, f1) (t0, t1)) W) := by
  have hn : P.length ≤ 9223372036854775807 := by have h1 := hP.1; have h2 := hP.2.1; unfold maxLen at h2; omega
  have H := Lib.hid hP
  clear hP
  obtain ⟨hb0, hp0, hf0, ht0⟩ := bx3 W #[.slice a0 P.length c0, .slice a1 n1 d1, .slice a2 n2 d2, .int .i64 u, .int .i64 n] #[.int .i64 f0, .int .i64 f1] #[.int .i64 t0, .int .i64 t1] 42 24 24
  have HB0 := Lib.hid hb0
  have HP0 := Lib.hid hp0
  have HF0 := Lib.hid hf0
  have HT0 := Lib.hid ht0
  clear hb0 hp0 hf0 ht0
  go_enter Tryd.func66, Tryd.ntmps66
  go_wp2
  go_loopw [7] (fun i wr => ∃ k : Nat, k ≤ P.length ∧ i = .int .i64 k ∧ Hid (¬ HasCh (P.take k) (f0, f1) (t0, t1)) ∧ Below W.heap.size W wr ∧ Hid (Blk wr (W.heap.size) 42 #[.slice a0 P.length c0, .slice a1 n1 d1, .slice a2 n2 d2, .int .i64 u, .int .i64 n]) ∧ Hid (Blk wr (W.heap.size + 1) 24 #[.int .i64 f0, .int .i64 f1]) ∧ Hid (Blk wr (W.heap.size + 1 + 1) 24 #[.int .i64 t0, .int .i64 t1])) (fun i _ => P.length - (intOf i).toNat)
  case atStart => exact ⟨0, Nat.zero_le _, rfl, Lib.hid (hasCh_nil _ _), HB0.out, HP0, HF0, HT0⟩
  case round =>
    obtain ⟨k, hk, rfl, HA, hB, HP, HF_, HT⟩ := hrel
    have HB := Lib.hid hB
    have hsz := hB.size
    have hD0 := HP.out.at_ 0 rfl
    have hpl := HP.out.lt
    by_cases hlt : k < P.length
    · obtain ⟨⟨⟨x0, x1⟩, ⟨x2, x3⟩, x4, x5⟩, hx⟩ := el_some hlt
      have Hhx := Lib.hid hx
      obtain ⟨g, o, us, rfl, hgg, hu, hr⟩ := (H.out.below R_Letter_ok hB).at_ hx
      obtain rfl := rd_Letter hr
      have e0 : wr.cell? ⟨g, o + k * 6, none⟩ = some (.int .i64 x0) := by simpa [size_LetterS, Nat.add_assoc] using hu 0 _ rfl
      have e1 : wr.cell? ⟨g, o + k * 6 + 1, none⟩ = some (.int .i64 x1) := by simpa [size_LetterS, Nat.add_assoc] using hu 1 _ rfl
      have e2 : wr.cell? ⟨g, o + k * 6 + 2, none⟩ = some (.int .i64 x2) := by simpa [size_LetterS, Nat.add_assoc] using hu 2 _ rfl
      have e3 : wr.cell? ⟨g, o + k * 6 + 3, none⟩ = some (.int .i64 x3) := by simpa [size_LetterS, Nat.add_assoc] using hu 3 _ rfl
      have e4 : wr.cell? ⟨g, o + k * 6 + 4, none⟩ = some (.int .i64 x4) := by simpa [size_LetterS, Nat.add_assoc] using hu 4 _ rfl
      have e5 : wr.cell? ⟨g, o + k * 6 + 5, none⟩ = some (.int .i64 x5) := by simpa [size_LetterS, Nat.add_assoc] using hu 5 _ rfl
      have hgl : g < wr.heap.size := Nat.lt_of_lt_of_le hgg hsz
      have hi0 : (0 : Int) ≤ (k : Int) := Int.natCast_nonneg _
      have hi1 : (k : Int) < (P.length : Int) := by omega
      have hD0 := HP.out.at_ 0 rfl
      clear hB hx hu hr
      obtain ⟨b1, h1⟩ : ∃ b, (((x0, x1) : D_Label) == (f0, f1)) = b := ⟨_, rfl⟩
      obtain ⟨b2, h2⟩ : ∃ b, (((x2, x3) : D_Label) == (t0, t1)) = b := ⟨_, rfl⟩
      have q1 := eq_label_at h1
      have q2 := eq_label_at h2
      have H1 := Lib.hid h1
      have H2 := Lib.hid h2
      clear h1 h2
      cases b1 with
      | false =>
        have HC := Lib.hid (hasCh_step HA.out Hhx.out (fun h => by have := H1.out; rw [show ((x0, x1) : D_Label) = (f0, f1) from h.1] at this; simp at this))
        go_wp2_with fail
        refine wp_region_held_drew (S := (fun V => Below (wr).heap.size (wr) V)) (by kernel_rfl) ((Below.refl _ _).drew) (fun hHeld => ?_)
        (refine wpAnyH_take (i := 0) (v := ?hv1) rfl (by kernel_rfl) (by kernel_rfl) (by kernel_rfl) (fun _ _ _ h => h) (Or.inl ⟨by kernel_rfl, ?hy1⟩) hHeld ?hr1; case hy1 => (intro w hSw; (try dsimp only at hSw); go_simp; try with_reducible rfl))
        simp only [Act.put, List.getElem_toArray, List.getElem_cons_succ, List.getElem_cons_zero, List.setIfInBounds_toArray, List.set_cons_zero, List.set_cons_succ]
        (refine wpAnyH_take (i := 1) (v := ?hv2) rfl (by kernel_rfl) (by kernel_rfl) (by kernel_rfl) (fun _ _ _ h => h) (Or.inl ⟨by kernel_rfl, ?hy2⟩) hHeld ?hr2; case hy2 => (intro w hSw; (try dsimp only at hSw); have k0 := (hSw.cell (p := ⟨W.heap.size, 0, none⟩) HP.out.lt).trans (HP.out.at_ 0 rfl); clear hSw; go_simp; try with_reducible rfl))
        simp only [Act.put, List.getElem_toArray, List.getElem_cons_succ, List.getElem_cons_zero, List.setIfInBounds_toArray, List.set_cons_zero, List.set_cons_succ]
        (refine wpAnyH_take (i := 2) (v := ?hv3) rfl (by kernel_rfl) (by kernel_rfl) (by kernel_rfl) (fun _ _ _ h => h) (Or.inl ⟨by kernel_rfl, ?hy3⟩) hHeld ?hr3; case hy3 => (intro w hSw; (try dsimp only at hSw); go_simp; try with_reducible rfl))
        simp only [Act.put, List.getElem_toArray, List.getElem_cons_succ, List.getElem_cons_zero, List.setIfInBounds_toArray, List.set_cons_zero, List.set_cons_succ]
        (refine wpAnyH_take (i := 3) (v := ?hv4) rfl (by kernel_rfl) (by kernel_rfl) (by kernel_rfl) (fun _ _ _ h => h) (Or.inl ⟨by kernel_rfl, ?hy4⟩) hHeld ?hr4; case hy4 => (intro w hSw; (try dsimp only at hSw); go_simp; try with_reducible rfl))
        simp only [Act.put, List.getElem_toArray, List.getElem_cons_succ, List.getElem_cons_zero, List.setIfInBounds_toArray, List.set_cons_zero, List.set_cons_succ]
        (refine wpAnyH_take (i := 4) (v := ?hv5) rfl (by kernel_rfl) (by kernel_rfl) (by kernel_rfl) (fun _ _ _ h => h) (Or.inl ⟨by kernel_rfl, ?hy5⟩) hHeld ?hr5; case hy5 => (intro w hSw; (try dsimp only at hSw); go_simp; try with_reducible rfl))
        simp only [Act.put, List.getElem_toArray, List.getElem_cons_succ, List.getElem_cons_zero, List.setIfInBounds_toArray, List.set_cons_zero, List.set_cons_succ]
        (refine wpAnyH_take (i := 5) (v := ?hv6) rfl (by kernel_rfl) (by kernel_rfl) (by kernel_rfl) (fun _ _ _ h => h) (Or.inl ⟨by kernel_rfl, ?hy6⟩) hHeld ?hr6; case hy6 => (intro w hSw; (try dsimp only at hSw); have k0 := (hSw.cell (p := ⟨g, o + k * 6, none⟩) hgl).trans e0; have k1 := (hSw.cell (p := ⟨g, o + k * 6 + 1, none⟩) hgl).trans e1; clear hSw; go_simp; try with_reducible rfl))
        simp only [Act.put, List.getElem_toArray, List.getElem_cons_succ, List.getElem_cons_zero, List.setIfInBounds_toArray, List.set_cons_zero, List.set_cons_succ]
        (refine wpAnyH_take (i := 6) (v := ?hv7) rfl (by kernel_rfl) (by kernel_rfl) (by kernel_rfl) (fun _ _ _ h => h) (Or.inl ⟨by kernel_rfl, ?hy7⟩) hHeld ?hr7; case hy7 => (intro w hSw; (try dsimp only at hSw); have k0 := (hSw.cell (p := ⟨W.heap.size + 1, 0, none⟩) HF_.out.lt).trans (HF_.out.at_ 0 rfl); have k1 := (hSw.cell (p := ⟨W.heap.size + 1, 1, none⟩) HF_.out.lt).trans (HF_.out.at_ 1 rfl); clear hSw; go_simp; try with_reducible rfl))
        simp only [Act.put, List.getElem_toArray, List.getElem_cons_succ, List.getElem_cons_zero, List.setIfInBounds_toArray, List.set_cons_zero, List.set_cons_succ]
        (refine wpAnyH_take (i := 7) (v := ?hv8) rfl (by kernel_rfl) (by kernel_rfl) (by kernel_rfl) (fun _ _ _ h => h) (Or.inl ⟨by kernel_rfl, ?hy8⟩) hHeld ?hr8; case hy8 => (intro w hSw; (try dsimp only at hSw); go_simp; try with_reducible rfl))
        simp only [Act.put, List.getElem_toArray, List.getElem_cons_succ, List.getElem_cons_zero, List.setIfInBounds_toArray, List.set_cons_zero, List.set_cons_succ]
        (refine wpAnyH_take (i := 8) (v := ?hv9) rfl (by kernel_rfl) (by kernel_rfl) (by kernel_rfl) (fun _ _ _ h => h) (Or.inl ⟨by kernel_rfl, ?hy9⟩) hHeld ?hr9; case hy9 => (intro w hSw; (try dsimp only at hSw); go_simp; try with_reducible rfl))
        simp only [Act.put, List.getElem_toArray, List.getElem_cons_succ, List.getElem_cons_zero, List.setIfInBounds_toArray, List.set_cons_zero, List.set_cons_succ]
        (refine wpAnyH_take (i := 9) (v := undef) rfl (by kernel_rfl) (by kernel_rfl) (by kernel_rfl) (fun _ _ _ h => h) (Or.inr ⟨by kernel_rfl, rfl⟩) hHeld ?_)
        simp only [Act.put, List.getElem_toArray, List.getElem_cons_succ, List.getElem_cons_zero, List.setIfInBounds_toArray, List.set_cons_zero, List.set_cons_succ]
        (refine wpAnyH_take (i := 10) (v := undef) rfl (by kernel_rfl) (by kernel_rfl) (by kernel_rfl) (fun _ _ _ h => h) (Or.inr ⟨by kernel_rfl, rfl⟩) hHeld ?_)
        simp only [Act.put, List.getElem_toArray, List.getElem_cons_succ, List.getElem_cons_zero, List.setIfInBounds_toArray, List.set_cons_zero, List.set_cons_succ]
        (refine wpAnyH_take (i := 11) (v := undef) rfl (by kernel_rfl) (by kernel_rfl) (by kernel_rfl) (fun _ _ _ h => h) (Or.inr ⟨by kernel_rfl, rfl⟩) hHeld ?_)
        simp only [Act.put, List.getElem_toArray, List.getElem_cons_succ, List.getElem_cons_zero, List.setIfInBounds_toArray, List.set_cons_zero, List.set_cons_succ]
        (refine wpAnyH_take (i := 12) (v := undef) rfl (by kernel_rfl) (by kernel_rfl) (by kernel_rfl) (fun _ _ _ h => h) (Or.inr ⟨by kernel_rfl, rfl⟩) hHeld ?_)
        simp only [Act.put, List.getElem_toArray, List.getElem_cons_succ, List.getElem_cons_zero, List.setIfInBounds_toArray, List.set_cons_zero, List.set_cons_succ]
        (refine wpAnyH_take (i := 13) (v := undef) rfl (by kernel_rfl) (by kernel_rfl) (by kernel_rfl) (fun _ _ _ h => h) (Or.inr ⟨by kernel_rfl, rfl⟩) hHeld ?_)
        simp only [Act.put, List.getElem_toArray, List.getElem_cons_succ, List.getElem_cons_zero, List.setIfInBounds_toArray, List.set_cons_zero, List.set_cons_succ]
        (refine wpAnyH_take (i := 14) (v := undef) rfl (by kernel_rfl) (by kernel_rfl) (by kernel_rfl) (fun _ _ _ h => h) (Or.inr ⟨by kernel_rfl, rfl⟩) hHeld ?_)
        simp only [Act.put, List.getElem_toArray, List.getElem_cons_succ, List.getElem_cons_zero, List.setIfInBounds_toArray, List.set_cons_zero, List.set_cons_succ]
        (refine wpAnyH_take (i := 15) (v := undef) rfl (by kernel_rfl) (by kernel_rfl) (by kernel_rfl) (fun _ _ _ h => h) (Or.inr ⟨by kernel_rfl, rfl⟩) hHeld ?_)
        simp only [Act.put, List.getElem_toArray, List.getElem_cons_succ, List.getElem_cons_zero, List.setIfInBounds_toArray, List.set_cons_zero, List.set_cons_succ]
        (refine wpAnyH_take (i := 16) (v := undef) rfl (by kernel_rfl) (by kernel_rfl) (by kernel_rfl) (fun _ _ _ h => h) (Or.inr ⟨by kernel_rfl, rfl⟩) hHeld ?_)
        simp only [Act.put, List.getElem_toArray, List.getElem_cons_succ, List.getElem_cons_zero, List.setIfInBounds_toArray, List.set_cons_zero, List.set_cons_succ]
        (refine wpAnyH_take (i := 17) (v := ?hv18) rfl (by kernel_rfl) (by kernel_rfl) (by kernel_rfl) (fun _ _ _ h => h) (Or.inl ⟨by kernel_rfl, ?hy18⟩) hHeld ?hr18; case hy18 => (intro w hSw; (try dsimp only at hSw); go_simp; try with_reducible rfl))
        simp only [Act.put, List.getElem_toArray, List.getElem_cons_succ, List.getElem_cons_zero, List.setIfInBounds_toArray, List.set_cons_zero, List.set_cons_succ]
        refine wpAnyH_done (by kernel_rfl) ?_ _
        have HF := Lib.hid hHeld
        clear hHeld
        have HB3 := Lib.hid (HB.out.trans (HF.out.mono hsz))
        have HP3 := Lib.hid (HP.out.call HF.out)
        have HF3 := Lib.hid (HF_.out.call HF.out)
        have HT3 := Lib.hid (HT.out.call HF.out)
        clear HF
        go_wp2
        go_roundw
        case rel => exact ⟨k + 1, by omega, by go_num, HC, HB3.out, HP3, HF3, HT3⟩
        case measure => simp [intOf]; omega
      | true =>
        cases b2 with
        | false =>
          have HC := Lib.hid (hasCh_step HA.out Hhx.out (fun h => by have := H2.out; rw [show ((x2, x3) : D_Label) = (t0, t1) from h.2] at this; simp at this))
          go_wp2_with fail
          refine wp_region_held_drew (S := (fun V => Below (wr).heap.size (wr) V)) (by kernel_rfl) ((Below.refl _ _).drew) (fun hHeld => ?_)
          (refine wpAnyH_take (i := 0) (v := ?hv19) rfl (by kernel_rfl) (by kernel_rfl) (by kernel_rfl) (fun _ _ _ h => h) (Or.inl ⟨by kernel_rfl, ?hy19⟩) hHeld ?hr19; case hy19 => (intro w hSw; (try dsimp only at hSw); go_simp; try with_reducible rfl))
          simp only [Act.put, List.getElem_toArray, List.getElem_cons_succ, List.getElem_cons_zero, List.setIfInBounds_toArray, List.set_cons_zero, List.set_cons_succ]
          (refine wpAnyH_take (i := 1) (v := ?hv20) rfl (by kernel_rfl) (by kernel_rfl) (by kernel_rfl) (fun _ _ _ h => h) (Or.inl ⟨by kernel_rfl, ?hy20⟩) hHeld ?hr20; case hy20 => (intro w hSw; (try dsimp only at hSw); have k0 := (hSw.cell (p := ⟨W.heap.size, 0, none⟩) HP.out.lt).trans (HP.out.at_ 0 rfl); clear hSw; go_simp; try with_reducible rfl))
          simp only [Act.put, List.getElem_toArray, List.getElem_cons_succ, List.getElem_cons_zero, List.setIfInBounds_toArray, List.set_cons_zero, List.set_cons_succ]
          (refine wpAnyH_take (i := 2) (v := ?hv21) rfl (by kernel_rfl) (by kernel_rfl) (by kernel_rfl) (fun _ _ _ h => h) (Or.inl ⟨by kernel_rfl, ?hy21⟩) hHeld ?hr21; case hy21 => (intro w hSw; (try dsimp only at hSw); go_simp; try with_reducible rfl))
          simp only [Act.put, List.getElem_toArray, List.getElem_cons_succ, List.getElem_cons_zero, List.setIfInBounds_toArray, List.set_cons_zero, List.set_cons_succ]
          (refine wpAnyH_take (i := 3) (v := ?hv22) rfl (by kernel_rfl) (by kernel_rfl) (by kernel_rfl) (fun _ _ _ h => h) (Or.inl ⟨by kernel_rfl, ?hy22⟩) hHeld ?hr22; case hy22 => (intro w hSw; (try dsimp only at hSw); go_simp; try with_reducible rfl))
          simp only [Act.put, List.getElem_toArray, List.getElem_cons_succ, List.getElem_cons_zero, List.setIfInBounds_toArray, List.set_cons_zero, List.set_cons_succ]
          (refine wpAnyH_take (i := 4) (v := ?hv23) rfl (by kernel_rfl) (by kernel_rfl) (by kernel_rfl) (fun _ _ _ h => h) (Or.inl ⟨by kernel_rfl, ?hy23⟩) hHeld ?hr23; case hy23 => (intro w hSw; (try dsimp only at hSw); go_simp; try with_reducible rfl))
          simp only [Act.put, List.getElem_toArray, List.getElem_cons_succ, List.getElem_cons_zero, List.setIfInBounds_toArray, List.set_cons_zero, List.set_cons_succ]
          (refine wpAnyH_take (i := 5) (v := ?hv24) rfl (by kernel_rfl) (by kernel_rfl) (by kernel_rfl) (fun _ _ _ h => h) (Or.inl ⟨by kernel_rfl, ?hy24⟩) hHeld ?hr24; case hy24 => (intro w hSw; (try dsimp only at hSw); have k0 := (hSw.cell (p := ⟨g, o + k * 6, none⟩) hgl).trans e0; have k1 := (hSw.cell (p := ⟨g, o + k * 6 + 1, none⟩) hgl).trans e1; clear hSw; go_simp; try with_reducible rfl))
          simp only [Act.put, List.getElem_toArray, List.getElem_cons_succ, List.getElem_cons_zero, List.setIfInBounds_toArray, List.set_cons_zero, List.set_cons_succ]
          (refine wpAnyH_take (i := 6) (v := ?hv25) rfl (by kernel_rfl) (by kernel_rfl) (by kernel_rfl) (fun _ _ _ h => h) (Or.inl ⟨by kernel_rfl, ?hy25⟩) hHeld ?hr25; case hy25 => (intro w hSw; (try dsimp only at hSw); have k0 := (hSw.cell (p := ⟨W.heap.size + 1, 0, none⟩) HF_.out.lt).trans (HF_.out.at_ 0 rfl); have k1 := (hSw.cell (p := ⟨W.heap.size + 1, 1, none⟩) HF_.out.lt).trans (HF_.out.at_ 1 rfl); clear hSw; go_simp; try with_reducible rfl))
          simp only [Act.put, List.getElem_toArray, List.getElem_cons_succ, List.getElem_cons_zero, List.setIfInBounds_toArray, List.set_cons_zero, List.set_cons_succ]
          (refine wpAnyH_take (i := 7) (v := ?hv26) rfl (by kernel_rfl) (by kernel_rfl) (by kernel_rfl) (fun _ _ _ h => h) (Or.inl ⟨by kernel_rfl, ?hy26⟩) hHeld ?hr26; case hy26 => (intro w hSw; (try dsimp only at hSw); go_simp; try with_reducible rfl))
          simp only [Act.put, List.getElem_toArray, List.getElem_cons_succ, List.getElem_cons_zero, List.setIfInBounds_toArray, List.set_cons_zero, List.set_cons_succ]
          (refine wpAnyH_take (i := 8) (v := ?hv27) rfl (by kernel_rfl) (by kernel_rfl) (by kernel_rfl) (fun _ _ _ h => h) (Or.inl ⟨by kernel_rfl, ?hy27⟩) hHeld ?hr27; case hy27 => (intro w hSw; (try dsimp only at hSw); go_simp; try with_reducible rfl))
          simp only [Act.put, List.getElem_toArray, List.getElem_cons_succ, List.getElem_cons_zero, List.setIfInBounds_toArray, List.set_cons_zero, List.set_cons_succ]
          (refine wpAnyH_take (i := 9) (v := ?hv28) rfl (by kernel_rfl) (by kernel_rfl) (by kernel_rfl) (fun _ _ _ h => h) (Or.inl ⟨by kernel_rfl, ?hy28⟩) hHeld ?hr28; case hy28 => (intro w hSw; (try dsimp only at hSw); go_simp; try with_reducible rfl))
          simp only [Act.put, List.getElem_toArray, List.getElem_cons_succ, List.getElem_cons_zero, List.setIfInBounds_toArray, List.set_cons_zero, List.set_cons_succ]
          (refine wpAnyH_take (i := 10) (v := ?hv29) rfl (by kernel_rfl) (by kernel_rfl) (by kernel_rfl) (fun _ _ _ h => h) (Or.inl ⟨by kernel_rfl, ?hy29⟩) hHeld ?hr29; case hy29 => (intro w hSw; (try dsimp only at hSw); have k0 := (hSw.cell (p := ⟨W.heap.size, 0, none⟩) HP.out.lt).trans (HP.out.at_ 0 rfl); clear hSw; go_simp; try with_reducible rfl))
          simp only [Act.put, List.getElem_toArray, List.getElem_cons_succ, List.getElem_cons_zero, List.setIfInBounds_toArray, List.set_cons_zero, List.set_cons_succ]
          (refine wpAnyH_take (i := 11) (v := ?hv30) rfl (by kernel_rfl) (by kernel_rfl) (by kernel_rfl) (fun _ _ _ h => h) (Or.inl ⟨by kernel_rfl, ?hy30⟩) hHeld ?hr30; case hy30 => (intro w hSw; (try dsimp only at hSw); go_simp; try with_reducible rfl))
          simp only [Act.put, List.getElem_toArray, List.getElem_cons_succ, List.getElem_cons_zero, List.setIfInBounds_toArray, List.set_cons_zero, List.set_cons_succ]
          (refine wpAnyH_take (i := 12) (v := ?hv31) rfl (by kernel_rfl) (by kernel_rfl) (by kernel_rfl) (fun _ _ _ h => h) (Or.inl ⟨by kernel_rfl, ?hy31⟩) hHeld ?hr31; case hy31 => (intro w hSw; (try dsimp only at hSw); go_simp; try with_reducible rfl))
          simp only [Act.put, List.getElem_toArray, List.getElem_cons_succ, List.getElem_cons_zero, List.setIfInBounds_toArray, List.set_cons_zero, List.set_cons_succ]
          (refine wpAnyH_take (i := 13) (v := ?hv32) rfl (by kernel_rfl) (by kernel_rfl) (by kernel_rfl) (fun _ _ _ h => h) (Or.inl ⟨by kernel_rfl, ?hy32⟩) hHeld ?hr32; case hy32 => (intro w hSw; (try dsimp only at hSw); go_simp; try with_reducible rfl))
          simp only [Act.put, List.getElem_toArray, List.getElem_cons_succ, List.getElem_cons_zero, List.setIfInBounds_toArray, List.set_cons_zero, List.set_cons_succ]
          (refine wpAnyH_take (i := 14) (v := ?hv33) rfl (by kernel_rfl) (by kernel_rfl) (by kernel_rfl) (fun _ _ _ h => h) (Or.inl ⟨by kernel_rfl, ?hy33⟩) hHeld ?hr33; case hy33 => (intro w hSw; (try dsimp only at hSw); have k0 := (hSw.cell (p := ⟨g, o + k * 6 + 2, none⟩) hgl).trans e2; have k1 := (hSw.cell (p := ⟨g, o + k * 6 + 3, none⟩) hgl).trans e3; clear hSw; go_simp; try with_reducible rfl))
          simp only [Act.put, List.getElem_toArray, List.getElem_cons_succ, List.getElem_cons_zero, List.setIfInBounds_toArray, List.set_cons_zero, List.set_cons_succ]
          (refine wpAnyH_take (i := 15) (v := ?hv34) rfl (by kernel_rfl) (by kernel_rfl) (by kernel_rfl) (fun _ _ _ h => h) (Or.inl ⟨by kernel_rfl, ?hy34⟩) hHeld ?hr34; case hy34 => (intro w hSw; (try dsimp only at hSw); have k0 := (hSw.cell (p := ⟨W.heap.size + 1 + 1, 0, none⟩) HT.out.lt).trans (HT.out.at_ 0 rfl); have k1 := (hSw.cell (p := ⟨W.heap.size + 1 + 1, 1, none⟩) HT.out.lt).trans (HT.out.at_ 1 rfl); clear hSw; go_simp; try with_reducible rfl))
          simp only [Act.put, List.getElem_toArray, List.getElem_cons_succ, List.getElem_cons_zero, List.setIfInBounds_toArray, List.set_cons_zero, List.set_cons_succ]
          (refine wpAnyH_take (i := 16) (v := ?hv35) rfl (by kernel_rfl) (by kernel_rfl) (by kernel_rfl) (fun _ _ _ h => h) (Or.inl ⟨by kernel_rfl, ?hy35⟩) hHeld ?hr35; case hy35 => (intro w hSw; (try dsimp only at hSw); go_simp; try with_reducible rfl))
          simp only [Act.put, List.getElem_toArray, List.getElem_cons_succ, List.getElem_cons_zero, List.setIfInBounds_toArray, List.set_cons_zero, List.set_cons_succ]
          (refine wpAnyH_take (i := 17) (v := ?hv36) rfl (by kernel_rfl) (by kernel_rfl) (by kernel_rfl) (fun _ _ _ h => h) (Or.inl ⟨by kernel_rfl, ?hy36⟩) hHeld ?hr36; case hy36 => (intro w hSw; (try dsimp only at hSw); go_simp; try with_reducible rfl))
          simp only [Act.put, List.getElem_toArray, List.getElem_cons_succ, List.getElem_cons_zero, List.setIfInBounds_toArray, List.set_cons_zero, List.set_cons_succ]
          refine wpAnyH_done (by kernel_rfl) ?_ _
          have HF := Lib.hid hHeld
          clear hHeld
          have HB3 := Lib.hid (HB.out.trans (HF.out.mono hsz))
          have HP3 := Lib.hid (HP.out.call HF.out)
          have HF3 := Lib.hid (HF_.out.call HF.out)
          have HT3 := Lib.hid (HT.out.call HF.out)
          clear HF
          go_wp2
          go_roundw
          case rel => exact ⟨k + 1, by omega, by go_num, HC, HB3.out, HP3, HF3, HT3⟩
          case measure => simp [intOf]; omega
        | true =>
          have HY := Lib.hid (show HasCh P (f0, f1) (t0, t1) from hasCh_here Hhx.out (beq_iff_eq.1 H1.out) (beq_iff_eq.1 H2.out))
          go_wp2_with fail
          refine wp_region_held_drew (S := (fun V => Below (wr).heap.size (wr) V)) (by kernel_rfl) ((Below.refl _ _).drew) (fun hHeld => ?_)
          (refine wpAnyH_take (i := 0) (v := ?hv37) rfl (by kernel_rfl) (by kernel_rfl) (by kernel_rfl) (fun _ _ _ h => h) (Or.inl ⟨by kernel_rfl, ?hy37⟩) hHeld ?hr37; case hy37 => (intro w hSw; (try dsimp only at hSw); go_simp; try with_reducible rfl))
          simp only [Act.put, List.getElem_toArray, List.getElem_cons_succ, List.getElem_cons_zero, List.setIfInBounds_toArray, List.set_cons_zero, List.set_cons_succ]
          (refine wpAnyH_take (i := 1) (v := ?hv38) rfl (by kernel_rfl) (by kernel_rfl) (by kernel_rfl) (fun _ _ _ h => h) (Or.inl ⟨by kernel_rfl, ?hy38⟩) hHeld ?hr38; case hy38 => (intro w hSw; (try dsimp only at hSw); have k0 := (hSw.cell (p := ⟨W.heap.size, 0, none⟩) HP.out.lt).trans (HP.out.at_ 0 rfl); clear hSw; go_simp; try with_reducible rfl))
          simp only [Act.put, List.getElem_toArray, List.getElem_cons_succ, List.getElem_cons_zero, List.setIfInBounds_toArray, List.set_cons_zero, List.set_cons_succ]
          (refine wpAnyH_take (i := 2) (v := ?hv39) rfl (by kernel_rfl) (by kernel_rfl) (by kernel_rfl) (fun _ _ _ h => h) (Or.inl ⟨by kernel_rfl, ?hy39⟩) hHeld ?hr39; case hy39 => (intro w hSw; (try dsimp only at hSw); go_simp; try with_reducible rfl))
          simp only [Act.put, List.getElem_toArray, List.getElem_cons_succ, List.getElem_cons_zero, List.setIfInBounds_toArray, List.set_cons_zero, List.set_cons_succ]
          (refine wpAnyH_take (i := 3) (v := ?hv40) rfl (by kernel_rfl) (by kernel_rfl) (by kernel_rfl) (fun _ _ _ h => h) (Or.inl ⟨by kernel_rfl, ?hy40⟩) hHeld ?hr40; case hy40 => (intro w hSw; (try dsimp only at hSw); go_simp; try with_reducible rfl))
          simp only [Act.put, List.getElem_toArray, List.getElem_cons_succ, List.getElem_cons_zero, List.setIfInBounds_toArray, List.set_cons_zero, List.set_cons_succ]
          (refine wpAnyH_take (i := 4) (v := ?hv41) rfl (by kernel_rfl) (by kernel_rfl) (by kernel_rfl) (fun _ _ _ h => h) (Or.inl ⟨by kernel_rfl, ?hy41⟩) hHeld ?hr41; case hy41 => (intro w hSw; (try dsimp only at hSw); go_simp; try with_reducible rfl))
          simp only [Act.put, List.getElem_toArray, List.getElem_cons_succ, List.getElem_cons_zero, List.setIfInBounds_toArray, List.set_cons_zero, List.set_cons_succ]
          (refine wpAnyH_take (i := 5) (v := ?hv42) rfl (by kernel_rfl) (by kernel_rfl) (by kernel_rfl) (fun _ _ _ h => h) (Or.inl ⟨by kernel_rfl, ?hy42⟩) hHeld ?hr42; case hy42 => (intro w hSw; (try dsimp only at hSw); have k0 := (hSw.cell (p := ⟨g, o + k * 6, none⟩) hgl).trans e0; have k1 := (hSw.cell (p := ⟨g, o + k * 6 + 1, none⟩) hgl).trans e1; clear hSw; go_simp; try with_reducible rfl))
          simp only [Act.put, List.getElem_toArray, List.getElem_cons_succ, List.getElem_cons_zero, List.setIfInBounds_toArray, List.set_cons_zero, List.set_cons_succ]
          (refine wpAnyH_take (i := 6) (v := ?hv43) rfl (by kernel_rfl) (by kernel_rfl) (by kernel_rfl) (fun _ _ _ h => h) (Or.inl ⟨by kernel_rfl, ?hy43⟩) hHeld ?hr43; case hy43 => (intro w hSw; (try dsimp only at hSw); have k0 := (hSw.cell (p := ⟨W.heap.size + 1, 0, none⟩) HF_.out.lt).trans (HF_.out.at_ 0 rfl); have k1 := (hSw.cell (p := ⟨W.heap.size + 1, 1, none⟩) HF_.out.lt).trans (HF_.out.at_ 1 rfl); clear hSw; go_simp; try with_reducible rfl))
          simp only [Act.put, List.getElem_toArray, List.getElem_cons_succ, List.getElem_cons_zero, List.setIfInBounds_toArray, List.set_cons_zero, List.set_cons_succ]
          (refine wpAnyH_take (i := 7) (v := ?hv44) rfl (by kernel_rfl) (by kernel_rfl) (by kernel_rfl) (fun _ _ _ h => h) (Or.inl ⟨by kernel_rfl, ?hy44⟩) hHeld ?hr44; case hy44 => (intro w hSw; (try dsimp only at hSw); go_simp; try with_reducible rfl))
          simp only [Act.put, List.getElem_toArray, List.getElem_cons_succ, List.getElem_cons_zero, List.setIfInBounds_toArray, List.set_cons_zero, List.set_cons_succ]
          (refine wpAnyH_take (i := 8) (v := ?hv45) rfl (by kernel_rfl) (by kernel_rfl) (by kernel_rfl) (fun _ _ _ h => h) (Or.inl ⟨by kernel_rfl, ?hy45⟩) hHeld ?hr45; case hy45 => (intro w hSw; (try dsimp only at hSw); go_simp; try with_reducible rfl))
          simp only [Act.put, List.getElem_toArray, List.getElem_cons_succ, List.getElem_cons_zero, List.setIfInBounds_toArray, List.set_cons_zero, List.set_cons_succ]
          (refine wpAnyH_take (i := 9) (v := ?hv46) rfl (by kernel_rfl) (by kernel_rfl) (by kernel_rfl) (fun _ _ _ h => h) (Or.inl ⟨by kernel_rfl, ?hy46⟩) hHeld ?hr46; case hy46 => (intro w hSw; (try dsimp only at hSw); go_simp; try with_reducible rfl))
          simp only [Act.put, List.getElem_toArray, List.getElem_cons_succ, List.getElem_cons_zero, List.setIfInBounds_toArray, List.set_cons_zero, List.set_cons_succ]
          (refine wpAnyH_take (i := 10) (v := ?hv47) rfl (by kernel_rfl) (by kernel_rfl) (by kernel_rfl) (fun _ _ _ h => h) (Or.inl ⟨by kernel_rfl, ?hy47⟩) hHeld ?hr47; case hy47 => (intro w hSw; (try dsimp only at hSw); have k0 := (hSw.cell (p := ⟨W.heap.size, 0, none⟩) HP.out.lt).trans (HP.out.at_ 0 rfl); clear hSw; go_simp; try with_reducible rfl))
          simp only [Act.put, List.getElem_toArray, List.getElem_cons_succ, List.getElem_cons_zero, List.setIfInBounds_toArray, List.set_cons_zero, List.set_cons_succ]
          (refine wpAnyH_take (i := 11) (v := ?hv48) rfl (by kernel_rfl) (by kernel_rfl) (by kernel_rfl) (fun _ _ _ h => h) (Or.inl ⟨by kernel_rfl, ?hy48⟩) hHeld ?hr48; case hy48 => (intro w hSw; (try dsimp only at hSw); go_simp; try with_reducible rfl))
          simp only [Act.put, List.getElem_toArray, List.getElem_cons_succ, List.getElem_cons_zero, List.setIfInBounds_toArray, List.set_cons_zero, List.set_cons_succ]
          (refine wpAnyH_take (i := 12) (v := ?hv49) rfl (by kernel_rfl) (by kernel_rfl) (by kernel_rfl) (fun _ _ _ h => h) (Or.inl ⟨by kernel_rfl, ?hy49⟩) hHeld ?hr49; case hy49 => (intro w hSw; (try dsimp only at hSw); go_simp; try with_reducible rfl))
          simp only [Act.put, List.getElem_toArray, List.getElem_cons_succ, List.getElem_cons_zero, List.setIfInBounds_toArray, List.set_cons_zero, List.set_cons_succ]
          (refine wpAnyH_take (i := 13) (v := ?hv50) rfl (by kernel_rfl) (by kernel_rfl) (by kernel_rfl) (fun _ _ _ h => h) (Or.inl ⟨by kernel_rfl, ?hy50⟩) hHeld ?hr50; case hy50 => (intro w hSw; (try dsimp only at hSw); go_simp; try with_reducible rfl))
          simp only [Act.put, List.getElem_toArray, List.getElem_cons_succ, List.getElem_cons_zero, List.setIfInBounds_toArray, List.set_cons_zero, List.set_cons_succ]
          (refine wpAnyH_take (i := 14) (v := ?hv51) rfl (by kernel_rfl) (by kernel_rfl) (by kernel_rfl) (fun _ _ _ h => h) (Or.inl ⟨by kernel_rfl, ?hy51⟩) hHeld ?hr51; case hy51 => (intro w hSw; (try dsimp only at hSw); have k0 := (hSw.cell (p := ⟨g, o + k * 6 + 2, none⟩) hgl).trans e2; have k1 := (hSw.cell (p := ⟨g, o + k * 6 + 3, none⟩) hgl).trans e3; clear hSw; go_simp; try with_reducible rfl))
          simp only [Act.put, List.getElem_toArray, List.getElem_cons_succ, List.getElem_cons_zero, List.setIfInBounds_toArray, List.set_cons_zero, List.set_cons_succ]
          (refine wpAnyH_take (i := 15) (v := ?hv52) rfl (by kernel_rfl) (by kernel_rfl) (by kernel_rfl) (fun _ _ _ h => h) (Or.inl ⟨by kernel_rfl, ?hy52⟩) hHeld ?hr52; case hy52 => (intro w hSw; (try dsimp only at hSw); have k0 := (hSw.cell (p := ⟨W.heap.size + 1 + 1, 0, none⟩) HT.out.lt).trans (HT.out.at_ 0 rfl); have k1 := (hSw.cell (p := ⟨W.heap.size + 1 + 1, 1, none⟩) HT.out.lt).trans (HT.out.at_ 1 rfl); clear hSw; go_simp; try with_reducible rfl))
          simp only [Act.put, List.getElem_toArray, List.getElem_cons_succ, List.getElem_cons_zero, List.setIfInBounds_toArray, List.set_cons_zero, List.set_cons_succ]
          (refine wpAnyH_take (i := 16) (v := ?hv53) rfl (by kernel_rfl) (by kernel_rfl) (by kernel_rfl) (fun _ _ _ h => h) (Or.inl ⟨by kernel_rfl, ?hy53⟩) hHeld ?hr53; case hy53 => (intro w hSw; (try dsimp only at hSw); go_simp; try with_reducible rfl))
          simp only [Act.put, List.getElem_toArray, List.getElem_cons_succ, List.getElem_cons_zero, List.setIfInBounds_toArray, List.set_cons_zero, List.set_cons_succ]
          (refine wpAnyH_take (i := 17) (v := ?hv54) rfl (by kernel_rfl) (by kernel_rfl) (by kernel_rfl) (fun _ _ _ h => h) (Or.inl ⟨by kernel_rfl, ?hy54⟩) hHeld ?hr54; case hy54 => (intro w hSw; (try dsimp only at hSw); go_simp; try with_reducible rfl))
          simp only [Act.put, List.getElem_toArray, List.getElem_cons_succ, List.getElem_cons_zero, List.setIfInBounds_toArray, List.set_cons_zero, List.set_cons_succ]
          refine wpAnyH_done (by kernel_rfl) ?_ _
          have HF := Lib.hid hHeld
          clear hHeld
          have HB3 := Lib.hid (HB.out.trans (HF.out.mono hsz))
          clear HF
          go_wp2
          go_ret
          exact resB_yes HY.out HB3.out
    · have HN := Lib.hid (hasCh_end (by omega) HA.out)
      have hd : decide ((k : Int) < (P.length : Int)) = false := decide_eq_false (by omega)
      clear hB
      go_wp2
      go_ret
      exact resB_no HN.out HB.out

set_option maxRecDepth 100000 in
set_option maxHeartbeats 3200000 in
theorem rs_at (l s : Int) {b : Bool} (hb : LabC.rB l s = b) (w : World) : Calls Tryd.prog 25 #[.agg #[.int .i64 l, .int .i64 s]] w fun e w' => e = .returned (.bool b) ∧ Below w.heap.size w w' := by
  subst hb; exact LabC.rs_w l s w
set_option maxRecDepth 100000 in
set_option maxHeartbeats 3200000 in
theorem pairs_spec {P : List D_Letter} {a0 : Option Addr} {c0 : Nat} {W : World} (hP : RdSl R_Letter W W.heap.size P a0 c0) :
    Calls Tryd.prog 74 #[.slice a0 P.length c0] W (ResB (PairsR P) W) := by
  have hn : P.length ≤ 9223372036854775807 := by have h1 := hP.1; have h2 := hP.2.1; unfold maxLen at h2; omega
  have H := Lib.hid hP
  clear hP
  go_enter Tryd.func74, Tryd.ntmps74
  go_wp2
  go_loopw [3] (fun i wr => ∃ k : Nat, k ≤ P.length ∧ i = .int .i64 k ∧ Hid (∀ (j : Nat) (x : D_Letter), j < k → P[j]? = some x → PairOk P j x) ∧ Below W.heap.size W wr) (fun i _ => P.length - (intOf i).toNat)
  case atStart => exact ⟨0, Nat.zero_le _, rfl, Lib.hid fun j x h => absurd h (Nat.not_lt_zero _), Below.refl _ _⟩
  case round =>
    obtain ⟨k, hk, rfl, HA, hB⟩ := hrel
    have HB := Lib.hid hB
    have hsz := hB.size
    by_cases hlt : k < P.length
    · obtain ⟨⟨⟨x0, x1⟩, ⟨x2, x3⟩, x4, x5⟩, hx⟩ := el_some hlt
      have Hhx := Lib.hid hx
      obtain ⟨g, o, us, rfl, hgg, hu, hr⟩ := (H.out.below R_Letter_ok hB).at_ hx
      obtain rfl := rd_Letter hr
      have e0 : wr.cell? ⟨g, o + k * 6, none⟩ = some (.int .i64 x0) := by simpa [size_LetterS, Nat.add_assoc] using hu 0 _ rfl
      have e1 : wr.cell? ⟨g, o + k * 6 + 1, none⟩ = some (.int .i64 x1) := by simpa [size_LetterS, Nat.add_assoc] using hu 1 _ rfl
      have e2 : wr.cell? ⟨g, o + k * 6 + 2, none⟩ = some (.int .i64 x2) := by simpa [size_LetterS, Nat.add_assoc] using hu 2 _ rfl
      have e3 : wr.cell? ⟨g, o + k * 6 + 3, none⟩ = some (.int .i64 x3) := by simpa [size_LetterS, Nat.add_assoc] using hu 3 _ rfl
      have e4 : wr.cell? ⟨g, o + k * 6 + 4, none⟩ = some (.int .i64 x4) := by simpa [size_LetterS, Nat.add_assoc] using hu 4 _ rfl
      have e5 : wr.cell? ⟨g, o + k * 6 + 5, none⟩ = some (.int .i64 x5) := by simpa [size_LetterS, Nat.add_assoc] using hu 5 _ rfl
      have hgl : g < wr.heap.size := Nat.lt_of_lt_of_le hgg hsz
      have hi0 : (0 : Int) ≤ (k : Int) := Int.natCast_nonneg _
      have hi1 : (k : Int) < (P.length : Int) := by omega
      clear hB hx hu hr
      obtain ⟨b1, h1⟩ : ∃ b, LabC.rB x0 x1 = b := ⟨_, rfl⟩
      obtain ⟨b2, h2⟩ : ∃ b, LabC.rB x2 x3 = b := ⟨_, rfl⟩
      have H1 := Lib.hid h1
      have H2 := Lib.hid h2
      clear h1 h2
      go_wp2_with fail
      refine (rs_at x0 x1 H1.out _).mono ?_
      rintro e w1 ⟨rfl, hb⟩
      have HB1 := Lib.hid (HB.out.trans (hb.mono hsz))
      have hsz1 := HB1.out.size
      replace e0 := (hb.cell (p := ⟨g, _, none⟩) hgl).trans e0
      replace e1 := (hb.cell (p := ⟨g, _, none⟩) hgl).trans e1
      replace e2 := (hb.cell (p := ⟨g, _, none⟩) hgl).trans e2
      replace e3 := (hb.cell (p := ⟨g, _, none⟩) hgl).trans e3
      replace e4 := (hb.cell (p := ⟨g, _, none⟩) hgl).trans e4
      replace e5 := (hb.cell (p := ⟨g, _, none⟩) hgl).trans e5
      have hgl0 := Nat.lt_of_lt_of_le hgl hb.size
      clear hb
      cases b1 with
      | false =>
        have HN := Lib.hid (show ¬ PairsR P from fun h => by have := (h.2 k _ Hhx.out).1; rw [show LabC.rB x0 x1 = false from H1.out] at this; cases this)
        go_wp2
        go_ret
        exact resB_no HN.out HB1.out
      | true =>
        go_wp2_with fail
        refine (rs_at x2 x3 H2.out _).mono ?_
        rintro e w2 ⟨rfl, hb⟩
        have HB2 := Lib.hid (HB1.out.trans (hb.mono hsz1))
        have hsz2 := HB2.out.size
        replace e0 := (hb.cell (p := ⟨g, _, none⟩) hgl0).trans e0
        replace e1 := (hb.cell (p := ⟨g, _, none⟩) hgl0).trans e1
        replace e2 := (hb.cell (p := ⟨g, _, none⟩) hgl0).trans e2
        replace e3 := (hb.cell (p := ⟨g, _, none⟩) hgl0).trans e3
        replace e4 := (hb.cell (p := ⟨g, _, none⟩) hgl0).trans e4
        replace e5 := (hb.cell (p := ⟨g, _, none⟩) hgl0).trans e5
        have hgl1 := Nat.lt_of_lt_of_le hgl0 hb.size
        clear hb
        cases b2 with
        | false =>
          have HN := Lib.hid (show ¬ PairsR P from fun h => by have := (h.2 k _ Hhx.out).2.1; rw [show LabC.rB x2 x3 = false from H2.out] at this; cases this)
          go_wp2
          go_ret
          exact resB_no HN.out HB2.out
        | true =>
          by_cases h4 : x4 = 0
          rotate_left
          · have hd : (x4 != 0) = true := by simpa using h4
            have HN := Lib.hid (show ¬ PairsR P from fun h => h4 (h.2 k _ Hhx.out).2.2.1)
            go_wp2
            go_ret
            exact resB_no HN.out HB2.out
          by_cases h5 : x5 = 0
          rotate_left
          · have hd : (x5 != 0) = true := by simpa using h5
            have hd4 : (x4 != 0) = false := by simpa using h4
            have HN := Lib.hid (show ¬ PairsR P from fun h => h5 (h.2 k _ Hhx.out).2.2.2.1)
            go_wp2
            go_ret
            exact resB_no HN.out HB2.out
          subst h4 h5
          go_wp2
          go_loopw [4] (fun i wr => ∃ m : Nat, m ≤ k ∧ i = .int .i64 m ∧ Hid (((x0, x1), (x2, x3), (0 : Int), (0 : Int)) ∉ P.take m) ∧ Below w2.heap.size w2 wr) (fun i _ => k - (intOf i).toNat)
          case atStart => exact ⟨0, Nat.zero_le _, rfl, Lib.hid (by simp), Below.refl _ _⟩
          case round =>
            obtain ⟨m, hm, rfl, HM, hB⟩ := hrel
            have HBm := Lib.hid hB
            have hszm := hB.size
            by_cases hmt : m < k
            · have hml : m < P.length := by omega
              obtain ⟨⟨⟨y0, y1⟩, ⟨y2, y3⟩, y4, y5⟩, hy⟩ := el_some hml
              have Hhy := Lib.hid hy
              obtain ⟨g2, o2, us, hag2, hgg2, hu, hr⟩ := (H.out.below R_Letter_ok ((HB2.out).trans (hB.mono hsz2))).at_ hy
              obtain rfl := rd_Letter hr
              have d0 : wr.cell? ⟨g2, o2 + m * 6, none⟩ = some (.int .i64 y0) := by simpa [size_LetterS, Nat.add_assoc] using hu 0 _ rfl
              have d1 : wr.cell? ⟨g2, o2 + m * 6 + 1, none⟩ = some (.int .i64 y1) := by simpa [size_LetterS, Nat.add_assoc] using hu 1 _ rfl
              have d2 : wr.cell? ⟨g2, o2 + m * 6 + 2, none⟩ = some (.int .i64 y2) := by simpa [size_LetterS, Nat.add_assoc] using hu 2 _ rfl
              have d3 : wr.cell? ⟨g2, o2 + m * 6 + 3, none⟩ = some (.int .i64 y3) := by simpa [size_LetterS, Nat.add_assoc] using hu 3 _ rfl
              have d4 : wr.cell? ⟨g2, o2 + m * 6 + 4, none⟩ = some (.int .i64 y4) := by simpa [size_LetterS, Nat.add_assoc] using hu 4 _ rfl
              have d5 : wr.cell? ⟨g2, o2 + m * 6 + 5, none⟩ = some (.int .i64 y5) := by simpa [size_LetterS, Nat.add_assoc] using hu 5 _ rfl
              obtain ⟨rfl, rfl⟩ : g2 = g ∧ o2 = o := by cases hag2; exact ⟨rfl, rfl⟩
              have hgl2 : g2 < wr.heap.size := Nat.lt_of_lt_of_le (Nat.lt_of_lt_of_le hgl1 (Nat.le_refl _)) hszm
              have hj0 : (0 : Int) ≤ (m : Int) := Int.natCast_nonneg _
              have hj1 : (m : Int) < (P.length : Int) := by omega
              have hj2 : (m : Int) < (k : Int) := by omega
              have f0 := (hB.cell (p := ⟨g2, _, none⟩) hgl1).trans e0
              have f1 := (hB.cell (p := ⟨g2, _, none⟩) hgl1).trans e1
              have f2 := (hB.cell (p := ⟨g2, _, none⟩) hgl1).trans e2
              have f3 := (hB.cell (p := ⟨g2, _, none⟩) hgl1).trans e3
              have f4 := (hB.cell (p := ⟨g2, _, none⟩) hgl1).trans e4
              have f5 := (hB.cell (p := ⟨g2, _, none⟩) hgl1).trans e5
              clear hB hy hu hr
              obtain ⟨b3, h3⟩ : ∃ b, (((y0, y1), (y2, y3), y4, y5) == (((x0, x1), (x2, x3), 0, 0) : D_Letter)) = b := ⟨_, rfl⟩
              have q3 := eq_letter_at h3
              have H3 := Lib.hid h3
              clear h3
              cases b3 with
              | true =>
                have HN := Lib.hid (show ¬ PairsR P from fun h => (h.2 k _ Hhx.out).2.2.2.2 (by rw [← beq_iff_eq.1 H3.out]; exact List.mem_take_iff_getElem.2 (by have h2 := List.getElem?_eq_some_iff.1 Hhy.out; obtain ⟨h3, h4⟩ := h2; exact ⟨m, by omega, h4⟩)))
                go_wp2_with fail
                refine wp_region_held_drew (S := (fun V => Below (wr).heap.size (wr) V)) (by kernel_rfl) ((Below.refl _ _).drew) (fun hHeld => ?_)
                (refine wpAnyH_take (i := 0) (v := ?hv55) rfl (by kernel_rfl) (by kernel_rfl) (by kernel_rfl) (fun _ _ _ h => h) (Or.inl ⟨by kernel_rfl, ?hy55⟩) hHeld ?hr55; case hy55 => (intro w hSw; (try dsimp only at hSw); go_simp; try with_reducible rfl))
                simp only [Act.put, List.getElem_toArray, List.getElem_cons_succ, List.getElem_cons_zero, List.setIfInBounds_toArray, List.set_cons_zero, List.set_cons_succ]
                (refine wpAnyH_take (i := 1) (v := ?hv56) rfl (by kernel_rfl) (by kernel_rfl) (by kernel_rfl) (fun _ _ _ h => h) (Or.inl ⟨by kernel_rfl, ?hy56⟩) hHeld ?hr56; case hy56 => (intro w hSw; (try dsimp only at hSw); go_simp; try with_reducible rfl))
                simp only [Act.put, List.getElem_toArray, List.getElem_cons_succ, List.getElem_cons_zero, List.setIfInBounds_toArray, List.set_cons_zero, List.set_cons_succ]
                (refine wpAnyH_take (i := 2) (v := ?hv57) rfl (by kernel_rfl) (by kernel_rfl) (by kernel_rfl) (fun _ _ _ h => h) (Or.inl ⟨by kernel_rfl, ?hy57⟩) hHeld ?hr57; case hy57 => (intro w hSw; (try dsimp only at hSw); go_simp; try with_reducible rfl))
                simp only [Act.put, List.getElem_toArray, List.getElem_cons_succ, List.getElem_cons_zero, List.setIfInBounds_toArray, List.set_cons_zero, List.set_cons_succ]
                (refine wpAnyH_take (i := 3) (v := ?hv58) rfl (by kernel_rfl) (by kernel_rfl) (by kernel_rfl) (fun _ _ _ h => h) (Or.inl ⟨by kernel_rfl, ?hy58⟩) hHeld ?hr58; case hy58 => (intro w hSw; (try dsimp only at hSw); have k0 := (hSw.cell (p := ⟨g2, o2 + m * 6, none⟩) hgl2).trans d0; have k1 := (hSw.cell (p := ⟨g2, o2 + m * 6 + 1, none⟩) hgl2).trans d1; have k2 := (hSw.cell (p := ⟨g2, o2 + m * 6 + 2, none⟩) hgl2).trans d2; have k3 := (hSw.cell (p := ⟨g2, o2 + m * 6 + 3, none⟩) hgl2).trans d3; have k4 := (hSw.cell (p := ⟨g2, o2 + m * 6 + 4, none⟩) hgl2).trans d4; have k5 := (hSw.cell (p := ⟨g2, o2 + m * 6 + 5, none⟩) hgl2).trans d5; clear hSw; go_simp; try with_reducible rfl))
                simp only [Act.put, List.getElem_toArray, List.getElem_cons_succ, List.getElem_cons_zero, List.setIfInBounds_toArray, List.set_cons_zero, List.set_cons_succ]
                (refine wpAnyH_take (i := 4) (v := ?hv59) rfl (by kernel_rfl) (by kernel_rfl) (by kernel_rfl) (fun _ _ _ h => h) (Or.inl ⟨by kernel_rfl, ?hy59⟩) hHeld ?hr59; case hy59 => (intro w hSw; (try dsimp only at hSw); go_simp; try with_reducible rfl))
                simp only [Act.put, List.getElem_toArray, List.getElem_cons_succ, List.getElem_cons_zero, List.setIfInBounds_toArray, List.set_cons_zero, List.set_cons_succ]
                (refine wpAnyH_take (i := 5) (v := ?hv60) rfl (by kernel_rfl) (by kernel_rfl) (by kernel_rfl) (fun _ _ _ h => h) (Or.inl ⟨by kernel_rfl, ?hy60⟩) hHeld ?hr60; case hy60 => (intro w hSw; (try dsimp only at hSw); go_simp; try with_reducible rfl))
                simp only [Act.put, List.getElem_toArray, List.getElem_cons_succ, List.getElem_cons_zero, List.setIfInBounds_toArray, List.set_cons_zero, List.set_cons_succ]
                (refine wpAnyH_take (i := 6) (v := ?hv61) rfl (by kernel_rfl) (by kernel_rfl) (by kernel_rfl) (fun _ _ _ h => h) (Or.inl ⟨by kernel_rfl, ?hy61⟩) hHeld ?hr61; case hy61 => (intro w hSw; (try dsimp only at hSw); go_simp; try with_reducible rfl))
                simp only [Act.put, List.getElem_toArray, List.getElem_cons_succ, List.getElem_cons_zero, List.setIfInBounds_toArray, List.set_cons_zero, List.set_cons_succ]
                (refine wpAnyH_take (i := 7) (v := ?hv62) rfl (by kernel_rfl) (by kernel_rfl) (by kernel_rfl) (fun _ _ _ h => h) (Or.inl ⟨by kernel_rfl, ?hy62⟩) hHeld ?hr62; case hy62 => (intro w hSw; (try dsimp only at hSw); have k0 := (hSw.cell (p := ⟨g2, o2 + k * 6, none⟩) hgl2).trans f0; have k1 := (hSw.cell (p := ⟨g2, o2 + k * 6 + 1, none⟩) hgl2).trans f1; have k2 := (hSw.cell (p := ⟨g2, o2 + k * 6 + 2, none⟩) hgl2).trans f2; have k3 := (hSw.cell (p := ⟨g2, o2 + k * 6 + 3, none⟩) hgl2).trans f3; have k4 := (hSw.cell (p := ⟨g2, o2 + k * 6 + 4, none⟩) hgl2).trans f4; have k5 := (hSw.cell (p := ⟨g2, o2 + k * 6 + 5, none⟩) hgl2).trans f5; clear hSw; go_simp; try with_reducible rfl))
                simp only [Act.put, List.getElem_toArray, List.getElem_cons_succ, List.getElem_cons_zero, List.setIfInBounds_toArray, List.set_cons_zero, List.set_cons_succ]
                (refine wpAnyH_take (i := 8) (v := ?hv63) rfl (by kernel_rfl) (by kernel_rfl) (by kernel_rfl) (fun _ _ _ h => h) (Or.inl ⟨by kernel_rfl, ?hy63⟩) hHeld ?hr63; case hy63 => (intro w hSw; (try dsimp only at hSw); go_simp; try with_reducible rfl))
                simp only [Act.put, List.getElem_toArray, List.getElem_cons_succ, List.getElem_cons_zero, List.setIfInBounds_toArray, List.set_cons_zero, List.set_cons_succ]
                refine wpAnyH_done (by kernel_rfl) ?_ _
                have HF := Lib.hid hHeld
                clear hHeld
                have HB4 := Lib.hid (HB2.out.trans ((HBm.out.trans (HF.out.mono hszm)).mono hsz2))
                clear HF
                go_wp2
                go_ret
                exact resB_no HN.out HB4.out
              | false =>
                have HC := Lib.hid (mem_step HM.out Hhy.out H3.out)
                go_wp2_with fail
                refine wp_region_held_drew (S := (fun V => Below (wr).heap.size (wr) V)) (by kernel_rfl) ((Below.refl _ _).drew) (fun hHeld => ?_)
                (refine wpAnyH_take (i := 0) (v := ?hv64) rfl (by kernel_rfl) (by kernel_rfl) (by kernel_rfl) (fun _ _ _ h => h) (Or.inl ⟨by kernel_rfl, ?hy64⟩) hHeld ?hr64; case hy64 => (intro w hSw; (try dsimp only at hSw); go_simp; try with_reducible rfl))
                simp only [Act.put, List.getElem_toArray, List.getElem_cons_succ, List.getElem_cons_zero, List.setIfInBounds_toArray, List.set_cons_zero, List.set_cons_succ]
                (refine wpAnyH_take (i := 1) (v := ?hv65) rfl (by kernel_rfl) (by kernel_rfl) (by kernel_rfl) (fun _ _ _ h => h) (Or.inl ⟨by kernel_rfl, ?hy65⟩) hHeld ?hr65; case hy65 => (intro w hSw; (try dsimp only at hSw); go_simp; try with_reducible rfl))
                simp only [Act.put, List.getElem_toArray, List.getElem_cons_succ, List.getElem_cons_zero, List.setIfInBounds_toArray, List.set_cons_zero, List.set_cons_succ]
                (refine wpAnyH_take (i := 2) (v := ?hv66) rfl (by kernel_rfl) (by kernel_rfl) (by kernel_rfl) (fun _ _ _ h => h) (Or.inl ⟨by kernel_rfl, ?hy66⟩) hHeld ?hr66; case hy66 => (intro w hSw; (try dsimp only at hSw); go_simp; try with_reducible rfl))
                simp only [Act.put, List.getElem_toArray, List.getElem_cons_succ, List.getElem_cons_zero, List.setIfInBounds_toArray, List.set_cons_zero, List.set_cons_succ]
                (refine wpAnyH_take (i := 3) (v := ?hv67) rfl (by kernel_rfl) (by kernel_rfl) (by kernel_rfl) (fun _ _ _ h => h) (Or.inl ⟨by kernel_rfl, ?hy67⟩) hHeld ?hr67; case hy67 => (intro w hSw; (try dsimp only at hSw); have k0 := (hSw.cell (p := ⟨g2, o2 + m * 6, none⟩) hgl2).trans d0; have k1 := (hSw.cell (p := ⟨g2, o2 + m * 6 + 1, none⟩) hgl2).trans d1; have k2 := (hSw.cell (p := ⟨g2, o2 + m * 6 + 2, none⟩) hgl2).trans d2; have k3 := (hSw.cell (p := ⟨g2, o2 + m * 6 + 3, none⟩) hgl2).trans d3; have k4 := (hSw.cell (p := ⟨g2, o2 + m * 6 + 4, none⟩) hgl2).trans d4; have k5 := (hSw.cell (p := ⟨g2, o2 + m * 6 + 5, none⟩) hgl2).trans d5; clear hSw; go_simp; try with_reducible rfl))
                simp only [Act.put, List.getElem_toArray, List.getElem_cons_succ, List.getElem_cons_zero, List.setIfInBounds_toArray, List.set_cons_zero, List.set_cons_succ]
                (refine wpAnyH_take (i := 4) (v := ?hv68) rfl (by kernel_rfl) (by kernel_rfl) (by kernel_rfl) (fun _ _ _ h => h) (Or.inl ⟨by kernel_rfl, ?hy68⟩) hHeld ?hr68; case hy68 => (intro w hSw; (try dsimp only at hSw); go_simp; try with_reducible rfl))
                simp only [Act.put, List.getElem_toArray, List.getElem_cons_succ, List.getElem_cons_zero, List.setIfInBounds_toArray, List.set_cons_zero, List.set_cons_succ]
                (refine wpAnyH_take (i := 5) (v := ?hv69) rfl (by kernel_rfl) (by kernel_rfl) (by kernel_rfl) (fun _ _ _ h => h) (Or.inl ⟨by kernel_rfl, ?hy69⟩) hHeld ?hr69; case hy69 => (intro w hSw; (try dsimp only at hSw); go_simp; try with_reducible rfl))
                simp only [Act.put, List.getElem_toArray, List.getElem_cons_succ, List.getElem_cons_zero, List.setIfInBounds_toArray, List.set_cons_zero, List.set_cons_succ]
                (refine wpAnyH_take (i := 6) (v := ?hv70) rfl (by kernel_rfl) (by kernel_rfl) (by kernel_rfl) (fun _ _ _ h => h) (Or.inl ⟨by kernel_rfl, ?hy70⟩) hHeld ?hr70; case hy70 => (intro w hSw; (try dsimp only at hSw); go_simp; try with_reducible rfl))
                simp only [Act.put, List.getElem_toArray, List.getElem_cons_succ, List.getElem_cons_zero, List.setIfInBounds_toArray, List.set_cons_zero, List.set_cons_succ]
                (refine wpAnyH_take (i := 7) (v := ?hv71) rfl (by kernel_rfl) (by kernel_rfl) (by kernel_rfl) (fun _ _ _ h => h) (Or.inl ⟨by kernel_rfl, ?hy71⟩) hHeld ?hr71; case hy71 => (intro w hSw; (try dsimp only at hSw); have k0 := (hSw.cell (p := ⟨g2, o2 + k * 6, none⟩) hgl2).trans f0; have k1 := (hSw.cell (p := ⟨g2, o2 + k * 6 + 1, none⟩) hgl2).trans f1; have k2 := (hSw.cell (p := ⟨g2, o2 + k * 6 + 2, none⟩) hgl2).trans f2; have k3 := (hSw.cell (p := ⟨g2, o2 + k * 6 + 3, none⟩) hgl2).trans f3; have k4 := (hSw.cell (p := ⟨g2, o2 + k * 6 + 4, none⟩) hgl2).trans f4; have k5 := (hSw.cell (p := ⟨g2, o2 + k * 6 + 5, none⟩) hgl2).trans f5; clear hSw; go_simp; try with_reducible rfl))
                simp only [Act.put, List.getElem_toArray, List.getElem_cons_succ, List.getElem_cons_zero, List.setIfInBounds_toArray, List.set_cons_zero, List.set_cons_succ]
                (refine wpAnyH_take (i := 8) (v := ?hv72) rfl (by kernel_rfl) (by kernel_rfl) (by kernel_rfl) (fun _ _ _ h => h) (Or.inl ⟨by kernel_rfl, ?hy72⟩) hHeld ?hr72; case hy72 => (intro w hSw; (try dsimp only at hSw); go_simp; try with_reducible rfl))
                simp only [Act.put, List.getElem_toArray, List.getElem_cons_succ, List.getElem_cons_zero, List.setIfInBounds_toArray, List.set_cons_zero, List.set_cons_succ]
                refine wpAnyH_done (by kernel_rfl) ?_ _
                have HF := Lib.hid hHeld
                clear hHeld
                have HB4 := Lib.hid (HBm.out.trans (HF.out.mono hszm))
                clear HF
                go_wp2
                go_roundw
                case rel => exact ⟨m + 1, by omega, by go_num, HC, HB4.out⟩
                case measure => simp [intOf]; omega
            · have hd : decide ((m : Int) < (k : Int)) = false := decide_eq_false (by omega)
              have HS := Lib.hid (show ∀ (j : Nat) (x : D_Letter), j < k + 1 → P[j]? = some x → PairOk P j x from fun j y hj hy => by
                by_cases e : j = k
                · subst e
                  have := Hhx.out
                  rw [hy] at this
                  obtain rfl := Option.some.inj this
                  exact ⟨H1.out, H2.out, rfl, rfl, by have h := HM.out; rwa [show m = j by omega] at h⟩
                · exact HA.out j y (by omega) hy)
              have HB5 := Lib.hid (HB2.out.trans (HBm.out.mono hsz2))
              clear hB
              go_wp2
              go_roundw
              case rel => exact ⟨k + 1, by omega, by go_num, HS, HB5.out⟩
              case measure => simp [intOf]; omega
    · have hd1 : decide ((k : Int) < (P.length : Int)) = false := decide_eq_false (by omega)
      by_cases n6 : P.length ≤ 4
      · have hd4 : decide ((P.length : Int) ≤ 4) = true := decide_eq_true (by omega)
        have HY := Lib.hid (show PairsR P from ⟨n6, fun i x hx => HA.out i x (by have := el_lt hx; omega) hx⟩)
        clear hB
        go_wp2
        go_ret
        exact resB_yes HY.out HB.out
      · have hd4 : decide ((P.length : Int) ≤ 4) = false := decide_eq_false (by omega)
        have HN := Lib.hid (show ¬ PairsR P from fun h => n6 h.1)
        clear hB
        go_wp2
        go_ret
        exact resB_no HN.out HB.out
end Go.Proofs.YtknifggpodhhdaaDoor.RepC
