/- The library's comparison of numbers; the order of labels: contracts. -/
import Derived.Test.YtmmnkdilnlhbfaaTk
import Derived.Test.YtmmnkdilnlhbfaaTk
import Derived.Test.YtmmnkdilnlhbfaaCmpL
import Derived.Test.YtmmnkdilnlhbfaaRep3
namespace Go.Proofs.Ytmmnkdilnlhbfaa.SortC
open Go.Shelf Go.RowKit RepC RowC ValC
set_option linter.unusedVariables false
set_option linter.unusedSimpArgs false

theorem cmp64 (x y : Int) (w : World) : Calls Try.prog 127 #[.int .i64 x, .int .i64 y] w fun e w' => e = .returned (.int .i64 (Lib.compareInt x y)) ∧ w' = w := AnyG.cmp_Compare_int Try.cmpI64 x y w
def orI (l : List Int) : Int := (l.find? (· != 0)).getD 0
set_option maxRecDepth 100000 in
set_option maxHeartbeats 1600000 in
theorem or2_v (g : Nat) (r0 r1 : Int) (w : World) (h : Blk w g 3 #[.int .i64 r0, .int .i64 r1]) :
    Calls Try.prog 126 #[.slice (some ⟨g, 0, none⟩) 2 2] w fun e w' => e = .returned (.int .i64 (orI [r0, r1])) ∧ w' = w := by
  have HB := Lib.hid h
  clear h
  have c0 := HB.out.at_ 0 rfl
  have c1 := HB.out.at_ 1 rfl
  go_enter Try.func126, Try.ntmps126
  go_wp2
  go_loopw [8] (fun i wr => ∃ k : Nat, k ≤ 2 ∧ i = .int .i64 k ∧ wr = w ∧ Hid (∀ j, j < k → [r0, r1].getD j 0 = 0)) (fun i _ => 2 - (intOf i).toNat)
  case atStart => exact ⟨0, by omega, rfl, rfl, Lib.hid fun j h => absurd h (Nat.not_lt_zero _)⟩
  case round =>
    obtain ⟨k, hk, rfl, rfl, HZ⟩ := hrel
    by_cases hk4 : k = 2
    · subst hk4
      have HE := Lib.hid (show orI [r0, r1] = 0 from by
        have e0 := HZ.out 0 (by omega); have e1 := HZ.out 1 (by omega)
        simp at e0 e1; subst e0 e1; rfl)
      go_wp2
      go_ret
      exact ⟨by rw [HE.out]; rfl, rfl⟩
    · obtain ⟨r, hr⟩ : ∃ r, [r0, r1].getD k 0 = r := ⟨_, rfl⟩
      have hc : wr.cell? ⟨g, k, none⟩ = some (.int .i64 r) := by
        have : k = 0 ∨ k = 1 := by omega
        rcases this with rfl | rfl <;> (subst hr; assumption)
      have HRk := Lib.hid hr
      have hi0 : (0 : Int) ≤ (k : Int) := Int.natCast_nonneg _
      have hi1 : (k : Int) < 2 := by omega
      have hd : decide ((k : Int) < 2) = true := decide_eq_true hi1
      clear hr c0 c1
      by_cases h0 : r = 0
      · subst h0
        have HZ2 := Lib.hid (show ∀ j, j < k + 1 → [r0, r1].getD j 0 = 0 from fun j hj => by
          by_cases e : j = k
          · rw [e]; exact HRk.out
          · exact HZ.out j (by omega))
        go_wp2
        go_roundw
        case rel => exact ⟨k + 1, by omega, by go_num, by first | rfl | trivial, HZ2⟩
        case measure => simp [intOf]; omega
      · have HE := Lib.hid (show orI [r0, r1] = r from by
          have hr := HRk.out
          have hz := HZ.out
          have : k = 0 ∨ k = 1 := by omega
          rcases this with rfl | rfl
          · simp at hr; subst hr; simp [orI, h0]
          · have e0 := hz 0 (by omega); simp at e0 hr; subst hr; simp [orI, h0, e0])
        have h0' : (r == 0) = false := by simpa using h0
        go_wp2
        go_ret
        exact ⟨by rw [HE.out]; rfl, rfl⟩

/-- how two labels are compared: level, set -/
def labI (a0 a1 b0 b1 : Int) : Int := orI [Lib.compareInt a0 b0, Lib.compareInt a1 b1]
set_option maxRecDepth 100000 in
set_option maxHeartbeats 3200000 in
theorem bylab_v (a0 a1 b0 b1 : Int) (W : World) :
    Calls Try.prog 107 #[.agg #[.int .i64 a0, .int .i64 a1], .agg #[.int .i64 b0, .int .i64 b1]] W
      fun e w' => e = .returned (.int .i64 (labI a0 a1 b0 b1)) ∧ w' = (((W.alloc (.cells #[.int .i64 a0, .int .i64 a1] 38)).alloc (.cells #[.int .i64 b0, .int .i64 b1] 38)).drew.alloc (.cells #[.int .i64 (Lib.compareInt a0 b0), .int .i64 (Lib.compareInt a1 b1)] 3)) := by
  obtain ⟨V0, hV0⟩ : ∃ V0, V0 = ((W.alloc (.cells #[.int .i64 a0, .int .i64 a1] 38)).alloc (.cells #[.int .i64 b0, .int .i64 b1] 38)) := ⟨_, rfl⟩
  have BA := Lib.hid (show Blk V0 W.heap.size 38 #[.int .i64 a0, .int .i64 a1] from by rw [hV0]; exact (Blk.new W _ _).alloc _)
  have BB := Lib.hid (show Blk V0 (W.heap.size + 1) 38 #[.int .i64 b0, .int .i64 b1] from by
    have h9 := Blk.new (W.alloc (.cells #[.int .i64 a0, .int .i64 a1] 38)) 38 #[.int .i64 b0, .int .i64 b1]
    simp only [World.size_alloc] at h9
    rw [hV0]; exact h9)
  have HS4 := Lib.hid (Blk.new V0.drew 3 #[.int .i64 (Lib.compareInt a0 b0), .int .i64 (Lib.compareInt a1 b1)])
  rw [← hV0]
  go_enter Try.func107, Try.ntmps107
  go_wp2_with fail
  rw [← hV0]
  clear hV0
  refine wp_region_held_drew (S := (fun V => Below (V0).heap.size (V0) V)) (by kernel_rfl) ((Below.refl _ _).drew) (fun hHeld => ?_)
  refine tk 0 hHeld ?_
  refine tk 1 hHeld ?_ (hy := fun w hSw => by (try dsimp only at hSw); have k0 := (hSw.cell (p := ⟨W.heap.size, 0, none⟩) BA.out.lt).trans (BA.out.at_ 0 rfl); clear hSw; go_simp; try with_reducible rfl)
  refine tk 2 hHeld ?_
  refine tk 3 hHeld ?_ (hy := fun w hSw => by (try dsimp only at hSw); have k0 := (hSw.cell (p := ⟨W.heap.size + 1, 0, none⟩) BB.out.lt).trans (BB.out.at_ 0 rfl); clear hSw; go_simp; try with_reducible rfl)
  refine tk 5 hHeld ?_
  refine tk 6 hHeld ?_ (hy := fun w hSw => by (try dsimp only at hSw); have k0 := (hSw.cell (p := ⟨W.heap.size, 1, none⟩) BA.out.lt).trans (BA.out.at_ 1 rfl); clear hSw; go_simp; try with_reducible rfl)
  refine tk 7 hHeld ?_
  refine tk 8 hHeld ?_ (hy := fun w hSw => by (try dsimp only at hSw); have k0 := (hSw.cell (p := ⟨W.heap.size + 1, 1, none⟩) BB.out.lt).trans (BB.out.at_ 1 rfl); clear hSw; go_simp; try with_reducible rfl)
  refine rd1 4 (fun K hK => ?_)
  go_simp
  go_at_call 127
  refine (cmp64 _ _ _).mono ?_
  rintro e w1 ⟨rfl, rfl⟩
  have hb := Below.refl V0.drew.heap.size V0.drew
  refine hK.out _ _ (hHeld.trans (hb.mono hHeld.size)) (fun hHeld => ?_)
  clear hK K hb
  refine rd1 9 (fun K hK => ?_)
  go_simp
  go_at_call 127
  refine (cmp64 _ _ _).mono ?_
  rintro e w1 ⟨rfl, rfl⟩
  have hb := Below.refl V0.drew.heap.size V0.drew
  refine hK.out _ _ (hHeld.trans (hb.mono hHeld.size)) (fun hHeld => ?_)
  clear hK K hb
  refine rd1 10 (fun K hK => ?_)
  go_simp
  have hb := (Below.refl V0.drew.heap.size V0.drew).alloc (Nat.le_refl _) (.cells #[.int .i64 (Lib.compareInt a0 b0), .int .i64 (Lib.compareInt a1 b1)] 3)
  refine hK.out _ _ (hHeld.trans (hb.mono hHeld.size)) (fun hHeld => ?_)
  clear hK K hb
  refine rd1 11 (fun K hK => ?_)
  go_simp
  go_at_call 126
  refine (or2_v _ _ _ _ HS4.out).mono ?_
  rintro e w1 ⟨rfl, rfl⟩
  have hb := Below.refl (V0.drew.alloc (.cells #[.int .i64 (Lib.compareInt a0 b0), .int .i64 (Lib.compareInt a1 b1)] 3)).heap.size (V0.drew.alloc (.cells #[.int .i64 (Lib.compareInt a0 b0), .int .i64 (Lib.compareInt a1 b1)] 3))
  refine hK.out _ _ (hHeld.trans (hb.mono hHeld.size)) (fun hHeld => ?_)
  clear hK K hb
  refine tk 12 hHeld ?_
  refine rd0 ?_
  have HF := Lib.hid hHeld
  clear hHeld
  go_wp2
  go_ret
  exact ⟨rfl, rfl⟩

theorem cmpI (a b : Int) : (Lib.compareInt a b = -1 ∧ a < b) ∨ (Lib.compareInt a b = 0 ∧ a = b) ∨ (Lib.compareInt a b = 1 ∧ b < a) := by
  unfold Lib.compareInt
  by_cases h1 : a < b
  · left; exact ⟨by simp [h1], h1⟩
  · by_cases h2 : b < a
    · right; right; exact ⟨by simp [h1, h2], h2⟩
    · right; left; exact ⟨by simp [h1, h2], by omega⟩
end Go.Proofs.Ytmmnkdilnlhbfaa.SortC
