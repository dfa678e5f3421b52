/- The order of accounts, as the library's sort asks for it. -/
import Derived.Test.YtjhcphmehlihcaaTk
import Derived.Test.YtjhcphmehlihcaaTk
import Derived.Test.YtjhcphmehlihcaaSortAc
import Derived.Test.YtjhcphmehlihcaaUsP
import Derived.Test.YtjhcphmehlihcaaTk
namespace Go.Proofs.Ytjhcphmehlihcaa.SortC
open Go.Shelf Go.RowKit RepC Go.Lib Go.Sort
set_option linter.unusedVariables false
set_option linter.unusedSimpArgs false

theorem cmp64 (x y : Int) (w : World) : Calls Try.prog 74 #[.int .i64 x, .int .i64 y] w fun e w' => e = .returned (.int .i64 (Lib.compareInt x y)) ∧ w' = w := AnyG.cmp_Compare_int Try.cmpInt x y w
def orI (l : List Int) : Int := (l.find? (· != 0)).getD 0
set_option maxRecDepth 100000 in
set_option maxHeartbeats 1600000 in
theorem or2_v (g : Nat) (r0 r1 : Int) (w : World) (h : Blk w g 3 #[.int .i64 r0, .int .i64 r1]) :
    Calls Try.prog 67 #[.slice (some ⟨g, 0, none⟩) 2 2] w fun e w' => e = .returned (.int .i64 (orI [r0, r1])) ∧ w' = w := by
  have HB := Lib.hid h
  clear h
  have c0 := HB.out.at_ 0 rfl
  have c1 := HB.out.at_ 1 rfl
  go_enter Try.func67, Try.ntmps67
  go_wp2
  go_loopw [8] (fun i wr => ∃ k : Nat, k ≤ 2 ∧ i = .int .i64 k ∧ wr = w ∧ Hid (∀ j, j < k → [r0, r1].getD j 0 = 0)) (fun i _ => 2 - (intOf i).toNat)
  case atStart => exact ⟨0, by omega, rfl, rfl, Lib.hid fun j h => absurd h (Nat.not_lt_zero _)⟩
  case round =>
    obtain ⟨k, hk, rfl, rfl, HZ⟩ := hrel
    by_cases hk4 : k = 2
    · subst hk4
      have HE := Lib.hid (show orI [r0, r1] = 0 from by
        have e0 := HZ.out 0 (by omega); have e1 := HZ.out 1 (by omega)
        simp at e0 e1; subst e0 e1; rfl)
      go_wp2
      go_ret
      exact ⟨by rw [HE.out]; rfl, rfl⟩
    · obtain ⟨r, hr⟩ : ∃ r, [r0, r1].getD k 0 = r := ⟨_, rfl⟩
      have hc : wr.cell? ⟨g, k, none⟩ = some (.int .i64 r) := by
        have : k = 0 ∨ k = 1 := by omega
        rcases this with rfl | rfl <;> (subst hr; assumption)
      have HRk := Lib.hid hr
      have hi0 : (0 : Int) ≤ (k : Int) := Int.natCast_nonneg _
      have hi1 : (k : Int) < 2 := by omega
      have hd : decide ((k : Int) < 2) = true := decide_eq_true hi1
      clear hr c0 c1
      by_cases h0 : r = 0
      · subst h0
        have HZ2 := Lib.hid (show ∀ j, j < k + 1 → [r0, r1].getD j 0 = 0 from fun j hj => by
          by_cases e : j = k
          · rw [e]; exact HRk.out
          · exact HZ.out j (by omega))
        go_wp2
        go_roundw
        case rel => exact ⟨k + 1, by omega, by go_num, by first | rfl | trivial, HZ2⟩
        case measure => simp [intOf]; omega
      · have HE := Lib.hid (show orI [r0, r1] = r from by
          have hr := HRk.out
          have hz := HZ.out
          have : k = 0 ∨ k = 1 := by omega
          rcases this with rfl | rfl
          · simp at hr; subst hr; simp [orI, h0]
          · have e0 := hz 0 (by omega); simp at e0 hr; subst hr; simp [orI, h0, e0])
        have h0' : (r == 0) = false := by simpa using h0
        go_wp2
        go_ret
        exact ⟨by rw [HE.out]; rfl, rfl⟩

/-- how two labels are compared: level, set -/
def labI (a0 a1 b0 b1 : Int) : Int := orI [Lib.compareInt a0 b0, Lib.compareInt a1 b1]
set_option maxRecDepth 100000 in
set_option maxHeartbeats 3200000 in
theorem bylab_v (a0 a1 b0 b1 : Int) (W : World) :
    Calls Try.prog 68 #[.agg #[.int .i64 a0, .int .i64 a1], .agg #[.int .i64 b0, .int .i64 b1]] W
      fun e w' => e = .returned (.int .i64 (labI a0 a1 b0 b1)) ∧ w' = (((W.alloc (.cells #[.int .i64 a0, .int .i64 a1] 25)).alloc (.cells #[.int .i64 b0, .int .i64 b1] 25)).drew.alloc (.cells #[.int .i64 (Lib.compareInt a0 b0), .int .i64 (Lib.compareInt a1 b1)] 3)) := by
  obtain ⟨V0, hV0⟩ : ∃ V0, V0 = ((W.alloc (.cells #[.int .i64 a0, .int .i64 a1] 25)).alloc (.cells #[.int .i64 b0, .int .i64 b1] 25)) := ⟨_, rfl⟩
  have BA := Lib.hid (show Blk V0 W.heap.size 25 #[.int .i64 a0, .int .i64 a1] from by rw [hV0]; exact (Blk.new W _ _).alloc _)
  have BB := Lib.hid (show Blk V0 (W.heap.size + 1) 25 #[.int .i64 b0, .int .i64 b1] from by
    have h9 := Blk.new (W.alloc (.cells #[.int .i64 a0, .int .i64 a1] 25)) 25 #[.int .i64 b0, .int .i64 b1]
    simp only [World.size_alloc] at h9
    rw [hV0]; exact h9)
  have HS4 := Lib.hid (Blk.new V0.drew 3 #[.int .i64 (Lib.compareInt a0 b0), .int .i64 (Lib.compareInt a1 b1)])
  rw [← hV0]
  go_enter Try.func68, Try.ntmps68
  go_wp2_with fail
  rw [← hV0]
  clear hV0
  refine wp_region_held_drew (S := (fun V => Below (V0).heap.size (V0) V)) (by kernel_rfl) ((Below.refl _ _).drew) (fun hHeld => ?_)
  refine tk 0 hHeld ?_
  refine tk 1 hHeld ?_ (hy := fun w hSw => by (try dsimp only at hSw); have k0 := (hSw.cell (p := ⟨W.heap.size, 0, none⟩) BA.out.lt).trans (BA.out.at_ 0 rfl); clear hSw; go_simp; try with_reducible rfl)
  refine tk 2 hHeld ?_
  refine tk 3 hHeld ?_ (hy := fun w hSw => by (try dsimp only at hSw); have k0 := (hSw.cell (p := ⟨W.heap.size + 1, 0, none⟩) BB.out.lt).trans (BB.out.at_ 0 rfl); clear hSw; go_simp; try with_reducible rfl)
  refine tk 5 hHeld ?_
  refine tk 6 hHeld ?_ (hy := fun w hSw => by (try dsimp only at hSw); have k0 := (hSw.cell (p := ⟨W.heap.size, 1, none⟩) BA.out.lt).trans (BA.out.at_ 1 rfl); clear hSw; go_simp; try with_reducible rfl)
  refine tk 7 hHeld ?_
  refine tk 8 hHeld ?_ (hy := fun w hSw => by (try dsimp only at hSw); have k0 := (hSw.cell (p := ⟨W.heap.size + 1, 1, none⟩) BB.out.lt).trans (BB.out.at_ 1 rfl); clear hSw; go_simp; try with_reducible rfl)
  refine rd1 4 (fun K hK => ?_)
  go_simp
  go_at_call 74
  refine (cmp64 _ _ _).mono ?_
  rintro e w1 ⟨rfl, rfl⟩
  have hb := Below.refl V0.drew.heap.size V0.drew
  refine hK.out _ _ (hHeld.trans (hb.mono hHeld.size)) (fun hHeld => ?_)
  clear hK K hb
  refine rd1 9 (fun K hK => ?_)
  go_simp
  go_at_call 74
  refine (cmp64 _ _ _).mono ?_
  rintro e w1 ⟨rfl, rfl⟩
  have hb := Below.refl V0.drew.heap.size V0.drew
  refine hK.out _ _ (hHeld.trans (hb.mono hHeld.size)) (fun hHeld => ?_)
  clear hK K hb
  refine rd1 10 (fun K hK => ?_)
  go_simp
  have hb := (Below.refl V0.drew.heap.size V0.drew).alloc (Nat.le_refl _) (.cells #[.int .i64 (Lib.compareInt a0 b0), .int .i64 (Lib.compareInt a1 b1)] 3)
  refine hK.out _ _ (hHeld.trans (hb.mono hHeld.size)) (fun hHeld => ?_)
  clear hK K hb
  refine rd1 11 (fun K hK => ?_)
  go_simp
  go_at_call 67
  refine (or2_v _ _ _ _ HS4.out).mono ?_
  rintro e w1 ⟨rfl, rfl⟩
  have hb := Below.refl (V0.drew.alloc (.cells #[.int .i64 (Lib.compareInt a0 b0), .int .i64 (Lib.compareInt a1 b1)] 3)).heap.size (V0.drew.alloc (.cells #[.int .i64 (Lib.compareInt a0 b0), .int .i64 (Lib.compareInt a1 b1)] 3))
  refine hK.out _ _ (hHeld.trans (hb.mono hHeld.size)) (fun hHeld => ?_)
  clear hK K hb
  refine tk 12 hHeld ?_
  refine rd0 ?_
  have HF := Lib.hid hHeld
  clear hHeld
  go_wp2
  go_ret
  exact ⟨rfl, rfl⟩

theorem cmpI (a b : Int) : (Lib.compareInt a b = -1 ∧ a < b) ∨ (Lib.compareInt a b = 0 ∧ a = b) ∨ (Lib.compareInt a b = 1 ∧ b < a) := by
  unfold Lib.compareInt
  by_cases h1 : a < b
  · left; exact ⟨by simp [h1], h1⟩
  · by_cases h2 : b < a
    · right; right; exact ⟨by simp [h1, h2], h2⟩
    · right; left; exact ⟨by simp [h1, h2], by omega⟩
theorem grow3 (V : World) (o1 o2 o3 : Obj) : (((V.alloc o1).alloc o2).drew).alloc o3 = grow (V.drewN 1) #[o1, o2, o3] := by
  simp only [alloc_eq_grow]
  show grow (grow (grow (V.drewN 1) #[o1]) #[o2]) #[o3] = _
  rw [grow_grow, grow_grow]
  rfl

/-- how two texts are compared -/
def cmpS (a b : ByteArray) : Int := if sLt a b = true then -1 else if sLt b a = true then 1 else 0
theorem nan_v (a : ByteArray) (w : World) : Calls Try.prog 75 #[.string a] w fun e w' => e = .returned (.bool false) ∧ w' = w := by
  go_enter Try.func75, Try.ntmps75
  go_wp2
  go_ret
  exact ⟨by simp, rfl⟩
set_option maxHeartbeats 1600000 in
theorem cmpstr_v (a b : ByteArray) (w : World) : Calls Try.prog 69 #[.string a, .string b] w fun e w' => e = .returned (.int .i64 (cmpS a b)) ∧ w' = w := by
  cases h1 : sLt a b with
  | true =>
    have HE := Lib.hid (show cmpS a b = -1 from if_pos h1)
    have hl : Op.bytesLess a.toList b.toList = true := h1
    clear h1
    go_enter Try.func69, Try.ntmps69
    go_wp2_with (go_at_call 75; refine (nan_v _ _).mono ?_; rintro e w' ⟨rfl, rfl⟩)
    go_ret
    exact ⟨by rw [HE.out]; rfl, rfl⟩
  | false =>
    have hl : Op.bytesLess a.toList b.toList = false := h1
    cases h2 : sLt b a with
    | true =>
      have HE := Lib.hid (show cmpS a b = 1 from by unfold cmpS; rw [if_neg (by rw [h1]; decide), if_pos h2])
      have he : (a.toList == b.toList) = false := by
        rw [Bool.eq_false_iff]
        intro h
        have := bl_inj (eq_of_beq h)
        rw [this, sLt_irrefl] at h2
        cases h2
      clear h1 h2
      go_enter Try.func69, Try.ntmps69
      go_wp2_with (go_at_call 75; refine (nan_v _ _).mono ?_; rintro e w' ⟨rfl, rfl⟩)
      go_ret
      exact ⟨by rw [HE.out]; rfl, rfl⟩
    | false =>
      have HE := Lib.hid (show cmpS a b = 0 from by unfold cmpS; rw [if_neg (by rw [h1]; decide), if_neg (by rw [h2]; decide)])
      have he : (a.toList == b.toList) = true := by rw [sLt_tri h1 h2]; simp
      clear h1 h2
      go_enter Try.func69, Try.ntmps69
      go_wp2_with (go_at_call 75; refine (nan_v _ _).mono ?_; rintro e w' ⟨rfl, rfl⟩)
      go_ret
      exact ⟨by rw [HE.out]; rfl, rfl⟩
theorem bylab_b (a0 a1 b0 b1 : Int) (V : World) : Calls Try.prog 68 #[.agg #[.int .i64 a0, .int .i64 a1], .agg #[.int .i64 b0, .int .i64 b1]] V fun e w' => e = .returned (.int .i64 (labI a0 a1 b0 b1)) ∧ w' = ((((V.alloc (.cells #[.int .i64 a0, .int .i64 a1] 25)).alloc (.cells #[.int .i64 b0, .int .i64 b1] 25)).drew).alloc (.cells #[.int .i64 (Lib.compareInt a0 b0), .int .i64 (Lib.compareInt a1 b1)] 3)) ∧ RowKit.Below V.heap.size V w' :=
  (bylab_v a0 a1 b0 b1 V).mono fun e w' ⟨h1, h2⟩ => ⟨h1, h2, by rw [h2]; exact (((RowKit.Below.refl V.heap.size V).alloc (Nat.le_refl _) _).alloc (by simp) _).drew.alloc (by simp; omega) _⟩
def accI (a0 a1 : Int) (a2 : ByteArray) (b0 b1 : Int) (b2 : ByteArray) : Int := orI [labI a0 a1 b0 b1, cmpS a2 b2]
set_option maxRecDepth 100000 in
set_option maxHeartbeats 3200000 in
theorem byacc_v (a0 a1 b0 b1 : Int) (a2 b2 : ByteArray) (W : World) :
    Calls Try.prog 49 #[.agg #[.int .i64 a0, .int .i64 a1, .string a2], .agg #[.int .i64 b0, .int .i64 b1, .string b2]] W
      fun e w' => e = .returned (.int .i64 (accI a0 a1 a2 b0 b1 b2)) ∧ w' = (((((((W.alloc (.cells #[.int .i64 a0, .int .i64 a1, .string a2] 65)).alloc (.cells #[.int .i64 b0, .int .i64 b1, .string b2] 65)).drew.alloc (.cells #[.int .i64 a0, .int .i64 a1] 25)).alloc (.cells #[.int .i64 b0, .int .i64 b1] 25)).drew).alloc (.cells #[.int .i64 (Lib.compareInt a0 b0), .int .i64 (Lib.compareInt a1 b1)] 3)).alloc (.cells #[.int .i64 (labI a0 a1 b0 b1), .int .i64 (cmpS a2 b2)] 3)) := by
  obtain ⟨V0, hV0⟩ : ∃ V0, V0 = ((W.alloc (.cells #[.int .i64 a0, .int .i64 a1, .string a2] 65)).alloc (.cells #[.int .i64 b0, .int .i64 b1, .string b2] 65)) := ⟨_, rfl⟩
  have HV := Lib.hid hV0
  have BA := Lib.hid (show Blk V0 W.heap.size 65 #[.int .i64 a0, .int .i64 a1, .string a2] from by rw [hV0]; exact (Blk.new W _ _).alloc _)
  have BB := Lib.hid (show Blk V0 (W.heap.size + 1) 65 #[.int .i64 b0, .int .i64 b1, .string b2] from by
    have h9 := Blk.new (W.alloc (.cells #[.int .i64 a0, .int .i64 a1, .string a2] 65)) 65 #[.int .i64 b0, .int .i64 b1, .string b2]
    simp only [World.size_alloc] at h9
    rw [hV0]; exact h9)
  go_enter Try.func49, Try.ntmps49
  go_wp2_with fail
  rw [← hV0]
  clear hV0
  refine wp_region_held_drew (S := (fun V => Below (V0).heap.size (V0) V)) (by kernel_rfl) ((Below.refl _ _).drew) (fun hHeld => ?_)
  refine tk 0 hHeld ?_
  refine tk 1 hHeld ?_ (hy := fun w hSw => by (try dsimp only at hSw); have k0 := (hSw.cell (p := ⟨W.heap.size, 0, none⟩) BA.out.lt).trans (BA.out.at_ 0 rfl); have k1 := (hSw.cell (p := ⟨W.heap.size, 1, none⟩) BA.out.lt).trans (BA.out.at_ 1 rfl); clear hSw; go_simp; try with_reducible rfl)
  refine tk 2 hHeld ?_
  refine tk 3 hHeld ?_ (hy := fun w hSw => by (try dsimp only at hSw); have k0 := (hSw.cell (p := ⟨W.heap.size + 1, 0, none⟩) BB.out.lt).trans (BB.out.at_ 0 rfl); have k1 := (hSw.cell (p := ⟨W.heap.size + 1, 1, none⟩) BB.out.lt).trans (BB.out.at_ 1 rfl); clear hSw; go_simp; try with_reducible rfl)
  refine tk 5 hHeld ?_
  refine tk 6 hHeld ?_ (hy := fun w hSw => by (try dsimp only at hSw); have k0 := (hSw.cell (p := ⟨W.heap.size, 2, none⟩) BA.out.lt).trans (BA.out.at_ 2 rfl); clear hSw; go_simp; try with_reducible rfl)
  refine tk 7 hHeld ?_
  refine tk 8 hHeld ?_ (hy := fun w hSw => by (try dsimp only at hSw); have k0 := (hSw.cell (p := ⟨W.heap.size + 1, 2, none⟩) BB.out.lt).trans (BB.out.at_ 2 rfl); clear hSw; go_simp; try with_reducible rfl)
  refine rd1 4 (fun K hK => ?_)
  go_simp
  go_at_call 68
  refine (bylab_b a0 a1 b0 b1 _).mono ?_
  rintro e w1 ⟨rfl, hw1, hb⟩
  have HV1 := Lib.hid hw1
  clear hw1
  refine hK.out _ _ (hHeld.trans (hb.mono hHeld.size)) (fun hHeld => ?_)
  clear hK K hb
  refine rd1 9 (fun K hK => ?_)
  go_simp
  go_at_call 69
  refine (cmpstr_v a2 b2 _).mono ?_
  rintro e w2 ⟨rfl, rfl⟩
  have hb := Below.refl w2.heap.size w2
  refine hK.out _ _ (hHeld.trans (hb.mono hHeld.size)) (fun hHeld => ?_)
  clear hK K hb
  refine rd1 10 (fun K hK => ?_)
  go_simp
  have hb := (Below.refl w2.heap.size w2).alloc (Nat.le_refl _) (.cells #[.int .i64 (labI a0 a1 b0 b1), .int .i64 (cmpS a2 b2)] 3)
  have HS4 := Lib.hid (Blk.new w2 3 #[.int .i64 (labI a0 a1 b0 b1), .int .i64 (cmpS a2 b2)])
  refine hK.out _ _ (hHeld.trans (hb.mono hHeld.size)) (fun hHeld => ?_)
  clear hK K hb
  refine rd1 11 (fun K hK => ?_)
  go_simp
  go_at_call 67
  refine (or2_v _ _ _ _ HS4.out).mono ?_
  rintro e w3 ⟨rfl, rfl⟩
  have hb := Below.refl (w2.alloc (.cells #[.int .i64 (labI a0 a1 b0 b1), .int .i64 (cmpS a2 b2)] 3)).heap.size (w2.alloc (.cells #[.int .i64 (labI a0 a1 b0 b1), .int .i64 (cmpS a2 b2)] 3))
  refine hK.out _ _ (hHeld.trans (hb.mono hHeld.size)) (fun hHeld => ?_)
  clear hK K hb
  refine tk 12 hHeld ?_
  refine rd0 ?_
  have HF := Lib.hid hHeld
  clear hHeld
  go_wp2
  go_ret
  exact ⟨rfl, by rw [HV1.out, HV.out]⟩
abbrev AC := (Int × Int) × ByteArray
def encA (x : AC) : List Value := [.int .i64 x.1.1, .int .i64 x.1.2, .string x.2]
def cfA (x y : AC) : Int := accI x.1.1 x.1.2 x.2 y.1.1 y.1.2 y.2
def ltA (x y : AC) : Prop := ltLb x.1 y.1 ∨ (x.1 = y.1 ∧ sLt x.2 y.2 = true)
theorem labI_cases (a0 a1 b0 b1 : Int) : (labI a0 a1 b0 b1 = -1 ∧ ltLb (a0, a1) (b0, b1)) ∨ (labI a0 a1 b0 b1 = 0 ∧ ((a0, a1) : Int × Int) = (b0, b1)) ∨ (labI a0 a1 b0 b1 = 1 ∧ ltLb (b0, b1) (a0, a1)) := by
  unfold labI orI ltLb
  rcases cmpI a0 b0 with ⟨e1, h1⟩ | ⟨e1, h1⟩ | ⟨e1, h1⟩ <;> rcases cmpI a1 b1 with ⟨e2, h2⟩ | ⟨e2, h2⟩ | ⟨e2, h2⟩ <;> rw [e1, e2] <;> simp <;> omega
theorem cmpS_cases (a b : ByteArray) : (cmpS a b = -1 ∧ sLt a b = true) ∨ (cmpS a b = 0 ∧ a = b) ∨ (cmpS a b = 1 ∧ sLt b a = true) := by
  unfold cmpS
  cases h1 : sLt a b
  · cases h2 : sLt b a
    · right; left; exact ⟨by simp, sLt_tri h1 h2⟩
    · right; right; exact ⟨by simp, rfl⟩
  · left; exact ⟨by simp, rfl⟩
theorem ltLb_asymm {a b : D_Label} (h1 : ltLb a b) : ¬ ltLb b a := fun h2 => ltLb_irrefl (ltLb_trans h1 h2)
theorem ltLb_ne {a b : D_Label} (h1 : ltLb a b) : a ≠ b := fun e => by rw [e] at h1; exact ltLb_irrefl h1
theorem cfA_neg (x y : AC) : cfA x y < 0 ↔ ltA x y := by
  obtain ⟨⟨a0, a1⟩, a2⟩ := x
  obtain ⟨⟨b0, b1⟩, b2⟩ := y
  unfold cfA accI ltA orI
  rcases labI_cases a0 a1 b0 b1 with ⟨e1, h1⟩ | ⟨e1, h1⟩ | ⟨e1, h1⟩
  · simp [e1, h1]
  · rcases cmpS_cases a2 b2 with ⟨e2, h2⟩ | ⟨e2, h2⟩ | ⟨e2, h2⟩
    · simp [e1, e2, h1, h2]
    · subst h2; simp [e1, e2, h1, sLt_irrefl, ltLb_irrefl]
    · simp [e1, e2, h1, sLt_asymm h2, ltLb_irrefl]
  · simp [e1, ltLb_asymm h1, (ltLb_ne h1).symm]
theorem ltOfA (x y : AC) : ltOf cfA x y = true ↔ ltA x y := by
  unfold ltOf
  rw [← cfA_neg]
  simp
theorem accI_ge (x y : AC) : 0 ≤ cfA x y ↔ ¬ ltA x y := by rw [← cfA_neg]; omega
theorem ltA_irrefl (x : AC) : ¬ ltA x x := by
  rintro (h | ⟨_, h⟩)
  · exact ltLb_irrefl h
  · rw [sLt_irrefl] at h; cases h
theorem ltA_trans {x y z : AC} (h1 : ltA x y) (h2 : ltA y z) : ltA x z := by
  obtain ⟨a, o⟩ := x
  obtain ⟨b, p⟩ := y
  obtain ⟨c, q⟩ := z
  unfold ltA at *
  simp only at *
  rcases h1 with h1 | ⟨rfl, h1⟩
  · rcases h2 with h2 | ⟨rfl, h2⟩
    · exact .inl (ltLb_trans h1 h2)
    · exact .inl h1
  · rcases h2 with h2 | ⟨rfl, h2⟩
    · exact .inl h2
    · exact .inr ⟨rfl, sLt_trans h1 h2⟩
theorem ltLb_tri {a b : D_Label} (h1 : ¬ ltLb a b) (h2 : ¬ ltLb b a) : a = b := by
  obtain ⟨a0, a1⟩ := a
  obtain ⟨b0, b1⟩ := b
  unfold ltLb at *
  simp only at *
  rw [Prod.mk.injEq]
  omega
theorem ltA_tri {x y : AC} (h1 : ¬ ltA x y) (h2 : ¬ ltA y x) : x = y := by
  obtain ⟨a, o⟩ := x
  obtain ⟨b, p⟩ := y
  unfold ltA at *
  simp only [not_or, not_and, Bool.not_eq_true] at *
  have e := ltLb_tri h1.1 h2.1
  subst e
  rw [sLt_tri (h1.2 rfl) (h2.2 rfl)]
theorem swoA : SWO (ltOf cfA) where
  irrefl x := by
    rw [Bool.eq_false_iff]; intro h; rw [ltOfA] at h; exact ltA_irrefl x h
  trans x y z h1 h2 := by rw [ltOfA] at *; exact ltA_trans h1 h2
  ntrans x y z h1 h2 := by
    rw [Bool.eq_false_iff, ne_eq, ltOfA] at *
    intro h
    rcases Classical.em (ltA y x) with h3 | h3
    · exact h2 (ltA_trans h3 h)
    · obtain rfl := ltA_tri h1 h3
      exact h2 h
theorem grow6 (V : World) (o1 o2 o3 o4 o5 o6 : Obj) : (((((((V.alloc o1).alloc o2).drew.alloc o3).alloc o4).drew).alloc o5).alloc o6) = grow (V.drewN 2) #[o1, o2, o3, o4, o5, o6] := by
  have h := grow3 (((V.alloc o1).alloc o2).drew) o3 o4 o5
  rw [h, alloc_eq_grow, grow_grow]
  have h2 : ((V.alloc o1).alloc o2).drew.drewN 1 = grow (V.drewN 2) #[o1, o2] := by
    simp only [alloc_eq_grow, grow_grow]
    rfl
  rw [h2, grow_grow]
  rfl
theorem cmpLaysA (blk off size : Nat) (w : World) : CmpLays Try.prog 49 #[] encA 3 cfA blk off size w := fun m os dk _ x y =>
  (byacc_v x.1.1 x.1.2 y.1.1 y.1.2 x.2 y.2 _).mono fun _ _ ⟨he, hw⟩ => ⟨he, 2, _, hw.trans (grow6 _ _ _ _ _ _ _)⟩
/-- the library's sort of accounts: a permutation, in the order of byAccount -/
theorem sort_accs (blk off cap : Nat) (d : Array AC) (w : World) (hH : HoldsK encA 3 w blk off d) (hblk : blk < w.heap.size) (hsz : d.size < 4611686018427387904) :
    Calls Try.prog 77 #[.slice (some ⟨blk, off, none⟩) d.size cap, .func (.func 49) #[] #[]] w fun e w' => e = .returned (.tuple #[]) ∧ ∃ d' n os, PermIn 0 d.size d d' ∧ SortedIn (ltOf cfA) 0 d.size d' ∧ w' = sortWorldK encA 3 w blk off n d' os := by
  have eg : ∀ args w, (callFunc 49 args).run Try.prog w = .ok (.enter 49 args) w := enters_of Try.func49 (by kernel_rfl) rfl
  exact AnyQ.slices_SortFunc Try.sortAcc 3 Try.isAgg65 Try.sizeOf65 encA (fun _ => rfl) (fun x v hv => by simp [encA] at hv; rcases hv with rfl | rfl | rfl <;> rfl) cfA swoA 49 #[] blk off cap d w eg (cmpLaysA blk off d.size w) hH hblk hsz
end Go.Proofs.Ytjhcphmehlihcaa.SortC
