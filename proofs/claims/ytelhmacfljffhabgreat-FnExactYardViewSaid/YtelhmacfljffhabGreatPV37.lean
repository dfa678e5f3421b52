/- Of this claim's texts the part 37: AccS UsR2 SqImpl SqImpl2 NdR CfV5 BoT. -/
import Derived.Test.YtelhmacfljffhabGreatPV0
import Derived.Test.YtelhmacfljffhabGreatPV1
import Derived.Test.YtelhmacfljffhabGreatPV2
import Derived.Test.YtelhmacfljffhabGreatPV3
import Derived.Test.YtelhmacfljffhabGreatPV4
import Derived.Test.YtelhmacfljffhabGreatPV5
import Derived.Test.YtelhmacfljffhabGreatPV8
import Derived.Test.YtelhmacfljffhabGreatPV9
import Derived.Test.YtelhmacfljffhabGreatPV10
import Derived.Test.YtelhmacfljffhabGreatPV11
import Derived.Test.YtelhmacfljffhabGreatPV12
import Derived.Test.YtelhmacfljffhabGreatPV13
import Derived.Test.YtelhmacfljffhabGreatPV14
import Derived.Test.YtelhmacfljffhabGreatPV15
import Derived.Test.YtelhmacfljffhabGreatPV16
import Derived.Test.YtelhmacfljffhabGreatPV17
import Derived.Test.YtelhmacfljffhabGreatPV18
import Derived.Test.YtelhmacfljffhabGreatPV36
section
namespace Go.Proofs.YtelhmacfljffhabGreat.SortC
open Go.Shelf Go.RowKit RepC Go.Lib Go.Sort
set_option linter.unusedVariables false
set_option linter.unusedSimpArgs false
def cmpS (a b : ByteArray) : Int := if sLt a b = true then -1 else if sLt b a = true then 1 else 0
theorem nan_v (a : ByteArray) (w : World) : Calls Tryz.prog 170 #[.string a] w fun e w' => e = .returned (.bool false) ∧ w' = w := by
  go_enter Tryz.func170, Tryz.ntmps170
  go_wp2
  go_ret
  exact ⟨by simp, rfl⟩
set_option maxHeartbeats 1600000 in
theorem cmpstr_v (a b : ByteArray) (w : World) : Calls Tryz.prog 151 #[.string a, .string b] w fun e w' => e = .returned (.int .i64 (cmpS a b)) ∧ w' = w := by
  cases h1 : sLt a b with
  | true =>
    have HE := Lib.hid (show cmpS a b = -1 from if_pos h1)
    have hl : Op.bytesLess a.toList b.toList = true := h1
    clear h1
    go_enter Tryz.func151, Tryz.ntmps151
    go_wp2_with (go_at_call 170; refine (nan_v _ _).mono ?_; rintro e w' ⟨rfl, rfl⟩)
    go_ret
    exact ⟨by rw [HE.out]; rfl, rfl⟩
  | false =>
    have hl : Op.bytesLess a.toList b.toList = false := h1
    cases h2 : sLt b a with
    | true =>
      have HE := Lib.hid (show cmpS a b = 1 from by unfold cmpS; rw [if_neg (by rw [h1]; decide), if_pos h2])
      have he : (a.toList == b.toList) = false := by
        rw [Bool.eq_false_iff]
        intro h
        have := bl_inj (eq_of_beq h)
        rw [this, sLt_irrefl] at h2
        cases h2
      clear h1 h2
      go_enter Tryz.func151, Tryz.ntmps151
      go_wp2_with (go_at_call 170; refine (nan_v _ _).mono ?_; rintro e w' ⟨rfl, rfl⟩)
      go_ret
      exact ⟨by rw [HE.out]; rfl, rfl⟩
    | false =>
      have HE := Lib.hid (show cmpS a b = 0 from by unfold cmpS; rw [if_neg (by rw [h1]; decide), if_neg (by rw [h2]; decide)])
      have he : (a.toList == b.toList) = true := by rw [sLt_tri h1 h2]; simp
      clear h1 h2
      go_enter Tryz.func151, Tryz.ntmps151
      go_wp2_with (go_at_call 170; refine (nan_v _ _).mono ?_; rintro e w' ⟨rfl, rfl⟩)
      go_ret
      exact ⟨by rw [HE.out]; rfl, rfl⟩
theorem bylab_b (a0 a1 b0 b1 : Int) (V : World) : Calls Tryz.prog 143 #[.agg #[.int .i64 a0, .int .i64 a1], .agg #[.int .i64 b0, .int .i64 b1]] V fun e w' => e = .returned (.int .i64 (labI a0 a1 b0 b1)) ∧ w' = ((((V.alloc (.cells #[.int .i64 a0, .int .i64 a1] 47)).alloc (.cells #[.int .i64 b0, .int .i64 b1] 47)).drew).alloc (.cells #[.int .i64 (Lib.compareInt a0 b0), .int .i64 (Lib.compareInt a1 b1)] 3)) ∧ RowKit.Below V.heap.size V w' :=
  (bylab_v a0 a1 b0 b1 V).mono fun e w' ⟨h1, h2⟩ => ⟨h1, h2, by rw [h2]; exact (((RowKit.Below.refl V.heap.size V).alloc (Nat.le_refl _) _).alloc (by simp) _).drew.alloc (by simp; omega) _⟩
def accI (a0 a1 : Int) (a2 : ByteArray) (b0 b1 : Int) (b2 : ByteArray) : Int := orI [labI a0 a1 b0 b1, cmpS a2 b2]
set_option maxRecDepth 100000 in
set_option maxHeartbeats 3200000 in
theorem byacc_v (a0 a1 b0 b1 : Int) (a2 b2 : ByteArray) (W : World) :
    Calls Tryz.prog 116 #[.agg #[.int .i64 a0, .int .i64 a1, .string a2], .agg #[.int .i64 b0, .int .i64 b1, .string b2]] W
      fun e w' => e = .returned (.int .i64 (accI a0 a1 a2 b0 b1 b2)) ∧ w' = (((((((W.alloc (.cells #[.int .i64 a0, .int .i64 a1, .string a2] 169)).alloc (.cells #[.int .i64 b0, .int .i64 b1, .string b2] 169)).drew.alloc (.cells #[.int .i64 a0, .int .i64 a1] 47)).alloc (.cells #[.int .i64 b0, .int .i64 b1] 47)).drew).alloc (.cells #[.int .i64 (Lib.compareInt a0 b0), .int .i64 (Lib.compareInt a1 b1)] 3)).alloc (.cells #[.int .i64 (labI a0 a1 b0 b1), .int .i64 (cmpS a2 b2)] 3)) := by
  obtain ⟨V0, hV0⟩ : ∃ V0, V0 = ((W.alloc (.cells #[.int .i64 a0, .int .i64 a1, .string a2] 169)).alloc (.cells #[.int .i64 b0, .int .i64 b1, .string b2] 169)) := ⟨_, rfl⟩
  have HV := Lib.hid hV0
  have BA := Lib.hid (show Blk V0 W.heap.size 169 #[.int .i64 a0, .int .i64 a1, .string a2] from by rw [hV0]; exact (Blk.new W _ _).alloc _)
  have BB := Lib.hid (show Blk V0 (W.heap.size + 1) 169 #[.int .i64 b0, .int .i64 b1, .string b2] from by
    have h9 := Blk.new (W.alloc (.cells #[.int .i64 a0, .int .i64 a1, .string a2] 169)) 169 #[.int .i64 b0, .int .i64 b1, .string b2]
    simp only [World.size_alloc] at h9
    rw [hV0]; exact h9)
  go_enter Tryz.func116, Tryz.ntmps116
  go_wp2_with fail
  rw [← hV0]
  clear hV0
  refine wp_region_held_drew (S := (fun V => Below (V0).heap.size (V0) V)) (by kernel_rfl) ((Below.refl _ _).drew) (fun hHeld => ?_)
  refine tk 0 hHeld ?_
  refine tk 1 hHeld ?_ (hy := fun w hSw => by (try dsimp only at hSw); have k0 := (hSw.cell (p := ⟨W.heap.size, 0, none⟩) BA.out.lt).trans (BA.out.at_ 0 rfl); have k1 := (hSw.cell (p := ⟨W.heap.size, 1, none⟩) BA.out.lt).trans (BA.out.at_ 1 rfl); clear hSw; go_simp; try with_reducible rfl)
  refine tk 2 hHeld ?_
  refine tk 3 hHeld ?_ (hy := fun w hSw => by (try dsimp only at hSw); have k0 := (hSw.cell (p := ⟨W.heap.size + 1, 0, none⟩) BB.out.lt).trans (BB.out.at_ 0 rfl); have k1 := (hSw.cell (p := ⟨W.heap.size + 1, 1, none⟩) BB.out.lt).trans (BB.out.at_ 1 rfl); clear hSw; go_simp; try with_reducible rfl)
  refine tk 5 hHeld ?_
  refine tk 6 hHeld ?_ (hy := fun w hSw => by (try dsimp only at hSw); have k0 := (hSw.cell (p := ⟨W.heap.size, 2, none⟩) BA.out.lt).trans (BA.out.at_ 2 rfl); clear hSw; go_simp; try with_reducible rfl)
  refine tk 7 hHeld ?_
  refine tk 8 hHeld ?_ (hy := fun w hSw => by (try dsimp only at hSw); have k0 := (hSw.cell (p := ⟨W.heap.size + 1, 2, none⟩) BB.out.lt).trans (BB.out.at_ 2 rfl); clear hSw; go_simp; try with_reducible rfl)
  refine rd1 4 (fun K hK => ?_)
  go_simp
  go_at_call 143
  refine (bylab_b a0 a1 b0 b1 _).mono ?_
  rintro e w1 ⟨rfl, hw1, hb⟩
  have HV1 := Lib.hid hw1
  clear hw1
  refine hK.out _ _ (hHeld.trans (hb.mono hHeld.size)) (fun hHeld => ?_)
  clear hK K hb
  refine rd1 9 (fun K hK => ?_)
  go_simp
  go_at_call 151
  refine (cmpstr_v a2 b2 _).mono ?_
  rintro e w2 ⟨rfl, rfl⟩
  have hb := Below.refl w2.heap.size w2
  refine hK.out _ _ (hHeld.trans (hb.mono hHeld.size)) (fun hHeld => ?_)
  clear hK K hb
  refine rd1 10 (fun K hK => ?_)
  go_simp
  have hb := (Below.refl w2.heap.size w2).alloc (Nat.le_refl _) (.cells #[.int .i64 (labI a0 a1 b0 b1), .int .i64 (cmpS a2 b2)] 3)
  have HS4 := Lib.hid (Blk.new w2 3 #[.int .i64 (labI a0 a1 b0 b1), .int .i64 (cmpS a2 b2)])
  refine hK.out _ _ (hHeld.trans (hb.mono hHeld.size)) (fun hHeld => ?_)
  clear hK K hb
  refine rd1 11 (fun K hK => ?_)
  go_simp
  go_at_call 150
  refine (or2_v _ _ _ _ HS4.out).mono ?_
  rintro e w3 ⟨rfl, rfl⟩
  have hb := Below.refl (w2.alloc (.cells #[.int .i64 (labI a0 a1 b0 b1), .int .i64 (cmpS a2 b2)] 3)).heap.size (w2.alloc (.cells #[.int .i64 (labI a0 a1 b0 b1), .int .i64 (cmpS a2 b2)] 3))
  refine hK.out _ _ (hHeld.trans (hb.mono hHeld.size)) (fun hHeld => ?_)
  clear hK K hb
  refine tk 12 hHeld ?_
  refine rd0 ?_
  have HF := Lib.hid hHeld
  clear hHeld
  go_wp2
  go_ret
  exact ⟨rfl, by rw [HV1.out, HV.out]⟩
abbrev AC := (Int × Int) × ByteArray
def cfA (x y : AC) : Int := accI x.1.1 x.1.2 x.2 y.1.1 y.1.2 y.2
def ltA (x y : AC) : Prop := ltLb x.1 y.1 ∨ (x.1 = y.1 ∧ sLt x.2 y.2 = true)
theorem labI_cases (a0 a1 b0 b1 : Int) : (labI a0 a1 b0 b1 = -1 ∧ ltLb (a0, a1) (b0, b1)) ∨ (labI a0 a1 b0 b1 = 0 ∧ ((a0, a1) : Int × Int) = (b0, b1)) ∨ (labI a0 a1 b0 b1 = 1 ∧ ltLb (b0, b1) (a0, a1)) := by
  unfold labI orI ltLb
  rcases cmpI a0 b0 with ⟨e1, h1⟩ | ⟨e1, h1⟩ | ⟨e1, h1⟩ <;> rcases cmpI a1 b1 with ⟨e2, h2⟩ | ⟨e2, h2⟩ | ⟨e2, h2⟩ <;> rw [e1, e2] <;> simp <;> omega
theorem cmpS_cases (a b : ByteArray) : (cmpS a b = -1 ∧ sLt a b = true) ∨ (cmpS a b = 0 ∧ a = b) ∨ (cmpS a b = 1 ∧ sLt b a = true) := by
  unfold cmpS
  cases h1 : sLt a b
  · cases h2 : sLt b a
    · right; left; exact ⟨by simp, sLt_tri h1 h2⟩
    · right; right; exact ⟨by simp, rfl⟩
  · left; exact ⟨by simp, rfl⟩
theorem ltLb_asymm {a b : D_Label} (h1 : ltLb a b) : ¬ ltLb b a := fun h2 => ltLb_irrefl (ltLb_trans h1 h2)
theorem ltLb_ne {a b : D_Label} (h1 : ltLb a b) : a ≠ b := fun e => by rw [e] at h1; exact ltLb_irrefl h1
theorem cfA_neg (x y : AC) : cfA x y < 0 ↔ ltA x y := by
  obtain ⟨⟨a0, a1⟩, a2⟩ := x
  obtain ⟨⟨b0, b1⟩, b2⟩ := y
  unfold cfA accI ltA orI
  rcases labI_cases a0 a1 b0 b1 with ⟨e1, h1⟩ | ⟨e1, h1⟩ | ⟨e1, h1⟩
  · simp [e1, h1]
  · rcases cmpS_cases a2 b2 with ⟨e2, h2⟩ | ⟨e2, h2⟩ | ⟨e2, h2⟩
    · simp [e1, e2, h1, h2]
    · subst h2; simp [e1, e2, h1, sLt_irrefl, ltLb_irrefl]
    · simp [e1, e2, h1, sLt_asymm h2, ltLb_irrefl]
  · simp [e1, ltLb_asymm h1, (ltLb_ne h1).symm]
theorem accI_ge (x y : AC) : 0 ≤ cfA x y ↔ ¬ ltA x y := by rw [← cfA_neg]; omega
end Go.Proofs.YtelhmacfljffhabGreat.SortC
end
section
namespace Go.Proofs.YtelhmacfljffhabGreat.RepC
open Go.RowKit RowC ValC SpanC KeptC NameC SortC
set_option linter.unusedVariables false
set_option linter.unusedSimpArgs false
theorem acc_w {x0 x1 x3 : Int} {x2 : ByteArray} (W : World) : Calls Tryz.prog 117 #[.agg #[.int .i64 x0, .int .i64 x1, .string x2, .int .i64 x3]] W fun e w' => e = .returned (.agg #[.int .i64 x0, .int .i64 x1, .string x2]) ∧ Below W.heap.size W w' := by
  go_enter Tryz.func117, Tryz.ntmps117
  go_wp2
  refine bodyPost_ret (v := .agg #[.int .i64 x0, .int .i64 x1, .string x2]) (by simp [results, Tryz.results117, go_sem]) rfl ⟨rfl, ?_⟩
  repeat (first | exact Below.refl _ _ | refine Below.setCell ?_ (by first | omega | (simp; done) | (simp; omega)) _ | refine Below.alloc ?_ (by first | omega | (simp; done) | (simp; omega)) _)
theorem byacc_w (a0 a1 b0 b1 : Int) (a2 b2 : ByteArray) (W : World) : Calls Tryz.prog 116 #[.agg #[.int .i64 a0, .int .i64 a1, .string a2], .agg #[.int .i64 b0, .int .i64 b1, .string b2]] W fun e w' => e = .returned (.int .i64 (cfA ((a0, a1), a2) ((b0, b1), b2))) ∧ Below W.heap.size W w' :=
  (byacc_v a0 a1 b0 b1 a2 b2 W).mono fun e w' ⟨h1, h2⟩ => ⟨h1, by
    rw [h2]
    exact (((((((Below.refl W.heap.size W).alloc (Nat.le_refl _) _).alloc (by simp) _).drew.alloc (by simp; omega) _).alloc (by simp; omega) _).drew.alloc (by simp; omega) _).alloc (by simp; omega) _)⟩
set_option maxRecDepth 100000 in
set_option maxHeartbeats 3200000 in
theorem uses_impl {L : List D_Use} {a : Option Addr} {cap : Nat} {W : World} (h : RdSl R_Use W W.heap.size L a cap) :
    Calls Tryz.prog 65 #[.slice a L.length cap] W (IsB (usesB L) W) := by
  refine Calls.mono ?_ fun e w' h => resB_is usesB_iff h
  have hn := us_len h
  have H := Lib.hid h
  clear h
  by_cases h48 : L.length ≤ 48
  rotate_left
  · have HN := Lib.hid (show ¬ UsesR L from fun h => h48 h.1)
    have hd : decide ((48 : Int) < (L.length : Int)) = true := decide_eq_true (by omega)
    go_enter Tryz.func65, Tryz.ntmps65
    go_wp2
    go_ret
    exact resB_no HN.out (Below.refl _ _)
  have hd : decide ((48 : Int) < (L.length : Int)) = false := decide_eq_false (by omega)
  go_enter Tryz.func65, Tryz.ntmps65
  go_wp2
  go_loopw [10] (fun i wr => ∃ k : Nat, k ≤ L.length ∧ i = .int .i64 k ∧ Hid (usTo L k) ∧ Below W.heap.size W wr) (fun i _ => L.length - (intOf i).toNat)
  case atStart => exact ⟨0, Nat.zero_le _, rfl, Lib.hid usTo_zero, Below.refl _ _⟩
  case round =>
    obtain ⟨k, hk, rfl, HO, hB⟩ := hrel
    obtain ⟨wo, rfl⟩ : ∃ x, x = wr := ⟨_, rfl⟩
    have HB := Lib.hid hB
    have hsz := hB.size
    by_cases hlt : k < L.length
    · skip
      obtain ⟨⟨⟨x0, x1⟩, x2, x3⟩, hx⟩ := el_some hlt
      have HX := Lib.hid hx
      obtain ⟨g, o, us, rfl, hg, hu, hr⟩ := (H.out.below R_Use_ok hB).at_ hx
      obtain ⟨rfl, b_x2⟩ := rd_Use hr
      have e0 : wo.cell? ⟨g, o + k * 4, none⟩ = some (.int .i64 x0) := by simpa [size_UseS, Nat.add_assoc] using hu 0 _ rfl
      have e1 : wo.cell? ⟨g, o + k * 4 + 1, none⟩ = some (.int .i64 x1) := by simpa [size_UseS, Nat.add_assoc] using hu 1 _ rfl
      have e2 : wo.cell? ⟨g, o + k * 4 + 2, none⟩ = some (.string x2) := by simpa [size_UseS, Nat.add_assoc] using hu 2 _ rfl
      have e3 : wo.cell? ⟨g, o + k * 4 + 3, none⟩ = some (.int .i64 x3) := by simpa [size_UseS, Nat.add_assoc] using hu 3 _ rfl
      have hi0 : (0 : Int) ≤ (k : Int) := Int.natCast_nonneg _
      have hi1 : (k : Int) < (L.length : Int) := by omega
      have HA := Lib.hid ((H.out.below R_Use_ok hB))
      obtain ⟨w1, hw1⟩ : ∃ w, w = wo.alloc (.cells #[.int .i64 x0, .int .i64 x1, .string x2, .int .i64 x3] 69) := ⟨_, rfl⟩
      have hbA : Below wo.heap.size wo w1 := by rw [hw1]; exact (Below.refl _ _).alloc (Nat.le_refl _) _
      have HBA := Lib.hid hbA
      have HG := Lib.hid (Nat.lt_of_lt_of_le hg hsz)
      have HP1 := Lib.hid (show Blk w1 wo.heap.size 69 #[.int .i64 x0, .int .i64 x1, .string x2, .int .i64 x3] from by rw [hw1]; exact Blk.new _ _ _)
      have HB1 := Lib.hid (HB.out.trans (hbA.mono hsz))
      have hz1 := HB1.out.size
      have q0 := HP1.out.at_ 0 rfl
      have q1 := HP1.out.at_ 1 rfl
      have q2 := HP1.out.at_ 2 rfl
      have q3 := HP1.out.at_ 3 rfl
      clear hu hr hg hB hx
      have hL := fun V => LabC.ri_w x0 x1 V
      have hN := fun V => ni_w x2 b_x2 V
      have hI := fun V => ur_w x3 V
      go_wp2_with fail
      rw [← hw1]
      clear hw1 hbA e0 e1 e2 e3
      refine (hL _).mono ?_
      rintro e w2 ⟨rfl, hb⟩
      have HB2 := Lib.hid (HB1.out.trans (hb.mono hz1))
      have HP2 := Lib.hid (HP1.out.call hb)
      have hz2 := HB2.out.size
      have HS2 := Lib.hid hb.size
      clear hb q0 q1 q2 q3
      have q0 := HP2.out.at_ 0 rfl
      have q1 := HP2.out.at_ 1 rfl
      have q2 := HP2.out.at_ 2 rfl
      have q3 := HP2.out.at_ 3 rfl
      cases h1 : LabC.rB x0 x1 with
      | false =>
        have HN := Lib.hid (not_uses HX.out fun h => by have := h.1.1; simp only [h1] at this; cases this)
        clear h1
        go_wp2
        go_ret
        exact resB_no HN.out HB2.out
      | true =>
      have H1 := Lib.hid h1
      clear h1
      go_wp2_with fail
      refine (hN _).mono ?_
      rintro e w3 ⟨rfl, hb⟩
      have HB3 := Lib.hid (HB2.out.trans (hb.mono hz2))
      have HP3 := Lib.hid (HP2.out.call hb)
      have hz3 := HB3.out.size
      have HS3 := Lib.hid hb.size
      clear hb q0 q1 q2 q3
      have q0 := HP3.out.at_ 0 rfl
      have q1 := HP3.out.at_ 1 rfl
      have q2 := HP3.out.at_ 2 rfl
      have q3 := HP3.out.at_ 3 rfl
      cases h2 : nameB x2 with
      | false =>
        have HN := Lib.hid (not_uses HX.out fun h => by have := nameB_iff.2 h.1.2.1; simp only [h2] at this; cases this)
        clear h2
        go_wp2
        go_ret
        exact resB_no HN.out HB3.out
      | true =>
      have H2 := Lib.hid (nameB_iff.1 h2)
      clear h2
      go_wp2_with fail
      refine (hI _).mono ?_
      rintro e w4 ⟨rfl, hb⟩
      have HB4 := Lib.hid (HB3.out.trans (hb.mono hz3))
      have HP4 := Lib.hid (HP3.out.call hb)
      have hz4 := HB4.out.size
      have HS4z := Lib.hid hb.size
      clear hb q0 q1 q2 q3
      have q0 := HP4.out.at_ 0 rfl
      have q1 := HP4.out.at_ 1 rfl
      have q2 := HP4.out.at_ 2 rfl
      have q3 := HP4.out.at_ 3 rfl
      cases h3 : isB x3 1 100000 with
      | false =>
        have HN := Lib.hid (not_uses HX.out fun h => by have := h.1.2.2; simp only [h3] at this; cases this)
        clear h3
        go_wp2
        go_ret
        exact resB_no HN.out HB4.out
      | true =>
      have HOK := Lib.hid (show okU ((x0, x1), x2, x3) from ⟨H1.out, H2.out, h3⟩)
      clear h3
      have HA4 := Lib.hid (H.out.below R_Use_ok HB4.out)
      have HG4 := Lib.hid (show g < w4.heap.size from Nat.lt_of_lt_of_le HG.out (Nat.le_trans HBA.out.size (show w1.heap.size ≤ w4.heap.size from Nat.le_trans HS2.out (Nat.le_trans HS3.out HS4z.out))))
      clear q0 q1 q2 q3 hL hN hI
      by_cases hk0 : k = 0
      · have hkp : ¬ 0 < k := by omega
        have hd0 : decide ((0 : Int) < (k : Int)) = false := decide_eq_false (by omega)
        have hk6 : ¬ 6 ≤ k := by omega
        have hd6 : decide ((6 : Int) ≤ (k : Int)) = false := decide_eq_false (by omega)
        have HS := Lib.hid (usTo_step HO.out HX.out ⟨HOK.out, fun y h => by omega, fun y h => by omega⟩)
        clear hk0
        go_wp2_with fail
        refine wp_region_held_drew (S := (fun V => Below (w4).heap.size (w4) V)) (by kernel_rfl) ((Below.refl _ _).drew) (fun hHeld => ?_)
        refine tk 0 hHeld ?_
        refine tk 1 hHeld ?_
        refine tk 2 hHeld ?_
        refine tn 3 hHeld ?_
        refine tn 4 hHeld ?_
        refine tn 5 hHeld ?_
        refine tn 6 hHeld ?_
        refine tn 7 hHeld ?_
        refine tn 8 hHeld ?_
        refine tn 9 hHeld ?_
        refine tn 10 hHeld ?_
        refine tn 11 hHeld ?_
        refine tn 12 hHeld ?_
        refine tk 13 hHeld ?_
        refine rd0 ?_
        have HF := Lib.hid hHeld
        clear hHeld
        have HB5 := Lib.hid (HB4.out.trans (HF.out.mono hz4))
        go_wp2_with fail
        go_quiet (fail)
        all_goals
          go_wp2
          go_roundw
          case rel => exact ⟨k + 1, by omega, by go_num, HS, by first | exact HB5.out | exact HB5.out.drew | exact bdrewN HB4.out _ | exact bdrewN HB5.out _⟩
          case measure => simp [intOf]; omega
      · have hkp : 0 < k := by omega
        have hd0 : decide ((0 : Int) < (k : Int)) = true := decide_eq_true (by omega)
        obtain ⟨j, hj⟩ : ∃ j, k = j + 1 := ⟨k - 1, by omega⟩
        have HJ := Lib.hid hj
        obtain ⟨⟨⟨y0, y1⟩, y2, y3⟩, hy⟩ := el_some (show j < L.length by omega)
        have HY := Lib.hid (show L[k - 1]? = some ((y0, y1), y2, y3) from by rw [hj, Nat.add_sub_cancel]; exact hy)
        obtain ⟨g', o', us', hgo, hg', hu', hr'⟩ := HA4.out.at_ hy
        obtain ⟨rfl, rfl⟩ : g' = g ∧ o' = o := by cases hgo; exact ⟨rfl, rfl⟩
        obtain ⟨rfl, b_y2⟩ := rd_Use hr'
        have p0 : w4.cell? ⟨g', o' + j * 4, none⟩ = some (.int .i64 y0) := by simpa [size_UseS, Nat.add_assoc] using hu' 0 _ rfl
        have p1 : w4.cell? ⟨g', o' + j * 4 + 1, none⟩ = some (.int .i64 y1) := by simpa [size_UseS, Nat.add_assoc] using hu' 1 _ rfl
        have p2 : w4.cell? ⟨g', o' + j * 4 + 2, none⟩ = some (.string y2) := by simpa [size_UseS, Nat.add_assoc] using hu' 2 _ rfl
        have p3 : w4.cell? ⟨g', o' + j * 4 + 3, none⟩ = some (.int .i64 y3) := by simpa [size_UseS, Nat.add_assoc] using hu' 3 _ rfl
        have hjs : (k : Int) - 1 = (j : Int) := by omega
        have hj0 : (0 : Int) ≤ (j : Int) := Int.natCast_nonneg _
        have hj1 : (j : Int) < (L.length : Int) := by omega
        have hjw : IntKind.i64.wrap (j : Int) = (j : Int) := IntWalk.i64_in _ (by omega)
        obtain ⟨c, hc⟩ : ∃ c, cfA ((y0, y1), y2) ((x0, x1), x2) = c := ⟨_, rfl⟩
        have hC := fun V => byacc_w y0 y1 x0 x1 y2 x2 V
        rw [hc] at hC
        have HC := Lib.hid (show 0 ≤ c ↔ ¬ ltU ((y0, y1), y2, y3) ((x0, x1), x2, x3) from by rw [← hc]; exact accI_ge _ _)
        clear hgo hg' hu' hr' hy hj hk0 hc
        by_cases hz : 0 ≤ c
        · have HN := Lib.hid (not_uses HX.out fun h => HC.out.1 hz (h.2.1 _ (by have := HJ.out; omega) HY.out))
          have hge : decide (0 ≤ c) = true := decide_eq_true hz
          go_wp2_with fail
          refine wp_region_held_drew (S := (fun V => Below (w4).heap.size (w4) V)) (by kernel_rfl) ((Below.refl _ _).drew) (fun hHeld => ?_)
          refine tk 0 hHeld ?_
          refine tk 1 hHeld ?_
          refine tk 2 hHeld ?_
          refine tk 3 hHeld ?_
          refine tk 4 hHeld ?_
          refine tk 5 hHeld ?_
          refine tk 6 hHeld ?_
          refine tk 7 hHeld ?_ (hy := fun w hSw => by (try dsimp only at hSw); have k0 := (hSw.cell (p := ⟨g', o' + j * 4, none⟩) HG4.out).trans p0; have k1 := (hSw.cell (p := ⟨g', o' + j * 4 + 1, none⟩) HG4.out).trans p1; have k2 := (hSw.cell (p := ⟨g', o' + j * 4 + 2, none⟩) HG4.out).trans p2; have k3 := (hSw.cell (p := ⟨g', o' + j * 4 + 3, none⟩) HG4.out).trans p3; clear hSw; go_simp; try with_reducible rfl)
          refine tk 9 hHeld ?_ (hy := fun w hSw => by (try dsimp only at hSw); have k0 := (hSw.cell (p := ⟨wo.heap.size, 0, none⟩) HP4.out.lt).trans (HP4.out.at_ 0 rfl); have k1 := (hSw.cell (p := ⟨wo.heap.size, 1, none⟩) HP4.out.lt).trans (HP4.out.at_ 1 rfl); have k2 := (hSw.cell (p := ⟨wo.heap.size, 2, none⟩) HP4.out.lt).trans (HP4.out.at_ 2 rfl); have k3 := (hSw.cell (p := ⟨wo.heap.size, 3, none⟩) HP4.out.lt).trans (HP4.out.at_ 3 rfl); clear hSw; go_simp; try with_reducible rfl)
          refine rd1 8 (fun K hK => ?_)
          go_simp
          go_at_call 117
          refine (acc_w (x3 := y3) _).mono ?_
          rintro e w5 ⟨rfl, hb⟩
          refine hK.out _ _ (hHeld.trans (hb.mono hHeld.size)) (fun hHeld => ?_)
          clear hK K hb
          refine rd1 10 (fun K hK => ?_)
          go_simp
          go_at_call 117
          refine (acc_w (x3 := x3) _).mono ?_
          rintro e w6 ⟨rfl, hb⟩
          refine hK.out _ _ (hHeld.trans (hb.mono hHeld.size)) (fun hHeld => ?_)
          clear hK K hb
          refine rd1 11 (fun K hK => ?_)
          go_simp
          go_at_call 116
          refine (hC _).mono ?_
          rintro e w7 ⟨rfl, hb⟩
          refine hK.out _ _ (hHeld.trans (hb.mono hHeld.size)) (fun hHeld => ?_)
          clear hK K hb
          refine tk 12 hHeld ?_
          refine tk 13 hHeld ?_
          refine rd0 ?_
          have HF := Lib.hid hHeld
          clear hHeld
          have HB5 := Lib.hid (HB4.out.trans (HF.out.mono hz4))
          go_wp2
          go_ret
          exact resB_no HN.out HB5.out
        · have HLT := Lib.hid (Classical.not_not.1 fun h => hz (HC.out.2 h))
          have hge : decide (0 ≤ c) = false := decide_eq_false hz
          have HLU := Lib.hid (fun (u : D_Use) (_ : 0 < k) (hu : L[k - 1]? = some u) => show ltU u ((x0, x1), x2, x3) from by rw [HY.out] at hu; cases hu; exact HLT.out)
          go_wp2_with fail
          refine wp_region_held_drew (S := (fun V => Below (w4).heap.size (w4) V)) (by kernel_rfl) ((Below.refl _ _).drew) (fun hHeld => ?_)
          refine tk 0 hHeld ?_
          refine tk 1 hHeld ?_
          refine tk 2 hHeld ?_
          refine tk 3 hHeld ?_
          refine tk 4 hHeld ?_
          refine tk 5 hHeld ?_
          refine tk 6 hHeld ?_
          refine tk 7 hHeld ?_ (hy := fun w hSw => by (try dsimp only at hSw); have k0 := (hSw.cell (p := ⟨g', o' + j * 4, none⟩) HG4.out).trans p0; have k1 := (hSw.cell (p := ⟨g', o' + j * 4 + 1, none⟩) HG4.out).trans p1; have k2 := (hSw.cell (p := ⟨g', o' + j * 4 + 2, none⟩) HG4.out).trans p2; have k3 := (hSw.cell (p := ⟨g', o' + j * 4 + 3, none⟩) HG4.out).trans p3; clear hSw; go_simp; try with_reducible rfl)
          refine tk 9 hHeld ?_ (hy := fun w hSw => by (try dsimp only at hSw); have k0 := (hSw.cell (p := ⟨wo.heap.size, 0, none⟩) HP4.out.lt).trans (HP4.out.at_ 0 rfl); have k1 := (hSw.cell (p := ⟨wo.heap.size, 1, none⟩) HP4.out.lt).trans (HP4.out.at_ 1 rfl); have k2 := (hSw.cell (p := ⟨wo.heap.size, 2, none⟩) HP4.out.lt).trans (HP4.out.at_ 2 rfl); have k3 := (hSw.cell (p := ⟨wo.heap.size, 3, none⟩) HP4.out.lt).trans (HP4.out.at_ 3 rfl); clear hSw; go_simp; try with_reducible rfl)
          refine rd1 8 (fun K hK => ?_)
          go_simp
          go_at_call 117
          refine (acc_w (x3 := y3) _).mono ?_
          rintro e w5 ⟨rfl, hb⟩
          refine hK.out _ _ (hHeld.trans (hb.mono hHeld.size)) (fun hHeld => ?_)
          clear hK K hb
          refine rd1 10 (fun K hK => ?_)
          go_simp
          go_at_call 117
          refine (acc_w (x3 := x3) _).mono ?_
          rintro e w6 ⟨rfl, hb⟩
          refine hK.out _ _ (hHeld.trans (hb.mono hHeld.size)) (fun hHeld => ?_)
          clear hK K hb
          refine rd1 11 (fun K hK => ?_)
          go_simp
          go_at_call 116
          refine (hC _).mono ?_
          rintro e w7 ⟨rfl, hb⟩
          refine hK.out _ _ (hHeld.trans (hb.mono hHeld.size)) (fun hHeld => ?_)
          clear hK K hb
          refine tk 12 hHeld ?_
          refine tk 13 hHeld ?_
          refine rd0 ?_
          have HF := Lib.hid hHeld
          clear hHeld
          have HB7 := Lib.hid (HB4.out.trans (HF.out.mono hz4))
          have HP7 := Lib.hid (HP4.out.call HF.out)
          have HA7 := Lib.hid (H.out.below R_Use_ok HB7.out)
          clear p0 p1 p2 p3 hC hjs hj0 hj1 hjw hge hz
          by_cases h6 : 6 ≤ k
          rotate_left
          · have hd6 : decide ((6 : Int) ≤ (k : Int)) = false := decide_eq_false (by omega)
            have HS := Lib.hid (usTo_step HO.out HX.out ⟨HOK.out, HLU.out, fun y h => absurd h h6⟩)
            go_wp2_with fail
            go_quiet (fail)
            all_goals
              go_wp2
              go_roundw
              case rel => exact ⟨k + 1, by omega, by go_num, HS, by first | exact HB7.out | exact HB7.out.drew | exact bdrewN HB7.out _⟩
              case measure => simp [intOf]; omega
          · have hd6 : decide ((6 : Int) ≤ (k : Int)) = true := decide_eq_true (by omega)
            obtain ⟨q, hq⟩ : ∃ q, k = q + 6 := ⟨k - 6, by omega⟩
            obtain ⟨⟨⟨z0, z1⟩, z2, z3⟩, hy⟩ := el_some (show q < L.length by omega)
            have HQ := Lib.hid (show L[k - 6]? = some ((z0, z1), z2, z3) from by rw [hq, Nat.add_sub_cancel]; exact hy)
            obtain ⟨g, o, us', hgo, hg', hu', hr'⟩ := HA7.out.at_ hy
            obtain ⟨rfl, rfl⟩ : g' = g ∧ o' = o := by cases hgo; exact ⟨rfl, rfl⟩
            obtain ⟨rfl, b_z2⟩ := rd_Use hr'
            have p0 : w7.cell? ⟨g', o' + q * 4, none⟩ = some (.int .i64 z0) := by simpa [size_UseS, Nat.add_assoc] using hu' 0 _ rfl
            have p1 : w7.cell? ⟨g', o' + q * 4 + 1, none⟩ = some (.int .i64 z1) := by simpa [size_UseS, Nat.add_assoc] using hu' 1 _ rfl
            have q0 := HP7.out.at_ 0 rfl
            have q1 := HP7.out.at_ 1 rfl
            have hqs : (k : Int) - 6 = (q : Int) := by omega
            have hq0 : (0 : Int) ≤ (q : Int) := Int.natCast_nonneg _
            have hq1 : (q : Int) < (L.length : Int) := by omega
            have hqw : IntKind.i64.wrap (q : Int) = (q : Int) := IntWalk.i64_in _ (by omega)
            have HK6 := Lib.hid h6
            obtain ⟨b, hb⟩ : ∃ b, decide (((z0, z1) : Int × Int) = (x0, x1)) = b := ⟨_, rfl⟩
            have hqq := eql_lab z0 z1 x0 x1 b hb
            clear hgo hg' hu' hr' hy hq
            cases b with
            | true =>
              have HN := Lib.hid (not_uses HX.out fun h => h.2.2 _ HK6.out HQ.out (of_decide_eq_true hb))
              clear hb
              go_wp2_with fail
              go_quiet (fail)
              all_goals
                go_wp2
                go_ret
                exact resB_no HN.out (by first | exact HB7.out | exact HB7.out.drew | exact bdrewN HB7.out _)
            | false =>
              have HS := Lib.hid (usTo_step HO.out HX.out ⟨HOK.out, HLU.out, fun y _ hy he => by rw [HQ.out] at hy; cases hy; exact of_decide_eq_false hb he⟩)
              clear hb
              go_wp2_with fail
              go_quiet (fail)
              all_goals
                go_wp2
                go_roundw
                case rel => exact ⟨k + 1, by omega, by go_num, HS, by first | exact HB7.out | exact HB7.out.drew | exact bdrewN HB7.out _⟩
                case measure => simp [intOf]; omega
    · have hdl : decide ((k : Int) < (L.length : Int)) = false := decide_eq_false (by omega)
      obtain rfl : k = L.length := by omega
      have HY := Lib.hid (usesR_all h48 HO.out)
      clear hB
      go_wp2
      go_ret
      exact resB_yes HY.out HB.out
end Go.Proofs.YtelhmacfljffhabGreat.RepC
end
section
namespace Go.Proofs.YtelhmacfljffhabGreat.SpanC
open Go.RowKit KeptC
set_option linter.unusedSimpArgs false
theorem method_before (a b : Int) (w : World) : (Go.method 349 62 (.agg #[.int .i64 a, .int .i64 b]) "loop.example/g00658/impl.before").run Tryz.prog w = .ok (212, .agg #[.int .i64 a, .int .i64 b]) w := by kernel_rfl
def Ord (n : Nat) (f : Nat → Int × Int) : Prop := ∀ j, j + 1 < n → (f j).2 ≤ (f (j + 1)).1
set_option maxRecDepth 100000 in
set_option maxHeartbeats 3200000 in
theorem order_impl (qa : Option Addr) (n qc : Nat) (f : Nat → Int × Int) (w : World) (hn : n ≤ 1048576) (h1 : PA w qa n f) :
    Calls Tryz.prog 146 #[.slice qa n qc] w (ResB (Ord n f) w) := by
  have H1 := Lib.hid h1
  clear h1
  go_enter Tryz.func146, Tryz.ntmps146
  go_wp2
  go_loopw [3] (fun i wr => ∃ k : Nat, (k ≤ n ∨ k = 1) ∧ 1 ≤ k ∧ i = .int .i64 k ∧ (∀ j, j + 1 < k → (f j).2 ≤ (f (j + 1)).1) ∧ Below w.heap.size w wr) (fun i _ => n - (intOf i).toNat)
  case atStart => exact ⟨1, .inr rfl, by omega, rfl, fun j h => by omega, Below.refl _ _⟩
  case round =>
    obtain ⟨k, hk, hk1, rfl, hall, hb⟩ := hrel
    have HA := Lib.hid hall
    have HB := Lib.hid hb
    have hsz := hb.size
    clear hall
    by_cases hlt : k < n
    · obtain ⟨j, rfl⟩ : ∃ j, k = j + 1 := ⟨k - 1, by omega⟩
      obtain ⟨g, o, rfl, hgl, hc0, hc1⟩ := (H1.out.bel hb) _ hlt
      obtain ⟨g2, o2, e2, _, hd0, hd1⟩ := (H1.out.bel HB.out) j (by omega)
      cases e2
      have hj0 : (0 : Int) ≤ (j : Int) := Int.natCast_nonneg _
      have hj1 : (j : Int) < (n : Int) := by omega
      have hjw2 : IntKind.i64.wrap (j : Int) = (j : Int) := IntWalk.i64_in _ (by omega)
      have hi0p : (0 : Int) ≤ (j : Int) + 1 := by omega
      have hi1p : (j : Int) + 1 < (n : Int) := by omega
      have hjw : IntKind.i64.wrap ((j : Int) + 1 - 1) = (j : Int) := (by rw [show (j : Int) + 1 - 1 = (j : Int) by omega]; exact IntWalk.i64_in _ (by omega))
      clear hb
      have hm := method_before (f j).1 (f j).2
      have hrs := fun W => before_impl (f j).1 (f j).2 (f (j + 1)).1 (f (j + 1)).2 W
      by_cases hlo : (f j).2 ≤ (f (j + 1)).1
      · have HOK := Lib.hid (show ∀ i, i + 1 < j + 2 → (f i).2 ≤ (f (i + 1)).1 from fun i hi => by
          by_cases e : i = j
          · subst e; exact hlo
          · exact HA.out i (by omega))
        rw [decide_eq_true hlo] at hrs
        go_wp2_with fail
        refine wp_region_held_drew (S := (fun W => W.cell? ⟨g, o + j * 2, none⟩ = some (.int .i64 (f j).1) ∧ W.cell? ⟨g, o + j * 2 + 1, none⟩ = some (.int .i64 (f j).2) ∧ W.cell? ⟨g, o + (j + 1) * 2, none⟩ = some (.int .i64 (f (j + 1)).1) ∧ W.cell? ⟨g, o + (j + 1) * 2 + 1, none⟩ = some (.int .i64 (f (j + 1)).2) ∧ wr.heap.size ≤ W.heap.size ∧ Below w.heap.size w W)) (by kernel_rfl) (⟨hd0, hd1, hc0, hc1, Nat.le_refl _, HB.out.drew⟩) (fun hHeld => ?_)
        refine tk 0 hHeld ?_
        refine tk 1 hHeld ?_
        refine tk 2 hHeld ?_
        refine tk 3 hHeld ?_
        refine tk 4 hHeld ?_
        refine tk 5 hHeld ?_
        refine tk 6 hHeld ?_
        refine tk 7 hHeld ?_
        refine tk 8 hHeld ?_
        refine tk 9 hHeld ?_
        refine rd1 10 (fun K hK => ?_)
        go_simp
        go_at_call 212; refine (hrs _).mono ?_; rintro e w1 ⟨rfl, hb⟩
        refine hK.out _ _ (⟨(hb.cell (p := ⟨g, o + j * 2, none⟩) (Nat.lt_of_lt_of_le hgl hHeld.2.2.2.2.1)).trans hHeld.1, (hb.cell (p := ⟨g, o + j * 2 + 1, none⟩) (Nat.lt_of_lt_of_le hgl hHeld.2.2.2.2.1)).trans hHeld.2.1, (hb.cell (p := ⟨g, o + (j + 1) * 2, none⟩) (Nat.lt_of_lt_of_le hgl hHeld.2.2.2.2.1)).trans hHeld.2.2.1, (hb.cell (p := ⟨g, o + (j + 1) * 2 + 1, none⟩) (Nat.lt_of_lt_of_le hgl hHeld.2.2.2.2.1)).trans hHeld.2.2.2.1, Nat.le_trans hHeld.2.2.2.2.1 hb.size, hHeld.2.2.2.2.2.trans (hb.mono (Nat.le_trans hsz hHeld.2.2.2.2.1))⟩) (fun hHeld => ?_)
        clear hK K
        refine tk 11 hHeld ?_
        refine rd0 ?_
        have HF := Lib.hid hHeld.2.2.2.2.2
        clear hHeld
        go_wp2
        go_roundw
        case rel => exact ⟨j + 2, by omega, by omega, by go_num, HOK.out, HF.out⟩
        case measure => simp [intOf]; omega
      · have Hno := Lib.hid (show ¬ Ord n f from fun h => hlo (h j hlt))
        rw [decide_eq_false hlo] at hrs
        go_wp2_with fail
        refine wp_region_held_drew (S := (fun W => W.cell? ⟨g, o + j * 2, none⟩ = some (.int .i64 (f j).1) ∧ W.cell? ⟨g, o + j * 2 + 1, none⟩ = some (.int .i64 (f j).2) ∧ W.cell? ⟨g, o + (j + 1) * 2, none⟩ = some (.int .i64 (f (j + 1)).1) ∧ W.cell? ⟨g, o + (j + 1) * 2 + 1, none⟩ = some (.int .i64 (f (j + 1)).2) ∧ wr.heap.size ≤ W.heap.size ∧ Below w.heap.size w W)) (by kernel_rfl) (⟨hd0, hd1, hc0, hc1, Nat.le_refl _, HB.out.drew⟩) (fun hHeld => ?_)
        refine tk 0 hHeld ?_
        refine tk 1 hHeld ?_
        refine tk 2 hHeld ?_
        refine tk 3 hHeld ?_
        refine tk 4 hHeld ?_
        refine tk 5 hHeld ?_
        refine tk 6 hHeld ?_
        refine tk 7 hHeld ?_
        refine tk 8 hHeld ?_
        refine tk 9 hHeld ?_
        refine rd1 10 (fun K hK => ?_)
        go_simp
        go_at_call 212; refine (hrs _).mono ?_; rintro e w1 ⟨rfl, hb⟩
        refine hK.out _ _ (⟨(hb.cell (p := ⟨g, o + j * 2, none⟩) (Nat.lt_of_lt_of_le hgl hHeld.2.2.2.2.1)).trans hHeld.1, (hb.cell (p := ⟨g, o + j * 2 + 1, none⟩) (Nat.lt_of_lt_of_le hgl hHeld.2.2.2.2.1)).trans hHeld.2.1, (hb.cell (p := ⟨g, o + (j + 1) * 2, none⟩) (Nat.lt_of_lt_of_le hgl hHeld.2.2.2.2.1)).trans hHeld.2.2.1, (hb.cell (p := ⟨g, o + (j + 1) * 2 + 1, none⟩) (Nat.lt_of_lt_of_le hgl hHeld.2.2.2.2.1)).trans hHeld.2.2.2.1, Nat.le_trans hHeld.2.2.2.2.1 hb.size, hHeld.2.2.2.2.2.trans (hb.mono (Nat.le_trans hsz hHeld.2.2.2.2.1))⟩) (fun hHeld => ?_)
        clear hK K
        refine tk 11 hHeld ?_
        refine rd0 ?_
        have HF := Lib.hid hHeld.2.2.2.2.2
        clear hHeld
        go_wp2
        go_ret
        exact resB_no Hno.out HF.out
    · have Hy := Lib.hid (show Ord n f from fun j hj => HA.out j (by omega))
      clear hb
      go_wp2
      go_ret
      exact resB_yes Hy.out HB.out
end Go.Proofs.YtelhmacfljffhabGreat.SpanC
end
section
namespace Go.Proofs.YtelhmacfljffhabGreat.SpanC
open Go.RowKit KeptC
set_option linter.unusedSimpArgs false
theorem spR_of {n : Nat} {f : Nat → Int × Int} (h : n ≤ 20) (h1 : ∀ i, i < n → spB (f i).1 (f i).2 = true) (h2 : Ord n f) : SpR n f :=
  ⟨h, fun i hi => ⟨h1 i hi, fun h0 => by
    have := h2 (i - 1) (by omega)
    rwa [show i - 1 + 1 = i by omega] at this⟩⟩
theorem ord_of {n : Nat} {f : Nat → Int × Int} (h : SpR n f) : Ord n f := fun j hj => (h.2 (j + 1) hj).2 (Nat.succ_pos _)
set_option maxRecDepth 100000 in
set_option maxHeartbeats 3200000 in
theorem spans_impl (qa : Option Addr) (n qc : Nat) (f : Nat → Int × Int) (w : World) (hn : n ≤ 1048576) (h1 : PA w qa n f) :
    Calls Tryz.prog 111 #[.slice qa n qc] w (ResB (SpR n f) w) := by
  have H1 := Lib.hid h1
  clear h1
  by_cases h20 : n ≤ 20
  · have hd : decide ((20 : Int) < (n : Int)) = false := decide_eq_false (by omega)
    go_enter Tryz.func111, Tryz.ntmps111
    go_wp2
    go_loopw [10] (fun i wr => ∃ k : Nat, k ≤ n ∧ i = .int .i64 k ∧ (∀ j, j < k → spB (f j).1 (f j).2 = true) ∧ Below w.heap.size w wr) (fun i _ => n - (intOf i).toNat)
    case atStart => exact ⟨0, Nat.zero_le _, rfl, fun j h => absurd h (Nat.not_lt_zero _), Below.refl _ _⟩
    case round =>
      obtain ⟨k, hk, rfl, hall, hb⟩ := hrel
      have HA := Lib.hid hall
      have HB := Lib.hid hb
      have hsz := hb.size
      clear hall
      by_cases hlt : k < n
      · obtain ⟨g, o, rfl, hgl, hc0, hc1⟩ := (H1.out.bel hb) _ hlt
        have hi0 : (0 : Int) ≤ (k : Int) := Int.natCast_nonneg _
        have hi1 : (k : Int) < (n : Int) := by omega
        have hrs := fun W => right_impl (f k).1 (f k).2 W
        clear hb
        cases hr : spB (f k).1 (f k).2 with
        | false =>
          have Hno := Lib.hid (show ¬ SpR n f from fun h => by have := (h.2 k hlt).1; rw [hr] at this; cases this)
          rw [hr] at hrs
          clear hr
          go_wp2_with (go_at_call 145; refine (hrs _).mono ?_; rintro e w1 ⟨rfl, hb⟩; have HB2 := Lib.hid (Below.trans (B := w.heap.size) (a := w) (by repeat (first | exact HB.out | refine Below.drew ?_ | refine Below.setCell ?_ (by first | omega | (simp <;> omega)) _ | refine Below.alloc ?_ (by first | omega | (simp <;> omega)) _)) (hb.mono (by first | omega | (simp <;> omega)))); clear hb)
          go_ret
          exact resB_no Hno.out HB2.out
        | true =>
          have HOK := Lib.hid (all_step HA.out hr)
          rw [hr] at hrs
          clear hr
          go_wp2_with (go_at_call 145; refine (hrs _).mono ?_; rintro e w1 ⟨rfl, hb⟩; have HB2 := Lib.hid (Below.trans (B := w.heap.size) (a := w) (by repeat (first | exact HB.out | refine Below.drew ?_ | refine Below.setCell ?_ (by first | omega | (simp <;> omega)) _ | refine Below.alloc ?_ (by first | omega | (simp <;> omega)) _)) (hb.mono (by first | omega | (simp <;> omega)))); clear hb)
          go_roundw
          case rel => exact ⟨k + 1, by omega, by go_num, HOK.out, HB2.out⟩
          case measure => simp [intOf]; omega
      · clear hb
        obtain rfl : k = n := by omega
        go_wp2_with fail
        refine (order_impl qa k qc f _ hn (H1.out.bel HB.out)).mono ?_
        intro e w1 h
        obtain ⟨b, rfl, hb, hB⟩ := resB_elim h
        have HB2 := Lib.hid (HB.out.trans (hB.mono hsz))
        have Hb := Lib.hid (show b = true ↔ SpR k f from ⟨fun h => spR_of h20 HA.out (hb.1 h), fun h => hb.2 (ord_of h)⟩)
        clear h hB hb
        go_wp2
        go_ret
        exact ⟨b, rfl, Hb.out, HB2.out⟩
  · have Hno := Lib.hid (show ¬ SpR n f from fun h => h20 h.1)
    have hd : decide ((20 : Int) < (n : Int)) = true := decide_eq_true (by omega)
    go_enter Tryz.func111, Tryz.ntmps111
    go_wp2
    go_ret
    exact resB_no Hno.out (Below.refl _ _)
end Go.Proofs.YtelhmacfljffhabGreat.SpanC
end
section
namespace Go.Proofs.YtelhmacfljffhabGreat.RepC
open Go.RowKit RowC ValC SpanC KeptC
set_option linter.unusedVariables false
set_option linter.unusedSimpArgs false
theorem state_spec (n : Int) (w : World) : Calls Tryz.prog 87 #[.int .i64 n] w fun e w' => e = .returned (.bool (isB n 1 3)) ∧ w = w' := by
  go_enter Tryz.func87, Tryz.ntmps87
  go_wp2_with (go_at_call 53; refine (is_spec _ _ _ _).mono ?_; rintro e w' ⟨rfl, rfl⟩)
  go_ret
  exact ⟨rfl, rfl⟩
theorem state_impl (n : Int) (w : World) : Calls Tryz.prog 110 #[.int .i64 n] w fun e w' => e = .returned (.bool (isB n 1 3)) ∧ w = w' := by
  go_enter Tryz.func110, Tryz.ntmps110
  go_wp2_with (go_at_call 109; refine (is_impl _ _ _ _).mono ?_; rintro e w' ⟨rfl, rfl⟩)
  go_ret
  exact ⟨rfl, rfl⟩
theorem nd_len {α : Type} {E : Rp α} {L : List α} {W : World} {B : Nat} {a : Option Addr} {cap : Nat} (h : RdSl E W B L a cap) : L.length ≤ 9223372036854775807 := by
  have h1 := h.1; have h2 := h.2.1; unfold maxLen at h2; omega
set_option maxRecDepth 100000 in
set_option maxHeartbeats 3200000 in
theorem nds_spec {L : List D_Node} {a : Option Addr} {cap : Nat} {W : World} (h : RdSl R_Node W W.heap.size L a cap) :
    Calls Tryz.prog 45 #[.slice a L.length cap] W (IsB (nodesB L) W) := by
  refine Calls.mono ?_ fun e w' h => resB_isN nodesB_iff h
  have hn := nd_len h
  have H := Lib.hid h
  clear h
  by_cases h1 : 1 ≤ L.length
  rotate_left
  · have HN := Lib.hid (show ¬ NdsR L from fun h => h1 h.1.1)
    have hd : decide ((L.length : Int) < 1) = true := decide_eq_true (by omega)
    go_enter Tryz.func45, Tryz.ntmps45
    go_wp2
    go_ret
    exact resB_no HN.out (Below.refl _ _)
  have hd : decide ((L.length : Int) < 1) = false := decide_eq_false (by omega)
  by_cases h6 : L.length ≤ 6
  rotate_left
  · have HN := Lib.hid (show ¬ NdsR L from fun h => h6 h.1.2)
    have hd2 : decide ((6 : Int) < (L.length : Int)) = true := decide_eq_true (by omega)
    go_enter Tryz.func45, Tryz.ntmps45
    go_wp2
    go_ret
    exact resB_no HN.out (Below.refl _ _)
  have hd2 : decide ((6 : Int) < (L.length : Int)) = false := decide_eq_false (by omega)
  go_enter Tryz.func45, Tryz.ntmps45
  go_wp2
  go_loopw [3] (fun i wr => ∃ k : Nat, k ≤ L.length ∧ i = .int .i64 k ∧ Hid (okTo L k) ∧ Below W.heap.size W wr) (fun i _ => L.length - (intOf i).toNat)
  case atStart => exact ⟨0, Nat.zero_le _, rfl, Lib.hid okTo_zero, Below.refl _ _⟩
  case round =>
    obtain ⟨k, hk, rfl, HO, hB⟩ := hrel
    have HB := Lib.hid hB
    have hsz := hB.size
    by_cases hlt : k < L.length
    · skip
      obtain ⟨x, hx⟩ := el_some hlt
      have HX := Lib.hid hx
      have hcr := mv_rd R_Node_ok H.out hB
      obtain ⟨g, o, us, rfl, hg, hu, hr⟩ := hcr.at_ hx
      obtain ⟨st, M⟩ := x
      obtain ⟨ba, bc, rfl, hM⟩ := rd_Node hr
      have e0 : wr.cell? ⟨g, o + k * 2, none⟩ = some (.int .i64 st) := by simpa [size_NodeS] using hu 0 _ rfl
      have e1 : wr.cell? ⟨g, o + k * 2 + 1, none⟩ = some (.slice ba M.length bc) := by simpa [size_NodeS, Nat.add_assoc] using hu 1 _ rfl
      have hi0 : (0 : Int) ≤ (k : Int) := Int.natCast_nonneg _
      have hi1 : (k : Int) < (L.length : Int) := by omega
      have HG := Lib.hid hg
      have HM := Lib.hid hM
      clear hcr hu hr hM hg hB hx
      cases hq : isB st 1 3 with
      | false =>
        have HN := Lib.hid (show ¬ NdsR L from fun h => by have := (nodesR_at h HX.out).1; rw [hq] at this; cases this)
        have hs := fun W => state_spec st W
        rw [hq] at hs
        clear hq
        go_wp2_with (go_at_call 87; refine (hs _).mono ?_; rintro e w' ⟨rfl, rfl⟩)
        go_ret
        exact resB_no HN.out HB.out
      | true =>
      have HQ := Lib.hid hq
      have hs := fun W => state_spec st W
      rw [hq] at hs
      clear hq
      by_cases h4 : M.length ≤ 4
      rotate_left
      · have HN := Lib.hid (show ¬ NdsR L from fun h => h4 (nodesR_at h HX.out).2.1)
        have hd : decide ((4 : Int) < (M.length : Int)) = true := decide_eq_true (by omega)
        go_wp2_with (go_at_call 87; refine (hs _).mono ?_; rintro e w' ⟨rfl, rfl⟩)
        go_ret
        exact resB_no HN.out HB.out
      have hd : decide ((4 : Int) < (M.length : Int)) = false := decide_eq_false (by omega)
      go_wp2_with (first | (go_at_call 87; refine (hs _).mono ?_; rintro e w' ⟨rfl, rfl⟩) | fail)
      refine (spansA_spec ba M.length bc (gt M) _ (by omega) (pa_of (mv_rd R_Span_ok HM.out (w' := _) (Below.refl _ _)) (Nat.le_refl _))).mono ?_
      intro e w5 h
      obtain ⟨z, rfl, hz, hb⟩ := resB_elim h
      have HZ := Lib.hid hz
      have HB5 := Lib.hid (HB.out.trans (hb.mono hsz))
      clear h hz hb hs hd
      cases z with
      | false =>
        have HN := Lib.hid (show ¬ NdsR L from fun h => by have := HZ.out.2 (nodesR_at h HX.out).2.2; cases this)
        go_wp2
        go_ret
        exact resB_no HN.out HB5.out
      | true =>
        have HO2 := Lib.hid (okTo_step HO.out HX.out ⟨HQ.out, h4, HZ.out.1 rfl⟩)
        go_wp2
        go_roundw
        case rel => exact ⟨k + 1, by omega, by go_num, HO2, HB5.out⟩
        case measure => simp [intOf]; omega
    · have hdl : decide ((k : Int) < (L.length : Int)) = false := decide_eq_false (by omega)
      obtain rfl : k = L.length := by omega
      have HY := Lib.hid (nodesR_all h1 h6 HO.out)
      clear hB
      go_wp2
      go_ret
      exact resB_yes HY.out HB.out
set_option maxRecDepth 100000 in
set_option maxHeartbeats 3200000 in
theorem nds_impl {L : List D_Node} {a : Option Addr} {cap : Nat} {W : World} (h : RdSl R_Node W W.heap.size L a cap) :
    Calls Tryz.prog 63 #[.slice a L.length cap] W (IsB (nodesB L) W) := by
  refine Calls.mono ?_ fun e w' h => resB_isN nodesB_iff h
  have hn := nd_len h
  have H := Lib.hid h
  clear h
  cases h16 : isB (L.length : Int) 1 6 with
  | false =>
    have HN := Lib.hid (show ¬ NdsR L from fun h => by have h1 := h.1.1; have h2 := h.1.2; rw [(isB_iff _ _ _).2 ⟨by omega, by omega⟩] at h16; cases h16)
    have hs := fun W => is_impl (L.length : Int) 1 6 W
    rw [h16] at hs
    clear h16
    go_enter Tryz.func63, Tryz.ntmps63
    go_wp2_with (go_at_call 109; refine (hs _).mono ?_; rintro e w' ⟨rfl, rfl⟩)
    go_ret
    exact resB_no HN.out (Below.refl _ _)
  | true =>
  have h1 : 1 ≤ L.length := by have := ((isB_iff _ _ _).1 h16).1; omega
  have h6 : L.length ≤ 6 := by have := ((isB_iff _ _ _).1 h16).2; omega
  have hs := fun W => is_impl (L.length : Int) 1 6 W
  rw [h16] at hs
  clear h16
  go_enter Tryz.func63, Tryz.ntmps63
  go_wp2_with (go_at_call 109; refine (hs _).mono ?_; rintro e w' ⟨rfl, rfl⟩)
  clear hs
  go_loopw [11] (fun i wr => ∃ k : Nat, k ≤ L.length ∧ i = .int .i64 k ∧ Hid (okTo L k) ∧ Below W.heap.size W wr) (fun i _ => L.length - (intOf i).toNat)
  case atStart => exact ⟨0, Nat.zero_le _, rfl, Lib.hid okTo_zero, Below.refl _ _⟩
  case round =>
    obtain ⟨k, hk, rfl, HO, hB⟩ := hrel
    have HB := Lib.hid hB
    have hsz := hB.size
    by_cases hlt : k < L.length
    · skip
      obtain ⟨x, hx⟩ := el_some hlt
      have HX := Lib.hid hx
      have hcr := mv_rd R_Node_ok H.out hB
      obtain ⟨g, o, us, rfl, hg, hu, hr⟩ := hcr.at_ hx
      obtain ⟨st, M⟩ := x
      obtain ⟨ba, bc, rfl, hM⟩ := rd_Node hr
      have e0 : wr.cell? ⟨g, o + k * 2, none⟩ = some (.int .i64 st) := by simpa [size_NodeS] using hu 0 _ rfl
      have e1 : wr.cell? ⟨g, o + k * 2 + 1, none⟩ = some (.slice ba M.length bc) := by simpa [size_NodeS, Nat.add_assoc] using hu 1 _ rfl
      have hi0 : (0 : Int) ≤ (k : Int) := Int.natCast_nonneg _
      have hi1 : (k : Int) < (L.length : Int) := by omega
      have HG := Lib.hid hg
      have HM := Lib.hid hM
      clear hcr hu hr hM hg hB hx
      cases hq : isB st 1 3 with
      | false =>
        have HN := Lib.hid (show ¬ NdsR L from fun h => by have := (nodesR_at h HX.out).1; rw [hq] at this; cases this)
        have hs := fun W => state_impl st W
        rw [hq] at hs
        clear hq
        go_wp2_with (go_at_call 110; refine (hs _).mono ?_; rintro e w' ⟨rfl, rfl⟩)
        go_ret
        exact resB_no HN.out (HB.out.trans (Below.mono (B := wr.heap.size) (by repeat (first | exact Below.refl _ _ | refine Below.drew ?_ | refine Below.setCell ?_ (by first | omega | (simp; done) | (simp; omega)) _ | refine Below.alloc ?_ (by first | omega | (simp; done) | (simp; omega)) _)) hsz))
      | true =>
      have HQ := Lib.hid hq
      have hs := fun W => state_impl st W
      rw [hq] at hs
      clear hq
      by_cases h4 : M.length ≤ 4
      rotate_left
      · have HN := Lib.hid (show ¬ NdsR L from fun h => h4 (nodesR_at h HX.out).2.1)
        have hd : decide ((4 : Int) < (M.length : Int)) = true := decide_eq_true (by omega)
        go_wp2_with (go_at_call 110; refine (hs _).mono ?_; rintro e w' ⟨rfl, rfl⟩)
        go_ret
        exact resB_no HN.out (HB.out.trans (Below.mono (B := wr.heap.size) (by repeat (first | exact Below.refl _ _ | refine Below.drew ?_ | refine Below.setCell ?_ (by first | omega | (simp; done) | (simp; omega)) _ | refine Below.alloc ?_ (by first | omega | (simp; done) | (simp; omega)) _)) hsz))
      have hd : decide ((4 : Int) < (M.length : Int)) = false := decide_eq_false (by omega)
      go_wp2_with (first | (go_at_call 110; refine (hs _).mono ?_; rintro e w' ⟨rfl, rfl⟩) | fail)
      refine (spans_impl ba M.length bc (gt M) _ (by omega) (pa_of (mv_rd R_Span_ok HM.out (w' := _) (by repeat (first | exact Below.refl _ _ | refine Below.drew ?_ | refine Below.setCell ?_ (by first | omega | (simp; done) | (simp; omega)) _ | refine Below.alloc ?_ (by first | omega | (simp; done) | (simp; omega)) _))) (Nat.le_refl _))).mono ?_
      intro e w5 h
      obtain ⟨z, rfl, hz, hb⟩ := resB_elim h
      have HZ := Lib.hid hz
      have HB5 := Lib.hid ((HB.out.trans (Below.mono (B := wr.heap.size) (by repeat (first | exact Below.refl _ _ | refine Below.drew ?_ | refine Below.setCell ?_ (by first | omega | (simp; done) | (simp; omega)) _ | refine Below.alloc ?_ (by first | omega | (simp; done) | (simp; omega)) _)) hsz)).trans (hb.mono (by simp; omega)))
      clear h hz hb hs hd
      cases z with
      | false =>
        have HN := Lib.hid (show ¬ NdsR L from fun h => by have := HZ.out.2 (nodesR_at h HX.out).2.2; cases this)
        go_wp2
        go_ret
        exact resB_no HN.out HB5.out
      | true =>
        have HO2 := Lib.hid (okTo_step HO.out HX.out ⟨HQ.out, h4, HZ.out.1 rfl⟩)
        go_wp2
        go_roundw
        case rel => exact ⟨k + 1, by omega, by go_num, HO2, HB5.out⟩
        case measure => simp [intOf]; omega
    · have hdl : decide ((k : Int) < (L.length : Int)) = false := decide_eq_false (by omega)
      obtain rfl : k = L.length := by omega
      have HY := Lib.hid (nodesR_all h1 h6 HO.out)
      clear hB
      go_wp2
      go_ret
      exact resB_yes HY.out HB.out
end Go.Proofs.YtelhmacfljffhabGreat.RepC
end
section
namespace Go.Proofs.YtelhmacfljffhabGreat.RepC
open Go.RowKit RowC ValC SpanC KeptC CfC
set_option linter.unusedVariables false
set_option linter.unusedSimpArgs false
set_option maxRecDepth 100000 in
set_option maxHeartbeats 3200000 in
theorem quotaof_spec {C : List (List D_Label)} {P : List D_Pair} {Q : List D_Quota} {hf : Int} {ca pa qa : Option Addr} {cc pc qc : Nat} {l s : Int} {W : World} (hC : RdSl (Sl R_Label) W W.heap.size C ca cc) (hP : RdSl R_Pair W W.heap.size P pa pc) (hQ : RdSl R_Quota W W.heap.size Q qa qc) :
    Calls Tryz.prog 52 #[.agg #[.slice ca C.length cc, .slice pa P.length pc, .slice qa Q.length qc, .int .i64 hf], .agg #[.int .i64 l, .int .i64 s]] W (IsI (quotaV C P Q hf (l, s)) W) := by
  obtain ⟨M, hM⟩ : ∃ M, quotaV C P Q hf (l, s) = M := ⟨_, rfl⟩
  have HM := Lib.hid hM
  rw [hM]
  clear hM
  have hcn : C.length ≤ 9223372036854775807 := by have h1 := hC.1; have h2 := hC.2.1; unfold maxLen at h2; omega
  have hpn : P.length ≤ 9223372036854775807 := by have h1 := hP.1; have h2 := hP.2.1; unfold maxLen at h2; omega
  have hqn : Q.length ≤ 9223372036854775807 := by have h1 := hQ.1; have h2 := hQ.2.1; unfold maxLen at h2; omega
  obtain ⟨K, hK⟩ : ∃ K, labsV C P Q hf = K := ⟨_, rfl⟩
  have HKv := Lib.hid (show M = (by classical exact if (l, s) ∈ K then quotaIn Q (l, s) else 0) from by rw [← HM.out, ← hK]; rfl)
  have HK := Lib.hid hK
  clear hK
  obtain ⟨w0, hw0⟩ : ∃ w, w = (W.alloc (.cells #[.slice ca C.length cc, .slice pa P.length pc, .slice qa Q.length qc, .int .i64 hf] 40)).alloc (.cells #[.int .i64 l, .int .i64 s] 47) := ⟨_, rfl⟩
  have hb0 : Below W.heap.size W w0 := by rw [hw0]; exact ((Below.refl _ _).alloc (Nat.le_refl _) _).alloc (by simp) _
  have x0 : Blk w0 (W.heap.size) 40 #[.slice ca C.length cc, .slice pa P.length pc, .slice qa Q.length qc, .int .i64 hf] := by
    have h9 := Blk.new W 40 #[.slice ca C.length cc, .slice pa P.length pc, .slice qa Q.length qc, .int .i64 hf]
    try simp only [World.size_alloc] at h9
    rw [hw0]; exact (h9.alloc _)
  have X0 := Lib.hid x0
  have x1 : Blk w0 (W.heap.size + 1) 47 #[.int .i64 l, .int .i64 s] := by
    have h9 := Blk.new (W.alloc (.cells #[.slice ca C.length cc, .slice pa P.length pc, .slice qa Q.length qc, .int .i64 hf] 40)) 47 #[.int .i64 l, .int .i64 s]
    try simp only [World.size_alloc] at h9
    rw [hw0]; exact h9
  have X1 := Lib.hid x1
  have HC := Lib.hid (rd_mv (Sl_ok R_Label_ok) hC hb0)
  have HP := Lib.hid (rd_mv R_Pair_ok hP hb0)
  have HQ := Lib.hid (rd_mv R_Quota_ok hQ hb0)
  have HB0 := Lib.hid hb0
  have hz0 := hb0.size
  clear hb0 hC hP hQ x0 x1
  go_enter Tryz.func52, Tryz.ntmps52
  go_wp2_with fail
  rw [← hw0]
  clear hw0
  refine wp_region_held_drew (S := (fun V => Below (w0).heap.size (w0) V)) (by kernel_rfl) ((Below.refl _ _).drew) (fun hHeld => ?_)
  refine tk 0 hHeld ?_ (hy := fun w hSw => by (try dsimp only at hSw); have k0 := (hSw.cell (p := ⟨W.heap.size, 0, none⟩) X0.out.lt).trans (X0.out.at_ 0 rfl); have k1 := (hSw.cell (p := ⟨W.heap.size, 1, none⟩) X0.out.lt).trans (X0.out.at_ 1 rfl); have k2 := (hSw.cell (p := ⟨W.heap.size, 2, none⟩) X0.out.lt).trans (X0.out.at_ 2 rfl); have k3 := (hSw.cell (p := ⟨W.heap.size, 3, none⟩) X0.out.lt).trans (X0.out.at_ 3 rfl); clear hSw; go_simp; try with_reducible rfl)
  refine tk 2 hHeld ?_ (hy := fun w hSw => by (try dsimp only at hSw); have k0 := (hSw.cell (p := ⟨W.heap.size + 1, 0, none⟩) X1.out.lt).trans (X1.out.at_ 0 rfl); have k1 := (hSw.cell (p := ⟨W.heap.size + 1, 1, none⟩) X1.out.lt).trans (X1.out.at_ 1 rfl); clear hSw; go_simp; try with_reducible rfl)
  refine rd1 1 (fun K hK => ?_)
  go_simp
  go_at_call 96
  have hlo := labelsof_spec (hf := hf) (rd_mv (Sl_ok R_Label_ok) HC.out hHeld) (rd_mv R_Pair_ok HP.out hHeld) (rd_mv R_Quota_ok HQ.out hHeld)
  rw [HK.out] at hlo
  refine hlo.mono ?_
  intro e w2 h
  obtain ⟨la, lc, rfl, ho, hb⟩ := newS_elim h
  have HL := Lib.hid (ho.rd R_Label_ok (B := w2.heap.size) fun k hk => hk.2)
  clear h ho hlo
  refine hK.out _ _ (hHeld.trans (hb.mono hHeld.size)) (fun hHeld => ?_)
  clear hK K hb
  refine rd1 3 (fun K hK => ?_)
  go_simp
  go_at_call 50
  refine (cleared_spec HL.out).mono ?_
  intro e w3 h
  obtain ⟨q, rfl, hq2, hb⟩ := resB_elim h
  have HQq := Lib.hid hq2
  clear h hq2
  refine hK.out _ _ (hHeld.trans (hb.mono hHeld.size)) (fun hHeld => ?_)
  clear hK K hb
  refine tk 4 hHeld ?_
  refine rd0 ?_
  have HF := Lib.hid hHeld
  clear hHeld
  have HB1 := Lib.hid (HB0.out.trans (HF.out.mono hz0))
  have Z0 := Lib.hid (X0.out.call HF.out)
  have Z1 := Lib.hid (X1.out.call HF.out)
  have HQ2 := Lib.hid (rd_mv R_Quota_ok HQ.out HF.out)
  have hz1 := HB1.out.size
  clear HF
  rcases mem_cases q HQq.out with ⟨hq, hm⟩ | ⟨hq, hm⟩
  rotate_left
  · have HE := Lib.hid (show M = 0 from by rw [HKv.out]; exact if_neg hm)
    obtain rfl := HE.out
    clear hm
    subst hq
    go_wp2
    go_ret
    exact ⟨rfl, HB1.out⟩
  have HE := Lib.hid (show M = quotaIn Q (l, s) from by rw [HKv.out]; exact if_pos hm)
  clear hm
  subst hq
  have p2 := Z0.out.at_ 2 rfl
  go_wp2
  go_loopw [5] (fun i wr => ∃ k : Nat, k ≤ Q.length ∧ i = .int .i64 k ∧ Hid (∀ (j : Nat) y, j < k → Q[j]? = some y → y.1 ≠ (l, s)) ∧ Below w3.heap.size w3 wr) (fun i _ => Q.length - (intOf i).toNat)
  case atStart => exact ⟨0, Nat.zero_le _, rfl, Lib.hid fun j y h => absurd h (Nat.not_lt_zero _), Below.refl _ _⟩
  case round =>
    obtain ⟨k, hk, rfl, HA, hB⟩ := hrel
    obtain ⟨wo, rfl⟩ : ∃ x, x = wr := ⟨_, rfl⟩
    have HB := Lib.hid hB
    have hsz := hB.size
    have Y0 := Lib.hid (Z0.out.call hB)
    have Y1 := Lib.hid (Z1.out.call hB)
    have q2 := Y0.out.at_ 2 rfl
    by_cases hlt : k < Q.length
    · have hdl : decide ((k : Int) < (Q.length : Int)) = true := decide_eq_true (by omega)
      obtain ⟨⟨⟨x0, x1⟩, x2⟩, hx⟩ := el_some hlt
      have HX := Lib.hid hx
      obtain ⟨g, o, us, rfl, hg, hu, hr⟩ := (rd_mv R_Quota_ok HQ2.out hB).at_ hx
      obtain rfl := rd_Quota hr
      have e0 : wo.cell? ⟨g, o + k * 3, none⟩ = some (.int .i64 x0) := by simpa [size_QuotaS, Nat.add_assoc] using hu 0 _ rfl
      have e1 : wo.cell? ⟨g, o + k * 3 + 1, none⟩ = some (.int .i64 x1) := by simpa [size_QuotaS, Nat.add_assoc] using hu 1 _ rfl
      have e2 : wo.cell? ⟨g, o + k * 3 + 2, none⟩ = some (.int .i64 x2) := by simpa [size_QuotaS, Nat.add_assoc] using hu 2 _ rfl
      have HG := Lib.hid hg
      have hi0 : (0 : Int) ≤ (k : Int) := Int.natCast_nonneg _
      have hi1 : (k : Int) < (Q.length : Int) := by omega
      obtain ⟨b, hb⟩ : ∃ b, decide (((x0, x1) : Int × Int) = (l, s)) = b := ⟨_, rfl⟩
      have hE := eql_lab x0 x1 l s b hb
      have HBE := Lib.hid hb
      clear hB hx hu hr hg hb p2
      cases b with
      | false =>
        have HA2 := Lib.hid (show ∀ (j : Nat) y, j < k + 1 → Q[j]? = some y → y.1 ≠ (l, s) from fun j y hj hy => by
          by_cases e : j = k
          · subst e; rw [HX.out] at hy; obtain rfl := Option.some.inj hy
            exact of_decide_eq_false HBE.out
          · exact HA.out j y (by omega) hy)
        go_wp2_with fail
        refine wp_region_held_drew (S := (fun V => Below (wo).heap.size (wo) V)) (by kernel_rfl) ((Below.refl _ _).drew) (fun hHeld => ?_)
        refine tk 0 hHeld ?_
        refine tk 1 hHeld ?_ (hy := fun w hSw => by (try dsimp only at hSw); have k0 := (hSw.cell (p := ⟨W.heap.size, 2, none⟩) Y0.out.lt).trans (Y0.out.at_ 2 rfl); clear hSw; go_simp; try with_reducible rfl)
        refine tk 2 hHeld ?_
        refine tk 3 hHeld ?_
        refine tk 4 hHeld ?_
        refine tk 5 hHeld ?_ (hy := fun w hSw => by (try dsimp only at hSw); have k0 := (hSw.cell (p := ⟨g, o + k * 3, none⟩) HG.out).trans e0; have k1 := (hSw.cell (p := ⟨g, o + k * 3 + 1, none⟩) HG.out).trans e1; clear hSw; go_simp; try with_reducible rfl)
        refine tk 6 hHeld ?_ (hy := fun w hSw => by (try dsimp only at hSw); have k0 := (hSw.cell (p := ⟨W.heap.size + 1, 0, none⟩) Y1.out.lt).trans (Y1.out.at_ 0 rfl); have k1 := (hSw.cell (p := ⟨W.heap.size + 1, 1, none⟩) Y1.out.lt).trans (Y1.out.at_ 1 rfl); clear hSw; go_simp; try with_reducible rfl)
        refine tk 7 hHeld ?_
        refine rd0 ?_
        have HF := Lib.hid hHeld
        clear hHeld
        have HB3 := Lib.hid (HB.out.trans (HF.out.mono hsz))
        clear HF e0 e1 e2 q2
        go_wp2
        go_roundw
        case rel => exact ⟨k + 1, by omega, by go_num, HA2, HB3.out⟩
        case measure => simp [intOf]; omega
      | true =>
        have HV := Lib.hid (show M = x2 from by rw [HE.out]; exact quotaIn_hit HX.out (of_decide_eq_true HBE.out) HA.out)
        obtain rfl := HV.out
        go_wp2_with fail
        refine wp_region_held_drew (S := (fun V => Below (wo).heap.size (wo) V)) (by kernel_rfl) ((Below.refl _ _).drew) (fun hHeld => ?_)
        refine tk 0 hHeld ?_
        refine tk 1 hHeld ?_ (hy := fun w hSw => by (try dsimp only at hSw); have k0 := (hSw.cell (p := ⟨W.heap.size, 2, none⟩) Y0.out.lt).trans (Y0.out.at_ 2 rfl); clear hSw; go_simp; try with_reducible rfl)
        refine tk 2 hHeld ?_
        refine tk 3 hHeld ?_
        refine tk 4 hHeld ?_
        refine tk 5 hHeld ?_ (hy := fun w hSw => by (try dsimp only at hSw); have k0 := (hSw.cell (p := ⟨g, o + k * 3, none⟩) HG.out).trans e0; have k1 := (hSw.cell (p := ⟨g, o + k * 3 + 1, none⟩) HG.out).trans e1; clear hSw; go_simp; try with_reducible rfl)
        refine tk 6 hHeld ?_ (hy := fun w hSw => by (try dsimp only at hSw); have k0 := (hSw.cell (p := ⟨W.heap.size + 1, 0, none⟩) Y1.out.lt).trans (Y1.out.at_ 0 rfl); have k1 := (hSw.cell (p := ⟨W.heap.size + 1, 1, none⟩) Y1.out.lt).trans (Y1.out.at_ 1 rfl); clear hSw; go_simp; try with_reducible rfl)
        refine tk 7 hHeld ?_
        refine rd0 ?_
        have HF := Lib.hid hHeld
        clear hHeld
        have HB3 := Lib.hid (HB.out.trans (HF.out.mono hsz))
        have r2 := (HF.out.cell (p := ⟨W.heap.size, 2, none⟩) Y0.out.lt).trans q2
        have r5 := (HF.out.cell (p := ⟨g, o + k * 3 + 2, none⟩) HG.out).trans e2
        clear HF e0 e1 e2 q2
        obtain ⟨w9, hw9⟩ : ∃ w, w = wo.drew := ⟨_, rfl⟩
        rw [← hw9] at HB3 r2 r5
        rw [← hw9]
        clear hw9
        go_wp2
        go_ret
        exact ⟨rfl, HB1.out.trans (HB3.out.mono hz1)⟩
    · have hdl : decide ((k : Int) < (Q.length : Int)) = false := decide_eq_false (by omega)
      have HV := Lib.hid (show M = 6 from by rw [HE.out]; exact quotaIn_none fun j y hy => HA.out j y (by have := el_lt hy; omega) hy)
      obtain rfl := HV.out
      clear hB
      go_wp2
      go_ret
      exact ⟨rfl, HB1.out.trans (HB.out.mono hz1)⟩
end Go.Proofs.YtelhmacfljffhabGreat.RepC
end
section
namespace Go.Proofs.YtelhmacfljffhabGreat.RepC
open Go.RowKit RowC ValC
set_option linter.unusedVariables false
set_option linter.unusedSimpArgs false
def zs_BoolS (n : Nat) : Array Value := madeCells #[.bool false] (n * 1)
theorem make_BoolS (n : Nat) (hn : n ≤ 1048576) : ∀ W : World, (Instr.makeSlice 108 (.int .i64 (n : Int)) (.int .i64 (n : Int))).run Tryz.prog W = .ok (.slice (some ⟨W.heap.size, 0, none⟩) n n) (W.alloc (.cells (zs_BoolS n) 4)) := by
  intro W
  obtain ⟨i, hi, hz, hs, hb⟩ : ∃ i, Tryz.prog.info? 4 = some i ∧ i.zero = some (.bool false) ∧ i.size = 1 ∧ i.bytes = 1 := by
    have h : (Tryz.prog.info? 4).map (fun i => (i.zero, i.size, i.bytes)) = some (some (.bool false), 1, 1) := by kernel_rfl
    cases hx : Tryz.prog.info? 4 with
    | none => rw [hx] at h; simp at h
    | some i => rw [hx] at h; simp at h; exact ⟨i, rfl, h.1, h.2.1, h.2.2⟩
  have hr := run_make (P := Tryz.prog) W 108 4 i _ Tryz.underlying108 hi hz .i64 .i64 n n (by omega) (by omega) (by rw [hb]; omega) (by omega)
  rw [hs] at hr
  simp only [Int.toNat_natCast] at hr
  exact hr
end Go.Proofs.YtelhmacfljffhabGreat.RepC
end
