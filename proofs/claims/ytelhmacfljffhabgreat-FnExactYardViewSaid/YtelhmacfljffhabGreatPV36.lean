/- Of this claim's texts the part 36: UsR1. -/
import Derived.Test.YtelhmacfljffhabGreatPV0
import Derived.Test.YtelhmacfljffhabGreatPV1
import Derived.Test.YtelhmacfljffhabGreatPV4
import Derived.Test.YtelhmacfljffhabGreatPV5
import Derived.Test.YtelhmacfljffhabGreatPV8
import Derived.Test.YtelhmacfljffhabGreatPV9
import Derived.Test.YtelhmacfljffhabGreatPV12
import Derived.Test.YtelhmacfljffhabGreatPV17
import Derived.Test.YtelhmacfljffhabGreatPV18
section
namespace Go.Proofs.YtelhmacfljffhabGreat.RepC
open Go.RowKit RowC ValC SpanC KeptC NameC
set_option linter.unusedVariables false
set_option linter.unusedSimpArgs false
theorem us_len {α : Type} {E : Rp α} {L : List α} {W : World} {B : Nat} {a : Option Addr} {cap : Nat} (h : RdSl E W B L a cap) : L.length ≤ 9223372036854775807 := by
  have h1 := h.1; have h2 := h.2.1; unfold maxLen at h2; omega
theorem not_uses {L : List D_Use} {k : Nat} {x : D_Use} (hx : L[k]? = some x) (h : ¬ okAt L k x) : ¬ UsesR L := fun hr => h (hr.2 k x hx)
set_option maxRecDepth 100000 in
set_option maxHeartbeats 3200000 in
theorem uses_spec {L : List D_Use} {a : Option Addr} {cap : Nat} {W : World} (h : RdSl R_Use W W.heap.size L a cap) :
    Calls Tryz.prog 47 #[.slice a L.length cap] W (IsB (usesB L) W) := by
  refine Calls.mono ?_ fun e w' h => resB_is usesB_iff h
  have hn := us_len h
  have H := Lib.hid h
  clear h
  by_cases h48 : L.length ≤ 48
  rotate_left
  · have HN := Lib.hid (show ¬ UsesR L from fun h => h48 h.1)
    have hd : decide ((48 : Int) < (L.length : Int)) = true := decide_eq_true (by omega)
    go_enter Tryz.func47, Tryz.ntmps47
    go_wp2
    go_ret
    exact resB_no HN.out (Below.refl _ _)
  have hd : decide ((48 : Int) < (L.length : Int)) = false := decide_eq_false (by omega)
  go_enter Tryz.func47, Tryz.ntmps47
  go_wp2
  go_loopw [4, 3] (fun i q wr => ∃ k c : Nat, k ≤ L.length ∧ i = .int .i64 k ∧ q = .int .i64 c ∧ c ≤ 6 ∧ Hid (usTo L k ∧ runU L k c) ∧ Below W.heap.size W wr) (fun i _ _ => L.length - (intOf i).toNat)
  case atStart => exact ⟨0, 0, Nat.zero_le _, rfl, rfl, by omega, Lib.hid ⟨usTo_zero, runU_zero⟩, Below.refl _ _⟩
  case round =>
    obtain ⟨k, c, hk, rfl, rfl, hc6, HO, hB⟩ := hrel
    have HB := Lib.hid hB
    have hsz := hB.size
    by_cases hlt : k < L.length
    · skip
      obtain ⟨⟨⟨x0, x1⟩, x2, x3⟩, hx⟩ := el_some hlt
      have HX := Lib.hid hx
      obtain ⟨g, o, us, rfl, hg, hu, hr⟩ := (H.out.below R_Use_ok hB).at_ hx
      obtain ⟨rfl, b_x2⟩ := rd_Use hr
      have e0 : wr.cell? ⟨g, o + k * 4, none⟩ = some (.int .i64 x0) := by simpa [size_UseS, Nat.add_assoc] using hu 0 _ rfl
      have e1 : wr.cell? ⟨g, o + k * 4 + 1, none⟩ = some (.int .i64 x1) := by simpa [size_UseS, Nat.add_assoc] using hu 1 _ rfl
      have e2 : wr.cell? ⟨g, o + k * 4 + 2, none⟩ = some (.string x2) := by simpa [size_UseS, Nat.add_assoc] using hu 2 _ rfl
      have e3 : wr.cell? ⟨g, o + k * 4 + 3, none⟩ = some (.int .i64 x3) := by simpa [size_UseS, Nat.add_assoc] using hu 3 _ rfl
      have hi0 : (0 : Int) ≤ (k : Int) := Int.natCast_nonneg _
      have hi1 : (k : Int) < (L.length : Int) := by omega
      have hgl : g < wr.heap.size := Nat.lt_of_lt_of_le hg hsz
      have HA := Lib.hid ((H.out.below R_Use_ok hB))
      clear hu hr hg hB hx
      have hL := fun V => LabC.rs_w x0 x1 V
      have hN := fun V => ns_w x2 b_x2 V
      have hI := fun V => is_w x3 1 100000 V
      cases h1 : LabC.rB x0 x1 with
      | false =>
        rw [h1] at hL
        have HN := Lib.hid (not_uses HX.out fun h => by have := h.1.1; simp only [h1] at this; cases this)
        clear h1
        go_wp2_with fail
        refine wp_region_held_drew (S := (fun V => Below (wr).heap.size (wr) V)) (by kernel_rfl) ((Below.refl _ _).drew) (fun hHeld => ?_)
        refine tk 0 hHeld ?_
        refine tk 1 hHeld ?_
        refine tk 2 hHeld ?_
        refine tk 3 hHeld ?_
        refine tk 4 hHeld ?_ (hy := fun w hSw => by (try dsimp only at hSw); have k0 := (hSw.cell (p := ⟨g, o + k * 4, none⟩) hgl).trans e0; have k1 := (hSw.cell (p := ⟨g, o + k * 4 + 1, none⟩) hgl).trans e1; clear hSw; go_simp; try with_reducible rfl)
        refine rd1 5 (fun K hK => ?_)
        go_simp
        go_at_call 15
        refine (hL _).mono ?_
        rintro e w1 ⟨rfl, hb⟩
        refine hK.out _ _ (hHeld.trans (hb.mono hHeld.size)) (fun hHeld => ?_)
        clear hK K hb
        refine tk 6 hHeld ?_
        refine tk 7 hHeld ?_
        refine tn 8 hHeld ?_
        refine tn 9 hHeld ?_
        refine tn 10 hHeld ?_
        refine tn 11 hHeld ?_
        refine tn 12 hHeld ?_
        refine tn 13 hHeld ?_
        refine tn 14 hHeld ?_
        refine tk 15 hHeld ?_
        refine tk 16 hHeld ?_
        refine tn 17 hHeld ?_
        refine tn 18 hHeld ?_
        refine tn 19 hHeld ?_
        refine tn 20 hHeld ?_
        refine tn 21 hHeld ?_
        refine tn 22 hHeld ?_
        refine tn 23 hHeld ?_
        refine tk 24 hHeld ?_
        refine tk 25 hHeld ?_
        refine tn 26 hHeld ?_
        refine tn 27 hHeld ?_
        refine tn 28 hHeld ?_
        refine tn 29 hHeld ?_
        refine tn 30 hHeld ?_
        refine tn 31 hHeld ?_
        refine tn 32 hHeld ?_
        refine tn 33 hHeld ?_
        refine tn 34 hHeld ?_
        refine tn 35 hHeld ?_
        refine tn 36 hHeld ?_
        refine tn 37 hHeld ?_
        refine tn 38 hHeld ?_
        refine tn 39 hHeld ?_
        refine tn 40 hHeld ?_
        refine tk 41 hHeld ?_
        refine rd0 ?_
        have HF := Lib.hid hHeld
        clear hHeld
        have HB2 := Lib.hid (HB.out.trans (HF.out.mono hsz))
        go_wp2
        go_ret
        exact resB_no HN.out HB2.out
      | true =>
      rw [h1] at hL
      have H1 := Lib.hid h1
      clear h1
      cases h2 : nameB x2 with
      | false =>
        rw [h2] at hN
        have HN := Lib.hid (not_uses HX.out fun h => by have := nameB_iff.2 h.1.2.1; simp only [h2] at this; cases this)
        clear h2
        go_wp2_with fail
        refine wp_region_held_drew (S := (fun V => Below (wr).heap.size (wr) V)) (by kernel_rfl) ((Below.refl _ _).drew) (fun hHeld => ?_)
        refine tk 0 hHeld ?_
        refine tk 1 hHeld ?_
        refine tk 2 hHeld ?_
        refine tk 3 hHeld ?_
        refine tk 4 hHeld ?_ (hy := fun w hSw => by (try dsimp only at hSw); have k0 := (hSw.cell (p := ⟨g, o + k * 4, none⟩) hgl).trans e0; have k1 := (hSw.cell (p := ⟨g, o + k * 4 + 1, none⟩) hgl).trans e1; clear hSw; go_simp; try with_reducible rfl)
        refine rd1 5 (fun K hK => ?_)
        go_simp
        go_at_call 15
        refine (hL _).mono ?_
        rintro e w1 ⟨rfl, hb⟩
        refine hK.out _ _ (hHeld.trans (hb.mono hHeld.size)) (fun hHeld => ?_)
        clear hK K hb
        refine tk 6 hHeld ?_
        refine tk 7 hHeld ?_
        refine tk 8 hHeld ?_
        refine tk 9 hHeld ?_
        refine tk 10 hHeld ?_
        refine tk 11 hHeld ?_
        refine tk 12 hHeld ?_ (hy := fun w hSw => by (try dsimp only at hSw); have k0 := (hSw.cell (p := ⟨g, o + k * 4 + 2, none⟩) hgl).trans e2; clear hSw; go_simp; try with_reducible rfl)
        refine rd1 13 (fun K hK => ?_)
        go_simp
        go_at_call 91
        refine (hN _).mono ?_
        rintro e w2 ⟨rfl, hb⟩
        refine hK.out _ _ (hHeld.trans (hb.mono hHeld.size)) (fun hHeld => ?_)
        clear hK K hb
        refine tk 14 hHeld ?_
        refine tk 15 hHeld ?_
        refine tk 16 hHeld ?_
        refine tn 17 hHeld ?_
        refine tn 18 hHeld ?_
        refine tn 19 hHeld ?_
        refine tn 20 hHeld ?_
        refine tn 21 hHeld ?_
        refine tn 22 hHeld ?_
        refine tn 23 hHeld ?_
        refine tk 24 hHeld ?_
        refine tk 25 hHeld ?_
        refine tn 26 hHeld ?_
        refine tn 27 hHeld ?_
        refine tn 28 hHeld ?_
        refine tn 29 hHeld ?_
        refine tn 30 hHeld ?_
        refine tn 31 hHeld ?_
        refine tn 32 hHeld ?_
        refine tn 33 hHeld ?_
        refine tn 34 hHeld ?_
        refine tn 35 hHeld ?_
        refine tn 36 hHeld ?_
        refine tn 37 hHeld ?_
        refine tn 38 hHeld ?_
        refine tn 39 hHeld ?_
        refine tn 40 hHeld ?_
        refine tk 41 hHeld ?_
        refine rd0 ?_
        have HF := Lib.hid hHeld
        clear hHeld
        have HB2 := Lib.hid (HB.out.trans (HF.out.mono hsz))
        go_wp2
        go_ret
        exact resB_no HN.out HB2.out
      | true =>
      rw [h2] at hN
      have H2 := Lib.hid (nameB_iff.1 h2)
      clear h2
      cases h3 : isB x3 1 100000 with
      | false =>
        rw [h3] at hI
        have HN := Lib.hid (not_uses HX.out fun h => by have := h.1.2.2; simp only [h3] at this; cases this)
        clear h3
        go_wp2_with fail
        refine wp_region_held_drew (S := (fun V => Below (wr).heap.size (wr) V)) (by kernel_rfl) ((Below.refl _ _).drew) (fun hHeld => ?_)
        refine tk 0 hHeld ?_
        refine tk 1 hHeld ?_
        refine tk 2 hHeld ?_
        refine tk 3 hHeld ?_
        refine tk 4 hHeld ?_ (hy := fun w hSw => by (try dsimp only at hSw); have k0 := (hSw.cell (p := ⟨g, o + k * 4, none⟩) hgl).trans e0; have k1 := (hSw.cell (p := ⟨g, o + k * 4 + 1, none⟩) hgl).trans e1; clear hSw; go_simp; try with_reducible rfl)
        refine rd1 5 (fun K hK => ?_)
        go_simp
        go_at_call 15
        refine (hL _).mono ?_
        rintro e w1 ⟨rfl, hb⟩
        refine hK.out _ _ (hHeld.trans (hb.mono hHeld.size)) (fun hHeld => ?_)
        clear hK K hb
        refine tk 6 hHeld ?_
        refine tk 7 hHeld ?_
        refine tk 8 hHeld ?_
        refine tk 9 hHeld ?_
        refine tk 10 hHeld ?_
        refine tk 11 hHeld ?_
        refine tk 12 hHeld ?_ (hy := fun w hSw => by (try dsimp only at hSw); have k0 := (hSw.cell (p := ⟨g, o + k * 4 + 2, none⟩) hgl).trans e2; clear hSw; go_simp; try with_reducible rfl)
        refine rd1 13 (fun K hK => ?_)
        go_simp
        go_at_call 91
        refine (hN _).mono ?_
        rintro e w2 ⟨rfl, hb⟩
        refine hK.out _ _ (hHeld.trans (hb.mono hHeld.size)) (fun hHeld => ?_)
        clear hK K hb
        refine tk 14 hHeld ?_
        refine tk 15 hHeld ?_
        refine tk 16 hHeld ?_
        refine tk 17 hHeld ?_
        refine tk 18 hHeld ?_
        refine tk 19 hHeld ?_
        refine tk 20 hHeld ?_
        refine tk 21 hHeld ?_ (hy := fun w hSw => by (try dsimp only at hSw); have k0 := (hSw.cell (p := ⟨g, o + k * 4 + 3, none⟩) hgl).trans e3; clear hSw; go_simp; try with_reducible rfl)
        refine rd1 22 (fun K hK => ?_)
        go_simp
        go_at_call 53
        refine (hI _).mono ?_
        rintro e w3 ⟨rfl, hb⟩
        refine hK.out _ _ (hHeld.trans (hb.mono hHeld.size)) (fun hHeld => ?_)
        clear hK K hb
        refine tk 23 hHeld ?_
        refine tk 24 hHeld ?_
        refine tk 25 hHeld ?_
        refine tn 26 hHeld ?_
        refine tn 27 hHeld ?_
        refine tn 28 hHeld ?_
        refine tn 29 hHeld ?_
        refine tn 30 hHeld ?_
        refine tn 31 hHeld ?_
        refine tn 32 hHeld ?_
        refine tn 33 hHeld ?_
        refine tn 34 hHeld ?_
        refine tn 35 hHeld ?_
        refine tn 36 hHeld ?_
        refine tn 37 hHeld ?_
        refine tn 38 hHeld ?_
        refine tn 39 hHeld ?_
        refine tn 40 hHeld ?_
        refine tk 41 hHeld ?_
        refine rd0 ?_
        have HF := Lib.hid hHeld
        clear hHeld
        have HB2 := Lib.hid (HB.out.trans (HF.out.mono hsz))
        go_wp2
        go_ret
        exact resB_no HN.out HB2.out
      | true =>
      rw [h3] at hI
      have HOK := Lib.hid (show okU ((x0, x1), x2, x3) from ⟨H1.out, H2.out, h3⟩)
      clear h3
      by_cases hk0 : k = 0
      · have hkp : ¬ 0 < k := by omega
        have hd0 : decide ((0 : Int) < (k : Int)) = false := decide_eq_false (by omega)
        have HS := Lib.hid (usTo_step HO.out.1 HX.out ⟨HOK.out, fun y h => by omega, fun y h => by omega⟩)
        have HR := Lib.hid (runU_new HX.out fun y h => by omega)
        clear hk0
        go_wp2_with fail
        refine wp_region_held_drew (S := (fun V => Below (wr).heap.size (wr) V)) (by kernel_rfl) ((Below.refl _ _).drew) (fun hHeld => ?_)
        refine tk 0 hHeld ?_
        refine tk 1 hHeld ?_
        refine tk 2 hHeld ?_
        refine tk 3 hHeld ?_
        refine tk 4 hHeld ?_ (hy := fun w hSw => by (try dsimp only at hSw); have k0 := (hSw.cell (p := ⟨g, o + k * 4, none⟩) hgl).trans e0; have k1 := (hSw.cell (p := ⟨g, o + k * 4 + 1, none⟩) hgl).trans e1; clear hSw; go_simp; try with_reducible rfl)
        refine rd1 5 (fun K hK => ?_)
        go_simp
        go_at_call 15
        refine (hL _).mono ?_
        rintro e w1 ⟨rfl, hb⟩
        refine hK.out _ _ (hHeld.trans (hb.mono hHeld.size)) (fun hHeld => ?_)
        clear hK K hb
        refine tk 6 hHeld ?_
        refine tk 7 hHeld ?_
        refine tk 8 hHeld ?_
        refine tk 9 hHeld ?_
        refine tk 10 hHeld ?_
        refine tk 11 hHeld ?_
        refine tk 12 hHeld ?_ (hy := fun w hSw => by (try dsimp only at hSw); have k0 := (hSw.cell (p := ⟨g, o + k * 4 + 2, none⟩) hgl).trans e2; clear hSw; go_simp; try with_reducible rfl)
        refine rd1 13 (fun K hK => ?_)
        go_simp
        go_at_call 91
        refine (hN _).mono ?_
        rintro e w2 ⟨rfl, hb⟩
        refine hK.out _ _ (hHeld.trans (hb.mono hHeld.size)) (fun hHeld => ?_)
        clear hK K hb
        refine tk 14 hHeld ?_
        refine tk 15 hHeld ?_
        refine tk 16 hHeld ?_
        refine tk 17 hHeld ?_
        refine tk 18 hHeld ?_
        refine tk 19 hHeld ?_
        refine tk 20 hHeld ?_
        refine tk 21 hHeld ?_ (hy := fun w hSw => by (try dsimp only at hSw); have k0 := (hSw.cell (p := ⟨g, o + k * 4 + 3, none⟩) hgl).trans e3; clear hSw; go_simp; try with_reducible rfl)
        refine rd1 22 (fun K hK => ?_)
        go_simp
        go_at_call 53
        refine (hI _).mono ?_
        rintro e w3 ⟨rfl, hb⟩
        refine hK.out _ _ (hHeld.trans (hb.mono hHeld.size)) (fun hHeld => ?_)
        clear hK K hb
        refine tk 23 hHeld ?_
        refine tk 24 hHeld ?_
        refine tk 25 hHeld ?_
        refine tk 26 hHeld ?_
        refine tk 27 hHeld ?_
        refine tk 28 hHeld ?_
        refine tn 29 hHeld ?_
        refine tn 30 hHeld ?_
        refine tn 31 hHeld ?_
        refine tn 32 hHeld ?_
        refine tn 33 hHeld ?_
        refine tn 34 hHeld ?_
        refine tn 35 hHeld ?_
        refine tn 36 hHeld ?_
        refine tn 37 hHeld ?_
        refine tn 38 hHeld ?_
        refine tn 39 hHeld ?_
        refine tk 40 hHeld ?_
        refine tk 41 hHeld ?_
        refine rd0 ?_
        have HF := Lib.hid hHeld
        clear hHeld
        have HB2 := Lib.hid (HB.out.trans (HF.out.mono hsz))
        go_wp2_with fail
        go_quiet (fail)
        all_goals
          go_wp2
          go_roundw
          case rel => exact ⟨k + 1, 1, by omega, by go_num, by go_num, by omega, Lib.hid ⟨HS.out, HR.out⟩, by first | exact HB2.out | exact HB2.out.drew | exact bdrewN HB2.out _⟩
          case measure => simp [intOf]; omega
      · have hkp : 0 < k := by omega
        have hd0 : decide ((0 : Int) < (k : Int)) = true := decide_eq_true (by omega)
        obtain ⟨j, hj⟩ : ∃ j, k = j + 1 := ⟨k - 1, by omega⟩
        have HJ := Lib.hid hj
        obtain ⟨⟨⟨y0, y1⟩, y2, y3⟩, hy⟩ := el_some (show j < L.length by omega)
        have HY := Lib.hid (show L[k - 1]? = some ((y0, y1), y2, y3) from by rw [hj, Nat.add_sub_cancel]; exact hy)
        obtain ⟨g', o', us', hgo, hg', hu', hr'⟩ := HA.out.at_ hy
        obtain ⟨rfl, rfl⟩ : g' = g ∧ o' = o := by cases hgo; exact ⟨rfl, rfl⟩
        obtain ⟨rfl, b_y2⟩ := rd_Use hr'
        have p0 : wr.cell? ⟨g', o' + j * 4, none⟩ = some (.int .i64 y0) := by simpa [size_UseS, Nat.add_assoc] using hu' 0 _ rfl
        have p1 : wr.cell? ⟨g', o' + j * 4 + 1, none⟩ = some (.int .i64 y1) := by simpa [size_UseS, Nat.add_assoc] using hu' 1 _ rfl
        have p2 : wr.cell? ⟨g', o' + j * 4 + 2, none⟩ = some (.string y2) := by simpa [size_UseS, Nat.add_assoc] using hu' 2 _ rfl
        have p3 : wr.cell? ⟨g', o' + j * 4 + 3, none⟩ = some (.int .i64 y3) := by simpa [size_UseS, Nat.add_assoc] using hu' 3 _ rfl
        have hjs : (k : Int) - 1 = (j : Int) := by omega
        have hj0 : (0 : Int) ≤ (j : Int) := Int.natCast_nonneg _
        have hj1 : (j : Int) < (L.length : Int) := by omega
        have hjw : IntKind.i64.wrap (j : Int) = (j : Int) := IntWalk.i64_in _ (by omega)
        have HRY := Lib.hid ((HO.out.1 (k - 1) _ (by omega) HY.out).1.1)
        have hZ := fun V => less_w (x2 := y2) (x3 := y3) (y2 := x2) (y3 := x3) HRY.out H1.out V
        clear hgo hg' hu' hr' hy hj hk0
        cases hz : lessB ((y0, y1), y2, y3) ((x0, x1), x2, x3) with
        | false =>
          rw [hz] at hZ
          have HN := Lib.hid (not_uses HX.out fun h => by have := (lessB_iff HRY.out H1.out).2 (h.2.1 _ (by have := HJ.out; omega) HY.out); rw [hz] at this; cases this)
          clear hz
          go_wp2_with fail
          refine wp_region_held_drew (S := (fun V => Below (wr).heap.size (wr) V)) (by kernel_rfl) ((Below.refl _ _).drew) (fun hHeld => ?_)
          refine tk 0 hHeld ?_
          refine tk 1 hHeld ?_
          refine tk 2 hHeld ?_
          refine tk 3 hHeld ?_
          refine tk 4 hHeld ?_ (hy := fun w hSw => by (try dsimp only at hSw); have k0 := (hSw.cell (p := ⟨g', o' + k * 4, none⟩) hgl).trans e0; have k1 := (hSw.cell (p := ⟨g', o' + k * 4 + 1, none⟩) hgl).trans e1; clear hSw; go_simp; try with_reducible rfl)
          refine rd1 5 (fun K hK => ?_)
          go_simp
          go_at_call 15
          refine (hL _).mono ?_
          rintro e w1 ⟨rfl, hb⟩
          refine hK.out _ _ (hHeld.trans (hb.mono hHeld.size)) (fun hHeld => ?_)
          clear hK K hb
          refine tk 6 hHeld ?_
          refine tk 7 hHeld ?_
          refine tk 8 hHeld ?_
          refine tk 9 hHeld ?_
          refine tk 10 hHeld ?_
          refine tk 11 hHeld ?_
          refine tk 12 hHeld ?_ (hy := fun w hSw => by (try dsimp only at hSw); have k0 := (hSw.cell (p := ⟨g', o' + k * 4 + 2, none⟩) hgl).trans e2; clear hSw; go_simp; try with_reducible rfl)
          refine rd1 13 (fun K hK => ?_)
          go_simp
          go_at_call 91
          refine (hN _).mono ?_
          rintro e w2 ⟨rfl, hb⟩
          refine hK.out _ _ (hHeld.trans (hb.mono hHeld.size)) (fun hHeld => ?_)
          clear hK K hb
          refine tk 14 hHeld ?_
          refine tk 15 hHeld ?_
          refine tk 16 hHeld ?_
          refine tk 17 hHeld ?_
          refine tk 18 hHeld ?_
          refine tk 19 hHeld ?_
          refine tk 20 hHeld ?_
          refine tk 21 hHeld ?_ (hy := fun w hSw => by (try dsimp only at hSw); have k0 := (hSw.cell (p := ⟨g', o' + k * 4 + 3, none⟩) hgl).trans e3; clear hSw; go_simp; try with_reducible rfl)
          refine rd1 22 (fun K hK => ?_)
          go_simp
          go_at_call 53
          refine (hI _).mono ?_
          rintro e w3 ⟨rfl, hb⟩
          refine hK.out _ _ (hHeld.trans (hb.mono hHeld.size)) (fun hHeld => ?_)
          clear hK K hb
          refine tk 23 hHeld ?_
          refine tk 24 hHeld ?_
          refine tk 25 hHeld ?_
          refine tk 26 hHeld ?_
          refine tk 27 hHeld ?_
          refine tk 28 hHeld ?_
          refine tk 29 hHeld ?_
          refine tk 30 hHeld ?_
          refine tk 31 hHeld ?_
          refine tk 32 hHeld ?_
          refine tk 33 hHeld ?_ (hy := fun w hSw => by (try dsimp only at hSw); have k0 := (hSw.cell (p := ⟨g', o' + j * 4, none⟩) hgl).trans p0; have k1 := (hSw.cell (p := ⟨g', o' + j * 4 + 1, none⟩) hgl).trans p1; have k2 := (hSw.cell (p := ⟨g', o' + j * 4 + 2, none⟩) hgl).trans p2; have k3 := (hSw.cell (p := ⟨g', o' + j * 4 + 3, none⟩) hgl).trans p3; clear hSw; go_simp; try with_reducible rfl)
          refine tk 34 hHeld ?_
          refine tk 35 hHeld ?_
          refine tk 36 hHeld ?_
          refine tk 37 hHeld ?_ (hy := fun w hSw => by (try dsimp only at hSw); have k0 := (hSw.cell (p := ⟨g', o' + k * 4, none⟩) hgl).trans e0; have k1 := (hSw.cell (p := ⟨g', o' + k * 4 + 1, none⟩) hgl).trans e1; have k2 := (hSw.cell (p := ⟨g', o' + k * 4 + 2, none⟩) hgl).trans e2; have k3 := (hSw.cell (p := ⟨g', o' + k * 4 + 3, none⟩) hgl).trans e3; clear hSw; go_simp; try with_reducible rfl)
          refine rd1 38 (fun K hK => ?_)
          go_simp
          go_at_call 92
          refine (hZ _).mono ?_
          rintro e w4 ⟨rfl, hb⟩
          refine hK.out _ _ (hHeld.trans (hb.mono hHeld.size)) (fun hHeld => ?_)
          clear hK K hb
          refine tk 39 hHeld ?_
          refine tk 40 hHeld ?_
          refine tk 41 hHeld ?_
          refine rd0 ?_
          have HF := Lib.hid hHeld
          clear hHeld
          have HB2 := Lib.hid (HB.out.trans (HF.out.mono hsz))
          go_wp2
          go_ret
          exact resB_no HN.out HB2.out
        | true =>
          rw [hz] at hZ
          have HLT := Lib.hid ((lessB_iff HRY.out H1.out).1 hz)
          clear hz
          obtain ⟨b, hb⟩ : ∃ b, decide (((y0, y1) : Int × Int) = (x0, x1)) = b := ⟨_, rfl⟩
          have hq := eql_lab y0 y1 x0 x1 b hb
          have HLU := Lib.hid (fun (u : D_Use) (_ : 0 < k) (hu : L[k - 1]? = some u) => show ltU u ((x0, x1), x2, x3) from by rw [HY.out] at hu; cases hu; exact HLT.out)
          go_wp2_with fail
          refine wp_region_held_drew (S := (fun V => Below (wr).heap.size (wr) V)) (by kernel_rfl) ((Below.refl _ _).drew) (fun hHeld => ?_)
          refine tk 0 hHeld ?_
          refine tk 1 hHeld ?_
          refine tk 2 hHeld ?_
          refine tk 3 hHeld ?_
          refine tk 4 hHeld ?_ (hy := fun w hSw => by (try dsimp only at hSw); have k0 := (hSw.cell (p := ⟨g', o' + k * 4, none⟩) hgl).trans e0; have k1 := (hSw.cell (p := ⟨g', o' + k * 4 + 1, none⟩) hgl).trans e1; clear hSw; go_simp; try with_reducible rfl)
          refine rd1 5 (fun K hK => ?_)
          go_simp
          go_at_call 15
          refine (hL _).mono ?_
          rintro e w1 ⟨rfl, hb⟩
          refine hK.out _ _ (hHeld.trans (hb.mono hHeld.size)) (fun hHeld => ?_)
          clear hK K hb
          refine tk 6 hHeld ?_
          refine tk 7 hHeld ?_
          refine tk 8 hHeld ?_
          refine tk 9 hHeld ?_
          refine tk 10 hHeld ?_
          refine tk 11 hHeld ?_
          refine tk 12 hHeld ?_ (hy := fun w hSw => by (try dsimp only at hSw); have k0 := (hSw.cell (p := ⟨g', o' + k * 4 + 2, none⟩) hgl).trans e2; clear hSw; go_simp; try with_reducible rfl)
          refine rd1 13 (fun K hK => ?_)
          go_simp
          go_at_call 91
          refine (hN _).mono ?_
          rintro e w2 ⟨rfl, hb⟩
          refine hK.out _ _ (hHeld.trans (hb.mono hHeld.size)) (fun hHeld => ?_)
          clear hK K hb
          refine tk 14 hHeld ?_
          refine tk 15 hHeld ?_
          refine tk 16 hHeld ?_
          refine tk 17 hHeld ?_
          refine tk 18 hHeld ?_
          refine tk 19 hHeld ?_
          refine tk 20 hHeld ?_
          refine tk 21 hHeld ?_ (hy := fun w hSw => by (try dsimp only at hSw); have k0 := (hSw.cell (p := ⟨g', o' + k * 4 + 3, none⟩) hgl).trans e3; clear hSw; go_simp; try with_reducible rfl)
          refine rd1 22 (fun K hK => ?_)
          go_simp
          go_at_call 53
          refine (hI _).mono ?_
          rintro e w3 ⟨rfl, hb⟩
          refine hK.out _ _ (hHeld.trans (hb.mono hHeld.size)) (fun hHeld => ?_)
          clear hK K hb
          refine tk 23 hHeld ?_
          refine tk 24 hHeld ?_
          refine tk 25 hHeld ?_
          refine tk 26 hHeld ?_
          refine tk 27 hHeld ?_
          refine tk 28 hHeld ?_
          refine tk 29 hHeld ?_
          refine tk 30 hHeld ?_
          refine tk 31 hHeld ?_
          refine tk 32 hHeld ?_
          refine tk 33 hHeld ?_ (hy := fun w hSw => by (try dsimp only at hSw); have k0 := (hSw.cell (p := ⟨g', o' + j * 4, none⟩) hgl).trans p0; have k1 := (hSw.cell (p := ⟨g', o' + j * 4 + 1, none⟩) hgl).trans p1; have k2 := (hSw.cell (p := ⟨g', o' + j * 4 + 2, none⟩) hgl).trans p2; have k3 := (hSw.cell (p := ⟨g', o' + j * 4 + 3, none⟩) hgl).trans p3; clear hSw; go_simp; try with_reducible rfl)
          refine tk 34 hHeld ?_
          refine tk 35 hHeld ?_
          refine tk 36 hHeld ?_
          refine tk 37 hHeld ?_ (hy := fun w hSw => by (try dsimp only at hSw); have k0 := (hSw.cell (p := ⟨g', o' + k * 4, none⟩) hgl).trans e0; have k1 := (hSw.cell (p := ⟨g', o' + k * 4 + 1, none⟩) hgl).trans e1; have k2 := (hSw.cell (p := ⟨g', o' + k * 4 + 2, none⟩) hgl).trans e2; have k3 := (hSw.cell (p := ⟨g', o' + k * 4 + 3, none⟩) hgl).trans e3; clear hSw; go_simp; try with_reducible rfl)
          refine rd1 38 (fun K hK => ?_)
          go_simp
          go_at_call 92
          refine (hZ _).mono ?_
          rintro e w4 ⟨rfl, hb⟩
          refine hK.out _ _ (hHeld.trans (hb.mono hHeld.size)) (fun hHeld => ?_)
          clear hK K hb
          refine tk 39 hHeld ?_
          refine tk 40 hHeld ?_
          refine tk 41 hHeld ?_
          refine rd0 ?_
          have HF := Lib.hid hHeld
          clear hHeld
          have HB2 := Lib.hid (HB.out.trans (HF.out.mono hsz))
          have e0' := (HF.out.cell (p := ⟨g', o' + k * 4, none⟩) hgl).trans e0
          have e1' := (HF.out.cell (p := ⟨g', o' + k * 4 + 1, none⟩) hgl).trans e1
          have p0' := (HF.out.cell (p := ⟨g', o' + j * 4, none⟩) hgl).trans p0
          have p1' := (HF.out.cell (p := ⟨g', o' + j * 4 + 1, none⟩) hgl).trans p1
          clear e0 e1 e2 e3 p0 p1 p2 p3 hL hN hI hZ
          cases b with
          | true =>
            have HR := Lib.hid (runU_more HO.out.2 (by have := HJ.out; omega) HY.out HX.out (of_decide_eq_true hb))
            clear hb
            by_cases h6 : c = 6
            · have HN := Lib.hid (not_uses HX.out fun h => by have := (run_six HO.out.1 HX.out HOK.out HLU.out HR.out).2 h.2.2; omega)
              have hd6 : decide ((6 : Int) < (c : Int) + 1) = true := decide_eq_true (by omega)
              clear h6
              go_wp2_with fail
              go_quiet (fail)
              all_goals
                go_wp2
                go_ret
                exact resB_no HN.out (by first | exact HB2.out | exact HB2.out.drew | exact bdrewN HB2.out _)
            · have HS := Lib.hid (usTo_step HO.out.1 HX.out ⟨HOK.out, HLU.out, (run_six HO.out.1 HX.out HOK.out HLU.out HR.out).1 (by omega)⟩)
              have hd6 : decide ((6 : Int) < (c : Int) + 1) = false := decide_eq_false (by omega)
              go_wp2_with fail
              go_quiet (fail)
              all_goals
                go_wp2
                go_roundw
                case rel => exact ⟨k + 1, c + 1, by omega, by go_num, by go_num, by omega, Lib.hid ⟨HS.out, HR.out⟩, by first | exact HB2.out | exact HB2.out.drew | exact bdrewN HB2.out _⟩
                case measure => simp [intOf]; omega
          | false =>
            have HR := Lib.hid (runU_new HX.out fun u h hu he => by rw [HY.out] at hu; cases hu; exact of_decide_eq_false hb he)
            have HS := Lib.hid (usTo_step HO.out.1 HX.out ⟨HOK.out, HLU.out, (run_six HO.out.1 HX.out HOK.out HLU.out HR.out).1 (by omega)⟩)
            clear hb
            go_wp2_with fail
            go_quiet (fail)
            all_goals
              go_wp2
              go_roundw
              case rel => exact ⟨k + 1, 1, by omega, by go_num, by go_num, by omega, Lib.hid ⟨HS.out, HR.out⟩, by first | exact HB2.out | exact HB2.out.drew | exact bdrewN HB2.out _⟩
              case measure => simp [intOf]; omega
    · have hdl : decide ((k : Int) < (L.length : Int)) = false := decide_eq_false (by omega)
      obtain rfl : k = L.length := by omega
      have HY := Lib.hid (usesR_all h48 HO.out.1)
      clear hB
      go_wp2
      go_ret
      exact resB_yes HY.out HB.out
end Go.Proofs.YtelhmacfljffhabGreat.RepC
end
