/- UsesRight of the program: a contract. -/
import Derived.Test.YtjhcphmehlihcaaTk
import Derived.Test.YtjhcphmehlihcaaTk
import Derived.Test.YtjhcphmehlihcaaUsR1
import Derived.Test.YtjhcphmehlihcaaAccS
namespace Go.Proofs.Ytjhcphmehlihcaa.RepC
open Go.RowKit RowC ValC SpanC KeptC NameC SortC
set_option linter.unusedVariables false
set_option linter.unusedSimpArgs false

theorem acc_w {x0 x1 x3 : Int} {x2 : ByteArray} (W : World) : Calls Try.prog 50 #[.agg #[.int .i64 x0, .int .i64 x1, .string x2, .int .i64 x3]] W fun e w' => e = .returned (.agg #[.int .i64 x0, .int .i64 x1, .string x2]) ∧ Below W.heap.size W w' := by
  go_enter Try.func50, Try.ntmps50
  go_wp2
  refine bodyPost_ret (v := .agg #[.int .i64 x0, .int .i64 x1, .string x2]) (by simp [results, Try.results50, go_sem]) rfl ⟨rfl, ?_⟩
  repeat (first | exact Below.refl _ _ | refine Below.setCell ?_ (by first | omega | (simp; done) | (simp; omega)) _ | refine Below.alloc ?_ (by first | omega | (simp; done) | (simp; omega)) _)
theorem byacc_w (a0 a1 b0 b1 : Int) (a2 b2 : ByteArray) (W : World) : Calls Try.prog 49 #[.agg #[.int .i64 a0, .int .i64 a1, .string a2], .agg #[.int .i64 b0, .int .i64 b1, .string b2]] W fun e w' => e = .returned (.int .i64 (cfA ((a0, a1), a2) ((b0, b1), b2))) ∧ Below W.heap.size W w' :=
  (byacc_v a0 a1 b0 b1 a2 b2 W).mono fun e w' ⟨h1, h2⟩ => ⟨h1, by
    rw [h2]
    exact (((((((Below.refl W.heap.size W).alloc (Nat.le_refl _) _).alloc (by simp) _).drew.alloc (by simp; omega) _).alloc (by simp; omega) _).drew.alloc (by simp; omega) _).alloc (by simp; omega) _)⟩
theorem ltU_A {x y : D_Use} : ltU x y ↔ ltA (x.1, x.2.1) (y.1, y.2.1) := Iff.rfl
set_option maxRecDepth 100000 in
set_option maxHeartbeats 3200000 in
theorem uses_impl {L : List D_Use} {a : Option Addr} {cap : Nat} {W : World} (h : RdSl R_Use W W.heap.size L a cap) :
    Calls Try.prog 14 #[.slice a L.length cap] W (IsB (usesB L) W) := by
  refine Calls.mono ?_ fun e w' h => resB_is usesB_iff h
  have hn := us_len h
  have H := Lib.hid h
  clear h
  by_cases h48 : L.length ≤ 48
  rotate_left
  · have HN := Lib.hid (show ¬ UsesR L from fun h => h48 h.1)
    have hd : decide ((48 : Int) < (L.length : Int)) = true := decide_eq_true (by omega)
    go_enter Try.func14, Try.ntmps14
    go_wp2
    go_ret
    exact resB_no HN.out (Below.refl _ _)
  have hd : decide ((48 : Int) < (L.length : Int)) = false := decide_eq_false (by omega)
  go_enter Try.func14, Try.ntmps14
  go_wp2
  go_loopw [10] (fun i wr => ∃ k : Nat, k ≤ L.length ∧ i = .int .i64 k ∧ Hid (usTo L k) ∧ Below W.heap.size W wr) (fun i _ => L.length - (intOf i).toNat)
  case atStart => exact ⟨0, Nat.zero_le _, rfl, Lib.hid usTo_zero, Below.refl _ _⟩
  case round =>
    obtain ⟨k, hk, rfl, HO, hB⟩ := hrel
    obtain ⟨wo, rfl⟩ : ∃ x, x = wr := ⟨_, rfl⟩
    have HB := Lib.hid hB
    have hsz := hB.size
    by_cases hlt : k < L.length
    · skip
      obtain ⟨⟨⟨x0, x1⟩, x2, x3⟩, hx⟩ := el_some hlt
      have HX := Lib.hid hx
      obtain ⟨g, o, us, rfl, hg, hu, hr⟩ := (H.out.below R_Use_ok hB).at_ hx
      obtain ⟨rfl, b_x2⟩ := rd_Use hr
      have e0 : wo.cell? ⟨g, o + k * 4, none⟩ = some (.int .i64 x0) := by simpa [size_UseS, Nat.add_assoc] using hu 0 _ rfl
      have e1 : wo.cell? ⟨g, o + k * 4 + 1, none⟩ = some (.int .i64 x1) := by simpa [size_UseS, Nat.add_assoc] using hu 1 _ rfl
      have e2 : wo.cell? ⟨g, o + k * 4 + 2, none⟩ = some (.string x2) := by simpa [size_UseS, Nat.add_assoc] using hu 2 _ rfl
      have e3 : wo.cell? ⟨g, o + k * 4 + 3, none⟩ = some (.int .i64 x3) := by simpa [size_UseS, Nat.add_assoc] using hu 3 _ rfl
      have hi0 : (0 : Int) ≤ (k : Int) := Int.natCast_nonneg _
      have hi1 : (k : Int) < (L.length : Int) := by omega
      have HA := Lib.hid ((H.out.below R_Use_ok hB))
      obtain ⟨w1, hw1⟩ : ∃ w, w = wo.alloc (.cells #[.int .i64 x0, .int .i64 x1, .string x2, .int .i64 x3] 68) := ⟨_, rfl⟩
      have hbA : Below wo.heap.size wo w1 := by rw [hw1]; exact (Below.refl _ _).alloc (Nat.le_refl _) _
      have HBA := Lib.hid hbA
      have HG := Lib.hid (Nat.lt_of_lt_of_le hg hsz)
      have HP1 := Lib.hid (show Blk w1 wo.heap.size 68 #[.int .i64 x0, .int .i64 x1, .string x2, .int .i64 x3] from by rw [hw1]; exact Blk.new _ _ _)
      have HB1 := Lib.hid (HB.out.trans (hbA.mono hsz))
      have hz1 := HB1.out.size
      have q0 := HP1.out.at_ 0 rfl
      have q1 := HP1.out.at_ 1 rfl
      have q2 := HP1.out.at_ 2 rfl
      have q3 := HP1.out.at_ 3 rfl
      clear hu hr hg hB hx
      have hL := fun V => LabC.ri_w x0 x1 V
      have hN := fun V => ni_w x2 b_x2 V
      have hI := fun V => ur_w x3 V
      go_wp2_with fail
      rw [← hw1]
      clear hw1 hbA e0 e1 e2 e3
      refine (hL _).mono ?_
      rintro e w2 ⟨rfl, hb⟩
      have HB2 := Lib.hid (HB1.out.trans (hb.mono hz1))
      have HP2 := Lib.hid (HP1.out.call hb)
      have hz2 := HB2.out.size
      have HS2 := Lib.hid hb.size
      clear hb q0 q1 q2 q3
      have q0 := HP2.out.at_ 0 rfl
      have q1 := HP2.out.at_ 1 rfl
      have q2 := HP2.out.at_ 2 rfl
      have q3 := HP2.out.at_ 3 rfl
      cases h1 : LabC.rB x0 x1 with
      | false =>
        have HN := Lib.hid (not_uses HX.out fun h => by have := h.1.1; simp only [h1] at this; cases this)
        clear h1
        go_wp2
        go_ret
        exact resB_no HN.out HB2.out
      | true =>
      have H1 := Lib.hid h1
      clear h1
      go_wp2_with fail
      refine (hN _).mono ?_
      rintro e w3 ⟨rfl, hb⟩
      have HB3 := Lib.hid (HB2.out.trans (hb.mono hz2))
      have HP3 := Lib.hid (HP2.out.call hb)
      have hz3 := HB3.out.size
      have HS3 := Lib.hid hb.size
      clear hb q0 q1 q2 q3
      have q0 := HP3.out.at_ 0 rfl
      have q1 := HP3.out.at_ 1 rfl
      have q2 := HP3.out.at_ 2 rfl
      have q3 := HP3.out.at_ 3 rfl
      cases h2 : nameB x2 with
      | false =>
        have HN := Lib.hid (not_uses HX.out fun h => by have := nameB_iff.2 h.1.2.1; simp only [h2] at this; cases this)
        clear h2
        go_wp2
        go_ret
        exact resB_no HN.out HB3.out
      | true =>
      have H2 := Lib.hid (nameB_iff.1 h2)
      clear h2
      go_wp2_with fail
      refine (hI _).mono ?_
      rintro e w4 ⟨rfl, hb⟩
      have HB4 := Lib.hid (HB3.out.trans (hb.mono hz3))
      have HP4 := Lib.hid (HP3.out.call hb)
      have hz4 := HB4.out.size
      have HS4z := Lib.hid hb.size
      clear hb q0 q1 q2 q3
      have q0 := HP4.out.at_ 0 rfl
      have q1 := HP4.out.at_ 1 rfl
      have q2 := HP4.out.at_ 2 rfl
      have q3 := HP4.out.at_ 3 rfl
      cases h3 : isB x3 1 100000 with
      | false =>
        have HN := Lib.hid (not_uses HX.out fun h => by have := h.1.2.2; simp only [h3] at this; cases this)
        clear h3
        go_wp2
        go_ret
        exact resB_no HN.out HB4.out
      | true =>
      have HOK := Lib.hid (show okU ((x0, x1), x2, x3) from ⟨H1.out, H2.out, h3⟩)
      clear h3
      have HA4 := Lib.hid (H.out.below R_Use_ok HB4.out)
      have HG4 := Lib.hid (show g < w4.heap.size from Nat.lt_of_lt_of_le HG.out (Nat.le_trans HBA.out.size (show w1.heap.size ≤ w4.heap.size from Nat.le_trans HS2.out (Nat.le_trans HS3.out HS4z.out))))
      clear q0 q1 q2 q3 hL hN hI
      by_cases hk0 : k = 0
      · have hkp : ¬ 0 < k := by omega
        have hd0 : decide ((0 : Int) < (k : Int)) = false := decide_eq_false (by omega)
        have hk6 : ¬ 6 ≤ k := by omega
        have hd6 : decide ((6 : Int) ≤ (k : Int)) = false := decide_eq_false (by omega)
        have HS := Lib.hid (usTo_step HO.out HX.out ⟨HOK.out, fun y h => by omega, fun y h => by omega⟩)
        clear hk0
        go_wp2_with fail
        refine wp_region_held_drew (S := (fun V => Below (w4).heap.size (w4) V)) (by kernel_rfl) ((Below.refl _ _).drew) (fun hHeld => ?_)
        refine tk 0 hHeld ?_
        refine tk 1 hHeld ?_
        refine tk 2 hHeld ?_
        refine tn 3 hHeld ?_
        refine tn 4 hHeld ?_
        refine tn 5 hHeld ?_
        refine tn 6 hHeld ?_
        refine tn 7 hHeld ?_
        refine tn 8 hHeld ?_
        refine tn 9 hHeld ?_
        refine tn 10 hHeld ?_
        refine tn 11 hHeld ?_
        refine tn 12 hHeld ?_
        refine tk 13 hHeld ?_
        refine rd0 ?_
        have HF := Lib.hid hHeld
        clear hHeld
        have HB5 := Lib.hid (HB4.out.trans (HF.out.mono hz4))
        go_wp2_with fail
        go_quiet (fail)
        all_goals
          go_wp2
          go_roundw
          case rel => exact ⟨k + 1, by omega, by go_num, HS, by first | exact HB5.out | exact HB5.out.drew | exact bdrewN HB4.out _ | exact bdrewN HB5.out _⟩
          case measure => simp [intOf]; omega
      · have hkp : 0 < k := by omega
        have hd0 : decide ((0 : Int) < (k : Int)) = true := decide_eq_true (by omega)
        obtain ⟨j, hj⟩ : ∃ j, k = j + 1 := ⟨k - 1, by omega⟩
        have HJ := Lib.hid hj
        obtain ⟨⟨⟨y0, y1⟩, y2, y3⟩, hy⟩ := el_some (show j < L.length by omega)
        have HY := Lib.hid (show L[k - 1]? = some ((y0, y1), y2, y3) from by rw [hj, Nat.add_sub_cancel]; exact hy)
        obtain ⟨g', o', us', hgo, hg', hu', hr'⟩ := HA4.out.at_ hy
        obtain ⟨rfl, rfl⟩ : g' = g ∧ o' = o := by cases hgo; exact ⟨rfl, rfl⟩
        obtain ⟨rfl, b_y2⟩ := rd_Use hr'
        have p0 : w4.cell? ⟨g', o' + j * 4, none⟩ = some (.int .i64 y0) := by simpa [size_UseS, Nat.add_assoc] using hu' 0 _ rfl
        have p1 : w4.cell? ⟨g', o' + j * 4 + 1, none⟩ = some (.int .i64 y1) := by simpa [size_UseS, Nat.add_assoc] using hu' 1 _ rfl
        have p2 : w4.cell? ⟨g', o' + j * 4 + 2, none⟩ = some (.string y2) := by simpa [size_UseS, Nat.add_assoc] using hu' 2 _ rfl
        have p3 : w4.cell? ⟨g', o' + j * 4 + 3, none⟩ = some (.int .i64 y3) := by simpa [size_UseS, Nat.add_assoc] using hu' 3 _ rfl
        have hjs : (k : Int) - 1 = (j : Int) := by omega
        have hj0 : (0 : Int) ≤ (j : Int) := Int.natCast_nonneg _
        have hj1 : (j : Int) < (L.length : Int) := by omega
        have hjw : IntKind.i64.wrap (j : Int) = (j : Int) := IntWalk.i64_in _ (by omega)
        obtain ⟨c, hc⟩ : ∃ c, cfA ((y0, y1), y2) ((x0, x1), x2) = c := ⟨_, rfl⟩
        have hC := fun V => byacc_w y0 y1 x0 x1 y2 x2 V
        rw [hc] at hC
        have HC := Lib.hid (show 0 ≤ c ↔ ¬ ltU ((y0, y1), y2, y3) ((x0, x1), x2, x3) from by rw [← hc]; exact accI_ge _ _)
        clear hgo hg' hu' hr' hy hj hk0 hc
        by_cases hz : 0 ≤ c
        · have HN := Lib.hid (not_uses HX.out fun h => HC.out.1 hz (h.2.1 _ (by have := HJ.out; omega) HY.out))
          have hge : decide (0 ≤ c) = true := decide_eq_true hz
          go_wp2_with fail
          refine wp_region_held_drew (S := (fun V => Below (w4).heap.size (w4) V)) (by kernel_rfl) ((Below.refl _ _).drew) (fun hHeld => ?_)
          refine tk 0 hHeld ?_
          refine tk 1 hHeld ?_
          refine tk 2 hHeld ?_
          refine tk 3 hHeld ?_
          refine tk 4 hHeld ?_
          refine tk 5 hHeld ?_
          refine tk 6 hHeld ?_
          refine tk 7 hHeld ?_ (hy := fun w hSw => by (try dsimp only at hSw); have k0 := (hSw.cell (p := ⟨g', o' + j * 4, none⟩) HG4.out).trans p0; have k1 := (hSw.cell (p := ⟨g', o' + j * 4 + 1, none⟩) HG4.out).trans p1; have k2 := (hSw.cell (p := ⟨g', o' + j * 4 + 2, none⟩) HG4.out).trans p2; have k3 := (hSw.cell (p := ⟨g', o' + j * 4 + 3, none⟩) HG4.out).trans p3; clear hSw; go_simp; try with_reducible rfl)
          refine tk 9 hHeld ?_ (hy := fun w hSw => by (try dsimp only at hSw); have k0 := (hSw.cell (p := ⟨wo.heap.size, 0, none⟩) HP4.out.lt).trans (HP4.out.at_ 0 rfl); have k1 := (hSw.cell (p := ⟨wo.heap.size, 1, none⟩) HP4.out.lt).trans (HP4.out.at_ 1 rfl); have k2 := (hSw.cell (p := ⟨wo.heap.size, 2, none⟩) HP4.out.lt).trans (HP4.out.at_ 2 rfl); have k3 := (hSw.cell (p := ⟨wo.heap.size, 3, none⟩) HP4.out.lt).trans (HP4.out.at_ 3 rfl); clear hSw; go_simp; try with_reducible rfl)
          refine rd1 8 (fun K hK => ?_)
          go_simp
          go_at_call 50
          refine (acc_w (x3 := y3) _).mono ?_
          rintro e w5 ⟨rfl, hb⟩
          refine hK.out _ _ (hHeld.trans (hb.mono hHeld.size)) (fun hHeld => ?_)
          clear hK K hb
          refine rd1 10 (fun K hK => ?_)
          go_simp
          go_at_call 50
          refine (acc_w (x3 := x3) _).mono ?_
          rintro e w6 ⟨rfl, hb⟩
          refine hK.out _ _ (hHeld.trans (hb.mono hHeld.size)) (fun hHeld => ?_)
          clear hK K hb
          refine rd1 11 (fun K hK => ?_)
          go_simp
          go_at_call 49
          refine (hC _).mono ?_
          rintro e w7 ⟨rfl, hb⟩
          refine hK.out _ _ (hHeld.trans (hb.mono hHeld.size)) (fun hHeld => ?_)
          clear hK K hb
          refine tk 12 hHeld ?_
          refine tk 13 hHeld ?_
          refine rd0 ?_
          have HF := Lib.hid hHeld
          clear hHeld
          have HB5 := Lib.hid (HB4.out.trans (HF.out.mono hz4))
          go_wp2
          go_ret
          exact resB_no HN.out HB5.out
        · have HLT := Lib.hid (Classical.not_not.1 fun h => hz (HC.out.2 h))
          have hge : decide (0 ≤ c) = false := decide_eq_false hz
          have HLU := Lib.hid (fun (u : D_Use) (_ : 0 < k) (hu : L[k - 1]? = some u) => show ltU u ((x0, x1), x2, x3) from by rw [HY.out] at hu; cases hu; exact HLT.out)
          go_wp2_with fail
          refine wp_region_held_drew (S := (fun V => Below (w4).heap.size (w4) V)) (by kernel_rfl) ((Below.refl _ _).drew) (fun hHeld => ?_)
          refine tk 0 hHeld ?_
          refine tk 1 hHeld ?_
          refine tk 2 hHeld ?_
          refine tk 3 hHeld ?_
          refine tk 4 hHeld ?_
          refine tk 5 hHeld ?_
          refine tk 6 hHeld ?_
          refine tk 7 hHeld ?_ (hy := fun w hSw => by (try dsimp only at hSw); have k0 := (hSw.cell (p := ⟨g', o' + j * 4, none⟩) HG4.out).trans p0; have k1 := (hSw.cell (p := ⟨g', o' + j * 4 + 1, none⟩) HG4.out).trans p1; have k2 := (hSw.cell (p := ⟨g', o' + j * 4 + 2, none⟩) HG4.out).trans p2; have k3 := (hSw.cell (p := ⟨g', o' + j * 4 + 3, none⟩) HG4.out).trans p3; clear hSw; go_simp; try with_reducible rfl)
          refine tk 9 hHeld ?_ (hy := fun w hSw => by (try dsimp only at hSw); have k0 := (hSw.cell (p := ⟨wo.heap.size, 0, none⟩) HP4.out.lt).trans (HP4.out.at_ 0 rfl); have k1 := (hSw.cell (p := ⟨wo.heap.size, 1, none⟩) HP4.out.lt).trans (HP4.out.at_ 1 rfl); have k2 := (hSw.cell (p := ⟨wo.heap.size, 2, none⟩) HP4.out.lt).trans (HP4.out.at_ 2 rfl); have k3 := (hSw.cell (p := ⟨wo.heap.size, 3, none⟩) HP4.out.lt).trans (HP4.out.at_ 3 rfl); clear hSw; go_simp; try with_reducible rfl)
          refine rd1 8 (fun K hK => ?_)
          go_simp
          go_at_call 50
          refine (acc_w (x3 := y3) _).mono ?_
          rintro e w5 ⟨rfl, hb⟩
          refine hK.out _ _ (hHeld.trans (hb.mono hHeld.size)) (fun hHeld => ?_)
          clear hK K hb
          refine rd1 10 (fun K hK => ?_)
          go_simp
          go_at_call 50
          refine (acc_w (x3 := x3) _).mono ?_
          rintro e w6 ⟨rfl, hb⟩
          refine hK.out _ _ (hHeld.trans (hb.mono hHeld.size)) (fun hHeld => ?_)
          clear hK K hb
          refine rd1 11 (fun K hK => ?_)
          go_simp
          go_at_call 49
          refine (hC _).mono ?_
          rintro e w7 ⟨rfl, hb⟩
          refine hK.out _ _ (hHeld.trans (hb.mono hHeld.size)) (fun hHeld => ?_)
          clear hK K hb
          refine tk 12 hHeld ?_
          refine tk 13 hHeld ?_
          refine rd0 ?_
          have HF := Lib.hid hHeld
          clear hHeld
          have HB7 := Lib.hid (HB4.out.trans (HF.out.mono hz4))
          have HP7 := Lib.hid (HP4.out.call HF.out)
          have HA7 := Lib.hid (H.out.below R_Use_ok HB7.out)
          clear p0 p1 p2 p3 hC hjs hj0 hj1 hjw hge hz
          by_cases h6 : 6 ≤ k
          rotate_left
          · have hd6 : decide ((6 : Int) ≤ (k : Int)) = false := decide_eq_false (by omega)
            have HS := Lib.hid (usTo_step HO.out HX.out ⟨HOK.out, HLU.out, fun y h => absurd h h6⟩)
            go_wp2_with fail
            go_quiet (fail)
            all_goals
              go_wp2
              go_roundw
              case rel => exact ⟨k + 1, by omega, by go_num, HS, by first | exact HB7.out | exact HB7.out.drew | exact bdrewN HB7.out _⟩
              case measure => simp [intOf]; omega
          · have hd6 : decide ((6 : Int) ≤ (k : Int)) = true := decide_eq_true (by omega)
            obtain ⟨q, hq⟩ : ∃ q, k = q + 6 := ⟨k - 6, by omega⟩
            obtain ⟨⟨⟨z0, z1⟩, z2, z3⟩, hy⟩ := el_some (show q < L.length by omega)
            have HQ := Lib.hid (show L[k - 6]? = some ((z0, z1), z2, z3) from by rw [hq, Nat.add_sub_cancel]; exact hy)
            obtain ⟨g, o, us', hgo, hg', hu', hr'⟩ := HA7.out.at_ hy
            obtain ⟨rfl, rfl⟩ : g' = g ∧ o' = o := by cases hgo; exact ⟨rfl, rfl⟩
            obtain ⟨rfl, b_z2⟩ := rd_Use hr'
            have p0 : w7.cell? ⟨g', o' + q * 4, none⟩ = some (.int .i64 z0) := by simpa [size_UseS, Nat.add_assoc] using hu' 0 _ rfl
            have p1 : w7.cell? ⟨g', o' + q * 4 + 1, none⟩ = some (.int .i64 z1) := by simpa [size_UseS, Nat.add_assoc] using hu' 1 _ rfl
            have q0 := HP7.out.at_ 0 rfl
            have q1 := HP7.out.at_ 1 rfl
            have hqs : (k : Int) - 6 = (q : Int) := by omega
            have hq0 : (0 : Int) ≤ (q : Int) := Int.natCast_nonneg _
            have hq1 : (q : Int) < (L.length : Int) := by omega
            have hqw : IntKind.i64.wrap (q : Int) = (q : Int) := IntWalk.i64_in _ (by omega)
            have HK6 := Lib.hid h6
            obtain ⟨b, hb⟩ : ∃ b, decide (((z0, z1) : Int × Int) = (x0, x1)) = b := ⟨_, rfl⟩
            have hqq := eql_lab z0 z1 x0 x1 b hb
            clear hgo hg' hu' hr' hy hq
            cases b with
            | true =>
              have HN := Lib.hid (not_uses HX.out fun h => h.2.2 _ HK6.out HQ.out (of_decide_eq_true hb))
              clear hb
              go_wp2_with fail
              go_quiet (fail)
              all_goals
                go_wp2
                go_ret
                exact resB_no HN.out (by first | exact HB7.out | exact HB7.out.drew | exact bdrewN HB7.out _)
            | false =>
              have HS := Lib.hid (usTo_step HO.out HX.out ⟨HOK.out, HLU.out, fun y _ hy he => by rw [HQ.out] at hy; cases hy; exact of_decide_eq_false hb he⟩)
              clear hb
              go_wp2_with fail
              go_quiet (fail)
              all_goals
                go_wp2
                go_roundw
                case rel => exact ⟨k + 1, by omega, by go_num, HS, by first | exact HB7.out | exact HB7.out.drew | exact bdrewN HB7.out _⟩
                case measure => simp [intOf]; omega
    · have hdl : decide ((k : Int) < (L.length : Int)) = false := decide_eq_false (by omega)
      obtain rfl : k = L.length := by omega
      have HY := Lib.hid (usesR_all h48 HO.out)
      clear hB
      go_wp2
      go_ret
      exact resB_yes HY.out HB.out
end Go.Proofs.Ytjhcphmehlihcaa.RepC
