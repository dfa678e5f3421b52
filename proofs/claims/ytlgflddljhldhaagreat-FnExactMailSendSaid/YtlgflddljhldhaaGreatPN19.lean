/- Of this claim's texts the part 19: MlR. -/
import Derived.Test.YtlgflddljhldhaaGreatPN18
section
namespace Go.Proofs.YtlgflddljhldhaaGreat.RepC
open Go.RowKit RowC ValC SpanC KeptC CfC
set_option linter.unusedVariables false
set_option linter.unusedSimpArgs false
theorem mnow_at (n : Int) {b : Bool} (hb : isB n 0 999900 = b) (w : World) : Calls Tryz.prog 35 #[.int .i64 n] w fun e w' => e = .returned (.bool b) ∧ Below w.heap.size w w' := by
  subst hb
  go_enter Tryz.func35, Tryz.ntmps35
  go_wp2_with (go_at_call 74; refine (is_spec _ _ _ _).mono ?_; rintro e w' ⟨rfl, rfl⟩)
  go_ret
  exact ⟨rfl, Below.refl _ _⟩
theorem boxes_step {P : List D_Pair} {M : List D_Box} {k : Nat} {x : D_Box} {p : D_Pair} (ha : ∀ (i : Nat) x p, i < k → M[i]? = some x → P[i]? = some p → boxR p.2.2 x) (hx : M[k]? = some x) (hp : P[k]? = some p) (hb : boxR p.2.2 x) : ∀ (i : Nat) x p, i < k + 1 → M[i]? = some x → P[i]? = some p → boxR p.2.2 x := fun i y q hi hy hq => by
  by_cases e : i = k
  · subst e
    rw [hx] at hy
    rw [hp] at hq
    obtain rfl := Option.some.inj hy
    obtain rfl := Option.some.inj hq
    exact hb
  · exact ha i y q (by omega) hy hq
theorem notes_step {L : List D_Note} {j : Nat} {x : D_Note} (ha : ∀ (i : Nat) y, i < j → L[i]? = some y → logAt L i y) (hx : L[j]? = some x) (h : logAt L j x) : ∀ (i : Nat) y, i < j + 1 → L[i]? = some y → logAt L i y := fun i y hi hy => by
  by_cases e : i = j
  · subst e
    rw [hx] at hy
    obtain rfl := Option.some.inj hy
    exact h
  · exact ha i y (by omega) hy
theorem not_mail {d : D_Config} {M : List D_Box} {k : Nat} {x : D_Box} {p : D_Pair} (hx : M[k]? = some x) (hp : d.2.1[k]? = some p) (hb : ¬ boxR p.2.2 x) : ¬ mailP d M := fun h => hb (h.2.2 k x p hx hp)
set_option maxRecDepth 100000 in
set_option maxHeartbeats 6400000 in
theorem mail_spec {C : List (List D_Label)} {P : List D_Pair} {Q : List D_Quota} {hf : Int} {ca pa qa : Option Addr} {cc pc qc : Nat} {M : List D_Box} {xa : Option Addr} {xc : Nat} {W : World} (hC : RdSl (Sl R_Label) W W.heap.size C ca cc) (hP : RdSl R_Pair W W.heap.size P pa pc) (hQ : RdSl R_Quota W W.heap.size Q qa qc) (hX : RdSl R_Box W W.heap.size M xa xc) :
    Calls Tryz.prog 34 #[.agg #[.slice ca C.length cc, .slice pa P.length pc, .slice qa Q.length qc, .int .i64 hf], .agg #[.slice xa M.length xc]] W (IsB (mailB (C, P, Q, hf) M) W) := by
  have hnM : M.length ≤ 9223372036854775807 := by have h1 := hX.1; have h2 := hX.2.1; unfold maxLen at h2; omega
  have hnP : P.length ≤ 9223372036854775807 := by have h1 := hP.1; have h2 := hP.2.1; unfold maxLen at h2; omega
  obtain ⟨b0, hb0⟩ : ∃ b, cfgB C P Q hf = b := ⟨_, rfl⟩
  have Hb0 := Lib.hid hb0
  clear hb0
  refine Calls.mono ?_ fun e w' h => resB_at mailB_iff h
  obtain ⟨w0, hw0⟩ : ∃ w, w = (W.alloc (.cells #[.slice ca C.length cc, .slice pa P.length pc, .slice qa Q.length qc, .int .i64 hf] 44)).alloc (.cells #[.slice xa M.length xc] 36) := ⟨_, rfl⟩
  have hb0 : Below W.heap.size W w0 := by rw [hw0]; exact ((Below.refl _ _).alloc (Nat.le_refl _) _).alloc (by simp) _
  have x0_ : Blk w0 (W.heap.size) 44 #[.slice ca C.length cc, .slice pa P.length pc, .slice qa Q.length qc, .int .i64 hf] := by
    have h9 := Blk.new W 44 #[.slice ca C.length cc, .slice pa P.length pc, .slice qa Q.length qc, .int .i64 hf]
    try simp only [World.size_alloc] at h9
    rw [hw0]; exact (h9.alloc _)
  have X0 := Lib.hid x0_
  have x1_ : Blk w0 (W.heap.size + 1) 36 #[.slice xa M.length xc] := by
    have h9 := Blk.new (W.alloc (.cells #[.slice ca C.length cc, .slice pa P.length pc, .slice qa Q.length qc, .int .i64 hf] 44)) 36 #[.slice xa M.length xc]
    try simp only [World.size_alloc] at h9
    rw [hw0]; exact h9
  have X1 := Lib.hid x1_
  have HC := Lib.hid (rd_mv (Sl_ok R_Label_ok) hC hb0)
  have HP := Lib.hid (rd_mv R_Pair_ok hP hb0)
  have HQ := Lib.hid (rd_mv R_Quota_ok hQ hb0)
  have HX := Lib.hid (rd_mv R_Box_ok hX hb0)
  have HB0 := Lib.hid hb0
  have hz0 := hb0.size
  clear hb0 hC hP hQ hX x0_ x1_
  go_enter Tryz.func34, Tryz.ntmps34
  go_upto_region 1 with fail
  rw [← hw0]
  clear hw0
  have qX0_0 := X0.out.at_ 0 rfl
  have qX0_1 := X0.out.at_ 1 rfl
  have qX0_2 := X0.out.at_ 2 rfl
  have qX0_3 := X0.out.at_ 3 rfl
  have qX1_0 := X1.out.at_ 0 rfl
  go_wp2_with fail
  have hcx := config_spec (hf := hf) HC.out HP.out HQ.out
  rw [Hb0.out] at hcx
  refine hcx.mono ?_
  intro e v1 h
  obtain ⟨rfl, hb⟩ := isB_elim h
  have HC := Lib.hid (rd_mv (Sl_ok R_Label_ok) HC.out hb)
  have HP := Lib.hid (rd_mv R_Pair_ok HP.out hb)
  have HQ := Lib.hid (rd_mv R_Quota_ok HQ.out hb)
  have HX := Lib.hid (rd_mv R_Box_ok HX.out hb)
  have X0 := Lib.hid (X0.out.call hb)
  have X1 := Lib.hid (X1.out.call hb)
  have HB0 := Lib.hid (HB0.out.trans (hb.mono HB0.out.size))
  clear h hb hcx qX0_0 qX0_1 qX0_2 qX0_3 qX1_0
  have qX0_0 := X0.out.at_ 0 rfl
  have qX0_1 := X0.out.at_ 1 rfl
  have qX0_2 := X0.out.at_ 2 rfl
  have qX0_3 := X0.out.at_ 3 rfl
  have qX1_0 := X1.out.at_ 0 rfl
  cases b0 with
  | false =>
    have HN := Lib.hid (show ¬ mailP (C, P, Q, hf) M from fun h => by have h2 := cfgB_iff.2 h.1; rw [Hb0.out] at h2; cases h2)
    go_wp2
    go_ret
    exact resB_no HN.out HB0.out
  | true =>
  have HCF := Lib.hid (cfgB_iff.1 Hb0.out)
  by_cases hl : M.length = P.length
  rotate_left
  · have hne : ((M.length : Int) != (P.length : Int)) = true := bne_iff_ne.2 (by omega)
    have HN := Lib.hid (show ¬ mailP (C, P, Q, hf) M from fun h => hl h.2.1)
    clear hl
    go_wp2
    go_ret
    exact resB_no HN.out HB0.out
  have hne : ((M.length : Int) != (P.length : Int)) = false := by rw [hl]; exact bne_self_eq_false' (a := (P.length : Int))
  have HL := Lib.hid hl
  clear hl
  have hz1 := HB0.out.size
  go_wp2
  go_loopw [5] (fun i wr => ∃ k : Nat, k ≤ M.length ∧ i = .int .i64 k ∧ Hid (∀ (i : Nat) x p, i < k → M[i]? = some x → P[i]? = some p → boxR p.2.2 x) ∧ Below v1.heap.size v1 wr) (fun i _ => M.length - (intOf i).toNat)
  case atStart => exact ⟨0, Nat.zero_le _, rfl, Lib.hid fun j x p h => absurd h (Nat.not_lt_zero _), Below.refl _ _⟩
  case round =>
    obtain ⟨k, hk, rfl, HA, hB⟩ := hrel
    obtain ⟨wo, rfl⟩ : ∃ x, x = wr := ⟨_, rfl⟩
    have HB := Lib.hid hB
    have hsz := hB.size
    have HBW := Lib.hid (HB0.out.trans (hB.mono hz1))
    have Z0 := Lib.hid (X0.out.call hB)
    have Z1 := Lib.hid (X1.out.call hB)
    by_cases hlt : k < M.length
    · have hdl : decide ((k : Int) < (M.length : Int)) = true := decide_eq_true (by omega)
      have hlp : k < P.length := by have := HL.out; omega
      obtain ⟨⟨F, G, L⟩, hx⟩ := el_some hlt
      obtain ⟨⟨⟨f0, f1⟩, ⟨t0, t1⟩, rt⟩, hp⟩ := el_some hlp
      have HX9 := Lib.hid hx
      have HP9 := Lib.hid hp
      obtain ⟨gp, op, us, rfl, hgp, hu, hr⟩ := (rd_mv R_Pair_ok HP.out hB).at_ hp
      obtain rfl := rd_Pair hr
      have HGP := Lib.hid hgp
      have p4 : wo.cell? ⟨gp, op + k * 5 + 4, none⟩ = some (.int .i64 rt) := by simpa [size_PairS, Nat.add_assoc] using hu 4 _ rfl
      clear hu hr hgp
      obtain ⟨g, o, us, rfl, hg, hu, hr⟩ := (rd_mv R_Box_ok HX.out hB).at_ hx
      obtain ⟨fa, fc, ga, gc, la, lc, rfl, k_F, k_G, k_L⟩ := rd_Box hr
      have HG := Lib.hid hg
      have HKL := Lib.hid k_L
      have e0 : wo.cell? ⟨g, o + k * 3, none⟩ = some (.slice fa F.length fc) := by simpa [size_BoxS, Nat.add_assoc] using hu 0 _ rfl
      have e1 : wo.cell? ⟨g, o + k * 3 + 1, none⟩ = some (.slice ga G.length gc) := by simpa [size_BoxS, Nat.add_assoc] using hu 1 _ rfl
      have e2 : wo.cell? ⟨g, o + k * 3 + 2, none⟩ = some (.slice la L.length lc) := by simpa [size_BoxS, Nat.add_assoc] using hu 2 _ rfl
      have hi0 : (0 : Int) ≤ (k : Int) := Int.natCast_nonneg _
      have hi1 : (k : Int) < (M.length : Int) := by omega
      have hi2 : (k : Int) < (P.length : Int) := by omega
      have hnF : F.length ≤ 9223372036854775807 := by have h1 := k_F.1; have h2 := k_F.2.1; unfold maxLen at h2; omega
      have hnG : G.length ≤ 9223372036854775807 := by have h1 := k_G.1; have h2 := k_G.2.1; unfold maxLen at h2; omega
      have hnL : L.length ≤ 9223372036854775807 := by have h1 := k_L.1; have h2 := k_L.2.1; unfold maxLen at h2; omega
      obtain ⟨w1, hw1⟩ : ∃ w, w = wo.alloc (.cells #[.slice fa F.length fc, .slice ga G.length gc, .slice la L.length lc] 73) := ⟨_, rfl⟩
      have hb1 : Below wo.heap.size wo w1 := by rw [hw1]; exact (Below.refl _ _).alloc (Nat.le_refl _) _
      have T := Lib.hid (show Blk w1 wo.heap.size 73 #[.slice fa F.length fc, .slice ga G.length gc, .slice la L.length lc] from by rw [hw1]; exact Blk.new _ _ _)
      have Y0 := Lib.hid (Z0.out.call hb1)
      have Y1 := Lib.hid (Z1.out.call hb1)
      have HB1 := Lib.hid (HB.out.trans (hb1.mono hsz))
      have HBW1 := Lib.hid (HBW.out.trans (hb1.mono HBW.out.size))
      have HGP1 := Lib.hid (Nat.lt_of_lt_of_le HGP.out hb1.size)
      have E4 := Lib.hid ((hb1.cell (p := ⟨gp, op + k * 5 + 4, none⟩) HGP.out).trans p4)
      have HKL1 := Lib.hid (rd_mv R_Note_ok (rd_mv R_Note_ok HKL.out (Below.refl _ _)) hb1)
      have hz2 := HB1.out.size
      have hzw := HBW1.out.size
      have q1 := Z0.out.at_ 1 rfl
      have q2 := Z1.out.at_ 0 rfl
      clear hu hr hg k_F k_G k_L hx hp hB p4
      go_upto_region 7 with fail
      rw [← hw1]
      clear hw1 hb1 e0 e1 e2 q1 q2
      by_cases h1 : (F.length : Int) ≤ rt
      rotate_left
      · have hd1 : decide ((F.length : Int) > rt) = true := decide_eq_true (by omega)
        have hd1' : decide (rt < (F.length : Int)) = true := decide_eq_true (by omega)
        refine wp_region_held_drew (S := (fun V => Below (w1).heap.size (w1) V)) (by kernel_rfl) ((Below.refl _ _).drew) (fun hHeld => ?_)
        refine tk 0 hHeld ?_
        refine tk 1 hHeld ?_ (hy := fun w hSw => by (try dsimp only at hSw); have k0 := (hSw.cell (p := ⟨wo.heap.size, 0, none⟩) T.out.lt).trans (T.out.at_ 0 rfl); clear hSw; go_simp; try with_reducible rfl)
        refine tk 2 hHeld ?_
        refine tk 3 hHeld ?_
        refine tk 4 hHeld ?_ (hy := fun w hSw => by (try dsimp only at hSw); have k0 := (hSw.cell (p := ⟨W.heap.size, 1, none⟩) Y0.out.lt).trans (Y0.out.at_ 1 rfl); clear hSw; go_simp; try with_reducible rfl)
        refine tk 5 hHeld ?_
        refine tk 6 hHeld ?_
        refine tk 7 hHeld ?_
        refine tk 8 hHeld ?_ (hy := fun w hSw => by (try dsimp only at hSw); have k0 := (hSw.cell (p := ⟨gp, op + k * 5 + 4, none⟩) HGP1.out).trans E4.out; clear hSw; go_simp; try with_reducible rfl)
        refine tk 9 hHeld ?_
        refine tk 10 hHeld ?_
        refine tn 11 hHeld ?_
        refine tn 12 hHeld ?_
        refine tn 13 hHeld ?_
        refine tn 14 hHeld ?_
        refine tn 15 hHeld ?_
        refine tn 16 hHeld ?_
        refine tn 17 hHeld ?_
        refine tn 18 hHeld ?_
        refine tn 19 hHeld ?_
        refine tn 20 hHeld ?_
        refine tk 21 hHeld ?_
        refine tk 22 hHeld ?_
        refine tn 23 hHeld ?_
        refine tn 24 hHeld ?_
        refine tn 25 hHeld ?_
        refine tn 26 hHeld ?_
        refine tk 27 hHeld ?_
        refine rd0 ?_
        have HF := Lib.hid hHeld
        clear hHeld
        have HN := Lib.hid (not_mail (d := (C, P, Q, hf)) HX9.out HP9.out (fun h => h1 h.1))
        have HBZ := Lib.hid (HBW1.out.trans (HF.out.mono HBW1.out.size))
        clear HF
        go_wp2
        go_ret
        exact resB_no HN.out HBZ.out
      have hd1 : decide ((F.length : Int) > rt) = false := decide_eq_false (by omega)
      have hd1' : decide (rt < (F.length : Int)) = false := decide_eq_false (by omega)
      by_cases h2 : (G.length : Int) ≤ rt
      rotate_left
      · have hd2 : decide ((G.length : Int) > rt) = true := decide_eq_true (by omega)
        have hd2' : decide (rt < (G.length : Int)) = true := decide_eq_true (by omega)
        refine wp_region_held_drew (S := (fun V => Below (w1).heap.size (w1) V)) (by kernel_rfl) ((Below.refl _ _).drew) (fun hHeld => ?_)
        refine tk 0 hHeld ?_
        refine tk 1 hHeld ?_ (hy := fun w hSw => by (try dsimp only at hSw); have k0 := (hSw.cell (p := ⟨wo.heap.size, 0, none⟩) T.out.lt).trans (T.out.at_ 0 rfl); clear hSw; go_simp; try with_reducible rfl)
        refine tk 2 hHeld ?_
        refine tk 3 hHeld ?_
        refine tk 4 hHeld ?_ (hy := fun w hSw => by (try dsimp only at hSw); have k0 := (hSw.cell (p := ⟨W.heap.size, 1, none⟩) Y0.out.lt).trans (Y0.out.at_ 1 rfl); clear hSw; go_simp; try with_reducible rfl)
        refine tk 5 hHeld ?_
        refine tk 6 hHeld ?_
        refine tk 7 hHeld ?_
        refine tk 8 hHeld ?_ (hy := fun w hSw => by (try dsimp only at hSw); have k0 := (hSw.cell (p := ⟨gp, op + k * 5 + 4, none⟩) HGP1.out).trans E4.out; clear hSw; go_simp; try with_reducible rfl)
        refine tk 9 hHeld ?_
        refine tk 10 hHeld ?_
        refine tk 11 hHeld ?_
        refine tk 12 hHeld ?_ (hy := fun w hSw => by (try dsimp only at hSw); have k0 := (hSw.cell (p := ⟨wo.heap.size, 1, none⟩) T.out.lt).trans (T.out.at_ 1 rfl); clear hSw; go_simp; try with_reducible rfl)
        refine tk 13 hHeld ?_
        refine tk 14 hHeld ?_
        refine tk 15 hHeld ?_ (hy := fun w hSw => by (try dsimp only at hSw); have k0 := (hSw.cell (p := ⟨W.heap.size, 1, none⟩) Y0.out.lt).trans (Y0.out.at_ 1 rfl); clear hSw; go_simp; try with_reducible rfl)
        refine tk 16 hHeld ?_
        refine tk 17 hHeld ?_
        refine tk 18 hHeld ?_
        refine tk 19 hHeld ?_ (hy := fun w hSw => by (try dsimp only at hSw); have k0 := (hSw.cell (p := ⟨gp, op + k * 5 + 4, none⟩) HGP1.out).trans E4.out; clear hSw; go_simp; try with_reducible rfl)
        refine tk 20 hHeld ?_
        refine tk 21 hHeld ?_
        refine tk 22 hHeld ?_
        refine tn 23 hHeld ?_
        refine tn 24 hHeld ?_
        refine tn 25 hHeld ?_
        refine tn 26 hHeld ?_
        refine tk 27 hHeld ?_
        refine rd0 ?_
        have HF := Lib.hid hHeld
        clear hHeld
        have HN := Lib.hid (not_mail (d := (C, P, Q, hf)) HX9.out HP9.out (fun h => h2 h.2.1))
        have HBZ := Lib.hid (HBW1.out.trans (HF.out.mono HBW1.out.size))
        clear HF
        go_wp2
        go_ret
        exact resB_no HN.out HBZ.out
      have hd2 : decide ((G.length : Int) > rt) = false := decide_eq_false (by omega)
      have hd2' : decide (rt < (G.length : Int)) = false := decide_eq_false (by omega)
      by_cases h3 : L.length ≤ 12
      rotate_left
      · have hd3 : decide ((L.length : Int) > 12) = true := decide_eq_true (by omega)
        have hd3' : decide (12 < L.length) = true := decide_eq_true (by omega)
        have hd3'' : decide ((12 : Int) < (L.length : Int)) = true := decide_eq_true (by omega)
        refine wp_region_held_drew (S := (fun V => Below (w1).heap.size (w1) V)) (by kernel_rfl) ((Below.refl _ _).drew) (fun hHeld => ?_)
        refine tk 0 hHeld ?_
        refine tk 1 hHeld ?_ (hy := fun w hSw => by (try dsimp only at hSw); have k0 := (hSw.cell (p := ⟨wo.heap.size, 0, none⟩) T.out.lt).trans (T.out.at_ 0 rfl); clear hSw; go_simp; try with_reducible rfl)
        refine tk 2 hHeld ?_
        refine tk 3 hHeld ?_
        refine tk 4 hHeld ?_ (hy := fun w hSw => by (try dsimp only at hSw); have k0 := (hSw.cell (p := ⟨W.heap.size, 1, none⟩) Y0.out.lt).trans (Y0.out.at_ 1 rfl); clear hSw; go_simp; try with_reducible rfl)
        refine tk 5 hHeld ?_
        refine tk 6 hHeld ?_
        refine tk 7 hHeld ?_
        refine tk 8 hHeld ?_ (hy := fun w hSw => by (try dsimp only at hSw); have k0 := (hSw.cell (p := ⟨gp, op + k * 5 + 4, none⟩) HGP1.out).trans E4.out; clear hSw; go_simp; try with_reducible rfl)
        refine tk 9 hHeld ?_
        refine tk 10 hHeld ?_
        refine tk 11 hHeld ?_
        refine tk 12 hHeld ?_ (hy := fun w hSw => by (try dsimp only at hSw); have k0 := (hSw.cell (p := ⟨wo.heap.size, 1, none⟩) T.out.lt).trans (T.out.at_ 1 rfl); clear hSw; go_simp; try with_reducible rfl)
        refine tk 13 hHeld ?_
        refine tk 14 hHeld ?_
        refine tk 15 hHeld ?_ (hy := fun w hSw => by (try dsimp only at hSw); have k0 := (hSw.cell (p := ⟨W.heap.size, 1, none⟩) Y0.out.lt).trans (Y0.out.at_ 1 rfl); clear hSw; go_simp; try with_reducible rfl)
        refine tk 16 hHeld ?_
        refine tk 17 hHeld ?_
        refine tk 18 hHeld ?_
        refine tk 19 hHeld ?_ (hy := fun w hSw => by (try dsimp only at hSw); have k0 := (hSw.cell (p := ⟨gp, op + k * 5 + 4, none⟩) HGP1.out).trans E4.out; clear hSw; go_simp; try with_reducible rfl)
        refine tk 20 hHeld ?_
        refine tk 21 hHeld ?_
        refine tk 22 hHeld ?_
        refine tk 23 hHeld ?_
        refine tk 24 hHeld ?_ (hy := fun w hSw => by (try dsimp only at hSw); have k0 := (hSw.cell (p := ⟨wo.heap.size, 2, none⟩) T.out.lt).trans (T.out.at_ 2 rfl); clear hSw; go_simp; try with_reducible rfl)
        refine tk 25 hHeld ?_
        refine tk 26 hHeld ?_
        refine tk 27 hHeld ?_
        refine rd0 ?_
        have HF := Lib.hid hHeld
        clear hHeld
        have HN := Lib.hid (not_mail (d := (C, P, Q, hf)) HX9.out HP9.out (fun h => h3 h.2.2.1))
        have HBZ := Lib.hid (HBW1.out.trans (HF.out.mono HBW1.out.size))
        clear HF
        go_wp2
        go_ret
        exact resB_no HN.out HBZ.out
      have hd3 : decide ((L.length : Int) > 12) = false := decide_eq_false (by omega)
      have hd3' : decide (12 < L.length) = false := decide_eq_false (by omega)
      have hd3'' : decide ((12 : Int) < (L.length : Int)) = false := decide_eq_false (by omega)
      have H123 := Lib.hid (And.intro h1 (And.intro h2 h3))
      clear h1 h2
      refine wp_region_held_drew (S := (fun V => Below (w1).heap.size (w1) V)) (by kernel_rfl) ((Below.refl _ _).drew) (fun hHeld => ?_)
      refine tk 0 hHeld ?_
      refine tk 1 hHeld ?_ (hy := fun w hSw => by (try dsimp only at hSw); have k0 := (hSw.cell (p := ⟨wo.heap.size, 0, none⟩) T.out.lt).trans (T.out.at_ 0 rfl); clear hSw; go_simp; try with_reducible rfl)
      refine tk 2 hHeld ?_
      refine tk 3 hHeld ?_
      refine tk 4 hHeld ?_ (hy := fun w hSw => by (try dsimp only at hSw); have k0 := (hSw.cell (p := ⟨W.heap.size, 1, none⟩) Y0.out.lt).trans (Y0.out.at_ 1 rfl); clear hSw; go_simp; try with_reducible rfl)
      refine tk 5 hHeld ?_
      refine tk 6 hHeld ?_
      refine tk 7 hHeld ?_
      refine tk 8 hHeld ?_ (hy := fun w hSw => by (try dsimp only at hSw); have k0 := (hSw.cell (p := ⟨gp, op + k * 5 + 4, none⟩) HGP1.out).trans E4.out; clear hSw; go_simp; try with_reducible rfl)
      refine tk 9 hHeld ?_
      refine tk 10 hHeld ?_
      refine tk 11 hHeld ?_
      refine tk 12 hHeld ?_ (hy := fun w hSw => by (try dsimp only at hSw); have k0 := (hSw.cell (p := ⟨wo.heap.size, 1, none⟩) T.out.lt).trans (T.out.at_ 1 rfl); clear hSw; go_simp; try with_reducible rfl)
      refine tk 13 hHeld ?_
      refine tk 14 hHeld ?_
      refine tk 15 hHeld ?_ (hy := fun w hSw => by (try dsimp only at hSw); have k0 := (hSw.cell (p := ⟨W.heap.size, 1, none⟩) Y0.out.lt).trans (Y0.out.at_ 1 rfl); clear hSw; go_simp; try with_reducible rfl)
      refine tk 16 hHeld ?_
      refine tk 17 hHeld ?_
      refine tk 18 hHeld ?_
      refine tk 19 hHeld ?_ (hy := fun w hSw => by (try dsimp only at hSw); have k0 := (hSw.cell (p := ⟨gp, op + k * 5 + 4, none⟩) HGP1.out).trans E4.out; clear hSw; go_simp; try with_reducible rfl)
      refine tk 20 hHeld ?_
      refine tk 21 hHeld ?_
      refine tk 22 hHeld ?_
      refine tk 23 hHeld ?_
      refine tk 24 hHeld ?_ (hy := fun w hSw => by (try dsimp only at hSw); have k0 := (hSw.cell (p := ⟨wo.heap.size, 2, none⟩) T.out.lt).trans (T.out.at_ 2 rfl); clear hSw; go_simp; try with_reducible rfl)
      refine tk 25 hHeld ?_
      refine tk 26 hHeld ?_
      refine tk 27 hHeld ?_
      refine rd0 ?_
      have HF := Lib.hid hHeld
      clear hHeld
      have HB2 := Lib.hid (HB1.out.trans (HF.out.mono hz2))
      have HBW2 := Lib.hid (HBW1.out.trans (HF.out.mono hzw))
      have T2 := Lib.hid (T.out.call HF.out)
      have V0 := Lib.hid (Y0.out.call HF.out)
      have V1 := Lib.hid (Y1.out.call HF.out)
      have HKL2 := Lib.hid (rd_mv R_Note_ok HKL1.out HF.out)
      clear HF hd1 hd1' hd2 hd2' hd3 hd3' hd3''
      obtain ⟨w2, hw2⟩ : ∃ w, w = w1.drew := ⟨_, rfl⟩
      rw [← hw2] at HB2 HBW2 T2 V0 V1 HKL2
      rw [← hw2]
      clear hw2
      have hz3 := HBW2.out.size
      have hz4 := HB2.out.size
      have r2 := T2.out.at_ 2 rfl
      go_wp2
      go_loopw [7] (fun i wr => ∃ j : Nat, j ≤ L.length ∧ i = .int .i64 j ∧ Hid (∀ (i : Nat) y, i < j → L[i]? = some y → logAt L i y) ∧ Below w2.heap.size w2 wr) (fun i _ => L.length - (intOf i).toNat)
      case atStart => exact ⟨0, Nat.zero_le _, rfl, Lib.hid fun j x h => absurd h (Nat.not_lt_zero _), Below.refl _ _⟩
      case round =>
        obtain ⟨j, hj, rfl, HJ, hB⟩ := hrel
        have HBj := Lib.hid hB
        have hszj := hB.size
        have T3 := Lib.hid (T2.out.call hB)
        have HBWj := Lib.hid (HBW2.out.trans (hB.mono hz3))
        clear r2
        have r2 := T3.out.at_ 2 rfl
        by_cases hjl : j < L.length
        · have hdj : decide ((j : Int) < (L.length : Int)) = true := decide_eq_true (by omega)
          obtain ⟨⟨x0, x1⟩, hx⟩ := el_some hjl
          have HXj := Lib.hid hx
          obtain ⟨gl, ol, us, rfl, hgl, hu, hr⟩ := (rd_mv R_Note_ok HKL2.out hB).at_ hx
          obtain rfl := rd_Note hr
          have HGL := Lib.hid hgl
          have F0 := Lib.hid (show wr.cell? ⟨gl, ol + j * 2, none⟩ = some (.int .i64 x0) from by simpa [size_NoteS, Nat.add_assoc] using hu 0 _ rfl)
          have hj0 : (0 : Int) ≤ (j : Int) := Int.natCast_nonneg _
          have hj1 : (j : Int) < (L.length : Int) := by omega
          obtain ⟨zi, hzi⟩ : ∃ z, isB x0 0 999900 = z := ⟨_, rfl⟩
          have HI := Lib.hid hzi
          clear hzi hu hr hgl hx hB
          cases zi with
          | false =>
            have HN := Lib.hid (not_mail (d := (C, P, Q, hf)) HX9.out HP9.out (fun h => by have h5 := (h.2.2.2 j _ HXj.out).1; rw [HI.out] at h5; cases h5))
            go_upto_region 12 with fail
            refine wp_region_held_drew (S := (fun V => Below (wr).heap.size (wr) V)) (by kernel_rfl) ((Below.refl _ _).drew) (fun hHeld => ?_)
            refine tk 0 hHeld ?_
            refine tk 1 hHeld ?_ (hy := fun w hSw => by (try dsimp only at hSw); have k0 := (hSw.cell (p := ⟨wo.heap.size, 2, none⟩) T3.out.lt).trans (T3.out.at_ 2 rfl); clear hSw; go_simp; try with_reducible rfl)
            refine tk 2 hHeld ?_
            refine tk 3 hHeld ?_
            refine tk 4 hHeld ?_
            refine tk 5 hHeld ?_ (hy := fun w hSw => by (try dsimp only at hSw); have k0 := (hSw.cell (p := ⟨gl, ol + j * 2, none⟩) HGL.out).trans F0.out; clear hSw; go_simp; try with_reducible rfl)
            refine rd1 6 (fun K hK => ?_)
            go_simp
            go_at_call 35
            refine (mnow_at x0 HI.out _).mono ?_
            rintro e w5 ⟨rfl, hb⟩
            refine hK.out _ _ (hHeld.trans (hb.mono hHeld.size)) (fun hHeld => ?_)
            clear hK K hb
            refine tk 7 hHeld ?_
            refine tk 8 hHeld ?_
            refine tn 9 hHeld ?_
            refine tn 10 hHeld ?_
            refine tn 11 hHeld ?_
            refine tn 12 hHeld ?_
            refine tn 13 hHeld ?_
            refine tn 14 hHeld ?_
            refine tn 15 hHeld ?_
            refine tn 16 hHeld ?_
            refine tn 17 hHeld ?_
            refine tn 18 hHeld ?_
            refine tn 19 hHeld ?_
            refine tn 20 hHeld ?_
            refine tn 21 hHeld ?_
            refine tn 22 hHeld ?_
            refine tn 23 hHeld ?_
            refine tn 24 hHeld ?_
            refine tn 25 hHeld ?_
            refine tn 26 hHeld ?_
            refine tk 27 hHeld ?_
            refine rd0 ?_
            have HF := Lib.hid hHeld
            clear hHeld
            have HBZ := Lib.hid (HBWj.out.trans (HF.out.mono HBWj.out.size))
            clear HF
            go_wp2
            go_ret
            exact resB_no HN.out HBZ.out
          | true =>
          cases j with
          | zero =>
            have hgt : decide (((0 : Nat) : Int) > 0) = false := rfl
            have hgt0 : decide ((0 : Int) > 0) = false := rfl
            have HA2 := Lib.hid (notes_step HJ.out HXj.out ⟨HI.out, fun h => absurd h (Nat.lt_irrefl _)⟩)
            have F00 := Lib.hid (show wr.cell? ⟨gl, ol, none⟩ = some (.int .i64 x0) from by have h5 := F0.out; rw [Nat.zero_mul, Nat.add_zero] at h5; exact h5)
            go_upto_region 12 with fail
            refine wp_region_held_drew (S := (fun V => Below (wr).heap.size (wr) V)) (by kernel_rfl) ((Below.refl _ _).drew) (fun hHeld => ?_)
            refine tk 0 hHeld ?_
            refine tk 1 hHeld ?_ (hy := fun w hSw => by (try dsimp only at hSw); have k0 := (hSw.cell (p := ⟨wo.heap.size, 2, none⟩) T3.out.lt).trans (T3.out.at_ 2 rfl); clear hSw; go_simp; try with_reducible rfl)
            refine tk 2 hHeld ?_
            refine tk 3 hHeld ?_
            refine tk 4 hHeld ?_
            refine tk 5 hHeld ?_ (hy := fun w hSw => by (try dsimp only at hSw); have k0 := (hSw.cell (p := ⟨gl, ol, none⟩) HGL.out).trans F00.out; clear hSw; go_simp; try with_reducible rfl)
            refine rd1 6 (fun K hK => ?_)
            go_simp
            go_at_call 35
            refine (mnow_at x0 HI.out _).mono ?_
            rintro e w5 ⟨rfl, hb⟩
            refine hK.out _ _ (hHeld.trans (hb.mono hHeld.size)) (fun hHeld => ?_)
            clear hK K hb
            refine tk 7 hHeld ?_
            refine tk 8 hHeld ?_
            refine tk 9 hHeld ?_
            refine tk 10 hHeld ?_
            refine tk 11 hHeld ?_
            refine tn 12 hHeld ?_
            refine tn 13 hHeld ?_
            refine tn 14 hHeld ?_
            refine tn 15 hHeld ?_
            refine tn 16 hHeld ?_
            refine tn 17 hHeld ?_
            refine tn 18 hHeld ?_
            refine tn 19 hHeld ?_
            refine tn 20 hHeld ?_
            refine tn 21 hHeld ?_
            refine tn 22 hHeld ?_
            refine tn 23 hHeld ?_
            refine tn 24 hHeld ?_
            refine tn 25 hHeld ?_
            refine tk 26 hHeld ?_
            refine tk 27 hHeld ?_
            refine rd0 ?_
            have HF := Lib.hid hHeld
            clear hHeld
            have HBZ := Lib.hid (HBj.out.trans (HF.out.mono hszj))
            clear HF
            go_wp2
            go_roundw
            case rel => exact ⟨0 + 1, by omega, by go_num, HA2, HBZ.out⟩
            case measure => simp [intOf]; omega
          | succ m =>
            obtain ⟨⟨y0, y1⟩, hy⟩ := el_some (show m < L.length by omega)
            have HYj := Lib.hid hy
            obtain ⟨g2, o2, us, hgg, hg2, hu, hr⟩ := (rd_mv R_Note_ok HKL2.out HBj.out).at_ hy
            obtain ⟨rfl, rfl⟩ : gl = g2 ∧ ol = o2 := by cases hgg; exact ⟨rfl, rfl⟩
            obtain rfl := rd_Note hr
            have F1 := Lib.hid (show wr.cell? ⟨gl, ol + m * 2, none⟩ = some (.int .i64 y0) from by simpa [size_NoteS, Nat.add_assoc] using hu 0 _ rfl)
            have hm0 : (0 : Int) ≤ (m : Int) := Int.natCast_nonneg _
            have hm1 : (m : Int) < (L.length : Int) := by omega
            have hgt : decide ((((m + 1 : Nat) : Int)) > 0) = true := decide_eq_true (by omega)
            have hgt2 : decide (0 < m + 1) = true := decide_eq_true (by omega)
            have hgt3 : decide (0 < (m : Int) + 1) = true := decide_eq_true (by omega)
            have hgt4 : decide ((m : Int) + 1 > 0) = true := decide_eq_true (by omega)
            have hi0' : (0 : Int) ≤ (m : Int) + 1 := by omega
            have hi1' : (m : Int) + 1 < (L.length : Int) := by omega
            have hsub2 : IntKind.i64.wrap (m : Int) = (m : Int) := IntWalk.i64_in _ (by omega)
            have hsub3 : IntKind.i64.wrap ((m : Int) + 1 - 1) = (m : Int) := by rw [show (m : Int) + 1 - 1 = (m : Int) by omega]; exact IntWalk.i64_in _ (by omega)
            clear hu hr hgg hg2 hy
            by_cases hle : y0 ≤ x0
            rotate_left
            · have hd : decide (y0 > x0) = true := decide_eq_true (by omega)
              have hd' : decide (x0 < y0) = true := decide_eq_true (by omega)
              have HN := Lib.hid (not_mail (d := (C, P, Q, hf)) HX9.out HP9.out (fun h => hle ((h.2.2.2 (m + 1) _ HXj.out).2 (Nat.succ_pos _) (y0, y1) (by rw [Nat.add_sub_cancel]; exact HYj.out))))
              go_upto_region 12 with fail
              refine wp_region_held_drew (S := (fun V => Below (wr).heap.size (wr) V)) (by kernel_rfl) ((Below.refl _ _).drew) (fun hHeld => ?_)
              refine tk 0 hHeld ?_
              refine tk 1 hHeld ?_ (hy := fun w hSw => by (try dsimp only at hSw); have k0 := (hSw.cell (p := ⟨wo.heap.size, 2, none⟩) T3.out.lt).trans (T3.out.at_ 2 rfl); clear hSw; go_simp; try with_reducible rfl)
              refine tk 2 hHeld ?_
              refine tk 3 hHeld ?_
              refine tk 4 hHeld ?_
              refine tk 5 hHeld ?_ (hy := fun w hSw => by (try dsimp only at hSw); have k0 := (hSw.cell (p := ⟨gl, ol + (m + 1) * 2, none⟩) HGL.out).trans F0.out; clear hSw; go_simp; try with_reducible rfl)
              refine rd1 6 (fun K hK => ?_)
              go_simp
              go_at_call 35
              refine (mnow_at x0 HI.out _).mono ?_
              rintro e w5 ⟨rfl, hb⟩
              refine hK.out _ _ (hHeld.trans (hb.mono hHeld.size)) (fun hHeld => ?_)
              clear hK K hb
              refine tk 7 hHeld ?_
              refine tk 8 hHeld ?_
              refine tk 9 hHeld ?_
              refine tk 10 hHeld ?_
              refine tk 11 hHeld ?_
              refine tk 12 hHeld ?_
              refine tk 13 hHeld ?_ (hy := fun w hSw => by (try dsimp only at hSw); have k0 := (hSw.cell (p := ⟨wo.heap.size, 2, none⟩) T3.out.lt).trans (T3.out.at_ 2 rfl); clear hSw; go_simp; try with_reducible rfl)
              refine tk 14 hHeld ?_
              refine tk 15 hHeld ?_
              refine tk 16 hHeld ?_
              refine tk 17 hHeld ?_
              refine tk 18 hHeld ?_ (hy := fun w hSw => by (try dsimp only at hSw); have k0 := (hSw.cell (p := ⟨gl, ol + m * 2, none⟩) HGL.out).trans F1.out; clear hSw; go_simp; try with_reducible rfl)
              refine tk 19 hHeld ?_
              refine tk 20 hHeld ?_ (hy := fun w hSw => by (try dsimp only at hSw); have k0 := (hSw.cell (p := ⟨wo.heap.size, 2, none⟩) T3.out.lt).trans (T3.out.at_ 2 rfl); clear hSw; go_simp; try with_reducible rfl)
              refine tk 21 hHeld ?_
              refine tk 22 hHeld ?_
              refine tk 23 hHeld ?_
              refine tk 24 hHeld ?_ (hy := fun w hSw => by (try dsimp only at hSw); have k0 := (hSw.cell (p := ⟨gl, ol + (m + 1) * 2, none⟩) HGL.out).trans F0.out; clear hSw; go_simp; try with_reducible rfl)
              refine tk 25 hHeld ?_
              refine tk 26 hHeld ?_
              refine tk 27 hHeld ?_
              refine rd0 ?_
              have HF := Lib.hid hHeld
              clear hHeld
              have HBZ := Lib.hid (HBWj.out.trans (HF.out.mono HBWj.out.size))
              clear HF
              go_wp2
              go_ret
              exact resB_no HN.out HBZ.out
            have hd : decide (y0 > x0) = false := decide_eq_false (by omega)
            have hd' : decide (x0 < y0) = false := decide_eq_false (by omega)
            have HA2 := Lib.hid (notes_step HJ.out HXj.out ⟨HI.out, fun _ y h => by rw [Nat.add_sub_cancel, HYj.out] at h; obtain rfl := Option.some.inj h; exact hle⟩)
            clear hle
            go_upto_region 12 with fail
            refine wp_region_held_drew (S := (fun V => Below (wr).heap.size (wr) V)) (by kernel_rfl) ((Below.refl _ _).drew) (fun hHeld => ?_)
            refine tk 0 hHeld ?_
            refine tk 1 hHeld ?_ (hy := fun w hSw => by (try dsimp only at hSw); have k0 := (hSw.cell (p := ⟨wo.heap.size, 2, none⟩) T3.out.lt).trans (T3.out.at_ 2 rfl); clear hSw; go_simp; try with_reducible rfl)
            refine tk 2 hHeld ?_
            refine tk 3 hHeld ?_
            refine tk 4 hHeld ?_
            refine tk 5 hHeld ?_ (hy := fun w hSw => by (try dsimp only at hSw); have k0 := (hSw.cell (p := ⟨gl, ol + (m + 1) * 2, none⟩) HGL.out).trans F0.out; clear hSw; go_simp; try with_reducible rfl)
            refine rd1 6 (fun K hK => ?_)
            go_simp
            go_at_call 35
            refine (mnow_at x0 HI.out _).mono ?_
            rintro e w5 ⟨rfl, hb⟩
            refine hK.out _ _ (hHeld.trans (hb.mono hHeld.size)) (fun hHeld => ?_)
            clear hK K hb
            refine tk 7 hHeld ?_
            refine tk 8 hHeld ?_
            refine tk 9 hHeld ?_
            refine tk 10 hHeld ?_
            refine tk 11 hHeld ?_
            refine tk 12 hHeld ?_
            refine tk 13 hHeld ?_ (hy := fun w hSw => by (try dsimp only at hSw); have k0 := (hSw.cell (p := ⟨wo.heap.size, 2, none⟩) T3.out.lt).trans (T3.out.at_ 2 rfl); clear hSw; go_simp; try with_reducible rfl)
            refine tk 14 hHeld ?_
            refine tk 15 hHeld ?_
            refine tk 16 hHeld ?_
            refine tk 17 hHeld ?_
            refine tk 18 hHeld ?_ (hy := fun w hSw => by (try dsimp only at hSw); have k0 := (hSw.cell (p := ⟨gl, ol + m * 2, none⟩) HGL.out).trans F1.out; clear hSw; go_simp; try with_reducible rfl)
            refine tk 19 hHeld ?_
            refine tk 20 hHeld ?_ (hy := fun w hSw => by (try dsimp only at hSw); have k0 := (hSw.cell (p := ⟨wo.heap.size, 2, none⟩) T3.out.lt).trans (T3.out.at_ 2 rfl); clear hSw; go_simp; try with_reducible rfl)
            refine tk 21 hHeld ?_
            refine tk 22 hHeld ?_
            refine tk 23 hHeld ?_
            refine tk 24 hHeld ?_ (hy := fun w hSw => by (try dsimp only at hSw); have k0 := (hSw.cell (p := ⟨gl, ol + (m + 1) * 2, none⟩) HGL.out).trans F0.out; clear hSw; go_simp; try with_reducible rfl)
            refine tk 25 hHeld ?_
            refine tk 26 hHeld ?_
            refine tk 27 hHeld ?_
            refine rd0 ?_
            have HF := Lib.hid hHeld
            clear hHeld
            have HBZ := Lib.hid (HBj.out.trans (HF.out.mono hszj))
            clear HF
            go_wp2
            go_roundw
            case rel => exact ⟨(m + 1) + 1, by omega, by go_num, HA2, HBZ.out⟩
            case measure => simp [intOf]; omega
        · have hdj : decide ((j : Int) < (L.length : Int)) = false := decide_eq_false (by omega)
          obtain rfl : j = L.length := by omega
          have HA3 := Lib.hid (boxes_step HA.out HX9.out HP9.out (show boxR rt (F, G, L) from ⟨H123.out.1, H123.out.2.1, H123.out.2.2, fun i y hy => HJ.out i y (el_lt hy) hy⟩))
          have HBZ := Lib.hid (HB2.out.trans (hB.mono hz4))
          clear hB
          go_wp2
          go_roundw
          case rel => exact ⟨k + 1, by omega, by go_num, HA3, HBZ.out⟩
          case measure => simp [intOf]; omega
    · have hdl : decide ((k : Int) < (M.length : Int)) = false := decide_eq_false (by omega)
      have HY := Lib.hid (show mailP (C, P, Q, hf) M from ⟨HCF.out, HL.out, fun i x p hx hp => HA.out i x p (by have := el_lt hx; omega) hx hp⟩)
      have q2 := Z1.out.at_ 0 rfl
      clear hB
      go_wp2
      go_ret
      exact resB_yes HY.out HBW.out
end Go.Proofs.YtlgflddljhldhaaGreat.RepC
end
