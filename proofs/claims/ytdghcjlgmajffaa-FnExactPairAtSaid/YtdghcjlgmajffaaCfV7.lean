/- PairAt in the model: contract. -/
import Derived.Test.YtdghcjlgmajffaaTk
import Derived.Test.YtdghcjlgmajffaaTk
import Derived.Test.YtdghcjlgmajffaaCfV
namespace Go.Proofs.Ytdghcjlgmajffaa.RepC
open Go.RowKit RowC ValC SpanC KeptC CfC
set_option linter.unusedVariables false
set_option linter.unusedSimpArgs false

set_option maxRecDepth 100000 in
set_option maxHeartbeats 3200000 in
theorem pairat_spec {C : List (List D_Label)} {P : List D_Pair} {Q : List D_Quota} {hf : Int} {ca pa qa : Option Addr} {cc pc qc : Nat} {f0 f1 t0 t1 : Int} {W : World} (hC : RdSl (Sl R_Label) W W.heap.size C ca cc) (hP : RdSl R_Pair W W.heap.size P pa pc) (hQ : RdSl R_Quota W W.heap.size Q qa qc) :
    Calls Try.prog 27 #[.agg #[.slice ca C.length cc, .slice pa P.length pc, .slice qa Q.length qc, .int .i64 hf], .agg #[.int .i64 f0, .int .i64 f1], .agg #[.int .i64 t0, .int .i64 t1]] W (IsI (pairV C P Q hf (f0, f1) (t0, t1)) W) := by
  obtain ⟨M, hM⟩ : ∃ M, pairV C P Q hf (f0, f1) (t0, t1) = M := ⟨_, rfl⟩
  have HM := Lib.hid hM
  rw [hM]
  clear hM
  have hcn : C.length ≤ 9223372036854775807 := by have h1 := hC.1; have h2 := hC.2.1; unfold maxLen at h2; omega
  have hpn : P.length ≤ 9223372036854775807 := by have h1 := hP.1; have h2 := hP.2.1; unfold maxLen at h2; omega
  have hqn : Q.length ≤ 9223372036854775807 := by have h1 := hQ.1; have h2 := hQ.2.1; unfold maxLen at h2; omega
  obtain ⟨z, hz⟩ : ∃ z, cfgB C P Q hf = z := ⟨_, rfl⟩
  have HZ := Lib.hid hz
  clear hz
  obtain ⟨w0, hw0⟩ : ∃ w, w = ((W.alloc (.cells #[.slice ca C.length cc, .slice pa P.length pc, .slice qa Q.length qc, .int .i64 hf] 33)).alloc (.cells #[.int .i64 f0, .int .i64 f1] 46)).alloc (.cells #[.int .i64 t0, .int .i64 t1] 46) := ⟨_, rfl⟩
  have hb0 : Below W.heap.size W w0 := by rw [hw0]; exact (((Below.refl _ _).alloc (Nat.le_refl _) _).alloc (by simp) _).alloc (by simp <;> omega) _
  have x0 : Blk w0 (W.heap.size) 33 #[.slice ca C.length cc, .slice pa P.length pc, .slice qa Q.length qc, .int .i64 hf] := by
    have h9 := Blk.new W 33 #[.slice ca C.length cc, .slice pa P.length pc, .slice qa Q.length qc, .int .i64 hf]
    try simp only [World.size_alloc] at h9
    rw [hw0]; exact ((h9.alloc _).alloc _)
  have X0 := Lib.hid x0
  have x1 : Blk w0 (W.heap.size + 1) 46 #[.int .i64 f0, .int .i64 f1] := by
    have h9 := Blk.new (W.alloc (.cells #[.slice ca C.length cc, .slice pa P.length pc, .slice qa Q.length qc, .int .i64 hf] 33)) 46 #[.int .i64 f0, .int .i64 f1]
    try simp only [World.size_alloc] at h9
    rw [hw0]; exact (h9.alloc _)
  have X1 := Lib.hid x1
  have x2 : Blk w0 (W.heap.size + 1 + 1) 46 #[.int .i64 t0, .int .i64 t1] := by
    have h9 := Blk.new ((W.alloc (.cells #[.slice ca C.length cc, .slice pa P.length pc, .slice qa Q.length qc, .int .i64 hf] 33)).alloc (.cells #[.int .i64 f0, .int .i64 f1] 46)) 46 #[.int .i64 t0, .int .i64 t1]
    try simp only [World.size_alloc] at h9
    rw [hw0]; exact h9
  have X2 := Lib.hid x2
  have HC := Lib.hid (rd_mv (Sl_ok R_Label_ok) hC hb0)
  have HP := Lib.hid (rd_mv R_Pair_ok hP hb0)
  have HQ := Lib.hid (rd_mv R_Quota_ok hQ hb0)
  have HB0 := Lib.hid hb0
  have hz0 := hb0.size
  clear hb0 hC hP hQ x0 x1 x2
  go_enter Try.func27, Try.ntmps27
  have p0 := X0.out.at_ 0 rfl
  have p1 := X0.out.at_ 1 rfl
  have p2 := X0.out.at_ 2 rfl
  have p3 := X0.out.at_ 3 rfl
  rw [hw0] at p0 p1 p2 p3
  go_wp2_with fail
  rw [← hw0]
  clear hw0 p0 p1 p2 p3
  have hcf := config_spec HC.out HP.out HQ.out (hf := hf)
  rw [HZ.out] at hcf
  refine hcf.mono ?_
  intro e v2 h
  obtain ⟨rfl, hb⟩ := isB_elim h
  have HB1 := Lib.hid (HB0.out.trans (hb.mono hz0))
  have Z0 := Lib.hid (X0.out.call hb)
  have Z1 := Lib.hid (X1.out.call hb)
  have Z2 := Lib.hid (X2.out.call hb)
  have HP2 := Lib.hid (rd_mv R_Pair_ok HP.out hb)
  have hz1 := HB1.out.size
  clear h hb hcf
  have p1 := Z0.out.at_ 1 rfl
  cases z with
  | false =>
    have HE := Lib.hid (show M = -1 from by rw [← HM.out]; unfold pairV; rw [HZ.out]; rfl)
    obtain rfl := HE.out
    go_wp2
    go_ret
    exact ⟨rfl, HB1.out⟩
  | true =>
  have HE := Lib.hid (show M = ixP P (f0, f1) (t0, t1) from by rw [← HM.out]; unfold pairV; rw [HZ.out]; rfl)
  go_wp2
  go_loopw [7] (fun i wr => ∃ k : Nat, k ≤ P.length ∧ i = .int .i64 k ∧ Hid (∀ (q : Nat) y, q < k → P[q]? = some y → ¬ hitP (f0, f1) (t0, t1) y) ∧ Below v2.heap.size v2 wr) (fun i _ => P.length - (intOf i).toNat)
  case atStart => exact ⟨0, Nat.zero_le _, rfl, Lib.hid fun j y h => absurd h (Nat.not_lt_zero _), Below.refl _ _⟩
  case round =>
    obtain ⟨k, hk, rfl, HA, hB⟩ := hrel
    have HB := Lib.hid hB
    have hsz := hB.size
    have Y0 := Lib.hid (Z0.out.call hB)
    have Y1 := Lib.hid (Z1.out.call hB)
    have Y2 := Lib.hid (Z2.out.call hB)
    have q1 := Y0.out.at_ 1 rfl
    by_cases hlt : k < P.length
    · have hdl : decide ((k : Int) < (P.length : Int)) = true := decide_eq_true (by omega)
      obtain ⟨⟨⟨x0, x1⟩, ⟨x2, x3⟩, x4⟩, hx⟩ := el_some hlt
      have HX := Lib.hid hx
      obtain ⟨g, o, us, rfl, hg, hu, hr⟩ := (rd_mv R_Pair_ok HP2.out hB).at_ hx
      obtain rfl := rd_Pair hr
      have e0 : wr.cell? ⟨g, o + k * 5, none⟩ = some (.int .i64 x0) := by simpa [size_PairS, Nat.add_assoc] using hu 0 _ rfl
      have e1 : wr.cell? ⟨g, o + k * 5 + 1, none⟩ = some (.int .i64 x1) := by simpa [size_PairS, Nat.add_assoc] using hu 1 _ rfl
      have e2 : wr.cell? ⟨g, o + k * 5 + 2, none⟩ = some (.int .i64 x2) := by simpa [size_PairS, Nat.add_assoc] using hu 2 _ rfl
      have e3 : wr.cell? ⟨g, o + k * 5 + 3, none⟩ = some (.int .i64 x3) := by simpa [size_PairS, Nat.add_assoc] using hu 3 _ rfl
      have HG := Lib.hid hg
      have hi0 : (0 : Int) ≤ (k : Int) := Int.natCast_nonneg _
      have hi1 : (k : Int) < (P.length : Int) := by omega
      obtain ⟨b1, hb1⟩ : ∃ b, decide (((x0, x1) : Int × Int) = (f0, f1)) = b := ⟨_, rfl⟩
      obtain ⟨b2, hb2⟩ : ∃ b, decide (((x2, x3) : Int × Int) = (t0, t1)) = b := ⟨_, rfl⟩
      have hE1 := eql_lab _ _ _ _ _ hb1
      have hE2 := eql_lab _ _ _ _ _ hb2
      have HBE := Lib.hid (And.intro hb1 hb2)
      clear hB hx hu hr hg hb1 hb2 p1
      cases b1 with
      | false =>
        have HA2 := Lib.hid (show ∀ (q : Nat) y, q < k + 1 → P[q]? = some y → ¬ hitP (f0, f1) (t0, t1) y from fun q y hq hy => by
          by_cases e : q = k
          · subst e; rw [HX.out] at hy; obtain rfl := Option.some.inj hy
            exact fun h => of_decide_eq_false HBE.out.1 h.1
          · exact HA.out q y (by omega) hy)
        go_wp2_with fail
        refine wp_region_held_drew (S := (fun V => Below (wr).heap.size (wr) V)) (by kernel_rfl) ((Below.refl _ _).drew) (fun hHeld => ?_)
        refine tk 0 hHeld ?_
        refine tk 1 hHeld ?_ (hy := fun w hSw => by (try dsimp only at hSw); have k0 := (hSw.cell (p := ⟨W.heap.size, 1, none⟩) Y0.out.lt).trans (Y0.out.at_ 1 rfl); clear hSw; go_simp; try with_reducible rfl)
        refine tk 2 hHeld ?_
        refine tk 3 hHeld ?_
        refine tk 4 hHeld ?_
        refine tk 5 hHeld ?_ (hy := fun w hSw => by (try dsimp only at hSw); have k0 := (hSw.cell (p := ⟨g, o + k * 5, none⟩) HG.out).trans e0; have k1 := (hSw.cell (p := ⟨g, o + k * 5 + 1, none⟩) HG.out).trans e1; clear hSw; go_simp; try with_reducible rfl)
        refine tk 6 hHeld ?_ (hy := fun w hSw => by (try dsimp only at hSw); have k0 := (hSw.cell (p := ⟨W.heap.size + 1, 0, none⟩) Y1.out.lt).trans (Y1.out.at_ 0 rfl); have k1 := (hSw.cell (p := ⟨W.heap.size + 1, 1, none⟩) Y1.out.lt).trans (Y1.out.at_ 1 rfl); clear hSw; go_simp; try with_reducible rfl)
        refine tk 7 hHeld ?_
        refine tk 8 hHeld ?_
        refine tn 9 hHeld ?_
        refine tn 10 hHeld ?_
        refine tn 11 hHeld ?_
        refine tn 12 hHeld ?_
        refine tn 13 hHeld ?_
        refine tn 14 hHeld ?_
        refine tn 15 hHeld ?_
        refine tn 16 hHeld ?_
        refine tk 17 hHeld ?_
        refine rd0 ?_
        have HF := Lib.hid hHeld
        clear hHeld
        have HB3 := Lib.hid (HB.out.trans (HF.out.mono hsz))
        clear HF e0 e1 e2 e3 q1
        go_wp2
        go_roundw
        case rel => exact ⟨k + 1, by omega, by go_num, HA2, HB3.out⟩
        case measure => simp [intOf]; omega
      | true =>
      cases b2 with
      | false =>
        have HA2 := Lib.hid (show ∀ (q : Nat) y, q < k + 1 → P[q]? = some y → ¬ hitP (f0, f1) (t0, t1) y from fun q y hq hy => by
          by_cases e : q = k
          · subst e; rw [HX.out] at hy; obtain rfl := Option.some.inj hy
            exact fun h => of_decide_eq_false HBE.out.2 h.2
          · exact HA.out q y (by omega) hy)
        go_wp2_with fail
        refine wp_region_held_drew (S := (fun V => Below (wr).heap.size (wr) V)) (by kernel_rfl) ((Below.refl _ _).drew) (fun hHeld => ?_)
        refine tk 0 hHeld ?_
        refine tk 1 hHeld ?_ (hy := fun w hSw => by (try dsimp only at hSw); have k0 := (hSw.cell (p := ⟨W.heap.size, 1, none⟩) Y0.out.lt).trans (Y0.out.at_ 1 rfl); clear hSw; go_simp; try with_reducible rfl)
        refine tk 2 hHeld ?_
        refine tk 3 hHeld ?_
        refine tk 4 hHeld ?_
        refine tk 5 hHeld ?_ (hy := fun w hSw => by (try dsimp only at hSw); have k0 := (hSw.cell (p := ⟨g, o + k * 5, none⟩) HG.out).trans e0; have k1 := (hSw.cell (p := ⟨g, o + k * 5 + 1, none⟩) HG.out).trans e1; clear hSw; go_simp; try with_reducible rfl)
        refine tk 6 hHeld ?_ (hy := fun w hSw => by (try dsimp only at hSw); have k0 := (hSw.cell (p := ⟨W.heap.size + 1, 0, none⟩) Y1.out.lt).trans (Y1.out.at_ 0 rfl); have k1 := (hSw.cell (p := ⟨W.heap.size + 1, 1, none⟩) Y1.out.lt).trans (Y1.out.at_ 1 rfl); clear hSw; go_simp; try with_reducible rfl)
        refine tk 7 hHeld ?_
        refine tk 8 hHeld ?_
        refine tk 9 hHeld ?_
        refine tk 10 hHeld ?_ (hy := fun w hSw => by (try dsimp only at hSw); have k0 := (hSw.cell (p := ⟨W.heap.size, 1, none⟩) Y0.out.lt).trans (Y0.out.at_ 1 rfl); clear hSw; go_simp; try with_reducible rfl)
        refine tk 11 hHeld ?_
        refine tk 12 hHeld ?_
        refine tk 13 hHeld ?_
        refine tk 14 hHeld ?_ (hy := fun w hSw => by (try dsimp only at hSw); have k0 := (hSw.cell (p := ⟨g, o + k * 5 + 2, none⟩) HG.out).trans e2; have k1 := (hSw.cell (p := ⟨g, o + k * 5 + 3, none⟩) HG.out).trans e3; clear hSw; go_simp; try with_reducible rfl)
        refine tk 15 hHeld ?_ (hy := fun w hSw => by (try dsimp only at hSw); have k0 := (hSw.cell (p := ⟨W.heap.size + 1 + 1, 0, none⟩) Y2.out.lt).trans (Y2.out.at_ 0 rfl); have k1 := (hSw.cell (p := ⟨W.heap.size + 1 + 1, 1, none⟩) Y2.out.lt).trans (Y2.out.at_ 1 rfl); clear hSw; go_simp; try with_reducible rfl)
        refine tk 16 hHeld ?_
        refine tk 17 hHeld ?_
        refine rd0 ?_
        have HF := Lib.hid hHeld
        clear hHeld
        have HB3 := Lib.hid (HB.out.trans (HF.out.mono hsz))
        clear HF e0 e1 e2 e3 q1
        go_wp2
        go_roundw
        case rel => exact ⟨k + 1, by omega, by go_num, HA2, HB3.out⟩
        case measure => simp [intOf]; omega
      | true =>
        have HV := Lib.hid (show M = (k : Int) from by rw [HE.out]; exact ixP_hit HX.out ⟨of_decide_eq_true HBE.out.1, of_decide_eq_true HBE.out.2⟩ HA.out)
        go_wp2_with fail
        refine wp_region_held_drew (S := (fun V => Below (wr).heap.size (wr) V)) (by kernel_rfl) ((Below.refl _ _).drew) (fun hHeld => ?_)
        refine tk 0 hHeld ?_
        refine tk 1 hHeld ?_ (hy := fun w hSw => by (try dsimp only at hSw); have k0 := (hSw.cell (p := ⟨W.heap.size, 1, none⟩) Y0.out.lt).trans (Y0.out.at_ 1 rfl); clear hSw; go_simp; try with_reducible rfl)
        refine tk 2 hHeld ?_
        refine tk 3 hHeld ?_
        refine tk 4 hHeld ?_
        refine tk 5 hHeld ?_ (hy := fun w hSw => by (try dsimp only at hSw); have k0 := (hSw.cell (p := ⟨g, o + k * 5, none⟩) HG.out).trans e0; have k1 := (hSw.cell (p := ⟨g, o + k * 5 + 1, none⟩) HG.out).trans e1; clear hSw; go_simp; try with_reducible rfl)
        refine tk 6 hHeld ?_ (hy := fun w hSw => by (try dsimp only at hSw); have k0 := (hSw.cell (p := ⟨W.heap.size + 1, 0, none⟩) Y1.out.lt).trans (Y1.out.at_ 0 rfl); have k1 := (hSw.cell (p := ⟨W.heap.size + 1, 1, none⟩) Y1.out.lt).trans (Y1.out.at_ 1 rfl); clear hSw; go_simp; try with_reducible rfl)
        refine tk 7 hHeld ?_
        refine tk 8 hHeld ?_
        refine tk 9 hHeld ?_
        refine tk 10 hHeld ?_ (hy := fun w hSw => by (try dsimp only at hSw); have k0 := (hSw.cell (p := ⟨W.heap.size, 1, none⟩) Y0.out.lt).trans (Y0.out.at_ 1 rfl); clear hSw; go_simp; try with_reducible rfl)
        refine tk 11 hHeld ?_
        refine tk 12 hHeld ?_
        refine tk 13 hHeld ?_
        refine tk 14 hHeld ?_ (hy := fun w hSw => by (try dsimp only at hSw); have k0 := (hSw.cell (p := ⟨g, o + k * 5 + 2, none⟩) HG.out).trans e2; have k1 := (hSw.cell (p := ⟨g, o + k * 5 + 3, none⟩) HG.out).trans e3; clear hSw; go_simp; try with_reducible rfl)
        refine tk 15 hHeld ?_ (hy := fun w hSw => by (try dsimp only at hSw); have k0 := (hSw.cell (p := ⟨W.heap.size + 1 + 1, 0, none⟩) Y2.out.lt).trans (Y2.out.at_ 0 rfl); have k1 := (hSw.cell (p := ⟨W.heap.size + 1 + 1, 1, none⟩) Y2.out.lt).trans (Y2.out.at_ 1 rfl); clear hSw; go_simp; try with_reducible rfl)
        refine tk 16 hHeld ?_
        refine tk 17 hHeld ?_
        refine rd0 ?_
        have HF := Lib.hid hHeld
        clear hHeld
        have HB3 := Lib.hid (HB.out.trans (HF.out.mono hsz))
        clear HF e0 e1 e2 e3 q1
        go_wp2
        go_ret
        exact ⟨by rw [HV.out]; rfl, HB1.out.trans (HB3.out.mono hz1)⟩
    · have hdl : decide ((k : Int) < (P.length : Int)) = false := decide_eq_false (by omega)
      have HV := Lib.hid (show M = -1 from by rw [HE.out]; exact ixP_none fun q y hy => HA.out q y (by have := el_lt hy; omega) hy)
      obtain rfl := HV.out
      clear hB
      go_wp2
      go_ret
      exact ⟨rfl, HB1.out.trans (HB.out.mono hz1)⟩
end Go.Proofs.Ytdghcjlgmajffaa.RepC
