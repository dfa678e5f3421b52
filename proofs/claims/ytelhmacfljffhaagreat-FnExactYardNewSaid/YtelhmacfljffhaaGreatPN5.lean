/- Of this claim's texts the part 5: CfI3 CfV2 YbE YbP CfGv NdM UsM TaM. -/
import Derived.Test.YtelhmacfljffhaaGreatPN4
section
namespace Go.Proofs.YtelhmacfljffhaaGreat.RepC
open Go.RowKit RowC ValC SpanC KeptC CfC
set_option linter.unusedVariables false
set_option linter.unusedSimpArgs false
theorem bylab_b {a0 a1 b0 b1 i : Int} {W : World} (h : SortC.labI a0 a1 b0 b1 = i) : Calls Tryz.prog 143 #[.agg #[.int .i64 a0, .int .i64 a1], .agg #[.int .i64 b0, .int .i64 b1]] W (IsI i W) := by
  subst h
  exact (SortC.bylab_v a0 a1 b0 b1 W).mono fun e w' ⟨he, hw⟩ => ⟨he, by rw [hw]; exact ((((Below.refl _ _).alloc (Nat.le_refl _) _).alloc (by simp) _).drew).alloc (by show _ ≤ _; simp; omega) _⟩
set_option maxRecDepth 100000 in
set_option maxHeartbeats 3200000 in
theorem quotas_impl {L : List D_Label} {Q : List D_Quota} {la qa : Option Addr} {lc qc : Nat} {W : World} (hL : RdSl R_Label W W.heap.size L la lc) (hQ : RdSl R_Quota W W.heap.size Q qa qc) :
    Calls Tryz.prog 89 #[.slice qa Q.length qc, .slice la L.length lc] W (ResB (QuotasR L Q) W) := by
  have hn : Q.length ≤ 9223372036854775807 := by have h1 := hQ.1; have h2 := hQ.2.1; unfold maxLen at h2; omega
  have HL := Lib.hid hL
  have HQ := Lib.hid hQ
  clear hL hQ
  go_enter Tryz.func89, Tryz.ntmps89
  go_wp2
  go_loopw [9] (fun i wr => ∃ k : Nat, k ≤ Q.length ∧ i = .int .i64 k ∧ Hid (∀ (j : Nat) x, j < k → Q[j]? = some x → okQ L Q j x) ∧ Below W.heap.size W wr) (fun i _ => Q.length - (intOf i).toNat)
  case atStart => exact ⟨0, Nat.zero_le _, rfl, Lib.hid fun j x h => absurd h (Nat.not_lt_zero _), Below.refl _ _⟩
  case round =>
    obtain ⟨k, hk, rfl, HA, hB⟩ := hrel
    obtain ⟨wo, rfl⟩ : ∃ x, x = wr := ⟨_, rfl⟩
    have HB := Lib.hid hB
    have hsz := hB.size
    by_cases hlt : k < Q.length
    · have hdl : decide ((k : Int) < (Q.length : Int)) = true := decide_eq_true (by omega)
      obtain ⟨⟨⟨x0, x1⟩, x2⟩, hx⟩ := el_some hlt
      have HX := Lib.hid hx
      obtain ⟨g, o, us, rfl, hg, hu, hr⟩ := (HQ.out.below R_Quota_ok hB).at_ hx
      obtain rfl := rd_Quota hr
      have e0 : wo.cell? ⟨g, o + k * 3, none⟩ = some (.int .i64 x0) := by simpa [size_QuotaS, Nat.add_assoc] using hu 0 _ rfl
      have e1 : wo.cell? ⟨g, o + k * 3 + 1, none⟩ = some (.int .i64 x1) := by simpa [size_QuotaS, Nat.add_assoc] using hu 1 _ rfl
      have e2 : wo.cell? ⟨g, o + k * 3 + 2, none⟩ = some (.int .i64 x2) := by simpa [size_QuotaS, Nat.add_assoc] using hu 2 _ rfl
      have hi0 : (0 : Int) ≤ (k : Int) := Int.natCast_nonneg _
      have hi1 : (k : Int) < (Q.length : Int) := by omega
      obtain ⟨w1, hw1⟩ : ∃ w, w = wo.alloc (.cells #[.int .i64 x0, .int .i64 x1, .int .i64 x2] 131) := ⟨_, rfl⟩
      have hbA : Below wo.heap.size wo w1 := by rw [hw1]; exact (Below.refl _ _).alloc (Nat.le_refl _) _
      have HP1 := Lib.hid (show Blk w1 wo.heap.size 131 #[.int .i64 x0, .int .i64 x1, .int .i64 x2] from by rw [hw1]; exact Blk.new _ _ _)
      have HB1 := Lib.hid (HB.out.trans (hbA.mono hsz))
      have hz1 := HB1.out.size
      obtain ⟨zi, hzi⟩ : ∃ z, isB x2 1 9 = z := ⟨_, rfl⟩
      have HI := Lib.hid hzi
      clear hzi hB hx hu hr
      cases k with
      | zero =>
        rw [Nat.zero_mul] at e0 e1 e2
        simp only [Nat.add_zero] at e0 e1 e2
        go_wp2_with fail
        rw [← hw1]
        clear hw1 hbA e0 e1 e2
        refine wp_region_held_drew (S := (fun V => Below (w1).heap.size (w1) V)) (by kernel_rfl) ((Below.refl _ _).drew) (fun hHeld => ?_)
        refine tk 0 hHeld ?_
        refine tk 1 hHeld ?_
        refine tk 2 hHeld ?_
        refine tn 3 hHeld ?_
        refine tn 4 hHeld ?_
        refine tn 5 hHeld ?_
        refine tn 6 hHeld ?_
        refine tn 7 hHeld ?_
        refine tn 8 hHeld ?_
        refine tn 9 hHeld ?_
        refine tn 10 hHeld ?_
        refine tn 11 hHeld ?_
        refine tn 12 hHeld ?_
        refine tk 13 hHeld ?_
        refine rd0 ?_
        have HF := Lib.hid hHeld
        clear hHeld
        have HB2 := Lib.hid (HB1.out.trans (HF.out.mono hz1))
        have HP2 := Lib.hid (HP1.out.call HF.out)
        clear HF
        obtain ⟨w2, hw2⟩ : ∃ w, w = w1.drew := ⟨_, rfl⟩
        rw [← hw2] at HB2 HP2
        rw [← hw2]
        clear hw2
        have q0 := HP2.out.at_ 0 rfl
        have q1 := HP2.out.at_ 1 rfl
        have q2 := HP2.out.at_ 2 rfl
        go_wp2_with fail
        refine (contains_lab (rd_mv R_Label_ok HL.out HB2.out)).mono ?_
        intro e w7 h
        obtain ⟨z, rfl, hz, hb⟩ := resB_elim h
        have HZ1 := Lib.hid hz
        have HB7 := Lib.hid (HB2.out.trans (hb.mono HB2.out.size))
        have HP7 := Lib.hid (HP2.out.call hb)
        clear h hz hb q0 q1 q2
        have q0 := HP7.out.at_ 0 rfl
        have q1 := HP7.out.at_ 1 rfl
        have q2 := HP7.out.at_ 2 rfl
        cases z with
        | false =>
          have HN := Lib.hid (show ¬ QuotasR L Q from fun h => by have := HZ1.out.2 (h 0 _ HX.out).1; cases this)
          go_wp2
          go_ret
          exact resB_no HN.out HB7.out
        | true =>
        have HM1 := Lib.hid (HZ1.out.1 rfl)
        go_wp2_with fail
        refine (wi_at _ _ _ HI.out _).mono ?_
        rintro e w8 ⟨rfl, rfl⟩
        cases zi with
        | false =>
          have HN := Lib.hid (show ¬ QuotasR L Q from fun h => by have h2 : isB x2 1 9 = true := (h 0 _ HX.out).2.1; rw [HI.out] at h2; cases h2)
          go_wp2
          go_ret
          exact resB_no HN.out HB7.out
        | true =>
          have HA2 := Lib.hid (show ∀ (j : Nat) x, j < 0 + 1 → Q[j]? = some x → okQ L Q j x from fun q y hq hy => by
            by_cases e : q = 0
            · subst e; rw [HX.out] at hy; obtain rfl := Option.some.inj hy
              exact ⟨HM1.out, HI.out, fun h => absurd h (Nat.lt_irrefl _)⟩
            · exact HA.out q y (by omega) hy)
          go_wp2
          go_roundw
          case rel => exact ⟨0 + 1, by omega, by go_num, HA2, HB7.out⟩
          case measure => simp [intOf]; omega
      | succ m =>
        obtain ⟨⟨⟨y0, y1⟩, y2⟩, hy⟩ := el_some (show m < Q.length by omega)
        have HY := Lib.hid hy
        obtain ⟨g2, o2, us, hgg, hg2, hu, hr⟩ := (HQ.out.below R_Quota_ok HB1.out).at_ hy
        obtain ⟨rfl, rfl⟩ : g = g2 ∧ o = o2 := by cases hgg; exact ⟨rfl, rfl⟩
        obtain rfl := rd_Quota hr
        have d0 : w1.cell? ⟨g, o + m * 3, none⟩ = some (.int .i64 y0) := by simpa [size_QuotaS, Nat.add_assoc] using hu 0 _ rfl
        have d1 : w1.cell? ⟨g, o + m * 3 + 1, none⟩ = some (.int .i64 y1) := by simpa [size_QuotaS, Nat.add_assoc] using hu 1 _ rfl
        have HG := Lib.hid (show g < w1.heap.size by omega)
        have hj0 : (0 : Int) ≤ (m : Int) := Int.natCast_nonneg _
        have hj1 : (m : Int) < (Q.length : Int) := by omega
        have hgt : decide ((((m + 1 : Nat) : Int)) > 0) = true := decide_eq_true (by omega)
        have hgt2 : decide (0 < m + 1) = true := decide_eq_true (by omega)
        have hgt3 : decide (0 < (m : Int) + 1) = true := decide_eq_true (by omega)
        have hi0' : (0 : Int) ≤ (m : Int) + 1 := by omega
        have hi1' : (m : Int) + 1 < (Q.length : Int) := by omega
        have hsub2 : IntKind.i64.wrap (m : Int) = (m : Int) := IntWalk.i64_in _ (by omega)
        have hsub3 : IntKind.i64.wrap ((m : Int) + 1 - 1) = (m : Int) := by rw [show (m : Int) + 1 - 1 = (m : Int) by omega]; exact IntWalk.i64_in _ (by omega)
        obtain ⟨li, hli⟩ : ∃ i, SortC.labI y0 y1 x0 x1 = i := ⟨_, rfl⟩
        have HLI := Lib.hid hli
        clear hy hu hr hgg hg2 hli
        by_cases hge : 0 ≤ li
        · have hdg : decide (li ≥ 0) = true := decide_eq_true hge
          have hdg2 : decide (0 ≤ li) = true := decide_eq_true hge
          have HN := Lib.hid (show ¬ QuotasR L Q from fun h => by
            have h2 := (h (m + 1) _ HX.out).2.2 (by omega) _ (by rw [Nat.add_sub_cancel]; exact HY.out)
            rw [← HLI.out] at hge
            exact (SortC.labI_ge _ _ _ _).1 hge h2)
          clear hge
          go_wp2_with fail
          rw [← hw1]
          clear hw1 hbA e0 e1 e2
          refine wp_region_held_drew (S := (fun V => Below (w1).heap.size (w1) V)) (by kernel_rfl) ((Below.refl _ _).drew) (fun hHeld => ?_)
          refine tk 0 hHeld ?_
          refine tk 1 hHeld ?_
          refine tk 2 hHeld ?_
          refine tk 3 hHeld ?_
          refine tk 4 hHeld ?_
          refine tk 5 hHeld ?_
          refine tk 6 hHeld ?_
          refine tk 7 hHeld ?_
          refine tk 8 hHeld ?_ (hy := fun w hSw => by (try dsimp only at hSw); have k0 := (hSw.cell (p := ⟨g, o + m * 3, none⟩) HG.out).trans d0; have k1 := (hSw.cell (p := ⟨g, o + m * 3 + 1, none⟩) HG.out).trans d1; clear hSw; go_simp; try with_reducible rfl)
          refine tk 9 hHeld ?_
          refine tk 10 hHeld ?_ (hy := fun w hSw => by (try dsimp only at hSw); have k0 := (hSw.cell (p := ⟨wo.heap.size, 0, none⟩) HP1.out.lt).trans (HP1.out.at_ 0 rfl); have k1 := (hSw.cell (p := ⟨wo.heap.size, 1, none⟩) HP1.out.lt).trans (HP1.out.at_ 1 rfl); clear hSw; go_simp; try with_reducible rfl)
          refine rd1 11 (fun K hK => ?_)
          go_simp
          go_at_call 143
          refine (bylab_b HLI.out).mono ?_
          intro e w2 h
          obtain ⟨rfl, hb⟩ := isI_elim h
          clear h
          refine hK.out _ _ (hHeld.trans (hb.mono hHeld.size)) (fun hHeld => ?_)
          clear hK K hb
          refine tk 12 hHeld ?_
          refine tk 13 hHeld ?_
          refine rd0 ?_
          have HF := Lib.hid hHeld
          clear hHeld
          have HB2 := Lib.hid (HB1.out.trans (HF.out.mono hz1))
          clear HF
          go_wp2
          go_ret
          exact resB_no HN.out HB2.out
        · have hdg : decide (li ≥ 0) = false := decide_eq_false hge
          have hdg2 : decide (0 ≤ li) = false := decide_eq_false hge
          have HLT := Lib.hid (show ltB (y0, y1) (x0, x1) from Classical.byContradiction fun h => hge (by rw [← HLI.out]; exact (SortC.labI_ge _ _ _ _).2 h))
          clear hge
          go_wp2_with fail
          rw [← hw1]
          clear hw1 hbA e0 e1 e2
          refine wp_region_held_drew (S := (fun V => Below (w1).heap.size (w1) V)) (by kernel_rfl) ((Below.refl _ _).drew) (fun hHeld => ?_)
          refine tk 0 hHeld ?_
          refine tk 1 hHeld ?_
          refine tk 2 hHeld ?_
          refine tk 3 hHeld ?_
          refine tk 4 hHeld ?_
          refine tk 5 hHeld ?_
          refine tk 6 hHeld ?_
          refine tk 7 hHeld ?_
          refine tk 8 hHeld ?_ (hy := fun w hSw => by (try dsimp only at hSw); have k0 := (hSw.cell (p := ⟨g, o + m * 3, none⟩) HG.out).trans d0; have k1 := (hSw.cell (p := ⟨g, o + m * 3 + 1, none⟩) HG.out).trans d1; clear hSw; go_simp; try with_reducible rfl)
          refine tk 9 hHeld ?_
          refine tk 10 hHeld ?_ (hy := fun w hSw => by (try dsimp only at hSw); have k0 := (hSw.cell (p := ⟨wo.heap.size, 0, none⟩) HP1.out.lt).trans (HP1.out.at_ 0 rfl); have k1 := (hSw.cell (p := ⟨wo.heap.size, 1, none⟩) HP1.out.lt).trans (HP1.out.at_ 1 rfl); clear hSw; go_simp; try with_reducible rfl)
          refine rd1 11 (fun K hK => ?_)
          go_simp
          go_at_call 143
          refine (bylab_b HLI.out).mono ?_
          intro e w2 h
          obtain ⟨rfl, hb⟩ := isI_elim h
          clear h
          refine hK.out _ _ (hHeld.trans (hb.mono hHeld.size)) (fun hHeld => ?_)
          clear hK K hb
          refine tk 12 hHeld ?_
          refine tk 13 hHeld ?_
          refine rd0 ?_
          have HF := Lib.hid hHeld
          clear hHeld
          have HB2 := Lib.hid (HB1.out.trans (HF.out.mono hz1))
          have HP2 := Lib.hid (HP1.out.call HF.out)
          clear HF d0 d1
          have q0 := HP2.out.at_ 0 rfl
          have q1 := HP2.out.at_ 1 rfl
          have q2 := HP2.out.at_ 2 rfl
          go_wp2_with fail
          refine (contains_lab (rd_mv R_Label_ok HL.out HB2.out)).mono ?_
          intro e w7 h
          obtain ⟨z, rfl, hz, hb⟩ := resB_elim h
          have HZ1 := Lib.hid hz
          have HB7 := Lib.hid (HB2.out.trans (hb.mono HB2.out.size))
          have HP7 := Lib.hid (HP2.out.call hb)
          clear h hz hb q0 q1 q2
          have q0 := HP7.out.at_ 0 rfl
          have q1 := HP7.out.at_ 1 rfl
          have q2 := HP7.out.at_ 2 rfl
          cases z with
          | false =>
            have HN := Lib.hid (show ¬ QuotasR L Q from fun h => by have := HZ1.out.2 (h (m + 1) _ HX.out).1; cases this)
            go_wp2
            go_ret
            exact resB_no HN.out HB7.out
          | true =>
          have HM1 := Lib.hid (HZ1.out.1 rfl)
          go_wp2_with fail
          refine (wi_at _ _ _ HI.out _).mono ?_
          rintro e w8 ⟨rfl, rfl⟩
          cases zi with
          | false =>
            have HN := Lib.hid (show ¬ QuotasR L Q from fun h => by have h2 : isB x2 1 9 = true := (h (m + 1) _ HX.out).2.1; rw [HI.out] at h2; cases h2)
            go_wp2
            go_ret
            exact resB_no HN.out HB7.out
          | true =>
            have HA2 := Lib.hid (show ∀ (j : Nat) x, j < (m + 1) + 1 → Q[j]? = some x → okQ L Q j x from fun q y hq hy => by
              by_cases e : q = (m + 1)
              · subst e; rw [HX.out] at hy; obtain rfl := Option.some.inj hy
                exact ⟨HM1.out, HI.out, fun _ z hz => by rw [Nat.add_sub_cancel, HY.out] at hz; obtain rfl := Option.some.inj hz; exact HLT.out⟩
              · exact HA.out q y (by omega) hy)
            go_wp2
            go_roundw
            case rel => exact ⟨(m + 1) + 1, by omega, by go_num, HA2, HB7.out⟩
            case measure => simp [intOf]; omega
    · have hdl : decide ((k : Int) < (Q.length : Int)) = false := decide_eq_false (by omega)
      have HY := Lib.hid (show QuotasR L Q from fun i x hx => HA.out i x (by have := el_lt hx; omega) hx)
      clear hB
      go_wp2
      go_ret
      exact resB_yes HY.out HB.out
end Go.Proofs.YtelhmacfljffhaaGreat.RepC
end
section
namespace Go.Proofs.YtelhmacfljffhaaGreat.RepC
open Go.RowKit RowC ValC SpanC KeptC CfC
set_option linter.unusedVariables false
set_option linter.unusedSimpArgs false
set_option maxRecDepth 100000 in
set_option maxHeartbeats 1600000 in
theorem config_impl {C : List (List D_Label)} {P : List D_Pair} {Q : List D_Quota} {hf : Int} {ca pa qa : Option Addr} {cc pc qc : Nat} {W : World} (hC : RdSl (Sl R_Label) W W.heap.size C ca cc) (hP : RdSl R_Pair W W.heap.size P pa pc) (hQ : RdSl R_Quota W W.heap.size Q qa qc) :
    Calls Tryz.prog 35 #[.agg #[.slice ca C.length cc, .slice pa P.length pc, .slice qa Q.length qc, .int .i64 hf]] W (IsB (cfgB C P Q hf) W) := by
  obtain ⟨z, hz⟩ : ∃ z, cfgB C P Q hf = z := ⟨_, rfl⟩
  have HZ := Lib.hid (show z = true ↔ CfgR C P Q hf from by rw [← hz]; exact cfgB_iff)
  rw [hz]
  clear hz
  refine Calls.mono ?_ fun e w' h => resB_at HZ.out h
  obtain ⟨zh, hzh⟩ : ∃ z, isB hf 1 9 = z := ⟨_, rfl⟩
  have HH := Lib.hid hzh
  clear hzh HZ
  obtain ⟨M, hM⟩ : ∃ M, labsOf C = M := ⟨_, rfl⟩
  have HMr := Lib.hid (show ∀ a ∈ M, LabC.rP a.1 a.2 from by rw [← hM]; exact fun a ha => (mem_labs.1 ha).1)
  have HMs := Lib.hid (show M.Pairwise ltB from by rw [← hM]; exact labs_sorted C 32)
  have HM := Lib.hid hM
  clear hM
  obtain ⟨w0, hw0⟩ : ∃ w, w = W.alloc (.cells #[.slice ca C.length cc, .slice pa P.length pc, .slice qa Q.length qc, .int .i64 hf] 38) := ⟨_, rfl⟩
  have hb0 : Below W.heap.size W w0 := by rw [hw0]; exact (Below.refl _ _).alloc (Nat.le_refl _) _
  have x0 : Blk w0 (W.heap.size) 38 #[.slice ca C.length cc, .slice pa P.length pc, .slice qa Q.length qc, .int .i64 hf] := by
    have h9 := Blk.new W 38 #[.slice ca C.length cc, .slice pa P.length pc, .slice qa Q.length qc, .int .i64 hf]
    try simp only [World.size_alloc] at h9
    rw [hw0]; exact h9
  have X0 := Lib.hid x0
  have HC := Lib.hid (rd_mv (Sl_ok R_Label_ok) hC hb0)
  have HP := Lib.hid (rd_mv R_Pair_ok hP hb0)
  have HQ := Lib.hid (rd_mv R_Quota_ok hQ hb0)
  have HB0 := Lib.hid hb0
  have hz0 := hb0.size
  clear hb0 hC hP hQ x0
  go_enter Tryz.func35, Tryz.ntmps35
  have qX0_0 := X0.out.at_ 0 rfl
  have qX0_1 := X0.out.at_ 1 rfl
  have qX0_2 := X0.out.at_ 2 rfl
  have qX0_3 := X0.out.at_ 3 rfl
  go_wp2_with fail
  rw [← hw0]
  clear hw0
  refine (clearright_impl HC.out).mono ?_
  intro e v1 h
  obtain ⟨z1, rfl, hz1, hb1⟩ := resB_elim h
  have HZ1 := Lib.hid hz1
  have HC := Lib.hid (rd_mv (Sl_ok R_Label_ok) HC.out hb1)
  have HP := Lib.hid (rd_mv R_Pair_ok HP.out hb1)
  have HQ := Lib.hid (rd_mv R_Quota_ok HQ.out hb1)
  have X0 := Lib.hid (X0.out.call hb1)
  have HB0 := Lib.hid (HB0.out.trans (hb1.mono HB0.out.size))
  clear h hz1 hb1 qX0_0 qX0_1 qX0_2 qX0_3
  have qX0_0 := X0.out.at_ 0 rfl
  have qX0_1 := X0.out.at_ 1 rfl
  have qX0_2 := X0.out.at_ 2 rfl
  have qX0_3 := X0.out.at_ 3 rfl
  cases z1 with
  | false =>
    have HN := Lib.hid (show ¬ CfgR C P Q hf from fun h => by have := HZ1.out.2 (h.1); cases this)
    go_wp2
    go_ret
    exact resB_no HN.out HB0.out
  | true =>
  have HY1 := Lib.hid (HZ1.out.1 rfl)
  go_wp2_with fail
  have hlb := labs_impl HY1.out HC.out
  rw [HM.out] at hlb
  refine hlb.mono ?_
  intro e v2 h
  obtain ⟨la, lc, rfl, ho, hb2⟩ := newS_elim h
  have HL := Lib.hid (ho.rd R_Label_ok (B := v2.heap.size) fun k hk => hk.2)
  have HC := Lib.hid (rd_mv (Sl_ok R_Label_ok) HC.out hb2)
  have HP := Lib.hid (rd_mv R_Pair_ok HP.out hb2)
  have HQ := Lib.hid (rd_mv R_Quota_ok HQ.out hb2)
  have X0 := Lib.hid (X0.out.call hb2)
  have HB0 := Lib.hid (HB0.out.trans (hb2.mono HB0.out.size))
  clear h ho hlb hb2 qX0_0 qX0_1 qX0_2 qX0_3
  have qX0_0 := X0.out.at_ 0 rfl
  have qX0_1 := X0.out.at_ 1 rfl
  have qX0_2 := X0.out.at_ 2 rfl
  have qX0_3 := X0.out.at_ 3 rfl
  by_cases h8 : M.length ≤ 8
  rotate_left
  · have hd : decide ((M.length : Int) ≤ 8) = false := decide_eq_false (by omega)
    have hd' : decide (M.length ≤ 8) = false := decide_eq_false h8
    have HN := Lib.hid (show ¬ CfgR C P Q hf from fun h => h8 (by rw [← HM.out]; exact h.2.2.1))
    go_wp2
    go_ret
    exact resB_no HN.out HB0.out
  have hd : decide ((M.length : Int) ≤ 8) = true := decide_eq_true (by omega)
  have hd' : decide (M.length ≤ 8) = true := decide_eq_true h8
  go_wp2_with fail
  refine (pairs_impl HMr.out HL.out HP.out).mono ?_
  intro e v3 h
  obtain ⟨z3, rfl, hz3, hb3⟩ := resB_elim h
  have HZ3 := Lib.hid hz3
  have HC := Lib.hid (rd_mv (Sl_ok R_Label_ok) HC.out hb3)
  have HP := Lib.hid (rd_mv R_Pair_ok HP.out hb3)
  have HQ := Lib.hid (rd_mv R_Quota_ok HQ.out hb3)
  have HL := Lib.hid (rd_mv R_Label_ok HL.out hb3)
  have X0 := Lib.hid (X0.out.call hb3)
  have HB0 := Lib.hid (HB0.out.trans (hb3.mono HB0.out.size))
  clear h hz3 hb3 qX0_0 qX0_1 qX0_2 qX0_3
  have qX0_0 := X0.out.at_ 0 rfl
  have qX0_1 := X0.out.at_ 1 rfl
  have qX0_2 := X0.out.at_ 2 rfl
  have qX0_3 := X0.out.at_ 3 rfl
  cases z3 with
  | false =>
    have HN := Lib.hid (show ¬ CfgR C P Q hf from fun h => by have := HZ3.out.2 (by rw [← HM.out]; exact h.2.2.2.1); cases this)
    go_wp2
    go_ret
    exact resB_no HN.out HB0.out
  | true =>
  have HY3 := Lib.hid (HZ3.out.1 rfl)
  go_wp2_with fail
  refine (quotas_impl HL.out HQ.out).mono ?_
  intro e v4 h
  obtain ⟨z4, rfl, hz4, hb4⟩ := resB_elim h
  have HZ4 := Lib.hid hz4
  have HC := Lib.hid (rd_mv (Sl_ok R_Label_ok) HC.out hb4)
  have HP := Lib.hid (rd_mv R_Pair_ok HP.out hb4)
  have HQ := Lib.hid (rd_mv R_Quota_ok HQ.out hb4)
  have HL := Lib.hid (rd_mv R_Label_ok HL.out hb4)
  have X0 := Lib.hid (X0.out.call hb4)
  have HB0 := Lib.hid (HB0.out.trans (hb4.mono HB0.out.size))
  clear h hz4 hb4 qX0_0 qX0_1 qX0_2 qX0_3
  have qX0_0 := X0.out.at_ 0 rfl
  have qX0_1 := X0.out.at_ 1 rfl
  have qX0_2 := X0.out.at_ 2 rfl
  have qX0_3 := X0.out.at_ 3 rfl
  cases z4 with
  | false =>
    have HN := Lib.hid (show ¬ CfgR C P Q hf from fun h => by have := HZ4.out.2 (by rw [← HM.out]; exact h.2.2.2.2); cases this)
    go_wp2
    go_ret
    exact resB_no HN.out HB0.out
  | true =>
  have HY4 := Lib.hid (HZ4.out.1 rfl)
  go_wp2_with fail
  refine (wi_at _ _ _ HH.out _).mono ?_
  rintro e w9 ⟨rfl, rfl⟩
  cases zh with
  | false =>
    have HN := Lib.hid (show ¬ CfgR C P Q hf from fun h => by have := h.2.1; rw [HH.out] at this; cases this)
    go_wp2
    go_ret
    exact resB_no HN.out HB0.out
  | true =>
  have HY := Lib.hid (show CfgR C P Q hf from ⟨HY1.out, HH.out, by rw [HM.out]; exact h8, by rw [HM.out]; exact HY3.out, by rw [HM.out]; exact HY4.out⟩)
  go_wp2
  go_ret
  exact resB_yes HY.out HB0.out
end Go.Proofs.YtelhmacfljffhaaGreat.RepC
end
section
namespace Go.Proofs.YtelhmacfljffhaaGreat.RepC
open Go.RowKit RowC ValC SpanC KeptC
set_option linter.unusedVariables false
set_option linter.unusedSimpArgs false
set_option maxRecDepth 100000 in
set_option maxHeartbeats 3200000 in
theorem copied_impl {C : List (List D_Label)} {P : List D_Pair} {Q : List D_Quota} {hf : Int} {ca pa qa : Option Addr} {cc pc qc : Nat} {W : World} (hR : CfgR C P Q hf) (hq : Q.length ≤ 1048576) (hC : RdSl (Sl R_Label) W W.heap.size C ca cc) (hP : RdSl R_Pair W W.heap.size P pa pc) (hQ : RdSl R_Quota W W.heap.size Q qa qc) :
    Calls Tryz.prog 54 #[.agg #[.slice ca C.length cc, .slice pa P.length pc, .slice qa Q.length qc, .int .i64 hf]] W (NewV R_Config (C, P, Q, hf) W) := by
  have hcl := hR.1
  have hp4 : P.length ≤ 1048576 := Nat.le_trans hR.2.2.2.1.1 (by omega)
  have HCW := Lib.hid hC
  have HPW := Lib.hid hP
  have HQW := Lib.hid hQ
  clear hR hC hP hQ
  obtain ⟨w0, hw0⟩ : ∃ w, w = (W.alloc (.cells #[.slice ca C.length cc, .slice pa P.length pc, .slice qa Q.length qc, .int .i64 hf] 38)).alloc (.cells #[.slice none 0 0, .slice none 0 0, .slice none 0 0, .int .i64 0] 38) := ⟨_, rfl⟩
  have hb0 : Below W.heap.size W w0 := by rw [hw0]; exact ((Below.refl _ _).alloc (Nat.le_refl _) _).alloc (by simp) _
  have x0_ : Blk w0 (W.heap.size) 38 #[.slice ca C.length cc, .slice pa P.length pc, .slice qa Q.length qc, .int .i64 hf] := by
    have h9 := Blk.new W 38 #[.slice ca C.length cc, .slice pa P.length pc, .slice qa Q.length qc, .int .i64 hf]
    try simp only [World.size_alloc] at h9
    rw [hw0]; exact (h9.alloc _)
  have X0 := Lib.hid x0_
  have x1_ : Blk w0 (W.heap.size + 1) 38 #[.slice none 0 0, .slice none 0 0, .slice none 0 0, .int .i64 0] := by
    have h9 := Blk.new (W.alloc (.cells #[.slice ca C.length cc, .slice pa P.length pc, .slice qa Q.length qc, .int .i64 hf] 38)) 38 #[.slice none 0 0, .slice none 0 0, .slice none 0 0, .int .i64 0]
    try simp only [World.size_alloc] at h9
    rw [hw0]; exact h9
  have X1 := Lib.hid x1_
  have HB0 := Lib.hid hb0
  have hz0 := hb0.size
  clear hb0  x0_ x1_
  have hs0 : w0.heap.size = W.heap.size + 1 + 1 := by rw [hw0]; simp
  go_enter Tryz.func54, Tryz.ntmps54
  go_upto_region 1 with fail
  rw [← hw0]
  clear hw0
  refine wp_region_held_drew (S := fun V => Below W.heap.size W V ∧ Blk V W.heap.size 38 #[.slice ca C.length cc, .slice pa P.length pc, .slice qa Q.length qc, .int .i64 hf] ∧ ∃ cs, Blk V (W.heap.size + 1) 38 cs) (by kernel_rfl) (⟨HB0.out.drew, X0.out.call (Below.refl _ w0).drew, ⟨_, X1.out.call (Below.refl _ w0).drew⟩⟩) (fun hHeld => ?_)
  refine tk 0 hHeld ?_
  refine tk 1 hHeld ?_ (hy := fun w hSw => by (try dsimp only at hSw); have k0 := hSw.2.1.at_ 0 rfl; clear hSw; go_simp; try with_reducible rfl)
  refine tk 3 hHeld ?_
  refine tk 4 hHeld ?_ (hy := fun w hSw => by (try dsimp only at hSw); have k0 := hSw.2.1.at_ 1 rfl; clear hSw; go_simp; try with_reducible rfl)
  refine tk 6 hHeld ?_
  refine tk 7 hHeld ?_ (hy := fun w hSw => by (try dsimp only at hSw); have k0 := hSw.2.1.at_ 2 rfl; clear hSw; go_simp; try with_reducible rfl)
  refine tk 9 hHeld ?_
  refine tk 10 hHeld ?_ (hy := fun w hSw => by (try dsimp only at hSw); have k0 := hSw.2.1.at_ 3 rfl; clear hSw; go_simp; try with_reducible rfl)
  refine rd1 2 (fun K hK => ?_)
  go_simp
  go_at_call 114
  refine (copyclear_impl hcl (rd_mv (Sl_ok R_Label_ok) HCW.out hHeld.1)).mono ?_
  intro e w2 h
  obtain ⟨a0, c0, rfl, ho, hb⟩ := newS_elim h
  have HO0 := Lib.hid (show OwSl (Sl R_Label) w2 (Rg w0.heap.size w2.heap.size) C a0 c0 from ho)
  have hz2 : w0.heap.size ≤ w2.heap.size := hb.size
  clear ho
  have X1 := Lib.hid (X1.out.call ((Below.refl _ w0).drew.trans hb))
  refine hK.out _ _ ⟨hHeld.1.trans (hb.mono hHeld.1.size), hHeld.2.1.call hb, by obtain ⟨_, hh⟩ := hHeld.2.2; exact ⟨_, hh.call hb⟩⟩ (fun hHeld => ?_)
  clear hK K h hb
  refine rd1 5 (fun K hK => ?_)
  go_simp
  go_at_call 115
  refine (clone_pair hp4 (rd_mv R_Pair_ok HPW.out hHeld.1)).mono ?_
  intro e w3 h
  obtain ⟨a1, c1, rfl, ho, hb⟩ := newS_elim h
  have HO1 := Lib.hid ho
  have HO0 := Lib.hid (HO0.out.keep (Sl_ok R_Label_ok) fun q hq => hb.block q hq.2)
  have hz3 : w2.heap.size ≤ w3.heap.size := hb.size
  clear ho
  have X1 := Lib.hid (X1.out.call hb)
  refine hK.out _ _ ⟨hHeld.1.trans (hb.mono hHeld.1.size), hHeld.2.1.call hb, by obtain ⟨_, hh⟩ := hHeld.2.2; exact ⟨_, hh.call hb⟩⟩ (fun hHeld => ?_)
  clear hK K h hb
  refine rd1 8 (fun K hK => ?_)
  go_simp
  go_at_call 116
  refine (clone_quota hq (rd_mv R_Quota_ok HQW.out hHeld.1)).mono ?_
  intro e w4 h
  obtain ⟨a2, c2, rfl, ho, hb⟩ := newS_elim h
  have HO2 := Lib.hid ho
  have HO0 := Lib.hid (HO0.out.keep (Sl_ok R_Label_ok) fun q hq => hb.block q (Nat.lt_of_lt_of_le hq.2 hz3))
  have HO1 := Lib.hid (HO1.out.keep R_Pair_ok fun q hq => hb.block q hq.2)
  have hz4 : w3.heap.size ≤ w4.heap.size := hb.size
  clear ho
  have X1 := Lib.hid (X1.out.call hb)
  refine hK.out _ _ ⟨hHeld.1.trans (hb.mono hHeld.1.size), hHeld.2.1.call hb, by obtain ⟨_, hh⟩ := hHeld.2.2; exact ⟨_, hh.call hb⟩⟩ (fun hHeld => ?_)
  clear hK K h hb
  refine tk 11 hHeld ?_
  refine rd1 12 (fun K hK => ?_)
  have q0 := X1.out.at_ 0 rfl
  have q1 := X1.out.at_ 1 rfl
  have q2 := X1.out.at_ 2 rfl
  have q3 := X1.out.at_ 3 rfl
  have f0 := X1.out.soft 0
  have f1 := X1.out.soft 1
  have f2 := X1.out.soft 2
  have f3 := X1.out.soft 3
  go_simp
  have HST := Lib.hid (soff_Config w4 (W.heap.size + 1) (.slice a0 C.length c0) (.slice a1 P.length c1) (.slice a2 Q.length c2) (.int .i64 hf))
  have HSB := Lib.hid (sets_Config (w := w4) (g := W.heap.size + 1) (v0 := .slice a0 C.length c0) (v1 := .slice a1 P.length c1) (v2 := .slice a2 Q.length c2) (v3 := .int .i64 hf) X1.out)
  refine hK.out _ _ ⟨bel_off hHeld.1 HST.out (fun k hk => by rw [hk]; omega) hHeld.1.size, Blk.off hHeld.2.1 HST.out hHeld.2.1.lt (by omega), ⟨_, HSB.out⟩⟩ (fun hHeld => ?_)
  clear hK K q0 f0 q1 f1 q2 f2 q3 f3
  refine rd0 ?_
  have HBF := Lib.hid hHeld.1
  clear hHeld
  have r0 := HSB.out.at_ 0 rfl
  have r1 := HSB.out.at_ 1 rfl
  have r2 := HSB.out.at_ 2 rfl
  have r3 := HSB.out.at_ 3 rfl
  go_wp2
  refine bodyPost_ret (v := .agg #[.slice a0 C.length c0, .slice a1 P.length c1, .slice a2 Q.length c2, .int .i64 hf]) (by simp [results, Tryz.results54, go_sem, *]) rfl ⟨[.slice a0 C.length c0, .slice a1 P.length c1, .slice a2 Q.length c2, .int .i64 hf], rfl, ?_, HBF.out⟩
  have hsz := HST.out.size
  have hoff : ∀ q, w0.heap.size ≤ q → q < w4.heap.size → q < w4.heap.size ∧ ¬ q = W.heap.size + 1 := fun q h1 h2 => ⟨h2, by omega⟩
  exact mkow_Config (T0 := Rg w0.heap.size w2.heap.size) (T1 := Rg w2.heap.size w3.heap.size) (T2 := Rg w3.heap.size w4.heap.size) (fun k hk => ⟨by have := hk.1; omega, by have := hk.2; omega⟩) (fun k hk => ⟨by have := hk.1; omega, by have := hk.2; omega⟩) (fun k hk => ⟨by have := hk.1; omega, by have := hk.2; omega⟩) (fun k h h' => by have h1 := h.2; have h2 := h'.1; omega) (fun k h h' => by have h1 := h.2; have h2 := h'.1; omega) (fun k h h' => by have h1 := h.2; have h2 := h'.1; omega) (ow_off (Sl_ok R_Label_ok) HO0.out HST.out fun q hq => hoff q hq.1 (by have := hq.2; omega)) (ow_off R_Pair_ok HO1.out HST.out fun q hq => hoff q (by have := hq.1; omega) (by have := hq.2; omega)) (ow_off R_Quota_ok HO2.out HST.out fun q hq => hoff q (by have := hq.1; omega) hq.2)
end Go.Proofs.YtelhmacfljffhaaGreat.RepC
end
section
namespace Go.Proofs.YtelhmacfljffhaaGreat.RepC
open Go.RowKit RowC ValC SpanC KeptC
set_option linter.unusedVariables false
set_option linter.unusedSimpArgs false
set_option maxRecDepth 100000 in
set_option maxHeartbeats 3200000 in
theorem yardnew_impl {C : List (List D_Label)} {P : List D_Pair} {Q : List D_Quota} {hf : Int} {ca pa qa : Option Addr} {cc pc qc : Nat} {W : World} (hq : Q.length ≤ 1048576) (hC : RdSl (Sl R_Label) W W.heap.size C ca cc) (hP : RdSl R_Pair W W.heap.size P pa pc) (hQ : RdSl R_Quota W W.heap.size Q qa qc) :
    Calls Tryz.prog 13 #[.agg #[.slice ca C.length cc, .slice pa P.length pc, .slice qa Q.length qc, .int .i64 hf]] W (NewV R_YardOut (newY C P Q hf) W) := by
  obtain ⟨DR, hDR⟩ : ∃ d, newY C P Q hf = d := ⟨_, rfl⟩
  have HDR := Lib.hid hDR
  rw [hDR]
  clear hDR
  have hCn : C.length ≤ 9223372036854775807 := by have h1 := hC.1; have h2 := hC.2.1; unfold maxLen at h2; omega
  obtain ⟨z, hz⟩ : ∃ z, cfgB C P Q hf = z := ⟨_, rfl⟩
  have HZ := Lib.hid hz
  clear hz
  have HCW := Lib.hid hC
  have HPW := Lib.hid hP
  have HQW := Lib.hid hQ
  clear hC hP hQ
  obtain ⟨w0, hw0⟩ : ∃ w, w = (W.alloc (.cells #[.slice ca C.length cc, .slice pa P.length pc, .slice qa Q.length qc, .int .i64 hf] 38)).alloc (.cells #[.slice none 0 0, .slice none 0 0, .slice none 0 0, .int .i64 0, .slice none 0 0, .slice none 0 0, .slice none 0 0, .int .i64 0, .int .i64 0, .int .i64 0] 49) := ⟨_, rfl⟩
  have hb0 : Below W.heap.size W w0 := by rw [hw0]; exact ((Below.refl _ _).alloc (Nat.le_refl _) _).alloc (by simp) _
  have x0_ : Blk w0 (W.heap.size) 38 #[.slice ca C.length cc, .slice pa P.length pc, .slice qa Q.length qc, .int .i64 hf] := by
    have h9 := Blk.new W 38 #[.slice ca C.length cc, .slice pa P.length pc, .slice qa Q.length qc, .int .i64 hf]
    try simp only [World.size_alloc] at h9
    rw [hw0]; exact (h9.alloc _)
  have X0 := Lib.hid x0_
  have x1_ : Blk w0 (W.heap.size + 1) 49 #[.slice none 0 0, .slice none 0 0, .slice none 0 0, .int .i64 0, .slice none 0 0, .slice none 0 0, .slice none 0 0, .int .i64 0, .int .i64 0, .int .i64 0] := by
    have h9 := Blk.new (W.alloc (.cells #[.slice ca C.length cc, .slice pa P.length pc, .slice qa Q.length qc, .int .i64 hf] 38)) 49 #[.slice none 0 0, .slice none 0 0, .slice none 0 0, .int .i64 0, .slice none 0 0, .slice none 0 0, .slice none 0 0, .int .i64 0, .int .i64 0, .int .i64 0]
    try simp only [World.size_alloc] at h9
    rw [hw0]; exact h9
  have X1 := Lib.hid x1_
  have HB0 := Lib.hid hb0
  have hz0 := hb0.size
  clear hb0  x0_ x1_
  have hs0 : w0.heap.size = W.heap.size + 1 + 1 := by rw [hw0]; simp
  go_enter Tryz.func13, Tryz.ntmps13
  go_upto_region 1 with fail
  rw [← hw0]
  clear hw0
  have qX0_0 := X0.out.at_ 0 rfl
  have qX0_1 := X0.out.at_ 1 rfl
  have qX0_2 := X0.out.at_ 2 rfl
  have qX0_3 := X0.out.at_ 3 rfl
  go_wp2_with fail
  have hcx := config_impl (rd_mv (Sl_ok R_Label_ok) HCW.out HB0.out) (rd_mv R_Pair_ok HPW.out HB0.out) (rd_mv R_Quota_ok HQW.out HB0.out) (hf := hf)
  rw [HZ.out] at hcx
  refine hcx.mono ?_
  intro e w1 h
  obtain ⟨rfl, hb⟩ := isB_elim h
  have HB1 := Lib.hid (HB0.out.trans (hb.mono hz0))
  have Y0 := Lib.hid (X0.out.call hb)
  have Y1 := Lib.hid (X1.out.call hb)
  have hz1 : w0.heap.size ≤ w1.heap.size := hb.size
  clear h hb hcx X0 X1 qX0_0 qX0_1 qX0_2 qX0_3
  cases z with
  | false =>
    obtain rfl : DR = zeroOut 1 := HDR.out.symm.trans (newY_no HZ.out)
    have q0 := Y1.out.at_ 0 rfl
    have f0 := Y1.out.soft 0
    have q1 := Y1.out.at_ 1 rfl
    have f1 := Y1.out.soft 1
    have q2 := Y1.out.at_ 2 rfl
    have f2 := Y1.out.soft 2
    have q3 := Y1.out.at_ 3 rfl
    have f3 := Y1.out.soft 3
    have q4 := Y1.out.at_ 4 rfl
    have f4 := Y1.out.soft 4
    have q5 := Y1.out.at_ 5 rfl
    have f5 := Y1.out.soft 5
    have q6 := Y1.out.at_ 6 rfl
    have f6 := Y1.out.soft 6
    have q7 := Y1.out.at_ 7 rfl
    have f7 := Y1.out.soft 7
    have q8 := Y1.out.at_ 8 rfl
    have f8 := Y1.out.soft 8
    have q9 := Y1.out.at_ 9 rfl
    have f9 := Y1.out.soft 9
    have HST := Lib.hid (soff_YardOut w1 (W.heap.size + 1) (.slice none 0 0) (.slice none 0 0) (.slice none 0 0) (.int .i64 0) (.slice none 0 0) (.slice none 0 0) (.slice none 0 0) (.int .i64 0) (.int .i64 0) (.int .i64 1))
    have HSB := Lib.hid (sets_YardOut (w := w1) (g := W.heap.size + 1) (v0 := .slice none 0 0) (v1 := .slice none 0 0) (v2 := .slice none 0 0) (v3 := .int .i64 0) (v4 := .slice none 0 0) (v5 := .slice none 0 0) (v6 := .slice none 0 0) (v7 := .int .i64 0) (v8 := .int .i64 0) (v9 := .int .i64 1) Y1.out)
    have HBF := Lib.hid (bel_off HB1.out HST.out (fun k hk => by rw [hk]; omega) HB1.out.size)
    have r0 := HSB.out.at_ 0 rfl
    have r1 := HSB.out.at_ 1 rfl
    have r2 := HSB.out.at_ 2 rfl
    have r3 := HSB.out.at_ 3 rfl
    have r4 := HSB.out.at_ 4 rfl
    have r5 := HSB.out.at_ 5 rfl
    have r6 := HSB.out.at_ 6 rfl
    have r7 := HSB.out.at_ 7 rfl
    have r8 := HSB.out.at_ 8 rfl
    have r9 := HSB.out.at_ 9 rfl
    go_wp2
    refine bodyPost_ret (v := .agg #[.slice none 0 0, .slice none 0 0, .slice none 0 0, .int .i64 0, .slice none 0 0, .slice none 0 0, .slice none 0 0, .int .i64 0, .int .i64 0, .int .i64 1]) (by simp [results, Tryz.results13, go_sem, *]) rfl ⟨[.slice none 0 0, .slice none 0 0, .slice none 0 0, .int .i64 0, .slice none 0 0, .slice none 0 0, .slice none 0 0, .int .i64 0, .int .i64 0, .int .i64 1], rfl, mk_zero 1, HBF.out⟩
  | true =>
  obtain rfl : DR = _ := HDR.out.symm.trans (newY_yes HZ.out)
  have HCR := Lib.hid (cfgB_iff.1 HZ.out)
  go_upto_region 3 with fail
  refine wp_region_held_drew (S := fun V => Below W.heap.size W V ∧ Blk V W.heap.size 38 #[.slice ca C.length cc, .slice pa P.length pc, .slice qa Q.length qc, .int .i64 hf] ∧ ∃ cs, Blk V (W.heap.size + 1) 49 cs) (by kernel_rfl) (⟨HB1.out.drew, Y0.out.call (Below.refl _ w1).drew, ⟨_, Y1.out.call (Below.refl _ w1).drew⟩⟩) (fun hHeld => ?_)
  refine tk 0 hHeld ?_ (hy := fun w hSw => by (try dsimp only at hSw); have k0 := hSw.2.1.at_ 0 rfl; have k1 := hSw.2.1.at_ 1 rfl; have k2 := hSw.2.1.at_ 2 rfl; have k3 := hSw.2.1.at_ 3 rfl; clear hSw; go_simp; try with_reducible rfl)
  refine tk 2 hHeld ?_
  refine tk 3 hHeld ?_ (hy := fun w hSw => by (try dsimp only at hSw); have k0 := hSw.2.1.at_ 0 rfl; clear hSw; go_simp; try with_reducible rfl)
  refine tk 4 hHeld ?_
  refine rd1 1 (fun K hK => ?_)
  go_simp
  go_at_call 54
  refine (copied_impl HCR.out hq (rd_mv (Sl_ok R_Label_ok) HCW.out hHeld.1) (rd_mv R_Pair_ok HPW.out hHeld.1) (rd_mv R_Quota_ok HQW.out hHeld.1)).mono ?_
  intro e w2 h
  obtain ⟨us, rfl, hu, hb⟩ := newV_elim h
  obtain ⟨a0, c0, a1, c1, a2, c2, rfl, hu⟩ := owc_Config hu
  have HO0 := Lib.hid (show R_Config.ow w2 (Rg w1.heap.size w2.heap.size) (C, P, Q, hf) [.slice a0 C.length c0, .slice a1 P.length c1, .slice a2 Q.length c2, .int .i64 hf] from hu)
  have hz2 : w1.heap.size ≤ w2.heap.size := hb.size
  clear hu
  have Y1 := Lib.hid (Y1.out.call ((Below.refl _ w1).drew.trans hb))
  refine hK.out _ _ ⟨hHeld.1.trans (hb.mono hHeld.1.size), hHeld.2.1.call hb, by obtain ⟨_, hh⟩ := hHeld.2.2; exact ⟨_, hh.call hb⟩⟩ (fun hHeld => ?_)
  clear hK K h hb
  refine rd1 5 (fun K hK => ?_)
  go_simp
  go_at_call 55
  refine (new_impl _ _).mono ?_
  intro e w3 h
  obtain ⟨a3, c3, rfl, ho, hb⟩ := newS_elim h
  have HO3 := Lib.hid ho
  have HO0 := Lib.hid (R_Config_ok.ow_keep HO0.out fun q hq => hb.block q hq.2)
  have hz3 : w2.heap.size ≤ w3.heap.size := hb.size
  clear ho
  have Y1 := Lib.hid (Y1.out.call hb)
  refine hK.out _ _ ⟨hHeld.1.trans (hb.mono hHeld.1.size), hHeld.2.1.call hb, by obtain ⟨_, hh⟩ := hHeld.2.2; exact ⟨_, hh.call hb⟩⟩ (fun hHeld => ?_)
  clear hK K h hb
  refine tk 6 hHeld ?_
  refine tk 7 hHeld ?_
  refine rd1 8 (fun K hK => ?_)
  have q0 := Y1.out.at_ 0 rfl
  have q1 := Y1.out.at_ 1 rfl
  have q2 := Y1.out.at_ 2 rfl
  have q3 := Y1.out.at_ 3 rfl
  have q4 := Y1.out.at_ 4 rfl
  have q5 := Y1.out.at_ 5 rfl
  have q6 := Y1.out.at_ 6 rfl
  have q7 := Y1.out.at_ 7 rfl
  have q8 := Y1.out.at_ 8 rfl
  have q9 := Y1.out.at_ 9 rfl
  have f0 := Y1.out.soft 0
  have f1 := Y1.out.soft 1
  have f2 := Y1.out.soft 2
  have f3 := Y1.out.soft 3
  have f4 := Y1.out.soft 4
  have f5 := Y1.out.soft 5
  have f6 := Y1.out.soft 6
  have f7 := Y1.out.soft 7
  have f8 := Y1.out.soft 8
  have f9 := Y1.out.soft 9
  go_simp
  have HST := Lib.hid (soff_YardOut w3 (W.heap.size + 1) (.slice a0 C.length c0) (.slice a1 P.length c1) (.slice a2 Q.length c2) (.int .i64 hf) (.slice a3 (newV (C.length : Int)).length c3) (.slice none 0 0) (.slice none 0 0) (.int .i64 0) (.int .i64 0) (.int .i64 0))
  have HSB := Lib.hid (sets_YardOut (w := w3) (g := W.heap.size + 1) (v0 := .slice a0 C.length c0) (v1 := .slice a1 P.length c1) (v2 := .slice a2 Q.length c2) (v3 := .int .i64 hf) (v4 := .slice a3 (newV (C.length : Int)).length c3) (v5 := .slice none 0 0) (v6 := .slice none 0 0) (v7 := .int .i64 0) (v8 := .int .i64 0) (v9 := .int .i64 0) Y1.out)
  refine hK.out _ _ ⟨bel_off hHeld.1 HST.out (fun k hk => by rw [hk]; omega) hHeld.1.size, Blk.off hHeld.2.1 HST.out hHeld.2.1.lt (by omega), ⟨_, HSB.out⟩⟩ (fun hHeld => ?_)
  clear hK K q0 f0 q1 f1 q2 f2 q3 f3 q4 f4 q5 f5 q6 f6 q7 f7 q8 f8 q9 f9
  refine rd0 ?_
  have HBF := Lib.hid hHeld.1
  clear hHeld
  have r0 := HSB.out.at_ 0 rfl
  have r1 := HSB.out.at_ 1 rfl
  have r2 := HSB.out.at_ 2 rfl
  have r3 := HSB.out.at_ 3 rfl
  have r4 := HSB.out.at_ 4 rfl
  have r5 := HSB.out.at_ 5 rfl
  have r6 := HSB.out.at_ 6 rfl
  have r7 := HSB.out.at_ 7 rfl
  have r8 := HSB.out.at_ 8 rfl
  have r9 := HSB.out.at_ 9 rfl
  go_wp2
  refine bodyPost_ret (v := .agg #[.slice a0 C.length c0, .slice a1 P.length c1, .slice a2 Q.length c2, .int .i64 hf, .slice a3 (newV (C.length : Int)).length c3, .slice none 0 0, .slice none 0 0, .int .i64 0, .int .i64 0, .int .i64 0]) (by simp [results, Tryz.results13, go_sem, *]) rfl ⟨[.slice a0 C.length c0, .slice a1 P.length c1, .slice a2 Q.length c2, .int .i64 hf, .slice a3 (newV (C.length : Int)).length c3, .slice none 0 0, .slice none 0 0, .int .i64 0, .int .i64 0, .int .i64 0], rfl, ?_, HBF.out⟩
  have hsz := HST.out.size
  have hoff : ∀ q, w1.heap.size ≤ q → q < w3.heap.size → q < w3.heap.size ∧ ¬ q = W.heap.size + 1 := fun q h1 h2 => ⟨h2, by omega⟩
  exact mk_out (cs := [.slice a0 C.length c0, .slice a1 P.length c1, .slice a2 Q.length c2, .int .i64 hf, .slice a3 (newV (C.length : Int)).length c3, .slice none 0 0, .slice none 0 0, .int .i64 0]) (mk_yard (cs := [.slice a0 C.length c0, .slice a1 P.length c1, .slice a2 Q.length c2, .int .i64 hf]) (S := Rg W.heap.size _) (SC := Rg w1.heap.size w2.heap.size) (SN := Rg w2.heap.size w3.heap.size) (ST := fun _ => False) (SU := fun _ => False) (fun k hk => ⟨by have := hk.1; omega, by have := hk.2; omega⟩) (fun k hk => ⟨by have := hk.1; omega, by have := hk.2; omega⟩) (fun k h => h.elim) (fun k h => h.elim) (fun k h h' => by have h1 := h.2; have h2 := h'.1; omega) (fun k h h' => h'.elim) (fun k h h' => h'.elim) (fun k h h' => h'.elim) (fun k h h' => h'.elim) (fun k h h' => h'.elim) (R_Config_ok.ow_keep HO0.out fun q hq => HST.out.block q (by have := hq.2; omega) (by have := hq.1; show ¬ q = W.heap.size + 1; omega)) (ow_off R_Node_ok HO3.out HST.out fun q hq => hoff q (by have := hq.1; omega) hq.2) ow_nil ow_nil)
end Go.Proofs.YtelhmacfljffhaaGreat.RepC
end
section
namespace Go.Proofs.YtelhmacfljffhaaGreat.RepC
open Go.RowKit RowC ValC SpanC KeptC
set_option linter.unusedVariables false
set_option linter.unusedSimpArgs false
theorem cm_labs : ∀ L : List D_Label, sumL R_Label.cm L = 2 * L.length
  | [] => rfl
  | x :: xs => by
    simp only [sumL, cm_labs xs, List.length_cons]
    have : R_Label.cm x = 2 := rfl
    omega
theorem sz_labs : ∀ L : List D_Label, sumL R_Label.sz L = 0
  | [] => rfl
  | x :: xs => by
    simp only [sumL, sz_labs xs]
    rfl
theorem cm_labss : ∀ C : List (List D_Label), sumL (Sl R_Label).cm C ≤ 2 * (Sl (Sl R_Label)).sz C
  | [] => Nat.zero_le _
  | x :: xs => by
    have h := cm_labss xs
    have e : (Sl (Sl R_Label)).sz (x :: xs) = (x :: xs).length + ((Sl R_Label).sz x + sumL (Sl R_Label).sz xs) := rfl
    have e2 : (Sl (Sl R_Label)).sz xs = xs.length + sumL (Sl R_Label).sz xs := rfl
    have e3 : (Sl R_Label).sz x = x.length + sumL R_Label.sz x := rfl
    have e4 : (Sl R_Label).cm x = sumL R_Label.cm x := rfl
    rw [e, e3, sz_labs]
    rw [e2] at h
    simp only [sumL, List.length_cons]
    rw [e4, cm_labs]
    omega
theorem cm_pairs : ∀ L : List D_Pair, sumL R_Pair.cm L = 5 * L.length
  | [] => rfl
  | x :: xs => by
    simp only [sumL, cm_pairs xs, List.length_cons]
    have : R_Pair.cm x = 5 := rfl
    omega
theorem cm_quotas : ∀ L : List D_Quota, sumL R_Quota.cm L = 3 * L.length
  | [] => rfl
  | x :: xs => by
    simp only [sumL, cm_quotas xs, List.length_cons]
    have : R_Quota.cm x = 3 := rfl
    omega
theorem cvs_Config {d : D_Config} (h : R_Config.sz d ≤ 1048576) : R_Config.cv d ≤ 8388608 := by
  obtain ⟨C, P, Q, hf⟩ := d
  rw [szd_Config, flat_PairS, flat_QuotaS] at h
  rw [cvd_Config, cm_pairs, cm_quotas]
  have := cm_labss C
  omega
end Go.Proofs.YtelhmacfljffhaaGreat.RepC
end
section
namespace Go.Proofs.YtelhmacfljffhaaGreat.RepC
open Go.RowKit RowC ValC
set_option linter.unusedVariables false
set_option linter.unusedSimpArgs false
theorem mmk_Span {k : Int} : R_Span.mm (k, k + 1) k (k + 1 + 1) := by
  dsimp only [R_Span, Pr, I, atom, Sl]
  exact ⟨k + 1, ⟨by omega, by omega⟩, ⟨by omega, by omega⟩⟩
theorem mme_Span {k k' : Int} {x0 : Int} {x1 : Int} (h : R_Span.mm (x0, x1) k k') : x0 = k ∧ x1 = k + 1 ∧ k' = k + 1 + 1 := by
  dsimp only [R_Span, Pr, I, atom, Sl] at h
  obtain ⟨z1, h1, g1⟩ := h
  obtain ⟨e0, f0⟩ := h1
  have e0 : x0 = _ := e0
  obtain ⟨e1, f1⟩ := g1
  have e1 : x1 = _ := e1
  exact ⟨by omega, by omega, by omega⟩
theorem R_Span_mn : Mn R_Span := (Pr_mn I_mn I_mn)
theorem mmk_Node {k kk0 : Int} {L0 : List (D_Span)} (m_L0 : mmL R_Span L0 (k + 1) kk0) : R_Node.mm (k, L0) k (kk0) := by
  dsimp only [R_Node, Pr, I, atom, Sl]
  exact ⟨k + 1, ⟨by omega, by omega⟩, m_L0⟩
theorem mme_Node {k k' : Int} {x0 : Int} {L0 : List (D_Span)} (h : R_Node.mm (x0, L0) k k') : ∃ kk0, x0 = k ∧ mmL R_Span L0 (k + 1) kk0 ∧ k' = kk0 := by
  dsimp only [R_Node, Pr, I, atom, Sl] at h
  obtain ⟨z1, h1, g1⟩ := h
  obtain ⟨e0, f0⟩ := h1
  have e0 : x0 = _ := e0
  have m_L0 : mmL R_Span L0 _ _ := g1
  exact ⟨_, by omega, cast_mm m_L0 (by omega) rfl, by omega⟩
theorem R_Node_mn : Mn R_Node := (Pr_mn I_mn (Sl_mn R_Span_mn))
theorem sizm_SpanS : (R_Span).size = 2 := rfl
set_option maxRecDepth 100000 in
set_option maxHeartbeats 3200000 in
theorem mark_SpanS {L : List (D_Span)} {a : Option Addr} {cap : Nat} {W : World} {S : Nat → Prop} {k : Int} (h0 : 0 ≤ k) (h1 : k + (sumL (R_Span).cm L : Nat) ≤ 4611686018427387904) (hS : ∀ i, S i → i < W.heap.size) (h : OwSl R_Span W S L a cap) : Calls Tryz.prog 168 #[.slice a L.length cap, .int .i64 k] W (MarkR R_Span S L a cap k W) := by
  have hcap := h.1
  have hmax := h.2.1
  have hn : L.length ≤ 9223372036854775807 := by have h2 := h.2.1; unfold maxLen at h2; omega
  have H := Lib.hid h
  have HCAP := Lib.hid hcap
  have HMAX := Lib.hid hmax
  clear h hcap hmax
  rcases Nat.eq_zero_or_pos L.length with hz | hpos
  · have HR := Lib.hid (MarkR.none_ (k := k) H.out hz)
    have HZ := Lib.hid hz
    rw [hz]
    clear hz
    go_enter Tryz.func168, Tryz.ntmps168
    go_wp2
    go_loopw [5, 1] (fun i q wr => i = .int .i64 0 ∧ q = .int .i64 k ∧ wr = W) (fun i _ _ => 0)
    case atStart => exact ⟨rfl, rfl, rfl⟩
    case round =>
      obtain ⟨rfl, rfl, rfl⟩ := hrel
      go_wp2
      go_ret
      exact HR.out
  · obtain ⟨g, Sf, rfl, hrow⟩ := H.out.row hpos
    have HM := Lib.hid (Mkd.start (k := k) hrow)
    clear hrow
    go_enter Tryz.func168, Tryz.ntmps168
    go_wp2
    go_loopw [5, 1] (fun i q wr => ∃ j : Nat, j ≤ L.length ∧ i = .int .i64 j ∧ ∃ (M : List (D_Span)) (z : Int), q = .int .i64 z ∧ Mkd R_Span W wr S L g Sf k z j M) (fun i _ _ => L.length - (intOf i).toNat)
    case atStart => exact ⟨0, Nat.zero_le _, rfl, _, _, rfl, HM.out⟩
    case round =>
      obtain ⟨j, hj, rfl, M, z, rfl, hM⟩ := hrel
      have HM2 := Lib.hid hM
      have hSw : ∀ i, S i → i < wr.heap.size := fun i hi => Nat.lt_of_lt_of_le (hS i hi) hM.off.size
      have HSW := Lib.hid hSw
      by_cases hlt : j < L.length
      · obtain ⟨⟨x0, x1⟩, hx⟩ := el_some hlt
        have HX := Lib.hid hx
        have hcm := sumL_take (R_Span).cm hx
        have hle := sumL_take_le (R_Span).cm L (j + 1)
        have hnum := hM.num
        obtain ⟨us, hu, hr⟩ := hM.el hx
        obtain rfl := ow0_Span hr
        have hgl : g < wr.heap.size := hSw g hM.row.own
        have hi0 : (0 : Int) ≤ (j : Int) := Int.natCast_nonneg _
        have hi1 : (j : Int) < (L.length : Int) := by omega
        have hz0 : 0 ≤ z := by omega
        have e0 : wr.cell? ⟨g, j * 2, none⟩ = some (.int .i64 x0) := by simpa [sizm_SpanS, Nat.add_assoc] using hu 0 _ rfl
        have e1 : wr.cell? ⟨g, j * 2 + 1, none⟩ = some (.int .i64 x1) := by simpa [sizm_SpanS, Nat.add_assoc] using hu 1 _ rfl
        have s0 := hM.row.soft (j * 2)
        have s1 := hM.row.soft (j * 2 + 1)
        have hcx : R_Span.cm (x0, x1) = 2 := by first | (simp only [R_Span, Pr, I, atom, Sl]; done) | (simp only [R_Span, Pr, I, atom, Sl]; omega)
        rw [hcm, hcx] at hle
        have hb1 : z + ((2 : Nat) : Int) ≤ 4611686018427387904 := by omega
        have hne : ¬ Sf j g := fun hg => (HM2.out.row.sub j g hg).2 rfl
        have HU0 := Lib.hid (Upd.refl wr g (j * 2) ((j + 1) * 2) (Sf j))
        have HF0 := Lib.hid (Off.refl S wr)
        clear hM hSw hx hu hcm hle hnum
        have hc := putCells_cells g [.int .i64 (z), .int .i64 (z + 1)] wr (j * 2) (fun p hp => by
          match p, hp with
          | 0, _ => exact ⟨_, by simpa [Nat.add_assoc] using e0⟩
          | 1, _ => exact ⟨_, by simpa [Nat.add_assoc] using e1⟩
          | _ + 2, hp => first | (simp at hp; done) | (simp at hp; omega))
        have d0 : (putCells wr g (j * 2) [.int .i64 (z), .int .i64 (z + 1)]).cell? ⟨g, j * 2, none⟩ = some (.int .i64 (z)) := by simpa [Nat.add_assoc] using hc 0 _ rfl
        have d1 : (putCells wr g (j * 2) [.int .i64 (z), .int .i64 (z + 1)]).cell? ⟨g, j * 2 + 1, none⟩ = some (.int .i64 (z + 1)) := by simpa [Nat.add_assoc] using hc 1 _ rfl
        have t0 : (putCells wr g (j * 2) [.int .i64 (z), .int .i64 (z + 1)]).frozen? ⟨g, j * 2, none⟩ = false := (putCells_frozen g _ _ wr _).trans s0
        have t1 : (putCells wr g (j * 2) [.int .i64 (z), .int .i64 (z + 1)]).frozen? ⟨g, j * 2 + 1, none⟩ = false := (putCells_frozen g _ _ wr _).trans s1
        have HU1 := Lib.hid (HU0.out.trans (Upd.put wr (Sf j) (g := g) (o := j * 2) (cs := [.int .i64 (z), .int .i64 (z + 1)]) ⟨by omega, by first | (simp; done) | (simp; omega)⟩))
        have HF1 := Lib.hid (HF0.out.trans ((putCells_off g [.int .i64 (z), .int .i64 (z + 1)] wr (j * 2)).more (fun x e => by rw [e]; exact HM2.out.row.own)))
        clear hc
        have hcf : CellsAt (putCells wr g (j * 2) [.int .i64 (z), .int .i64 (z + 1)]) g (j * 2) [.int .i64 (z), .int .i64 (z + 1)] := CellsAt.cons.2 ⟨d0, CellsAt.cons.2 ⟨d1, CellsAt.nil⟩⟩
        have HSTEP := Lib.hid (HM2.out.step R_Span_ok (w' := (putCells wr g (j * 2) [.int .i64 (z), .int .i64 (z + 1)])) (y := (z, z + 1)) (q' := z + 1 + 1) HSW.out HX.out HU1.out HF1.out hcf (mkow_Span) (mmk_Span) (by rw [hcx]; omega))
        clear d0 t0 d1 t1
        have hzb : 0 ≤ z + 1 + 1 ∧ z + 1 + 1 ≤ 4611686018427387904 := by omega
        clear hcf hcx
        go_wp2
        go_roundw
        case rel => exact ⟨j + 1, by omega, by go_num, _, _, rfl, by first | exact HSTEP.out | simpa [putCells, Nat.add_assoc, Int.add_assoc] using HSTEP.out⟩
        case measure => simp [intOf]; omega
      · obtain rfl : j = L.length := by omega
        have HR := Lib.hid (HM2.out.done HCAP.out HMAX.out)
        clear hM hSw
        go_wp2
        go_ret
        exact HR.out
theorem sizm_NodeS : (R_Node).size = 2 := rfl
set_option maxRecDepth 100000 in
set_option maxHeartbeats 3200000 in
theorem mark_NodeS {L : List (D_Node)} {a : Option Addr} {cap : Nat} {W : World} {S : Nat → Prop} {k : Int} (h0 : 0 ≤ k) (h1 : k + (sumL (R_Node).cm L : Nat) ≤ 4611686018427387904) (hS : ∀ i, S i → i < W.heap.size) (h : OwSl R_Node W S L a cap) : Calls Tryz.prog 121 #[.slice a L.length cap, .int .i64 k] W (MarkR R_Node S L a cap k W) := by
  have hcap := h.1
  have hmax := h.2.1
  have hn : L.length ≤ 9223372036854775807 := by have h2 := h.2.1; unfold maxLen at h2; omega
  have H := Lib.hid h
  have HCAP := Lib.hid hcap
  have HMAX := Lib.hid hmax
  clear h hcap hmax
  rcases Nat.eq_zero_or_pos L.length with hz | hpos
  · have HR := Lib.hid (MarkR.none_ (k := k) H.out hz)
    have HZ := Lib.hid hz
    rw [hz]
    clear hz
    go_enter Tryz.func121, Tryz.ntmps121
    go_wp2
    go_loopw [5, 1] (fun i q wr => i = .int .i64 0 ∧ q = .int .i64 k ∧ wr = W) (fun i _ _ => 0)
    case atStart => exact ⟨rfl, rfl, rfl⟩
    case round =>
      obtain ⟨rfl, rfl, rfl⟩ := hrel
      go_wp2
      go_ret
      exact HR.out
  · obtain ⟨g, Sf, rfl, hrow⟩ := H.out.row hpos
    have HM := Lib.hid (Mkd.start (k := k) hrow)
    clear hrow
    go_enter Tryz.func121, Tryz.ntmps121
    go_wp2
    go_loopw [5, 1] (fun i q wr => ∃ j : Nat, j ≤ L.length ∧ i = .int .i64 j ∧ ∃ (M : List (D_Node)) (z : Int), q = .int .i64 z ∧ Mkd R_Node W wr S L g Sf k z j M) (fun i _ _ => L.length - (intOf i).toNat)
    case atStart => exact ⟨0, Nat.zero_le _, rfl, _, _, rfl, HM.out⟩
    case round =>
      obtain ⟨j, hj, rfl, M, z, rfl, hM⟩ := hrel
      have HM2 := Lib.hid hM
      have hSw : ∀ i, S i → i < wr.heap.size := fun i hi => Nat.lt_of_lt_of_le (hS i hi) hM.off.size
      have HSW := Lib.hid hSw
      by_cases hlt : j < L.length
      · obtain ⟨⟨x0, L0⟩, hx⟩ := el_some hlt
        have HX := Lib.hid hx
        have hcm := sumL_take (R_Node).cm hx
        have hle := sumL_take_le (R_Node).cm L (j + 1)
        have hnum := hM.num
        obtain ⟨us, hu, hr⟩ := hM.el hx
        obtain ⟨a0, c0, T0, rfl, ts0, k_L0⟩ := ow_Node hr
        have hgl : g < wr.heap.size := hSw g hM.row.own
        have hi0 : (0 : Int) ≤ (j : Int) := Int.natCast_nonneg _
        have hi1 : (j : Int) < (L.length : Int) := by omega
        have hz0 : 0 ≤ z := by omega
        have e0 : wr.cell? ⟨g, j * 2, none⟩ = some (.int .i64 x0) := by simpa [sizm_NodeS, Nat.add_assoc] using hu 0 _ rfl
        have e1 : wr.cell? ⟨g, j * 2 + 1, none⟩ = some (.slice a0 L0.length c0) := by simpa [sizm_NodeS, Nat.add_assoc] using hu 1 _ rfl
        have s0 := hM.row.soft (j * 2)
        have s1 := hM.row.soft (j * 2 + 1)
        have hcx : R_Node.cm (x0, L0) = 1 + sumL (R_Span).cm L0 := by first | (simp only [R_Node, Pr, I, atom, Sl]; done) | (simp only [R_Node, Pr, I, atom, Sl]; omega)
        rw [hcm, hcx] at hle
        have hb1 : z + ((1 + sumL (R_Span).cm L0 : Nat) : Int) ≤ 4611686018427387904 := by omega
        have hne : ¬ Sf j g := fun hg => (HM2.out.row.sub j g hg).2 rfl
        have K_L0 := Lib.hid k_L0
        have TS0 := Lib.hid ts0
        have HU0 := Lib.hid (Upd.refl wr g (j * 2) ((j + 1) * 2) (Sf j))
        have HF0 := Lib.hid (Off.refl S wr)
        clear hM hSw hx hu hcm hle hnum k_L0 ts0
        have hc := putCells_cells g [.int .i64 (z)] wr (j * 2) (fun p hp => by
          match p, hp with
          | 0, _ => exact ⟨_, by simpa [Nat.add_assoc] using e0⟩
          | _ + 1, hp => first | (simp at hp; done) | (simp at hp; omega))
        have d0 : (putCells wr g (j * 2) [.int .i64 (z)]).cell? ⟨g, j * 2, none⟩ = some (.int .i64 (z)) := by simpa [Nat.add_assoc] using hc 0 _ rfl
        have d1 : (putCells wr g (j * 2) [.int .i64 (z)]).cell? ⟨g, j * 2 + 1, none⟩ = some (.slice a0 L0.length c0) := (putCells_other g _ wr _ (by first | (simp; done) | (simp; omega))).trans e1
        have t0 : (putCells wr g (j * 2) [.int .i64 (z)]).frozen? ⟨g, j * 2, none⟩ = false := (putCells_frozen g _ _ wr _).trans s0
        have t1 : (putCells wr g (j * 2) [.int .i64 (z)]).frozen? ⟨g, j * 2 + 1, none⟩ = false := (putCells_frozen g _ _ wr _).trans s1
        have HU1 := Lib.hid (HU0.out.trans (Upd.put wr (Sf j) (g := g) (o := j * 2) (cs := [.int .i64 (z)]) ⟨by omega, by first | (simp; done) | (simp; omega)⟩))
        have HF1 := Lib.hid (HF0.out.trans ((putCells_off g [.int .i64 (z)] wr (j * 2)).more (fun x e => by rw [e]; exact HM2.out.row.own)))
        have K_L0 := Lib.hid (OwSl.keep R_Span_ok (W' := (putCells wr g (j * 2) [.int .i64 (z)])) K_L0.out (fun q hq => putCells_block g (HM2.out.row.sub j q (TS0.out q hq)).2 _ _ _))
        clear hc
        have hbz : 0 ≤ z + 1 ∧ z + 1 + (sumL (R_Span).cm L0 : Nat) ≤ 4611686018427387904 := by omega
        have D0 := Lib.hid d0
        have F0 := Lib.hid t0
        have D1 := Lib.hid d1
        have F1 := Lib.hid t1
        clear d0 t0 d1 t1
        go_wp2_with fail
        have HSi := Lib.hid (fun q (hq : T0 q) => Nat.lt_of_lt_of_le (HSW.out q (HM2.out.row.sub j q (TS0.out q hq)).1) HF1.out.size)
        refine (mark_SpanS (W := (putCells wr g (j * 2) [.int .i64 (z)])) hbz.1 hbz.2 HSi.out K_L0.out).mono ?_
        intro e w1 h
        obtain ⟨y0, z0, rfl, hyl, hmm, hzz, how, hoff⟩ := markR_elim h
        have hgg : g < (putCells wr g (j * 2) [.int .i64 (z)]).heap.size := Nat.lt_of_lt_of_le hgl HF1.out.size
        have hnT : ¬ T0 g := fun hg => hne (TS0.out g hg)
        have n0 : w1.cell? ⟨g, j * 2, none⟩ = some (.int .i64 (z)) := (World.cell?_of_block (a := ⟨g, j * 2, none⟩) (hoff.block g hgg hnT)).trans D0.out
        have n1 : w1.cell? ⟨g, j * 2 + 1, none⟩ = some (.slice a0 L0.length c0) := (World.cell?_of_block (a := ⟨g, j * 2 + 1, none⟩) (hoff.block g hgg hnT)).trans D1.out
        have m0 : w1.frozen? ⟨g, j * 2, none⟩ = false := (World.frozen?_of_block (a := ⟨g, j * 2, none⟩) (hoff.block g hgg hnT)).trans F0.out
        have m1 : w1.frozen? ⟨g, j * 2 + 1, none⟩ = false := (World.frozen?_of_block (a := ⟨g, j * 2 + 1, none⟩) (hoff.block g hgg hnT)).trans F1.out
        have HU2 := Lib.hid (HU1.out.trans (Upd.off (hoff.more TS0.out) hgg hne))
        have HF2 := Lib.hid (HF1.out.trans (hoff.more (fun q hq => (HM2.out.row.sub j q (TS0.out q hq)).1)))
        have K_L0 := Lib.hid how
        have HMM0 := Lib.hid hmm
        have HYL0 := Lib.hid hyl
        have HZZ0 := Lib.hid hzz
        have hzn0 : 0 ≤ z0 ∧ z0 ≤ 4611686018427387904 := by omega
        clear h hyl hmm how hoff hgg hnT hbz hzz HSi D0 F0 D1 F1
        have e0 := n0
        have s0 := m0
        have e1 := n1
        have s1 := m1
        clear n0 m0 n1 m1
        have hcf : CellsAt w1 g (j * 2) [.int .i64 (z), .slice a0 y0.length c0] := CellsAt.cons.2 ⟨e0, CellsAt.cons.2 ⟨by rw [HYL0.out]; exact e1, CellsAt.nil⟩⟩
        have HSTEP := Lib.hid (HM2.out.step R_Node_ok (w' := w1) (y := (z, y0)) (q' := z0) HSW.out HX.out HU2.out HF2.out hcf (mkow_Node TS0.out K_L0.out) (mmk_Node HMM0.out) (by rw [hcx]; have q0 := HZZ0.out; omega))
        have hzb : 0 ≤ z0 ∧ z0 ≤ 4611686018427387904 := by have q0 := HZZ0.out; omega
        clear hcf hcx
        go_wp2
        go_roundw
        case rel => exact ⟨j + 1, by omega, by go_num, _, _, rfl, by first | exact HSTEP.out | simpa [putCells, Nat.add_assoc, Int.add_assoc] using HSTEP.out⟩
        case measure => simp [intOf]; omega
      · obtain rfl : j = L.length := by omega
        have HR := Lib.hid (HM2.out.done HCAP.out HMAX.out)
        clear hM hSw
        go_wp2
        go_ret
        exact HR.out
theorem sizh_SpanS : (R_Span).size = 2 := rfl
set_option maxRecDepth 100000 in
set_option maxHeartbeats 1600000 in
theorem held_SpanS {L : List (D_Span)} {a : Option Addr} {cap : Nat} {W : World} {k k' : Int} (h0 : 0 ≤ k) (h1 : k' ≤ 4611686018427387904) (hm : mmL R_Span L k k') (h : RdSl R_Span W W.heap.size L a cap) : Calls Tryz.prog 174 #[.slice a L.length cap, .int .i64 k] W (HeldC k' W) := by
  have hn : L.length ≤ 9223372036854775807 := by have h1 := h.1; have h2 := h.2.1; unfold maxLen at h2; omega
  have H := Lib.hid h
  have HM := Lib.hid hm
  clear h hm
  go_enter Tryz.func174, Tryz.ntmps174
  go_wp2
  go_loopw [5, 1] (fun i q wr => ∃ j : Nat, j ≤ L.length ∧ i = .int .i64 j ∧ (∃ z : Int, q = .int .i64 z ∧ 0 ≤ z ∧ mmL R_Span (L.drop j) z k') ∧ Below W.heap.size W wr) (fun i _ _ => L.length - (intOf i).toNat)
  case atStart => exact ⟨0, Nat.zero_le _, rfl, ⟨k, rfl, h0, HM.out⟩, Below.refl _ _⟩
  case round =>
    obtain ⟨j, hj, rfl, ⟨z, rfl, hz, hmz⟩, hB⟩ := hrel
    have HB := Lib.hid hB
    have hsz := hB.size
    by_cases hlt : j < L.length
    · obtain ⟨⟨x0, x1⟩, hx⟩ := el_some hlt
      obtain ⟨k1, hxm, hmn⟩ := mmL_drop hx hmz
      have hzb := mmL_le R_Span_mn hmn
      have hxb := R_Span_mn _ _ _ hxm
      obtain ⟨g, o, us, rfl, hg, hu, hr⟩ := (H.out.below R_Span_ok hB).at_ hx
      have HMN := Lib.hid hmn
      have hi0 : (0 : Int) ≤ (j : Int) := Int.natCast_nonneg _
      have hi1 : (j : Int) < (L.length : Int) := by omega
      obtain rfl := rd_Span hr
      obtain ⟨rfl, rfl, hk1⟩ := mme_Span hxm
      have e0 := cells_at hu 0 rfl
      have e1 := cells_at hu 1 rfl
      simp only [sizh_SpanS] at e0 e1
      simp only [← Nat.add_assoc, Nat.add_zero] at e0 e1
      have hfin : k1 ≤ 4611686018427387904 := by omega
      have HK1 := Lib.hid hk1
      clear hB hx hu hmz hmn hxm
      have HB2 := Lib.hid HB.out
      go_wp2
      go_roundw
      case rel => exact ⟨j + 1, by omega, by go_num, ⟨_, rfl, by omega, by rw [← HK1.out]; exact HMN.out⟩, HB2.out⟩
      case measure => simp [intOf]; omega
    · obtain rfl : j = L.length := by omega
      have HE := Lib.hid (mmL_end hmz)
      clear hmz hB
      go_wp2
      go_ret
      exact ⟨by rw [HE.out]; rfl, HB.out⟩
theorem sizh_NodeS : (R_Node).size = 2 := rfl
set_option maxRecDepth 100000 in
set_option maxHeartbeats 1600000 in
theorem held_NodeS {L : List (D_Node)} {a : Option Addr} {cap : Nat} {W : World} {k k' : Int} (h0 : 0 ≤ k) (h1 : k' ≤ 4611686018427387904) (hm : mmL R_Node L k k') (h : RdSl R_Node W W.heap.size L a cap) : Calls Tryz.prog 125 #[.slice a L.length cap, .int .i64 k] W (HeldC k' W) := by
  have hn : L.length ≤ 9223372036854775807 := by have h1 := h.1; have h2 := h.2.1; unfold maxLen at h2; omega
  have H := Lib.hid h
  have HM := Lib.hid hm
  clear h hm
  go_enter Tryz.func125, Tryz.ntmps125
  go_wp2
  go_loopw [5, 1] (fun i q wr => ∃ j : Nat, j ≤ L.length ∧ i = .int .i64 j ∧ (∃ z : Int, q = .int .i64 z ∧ 0 ≤ z ∧ mmL R_Node (L.drop j) z k') ∧ Below W.heap.size W wr) (fun i _ _ => L.length - (intOf i).toNat)
  case atStart => exact ⟨0, Nat.zero_le _, rfl, ⟨k, rfl, h0, HM.out⟩, Below.refl _ _⟩
  case round =>
    obtain ⟨j, hj, rfl, ⟨z, rfl, hz, hmz⟩, hB⟩ := hrel
    have HB := Lib.hid hB
    have hsz := hB.size
    by_cases hlt : j < L.length
    · obtain ⟨⟨x0, L0⟩, hx⟩ := el_some hlt
      obtain ⟨k1, hxm, hmn⟩ := mmL_drop hx hmz
      have hzb := mmL_le R_Node_mn hmn
      have hxb := R_Node_mn _ _ _ hxm
      obtain ⟨g, o, us, rfl, hg, hu, hr⟩ := (H.out.below R_Node_ok hB).at_ hx
      have HMN := Lib.hid hmn
      have hi0 : (0 : Int) ≤ (j : Int) := Int.natCast_nonneg _
      have hi1 : (j : Int) < (L.length : Int) := by omega
      obtain ⟨a0, c0, rfl, k_L0⟩ := rd_Node hr
      obtain ⟨z0, rfl, m_0, hk1⟩ := mme_Node hxm
      have e0 := cells_at hu 0 rfl
      have e1 := cells_at hu 1 rfl
      simp only [sizh_NodeS] at e0 e1
      simp only [← Nat.add_assoc, Nat.add_zero] at e0 e1
      have HXM0 := Lib.hid m_0
      have hle0 := mmL_le R_Span_mn m_0
      have K_L0 := Lib.hid (k_L0.more R_Span_ok hsz)
      have hfin : k1 ≤ 4611686018427387904 := by omega
      have HK1 := Lib.hid hk1
      clear hB hx hu hmz hmn hxm k_L0 m_0
      go_wp2_with fail
      refine (held_SpanS (k := x0 + 1) (k' := z0) (by omega) (by omega) HXM0.out K_L0.out).mono ?_
      intro e w1 h
      obtain ⟨rfl, hb⟩ := heldC_elim h
      have HBc0 := Lib.hid hb
      have hpos0 : 0 ≤ z0 := by omega
      clear h hb
      have HB2 := Lib.hid (HB.out.trans (HBc0.out.mono hsz))
      go_wp2
      go_roundw
      case rel => exact ⟨j + 1, by omega, by go_num, ⟨_, rfl, by omega, by rw [← HK1.out]; exact HMN.out⟩, HB2.out⟩
      case measure => simp [intOf]; omega
    · obtain rfl : j = L.length := by omega
      have HE := Lib.hid (mmL_end hmz)
      clear hmz hB
      go_wp2
      go_ret
      exact ⟨by rw [HE.out]; rfl, HB.out⟩
end Go.Proofs.YtelhmacfljffhaaGreat.RepC
end
section
namespace Go.Proofs.YtelhmacfljffhaaGreat.RepC
open Go.RowKit RowC ValC
set_option linter.unusedVariables false
set_option linter.unusedSimpArgs false
theorem mmk_Use {k : Int} : R_Use.mm ((k, k + 1), (mtI (k + 1 + 1)), k + 1 + 1 + 1) k (k + 1 + 1 + 1 + 1) := by
  dsimp only [R_Use, R_Label, St, Pr, I, atom, Sl]
  exact ⟨k + 1 + 1, ⟨k + 1, ⟨by omega, by omega⟩, ⟨by omega, by omega⟩⟩, ⟨k + 1 + 1 + 1, ⟨rfl, by omega⟩, ⟨by omega, by omega⟩⟩⟩
theorem mme_Use {k k' : Int} {x0 : Int} {x1 : Int} {x2 : ByteArray} {x3 : Int} (h : R_Use.mm ((x0, x1), x2, x3) k k') : x0 = k ∧ x1 = k + 1 ∧ x2 = mtI (k + 1 + 1) ∧ x3 = k + 1 + 1 + 1 ∧ k' = k + 1 + 1 + 1 + 1 := by
  dsimp only [R_Use, R_Label, St, Pr, I, atom, Sl] at h
  obtain ⟨z1, h1, g1⟩ := h
  obtain ⟨z2, h2, g2⟩ := h1
  obtain ⟨e0, f0⟩ := h2
  have e0 : x0 = _ := e0
  obtain ⟨e1, f1⟩ := g2
  have e1 : x1 = _ := e1
  obtain ⟨z3, h3, g3⟩ := g1
  obtain ⟨e2, f2⟩ := h3
  have e2 : x2 = _ := e2
  obtain ⟨e3, f3⟩ := g3
  have e3 : x3 = _ := e3
  exact ⟨by omega, by omega, by rw [e2]; exact congrArg mtI (by omega), by omega, by omega⟩
theorem R_Use_mn : Mn R_Use := (Pr_mn R_Label_mn (Pr_mn St_mn I_mn))
theorem sizm_UseS : (R_Use).size = 4 := rfl
set_option maxRecDepth 100000 in
set_option maxHeartbeats 3200000 in
theorem mark_UseS {L : List (D_Use)} {a : Option Addr} {cap : Nat} {W : World} {S : Nat → Prop} {k : Int} (h0 : 0 ≤ k) (h1 : k + (sumL (R_Use).cm L : Nat) ≤ 4611686018427387904) (hS : ∀ i, S i → i < W.heap.size) (h : OwSl R_Use W S L a cap) : Calls Tryz.prog 123 #[.slice a L.length cap, .int .i64 k] W (MarkR R_Use S L a cap k W) := by
  have hcap := h.1
  have hmax := h.2.1
  have hn : L.length ≤ 9223372036854775807 := by have h2 := h.2.1; unfold maxLen at h2; omega
  have H := Lib.hid h
  have HCAP := Lib.hid hcap
  have HMAX := Lib.hid hmax
  clear h hcap hmax
  rcases Nat.eq_zero_or_pos L.length with hz | hpos
  · have HR := Lib.hid (MarkR.none_ (k := k) H.out hz)
    have HZ := Lib.hid hz
    rw [hz]
    clear hz
    go_enter Tryz.func123, Tryz.ntmps123
    go_wp2
    go_loopw [5, 1] (fun i q wr => i = .int .i64 0 ∧ q = .int .i64 k ∧ wr = W) (fun i _ _ => 0)
    case atStart => exact ⟨rfl, rfl, rfl⟩
    case round =>
      obtain ⟨rfl, rfl, rfl⟩ := hrel
      go_wp2
      go_ret
      exact HR.out
  · obtain ⟨g, Sf, rfl, hrow⟩ := H.out.row hpos
    have HM := Lib.hid (Mkd.start (k := k) hrow)
    clear hrow
    go_enter Tryz.func123, Tryz.ntmps123
    go_wp2
    go_loopw [5, 1] (fun i q wr => ∃ j : Nat, j ≤ L.length ∧ i = .int .i64 j ∧ ∃ (M : List (D_Use)) (z : Int), q = .int .i64 z ∧ Mkd R_Use W wr S L g Sf k z j M) (fun i _ _ => L.length - (intOf i).toNat)
    case atStart => exact ⟨0, Nat.zero_le _, rfl, _, _, rfl, HM.out⟩
    case round =>
      obtain ⟨j, hj, rfl, M, z, rfl, hM⟩ := hrel
      have HM2 := Lib.hid hM
      have hSw : ∀ i, S i → i < wr.heap.size := fun i hi => Nat.lt_of_lt_of_le (hS i hi) hM.off.size
      have HSW := Lib.hid hSw
      by_cases hlt : j < L.length
      · obtain ⟨⟨⟨x0, x1⟩, x2, x3⟩, hx⟩ := el_some hlt
        have HX := Lib.hid hx
        have hcm := sumL_take (R_Use).cm hx
        have hle := sumL_take_le (R_Use).cm L (j + 1)
        have hnum := hM.num
        obtain ⟨us, hu, hr⟩ := hM.el hx
        obtain ⟨rfl, _⟩ := ow0_Use hr
        have hgl : g < wr.heap.size := hSw g hM.row.own
        have hi0 : (0 : Int) ≤ (j : Int) := Int.natCast_nonneg _
        have hi1 : (j : Int) < (L.length : Int) := by omega
        have hz0 : 0 ≤ z := by omega
        have e0 : wr.cell? ⟨g, j * 4, none⟩ = some (.int .i64 x0) := by simpa [sizm_UseS, Nat.add_assoc] using hu 0 _ rfl
        have e1 : wr.cell? ⟨g, j * 4 + 1, none⟩ = some (.int .i64 x1) := by simpa [sizm_UseS, Nat.add_assoc] using hu 1 _ rfl
        have e2 : wr.cell? ⟨g, j * 4 + 2, none⟩ = some (.string x2) := by simpa [sizm_UseS, Nat.add_assoc] using hu 2 _ rfl
        have e3 : wr.cell? ⟨g, j * 4 + 3, none⟩ = some (.int .i64 x3) := by simpa [sizm_UseS, Nat.add_assoc] using hu 3 _ rfl
        have s0 := hM.row.soft (j * 4)
        have s1 := hM.row.soft (j * 4 + 1)
        have s2 := hM.row.soft (j * 4 + 2)
        have s3 := hM.row.soft (j * 4 + 3)
        have hcx : R_Use.cm ((x0, x1), x2, x3) = 4 := by first | (simp only [R_Use, R_Label, Pr, I, St, atom, Sl]; done) | (simp only [R_Use, R_Label, Pr, I, St, atom, Sl]; omega)
        rw [hcm, hcx] at hle
        have hb1 : z + ((4 : Nat) : Int) ≤ 4611686018427387904 := by omega
        have hne : ¬ Sf j g := fun hg => (HM2.out.row.sub j g hg).2 rfl
        have HU0 := Lib.hid (Upd.refl wr g (j * 4) ((j + 1) * 4) (Sf j))
        have HF0 := Lib.hid (Off.refl S wr)
        clear hM hSw hx hu hcm hle hnum
        have hc := putCells_cells g [.int .i64 (z), .int .i64 (z + 1)] wr (j * 4) (fun p hp => by
          match p, hp with
          | 0, _ => exact ⟨_, by simpa [Nat.add_assoc] using e0⟩
          | 1, _ => exact ⟨_, by simpa [Nat.add_assoc] using e1⟩
          | _ + 2, hp => simp at hp; omega)
        have d0 : (putCells wr g (j * 4) [.int .i64 (z), .int .i64 (z + 1)]).cell? ⟨g, j * 4, none⟩ = some (.int .i64 (z)) := by simpa [Nat.add_assoc] using hc 0 _ rfl
        have d1 : (putCells wr g (j * 4) [.int .i64 (z), .int .i64 (z + 1)]).cell? ⟨g, j * 4 + 1, none⟩ = some (.int .i64 (z + 1)) := by simpa [Nat.add_assoc] using hc 1 _ rfl
        have d2 : (putCells wr g (j * 4) [.int .i64 (z), .int .i64 (z + 1)]).cell? ⟨g, j * 4 + 2, none⟩ = some (.string x2) := (putCells_other g _ wr _ (by first | (simp; done) | (simp; omega))).trans e2
        have d3 : (putCells wr g (j * 4) [.int .i64 (z), .int .i64 (z + 1)]).cell? ⟨g, j * 4 + 3, none⟩ = some (.int .i64 x3) := (putCells_other g _ wr _ (by first | (simp; done) | (simp; omega))).trans e3
        have t0 : (putCells wr g (j * 4) [.int .i64 (z), .int .i64 (z + 1)]).frozen? ⟨g, j * 4, none⟩ = false := (putCells_frozen g _ _ wr _).trans s0
        have t1 : (putCells wr g (j * 4) [.int .i64 (z), .int .i64 (z + 1)]).frozen? ⟨g, j * 4 + 1, none⟩ = false := (putCells_frozen g _ _ wr _).trans s1
        have t2 : (putCells wr g (j * 4) [.int .i64 (z), .int .i64 (z + 1)]).frozen? ⟨g, j * 4 + 2, none⟩ = false := (putCells_frozen g _ _ wr _).trans s2
        have t3 : (putCells wr g (j * 4) [.int .i64 (z), .int .i64 (z + 1)]).frozen? ⟨g, j * 4 + 3, none⟩ = false := (putCells_frozen g _ _ wr _).trans s3
        have HU1 := Lib.hid (HU0.out.trans (Upd.put wr (Sf j) (g := g) (o := j * 4) (cs := [.int .i64 (z), .int .i64 (z + 1)]) ⟨by omega, by first | (simp; done) | (simp; omega)⟩))
        have HF1 := Lib.hid (HF0.out.trans ((putCells_off g [.int .i64 (z), .int .i64 (z + 1)] wr (j * 4)).more (fun x e => by rw [e]; exact HM2.out.row.own)))
        clear hc
        have hbz : 0 ≤ z + 1 + 1 ∧ z + 1 + 1 ≤ 4611686018427387904 := by omega
        have D0 := Lib.hid d0
        have F0 := Lib.hid t0
        have D1 := Lib.hid d1
        have F1 := Lib.hid t1
        have D2 := Lib.hid d2
        have F2 := Lib.hid t2
        have D3 := Lib.hid d3
        have F3 := Lib.hid t3
        clear d0 t0 d1 t1 d2 t2 d3 t3
        go_wp2_with fail
        refine (marktext_v (z + 1 + 1) ((putCells wr g (j * 4) [.int .i64 (z), .int .i64 (z + 1)])) hbz.1 hbz.2).mono ?_
        intro e wt1 h
        obtain ⟨rfl, hms, hb⟩ := mkT_elim h
        have HMS1 := Lib.hid hms
        have hgg : g < (putCells wr g (j * 4) [.int .i64 (z), .int .i64 (z + 1)]).heap.size := Nat.lt_of_lt_of_le hgl HF1.out.size
        have n0 : wt1.cell? ⟨g, j * 4, none⟩ = some (.int .i64 (z)) := (hb.cell (p := ⟨g, j * 4, none⟩) hgg).trans D0.out
        have n1 : wt1.cell? ⟨g, j * 4 + 1, none⟩ = some (.int .i64 (z + 1)) := (hb.cell (p := ⟨g, j * 4 + 1, none⟩) hgg).trans D1.out
        have n2 : wt1.cell? ⟨g, j * 4 + 2, none⟩ = some (.string x2) := (hb.cell (p := ⟨g, j * 4 + 2, none⟩) hgg).trans D2.out
        have n3 : wt1.cell? ⟨g, j * 4 + 3, none⟩ = some (.int .i64 x3) := (hb.cell (p := ⟨g, j * 4 + 3, none⟩) hgg).trans D3.out
        have m0 : wt1.frozen? ⟨g, j * 4, none⟩ = false := (hb.frozen (p := ⟨g, j * 4, none⟩) hgg).trans F0.out
        have m1 : wt1.frozen? ⟨g, j * 4 + 1, none⟩ = false := (hb.frozen (p := ⟨g, j * 4 + 1, none⟩) hgg).trans F1.out
        have m2 : wt1.frozen? ⟨g, j * 4 + 2, none⟩ = false := (hb.frozen (p := ⟨g, j * 4 + 2, none⟩) hgg).trans F2.out
        have m3 : wt1.frozen? ⟨g, j * 4 + 3, none⟩ = false := (hb.frozen (p := ⟨g, j * 4 + 3, none⟩) hgg).trans F3.out
        have HU2 := Lib.hid (HU1.out.trans (Upd.below hb hgg))
        have HF2 := Lib.hid (HF1.out.of_below hb)
        clear h hb hgg hbz hms D0 F0 D1 F1 D2 F2 D3 F3
        have e0 := n0
        have s0 := m0
        have e1 := n1
        have s1 := m1
        have e2 := n2
        have s2 := m2
        have e3 := n3
        have s3 := m3
        clear n0 m0 n1 m1 n2 m2 n3 m3
        have hc := putCells_cells g [.string (mtI (z + 1 + 1)), .int .i64 (z + 1 + 1 + 1)] wt1 (j * 4 + 2) (fun p hp => by
          match p, hp with
          | 0, _ => exact ⟨_, by simpa [Nat.add_assoc] using e2⟩
          | 1, _ => exact ⟨_, by simpa [Nat.add_assoc] using e3⟩
          | _ + 2, hp => simp at hp; omega)
        have d2 : (putCells wt1 g (j * 4 + 2) [.string (mtI (z + 1 + 1)), .int .i64 (z + 1 + 1 + 1)]).cell? ⟨g, j * 4 + 2, none⟩ = some (.string (mtI (z + 1 + 1))) := by simpa [Nat.add_assoc] using hc 0 _ rfl
        have d3 : (putCells wt1 g (j * 4 + 2) [.string (mtI (z + 1 + 1)), .int .i64 (z + 1 + 1 + 1)]).cell? ⟨g, j * 4 + 3, none⟩ = some (.int .i64 (z + 1 + 1 + 1)) := by simpa [Nat.add_assoc] using hc 1 _ rfl
        have d0 : (putCells wt1 g (j * 4 + 2) [.string (mtI (z + 1 + 1)), .int .i64 (z + 1 + 1 + 1)]).cell? ⟨g, j * 4, none⟩ = some (.int .i64 (z)) := (putCells_other g _ wt1 _ (by first | (simp; done) | (simp; omega))).trans e0
        have d1 : (putCells wt1 g (j * 4 + 2) [.string (mtI (z + 1 + 1)), .int .i64 (z + 1 + 1 + 1)]).cell? ⟨g, j * 4 + 1, none⟩ = some (.int .i64 (z + 1)) := (putCells_other g _ wt1 _ (by first | (simp; done) | (simp; omega))).trans e1
        have t0 : (putCells wt1 g (j * 4 + 2) [.string (mtI (z + 1 + 1)), .int .i64 (z + 1 + 1 + 1)]).frozen? ⟨g, j * 4, none⟩ = false := (putCells_frozen g _ _ wt1 _).trans s0
        have t1 : (putCells wt1 g (j * 4 + 2) [.string (mtI (z + 1 + 1)), .int .i64 (z + 1 + 1 + 1)]).frozen? ⟨g, j * 4 + 1, none⟩ = false := (putCells_frozen g _ _ wt1 _).trans s1
        have t2 : (putCells wt1 g (j * 4 + 2) [.string (mtI (z + 1 + 1)), .int .i64 (z + 1 + 1 + 1)]).frozen? ⟨g, j * 4 + 2, none⟩ = false := (putCells_frozen g _ _ wt1 _).trans s2
        have t3 : (putCells wt1 g (j * 4 + 2) [.string (mtI (z + 1 + 1)), .int .i64 (z + 1 + 1 + 1)]).frozen? ⟨g, j * 4 + 3, none⟩ = false := (putCells_frozen g _ _ wt1 _).trans s3
        have HU3 := Lib.hid (HU2.out.trans (Upd.put wt1 (Sf j) (g := g) (o := j * 4 + 2) (cs := [.string (mtI (z + 1 + 1)), .int .i64 (z + 1 + 1 + 1)]) ⟨by omega, by first | (simp; done) | (simp; omega)⟩))
        have HF3 := Lib.hid (HF2.out.trans ((putCells_off g [.string (mtI (z + 1 + 1)), .int .i64 (z + 1 + 1 + 1)] wt1 (j * 4 + 2)).more (fun x e => by rw [e]; exact HM2.out.row.own)))
        clear hc
        have hcf : CellsAt (putCells wt1 g (j * 4 + 2) [.string (mtI (z + 1 + 1)), .int .i64 (z + 1 + 1 + 1)]) g (j * 4) [.int .i64 (z), .int .i64 (z + 1), .string (mtI (z + 1 + 1)), .int .i64 (z + 1 + 1 + 1)] := CellsAt.cons.2 ⟨d0, CellsAt.cons.2 ⟨d1, CellsAt.cons.2 ⟨d2, CellsAt.cons.2 ⟨d3, CellsAt.nil⟩⟩⟩⟩
        have HSTEP := Lib.hid (HM2.out.step R_Use_ok (w' := (putCells wt1 g (j * 4 + 2) [.string (mtI (z + 1 + 1)), .int .i64 (z + 1 + 1 + 1)])) (y := ((z, z + 1), (mtI (z + 1 + 1)), z + 1 + 1 + 1)) (q' := z + 1 + 1 + 1 + 1) HSW.out HX.out HU3.out HF3.out hcf (mkow_Use HMS1.out) (mmk_Use) (by rw [hcx]; omega))
        clear d0 t0 d1 t1 d2 t2 d3 t3
        have hzb : 0 ≤ z + 1 + 1 + 1 + 1 ∧ z + 1 + 1 + 1 + 1 ≤ 4611686018427387904 := by omega
        clear hcf hcx
        go_wp2
        go_roundw
        case rel => exact ⟨j + 1, by omega, by go_num, _, _, rfl, by first | exact HSTEP.out | simpa [putCells, Nat.add_assoc, Int.add_assoc] using HSTEP.out⟩
        case measure => simp [intOf]; omega
      · obtain rfl : j = L.length := by omega
        have HR := Lib.hid (HM2.out.done HCAP.out HMAX.out)
        clear hM hSw
        go_wp2
        go_ret
        exact HR.out
theorem sizh_UseS : (R_Use).size = 4 := rfl
set_option maxRecDepth 100000 in
set_option maxHeartbeats 1600000 in
theorem held_UseS {L : List (D_Use)} {a : Option Addr} {cap : Nat} {W : World} {k k' : Int} (h0 : 0 ≤ k) (h1 : k' ≤ 4611686018427387904) (hm : mmL R_Use L k k') (h : RdSl R_Use W W.heap.size L a cap) : Calls Tryz.prog 127 #[.slice a L.length cap, .int .i64 k] W (HeldC k' W) := by
  have hn : L.length ≤ 9223372036854775807 := by have h1 := h.1; have h2 := h.2.1; unfold maxLen at h2; omega
  have H := Lib.hid h
  have HM := Lib.hid hm
  clear h hm
  go_enter Tryz.func127, Tryz.ntmps127
  go_wp2
  go_loopw [5, 1] (fun i q wr => ∃ j : Nat, j ≤ L.length ∧ i = .int .i64 j ∧ (∃ z : Int, q = .int .i64 z ∧ 0 ≤ z ∧ mmL R_Use (L.drop j) z k') ∧ Below W.heap.size W wr) (fun i _ _ => L.length - (intOf i).toNat)
  case atStart => exact ⟨0, Nat.zero_le _, rfl, ⟨k, rfl, h0, HM.out⟩, Below.refl _ _⟩
  case round =>
    obtain ⟨j, hj, rfl, ⟨z, rfl, hz, hmz⟩, hB⟩ := hrel
    have HB := Lib.hid hB
    have hsz := hB.size
    by_cases hlt : j < L.length
    · obtain ⟨⟨⟨x0, x1⟩, x2, x3⟩, hx⟩ := el_some hlt
      obtain ⟨k1, hxm, hmn⟩ := mmL_drop hx hmz
      have hzb := mmL_le R_Use_mn hmn
      have hxb := R_Use_mn _ _ _ hxm
      obtain ⟨g, o, us, rfl, hg, hu, hr⟩ := (H.out.below R_Use_ok hB).at_ hx
      have HMN := Lib.hid hmn
      have hi0 : (0 : Int) ≤ (j : Int) := Int.natCast_nonneg _
      have hi1 : (j : Int) < (L.length : Int) := by omega
      obtain ⟨rfl, b_x2⟩ := rd_Use hr
      obtain ⟨rfl, rfl, rfl, rfl, hk1⟩ := mme_Use hxm
      have e0 := cells_at hu 0 rfl
      have e1 := cells_at hu 1 rfl
      have e2 := cells_at hu 2 rfl
      have e3 := cells_at hu 3 rfl
      simp only [sizh_UseS] at e0 e1 e2 e3
      simp only [← Nat.add_assoc, Nat.add_zero] at e0 e1 e2 e3
      have hfin : k1 ≤ 4611686018427387904 := by omega
      have HK1 := Lib.hid hk1
      clear hB hx hu hmz hmn hxm
      have hgl : g < wr.heap.size := Nat.lt_of_lt_of_le hg hsz
      go_wp2_with fail
      refine wp_region_held_drew (S := (fun V => Below (wr).heap.size (wr) V)) (by kernel_rfl) ((Below.refl _ _).drew) (fun hHeld => ?_)
      refine tk 0 hHeld ?_
      refine tk 1 hHeld ?_
      refine tk 2 hHeld ?_
      refine tk 3 hHeld ?_
      refine tk 4 hHeld ?_ (hy := fun w hSw => by (try dsimp only at hSw); have k0 := (hSw.cell (p := ⟨g, o + j * 4 + 2, none⟩) hgl).trans e2; clear hSw; go_simp; try with_reducible rfl)
      refine tk 5 hHeld ?_
      refine rd1 6 (fun K hK => ?_)
      go_simp
      go_at_call 169
      refine (marktext_v (x0 + 1 + 1) _ (by omega) (by omega)).mono ?_
      intro e w1 h
      obtain ⟨rfl, hms, hb⟩ := mkT_elim h
      clear h hms
      refine hK.out _ _ (hHeld.trans (hb.mono hHeld.size)) (fun hHeld => ?_)
      clear hK K hb
      refine tk 7 hHeld ?_
      refine rd0 ?_
      have HF := Lib.hid hHeld
      clear hHeld
      have HB2 := Lib.hid (HB.out.trans (HF.out.mono hsz))
      replace e3 := (HF.out.cell (p := ⟨g, _, none⟩) hgl).trans e3
      go_wp2
      go_roundw
      case rel => exact ⟨j + 1, by omega, by go_num, ⟨_, rfl, by omega, by rw [← HK1.out]; exact HMN.out⟩, HB2.out⟩
      case measure => simp [intOf]; omega
    · obtain rfl : j = L.length := by omega
      have HE := Lib.hid (mmL_end hmz)
      clear hmz hB
      go_wp2
      go_ret
      exact ⟨by rw [HE.out]; rfl, HB.out⟩
end Go.Proofs.YtelhmacfljffhaaGreat.RepC
end
section
namespace Go.Proofs.YtelhmacfljffhaaGreat.RepC
open Go.RowKit RowC ValC
set_option linter.unusedVariables false
set_option linter.unusedSimpArgs false
theorem mmk_Task {k kk0 : Int} {L0 : List (Int)} (m_L0 : mmL I L0 (k + 1 + 1 + 1 + 1 + 1 + 1 + 1 + 1 + 1 + 1 + 1 + 1 + 1) kk0) : R_Task.mm ((k, k + 1), k + 1 + 1, (mtI (k + 1 + 1 + 1)), k + 1 + 1 + 1 + 1, k + 1 + 1 + 1 + 1 + 1, k + 1 + 1 + 1 + 1 + 1 + 1, (k + 1 + 1 + 1 + 1 + 1 + 1 + 1, k + 1 + 1 + 1 + 1 + 1 + 1 + 1 + 1), k + 1 + 1 + 1 + 1 + 1 + 1 + 1 + 1 + 1, k + 1 + 1 + 1 + 1 + 1 + 1 + 1 + 1 + 1 + 1, k + 1 + 1 + 1 + 1 + 1 + 1 + 1 + 1 + 1 + 1 + 1, k + 1 + 1 + 1 + 1 + 1 + 1 + 1 + 1 + 1 + 1 + 1 + 1, L0) k (kk0) := by
  dsimp only [R_Task, R_Label, St, Pr, I, atom, Sl]
  exact ⟨k + 1 + 1, ⟨k + 1, ⟨by omega, by omega⟩, ⟨by omega, by omega⟩⟩, ⟨k + 1 + 1 + 1, ⟨by omega, by omega⟩, ⟨k + 1 + 1 + 1 + 1, ⟨rfl, by omega⟩, ⟨k + 1 + 1 + 1 + 1 + 1, ⟨by omega, by omega⟩, ⟨k + 1 + 1 + 1 + 1 + 1 + 1, ⟨by omega, by omega⟩, ⟨k + 1 + 1 + 1 + 1 + 1 + 1 + 1, ⟨by omega, by omega⟩, ⟨k + 1 + 1 + 1 + 1 + 1 + 1 + 1 + 1 + 1, ⟨k + 1 + 1 + 1 + 1 + 1 + 1 + 1 + 1, ⟨by omega, by omega⟩, ⟨by omega, by omega⟩⟩, ⟨k + 1 + 1 + 1 + 1 + 1 + 1 + 1 + 1 + 1 + 1, ⟨by omega, by omega⟩, ⟨k + 1 + 1 + 1 + 1 + 1 + 1 + 1 + 1 + 1 + 1 + 1, ⟨by omega, by omega⟩, ⟨k + 1 + 1 + 1 + 1 + 1 + 1 + 1 + 1 + 1 + 1 + 1 + 1, ⟨by omega, by omega⟩, ⟨k + 1 + 1 + 1 + 1 + 1 + 1 + 1 + 1 + 1 + 1 + 1 + 1 + 1, ⟨by omega, by omega⟩, m_L0⟩⟩⟩⟩⟩⟩⟩⟩⟩⟩⟩
theorem mme_Task {k k' : Int} {x0 : Int} {x1 : Int} {x2 : Int} {x3 : ByteArray} {x4 : Int} {x5 : Int} {x6 : Int} {x7 : Int} {x8 : Int} {x9 : Int} {x10 : Int} {x11 : Int} {x12 : Int} {L0 : List (Int)} (h : R_Task.mm ((x0, x1), x2, x3, x4, x5, x6, (x7, x8), x9, x10, x11, x12, L0) k k') : ∃ kk0, x0 = k ∧ x1 = k + 1 ∧ x2 = k + 1 + 1 ∧ x3 = mtI (k + 1 + 1 + 1) ∧ x4 = k + 1 + 1 + 1 + 1 ∧ x5 = k + 1 + 1 + 1 + 1 + 1 ∧ x6 = k + 1 + 1 + 1 + 1 + 1 + 1 ∧ x7 = k + 1 + 1 + 1 + 1 + 1 + 1 + 1 ∧ x8 = k + 1 + 1 + 1 + 1 + 1 + 1 + 1 + 1 ∧ x9 = k + 1 + 1 + 1 + 1 + 1 + 1 + 1 + 1 + 1 ∧ x10 = k + 1 + 1 + 1 + 1 + 1 + 1 + 1 + 1 + 1 + 1 ∧ x11 = k + 1 + 1 + 1 + 1 + 1 + 1 + 1 + 1 + 1 + 1 + 1 ∧ x12 = k + 1 + 1 + 1 + 1 + 1 + 1 + 1 + 1 + 1 + 1 + 1 + 1 ∧ mmL I L0 (k + 1 + 1 + 1 + 1 + 1 + 1 + 1 + 1 + 1 + 1 + 1 + 1 + 1) kk0 ∧ k' = kk0 := by
  dsimp only [R_Task, R_Label, St, Pr, I, atom, Sl] at h
  obtain ⟨z1, h1, g1⟩ := h
  obtain ⟨z2, h2, g2⟩ := h1
  obtain ⟨e0, f0⟩ := h2
  have e0 : x0 = _ := e0
  obtain ⟨e1, f1⟩ := g2
  have e1 : x1 = _ := e1
  obtain ⟨z3, h3, g3⟩ := g1
  obtain ⟨e2, f2⟩ := h3
  have e2 : x2 = _ := e2
  obtain ⟨z4, h4, g4⟩ := g3
  obtain ⟨e3, f3⟩ := h4
  have e3 : x3 = _ := e3
  obtain ⟨z5, h5, g5⟩ := g4
  obtain ⟨e4, f4⟩ := h5
  have e4 : x4 = _ := e4
  obtain ⟨z6, h6, g6⟩ := g5
  obtain ⟨e5, f5⟩ := h6
  have e5 : x5 = _ := e5
  obtain ⟨z7, h7, g7⟩ := g6
  obtain ⟨e6, f6⟩ := h7
  have e6 : x6 = _ := e6
  obtain ⟨z8, h8, g8⟩ := g7
  obtain ⟨z9, h9, g9⟩ := h8
  obtain ⟨e7, f7⟩ := h9
  have e7 : x7 = _ := e7
  obtain ⟨e8, f8⟩ := g9
  have e8 : x8 = _ := e8
  obtain ⟨z10, h10, g10⟩ := g8
  obtain ⟨e9, f9⟩ := h10
  have e9 : x9 = _ := e9
  obtain ⟨z11, h11, g11⟩ := g10
  obtain ⟨e10, f10⟩ := h11
  have e10 : x10 = _ := e10
  obtain ⟨z12, h12, g12⟩ := g11
  obtain ⟨e11, f11⟩ := h12
  have e11 : x11 = _ := e11
  obtain ⟨z13, h13, g13⟩ := g12
  obtain ⟨e12, f12⟩ := h13
  have e12 : x12 = _ := e12
  have m_L0 : mmL I L0 _ _ := g13
  exact ⟨_, by omega, by omega, by omega, by rw [e3]; exact congrArg mtI (by omega), by omega, by omega, by omega, by omega, by omega, by omega, by omega, by omega, by omega, cast_mm m_L0 (by omega) rfl, by omega⟩
theorem R_Task_mn : Mn R_Task := (Pr_mn R_Label_mn (Pr_mn I_mn (Pr_mn St_mn (Pr_mn I_mn (Pr_mn I_mn (Pr_mn I_mn (Pr_mn R_Label_mn (Pr_mn I_mn (Pr_mn I_mn (Pr_mn I_mn (Pr_mn I_mn (Sl_mn I_mn))))))))))))
theorem sizm_TaskS : (R_Task).size = 14 := rfl
set_option maxRecDepth 100000 in
set_option maxHeartbeats 3200000 in
theorem mark_TaskS {L : List (D_Task)} {a : Option Addr} {cap : Nat} {W : World} {S : Nat → Prop} {k : Int} (h0 : 0 ≤ k) (h1 : k + (sumL (R_Task).cm L : Nat) ≤ 4611686018427387904) (hS : ∀ i, S i → i < W.heap.size) (h : OwSl R_Task W S L a cap) : Calls Tryz.prog 122 #[.slice a L.length cap, .int .i64 k] W (MarkR R_Task S L a cap k W) := by
  have hcap := h.1
  have hmax := h.2.1
  have hn : L.length ≤ 9223372036854775807 := by have h2 := h.2.1; unfold maxLen at h2; omega
  have H := Lib.hid h
  have HCAP := Lib.hid hcap
  have HMAX := Lib.hid hmax
  clear h hcap hmax
  rcases Nat.eq_zero_or_pos L.length with hz | hpos
  · have HR := Lib.hid (MarkR.none_ (k := k) H.out hz)
    have HZ := Lib.hid hz
    rw [hz]
    clear hz
    go_enter Tryz.func122, Tryz.ntmps122
    go_wp2
    go_loopw [5, 1] (fun i q wr => i = .int .i64 0 ∧ q = .int .i64 k ∧ wr = W) (fun i _ _ => 0)
    case atStart => exact ⟨rfl, rfl, rfl⟩
    case round =>
      obtain ⟨rfl, rfl, rfl⟩ := hrel
      go_wp2
      go_ret
      exact HR.out
  · obtain ⟨g, Sf, rfl, hrow⟩ := H.out.row hpos
    have HM := Lib.hid (Mkd.start (k := k) hrow)
    clear hrow
    go_enter Tryz.func122, Tryz.ntmps122
    go_wp2
    go_loopw [5, 1] (fun i q wr => ∃ j : Nat, j ≤ L.length ∧ i = .int .i64 j ∧ ∃ (M : List (D_Task)) (z : Int), q = .int .i64 z ∧ Mkd R_Task W wr S L g Sf k z j M) (fun i _ _ => L.length - (intOf i).toNat)
    case atStart => exact ⟨0, Nat.zero_le _, rfl, _, _, rfl, HM.out⟩
    case round =>
      obtain ⟨j, hj, rfl, M, z, rfl, hM⟩ := hrel
      have HM2 := Lib.hid hM
      have hSw : ∀ i, S i → i < wr.heap.size := fun i hi => Nat.lt_of_lt_of_le (hS i hi) hM.off.size
      have HSW := Lib.hid hSw
      by_cases hlt : j < L.length
      · obtain ⟨⟨⟨x0, x1⟩, x2, x3, x4, x5, x6, ⟨x7, x8⟩, x9, x10, x11, x12, L0⟩, hx⟩ := el_some hlt
        have HX := Lib.hid hx
        have hcm := sumL_take (R_Task).cm hx
        have hle := sumL_take_le (R_Task).cm L (j + 1)
        have hnum := hM.num
        obtain ⟨us, hu, hr⟩ := hM.el hx
        obtain ⟨a0, c0, T0, rfl, ts0, k_L0, b_x3⟩ := ow_Task hr
        have hgl : g < wr.heap.size := hSw g hM.row.own
        have hi0 : (0 : Int) ≤ (j : Int) := Int.natCast_nonneg _
        have hi1 : (j : Int) < (L.length : Int) := by omega
        have hz0 : 0 ≤ z := by omega
        have e0 : wr.cell? ⟨g, j * 14, none⟩ = some (.int .i64 x0) := by simpa [sizm_TaskS, Nat.add_assoc] using hu 0 _ rfl
        have e1 : wr.cell? ⟨g, j * 14 + 1, none⟩ = some (.int .i64 x1) := by simpa [sizm_TaskS, Nat.add_assoc] using hu 1 _ rfl
        have e2 : wr.cell? ⟨g, j * 14 + 2, none⟩ = some (.int .i64 x2) := by simpa [sizm_TaskS, Nat.add_assoc] using hu 2 _ rfl
        have e3 : wr.cell? ⟨g, j * 14 + 3, none⟩ = some (.string x3) := by simpa [sizm_TaskS, Nat.add_assoc] using hu 3 _ rfl
        have e4 : wr.cell? ⟨g, j * 14 + 4, none⟩ = some (.int .i64 x4) := by simpa [sizm_TaskS, Nat.add_assoc] using hu 4 _ rfl
        have e5 : wr.cell? ⟨g, j * 14 + 5, none⟩ = some (.int .i64 x5) := by simpa [sizm_TaskS, Nat.add_assoc] using hu 5 _ rfl
        have e6 : wr.cell? ⟨g, j * 14 + 6, none⟩ = some (.int .i64 x6) := by simpa [sizm_TaskS, Nat.add_assoc] using hu 6 _ rfl
        have e7 : wr.cell? ⟨g, j * 14 + 7, none⟩ = some (.int .i64 x7) := by simpa [sizm_TaskS, Nat.add_assoc] using hu 7 _ rfl
        have e8 : wr.cell? ⟨g, j * 14 + 8, none⟩ = some (.int .i64 x8) := by simpa [sizm_TaskS, Nat.add_assoc] using hu 8 _ rfl
        have e9 : wr.cell? ⟨g, j * 14 + 9, none⟩ = some (.int .i64 x9) := by simpa [sizm_TaskS, Nat.add_assoc] using hu 9 _ rfl
        have e10 : wr.cell? ⟨g, j * 14 + 10, none⟩ = some (.int .i64 x10) := by simpa [sizm_TaskS, Nat.add_assoc] using hu 10 _ rfl
        have e11 : wr.cell? ⟨g, j * 14 + 11, none⟩ = some (.int .i64 x11) := by simpa [sizm_TaskS, Nat.add_assoc] using hu 11 _ rfl
        have e12 : wr.cell? ⟨g, j * 14 + 12, none⟩ = some (.int .i64 x12) := by simpa [sizm_TaskS, Nat.add_assoc] using hu 12 _ rfl
        have e13 : wr.cell? ⟨g, j * 14 + 13, none⟩ = some (.slice a0 L0.length c0) := by simpa [sizm_TaskS, Nat.add_assoc] using hu 13 _ rfl
        have s0 := hM.row.soft (j * 14)
        have s1 := hM.row.soft (j * 14 + 1)
        have s2 := hM.row.soft (j * 14 + 2)
        have s3 := hM.row.soft (j * 14 + 3)
        have s4 := hM.row.soft (j * 14 + 4)
        have s5 := hM.row.soft (j * 14 + 5)
        have s6 := hM.row.soft (j * 14 + 6)
        have s7 := hM.row.soft (j * 14 + 7)
        have s8 := hM.row.soft (j * 14 + 8)
        have s9 := hM.row.soft (j * 14 + 9)
        have s10 := hM.row.soft (j * 14 + 10)
        have s11 := hM.row.soft (j * 14 + 11)
        have s12 := hM.row.soft (j * 14 + 12)
        have s13 := hM.row.soft (j * 14 + 13)
        have hcx : R_Task.cm ((x0, x1), x2, x3, x4, x5, x6, (x7, x8), x9, x10, x11, x12, L0) = 13 + sumL (I).cm L0 := by first | (simp only [R_Task, R_Label, R_Label, Pr, I, St, atom, Sl]; done) | (simp only [R_Task, R_Label, R_Label, Pr, I, St, atom, Sl]; omega)
        rw [hcm, hcx] at hle
        have hb1 : z + ((13 + sumL (I).cm L0 : Nat) : Int) ≤ 4611686018427387904 := by omega
        have hne : ¬ Sf j g := fun hg => (HM2.out.row.sub j g hg).2 rfl
        have K_L0 := Lib.hid k_L0
        have TS0 := Lib.hid ts0
        have HU0 := Lib.hid (Upd.refl wr g (j * 14) ((j + 1) * 14) (Sf j))
        have HF0 := Lib.hid (Off.refl S wr)
        clear hM hSw hx hu hcm hle hnum k_L0 ts0
        have hc := putCells_cells g [.int .i64 (z), .int .i64 (z + 1), .int .i64 (z + 1 + 1)] wr (j * 14) (fun p hp => by
          match p, hp with
          | 0, _ => exact ⟨_, by simpa [Nat.add_assoc] using e0⟩
          | 1, _ => exact ⟨_, by simpa [Nat.add_assoc] using e1⟩
          | 2, _ => exact ⟨_, by simpa [Nat.add_assoc] using e2⟩
          | _ + 3, hp => simp at hp; omega)
        have d0 : (putCells wr g (j * 14) [.int .i64 (z), .int .i64 (z + 1), .int .i64 (z + 1 + 1)]).cell? ⟨g, j * 14, none⟩ = some (.int .i64 (z)) := by simpa [Nat.add_assoc] using hc 0 _ rfl
        have d1 : (putCells wr g (j * 14) [.int .i64 (z), .int .i64 (z + 1), .int .i64 (z + 1 + 1)]).cell? ⟨g, j * 14 + 1, none⟩ = some (.int .i64 (z + 1)) := by simpa [Nat.add_assoc] using hc 1 _ rfl
        have d2 : (putCells wr g (j * 14) [.int .i64 (z), .int .i64 (z + 1), .int .i64 (z + 1 + 1)]).cell? ⟨g, j * 14 + 2, none⟩ = some (.int .i64 (z + 1 + 1)) := by simpa [Nat.add_assoc] using hc 2 _ rfl
        have d3 : (putCells wr g (j * 14) [.int .i64 (z), .int .i64 (z + 1), .int .i64 (z + 1 + 1)]).cell? ⟨g, j * 14 + 3, none⟩ = some (.string x3) := (putCells_other g _ wr _ (by first | (simp; done) | (simp; omega))).trans e3
        have d4 : (putCells wr g (j * 14) [.int .i64 (z), .int .i64 (z + 1), .int .i64 (z + 1 + 1)]).cell? ⟨g, j * 14 + 4, none⟩ = some (.int .i64 x4) := (putCells_other g _ wr _ (by first | (simp; done) | (simp; omega))).trans e4
        have d5 : (putCells wr g (j * 14) [.int .i64 (z), .int .i64 (z + 1), .int .i64 (z + 1 + 1)]).cell? ⟨g, j * 14 + 5, none⟩ = some (.int .i64 x5) := (putCells_other g _ wr _ (by first | (simp; done) | (simp; omega))).trans e5
        have d6 : (putCells wr g (j * 14) [.int .i64 (z), .int .i64 (z + 1), .int .i64 (z + 1 + 1)]).cell? ⟨g, j * 14 + 6, none⟩ = some (.int .i64 x6) := (putCells_other g _ wr _ (by first | (simp; done) | (simp; omega))).trans e6
        have d7 : (putCells wr g (j * 14) [.int .i64 (z), .int .i64 (z + 1), .int .i64 (z + 1 + 1)]).cell? ⟨g, j * 14 + 7, none⟩ = some (.int .i64 x7) := (putCells_other g _ wr _ (by first | (simp; done) | (simp; omega))).trans e7
        have d8 : (putCells wr g (j * 14) [.int .i64 (z), .int .i64 (z + 1), .int .i64 (z + 1 + 1)]).cell? ⟨g, j * 14 + 8, none⟩ = some (.int .i64 x8) := (putCells_other g _ wr _ (by first | (simp; done) | (simp; omega))).trans e8
        have d9 : (putCells wr g (j * 14) [.int .i64 (z), .int .i64 (z + 1), .int .i64 (z + 1 + 1)]).cell? ⟨g, j * 14 + 9, none⟩ = some (.int .i64 x9) := (putCells_other g _ wr _ (by first | (simp; done) | (simp; omega))).trans e9
        have d10 : (putCells wr g (j * 14) [.int .i64 (z), .int .i64 (z + 1), .int .i64 (z + 1 + 1)]).cell? ⟨g, j * 14 + 10, none⟩ = some (.int .i64 x10) := (putCells_other g _ wr _ (by first | (simp; done) | (simp; omega))).trans e10
        have d11 : (putCells wr g (j * 14) [.int .i64 (z), .int .i64 (z + 1), .int .i64 (z + 1 + 1)]).cell? ⟨g, j * 14 + 11, none⟩ = some (.int .i64 x11) := (putCells_other g _ wr _ (by first | (simp; done) | (simp; omega))).trans e11
        have d12 : (putCells wr g (j * 14) [.int .i64 (z), .int .i64 (z + 1), .int .i64 (z + 1 + 1)]).cell? ⟨g, j * 14 + 12, none⟩ = some (.int .i64 x12) := (putCells_other g _ wr _ (by first | (simp; done) | (simp; omega))).trans e12
        have d13 : (putCells wr g (j * 14) [.int .i64 (z), .int .i64 (z + 1), .int .i64 (z + 1 + 1)]).cell? ⟨g, j * 14 + 13, none⟩ = some (.slice a0 L0.length c0) := (putCells_other g _ wr _ (by first | (simp; done) | (simp; omega))).trans e13
        have t0 : (putCells wr g (j * 14) [.int .i64 (z), .int .i64 (z + 1), .int .i64 (z + 1 + 1)]).frozen? ⟨g, j * 14, none⟩ = false := (putCells_frozen g _ _ wr _).trans s0
        have t1 : (putCells wr g (j * 14) [.int .i64 (z), .int .i64 (z + 1), .int .i64 (z + 1 + 1)]).frozen? ⟨g, j * 14 + 1, none⟩ = false := (putCells_frozen g _ _ wr _).trans s1
        have t2 : (putCells wr g (j * 14) [.int .i64 (z), .int .i64 (z + 1), .int .i64 (z + 1 + 1)]).frozen? ⟨g, j * 14 + 2, none⟩ = false := (putCells_frozen g _ _ wr _).trans s2
        have t3 : (putCells wr g (j * 14) [.int .i64 (z), .int .i64 (z + 1), .int .i64 (z + 1 + 1)]).frozen? ⟨g, j * 14 + 3, none⟩ = false := (putCells_frozen g _ _ wr _).trans s3
        have t4 : (putCells wr g (j * 14) [.int .i64 (z), .int .i64 (z + 1), .int .i64 (z + 1 + 1)]).frozen? ⟨g, j * 14 + 4, none⟩ = false := (putCells_frozen g _ _ wr _).trans s4
        have t5 : (putCells wr g (j * 14) [.int .i64 (z), .int .i64 (z + 1), .int .i64 (z + 1 + 1)]).frozen? ⟨g, j * 14 + 5, none⟩ = false := (putCells_frozen g _ _ wr _).trans s5
        have t6 : (putCells wr g (j * 14) [.int .i64 (z), .int .i64 (z + 1), .int .i64 (z + 1 + 1)]).frozen? ⟨g, j * 14 + 6, none⟩ = false := (putCells_frozen g _ _ wr _).trans s6
        have t7 : (putCells wr g (j * 14) [.int .i64 (z), .int .i64 (z + 1), .int .i64 (z + 1 + 1)]).frozen? ⟨g, j * 14 + 7, none⟩ = false := (putCells_frozen g _ _ wr _).trans s7
        have t8 : (putCells wr g (j * 14) [.int .i64 (z), .int .i64 (z + 1), .int .i64 (z + 1 + 1)]).frozen? ⟨g, j * 14 + 8, none⟩ = false := (putCells_frozen g _ _ wr _).trans s8
        have t9 : (putCells wr g (j * 14) [.int .i64 (z), .int .i64 (z + 1), .int .i64 (z + 1 + 1)]).frozen? ⟨g, j * 14 + 9, none⟩ = false := (putCells_frozen g _ _ wr _).trans s9
        have t10 : (putCells wr g (j * 14) [.int .i64 (z), .int .i64 (z + 1), .int .i64 (z + 1 + 1)]).frozen? ⟨g, j * 14 + 10, none⟩ = false := (putCells_frozen g _ _ wr _).trans s10
        have t11 : (putCells wr g (j * 14) [.int .i64 (z), .int .i64 (z + 1), .int .i64 (z + 1 + 1)]).frozen? ⟨g, j * 14 + 11, none⟩ = false := (putCells_frozen g _ _ wr _).trans s11
        have t12 : (putCells wr g (j * 14) [.int .i64 (z), .int .i64 (z + 1), .int .i64 (z + 1 + 1)]).frozen? ⟨g, j * 14 + 12, none⟩ = false := (putCells_frozen g _ _ wr _).trans s12
        have t13 : (putCells wr g (j * 14) [.int .i64 (z), .int .i64 (z + 1), .int .i64 (z + 1 + 1)]).frozen? ⟨g, j * 14 + 13, none⟩ = false := (putCells_frozen g _ _ wr _).trans s13
        have HU1 := Lib.hid (HU0.out.trans (Upd.put wr (Sf j) (g := g) (o := j * 14) (cs := [.int .i64 (z), .int .i64 (z + 1), .int .i64 (z + 1 + 1)]) ⟨by omega, by first | (simp; done) | (simp; omega)⟩))
        have HF1 := Lib.hid (HF0.out.trans ((putCells_off g [.int .i64 (z), .int .i64 (z + 1), .int .i64 (z + 1 + 1)] wr (j * 14)).more (fun x e => by rw [e]; exact HM2.out.row.own)))
        have K_L0 := Lib.hid (OwSl.keep I_ok (W' := (putCells wr g (j * 14) [.int .i64 (z), .int .i64 (z + 1), .int .i64 (z + 1 + 1)])) K_L0.out (fun q hq => putCells_block g (HM2.out.row.sub j q (TS0.out q hq)).2 _ _ _))
        clear hc
        have hbz : 0 ≤ z + 1 + 1 + 1 ∧ z + 1 + 1 + 1 ≤ 4611686018427387904 := by omega
        have D0 := Lib.hid d0
        have F0 := Lib.hid t0
        have D1 := Lib.hid d1
        have F1 := Lib.hid t1
        have D2 := Lib.hid d2
        have F2 := Lib.hid t2
        have D3 := Lib.hid d3
        have F3 := Lib.hid t3
        have D4 := Lib.hid d4
        have F4 := Lib.hid t4
        have D5 := Lib.hid d5
        have F5 := Lib.hid t5
        have D6 := Lib.hid d6
        have F6 := Lib.hid t6
        have D7 := Lib.hid d7
        have F7 := Lib.hid t7
        have D8 := Lib.hid d8
        have F8 := Lib.hid t8
        have D9 := Lib.hid d9
        have F9 := Lib.hid t9
        have D10 := Lib.hid d10
        have F10 := Lib.hid t10
        have D11 := Lib.hid d11
        have F11 := Lib.hid t11
        have D12 := Lib.hid d12
        have F12 := Lib.hid t12
        have D13 := Lib.hid d13
        have F13 := Lib.hid t13
        clear d0 t0 d1 t1 d2 t2 d3 t3 d4 t4 d5 t5 d6 t6 d7 t7 d8 t8 d9 t9 d10 t10 d11 t11 d12 t12 d13 t13
        go_wp2_with fail
        refine (marktext_v (z + 1 + 1 + 1) ((putCells wr g (j * 14) [.int .i64 (z), .int .i64 (z + 1), .int .i64 (z + 1 + 1)])) hbz.1 hbz.2).mono ?_
        intro e wt1 h
        obtain ⟨rfl, hms, hb⟩ := mkT_elim h
        have HMS1 := Lib.hid hms
        have hgg : g < (putCells wr g (j * 14) [.int .i64 (z), .int .i64 (z + 1), .int .i64 (z + 1 + 1)]).heap.size := Nat.lt_of_lt_of_le hgl HF1.out.size
        have n0 : wt1.cell? ⟨g, j * 14, none⟩ = some (.int .i64 (z)) := (hb.cell (p := ⟨g, j * 14, none⟩) hgg).trans D0.out
        have n1 : wt1.cell? ⟨g, j * 14 + 1, none⟩ = some (.int .i64 (z + 1)) := (hb.cell (p := ⟨g, j * 14 + 1, none⟩) hgg).trans D1.out
        have n2 : wt1.cell? ⟨g, j * 14 + 2, none⟩ = some (.int .i64 (z + 1 + 1)) := (hb.cell (p := ⟨g, j * 14 + 2, none⟩) hgg).trans D2.out
        have n3 : wt1.cell? ⟨g, j * 14 + 3, none⟩ = some (.string x3) := (hb.cell (p := ⟨g, j * 14 + 3, none⟩) hgg).trans D3.out
        have n4 : wt1.cell? ⟨g, j * 14 + 4, none⟩ = some (.int .i64 x4) := (hb.cell (p := ⟨g, j * 14 + 4, none⟩) hgg).trans D4.out
        have n5 : wt1.cell? ⟨g, j * 14 + 5, none⟩ = some (.int .i64 x5) := (hb.cell (p := ⟨g, j * 14 + 5, none⟩) hgg).trans D5.out
        have n6 : wt1.cell? ⟨g, j * 14 + 6, none⟩ = some (.int .i64 x6) := (hb.cell (p := ⟨g, j * 14 + 6, none⟩) hgg).trans D6.out
        have n7 : wt1.cell? ⟨g, j * 14 + 7, none⟩ = some (.int .i64 x7) := (hb.cell (p := ⟨g, j * 14 + 7, none⟩) hgg).trans D7.out
        have n8 : wt1.cell? ⟨g, j * 14 + 8, none⟩ = some (.int .i64 x8) := (hb.cell (p := ⟨g, j * 14 + 8, none⟩) hgg).trans D8.out
        have n9 : wt1.cell? ⟨g, j * 14 + 9, none⟩ = some (.int .i64 x9) := (hb.cell (p := ⟨g, j * 14 + 9, none⟩) hgg).trans D9.out
        have n10 : wt1.cell? ⟨g, j * 14 + 10, none⟩ = some (.int .i64 x10) := (hb.cell (p := ⟨g, j * 14 + 10, none⟩) hgg).trans D10.out
        have n11 : wt1.cell? ⟨g, j * 14 + 11, none⟩ = some (.int .i64 x11) := (hb.cell (p := ⟨g, j * 14 + 11, none⟩) hgg).trans D11.out
        have n12 : wt1.cell? ⟨g, j * 14 + 12, none⟩ = some (.int .i64 x12) := (hb.cell (p := ⟨g, j * 14 + 12, none⟩) hgg).trans D12.out
        have n13 : wt1.cell? ⟨g, j * 14 + 13, none⟩ = some (.slice a0 L0.length c0) := (hb.cell (p := ⟨g, j * 14 + 13, none⟩) hgg).trans D13.out
        have m0 : wt1.frozen? ⟨g, j * 14, none⟩ = false := (hb.frozen (p := ⟨g, j * 14, none⟩) hgg).trans F0.out
        have m1 : wt1.frozen? ⟨g, j * 14 + 1, none⟩ = false := (hb.frozen (p := ⟨g, j * 14 + 1, none⟩) hgg).trans F1.out
        have m2 : wt1.frozen? ⟨g, j * 14 + 2, none⟩ = false := (hb.frozen (p := ⟨g, j * 14 + 2, none⟩) hgg).trans F2.out
        have m3 : wt1.frozen? ⟨g, j * 14 + 3, none⟩ = false := (hb.frozen (p := ⟨g, j * 14 + 3, none⟩) hgg).trans F3.out
        have m4 : wt1.frozen? ⟨g, j * 14 + 4, none⟩ = false := (hb.frozen (p := ⟨g, j * 14 + 4, none⟩) hgg).trans F4.out
        have m5 : wt1.frozen? ⟨g, j * 14 + 5, none⟩ = false := (hb.frozen (p := ⟨g, j * 14 + 5, none⟩) hgg).trans F5.out
        have m6 : wt1.frozen? ⟨g, j * 14 + 6, none⟩ = false := (hb.frozen (p := ⟨g, j * 14 + 6, none⟩) hgg).trans F6.out
        have m7 : wt1.frozen? ⟨g, j * 14 + 7, none⟩ = false := (hb.frozen (p := ⟨g, j * 14 + 7, none⟩) hgg).trans F7.out
        have m8 : wt1.frozen? ⟨g, j * 14 + 8, none⟩ = false := (hb.frozen (p := ⟨g, j * 14 + 8, none⟩) hgg).trans F8.out
        have m9 : wt1.frozen? ⟨g, j * 14 + 9, none⟩ = false := (hb.frozen (p := ⟨g, j * 14 + 9, none⟩) hgg).trans F9.out
        have m10 : wt1.frozen? ⟨g, j * 14 + 10, none⟩ = false := (hb.frozen (p := ⟨g, j * 14 + 10, none⟩) hgg).trans F10.out
        have m11 : wt1.frozen? ⟨g, j * 14 + 11, none⟩ = false := (hb.frozen (p := ⟨g, j * 14 + 11, none⟩) hgg).trans F11.out
        have m12 : wt1.frozen? ⟨g, j * 14 + 12, none⟩ = false := (hb.frozen (p := ⟨g, j * 14 + 12, none⟩) hgg).trans F12.out
        have m13 : wt1.frozen? ⟨g, j * 14 + 13, none⟩ = false := (hb.frozen (p := ⟨g, j * 14 + 13, none⟩) hgg).trans F13.out
        have HU2 := Lib.hid (HU1.out.trans (Upd.below hb hgg))
        have HF2 := Lib.hid (HF1.out.of_below hb)
        have K_L0 := Lib.hid (K_L0.out.keep I_ok (fun q hq => hb.block q (Nat.lt_of_lt_of_le (HSW.out q (HM2.out.row.sub j q (TS0.out q hq)).1) HF1.out.size)))
        clear h hb hgg hbz hms D0 F0 D1 F1 D2 F2 D3 F3 D4 F4 D5 F5 D6 F6 D7 F7 D8 F8 D9 F9 D10 F10 D11 F11 D12 F12 D13 F13
        have e0 := n0
        have s0 := m0
        have e1 := n1
        have s1 := m1
        have e2 := n2
        have s2 := m2
        have e3 := n3
        have s3 := m3
        have e4 := n4
        have s4 := m4
        have e5 := n5
        have s5 := m5
        have e6 := n6
        have s6 := m6
        have e7 := n7
        have s7 := m7
        have e8 := n8
        have s8 := m8
        have e9 := n9
        have s9 := m9
        have e10 := n10
        have s10 := m10
        have e11 := n11
        have s11 := m11
        have e12 := n12
        have s12 := m12
        have e13 := n13
        have s13 := m13
        clear n0 m0 n1 m1 n2 m2 n3 m3 n4 m4 n5 m5 n6 m6 n7 m7 n8 m8 n9 m9 n10 m10 n11 m11 n12 m12 n13 m13
        have hc := putCells_cells g [.string (mtI (z + 1 + 1 + 1)), .int .i64 (z + 1 + 1 + 1 + 1), .int .i64 (z + 1 + 1 + 1 + 1 + 1), .int .i64 (z + 1 + 1 + 1 + 1 + 1 + 1), .int .i64 (z + 1 + 1 + 1 + 1 + 1 + 1 + 1), .int .i64 (z + 1 + 1 + 1 + 1 + 1 + 1 + 1 + 1), .int .i64 (z + 1 + 1 + 1 + 1 + 1 + 1 + 1 + 1 + 1), .int .i64 (z + 1 + 1 + 1 + 1 + 1 + 1 + 1 + 1 + 1 + 1), .int .i64 (z + 1 + 1 + 1 + 1 + 1 + 1 + 1 + 1 + 1 + 1 + 1), .int .i64 (z + 1 + 1 + 1 + 1 + 1 + 1 + 1 + 1 + 1 + 1 + 1 + 1)] wt1 (j * 14 + 3) (fun p hp => by
          match p, hp with
          | 0, _ => exact ⟨_, by simpa [Nat.add_assoc] using e3⟩
          | 1, _ => exact ⟨_, by simpa [Nat.add_assoc] using e4⟩
          | 2, _ => exact ⟨_, by simpa [Nat.add_assoc] using e5⟩
          | 3, _ => exact ⟨_, by simpa [Nat.add_assoc] using e6⟩
          | 4, _ => exact ⟨_, by simpa [Nat.add_assoc] using e7⟩
          | 5, _ => exact ⟨_, by simpa [Nat.add_assoc] using e8⟩
          | 6, _ => exact ⟨_, by simpa [Nat.add_assoc] using e9⟩
          | 7, _ => exact ⟨_, by simpa [Nat.add_assoc] using e10⟩
          | 8, _ => exact ⟨_, by simpa [Nat.add_assoc] using e11⟩
          | 9, _ => exact ⟨_, by simpa [Nat.add_assoc] using e12⟩
          | _ + 10, hp => simp at hp; omega)
        have d3 : (putCells wt1 g (j * 14 + 3) [.string (mtI (z + 1 + 1 + 1)), .int .i64 (z + 1 + 1 + 1 + 1), .int .i64 (z + 1 + 1 + 1 + 1 + 1), .int .i64 (z + 1 + 1 + 1 + 1 + 1 + 1), .int .i64 (z + 1 + 1 + 1 + 1 + 1 + 1 + 1), .int .i64 (z + 1 + 1 + 1 + 1 + 1 + 1 + 1 + 1), .int .i64 (z + 1 + 1 + 1 + 1 + 1 + 1 + 1 + 1 + 1), .int .i64 (z + 1 + 1 + 1 + 1 + 1 + 1 + 1 + 1 + 1 + 1), .int .i64 (z + 1 + 1 + 1 + 1 + 1 + 1 + 1 + 1 + 1 + 1 + 1), .int .i64 (z + 1 + 1 + 1 + 1 + 1 + 1 + 1 + 1 + 1 + 1 + 1 + 1)]).cell? ⟨g, j * 14 + 3, none⟩ = some (.string (mtI (z + 1 + 1 + 1))) := by simpa [Nat.add_assoc] using hc 0 _ rfl
        have d4 : (putCells wt1 g (j * 14 + 3) [.string (mtI (z + 1 + 1 + 1)), .int .i64 (z + 1 + 1 + 1 + 1), .int .i64 (z + 1 + 1 + 1 + 1 + 1), .int .i64 (z + 1 + 1 + 1 + 1 + 1 + 1), .int .i64 (z + 1 + 1 + 1 + 1 + 1 + 1 + 1), .int .i64 (z + 1 + 1 + 1 + 1 + 1 + 1 + 1 + 1), .int .i64 (z + 1 + 1 + 1 + 1 + 1 + 1 + 1 + 1 + 1), .int .i64 (z + 1 + 1 + 1 + 1 + 1 + 1 + 1 + 1 + 1 + 1), .int .i64 (z + 1 + 1 + 1 + 1 + 1 + 1 + 1 + 1 + 1 + 1 + 1), .int .i64 (z + 1 + 1 + 1 + 1 + 1 + 1 + 1 + 1 + 1 + 1 + 1 + 1)]).cell? ⟨g, j * 14 + 4, none⟩ = some (.int .i64 (z + 1 + 1 + 1 + 1)) := by simpa [Nat.add_assoc] using hc 1 _ rfl
        have d5 : (putCells wt1 g (j * 14 + 3) [.string (mtI (z + 1 + 1 + 1)), .int .i64 (z + 1 + 1 + 1 + 1), .int .i64 (z + 1 + 1 + 1 + 1 + 1), .int .i64 (z + 1 + 1 + 1 + 1 + 1 + 1), .int .i64 (z + 1 + 1 + 1 + 1 + 1 + 1 + 1), .int .i64 (z + 1 + 1 + 1 + 1 + 1 + 1 + 1 + 1), .int .i64 (z + 1 + 1 + 1 + 1 + 1 + 1 + 1 + 1 + 1), .int .i64 (z + 1 + 1 + 1 + 1 + 1 + 1 + 1 + 1 + 1 + 1), .int .i64 (z + 1 + 1 + 1 + 1 + 1 + 1 + 1 + 1 + 1 + 1 + 1), .int .i64 (z + 1 + 1 + 1 + 1 + 1 + 1 + 1 + 1 + 1 + 1 + 1 + 1)]).cell? ⟨g, j * 14 + 5, none⟩ = some (.int .i64 (z + 1 + 1 + 1 + 1 + 1)) := by simpa [Nat.add_assoc] using hc 2 _ rfl
        have d6 : (putCells wt1 g (j * 14 + 3) [.string (mtI (z + 1 + 1 + 1)), .int .i64 (z + 1 + 1 + 1 + 1), .int .i64 (z + 1 + 1 + 1 + 1 + 1), .int .i64 (z + 1 + 1 + 1 + 1 + 1 + 1), .int .i64 (z + 1 + 1 + 1 + 1 + 1 + 1 + 1), .int .i64 (z + 1 + 1 + 1 + 1 + 1 + 1 + 1 + 1), .int .i64 (z + 1 + 1 + 1 + 1 + 1 + 1 + 1 + 1 + 1), .int .i64 (z + 1 + 1 + 1 + 1 + 1 + 1 + 1 + 1 + 1 + 1), .int .i64 (z + 1 + 1 + 1 + 1 + 1 + 1 + 1 + 1 + 1 + 1 + 1), .int .i64 (z + 1 + 1 + 1 + 1 + 1 + 1 + 1 + 1 + 1 + 1 + 1 + 1)]).cell? ⟨g, j * 14 + 6, none⟩ = some (.int .i64 (z + 1 + 1 + 1 + 1 + 1 + 1)) := by simpa [Nat.add_assoc] using hc 3 _ rfl
        have d7 : (putCells wt1 g (j * 14 + 3) [.string (mtI (z + 1 + 1 + 1)), .int .i64 (z + 1 + 1 + 1 + 1), .int .i64 (z + 1 + 1 + 1 + 1 + 1), .int .i64 (z + 1 + 1 + 1 + 1 + 1 + 1), .int .i64 (z + 1 + 1 + 1 + 1 + 1 + 1 + 1), .int .i64 (z + 1 + 1 + 1 + 1 + 1 + 1 + 1 + 1), .int .i64 (z + 1 + 1 + 1 + 1 + 1 + 1 + 1 + 1 + 1), .int .i64 (z + 1 + 1 + 1 + 1 + 1 + 1 + 1 + 1 + 1 + 1), .int .i64 (z + 1 + 1 + 1 + 1 + 1 + 1 + 1 + 1 + 1 + 1 + 1), .int .i64 (z + 1 + 1 + 1 + 1 + 1 + 1 + 1 + 1 + 1 + 1 + 1 + 1)]).cell? ⟨g, j * 14 + 7, none⟩ = some (.int .i64 (z + 1 + 1 + 1 + 1 + 1 + 1 + 1)) := by simpa [Nat.add_assoc] using hc 4 _ rfl
        have d8 : (putCells wt1 g (j * 14 + 3) [.string (mtI (z + 1 + 1 + 1)), .int .i64 (z + 1 + 1 + 1 + 1), .int .i64 (z + 1 + 1 + 1 + 1 + 1), .int .i64 (z + 1 + 1 + 1 + 1 + 1 + 1), .int .i64 (z + 1 + 1 + 1 + 1 + 1 + 1 + 1), .int .i64 (z + 1 + 1 + 1 + 1 + 1 + 1 + 1 + 1), .int .i64 (z + 1 + 1 + 1 + 1 + 1 + 1 + 1 + 1 + 1), .int .i64 (z + 1 + 1 + 1 + 1 + 1 + 1 + 1 + 1 + 1 + 1), .int .i64 (z + 1 + 1 + 1 + 1 + 1 + 1 + 1 + 1 + 1 + 1 + 1), .int .i64 (z + 1 + 1 + 1 + 1 + 1 + 1 + 1 + 1 + 1 + 1 + 1 + 1)]).cell? ⟨g, j * 14 + 8, none⟩ = some (.int .i64 (z + 1 + 1 + 1 + 1 + 1 + 1 + 1 + 1)) := by simpa [Nat.add_assoc] using hc 5 _ rfl
        have d9 : (putCells wt1 g (j * 14 + 3) [.string (mtI (z + 1 + 1 + 1)), .int .i64 (z + 1 + 1 + 1 + 1), .int .i64 (z + 1 + 1 + 1 + 1 + 1), .int .i64 (z + 1 + 1 + 1 + 1 + 1 + 1), .int .i64 (z + 1 + 1 + 1 + 1 + 1 + 1 + 1), .int .i64 (z + 1 + 1 + 1 + 1 + 1 + 1 + 1 + 1), .int .i64 (z + 1 + 1 + 1 + 1 + 1 + 1 + 1 + 1 + 1), .int .i64 (z + 1 + 1 + 1 + 1 + 1 + 1 + 1 + 1 + 1 + 1), .int .i64 (z + 1 + 1 + 1 + 1 + 1 + 1 + 1 + 1 + 1 + 1 + 1), .int .i64 (z + 1 + 1 + 1 + 1 + 1 + 1 + 1 + 1 + 1 + 1 + 1 + 1)]).cell? ⟨g, j * 14 + 9, none⟩ = some (.int .i64 (z + 1 + 1 + 1 + 1 + 1 + 1 + 1 + 1 + 1)) := by simpa [Nat.add_assoc] using hc 6 _ rfl
        have d10 : (putCells wt1 g (j * 14 + 3) [.string (mtI (z + 1 + 1 + 1)), .int .i64 (z + 1 + 1 + 1 + 1), .int .i64 (z + 1 + 1 + 1 + 1 + 1), .int .i64 (z + 1 + 1 + 1 + 1 + 1 + 1), .int .i64 (z + 1 + 1 + 1 + 1 + 1 + 1 + 1), .int .i64 (z + 1 + 1 + 1 + 1 + 1 + 1 + 1 + 1), .int .i64 (z + 1 + 1 + 1 + 1 + 1 + 1 + 1 + 1 + 1), .int .i64 (z + 1 + 1 + 1 + 1 + 1 + 1 + 1 + 1 + 1 + 1), .int .i64 (z + 1 + 1 + 1 + 1 + 1 + 1 + 1 + 1 + 1 + 1 + 1), .int .i64 (z + 1 + 1 + 1 + 1 + 1 + 1 + 1 + 1 + 1 + 1 + 1 + 1)]).cell? ⟨g, j * 14 + 10, none⟩ = some (.int .i64 (z + 1 + 1 + 1 + 1 + 1 + 1 + 1 + 1 + 1 + 1)) := by simpa [Nat.add_assoc] using hc 7 _ rfl
        have d11 : (putCells wt1 g (j * 14 + 3) [.string (mtI (z + 1 + 1 + 1)), .int .i64 (z + 1 + 1 + 1 + 1), .int .i64 (z + 1 + 1 + 1 + 1 + 1), .int .i64 (z + 1 + 1 + 1 + 1 + 1 + 1), .int .i64 (z + 1 + 1 + 1 + 1 + 1 + 1 + 1), .int .i64 (z + 1 + 1 + 1 + 1 + 1 + 1 + 1 + 1), .int .i64 (z + 1 + 1 + 1 + 1 + 1 + 1 + 1 + 1 + 1), .int .i64 (z + 1 + 1 + 1 + 1 + 1 + 1 + 1 + 1 + 1 + 1), .int .i64 (z + 1 + 1 + 1 + 1 + 1 + 1 + 1 + 1 + 1 + 1 + 1), .int .i64 (z + 1 + 1 + 1 + 1 + 1 + 1 + 1 + 1 + 1 + 1 + 1 + 1)]).cell? ⟨g, j * 14 + 11, none⟩ = some (.int .i64 (z + 1 + 1 + 1 + 1 + 1 + 1 + 1 + 1 + 1 + 1 + 1)) := by simpa [Nat.add_assoc] using hc 8 _ rfl
        have d12 : (putCells wt1 g (j * 14 + 3) [.string (mtI (z + 1 + 1 + 1)), .int .i64 (z + 1 + 1 + 1 + 1), .int .i64 (z + 1 + 1 + 1 + 1 + 1), .int .i64 (z + 1 + 1 + 1 + 1 + 1 + 1), .int .i64 (z + 1 + 1 + 1 + 1 + 1 + 1 + 1), .int .i64 (z + 1 + 1 + 1 + 1 + 1 + 1 + 1 + 1), .int .i64 (z + 1 + 1 + 1 + 1 + 1 + 1 + 1 + 1 + 1), .int .i64 (z + 1 + 1 + 1 + 1 + 1 + 1 + 1 + 1 + 1 + 1), .int .i64 (z + 1 + 1 + 1 + 1 + 1 + 1 + 1 + 1 + 1 + 1 + 1), .int .i64 (z + 1 + 1 + 1 + 1 + 1 + 1 + 1 + 1 + 1 + 1 + 1 + 1)]).cell? ⟨g, j * 14 + 12, none⟩ = some (.int .i64 (z + 1 + 1 + 1 + 1 + 1 + 1 + 1 + 1 + 1 + 1 + 1 + 1)) := by simpa [Nat.add_assoc] using hc 9 _ rfl
        have d0 : (putCells wt1 g (j * 14 + 3) [.string (mtI (z + 1 + 1 + 1)), .int .i64 (z + 1 + 1 + 1 + 1), .int .i64 (z + 1 + 1 + 1 + 1 + 1), .int .i64 (z + 1 + 1 + 1 + 1 + 1 + 1), .int .i64 (z + 1 + 1 + 1 + 1 + 1 + 1 + 1), .int .i64 (z + 1 + 1 + 1 + 1 + 1 + 1 + 1 + 1), .int .i64 (z + 1 + 1 + 1 + 1 + 1 + 1 + 1 + 1 + 1), .int .i64 (z + 1 + 1 + 1 + 1 + 1 + 1 + 1 + 1 + 1 + 1), .int .i64 (z + 1 + 1 + 1 + 1 + 1 + 1 + 1 + 1 + 1 + 1 + 1), .int .i64 (z + 1 + 1 + 1 + 1 + 1 + 1 + 1 + 1 + 1 + 1 + 1 + 1)]).cell? ⟨g, j * 14, none⟩ = some (.int .i64 (z)) := (putCells_other g _ wt1 _ (by first | (simp; done) | (simp; omega))).trans e0
        have d1 : (putCells wt1 g (j * 14 + 3) [.string (mtI (z + 1 + 1 + 1)), .int .i64 (z + 1 + 1 + 1 + 1), .int .i64 (z + 1 + 1 + 1 + 1 + 1), .int .i64 (z + 1 + 1 + 1 + 1 + 1 + 1), .int .i64 (z + 1 + 1 + 1 + 1 + 1 + 1 + 1), .int .i64 (z + 1 + 1 + 1 + 1 + 1 + 1 + 1 + 1), .int .i64 (z + 1 + 1 + 1 + 1 + 1 + 1 + 1 + 1 + 1), .int .i64 (z + 1 + 1 + 1 + 1 + 1 + 1 + 1 + 1 + 1 + 1), .int .i64 (z + 1 + 1 + 1 + 1 + 1 + 1 + 1 + 1 + 1 + 1 + 1), .int .i64 (z + 1 + 1 + 1 + 1 + 1 + 1 + 1 + 1 + 1 + 1 + 1 + 1)]).cell? ⟨g, j * 14 + 1, none⟩ = some (.int .i64 (z + 1)) := (putCells_other g _ wt1 _ (by first | (simp; done) | (simp; omega))).trans e1
        have d2 : (putCells wt1 g (j * 14 + 3) [.string (mtI (z + 1 + 1 + 1)), .int .i64 (z + 1 + 1 + 1 + 1), .int .i64 (z + 1 + 1 + 1 + 1 + 1), .int .i64 (z + 1 + 1 + 1 + 1 + 1 + 1), .int .i64 (z + 1 + 1 + 1 + 1 + 1 + 1 + 1), .int .i64 (z + 1 + 1 + 1 + 1 + 1 + 1 + 1 + 1), .int .i64 (z + 1 + 1 + 1 + 1 + 1 + 1 + 1 + 1 + 1), .int .i64 (z + 1 + 1 + 1 + 1 + 1 + 1 + 1 + 1 + 1 + 1), .int .i64 (z + 1 + 1 + 1 + 1 + 1 + 1 + 1 + 1 + 1 + 1 + 1), .int .i64 (z + 1 + 1 + 1 + 1 + 1 + 1 + 1 + 1 + 1 + 1 + 1 + 1)]).cell? ⟨g, j * 14 + 2, none⟩ = some (.int .i64 (z + 1 + 1)) := (putCells_other g _ wt1 _ (by first | (simp; done) | (simp; omega))).trans e2
        have d13 : (putCells wt1 g (j * 14 + 3) [.string (mtI (z + 1 + 1 + 1)), .int .i64 (z + 1 + 1 + 1 + 1), .int .i64 (z + 1 + 1 + 1 + 1 + 1), .int .i64 (z + 1 + 1 + 1 + 1 + 1 + 1), .int .i64 (z + 1 + 1 + 1 + 1 + 1 + 1 + 1), .int .i64 (z + 1 + 1 + 1 + 1 + 1 + 1 + 1 + 1), .int .i64 (z + 1 + 1 + 1 + 1 + 1 + 1 + 1 + 1 + 1), .int .i64 (z + 1 + 1 + 1 + 1 + 1 + 1 + 1 + 1 + 1 + 1), .int .i64 (z + 1 + 1 + 1 + 1 + 1 + 1 + 1 + 1 + 1 + 1 + 1), .int .i64 (z + 1 + 1 + 1 + 1 + 1 + 1 + 1 + 1 + 1 + 1 + 1 + 1)]).cell? ⟨g, j * 14 + 13, none⟩ = some (.slice a0 L0.length c0) := (putCells_other g _ wt1 _ (by first | (simp; done) | (simp; omega))).trans e13
        have t0 : (putCells wt1 g (j * 14 + 3) [.string (mtI (z + 1 + 1 + 1)), .int .i64 (z + 1 + 1 + 1 + 1), .int .i64 (z + 1 + 1 + 1 + 1 + 1), .int .i64 (z + 1 + 1 + 1 + 1 + 1 + 1), .int .i64 (z + 1 + 1 + 1 + 1 + 1 + 1 + 1), .int .i64 (z + 1 + 1 + 1 + 1 + 1 + 1 + 1 + 1), .int .i64 (z + 1 + 1 + 1 + 1 + 1 + 1 + 1 + 1 + 1), .int .i64 (z + 1 + 1 + 1 + 1 + 1 + 1 + 1 + 1 + 1 + 1), .int .i64 (z + 1 + 1 + 1 + 1 + 1 + 1 + 1 + 1 + 1 + 1 + 1), .int .i64 (z + 1 + 1 + 1 + 1 + 1 + 1 + 1 + 1 + 1 + 1 + 1 + 1)]).frozen? ⟨g, j * 14, none⟩ = false := (putCells_frozen g _ _ wt1 _).trans s0
        have t1 : (putCells wt1 g (j * 14 + 3) [.string (mtI (z + 1 + 1 + 1)), .int .i64 (z + 1 + 1 + 1 + 1), .int .i64 (z + 1 + 1 + 1 + 1 + 1), .int .i64 (z + 1 + 1 + 1 + 1 + 1 + 1), .int .i64 (z + 1 + 1 + 1 + 1 + 1 + 1 + 1), .int .i64 (z + 1 + 1 + 1 + 1 + 1 + 1 + 1 + 1), .int .i64 (z + 1 + 1 + 1 + 1 + 1 + 1 + 1 + 1 + 1), .int .i64 (z + 1 + 1 + 1 + 1 + 1 + 1 + 1 + 1 + 1 + 1), .int .i64 (z + 1 + 1 + 1 + 1 + 1 + 1 + 1 + 1 + 1 + 1 + 1), .int .i64 (z + 1 + 1 + 1 + 1 + 1 + 1 + 1 + 1 + 1 + 1 + 1 + 1)]).frozen? ⟨g, j * 14 + 1, none⟩ = false := (putCells_frozen g _ _ wt1 _).trans s1
        have t2 : (putCells wt1 g (j * 14 + 3) [.string (mtI (z + 1 + 1 + 1)), .int .i64 (z + 1 + 1 + 1 + 1), .int .i64 (z + 1 + 1 + 1 + 1 + 1), .int .i64 (z + 1 + 1 + 1 + 1 + 1 + 1), .int .i64 (z + 1 + 1 + 1 + 1 + 1 + 1 + 1), .int .i64 (z + 1 + 1 + 1 + 1 + 1 + 1 + 1 + 1), .int .i64 (z + 1 + 1 + 1 + 1 + 1 + 1 + 1 + 1 + 1), .int .i64 (z + 1 + 1 + 1 + 1 + 1 + 1 + 1 + 1 + 1 + 1), .int .i64 (z + 1 + 1 + 1 + 1 + 1 + 1 + 1 + 1 + 1 + 1 + 1), .int .i64 (z + 1 + 1 + 1 + 1 + 1 + 1 + 1 + 1 + 1 + 1 + 1 + 1)]).frozen? ⟨g, j * 14 + 2, none⟩ = false := (putCells_frozen g _ _ wt1 _).trans s2
        have t3 : (putCells wt1 g (j * 14 + 3) [.string (mtI (z + 1 + 1 + 1)), .int .i64 (z + 1 + 1 + 1 + 1), .int .i64 (z + 1 + 1 + 1 + 1 + 1), .int .i64 (z + 1 + 1 + 1 + 1 + 1 + 1), .int .i64 (z + 1 + 1 + 1 + 1 + 1 + 1 + 1), .int .i64 (z + 1 + 1 + 1 + 1 + 1 + 1 + 1 + 1), .int .i64 (z + 1 + 1 + 1 + 1 + 1 + 1 + 1 + 1 + 1), .int .i64 (z + 1 + 1 + 1 + 1 + 1 + 1 + 1 + 1 + 1 + 1), .int .i64 (z + 1 + 1 + 1 + 1 + 1 + 1 + 1 + 1 + 1 + 1 + 1), .int .i64 (z + 1 + 1 + 1 + 1 + 1 + 1 + 1 + 1 + 1 + 1 + 1 + 1)]).frozen? ⟨g, j * 14 + 3, none⟩ = false := (putCells_frozen g _ _ wt1 _).trans s3
        have t4 : (putCells wt1 g (j * 14 + 3) [.string (mtI (z + 1 + 1 + 1)), .int .i64 (z + 1 + 1 + 1 + 1), .int .i64 (z + 1 + 1 + 1 + 1 + 1), .int .i64 (z + 1 + 1 + 1 + 1 + 1 + 1), .int .i64 (z + 1 + 1 + 1 + 1 + 1 + 1 + 1), .int .i64 (z + 1 + 1 + 1 + 1 + 1 + 1 + 1 + 1), .int .i64 (z + 1 + 1 + 1 + 1 + 1 + 1 + 1 + 1 + 1), .int .i64 (z + 1 + 1 + 1 + 1 + 1 + 1 + 1 + 1 + 1 + 1), .int .i64 (z + 1 + 1 + 1 + 1 + 1 + 1 + 1 + 1 + 1 + 1 + 1), .int .i64 (z + 1 + 1 + 1 + 1 + 1 + 1 + 1 + 1 + 1 + 1 + 1 + 1)]).frozen? ⟨g, j * 14 + 4, none⟩ = false := (putCells_frozen g _ _ wt1 _).trans s4
        have t5 : (putCells wt1 g (j * 14 + 3) [.string (mtI (z + 1 + 1 + 1)), .int .i64 (z + 1 + 1 + 1 + 1), .int .i64 (z + 1 + 1 + 1 + 1 + 1), .int .i64 (z + 1 + 1 + 1 + 1 + 1 + 1), .int .i64 (z + 1 + 1 + 1 + 1 + 1 + 1 + 1), .int .i64 (z + 1 + 1 + 1 + 1 + 1 + 1 + 1 + 1), .int .i64 (z + 1 + 1 + 1 + 1 + 1 + 1 + 1 + 1 + 1), .int .i64 (z + 1 + 1 + 1 + 1 + 1 + 1 + 1 + 1 + 1 + 1), .int .i64 (z + 1 + 1 + 1 + 1 + 1 + 1 + 1 + 1 + 1 + 1 + 1), .int .i64 (z + 1 + 1 + 1 + 1 + 1 + 1 + 1 + 1 + 1 + 1 + 1 + 1)]).frozen? ⟨g, j * 14 + 5, none⟩ = false := (putCells_frozen g _ _ wt1 _).trans s5
        have t6 : (putCells wt1 g (j * 14 + 3) [.string (mtI (z + 1 + 1 + 1)), .int .i64 (z + 1 + 1 + 1 + 1), .int .i64 (z + 1 + 1 + 1 + 1 + 1), .int .i64 (z + 1 + 1 + 1 + 1 + 1 + 1), .int .i64 (z + 1 + 1 + 1 + 1 + 1 + 1 + 1), .int .i64 (z + 1 + 1 + 1 + 1 + 1 + 1 + 1 + 1), .int .i64 (z + 1 + 1 + 1 + 1 + 1 + 1 + 1 + 1 + 1), .int .i64 (z + 1 + 1 + 1 + 1 + 1 + 1 + 1 + 1 + 1 + 1), .int .i64 (z + 1 + 1 + 1 + 1 + 1 + 1 + 1 + 1 + 1 + 1 + 1), .int .i64 (z + 1 + 1 + 1 + 1 + 1 + 1 + 1 + 1 + 1 + 1 + 1 + 1)]).frozen? ⟨g, j * 14 + 6, none⟩ = false := (putCells_frozen g _ _ wt1 _).trans s6
        have t7 : (putCells wt1 g (j * 14 + 3) [.string (mtI (z + 1 + 1 + 1)), .int .i64 (z + 1 + 1 + 1 + 1), .int .i64 (z + 1 + 1 + 1 + 1 + 1), .int .i64 (z + 1 + 1 + 1 + 1 + 1 + 1), .int .i64 (z + 1 + 1 + 1 + 1 + 1 + 1 + 1), .int .i64 (z + 1 + 1 + 1 + 1 + 1 + 1 + 1 + 1), .int .i64 (z + 1 + 1 + 1 + 1 + 1 + 1 + 1 + 1 + 1), .int .i64 (z + 1 + 1 + 1 + 1 + 1 + 1 + 1 + 1 + 1 + 1), .int .i64 (z + 1 + 1 + 1 + 1 + 1 + 1 + 1 + 1 + 1 + 1 + 1), .int .i64 (z + 1 + 1 + 1 + 1 + 1 + 1 + 1 + 1 + 1 + 1 + 1 + 1)]).frozen? ⟨g, j * 14 + 7, none⟩ = false := (putCells_frozen g _ _ wt1 _).trans s7
        have t8 : (putCells wt1 g (j * 14 + 3) [.string (mtI (z + 1 + 1 + 1)), .int .i64 (z + 1 + 1 + 1 + 1), .int .i64 (z + 1 + 1 + 1 + 1 + 1), .int .i64 (z + 1 + 1 + 1 + 1 + 1 + 1), .int .i64 (z + 1 + 1 + 1 + 1 + 1 + 1 + 1), .int .i64 (z + 1 + 1 + 1 + 1 + 1 + 1 + 1 + 1), .int .i64 (z + 1 + 1 + 1 + 1 + 1 + 1 + 1 + 1 + 1), .int .i64 (z + 1 + 1 + 1 + 1 + 1 + 1 + 1 + 1 + 1 + 1), .int .i64 (z + 1 + 1 + 1 + 1 + 1 + 1 + 1 + 1 + 1 + 1 + 1), .int .i64 (z + 1 + 1 + 1 + 1 + 1 + 1 + 1 + 1 + 1 + 1 + 1 + 1)]).frozen? ⟨g, j * 14 + 8, none⟩ = false := (putCells_frozen g _ _ wt1 _).trans s8
        have t9 : (putCells wt1 g (j * 14 + 3) [.string (mtI (z + 1 + 1 + 1)), .int .i64 (z + 1 + 1 + 1 + 1), .int .i64 (z + 1 + 1 + 1 + 1 + 1), .int .i64 (z + 1 + 1 + 1 + 1 + 1 + 1), .int .i64 (z + 1 + 1 + 1 + 1 + 1 + 1 + 1), .int .i64 (z + 1 + 1 + 1 + 1 + 1 + 1 + 1 + 1), .int .i64 (z + 1 + 1 + 1 + 1 + 1 + 1 + 1 + 1 + 1), .int .i64 (z + 1 + 1 + 1 + 1 + 1 + 1 + 1 + 1 + 1 + 1), .int .i64 (z + 1 + 1 + 1 + 1 + 1 + 1 + 1 + 1 + 1 + 1 + 1), .int .i64 (z + 1 + 1 + 1 + 1 + 1 + 1 + 1 + 1 + 1 + 1 + 1 + 1)]).frozen? ⟨g, j * 14 + 9, none⟩ = false := (putCells_frozen g _ _ wt1 _).trans s9
        have t10 : (putCells wt1 g (j * 14 + 3) [.string (mtI (z + 1 + 1 + 1)), .int .i64 (z + 1 + 1 + 1 + 1), .int .i64 (z + 1 + 1 + 1 + 1 + 1), .int .i64 (z + 1 + 1 + 1 + 1 + 1 + 1), .int .i64 (z + 1 + 1 + 1 + 1 + 1 + 1 + 1), .int .i64 (z + 1 + 1 + 1 + 1 + 1 + 1 + 1 + 1), .int .i64 (z + 1 + 1 + 1 + 1 + 1 + 1 + 1 + 1 + 1), .int .i64 (z + 1 + 1 + 1 + 1 + 1 + 1 + 1 + 1 + 1 + 1), .int .i64 (z + 1 + 1 + 1 + 1 + 1 + 1 + 1 + 1 + 1 + 1 + 1), .int .i64 (z + 1 + 1 + 1 + 1 + 1 + 1 + 1 + 1 + 1 + 1 + 1 + 1)]).frozen? ⟨g, j * 14 + 10, none⟩ = false := (putCells_frozen g _ _ wt1 _).trans s10
        have t11 : (putCells wt1 g (j * 14 + 3) [.string (mtI (z + 1 + 1 + 1)), .int .i64 (z + 1 + 1 + 1 + 1), .int .i64 (z + 1 + 1 + 1 + 1 + 1), .int .i64 (z + 1 + 1 + 1 + 1 + 1 + 1), .int .i64 (z + 1 + 1 + 1 + 1 + 1 + 1 + 1), .int .i64 (z + 1 + 1 + 1 + 1 + 1 + 1 + 1 + 1), .int .i64 (z + 1 + 1 + 1 + 1 + 1 + 1 + 1 + 1 + 1), .int .i64 (z + 1 + 1 + 1 + 1 + 1 + 1 + 1 + 1 + 1 + 1), .int .i64 (z + 1 + 1 + 1 + 1 + 1 + 1 + 1 + 1 + 1 + 1 + 1), .int .i64 (z + 1 + 1 + 1 + 1 + 1 + 1 + 1 + 1 + 1 + 1 + 1 + 1)]).frozen? ⟨g, j * 14 + 11, none⟩ = false := (putCells_frozen g _ _ wt1 _).trans s11
        have t12 : (putCells wt1 g (j * 14 + 3) [.string (mtI (z + 1 + 1 + 1)), .int .i64 (z + 1 + 1 + 1 + 1), .int .i64 (z + 1 + 1 + 1 + 1 + 1), .int .i64 (z + 1 + 1 + 1 + 1 + 1 + 1), .int .i64 (z + 1 + 1 + 1 + 1 + 1 + 1 + 1), .int .i64 (z + 1 + 1 + 1 + 1 + 1 + 1 + 1 + 1), .int .i64 (z + 1 + 1 + 1 + 1 + 1 + 1 + 1 + 1 + 1), .int .i64 (z + 1 + 1 + 1 + 1 + 1 + 1 + 1 + 1 + 1 + 1), .int .i64 (z + 1 + 1 + 1 + 1 + 1 + 1 + 1 + 1 + 1 + 1 + 1), .int .i64 (z + 1 + 1 + 1 + 1 + 1 + 1 + 1 + 1 + 1 + 1 + 1 + 1)]).frozen? ⟨g, j * 14 + 12, none⟩ = false := (putCells_frozen g _ _ wt1 _).trans s12
        have t13 : (putCells wt1 g (j * 14 + 3) [.string (mtI (z + 1 + 1 + 1)), .int .i64 (z + 1 + 1 + 1 + 1), .int .i64 (z + 1 + 1 + 1 + 1 + 1), .int .i64 (z + 1 + 1 + 1 + 1 + 1 + 1), .int .i64 (z + 1 + 1 + 1 + 1 + 1 + 1 + 1), .int .i64 (z + 1 + 1 + 1 + 1 + 1 + 1 + 1 + 1), .int .i64 (z + 1 + 1 + 1 + 1 + 1 + 1 + 1 + 1 + 1), .int .i64 (z + 1 + 1 + 1 + 1 + 1 + 1 + 1 + 1 + 1 + 1), .int .i64 (z + 1 + 1 + 1 + 1 + 1 + 1 + 1 + 1 + 1 + 1 + 1), .int .i64 (z + 1 + 1 + 1 + 1 + 1 + 1 + 1 + 1 + 1 + 1 + 1 + 1)]).frozen? ⟨g, j * 14 + 13, none⟩ = false := (putCells_frozen g _ _ wt1 _).trans s13
        have HU3 := Lib.hid (HU2.out.trans (Upd.put wt1 (Sf j) (g := g) (o := j * 14 + 3) (cs := [.string (mtI (z + 1 + 1 + 1)), .int .i64 (z + 1 + 1 + 1 + 1), .int .i64 (z + 1 + 1 + 1 + 1 + 1), .int .i64 (z + 1 + 1 + 1 + 1 + 1 + 1), .int .i64 (z + 1 + 1 + 1 + 1 + 1 + 1 + 1), .int .i64 (z + 1 + 1 + 1 + 1 + 1 + 1 + 1 + 1), .int .i64 (z + 1 + 1 + 1 + 1 + 1 + 1 + 1 + 1 + 1), .int .i64 (z + 1 + 1 + 1 + 1 + 1 + 1 + 1 + 1 + 1 + 1), .int .i64 (z + 1 + 1 + 1 + 1 + 1 + 1 + 1 + 1 + 1 + 1 + 1), .int .i64 (z + 1 + 1 + 1 + 1 + 1 + 1 + 1 + 1 + 1 + 1 + 1 + 1)]) ⟨by omega, by first | (simp; done) | (simp; omega)⟩))
        have HF3 := Lib.hid (HF2.out.trans ((putCells_off g [.string (mtI (z + 1 + 1 + 1)), .int .i64 (z + 1 + 1 + 1 + 1), .int .i64 (z + 1 + 1 + 1 + 1 + 1), .int .i64 (z + 1 + 1 + 1 + 1 + 1 + 1), .int .i64 (z + 1 + 1 + 1 + 1 + 1 + 1 + 1), .int .i64 (z + 1 + 1 + 1 + 1 + 1 + 1 + 1 + 1), .int .i64 (z + 1 + 1 + 1 + 1 + 1 + 1 + 1 + 1 + 1), .int .i64 (z + 1 + 1 + 1 + 1 + 1 + 1 + 1 + 1 + 1 + 1), .int .i64 (z + 1 + 1 + 1 + 1 + 1 + 1 + 1 + 1 + 1 + 1 + 1), .int .i64 (z + 1 + 1 + 1 + 1 + 1 + 1 + 1 + 1 + 1 + 1 + 1 + 1)] wt1 (j * 14 + 3)).more (fun x e => by rw [e]; exact HM2.out.row.own)))
        have K_L0 := Lib.hid (OwSl.keep I_ok (W' := (putCells wt1 g (j * 14 + 3) [.string (mtI (z + 1 + 1 + 1)), .int .i64 (z + 1 + 1 + 1 + 1), .int .i64 (z + 1 + 1 + 1 + 1 + 1), .int .i64 (z + 1 + 1 + 1 + 1 + 1 + 1), .int .i64 (z + 1 + 1 + 1 + 1 + 1 + 1 + 1), .int .i64 (z + 1 + 1 + 1 + 1 + 1 + 1 + 1 + 1), .int .i64 (z + 1 + 1 + 1 + 1 + 1 + 1 + 1 + 1 + 1), .int .i64 (z + 1 + 1 + 1 + 1 + 1 + 1 + 1 + 1 + 1 + 1), .int .i64 (z + 1 + 1 + 1 + 1 + 1 + 1 + 1 + 1 + 1 + 1 + 1), .int .i64 (z + 1 + 1 + 1 + 1 + 1 + 1 + 1 + 1 + 1 + 1 + 1 + 1)])) K_L0.out (fun q hq => putCells_block g (HM2.out.row.sub j q (TS0.out q hq)).2 _ _ _))
        clear hc
        have hbz : 0 ≤ z + 1 + 1 + 1 + 1 + 1 + 1 + 1 + 1 + 1 + 1 + 1 + 1 + 1 ∧ z + 1 + 1 + 1 + 1 + 1 + 1 + 1 + 1 + 1 + 1 + 1 + 1 + 1 + (sumL (I).cm L0 : Nat) ≤ 4611686018427387904 := by omega
        have D0 := Lib.hid d0
        have F0 := Lib.hid t0
        have D1 := Lib.hid d1
        have F1 := Lib.hid t1
        have D2 := Lib.hid d2
        have F2 := Lib.hid t2
        have D3 := Lib.hid d3
        have F3 := Lib.hid t3
        have D4 := Lib.hid d4
        have F4 := Lib.hid t4
        have D5 := Lib.hid d5
        have F5 := Lib.hid t5
        have D6 := Lib.hid d6
        have F6 := Lib.hid t6
        have D7 := Lib.hid d7
        have F7 := Lib.hid t7
        have D8 := Lib.hid d8
        have F8 := Lib.hid t8
        have D9 := Lib.hid d9
        have F9 := Lib.hid t9
        have D10 := Lib.hid d10
        have F10 := Lib.hid t10
        have D11 := Lib.hid d11
        have F11 := Lib.hid t11
        have D12 := Lib.hid d12
        have F12 := Lib.hid t12
        have D13 := Lib.hid d13
        have F13 := Lib.hid t13
        clear d0 t0 d1 t1 d2 t2 d3 t3 d4 t4 d5 t5 d6 t6 d7 t7 d8 t8 d9 t9 d10 t10 d11 t11 d12 t12 d13 t13
        go_wp2_with fail
        have HSi := Lib.hid (fun q (hq : T0 q) => Nat.lt_of_lt_of_le (HSW.out q (HM2.out.row.sub j q (TS0.out q hq)).1) HF3.out.size)
        refine (mark_Int64S (W := (putCells wt1 g (j * 14 + 3) [.string (mtI (z + 1 + 1 + 1)), .int .i64 (z + 1 + 1 + 1 + 1), .int .i64 (z + 1 + 1 + 1 + 1 + 1), .int .i64 (z + 1 + 1 + 1 + 1 + 1 + 1), .int .i64 (z + 1 + 1 + 1 + 1 + 1 + 1 + 1), .int .i64 (z + 1 + 1 + 1 + 1 + 1 + 1 + 1 + 1), .int .i64 (z + 1 + 1 + 1 + 1 + 1 + 1 + 1 + 1 + 1), .int .i64 (z + 1 + 1 + 1 + 1 + 1 + 1 + 1 + 1 + 1 + 1), .int .i64 (z + 1 + 1 + 1 + 1 + 1 + 1 + 1 + 1 + 1 + 1 + 1), .int .i64 (z + 1 + 1 + 1 + 1 + 1 + 1 + 1 + 1 + 1 + 1 + 1 + 1)])) hbz.1 hbz.2 HSi.out K_L0.out).mono ?_
        intro e w1 h
        obtain ⟨y0, z0, rfl, hyl, hmm, hzz, how, hoff⟩ := markR_elim h
        have hgg : g < (putCells wt1 g (j * 14 + 3) [.string (mtI (z + 1 + 1 + 1)), .int .i64 (z + 1 + 1 + 1 + 1), .int .i64 (z + 1 + 1 + 1 + 1 + 1), .int .i64 (z + 1 + 1 + 1 + 1 + 1 + 1), .int .i64 (z + 1 + 1 + 1 + 1 + 1 + 1 + 1), .int .i64 (z + 1 + 1 + 1 + 1 + 1 + 1 + 1 + 1), .int .i64 (z + 1 + 1 + 1 + 1 + 1 + 1 + 1 + 1 + 1), .int .i64 (z + 1 + 1 + 1 + 1 + 1 + 1 + 1 + 1 + 1 + 1), .int .i64 (z + 1 + 1 + 1 + 1 + 1 + 1 + 1 + 1 + 1 + 1 + 1), .int .i64 (z + 1 + 1 + 1 + 1 + 1 + 1 + 1 + 1 + 1 + 1 + 1 + 1)]).heap.size := Nat.lt_of_lt_of_le hgl HF3.out.size
        have hnT : ¬ T0 g := fun hg => hne (TS0.out g hg)
        have n0 : w1.cell? ⟨g, j * 14, none⟩ = some (.int .i64 (z)) := (World.cell?_of_block (a := ⟨g, j * 14, none⟩) (hoff.block g hgg hnT)).trans D0.out
        have n1 : w1.cell? ⟨g, j * 14 + 1, none⟩ = some (.int .i64 (z + 1)) := (World.cell?_of_block (a := ⟨g, j * 14 + 1, none⟩) (hoff.block g hgg hnT)).trans D1.out
        have n2 : w1.cell? ⟨g, j * 14 + 2, none⟩ = some (.int .i64 (z + 1 + 1)) := (World.cell?_of_block (a := ⟨g, j * 14 + 2, none⟩) (hoff.block g hgg hnT)).trans D2.out
        have n3 : w1.cell? ⟨g, j * 14 + 3, none⟩ = some (.string (mtI (z + 1 + 1 + 1))) := (World.cell?_of_block (a := ⟨g, j * 14 + 3, none⟩) (hoff.block g hgg hnT)).trans D3.out
        have n4 : w1.cell? ⟨g, j * 14 + 4, none⟩ = some (.int .i64 (z + 1 + 1 + 1 + 1)) := (World.cell?_of_block (a := ⟨g, j * 14 + 4, none⟩) (hoff.block g hgg hnT)).trans D4.out
        have n5 : w1.cell? ⟨g, j * 14 + 5, none⟩ = some (.int .i64 (z + 1 + 1 + 1 + 1 + 1)) := (World.cell?_of_block (a := ⟨g, j * 14 + 5, none⟩) (hoff.block g hgg hnT)).trans D5.out
        have n6 : w1.cell? ⟨g, j * 14 + 6, none⟩ = some (.int .i64 (z + 1 + 1 + 1 + 1 + 1 + 1)) := (World.cell?_of_block (a := ⟨g, j * 14 + 6, none⟩) (hoff.block g hgg hnT)).trans D6.out
        have n7 : w1.cell? ⟨g, j * 14 + 7, none⟩ = some (.int .i64 (z + 1 + 1 + 1 + 1 + 1 + 1 + 1)) := (World.cell?_of_block (a := ⟨g, j * 14 + 7, none⟩) (hoff.block g hgg hnT)).trans D7.out
        have n8 : w1.cell? ⟨g, j * 14 + 8, none⟩ = some (.int .i64 (z + 1 + 1 + 1 + 1 + 1 + 1 + 1 + 1)) := (World.cell?_of_block (a := ⟨g, j * 14 + 8, none⟩) (hoff.block g hgg hnT)).trans D8.out
        have n9 : w1.cell? ⟨g, j * 14 + 9, none⟩ = some (.int .i64 (z + 1 + 1 + 1 + 1 + 1 + 1 + 1 + 1 + 1)) := (World.cell?_of_block (a := ⟨g, j * 14 + 9, none⟩) (hoff.block g hgg hnT)).trans D9.out
        have n10 : w1.cell? ⟨g, j * 14 + 10, none⟩ = some (.int .i64 (z + 1 + 1 + 1 + 1 + 1 + 1 + 1 + 1 + 1 + 1)) := (World.cell?_of_block (a := ⟨g, j * 14 + 10, none⟩) (hoff.block g hgg hnT)).trans D10.out
        have n11 : w1.cell? ⟨g, j * 14 + 11, none⟩ = some (.int .i64 (z + 1 + 1 + 1 + 1 + 1 + 1 + 1 + 1 + 1 + 1 + 1)) := (World.cell?_of_block (a := ⟨g, j * 14 + 11, none⟩) (hoff.block g hgg hnT)).trans D11.out
        have n12 : w1.cell? ⟨g, j * 14 + 12, none⟩ = some (.int .i64 (z + 1 + 1 + 1 + 1 + 1 + 1 + 1 + 1 + 1 + 1 + 1 + 1)) := (World.cell?_of_block (a := ⟨g, j * 14 + 12, none⟩) (hoff.block g hgg hnT)).trans D12.out
        have n13 : w1.cell? ⟨g, j * 14 + 13, none⟩ = some (.slice a0 L0.length c0) := (World.cell?_of_block (a := ⟨g, j * 14 + 13, none⟩) (hoff.block g hgg hnT)).trans D13.out
        have m0 : w1.frozen? ⟨g, j * 14, none⟩ = false := (World.frozen?_of_block (a := ⟨g, j * 14, none⟩) (hoff.block g hgg hnT)).trans F0.out
        have m1 : w1.frozen? ⟨g, j * 14 + 1, none⟩ = false := (World.frozen?_of_block (a := ⟨g, j * 14 + 1, none⟩) (hoff.block g hgg hnT)).trans F1.out
        have m2 : w1.frozen? ⟨g, j * 14 + 2, none⟩ = false := (World.frozen?_of_block (a := ⟨g, j * 14 + 2, none⟩) (hoff.block g hgg hnT)).trans F2.out
        have m3 : w1.frozen? ⟨g, j * 14 + 3, none⟩ = false := (World.frozen?_of_block (a := ⟨g, j * 14 + 3, none⟩) (hoff.block g hgg hnT)).trans F3.out
        have m4 : w1.frozen? ⟨g, j * 14 + 4, none⟩ = false := (World.frozen?_of_block (a := ⟨g, j * 14 + 4, none⟩) (hoff.block g hgg hnT)).trans F4.out
        have m5 : w1.frozen? ⟨g, j * 14 + 5, none⟩ = false := (World.frozen?_of_block (a := ⟨g, j * 14 + 5, none⟩) (hoff.block g hgg hnT)).trans F5.out
        have m6 : w1.frozen? ⟨g, j * 14 + 6, none⟩ = false := (World.frozen?_of_block (a := ⟨g, j * 14 + 6, none⟩) (hoff.block g hgg hnT)).trans F6.out
        have m7 : w1.frozen? ⟨g, j * 14 + 7, none⟩ = false := (World.frozen?_of_block (a := ⟨g, j * 14 + 7, none⟩) (hoff.block g hgg hnT)).trans F7.out
        have m8 : w1.frozen? ⟨g, j * 14 + 8, none⟩ = false := (World.frozen?_of_block (a := ⟨g, j * 14 + 8, none⟩) (hoff.block g hgg hnT)).trans F8.out
        have m9 : w1.frozen? ⟨g, j * 14 + 9, none⟩ = false := (World.frozen?_of_block (a := ⟨g, j * 14 + 9, none⟩) (hoff.block g hgg hnT)).trans F9.out
        have m10 : w1.frozen? ⟨g, j * 14 + 10, none⟩ = false := (World.frozen?_of_block (a := ⟨g, j * 14 + 10, none⟩) (hoff.block g hgg hnT)).trans F10.out
        have m11 : w1.frozen? ⟨g, j * 14 + 11, none⟩ = false := (World.frozen?_of_block (a := ⟨g, j * 14 + 11, none⟩) (hoff.block g hgg hnT)).trans F11.out
        have m12 : w1.frozen? ⟨g, j * 14 + 12, none⟩ = false := (World.frozen?_of_block (a := ⟨g, j * 14 + 12, none⟩) (hoff.block g hgg hnT)).trans F12.out
        have m13 : w1.frozen? ⟨g, j * 14 + 13, none⟩ = false := (World.frozen?_of_block (a := ⟨g, j * 14 + 13, none⟩) (hoff.block g hgg hnT)).trans F13.out
        have HU4 := Lib.hid (HU3.out.trans (Upd.off (hoff.more TS0.out) hgg hne))
        have HF4 := Lib.hid (HF3.out.trans (hoff.more (fun q hq => (HM2.out.row.sub j q (TS0.out q hq)).1)))
        have K_L0 := Lib.hid how
        have HMM0 := Lib.hid hmm
        have HYL0 := Lib.hid hyl
        have HZZ0 := Lib.hid hzz
        have hzn0 : 0 ≤ z0 ∧ z0 ≤ 4611686018427387904 := by omega
        clear h hyl hmm how hoff hgg hnT hbz hzz HSi D0 F0 D1 F1 D2 F2 D3 F3 D4 F4 D5 F5 D6 F6 D7 F7 D8 F8 D9 F9 D10 F10 D11 F11 D12 F12 D13 F13
        have e0 := n0
        have s0 := m0
        have e1 := n1
        have s1 := m1
        have e2 := n2
        have s2 := m2
        have e3 := n3
        have s3 := m3
        have e4 := n4
        have s4 := m4
        have e5 := n5
        have s5 := m5
        have e6 := n6
        have s6 := m6
        have e7 := n7
        have s7 := m7
        have e8 := n8
        have s8 := m8
        have e9 := n9
        have s9 := m9
        have e10 := n10
        have s10 := m10
        have e11 := n11
        have s11 := m11
        have e12 := n12
        have s12 := m12
        have e13 := n13
        have s13 := m13
        clear n0 m0 n1 m1 n2 m2 n3 m3 n4 m4 n5 m5 n6 m6 n7 m7 n8 m8 n9 m9 n10 m10 n11 m11 n12 m12 n13 m13
        have hcf : CellsAt w1 g (j * 14) [.int .i64 (z), .int .i64 (z + 1), .int .i64 (z + 1 + 1), .string (mtI (z + 1 + 1 + 1)), .int .i64 (z + 1 + 1 + 1 + 1), .int .i64 (z + 1 + 1 + 1 + 1 + 1), .int .i64 (z + 1 + 1 + 1 + 1 + 1 + 1), .int .i64 (z + 1 + 1 + 1 + 1 + 1 + 1 + 1), .int .i64 (z + 1 + 1 + 1 + 1 + 1 + 1 + 1 + 1), .int .i64 (z + 1 + 1 + 1 + 1 + 1 + 1 + 1 + 1 + 1), .int .i64 (z + 1 + 1 + 1 + 1 + 1 + 1 + 1 + 1 + 1 + 1), .int .i64 (z + 1 + 1 + 1 + 1 + 1 + 1 + 1 + 1 + 1 + 1 + 1), .int .i64 (z + 1 + 1 + 1 + 1 + 1 + 1 + 1 + 1 + 1 + 1 + 1 + 1), .slice a0 y0.length c0] := CellsAt.cons.2 ⟨e0, CellsAt.cons.2 ⟨e1, CellsAt.cons.2 ⟨e2, CellsAt.cons.2 ⟨e3, CellsAt.cons.2 ⟨e4, CellsAt.cons.2 ⟨e5, CellsAt.cons.2 ⟨e6, CellsAt.cons.2 ⟨e7, CellsAt.cons.2 ⟨e8, CellsAt.cons.2 ⟨e9, CellsAt.cons.2 ⟨e10, CellsAt.cons.2 ⟨e11, CellsAt.cons.2 ⟨e12, CellsAt.cons.2 ⟨by rw [HYL0.out]; exact e13, CellsAt.nil⟩⟩⟩⟩⟩⟩⟩⟩⟩⟩⟩⟩⟩⟩
        have HSTEP := Lib.hid (HM2.out.step R_Task_ok (w' := w1) (y := ((z, z + 1), z + 1 + 1, (mtI (z + 1 + 1 + 1)), z + 1 + 1 + 1 + 1, z + 1 + 1 + 1 + 1 + 1, z + 1 + 1 + 1 + 1 + 1 + 1, (z + 1 + 1 + 1 + 1 + 1 + 1 + 1, z + 1 + 1 + 1 + 1 + 1 + 1 + 1 + 1), z + 1 + 1 + 1 + 1 + 1 + 1 + 1 + 1 + 1, z + 1 + 1 + 1 + 1 + 1 + 1 + 1 + 1 + 1 + 1, z + 1 + 1 + 1 + 1 + 1 + 1 + 1 + 1 + 1 + 1 + 1, z + 1 + 1 + 1 + 1 + 1 + 1 + 1 + 1 + 1 + 1 + 1 + 1, y0)) (q' := z0) HSW.out HX.out HU4.out HF4.out hcf (mkow_Task TS0.out K_L0.out HMS1.out) (mmk_Task HMM0.out) (by rw [hcx]; have q0 := HZZ0.out; omega))
        have hzb : 0 ≤ z0 ∧ z0 ≤ 4611686018427387904 := by have q0 := HZZ0.out; omega
        clear hcf hcx
        go_wp2
        go_roundw
        case rel => exact ⟨j + 1, by omega, by go_num, _, _, rfl, by first | exact HSTEP.out | simpa [putCells, Nat.add_assoc, Int.add_assoc] using HSTEP.out⟩
        case measure => simp [intOf]; omega
      · obtain rfl : j = L.length := by omega
        have HR := Lib.hid (HM2.out.done HCAP.out HMAX.out)
        clear hM hSw
        go_wp2
        go_ret
        exact HR.out
theorem sizh_TaskS : (R_Task).size = 14 := rfl
set_option maxRecDepth 100000 in
set_option maxHeartbeats 1600000 in
theorem held_TaskS {L : List (D_Task)} {a : Option Addr} {cap : Nat} {W : World} {k k' : Int} (h0 : 0 ≤ k) (h1 : k' ≤ 4611686018427387904) (hm : mmL R_Task L k k') (h : RdSl R_Task W W.heap.size L a cap) : Calls Tryz.prog 126 #[.slice a L.length cap, .int .i64 k] W (HeldC k' W) := by
  have hn : L.length ≤ 9223372036854775807 := by have h1 := h.1; have h2 := h.2.1; unfold maxLen at h2; omega
  have H := Lib.hid h
  have HM := Lib.hid hm
  clear h hm
  go_enter Tryz.func126, Tryz.ntmps126
  go_wp2
  go_loopw [5, 1] (fun i q wr => ∃ j : Nat, j ≤ L.length ∧ i = .int .i64 j ∧ (∃ z : Int, q = .int .i64 z ∧ 0 ≤ z ∧ mmL R_Task (L.drop j) z k') ∧ Below W.heap.size W wr) (fun i _ _ => L.length - (intOf i).toNat)
  case atStart => exact ⟨0, Nat.zero_le _, rfl, ⟨k, rfl, h0, HM.out⟩, Below.refl _ _⟩
  case round =>
    obtain ⟨j, hj, rfl, ⟨z, rfl, hz, hmz⟩, hB⟩ := hrel
    have HB := Lib.hid hB
    have hsz := hB.size
    by_cases hlt : j < L.length
    · obtain ⟨⟨⟨x0, x1⟩, x2, x3, x4, x5, x6, ⟨x7, x8⟩, x9, x10, x11, x12, L0⟩, hx⟩ := el_some hlt
      obtain ⟨k1, hxm, hmn⟩ := mmL_drop hx hmz
      have hzb := mmL_le R_Task_mn hmn
      have hxb := R_Task_mn _ _ _ hxm
      obtain ⟨g, o, us, rfl, hg, hu, hr⟩ := (H.out.below R_Task_ok hB).at_ hx
      have HMN := Lib.hid hmn
      have hi0 : (0 : Int) ≤ (j : Int) := Int.natCast_nonneg _
      have hi1 : (j : Int) < (L.length : Int) := by omega
      obtain ⟨a0, c0, rfl, k_L0, b_x3⟩ := rd_Task hr
      obtain ⟨z0, rfl, rfl, rfl, rfl, rfl, rfl, rfl, rfl, rfl, rfl, rfl, rfl, rfl, m_0, hk1⟩ := mme_Task hxm
      have e0 := cells_at hu 0 rfl
      have e1 := cells_at hu 1 rfl
      have e2 := cells_at hu 2 rfl
      have e3 := cells_at hu 3 rfl
      have e4 := cells_at hu 4 rfl
      have e5 := cells_at hu 5 rfl
      have e6 := cells_at hu 6 rfl
      have e7 := cells_at hu 7 rfl
      have e8 := cells_at hu 8 rfl
      have e9 := cells_at hu 9 rfl
      have e10 := cells_at hu 10 rfl
      have e11 := cells_at hu 11 rfl
      have e12 := cells_at hu 12 rfl
      have e13 := cells_at hu 13 rfl
      simp only [sizh_TaskS] at e0 e1 e2 e3 e4 e5 e6 e7 e8 e9 e10 e11 e12 e13
      simp only [← Nat.add_assoc, Nat.add_zero] at e0 e1 e2 e3 e4 e5 e6 e7 e8 e9 e10 e11 e12 e13
      have HXM0 := Lib.hid m_0
      have hle0 := mmL_le I_mn m_0
      have K_L0 := Lib.hid (k_L0.more I_ok hsz)
      have hfin : k1 ≤ 4611686018427387904 := by omega
      have HK1 := Lib.hid hk1
      clear hB hx hu hmz hmn hxm k_L0 m_0
      have hgl : g < wr.heap.size := Nat.lt_of_lt_of_le hg hsz
      go_wp2_with fail
      refine wp_region_held_drew (S := (fun V => Below (wr).heap.size (wr) V)) (by kernel_rfl) ((Below.refl _ _).drew) (fun hHeld => ?_)
      refine tk 0 hHeld ?_
      refine tk 1 hHeld ?_
      refine tk 2 hHeld ?_
      refine tk 3 hHeld ?_
      refine tk 4 hHeld ?_ (hy := fun w hSw => by (try dsimp only at hSw); have k0 := (hSw.cell (p := ⟨g, o + j * 14 + 3, none⟩) hgl).trans e3; clear hSw; go_simp; try with_reducible rfl)
      refine tk 5 hHeld ?_
      refine rd1 6 (fun K hK => ?_)
      go_simp
      go_at_call 169
      refine (marktext_v (x0 + 1 + 1 + 1) _ (by omega) (by omega)).mono ?_
      intro e w1 h
      obtain ⟨rfl, hms, hb⟩ := mkT_elim h
      clear h hms
      refine hK.out _ _ (hHeld.trans (hb.mono hHeld.size)) (fun hHeld => ?_)
      clear hK K hb
      refine tk 7 hHeld ?_
      refine rd0 ?_
      have HF := Lib.hid hHeld
      clear hHeld
      replace e4 := (HF.out.cell (p := ⟨g, _, none⟩) hgl).trans e4
      replace e5 := (HF.out.cell (p := ⟨g, _, none⟩) hgl).trans e5
      replace e6 := (HF.out.cell (p := ⟨g, _, none⟩) hgl).trans e6
      replace e7 := (HF.out.cell (p := ⟨g, _, none⟩) hgl).trans e7
      replace e8 := (HF.out.cell (p := ⟨g, _, none⟩) hgl).trans e8
      replace e9 := (HF.out.cell (p := ⟨g, _, none⟩) hgl).trans e9
      replace e10 := (HF.out.cell (p := ⟨g, _, none⟩) hgl).trans e10
      replace e11 := (HF.out.cell (p := ⟨g, _, none⟩) hgl).trans e11
      replace e12 := (HF.out.cell (p := ⟨g, _, none⟩) hgl).trans e12
      replace e13 := (HF.out.cell (p := ⟨g, _, none⟩) hgl).trans e13
      have K_L0 := Lib.hid ((K_L0.out.below I_ok HF.out).more I_ok HF.out.size)
      go_wp2_with fail
      refine (held_Int64S (k := x0 + 1 + 1 + 1 + 1 + 1 + 1 + 1 + 1 + 1 + 1 + 1 + 1 + 1) (k' := z0) (by omega) (by omega) HXM0.out K_L0.out).mono ?_
      intro e w1 h
      obtain ⟨rfl, hb⟩ := heldC_elim h
      have HBc0 := Lib.hid (HF.out.trans (hb.mono HF.out.size))
      have hpos0 : 0 ≤ z0 := by omega
      clear h hb
      have HB2 := Lib.hid (HB.out.trans (HBc0.out.mono hsz))
      go_wp2
      go_roundw
      case rel => exact ⟨j + 1, by omega, by go_num, ⟨_, rfl, by omega, by rw [← HK1.out]; exact HMN.out⟩, HB2.out⟩
      case measure => simp [intOf]; omega
    · obtain rfl : j = L.length := by omega
      have HE := Lib.hid (mmL_end hmz)
      clear hmz hB
      go_wp2
      go_ret
      exact ⟨by rw [HE.out]; rfl, HB.out⟩
end Go.Proofs.YtelhmacfljffhaaGreat.RepC
end
