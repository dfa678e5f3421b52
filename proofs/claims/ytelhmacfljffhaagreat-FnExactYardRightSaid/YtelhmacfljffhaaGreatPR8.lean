/- Of this claim's texts the part 8: NdR CfV5 BoT YaC3 YaD5 YaG NdO YaO YaGv YaW2. -/
import Derived.Test.YtelhmacfljffhaaGreatPR7
section
namespace Go.Proofs.YtelhmacfljffhaaGreat.RepC
open Go.RowKit RowC ValC SpanC KeptC
set_option linter.unusedVariables false
set_option linter.unusedSimpArgs false
theorem state_spec (n : Int) (w : World) : Calls Tryz.prog 71 #[.int .i64 n] w fun e w' => e = .returned (.bool (isB n 1 3)) ∧ w = w' := by
  go_enter Tryz.func71, Tryz.ntmps71
  go_wp2_with (go_at_call 67; refine (is_spec _ _ _ _).mono ?_; rintro e w' ⟨rfl, rfl⟩)
  go_ret
  exact ⟨rfl, rfl⟩
theorem state_impl (n : Int) (w : World) : Calls Tryz.prog 91 #[.int .i64 n] w fun e w' => e = .returned (.bool (isB n 1 3)) ∧ w = w' := by
  go_enter Tryz.func91, Tryz.ntmps91
  go_wp2_with (go_at_call 90; refine (is_impl _ _ _ _).mono ?_; rintro e w' ⟨rfl, rfl⟩)
  go_ret
  exact ⟨rfl, rfl⟩
theorem nd_len {α : Type} {E : Rp α} {L : List α} {W : World} {B : Nat} {a : Option Addr} {cap : Nat} (h : RdSl E W B L a cap) : L.length ≤ 9223372036854775807 := by
  have h1 := h.1; have h2 := h.2.1; unfold maxLen at h2; omega
set_option maxRecDepth 100000 in
set_option maxHeartbeats 3200000 in
theorem nds_spec {L : List D_Node} {a : Option Addr} {cap : Nat} {W : World} (h : RdSl R_Node W W.heap.size L a cap) :
    Calls Tryz.prog 24 #[.slice a L.length cap] W (IsB (nodesB L) W) := by
  refine Calls.mono ?_ fun e w' h => resB_isN nodesB_iff h
  have hn := nd_len h
  have H := Lib.hid h
  clear h
  by_cases h1 : 1 ≤ L.length
  rotate_left
  · have HN := Lib.hid (show ¬ NdsR L from fun h => h1 h.1.1)
    have hd : decide ((L.length : Int) < 1) = true := decide_eq_true (by omega)
    go_enter Tryz.func24, Tryz.ntmps24
    go_wp2
    go_ret
    exact resB_no HN.out (Below.refl _ _)
  have hd : decide ((L.length : Int) < 1) = false := decide_eq_false (by omega)
  by_cases h6 : L.length ≤ 6
  rotate_left
  · have HN := Lib.hid (show ¬ NdsR L from fun h => h6 h.1.2)
    have hd2 : decide ((6 : Int) < (L.length : Int)) = true := decide_eq_true (by omega)
    go_enter Tryz.func24, Tryz.ntmps24
    go_wp2
    go_ret
    exact resB_no HN.out (Below.refl _ _)
  have hd2 : decide ((6 : Int) < (L.length : Int)) = false := decide_eq_false (by omega)
  go_enter Tryz.func24, Tryz.ntmps24
  go_wp2
  go_loopw [3] (fun i wr => ∃ k : Nat, k ≤ L.length ∧ i = .int .i64 k ∧ Hid (okTo L k) ∧ Below W.heap.size W wr) (fun i _ => L.length - (intOf i).toNat)
  case atStart => exact ⟨0, Nat.zero_le _, rfl, Lib.hid okTo_zero, Below.refl _ _⟩
  case round =>
    obtain ⟨k, hk, rfl, HO, hB⟩ := hrel
    have HB := Lib.hid hB
    have hsz := hB.size
    by_cases hlt : k < L.length
    · skip
      obtain ⟨x, hx⟩ := el_some hlt
      have HX := Lib.hid hx
      have hcr := mv_rd R_Node_ok H.out hB
      obtain ⟨g, o, us, rfl, hg, hu, hr⟩ := hcr.at_ hx
      obtain ⟨st, M⟩ := x
      obtain ⟨ba, bc, rfl, hM⟩ := rd_Node hr
      have e0 : wr.cell? ⟨g, o + k * 2, none⟩ = some (.int .i64 st) := by simpa [size_NodeS] using hu 0 _ rfl
      have e1 : wr.cell? ⟨g, o + k * 2 + 1, none⟩ = some (.slice ba M.length bc) := by simpa [size_NodeS, Nat.add_assoc] using hu 1 _ rfl
      have hi0 : (0 : Int) ≤ (k : Int) := Int.natCast_nonneg _
      have hi1 : (k : Int) < (L.length : Int) := by omega
      have HG := Lib.hid hg
      have HM := Lib.hid hM
      clear hcr hu hr hM hg hB hx
      cases hq : isB st 1 3 with
      | false =>
        have HN := Lib.hid (show ¬ NdsR L from fun h => by have := (nodesR_at h HX.out).1; rw [hq] at this; cases this)
        have hs := fun W => state_spec st W
        rw [hq] at hs
        clear hq
        go_wp2_with (go_at_call 71; refine (hs _).mono ?_; rintro e w' ⟨rfl, rfl⟩)
        go_ret
        exact resB_no HN.out HB.out
      | true =>
      have HQ := Lib.hid hq
      have hs := fun W => state_spec st W
      rw [hq] at hs
      clear hq
      by_cases h4 : M.length ≤ 4
      rotate_left
      · have HN := Lib.hid (show ¬ NdsR L from fun h => h4 (nodesR_at h HX.out).2.1)
        have hd : decide ((4 : Int) < (M.length : Int)) = true := decide_eq_true (by omega)
        go_wp2_with (go_at_call 71; refine (hs _).mono ?_; rintro e w' ⟨rfl, rfl⟩)
        go_ret
        exact resB_no HN.out HB.out
      have hd : decide ((4 : Int) < (M.length : Int)) = false := decide_eq_false (by omega)
      go_wp2_with (first | (go_at_call 71; refine (hs _).mono ?_; rintro e w' ⟨rfl, rfl⟩) | fail)
      refine (spansA_spec ba M.length bc (gt M) _ (by omega) (pa_of (mv_rd R_Span_ok HM.out (w' := _) (Below.refl _ _)) (Nat.le_refl _))).mono ?_
      intro e w5 h
      obtain ⟨z, rfl, hz, hb⟩ := resB_elim h
      have HZ := Lib.hid hz
      have HB5 := Lib.hid (HB.out.trans (hb.mono hsz))
      clear h hz hb hs hd
      cases z with
      | false =>
        have HN := Lib.hid (show ¬ NdsR L from fun h => by have := HZ.out.2 (nodesR_at h HX.out).2.2; cases this)
        go_wp2
        go_ret
        exact resB_no HN.out HB5.out
      | true =>
        have HO2 := Lib.hid (okTo_step HO.out HX.out ⟨HQ.out, h4, HZ.out.1 rfl⟩)
        go_wp2
        go_roundw
        case rel => exact ⟨k + 1, by omega, by go_num, HO2, HB5.out⟩
        case measure => simp [intOf]; omega
    · have hdl : decide ((k : Int) < (L.length : Int)) = false := decide_eq_false (by omega)
      obtain rfl : k = L.length := by omega
      have HY := Lib.hid (nodesR_all h1 h6 HO.out)
      clear hB
      go_wp2
      go_ret
      exact resB_yes HY.out HB.out
set_option maxRecDepth 100000 in
set_option maxHeartbeats 3200000 in
theorem nds_impl {L : List D_Node} {a : Option Addr} {cap : Nat} {W : World} (h : RdSl R_Node W W.heap.size L a cap) :
    Calls Tryz.prog 36 #[.slice a L.length cap] W (IsB (nodesB L) W) := by
  refine Calls.mono ?_ fun e w' h => resB_isN nodesB_iff h
  have hn := nd_len h
  have H := Lib.hid h
  clear h
  cases h16 : isB (L.length : Int) 1 6 with
  | false =>
    have HN := Lib.hid (show ¬ NdsR L from fun h => by have h1 := h.1.1; have h2 := h.1.2; rw [(isB_iff _ _ _).2 ⟨by omega, by omega⟩] at h16; cases h16)
    have hs := fun W => is_impl (L.length : Int) 1 6 W
    rw [h16] at hs
    clear h16
    go_enter Tryz.func36, Tryz.ntmps36
    go_wp2_with (go_at_call 90; refine (hs _).mono ?_; rintro e w' ⟨rfl, rfl⟩)
    go_ret
    exact resB_no HN.out (Below.refl _ _)
  | true =>
  have h1 : 1 ≤ L.length := by have := ((isB_iff _ _ _).1 h16).1; omega
  have h6 : L.length ≤ 6 := by have := ((isB_iff _ _ _).1 h16).2; omega
  have hs := fun W => is_impl (L.length : Int) 1 6 W
  rw [h16] at hs
  clear h16
  go_enter Tryz.func36, Tryz.ntmps36
  go_wp2_with (go_at_call 90; refine (hs _).mono ?_; rintro e w' ⟨rfl, rfl⟩)
  clear hs
  go_loopw [11] (fun i wr => ∃ k : Nat, k ≤ L.length ∧ i = .int .i64 k ∧ Hid (okTo L k) ∧ Below W.heap.size W wr) (fun i _ => L.length - (intOf i).toNat)
  case atStart => exact ⟨0, Nat.zero_le _, rfl, Lib.hid okTo_zero, Below.refl _ _⟩
  case round =>
    obtain ⟨k, hk, rfl, HO, hB⟩ := hrel
    have HB := Lib.hid hB
    have hsz := hB.size
    by_cases hlt : k < L.length
    · skip
      obtain ⟨x, hx⟩ := el_some hlt
      have HX := Lib.hid hx
      have hcr := mv_rd R_Node_ok H.out hB
      obtain ⟨g, o, us, rfl, hg, hu, hr⟩ := hcr.at_ hx
      obtain ⟨st, M⟩ := x
      obtain ⟨ba, bc, rfl, hM⟩ := rd_Node hr
      have e0 : wr.cell? ⟨g, o + k * 2, none⟩ = some (.int .i64 st) := by simpa [size_NodeS] using hu 0 _ rfl
      have e1 : wr.cell? ⟨g, o + k * 2 + 1, none⟩ = some (.slice ba M.length bc) := by simpa [size_NodeS, Nat.add_assoc] using hu 1 _ rfl
      have hi0 : (0 : Int) ≤ (k : Int) := Int.natCast_nonneg _
      have hi1 : (k : Int) < (L.length : Int) := by omega
      have HG := Lib.hid hg
      have HM := Lib.hid hM
      clear hcr hu hr hM hg hB hx
      cases hq : isB st 1 3 with
      | false =>
        have HN := Lib.hid (show ¬ NdsR L from fun h => by have := (nodesR_at h HX.out).1; rw [hq] at this; cases this)
        have hs := fun W => state_impl st W
        rw [hq] at hs
        clear hq
        go_wp2_with (go_at_call 91; refine (hs _).mono ?_; rintro e w' ⟨rfl, rfl⟩)
        go_ret
        exact resB_no HN.out (HB.out.trans (Below.mono (B := wr.heap.size) (by repeat (first | exact Below.refl _ _ | refine Below.drew ?_ | refine Below.setCell ?_ (by first | omega | (simp; done) | (simp; omega)) _ | refine Below.alloc ?_ (by first | omega | (simp; done) | (simp; omega)) _)) hsz))
      | true =>
      have HQ := Lib.hid hq
      have hs := fun W => state_impl st W
      rw [hq] at hs
      clear hq
      by_cases h4 : M.length ≤ 4
      rotate_left
      · have HN := Lib.hid (show ¬ NdsR L from fun h => h4 (nodesR_at h HX.out).2.1)
        have hd : decide ((4 : Int) < (M.length : Int)) = true := decide_eq_true (by omega)
        go_wp2_with (go_at_call 91; refine (hs _).mono ?_; rintro e w' ⟨rfl, rfl⟩)
        go_ret
        exact resB_no HN.out (HB.out.trans (Below.mono (B := wr.heap.size) (by repeat (first | exact Below.refl _ _ | refine Below.drew ?_ | refine Below.setCell ?_ (by first | omega | (simp; done) | (simp; omega)) _ | refine Below.alloc ?_ (by first | omega | (simp; done) | (simp; omega)) _)) hsz))
      have hd : decide ((4 : Int) < (M.length : Int)) = false := decide_eq_false (by omega)
      go_wp2_with (first | (go_at_call 91; refine (hs _).mono ?_; rintro e w' ⟨rfl, rfl⟩) | fail)
      refine (spans_impl ba M.length bc (gt M) _ (by omega) (pa_of (mv_rd R_Span_ok HM.out (w' := _) (by repeat (first | exact Below.refl _ _ | refine Below.drew ?_ | refine Below.setCell ?_ (by first | omega | (simp; done) | (simp; omega)) _ | refine Below.alloc ?_ (by first | omega | (simp; done) | (simp; omega)) _))) (Nat.le_refl _))).mono ?_
      intro e w5 h
      obtain ⟨z, rfl, hz, hb⟩ := resB_elim h
      have HZ := Lib.hid hz
      have HB5 := Lib.hid ((HB.out.trans (Below.mono (B := wr.heap.size) (by repeat (first | exact Below.refl _ _ | refine Below.drew ?_ | refine Below.setCell ?_ (by first | omega | (simp; done) | (simp; omega)) _ | refine Below.alloc ?_ (by first | omega | (simp; done) | (simp; omega)) _)) hsz)).trans (hb.mono (by simp; omega)))
      clear h hz hb hs hd
      cases z with
      | false =>
        have HN := Lib.hid (show ¬ NdsR L from fun h => by have := HZ.out.2 (nodesR_at h HX.out).2.2; cases this)
        go_wp2
        go_ret
        exact resB_no HN.out HB5.out
      | true =>
        have HO2 := Lib.hid (okTo_step HO.out HX.out ⟨HQ.out, h4, HZ.out.1 rfl⟩)
        go_wp2
        go_roundw
        case rel => exact ⟨k + 1, by omega, by go_num, HO2, HB5.out⟩
        case measure => simp [intOf]; omega
    · have hdl : decide ((k : Int) < (L.length : Int)) = false := decide_eq_false (by omega)
      obtain rfl : k = L.length := by omega
      have HY := Lib.hid (nodesR_all h1 h6 HO.out)
      clear hB
      go_wp2
      go_ret
      exact resB_yes HY.out HB.out
end Go.Proofs.YtelhmacfljffhaaGreat.RepC
end
section
namespace Go.Proofs.YtelhmacfljffhaaGreat.RepC
open Go.RowKit RowC ValC SpanC KeptC CfC
set_option linter.unusedVariables false
set_option linter.unusedSimpArgs false
set_option maxRecDepth 100000 in
set_option maxHeartbeats 3200000 in
theorem quotaof_spec {C : List (List D_Label)} {P : List D_Pair} {Q : List D_Quota} {hf : Int} {ca pa qa : Option Addr} {cc pc qc : Nat} {l s : Int} {W : World} (hC : RdSl (Sl R_Label) W W.heap.size C ca cc) (hP : RdSl R_Pair W W.heap.size P pa pc) (hQ : RdSl R_Quota W W.heap.size Q qa qc) :
    Calls Tryz.prog 31 #[.agg #[.slice ca C.length cc, .slice pa P.length pc, .slice qa Q.length qc, .int .i64 hf], .agg #[.int .i64 l, .int .i64 s]] W (IsI (quotaV C P Q hf (l, s)) W) := by
  obtain ⟨M, hM⟩ : ∃ M, quotaV C P Q hf (l, s) = M := ⟨_, rfl⟩
  have HM := Lib.hid hM
  rw [hM]
  clear hM
  have hcn : C.length ≤ 9223372036854775807 := by have h1 := hC.1; have h2 := hC.2.1; unfold maxLen at h2; omega
  have hpn : P.length ≤ 9223372036854775807 := by have h1 := hP.1; have h2 := hP.2.1; unfold maxLen at h2; omega
  have hqn : Q.length ≤ 9223372036854775807 := by have h1 := hQ.1; have h2 := hQ.2.1; unfold maxLen at h2; omega
  obtain ⟨K, hK⟩ : ∃ K, labsV C P Q hf = K := ⟨_, rfl⟩
  have HKv := Lib.hid (show M = (by classical exact if (l, s) ∈ K then quotaIn Q (l, s) else 0) from by rw [← HM.out, ← hK]; rfl)
  have HK := Lib.hid hK
  clear hK
  obtain ⟨w0, hw0⟩ : ∃ w, w = (W.alloc (.cells #[.slice ca C.length cc, .slice pa P.length pc, .slice qa Q.length qc, .int .i64 hf] 38)).alloc (.cells #[.int .i64 l, .int .i64 s] 67) := ⟨_, rfl⟩
  have hb0 : Below W.heap.size W w0 := by rw [hw0]; exact ((Below.refl _ _).alloc (Nat.le_refl _) _).alloc (by simp) _
  have x0 : Blk w0 (W.heap.size) 38 #[.slice ca C.length cc, .slice pa P.length pc, .slice qa Q.length qc, .int .i64 hf] := by
    have h9 := Blk.new W 38 #[.slice ca C.length cc, .slice pa P.length pc, .slice qa Q.length qc, .int .i64 hf]
    try simp only [World.size_alloc] at h9
    rw [hw0]; exact (h9.alloc _)
  have X0 := Lib.hid x0
  have x1 : Blk w0 (W.heap.size + 1) 67 #[.int .i64 l, .int .i64 s] := by
    have h9 := Blk.new (W.alloc (.cells #[.slice ca C.length cc, .slice pa P.length pc, .slice qa Q.length qc, .int .i64 hf] 38)) 67 #[.int .i64 l, .int .i64 s]
    try simp only [World.size_alloc] at h9
    rw [hw0]; exact h9
  have X1 := Lib.hid x1
  have HC := Lib.hid (rd_mv (Sl_ok R_Label_ok) hC hb0)
  have HP := Lib.hid (rd_mv R_Pair_ok hP hb0)
  have HQ := Lib.hid (rd_mv R_Quota_ok hQ hb0)
  have HB0 := Lib.hid hb0
  have hz0 := hb0.size
  clear hb0 hC hP hQ x0 x1
  go_enter Tryz.func31, Tryz.ntmps31
  go_wp2_with fail
  rw [← hw0]
  clear hw0
  refine wp_region_held_drew (S := (fun V => Below (w0).heap.size (w0) V)) (by kernel_rfl) ((Below.refl _ _).drew) (fun hHeld => ?_)
  refine tk 0 hHeld ?_ (hy := fun w hSw => by (try dsimp only at hSw); have k0 := (hSw.cell (p := ⟨W.heap.size, 0, none⟩) X0.out.lt).trans (X0.out.at_ 0 rfl); have k1 := (hSw.cell (p := ⟨W.heap.size, 1, none⟩) X0.out.lt).trans (X0.out.at_ 1 rfl); have k2 := (hSw.cell (p := ⟨W.heap.size, 2, none⟩) X0.out.lt).trans (X0.out.at_ 2 rfl); have k3 := (hSw.cell (p := ⟨W.heap.size, 3, none⟩) X0.out.lt).trans (X0.out.at_ 3 rfl); clear hSw; go_simp; try with_reducible rfl)
  refine tk 2 hHeld ?_ (hy := fun w hSw => by (try dsimp only at hSw); have k0 := (hSw.cell (p := ⟨W.heap.size + 1, 0, none⟩) X1.out.lt).trans (X1.out.at_ 0 rfl); have k1 := (hSw.cell (p := ⟨W.heap.size + 1, 1, none⟩) X1.out.lt).trans (X1.out.at_ 1 rfl); clear hSw; go_simp; try with_reducible rfl)
  refine rd1 1 (fun K hK => ?_)
  go_simp
  go_at_call 82
  have hlo := labelsof_spec (hf := hf) (rd_mv (Sl_ok R_Label_ok) HC.out hHeld) (rd_mv R_Pair_ok HP.out hHeld) (rd_mv R_Quota_ok HQ.out hHeld)
  rw [HK.out] at hlo
  refine hlo.mono ?_
  intro e w2 h
  obtain ⟨la, lc, rfl, ho, hb⟩ := newS_elim h
  have HL := Lib.hid (ho.rd R_Label_ok (B := w2.heap.size) fun k hk => hk.2)
  clear h ho hlo
  refine hK.out _ _ (hHeld.trans (hb.mono hHeld.size)) (fun hHeld => ?_)
  clear hK K hb
  refine rd1 3 (fun K hK => ?_)
  go_simp
  go_at_call 29
  refine (cleared_spec HL.out).mono ?_
  intro e w3 h
  obtain ⟨q, rfl, hq2, hb⟩ := resB_elim h
  have HQq := Lib.hid hq2
  clear h hq2
  refine hK.out _ _ (hHeld.trans (hb.mono hHeld.size)) (fun hHeld => ?_)
  clear hK K hb
  refine tk 4 hHeld ?_
  refine rd0 ?_
  have HF := Lib.hid hHeld
  clear hHeld
  have HB1 := Lib.hid (HB0.out.trans (HF.out.mono hz0))
  have Z0 := Lib.hid (X0.out.call HF.out)
  have Z1 := Lib.hid (X1.out.call HF.out)
  have HQ2 := Lib.hid (rd_mv R_Quota_ok HQ.out HF.out)
  have hz1 := HB1.out.size
  clear HF
  rcases mem_cases q HQq.out with ⟨hq, hm⟩ | ⟨hq, hm⟩
  rotate_left
  · have HE := Lib.hid (show M = 0 from by rw [HKv.out]; exact if_neg hm)
    obtain rfl := HE.out
    clear hm
    subst hq
    go_wp2
    go_ret
    exact ⟨rfl, HB1.out⟩
  have HE := Lib.hid (show M = quotaIn Q (l, s) from by rw [HKv.out]; exact if_pos hm)
  clear hm
  subst hq
  have p2 := Z0.out.at_ 2 rfl
  go_wp2
  go_loopw [5] (fun i wr => ∃ k : Nat, k ≤ Q.length ∧ i = .int .i64 k ∧ Hid (∀ (j : Nat) y, j < k → Q[j]? = some y → y.1 ≠ (l, s)) ∧ Below w3.heap.size w3 wr) (fun i _ => Q.length - (intOf i).toNat)
  case atStart => exact ⟨0, Nat.zero_le _, rfl, Lib.hid fun j y h => absurd h (Nat.not_lt_zero _), Below.refl _ _⟩
  case round =>
    obtain ⟨k, hk, rfl, HA, hB⟩ := hrel
    obtain ⟨wo, rfl⟩ : ∃ x, x = wr := ⟨_, rfl⟩
    have HB := Lib.hid hB
    have hsz := hB.size
    have Y0 := Lib.hid (Z0.out.call hB)
    have Y1 := Lib.hid (Z1.out.call hB)
    have q2 := Y0.out.at_ 2 rfl
    by_cases hlt : k < Q.length
    · have hdl : decide ((k : Int) < (Q.length : Int)) = true := decide_eq_true (by omega)
      obtain ⟨⟨⟨x0, x1⟩, x2⟩, hx⟩ := el_some hlt
      have HX := Lib.hid hx
      obtain ⟨g, o, us, rfl, hg, hu, hr⟩ := (rd_mv R_Quota_ok HQ2.out hB).at_ hx
      obtain rfl := rd_Quota hr
      have e0 : wo.cell? ⟨g, o + k * 3, none⟩ = some (.int .i64 x0) := by simpa [size_QuotaS, Nat.add_assoc] using hu 0 _ rfl
      have e1 : wo.cell? ⟨g, o + k * 3 + 1, none⟩ = some (.int .i64 x1) := by simpa [size_QuotaS, Nat.add_assoc] using hu 1 _ rfl
      have e2 : wo.cell? ⟨g, o + k * 3 + 2, none⟩ = some (.int .i64 x2) := by simpa [size_QuotaS, Nat.add_assoc] using hu 2 _ rfl
      have HG := Lib.hid hg
      have hi0 : (0 : Int) ≤ (k : Int) := Int.natCast_nonneg _
      have hi1 : (k : Int) < (Q.length : Int) := by omega
      obtain ⟨b, hb⟩ : ∃ b, decide (((x0, x1) : Int × Int) = (l, s)) = b := ⟨_, rfl⟩
      have hE := eql_lab x0 x1 l s b hb
      have HBE := Lib.hid hb
      clear hB hx hu hr hg hb p2
      cases b with
      | false =>
        have HA2 := Lib.hid (show ∀ (j : Nat) y, j < k + 1 → Q[j]? = some y → y.1 ≠ (l, s) from fun j y hj hy => by
          by_cases e : j = k
          · subst e; rw [HX.out] at hy; obtain rfl := Option.some.inj hy
            exact of_decide_eq_false HBE.out
          · exact HA.out j y (by omega) hy)
        go_wp2_with fail
        refine wp_region_held_drew (S := (fun V => Below (wo).heap.size (wo) V)) (by kernel_rfl) ((Below.refl _ _).drew) (fun hHeld => ?_)
        refine tk 0 hHeld ?_
        refine tk 1 hHeld ?_ (hy := fun w hSw => by (try dsimp only at hSw); have k0 := (hSw.cell (p := ⟨W.heap.size, 2, none⟩) Y0.out.lt).trans (Y0.out.at_ 2 rfl); clear hSw; go_simp; try with_reducible rfl)
        refine tk 2 hHeld ?_
        refine tk 3 hHeld ?_
        refine tk 4 hHeld ?_
        refine tk 5 hHeld ?_ (hy := fun w hSw => by (try dsimp only at hSw); have k0 := (hSw.cell (p := ⟨g, o + k * 3, none⟩) HG.out).trans e0; have k1 := (hSw.cell (p := ⟨g, o + k * 3 + 1, none⟩) HG.out).trans e1; clear hSw; go_simp; try with_reducible rfl)
        refine tk 6 hHeld ?_ (hy := fun w hSw => by (try dsimp only at hSw); have k0 := (hSw.cell (p := ⟨W.heap.size + 1, 0, none⟩) Y1.out.lt).trans (Y1.out.at_ 0 rfl); have k1 := (hSw.cell (p := ⟨W.heap.size + 1, 1, none⟩) Y1.out.lt).trans (Y1.out.at_ 1 rfl); clear hSw; go_simp; try with_reducible rfl)
        refine tk 7 hHeld ?_
        refine rd0 ?_
        have HF := Lib.hid hHeld
        clear hHeld
        have HB3 := Lib.hid (HB.out.trans (HF.out.mono hsz))
        clear HF e0 e1 e2 q2
        go_wp2
        go_roundw
        case rel => exact ⟨k + 1, by omega, by go_num, HA2, HB3.out⟩
        case measure => simp [intOf]; omega
      | true =>
        have HV := Lib.hid (show M = x2 from by rw [HE.out]; exact quotaIn_hit HX.out (of_decide_eq_true HBE.out) HA.out)
        obtain rfl := HV.out
        go_wp2_with fail
        refine wp_region_held_drew (S := (fun V => Below (wo).heap.size (wo) V)) (by kernel_rfl) ((Below.refl _ _).drew) (fun hHeld => ?_)
        refine tk 0 hHeld ?_
        refine tk 1 hHeld ?_ (hy := fun w hSw => by (try dsimp only at hSw); have k0 := (hSw.cell (p := ⟨W.heap.size, 2, none⟩) Y0.out.lt).trans (Y0.out.at_ 2 rfl); clear hSw; go_simp; try with_reducible rfl)
        refine tk 2 hHeld ?_
        refine tk 3 hHeld ?_
        refine tk 4 hHeld ?_
        refine tk 5 hHeld ?_ (hy := fun w hSw => by (try dsimp only at hSw); have k0 := (hSw.cell (p := ⟨g, o + k * 3, none⟩) HG.out).trans e0; have k1 := (hSw.cell (p := ⟨g, o + k * 3 + 1, none⟩) HG.out).trans e1; clear hSw; go_simp; try with_reducible rfl)
        refine tk 6 hHeld ?_ (hy := fun w hSw => by (try dsimp only at hSw); have k0 := (hSw.cell (p := ⟨W.heap.size + 1, 0, none⟩) Y1.out.lt).trans (Y1.out.at_ 0 rfl); have k1 := (hSw.cell (p := ⟨W.heap.size + 1, 1, none⟩) Y1.out.lt).trans (Y1.out.at_ 1 rfl); clear hSw; go_simp; try with_reducible rfl)
        refine tk 7 hHeld ?_
        refine rd0 ?_
        have HF := Lib.hid hHeld
        clear hHeld
        have HB3 := Lib.hid (HB.out.trans (HF.out.mono hsz))
        have r2 := (HF.out.cell (p := ⟨W.heap.size, 2, none⟩) Y0.out.lt).trans q2
        have r5 := (HF.out.cell (p := ⟨g, o + k * 3 + 2, none⟩) HG.out).trans e2
        clear HF e0 e1 e2 q2
        obtain ⟨w9, hw9⟩ : ∃ w, w = wo.drew := ⟨_, rfl⟩
        rw [← hw9] at HB3 r2 r5
        rw [← hw9]
        clear hw9
        go_wp2
        go_ret
        exact ⟨rfl, HB1.out.trans (HB3.out.mono hz1)⟩
    · have hdl : decide ((k : Int) < (Q.length : Int)) = false := decide_eq_false (by omega)
      have HV := Lib.hid (show M = 6 from by rw [HE.out]; exact quotaIn_none fun j y hy => HA.out j y (by have := el_lt hy; omega) hy)
      obtain rfl := HV.out
      clear hB
      go_wp2
      go_ret
      exact ⟨rfl, HB1.out.trans (HB.out.mono hz1)⟩
end Go.Proofs.YtelhmacfljffhaaGreat.RepC
end
section
namespace Go.Proofs.YtelhmacfljffhaaGreat.RepC
open Go.RowKit RowC ValC
set_option linter.unusedVariables false
set_option linter.unusedSimpArgs false
def zs_BoolS (n : Nat) : Array Value := madeCells #[.bool false] (n * 1)
theorem make_BoolS (n : Nat) (hn : n ≤ 1048576) : ∀ W : World, (Instr.makeSlice 65 (.int .i64 (n : Int)) (.int .i64 (n : Int))).run Tryz.prog W = .ok (.slice (some ⟨W.heap.size, 0, none⟩) n n) (W.alloc (.cells (zs_BoolS n) 4)) := by
  intro W
  obtain ⟨i, hi, hz, hs, hb⟩ : ∃ i, Tryz.prog.info? 4 = some i ∧ i.zero = some (.bool false) ∧ i.size = 1 ∧ i.bytes = 1 := by
    have h : (Tryz.prog.info? 4).map (fun i => (i.zero, i.size, i.bytes)) = some (some (.bool false), 1, 1) := by kernel_rfl
    cases hx : Tryz.prog.info? 4 with
    | none => rw [hx] at h; simp at h
    | some i => rw [hx] at h; simp at h; exact ⟨i, rfl, h.1, h.2.1, h.2.2⟩
  have hr := run_make (P := Tryz.prog) W 65 4 i _ Tryz.underlying65 hi hz .i64 .i64 n n (by omega) (by omega) (by rw [hb]; omega) (by omega)
  rw [hs] at hr
  simp only [Int.toNat_natCast] at hr
  exact hr
end Go.Proofs.YtelhmacfljffhaaGreat.RepC
end
section
namespace Go.Proofs.YtelhmacfljffhaaGreat.RepC
open Go.RowKit RowC ValC SpanC KeptC NameC CfC
set_option linter.unusedVariables false
set_option linter.unusedSimpArgs false
theorem nodes_le {C : List (List D_Label)} {P : List D_Pair} {Q : List D_Quota} {hf : Int} (h : CfgR C P Q hf) : 1 ≤ C.length ∧ C.length ≤ 6 := ⟨h.1.1, h.1.2.1⟩
structure Pre13 (C : List (List D_Label)) (P : List D_Pair) (Q : List D_Quota) (hf : Int) (N : List D_Node) (T : List D_Task) (U : List D_Use) (now : Int) : Prop where
  now : isB now 0 999900 = true
  cfg : CfgR C P Q hf
  nds : NdsR N
  len : N.length = C.length
  tas : TasksR T
  use : UsesR U
theorem quotaV_at {C : List (List D_Label)} {P : List D_Pair} {Q : List D_Quota} {hf : Int} {a : D_Label} (h : CfgR C P Q hf) (ha : a ∈ labsOf C) : quotaV C P Q hf a = quotaIn Q a := by
  have h1 : labsV C P Q hf = labsOf C := by unfold labsV; rw [cfgB_iff.2 h]; rfl
  unfold quotaV
  rw [h1]
  exact if_pos ha
theorem make_bool6 : ∀ W : World, (Instr.makeSlice 65 (.int .i64 6) (.int .i64 6)).run Tryz.prog W = .ok (.slice (some ⟨W.heap.size, 0, none⟩) 6 6) (W.alloc (.cells #[.bool false, .bool false, .bool false, .bool false, .bool false, .bool false] 4)) := fun W => (make_BoolS 6 (by decide) W).trans (by rw [show zs_BoolS 6 = #[.bool false, .bool false, .bool false, .bool false, .bool false, .bool false] from by kernel_rfl])
set_option maxRecDepth 100000 in
set_option maxHeartbeats 6400000 in
theorem yard_spec {C : List (List D_Label)} {P : List D_Pair} {Q : List D_Quota} {hf : Int} {ca pa qa : Option Addr} {cc pc qc : Nat} {N : List D_Node} {T : List D_Task} {U : List D_Use} {now : Int} {na ta ua : Option Addr} {nc tc uc : Nat} {W : World} (hC : RdSl (Sl R_Label) W W.heap.size C ca cc) (hP : RdSl R_Pair W W.heap.size P pa pc) (hQ : RdSl R_Quota W W.heap.size Q qa qc) (hN : RdSl R_Node W W.heap.size N na nc) (hT : RdSl R_Task W W.heap.size T ta tc) (hU : RdSl R_Use W W.heap.size U ua uc) :
    Calls Tryz.prog 6 #[.agg #[.slice ca C.length cc, .slice pa P.length pc, .slice qa Q.length qc, .int .i64 hf, .slice na N.length nc, .slice ta T.length tc, .slice ua U.length uc, .int .i64 now]] W (ResB (YardR ((C, P, Q, hf), N, T, U, now)) W) := by
  have hNn : N.length ≤ 9223372036854775807 := by have h1 := hN.1; have h2 := hN.2.1; unfold maxLen at h2; omega
  have hTn : T.length ≤ 9223372036854775807 := by have h1 := hT.1; have h2 := hT.2.1; unfold maxLen at h2; omega
  have hUn : U.length ≤ 9223372036854775807 := by have h1 := hU.1; have h2 := hU.2.1; unfold maxLen at h2; omega
  have hCn : C.length ≤ 9223372036854775807 := by have h1 := hC.1; have h2 := hC.2.1; unfold maxLen at h2; omega
  obtain ⟨b0, hb0⟩ : ∃ b, isB now 0 999900 = b := ⟨_, rfl⟩
  have Hb0 := Lib.hid hb0
  clear hb0
  obtain ⟨b1, hb1⟩ : ∃ b, cfgB C P Q hf = b := ⟨_, rfl⟩
  have Hb1 := Lib.hid hb1
  clear hb1
  obtain ⟨b2, hb2⟩ : ∃ b, nodesB N = b := ⟨_, rfl⟩
  have Hb2 := Lib.hid hb2
  clear hb2
  obtain ⟨b4, hb4⟩ : ∃ b, tasksB T = b := ⟨_, rfl⟩
  have Hb4 := Lib.hid hb4
  clear hb4
  obtain ⟨b5, hb5⟩ : ∃ b, usesB U = b := ⟨_, rfl⟩
  have Hb5 := Lib.hid hb5
  clear hb5
  obtain ⟨w0, hw0⟩ : ∃ w, w = W.alloc (.cells #[.slice ca C.length cc, .slice pa P.length pc, .slice qa Q.length qc, .int .i64 hf, .slice na N.length nc, .slice ta T.length tc, .slice ua U.length uc, .int .i64 now] 43) := ⟨_, rfl⟩
  have hb0 : Below W.heap.size W w0 := by rw [hw0]; exact (Below.refl _ _).alloc (Nat.le_refl _) _
  have x0_ : Blk w0 (W.heap.size) 43 #[.slice ca C.length cc, .slice pa P.length pc, .slice qa Q.length qc, .int .i64 hf, .slice na N.length nc, .slice ta T.length tc, .slice ua U.length uc, .int .i64 now] := by
    have h9 := Blk.new W 43 #[.slice ca C.length cc, .slice pa P.length pc, .slice qa Q.length qc, .int .i64 hf, .slice na N.length nc, .slice ta T.length tc, .slice ua U.length uc, .int .i64 now]
    try simp only [World.size_alloc] at h9
    rw [hw0]; exact h9
  have X0 := Lib.hid x0_
  have HC := Lib.hid (rd_mv (Sl_ok R_Label_ok) hC hb0)
  have HP := Lib.hid (rd_mv R_Pair_ok hP hb0)
  have HQ := Lib.hid (rd_mv R_Quota_ok hQ hb0)
  have HN := Lib.hid (rd_mv R_Node_ok hN hb0)
  have HT := Lib.hid (rd_mv R_Task_ok hT hb0)
  have HU := Lib.hid (rd_mv R_Use_ok hU hb0)
  have HB0 := Lib.hid hb0
  have hz0 := hb0.size
  clear hb0 hC hP hQ hN hT hU x0_
  go_enter Tryz.func6, Tryz.ntmps6
  go_wp2_with fail
  rw [← hw0]
  clear hw0
  have qX0_0 := X0.out.at_ 0 rfl
  have qX0_1 := X0.out.at_ 1 rfl
  have qX0_2 := X0.out.at_ 2 rfl
  have qX0_3 := X0.out.at_ 3 rfl
  have qX0_4 := X0.out.at_ 4 rfl
  have qX0_5 := X0.out.at_ 5 rfl
  have qX0_6 := X0.out.at_ 6 rfl
  have qX0_7 := X0.out.at_ 7 rfl
  refine (nowS_at _ Hb0.out _).mono ?_
  rintro e v0 ⟨rfl, rfl⟩
  cases b0 with
  | false =>
    have HV := Lib.hid (show ¬ YardR ((C, P, Q, hf), N, T, U, now) from fun h => by have h2 := h.1; rw [Hb0.out] at h2; cases h2)
    go_wp2
    go_ret
    exact resB_no HV.out HB0.out
  | true =>
  go_wp2_with fail
  have hcx := config_spec HC.out HP.out HQ.out (hf := hf)
  rw [Hb1.out] at hcx
  refine hcx.mono ?_
  intro e v1 h
  obtain ⟨rfl, hb⟩ := isB_elim h
  have HC := Lib.hid (rd_mv (Sl_ok R_Label_ok) HC.out hb)
  have HP := Lib.hid (rd_mv R_Pair_ok HP.out hb)
  have HQ := Lib.hid (rd_mv R_Quota_ok HQ.out hb)
  have HN := Lib.hid (rd_mv R_Node_ok HN.out hb)
  have HT := Lib.hid (rd_mv R_Task_ok HT.out hb)
  have HU := Lib.hid (rd_mv R_Use_ok HU.out hb)
  have X0 := Lib.hid (X0.out.call hb)
  have HB0 := Lib.hid (HB0.out.trans (hb.mono HB0.out.size))
  clear h hb hcx qX0_0 qX0_1 qX0_2 qX0_3 qX0_4 qX0_5 qX0_6 qX0_7
  have qX0_0 := X0.out.at_ 0 rfl
  have qX0_1 := X0.out.at_ 1 rfl
  have qX0_2 := X0.out.at_ 2 rfl
  have qX0_3 := X0.out.at_ 3 rfl
  have qX0_4 := X0.out.at_ 4 rfl
  have qX0_5 := X0.out.at_ 5 rfl
  have qX0_6 := X0.out.at_ 6 rfl
  have qX0_7 := X0.out.at_ 7 rfl
  cases b1 with
  | false =>
    have HV := Lib.hid (show ¬ YardR ((C, P, Q, hf), N, T, U, now) from fun h => by have h2 := cfgB_iff.2 h.2.1; rw [Hb1.out] at h2; cases h2)
    go_wp2
    go_ret
    exact resB_no HV.out HB0.out
  | true =>
  go_wp2_with fail
  have hcx := nds_spec HN.out
  rw [Hb2.out] at hcx
  refine hcx.mono ?_
  intro e v2 h
  obtain ⟨rfl, hb⟩ := isB_elim h
  have HC := Lib.hid (rd_mv (Sl_ok R_Label_ok) HC.out hb)
  have HP := Lib.hid (rd_mv R_Pair_ok HP.out hb)
  have HQ := Lib.hid (rd_mv R_Quota_ok HQ.out hb)
  have HN := Lib.hid (rd_mv R_Node_ok HN.out hb)
  have HT := Lib.hid (rd_mv R_Task_ok HT.out hb)
  have HU := Lib.hid (rd_mv R_Use_ok HU.out hb)
  have X0 := Lib.hid (X0.out.call hb)
  have HB0 := Lib.hid (HB0.out.trans (hb.mono HB0.out.size))
  clear h hb hcx qX0_0 qX0_1 qX0_2 qX0_3 qX0_4 qX0_5 qX0_6 qX0_7
  have qX0_0 := X0.out.at_ 0 rfl
  have qX0_1 := X0.out.at_ 1 rfl
  have qX0_2 := X0.out.at_ 2 rfl
  have qX0_3 := X0.out.at_ 3 rfl
  have qX0_4 := X0.out.at_ 4 rfl
  have qX0_5 := X0.out.at_ 5 rfl
  have qX0_6 := X0.out.at_ 6 rfl
  have qX0_7 := X0.out.at_ 7 rfl
  cases b2 with
  | false =>
    have HV := Lib.hid (show ¬ YardR ((C, P, Q, hf), N, T, U, now) from fun h => by have h2 := nodesB_iff.2 h.2.2.1; rw [Hb2.out] at h2; cases h2)
    go_wp2
    go_ret
    exact resB_no HV.out HB0.out
  | true =>
  by_cases hnl : N.length = C.length
  rotate_left
  · have hne : ((N.length : Int) != (C.length : Int)) = true := by simp; omega
    have HV := Lib.hid (show ¬ YardR ((C, P, Q, hf), N, T, U, now) from fun h => hnl h.2.2.2.1)
    go_wp2
    go_ret
    exact resB_no HV.out HB0.out
  have hne : ((N.length : Int) != (C.length : Int)) = false := by simp; omega
  have HNL := Lib.hid hnl
  clear hnl
  go_wp2_with fail
  have hcx := tasks_spec HT.out
  rw [Hb4.out] at hcx
  refine hcx.mono ?_
  intro e v4 h
  obtain ⟨rfl, hb⟩ := isB_elim h
  have HC := Lib.hid (rd_mv (Sl_ok R_Label_ok) HC.out hb)
  have HP := Lib.hid (rd_mv R_Pair_ok HP.out hb)
  have HQ := Lib.hid (rd_mv R_Quota_ok HQ.out hb)
  have HN := Lib.hid (rd_mv R_Node_ok HN.out hb)
  have HT := Lib.hid (rd_mv R_Task_ok HT.out hb)
  have HU := Lib.hid (rd_mv R_Use_ok HU.out hb)
  have X0 := Lib.hid (X0.out.call hb)
  have HB0 := Lib.hid (HB0.out.trans (hb.mono HB0.out.size))
  clear h hb hcx qX0_0 qX0_1 qX0_2 qX0_3 qX0_4 qX0_5 qX0_6 qX0_7
  have qX0_0 := X0.out.at_ 0 rfl
  have qX0_1 := X0.out.at_ 1 rfl
  have qX0_2 := X0.out.at_ 2 rfl
  have qX0_3 := X0.out.at_ 3 rfl
  have qX0_4 := X0.out.at_ 4 rfl
  have qX0_5 := X0.out.at_ 5 rfl
  have qX0_6 := X0.out.at_ 6 rfl
  have qX0_7 := X0.out.at_ 7 rfl
  cases b4 with
  | false =>
    have HV := Lib.hid (show ¬ YardR ((C, P, Q, hf), N, T, U, now) from fun h => by have h2 := tasksB_iff.2 h.2.2.2.2.1; rw [Hb4.out] at h2; cases h2)
    go_wp2
    go_ret
    exact resB_no HV.out HB0.out
  | true =>
  go_wp2_with fail
  have hcx := uses_spec HU.out
  rw [Hb5.out] at hcx
  refine hcx.mono ?_
  intro e v5 h
  obtain ⟨rfl, hb⟩ := isB_elim h
  have HC := Lib.hid (rd_mv (Sl_ok R_Label_ok) HC.out hb)
  have HP := Lib.hid (rd_mv R_Pair_ok HP.out hb)
  have HQ := Lib.hid (rd_mv R_Quota_ok HQ.out hb)
  have HN := Lib.hid (rd_mv R_Node_ok HN.out hb)
  have HT := Lib.hid (rd_mv R_Task_ok HT.out hb)
  have HU := Lib.hid (rd_mv R_Use_ok HU.out hb)
  have X0 := Lib.hid (X0.out.call hb)
  have HB0 := Lib.hid (HB0.out.trans (hb.mono HB0.out.size))
  clear h hb hcx qX0_0 qX0_1 qX0_2 qX0_3 qX0_4 qX0_5 qX0_6 qX0_7
  have qX0_0 := X0.out.at_ 0 rfl
  have qX0_1 := X0.out.at_ 1 rfl
  have qX0_2 := X0.out.at_ 2 rfl
  have qX0_3 := X0.out.at_ 3 rfl
  have qX0_4 := X0.out.at_ 4 rfl
  have qX0_5 := X0.out.at_ 5 rfl
  have qX0_6 := X0.out.at_ 6 rfl
  have qX0_7 := X0.out.at_ 7 rfl
  cases b5 with
  | false =>
    have HV := Lib.hid (show ¬ YardR ((C, P, Q, hf), N, T, U, now) from fun h => by have h2 := usesB_iff.2 h.2.2.2.2.2.1; rw [Hb5.out] at h2; cases h2)
    go_wp2
    go_ret
    exact resB_no HV.out HB0.out
  | true =>
  have HPRE := Lib.hid (⟨Hb0.out, cfgB_iff.1 Hb1.out, nodesB_iff.1 Hb2.out, HNL.out, tasksB_iff.1 Hb4.out, usesB_iff.1 Hb5.out⟩ : Pre13 C P Q hf N T U now)
  have hnow := (isB_iff _ _ _).1 Hb0.out
  have hT96 := HPRE.out.tas.1
  have hz1 := HB0.out.size
  clear hne qX0_0 qX0_1 qX0_2 qX0_3 qX0_4 qX0_5 qX0_6 qX0_7
  have hmk := make_bool6
  obtain ⟨w1, hw1⟩ : ∃ w, w = v5.alloc (.cells #[.bool false, .bool false, .bool false, .bool false, .bool false, .bool false] 4) := ⟨_, rfl⟩
  have HUS0 := Lib.hid (show Usd w1 v5.heap.size 4 (fun n => takenT T 0 n) from by rw [hw1]; exact (Usd.new v5 _).more fun m _ => ⟨fun h => h.elim, fun h => takenT_zero h⟩)
  have hb1 : Below v5.heap.size v5 w1 := by rw [hw1]; exact (Below.refl _ _).alloc (Nat.le_refl _) _
  have HB1 := Lib.hid hb1
  clear hb1
  obtain ⟨gu, hgu⟩ : ∃ g, g = v5.heap.size := ⟨_, rfl⟩
  have HGU := Lib.hid (show gu = v5.heap.size from hgu)
  rw [← hgu] at HUS0
  have qX0_0 := X0.out.at_ 0 rfl
  have qX0_1 := X0.out.at_ 1 rfl
  have qX0_2 := X0.out.at_ 2 rfl
  have qX0_3 := X0.out.at_ 3 rfl
  have qX0_4 := X0.out.at_ 4 rfl
  have qX0_5 := X0.out.at_ 5 rfl
  have qX0_6 := X0.out.at_ 6 rfl
  have qX0_7 := X0.out.at_ 7 rfl
  go_upto_region 4 with fail
  rw [← hw1, ← hgu]
  clear hw1 hgu qX0_0 qX0_1 qX0_2 qX0_3 qX0_4 qX0_5 qX0_6 qX0_7 hmk
  go_wp2
  go_loopw [4] (fun i wr => ∃ k : Nat, k ≤ T.length ∧ i = .int .i64 k ∧ Hid (fitTo C now T k) ∧ Hid (Usd wr gu 4 (fun n => takenT T k n)) ∧ Below v5.heap.size v5 wr) (fun i _ => T.length - (intOf i).toNat)
  case atStart => exact ⟨0, Nat.zero_le _, rfl, Lib.hid fitTo_zero, HUS0, HB1.out⟩
  case round =>
    obtain ⟨k, hk, rfl, HFT, HUS, hB⟩ := hrel
    obtain ⟨wo, rfl⟩ : ∃ x, x = wr := ⟨_, rfl⟩
    have HB := Lib.hid hB
    have hsz := hB.size
    have HBW := Lib.hid (HB0.out.trans (hB.mono hz1))
    have Z0 := Lib.hid (X0.out.call hB)
    have q5 := Z0.out.at_ 5 rfl
    by_cases hlt : k < T.length
    · have hdl : decide ((k : Int) < (T.length : Int)) = true := decide_eq_true (by omega)
      obtain ⟨⟨⟨x0, x1⟩, x2, x3, x4, x5, x6, ⟨x7, x8⟩, x9, x10, x11, x12, M⟩, hx⟩ := el_some hlt
      have HX := Lib.hid hx
      have HTR := Lib.hid (show TaskR ((x0, x1), x2, x3, x4, x5, x6, (x7, x8), x9, x10, x11, x12, M) from (HPRE.out.tas.2 k _ hx).1)
      obtain ⟨g, o, us, rfl, hg, hu, hr⟩ := HT.out.at_ hx
      obtain ⟨ma, mc, rfl, k_M, b_x3⟩ := rd_Task hr
      have e0 : wo.cell? ⟨g, o + k * 14, none⟩ = some (.int .i64 x0) := (hB.cell (p := ⟨g, _, none⟩) hg).trans (by simpa [size_TaskS, Nat.add_assoc] using hu 0 _ rfl)
      have e1 : wo.cell? ⟨g, o + k * 14 + 1, none⟩ = some (.int .i64 x1) := (hB.cell (p := ⟨g, _, none⟩) hg).trans (by simpa [size_TaskS, Nat.add_assoc] using hu 1 _ rfl)
      have e2 : wo.cell? ⟨g, o + k * 14 + 2, none⟩ = some (.int .i64 x2) := (hB.cell (p := ⟨g, _, none⟩) hg).trans (by simpa [size_TaskS, Nat.add_assoc] using hu 2 _ rfl)
      have e3 : wo.cell? ⟨g, o + k * 14 + 3, none⟩ = some (.string x3) := (hB.cell (p := ⟨g, _, none⟩) hg).trans (by simpa [size_TaskS, Nat.add_assoc] using hu 3 _ rfl)
      have e4 : wo.cell? ⟨g, o + k * 14 + 4, none⟩ = some (.int .i64 x4) := (hB.cell (p := ⟨g, _, none⟩) hg).trans (by simpa [size_TaskS, Nat.add_assoc] using hu 4 _ rfl)
      have e5 : wo.cell? ⟨g, o + k * 14 + 5, none⟩ = some (.int .i64 x5) := (hB.cell (p := ⟨g, _, none⟩) hg).trans (by simpa [size_TaskS, Nat.add_assoc] using hu 5 _ rfl)
      have e6 : wo.cell? ⟨g, o + k * 14 + 6, none⟩ = some (.int .i64 x6) := (hB.cell (p := ⟨g, _, none⟩) hg).trans (by simpa [size_TaskS, Nat.add_assoc] using hu 6 _ rfl)
      have e7 : wo.cell? ⟨g, o + k * 14 + 7, none⟩ = some (.int .i64 x7) := (hB.cell (p := ⟨g, _, none⟩) hg).trans (by simpa [size_TaskS, Nat.add_assoc] using hu 7 _ rfl)
      have e8 : wo.cell? ⟨g, o + k * 14 + 8, none⟩ = some (.int .i64 x8) := (hB.cell (p := ⟨g, _, none⟩) hg).trans (by simpa [size_TaskS, Nat.add_assoc] using hu 8 _ rfl)
      have e9 : wo.cell? ⟨g, o + k * 14 + 9, none⟩ = some (.int .i64 x9) := (hB.cell (p := ⟨g, _, none⟩) hg).trans (by simpa [size_TaskS, Nat.add_assoc] using hu 9 _ rfl)
      have e10 : wo.cell? ⟨g, o + k * 14 + 10, none⟩ = some (.int .i64 x10) := (hB.cell (p := ⟨g, _, none⟩) hg).trans (by simpa [size_TaskS, Nat.add_assoc] using hu 10 _ rfl)
      have e11 : wo.cell? ⟨g, o + k * 14 + 11, none⟩ = some (.int .i64 x11) := (hB.cell (p := ⟨g, _, none⟩) hg).trans (by simpa [size_TaskS, Nat.add_assoc] using hu 11 _ rfl)
      have e12 : wo.cell? ⟨g, o + k * 14 + 12, none⟩ = some (.int .i64 x12) := (hB.cell (p := ⟨g, _, none⟩) hg).trans (by simpa [size_TaskS, Nat.add_assoc] using hu 12 _ rfl)
      have e13 : wo.cell? ⟨g, o + k * 14 + 13, none⟩ = some (.slice ma M.length mc) := (hB.cell (p := ⟨g, _, none⟩) hg).trans (by simpa [size_TaskS, Nat.add_assoc] using hu 13 _ rfl)
      have hi0 : (0 : Int) ≤ (k : Int) := Int.natCast_nonneg _
      have hi1 : (k : Int) < (T.length : Int) := by omega
      have HK := Lib.hid k_M
      have hMn : M.length ≤ 9223372036854775807 := by have h1 := k_M.1; have h2 := k_M.2.1; unfold maxLen at h2; omega
      obtain ⟨w2, hw2⟩ : ∃ w, w = wo.alloc (.cells #[.int .i64 x0, .int .i64 x1, .int .i64 x2, .string x3, .int .i64 x4, .int .i64 x5, .int .i64 x6, .int .i64 x7, .int .i64 x8, .int .i64 x9, .int .i64 x10, .int .i64 x11, .int .i64 x12, .slice ma M.length mc] 70) := ⟨_, rfl⟩
      have hb2 : Below wo.heap.size wo w2 := by rw [hw2]; exact (Below.refl _ _).alloc (Nat.le_refl _) _
      have Y2 := Lib.hid (show Blk w2 wo.heap.size 70 #[.int .i64 x0, .int .i64 x1, .int .i64 x2, .string x3, .int .i64 x4, .int .i64 x5, .int .i64 x6, .int .i64 x7, .int .i64 x8, .int .i64 x9, .int .i64 x10, .int .i64 x11, .int .i64 x12, .slice ma M.length mc] from by rw [hw2]; exact Blk.new _ _ _)
      have Z2 := Lib.hid (Z0.out.call hb2)
      have HB2 := Lib.hid (HB.out.trans (hb2.mono hsz))
      have HUS2 := Lib.hid (HUS.out.call hb2)
      have HC2 := Lib.hid (rd_mv (Sl_ok R_Label_ok) (rd_mv (Sl_ok R_Label_ok) HC.out hB) hb2)
      have HM2 := Lib.hid (rd_mv I_ok HK.out HB2.out)
      clear hB hx hr hu hg k_M hb2
      go_upto_region 8 with fail
      rw [← hw2]
      clear hw2 e0 e1 e2 e3 e4 e5 e6 e7 e8 e9 e10 e11 e12 e13 q5
      have zz0 := Z2.out.at_ 0 rfl
      have zz1 := Z2.out.at_ 1 rfl
      have zz2 := Z2.out.at_ 2 rfl
      have zz3 := Z2.out.at_ 3 rfl
      have zz4 := Z2.out.at_ 4 rfl
      have zz5 := Z2.out.at_ 5 rfl
      have zz6 := Z2.out.at_ 6 rfl
      have zz7 := Z2.out.at_ 7 rfl
      have yy0 := Y2.out.at_ 0 rfl
      have yy1 := Y2.out.at_ 1 rfl
      have yy2 := Y2.out.at_ 2 rfl
      have yy3 := Y2.out.at_ 3 rfl
      have yy4 := Y2.out.at_ 4 rfl
      have yy5 := Y2.out.at_ 5 rfl
      have yy6 := Y2.out.at_ 6 rfl
      have yy7 := Y2.out.at_ 7 rfl
      have yy8 := Y2.out.at_ 8 rfl
      have yy9 := Y2.out.at_ 9 rfl
      have yy10 := Y2.out.at_ 10 rfl
      have yy11 := Y2.out.at_ 11 rfl
      have yy12 := Y2.out.at_ 12 rfl
      have yy13 := Y2.out.at_ 13 rfl
      go_wp2_with fail
      refine (task13_spec HC2.out HM2.out HTR.out (nodes_le HPRE.out.cfg).2 HPRE.out.len hnow).mono ?_
      intro e w3 h
      obtain ⟨b, rfl, hb, hbl⟩ := resB_elim h
      have HFB := Lib.hid hb
      have HB3 := Lib.hid (HB2.out.trans (hbl.mono HB2.out.size))
      have HBW3 := Lib.hid (HB0.out.trans (HB3.out.mono hz1))
      have Y3 := Lib.hid (Y2.out.call hbl)
      have Z3 := Lib.hid (Z2.out.call hbl)
      have HUS3 := Lib.hid (HUS2.out.call hbl)
      have hz3 := HB3.out.size
      clear h hb hbl zz0 zz1 zz2 zz3 zz4 zz5 zz6 zz7 yy0 yy1 yy2 yy3 yy4 yy5 yy6 yy7 yy8 yy9 yy10 yy11 yy12 yy13
      cases b with
      | false =>
        have HV := Lib.hid (show ¬ YardR ((C, P, Q, hf), N, T, U, now) from fun h => by have h2 := (h.2.2.2.2.2.2.1 k _ hlt HX.out).1; have := HFB.out.2 h2; cases this)
        go_wp2
        go_ret
        exact resB_no HV.out HBW3.out
      | true =>
      have HFIT := Lib.hid (HFB.out.1 rfl)
      have y9 := Y3.out.at_ 9 rfl
      have y11 := Y3.out.at_ 11 rfl
      have y13 := Y3.out.at_ 13 rfl
      by_cases hs2 : x11 = 2
      · have hs2' : (x11 == 2) = true := beq_iff_eq.2 hs2
        have HS2 := Lib.hid hs2
        clear hs2
        have HUS4 := Lib.hid (HUS3.out.more (q := fun n => takenT T k n ∨ n ∈ M.take 0) fun m _ => by simp)
        go_wp2
        go_loopw [6] (fun i wr => ∃ j : Nat, j ≤ M.length ∧ i = .int .i64 j ∧ Hid (Usd wr gu 4 (fun n => takenT T k n ∨ n ∈ M.take j)) ∧ Hid (∀ (q : Nat) (n : Int), q < j → M[q]? = some n → ¬ takenT T k n) ∧ Hid (Blk wr wo.heap.size 70 #[.int .i64 x0, .int .i64 x1, .int .i64 x2, .string x3, .int .i64 x4, .int .i64 x5, .int .i64 x6, .int .i64 x7, .int .i64 x8, .int .i64 x9, .int .i64 x10, .int .i64 x11, .int .i64 x12, .slice ma M.length mc]) ∧ Below v5.heap.size v5 wr) (fun i _ => M.length - (intOf i).toNat)
        case atStart => exact ⟨0, Nat.zero_le _, rfl, HUS4, Lib.hid fun q n h => absurd h (Nat.not_lt_zero _), Y3, HB3.out⟩
        case round =>
          obtain ⟨j, hj, rfl, HU5, HNT, HY5, hB5⟩ := hrel
          have HM5 := Lib.hid (rd_mv I_ok HK.out hB5)
          have HB5 := Lib.hid hB5
          have HBW5 := Lib.hid (HB0.out.trans (hB5.mono hz1))
          have u9 := HY5.out.at_ 9 rfl
          have u11 := HY5.out.at_ 11 rfl
          have u13 := HY5.out.at_ 13 rfl
          have hz5 := hB5.size
          clear hB5 y9 y11 y13
          by_cases hjl : j < M.length
          · have hdj : decide ((j : Int) < (M.length : Int)) = true := decide_eq_true (by omega)
            obtain ⟨n, hn⟩ := el_some hjl
            have hrg := nodesR_rng (has_nodes HTR.out hjl) hn
            obtain ⟨m, rfl⟩ : ∃ m : Nat, n = (m : Int) := ⟨n.toNat, by omega⟩
            have hm6 : m < 6 := by omega
            have HN := Lib.hid hn
            obtain ⟨gm, om, us5, rfl, hgm, hum, hrm⟩ := HM5.out.at_ hn
            obtain rfl : us5 = [_] := hrm
            have em : wr.cell? ⟨gm, om + j, none⟩ = some (.int .i64 (m : Int)) := by simpa [show I.size = 1 from rfl] using hum 0 _ rfl
            obtain ⟨c, hc1, hc2, hc3⟩ := HU5.out.get hm6
            have HC3 := Lib.hid hc3
            have hj0 : (0 : Int) ≤ (j : Int) := Int.natCast_nonneg _
            have hj1 : (j : Int) < (M.length : Int) := by omega
            have hm0 : (0 : Int) ≤ (m : Int) := Int.natCast_nonneg _
            have hm1 : (m : Int) < 6 := by omega
            have HNOT := Lib.hid (show ¬ ((m : Int) ∈ M.take j) from fun h => by
              obtain ⟨q, hq, he⟩ := List.mem_iff_getElem.1 h
              have hqj : q < j := by have := hq; rw [List.length_take, Nat.min_eq_left (Nat.le_of_lt hjl)] at this; exact this
              rw [List.getElem_take] at he
              have hql : q < M.length := by omega
              have hqe : M[q]? = some (m : Int) := by rw [← he]; exact List.getElem?_eq_getElem hql
              have := nodesR_once (has_nodes HTR.out hjl) (i := q) (j := j) hqe hn
              omega)
            clear hn hum hgm hc3 hrg
            cases c with
            | true =>
              have HV := Lib.hid (show ¬ YardR ((C, P, Q, hf), N, T, U, now) from fun h => by have h2 := (h.2.2.2.2.2.2.1 k _ hlt HX.out).2 HS2.out _ (List.mem_of_getElem? HN.out); rcases HC3.out.1 rfl with h3 | h3; exact h2 h3; exact HNOT.out h3)
              go_wp2
              go_ret
              exact resB_no HV.out HBW5.out
            | false =>
              have HFREE := Lib.hid (show ¬ takenT T k (m : Int) from fun h => by have := HC3.out.2 (.inl h); cases this)
              have HNT2 := Lib.hid (show ∀ (q : Nat) (n : Int), q < j + 1 → M[q]? = some n → ¬ takenT T k n from fun q n hq hn => by
                by_cases e : q = j
                · subst e; rw [HN.out] at hn; cases hn; exact HFREE.out
                · exact HNT.out q n (by omega) hn)
              have HU6 := Lib.hid ((HU5.out.put hm6).more (q := fun n => takenT T k n ∨ n ∈ M.take (j + 1)) fun i _ => by
                rw [List.take_add_one, HN.out]
                simp only [Option.toList_some, List.mem_append, List.mem_singleton]
                exact or_assoc)
              have HY6 := Lib.hid (HY5.out.far (b := gu) (o := m) (by have h1 := HUS.out.lt; omega) (.bool true))
              have HB6 := Lib.hid (HB5.out.setCell (p := ⟨gu, m, none⟩) (by show v5.heap.size ≤ gu; rw [HGU.out]; exact Nat.le_refl _) (.bool true))
              go_wp2
              go_roundw
              case rel => exact ⟨j + 1, by omega, by go_num, HU6, HNT2, HY6, HB6.out⟩
              case measure => simp [intOf]; omega
          · have hdj : decide ((j : Int) < (M.length : Int)) = false := decide_eq_false (by omega)
            obtain rfl : j = M.length := by omega
            have HOK := Lib.hid (show okY C now T k ((x0, x1), x2, x3, x4, x5, x6, (x7, x8), x9, x10, x11, x12, M) from ⟨HFIT.out, fun _ n hn => by
              obtain ⟨q, hq, rfl⟩ := List.mem_iff_getElem.1 hn
              exact HNT.out q _ hq (List.getElem?_eq_getElem hq)⟩)
            have HFT2 := Lib.hid (fitTo_step HFT.out HX.out HOK.out)
            have HU7 := Lib.hid (HU5.out.more (q := fun n => takenT T (k + 1) n) fun i _ => by
              rw [takenT_step HX.out, List.take_length]
              exact ⟨fun h => h.imp id fun h => ⟨HS2.out, h⟩, fun h => h.imp id fun h => h.2⟩)
            go_wp2
            go_roundw
            case rel => exact ⟨k + 1, by omega, by go_num, HFT2, HU7, HB5.out⟩
            case measure => simp [intOf]; omega
      · have hs2' : (x11 == 2) = false := beq_eq_false_iff_ne.2 hs2
        have HOK := Lib.hid (show okY C now T k ((x0, x1), x2, x3, x4, x5, x6, (x7, x8), x9, x10, x11, x12, M) from ⟨HFIT.out, fun h => absurd h hs2⟩)
        have HFT2 := Lib.hid (fitTo_step HFT.out HX.out HOK.out)
        have HU7 := Lib.hid (HUS3.out.more (q := fun n => takenT T (k + 1) n) fun i _ => by
          rw [takenT_step HX.out]
          exact ⟨fun h => .inl h, fun h => h.elim id fun h => absurd h.1 hs2⟩)
        clear hs2
        go_wp2
        go_loopw [6] (fun i wr => i = .int .i64 0 ∧ wr = w3) (fun i _ => 0)
        case atStart => exact ⟨rfl, rfl⟩
        case round =>
          obtain ⟨rfl, rfl⟩ := hrel
          by_cases hM0 : 0 < M.length
          · have hdM : decide ((0 : Int) < (M.length : Int)) = true := decide_eq_true (by omega)
            go_wp2
            go_roundw
            case rel => exact ⟨k + 1, by omega, by go_num, HFT2, HU7, HB3.out⟩
            case measure => simp [intOf]; omega
          · have hdM : decide ((0 : Int) < (M.length : Int)) = false := decide_eq_false (by omega)
            go_wp2
            go_roundw
            case rel => exact ⟨k + 1, by omega, by go_num, HFT2, HU7, HB3.out⟩
            case measure => simp [intOf]; omega
    · have hdl : decide ((k : Int) < (T.length : Int)) = false := decide_eq_false (by omega)
      obtain rfl : k = T.length := by omega
      have HCo := Lib.hid (rd_mv (Sl_ok R_Label_ok) HC.out hB)
      have HPo := Lib.hid (rd_mv R_Pair_ok HP.out hB)
      have HQo := Lib.hid (rd_mv R_Quota_ok HQ.out hB)
      have HTo := Lib.hid (rd_mv R_Task_ok HT.out hB)
      have HUo := Lib.hid (rd_mv R_Use_ok HU.out hB)
      obtain ⟨K, hK⟩ : ∃ K, labsOf C = K := ⟨_, rfl⟩
      have HKK := Lib.hid hK
      clear hB hK
      have q0 := Z0.out.at_ 0 rfl
      go_wp2_with fail
      have hlb := labs_spec HCo.out
      rw [HKK.out] at hlb
      refine hlb.mono ?_
      intro e w6 h
      obtain ⟨la, lc, rfl, ho, hb⟩ := newS_elim h
      have HL := Lib.hid (ho.rd R_Label_ok (B := w6.heap.size) fun k hk => hk.2)
      have HBL := Lib.hid (HBW.out.trans (hb.mono HBW.out.size))
      have Z6 := Lib.hid (Z0.out.call hb)
      have HC6 := Lib.hid (rd_mv (Sl_ok R_Label_ok) HCo.out hb)
      have HP6 := Lib.hid (rd_mv R_Pair_ok HPo.out hb)
      have HQ6 := Lib.hid (rd_mv R_Quota_ok HQo.out hb)
      have HT6 := Lib.hid (rd_mv R_Task_ok HTo.out hb)
      have HU6 := Lib.hid (rd_mv R_Use_ok HUo.out hb)
      have hKn : K.length ≤ 8 := by rw [← HKK.out]; exact HPRE.out.cfg.2.2.1
      have hz6 := HBL.out.size
      clear h ho hlb hb q0 q5
      have q6 := Z6.out.at_ 6 rfl
      go_wp2
      go_loopw [8] (fun i wr => ∃ j : Nat, j ≤ U.length ∧ i = .int .i64 j ∧ Hid (∀ (q : Nat) u, q < j → U[q]? = some u → u.1 ∈ K) ∧ Below w6.heap.size w6 wr) (fun i _ => U.length - (intOf i).toNat)
      case atStart => exact ⟨0, Nat.zero_le _, rfl, Lib.hid fun q u h => absurd h (Nat.not_lt_zero _), Below.refl _ _⟩
      case round =>
        obtain ⟨j, hj, rfl, HA, hB⟩ := hrel
        obtain ⟨wp, rfl⟩ : ∃ x, x = wr := ⟨_, rfl⟩
        have HBj := Lib.hid hB
        have HBWj := Lib.hid (HBL.out.trans (hB.mono hz6))
        have Zj := Lib.hid (Z6.out.call hB)
        have r6 := Zj.out.at_ 6 rfl
        by_cases hjl : j < U.length
        · have hdj : decide ((j : Int) < (U.length : Int)) = true := decide_eq_true (by omega)
          obtain ⟨⟨⟨u0, u1⟩, u2, u3⟩, hu⟩ := el_some hjl
          have HX2 := Lib.hid hu
          obtain ⟨gq, oq, usq, rfl, hgq, huq, hrq⟩ := (rd_mv R_Use_ok HU6.out hB).at_ hu
          obtain ⟨rfl, _⟩ := rd_Use hrq
          have e0 : wp.cell? ⟨gq, oq + j * 4, none⟩ = some (.int .i64 u0) := by simpa [size_UseS, Nat.add_assoc] using huq 0 _ rfl
          have e1 : wp.cell? ⟨gq, oq + j * 4 + 1, none⟩ = some (.int .i64 u1) := by simpa [size_UseS, Nat.add_assoc] using huq 1 _ rfl
          have hj0 : (0 : Int) ≤ (j : Int) := Int.natCast_nonneg _
          have hj1 : (j : Int) < (U.length : Int) := by omega
          have HLj := Lib.hid (rd_mv R_Label_ok HL.out hB)
          clear hB hu huq hgq q6
          go_wp2_with fail
          refine (cleared_spec HLj.out).mono ?_
          intro e w7 h
          obtain ⟨b, rfl, hb, hbl⟩ := resB_elim h
          have HMB := Lib.hid hb
          have HB7 := Lib.hid (HBj.out.trans (hbl.mono HBj.out.size))
          have HBW7 := Lib.hid (HBWj.out.trans (hbl.mono HBWj.out.size))
          clear h hb hbl e0 e1 r6
          cases b with
          | false =>
            have HV := Lib.hid (show ¬ YardR ((C, P, Q, hf), N, T, U, now) from fun h => by have h2 := h.2.2.2.2.2.2.2.1 _ _ HX2.out; rw [HKK.out] at h2; have := HMB.out.2 h2; cases this)
            go_wp2
            go_ret
            exact resB_no HV.out HBW7.out
          | true =>
            have HA2 := Lib.hid (show ∀ (q : Nat) u, q < j + 1 → U[q]? = some u → u.1 ∈ K from fun q u hq hu => by
              by_cases e : q = j
              · subst e; rw [HX2.out] at hu; cases hu; exact HMB.out.1 rfl
              · exact HA.out q u (by omega) hu)
            go_wp2
            go_roundw
            case rel => exact ⟨j + 1, by omega, by go_num, HA2, HB7.out⟩
            case measure => simp [intOf]; omega
        · have hdj : decide ((j : Int) < (U.length : Int)) = false := decide_eq_false (by omega)
          obtain rfl : j = U.length := by omega
          have HC7 := Lib.hid (rd_mv (Sl_ok R_Label_ok) HC6.out hB)
          have HP7 := Lib.hid (rd_mv R_Pair_ok HP6.out hB)
          have HQ7 := Lib.hid (rd_mv R_Quota_ok HQ6.out hB)
          have HT7 := Lib.hid (rd_mv R_Task_ok HT6.out hB)
          have HL7 := Lib.hid (rd_mv R_Label_ok HL.out hB)
          have HUI := Lib.hid (show usesIn C U from fun i u hu => by rw [HKK.out]; exact HA.out i u (List.getElem?_eq_some_iff.1 hu).1 hu)
          have hzp := HBWj.out.size
          clear hB q6
          go_wp2
          go_loopw [9] (fun i wr => ∃ j : Nat, j ≤ K.length ∧ i = .int .i64 j ∧ Hid (∀ (q : Nat) a, q < j → K[q]? = some a → (liveTo T a T.length : Int) ≤ quotaIn Q a) ∧ Below wp.heap.size wp wr) (fun i _ => K.length - (intOf i).toNat)
          case atStart => exact ⟨0, Nat.zero_le _, rfl, Lib.hid fun q u h => absurd h (Nat.not_lt_zero _), Below.refl _ _⟩
          case round =>
            obtain ⟨i, hi, rfl, HQA, hB⟩ := hrel
            have HBi := Lib.hid hB
            have hszi := hB.size
            have HBWi := Lib.hid (HBWj.out.trans (hB.mono hzp))
            have Zi := Lib.hid (Zj.out.call hB)
            by_cases hil : i < K.length
            · have hdi : decide ((i : Int) < (K.length : Int)) = true := decide_eq_true (by omega)
              obtain ⟨⟨l0, l1⟩, hl⟩ := el_some hil
              have HX3 := Lib.hid hl
              obtain ⟨gl, ol, usl, rfl, hgl, hul, hrl⟩ := (rd_mv R_Label_ok HL7.out hB).at_ hl
              obtain rfl := rd_Label hrl
              have e0 : wr.cell? ⟨gl, ol + i * 2, none⟩ = some (.int .i64 l0) := by simpa [size_LabelS, Nat.add_assoc] using hul 0 _ rfl
              have e1 : wr.cell? ⟨gl, ol + i * 2 + 1, none⟩ = some (.int .i64 l1) := by simpa [size_LabelS, Nat.add_assoc] using hul 1 _ rfl
              have HE0 := Lib.hid e0
              have HE1 := Lib.hid e1
              have HGL := Lib.hid hgl
              have hi0 : (0 : Int) ≤ (i : Int) := Int.natCast_nonneg _
              have hi1 : (i : Int) < (K.length : Int) := by omega
              have HCi := Lib.hid (rd_mv (Sl_ok R_Label_ok) HC7.out hB)
              have HPi := Lib.hid (rd_mv R_Pair_ok HP7.out hB)
              have HQi := Lib.hid (rd_mv R_Quota_ok HQ7.out hB)
              have HTi := Lib.hid (rd_mv R_Task_ok HT7.out hB)
              obtain ⟨n1, hn1⟩ : ∃ n, liveTo T (l0, l1) T.length = n := ⟨_, rfl⟩
              obtain ⟨n2, hn2⟩ : ∃ n, quotaIn Q (l0, l1) = n := ⟨_, rfl⟩
              have HL1 := Lib.hid (show liveOf T (l0, l1) = (n1 : Int) from by rw [liveOf_yes (tasksB_iff.2 HPRE.out.tas), hn1])
              have HL2 := Lib.hid (show quotaV C P Q hf (l0, l1) = n2 from by rw [quotaV_at HPRE.out.cfg (by rw [HKK.out]; exact List.mem_of_getElem? hl), hn2])
              have HN1 := Lib.hid hn1
              have HN2 := Lib.hid hn2
              obtain ⟨c, hc⟩ : ∃ c, decide (n2 < (n1 : Int)) = c := ⟨_, rfl⟩
              clear hB hl hul hgl hn1 hn2 e0 e1
              go_upto_region 25 with fail
              refine wp_region_held_drew (S := (fun V => Below (wr).heap.size (wr) V)) (by kernel_rfl) ((Below.refl _ _).drew) (fun hHeld => ?_)
              refine tk 0 hHeld ?_
              refine tk 1 hHeld ?_ (hy := fun w hSw => by (try dsimp only at hSw); have k0 := (hSw.cell (p := ⟨W.heap.size, 5, none⟩) Zi.out.lt).trans (Zi.out.at_ 5 rfl); clear hSw; go_simp; try with_reducible rfl)
              refine tk 2 hHeld ?_
              refine tk 3 hHeld ?_
              refine tk 4 hHeld ?_
              refine tk 5 hHeld ?_ (hy := fun w hSw => by (try dsimp only at hSw); have k0 := (hSw.cell (p := ⟨gl, ol + i * 2, none⟩) HGL.out).trans HE0.out; have k1 := (hSw.cell (p := ⟨gl, ol + i * 2 + 1, none⟩) HGL.out).trans HE1.out; clear hSw; go_simp; try with_reducible rfl)
              refine tk 7 hHeld ?_
              refine tk 8 hHeld ?_ (hy := fun w hSw => by (try dsimp only at hSw); have k0 := (hSw.cell (p := ⟨W.heap.size, 0, none⟩) Zi.out.lt).trans (Zi.out.at_ 0 rfl); have k1 := (hSw.cell (p := ⟨W.heap.size, 1, none⟩) Zi.out.lt).trans (Zi.out.at_ 1 rfl); have k2 := (hSw.cell (p := ⟨W.heap.size, 2, none⟩) Zi.out.lt).trans (Zi.out.at_ 2 rfl); have k3 := (hSw.cell (p := ⟨W.heap.size, 3, none⟩) Zi.out.lt).trans (Zi.out.at_ 3 rfl); clear hSw; go_simp; try with_reducible rfl)
              refine tk 9 hHeld ?_
              refine tk 10 hHeld ?_
              refine tk 11 hHeld ?_
              refine tk 12 hHeld ?_ (hy := fun w hSw => by (try dsimp only at hSw); have k0 := (hSw.cell (p := ⟨gl, ol + i * 2, none⟩) HGL.out).trans HE0.out; have k1 := (hSw.cell (p := ⟨gl, ol + i * 2 + 1, none⟩) HGL.out).trans HE1.out; clear hSw; go_simp; try with_reducible rfl)
              refine rd1 6 (fun K hK => ?_)
              go_simp
              go_at_call 30
              have hlv := live_spec (l0 := l0) (l1 := l1) (rd_mv R_Task_ok HTi.out hHeld)
              unfold OfL at hlv
              rw [HL1.out] at hlv
              refine hlv.mono ?_
              rintro e w8 ⟨rfl, hb⟩
              clear hlv
              refine hK.out _ _ (hHeld.trans (hb.mono hHeld.size)) (fun hHeld => ?_)
              clear hK K hb
              refine rd1 13 (fun K hK => ?_)
              go_simp
              go_at_call 31
              have hqv := quotaof_spec (l := l0) (s := l1) (hf := hf) (rd_mv (Sl_ok R_Label_ok) HCi.out hHeld) (rd_mv R_Pair_ok HPi.out hHeld) (rd_mv R_Quota_ok HQi.out hHeld)
              rw [HL2.out] at hqv
              refine hqv.mono ?_
              intro e w9 h
              obtain ⟨rfl, hb⟩ := isI_elim h
              clear h hqv
              refine hK.out _ _ (hHeld.trans (hb.mono hHeld.size)) (fun hHeld => ?_)
              clear hK K hb
              refine tk 14 hHeld ?_
              refine rd0 ?_
              have HF := Lib.hid hHeld
              clear hHeld
              have HB8 := Lib.hid (HBi.out.trans (HF.out.mono hszi))
              have HBW8 := Lib.hid (HBWi.out.trans (HF.out.mono HBWi.out.size))
              clear HF
              cases c with
              | true =>
                have HV := Lib.hid (show ¬ YardR ((C, P, Q, hf), N, T, U, now) from fun h => by have h2 := h.2.2.2.2.2.2.2.2 i (l0, l1) (by rw [HKK.out]; exact HX3.out); rw [HN1.out, HN2.out] at h2; have := of_decide_eq_true hc; omega)
                go_wp2
                go_ret
                exact resB_no HV.out HBW8.out
              | false =>
                have HQA2 := Lib.hid (show ∀ (q : Nat) a, q < i + 1 → K[q]? = some a → (liveTo T a T.length : Int) ≤ quotaIn Q a from fun q a hq ha => by
                  by_cases e : q = i
                  · subst e; rw [HX3.out] at ha; cases ha; rw [HN1.out, HN2.out]; have := of_decide_eq_false hc; omega
                  · exact HQA.out q a (by omega) ha)
                clear hc
                go_wp2
                go_roundw
                case rel => exact ⟨i + 1, by omega, by go_num, HQA2, HB8.out⟩
                case measure => simp [intOf]; omega
            · have hdi : decide ((i : Int) < (K.length : Int)) = false := decide_eq_false (by omega)
              obtain rfl : i = K.length := by omega
              clear hB
              have HV := Lib.hid (show YardR ((C, P, Q, hf), N, T, U, now) from ⟨HPRE.out.now, HPRE.out.cfg, HPRE.out.nds, HPRE.out.len, HPRE.out.tas, HPRE.out.use, HFT.out, HUI.out, fun q a ha => by rw [HKK.out] at ha; exact HQA.out q a (List.getElem?_eq_some_iff.1 ha).1 ha⟩)
              go_wp2
              go_ret
              exact resB_yes HV.out HBWi.out
end Go.Proofs.YtelhmacfljffhaaGreat.RepC
end
section
namespace Go.Proofs.YtelhmacfljffhaaGreat.RepC
open Go.RowKit RowC ValC SpanC KeptC NameC CfC
set_option linter.unusedVariables false
set_option linter.unusedSimpArgs false
set_option maxRecDepth 100000 in
set_option maxHeartbeats 6400000 in
theorem labelsfit_impl {C : List (List D_Label)} {P : List D_Pair} {Q : List D_Quota} {hf : Int} {ca pa qa : Option Addr} {cc pc qc : Nat} {N : List D_Node} {T : List D_Task} {U : List D_Use} {now : Int} {na ta ua : Option Addr} {nc tc uc : Nat} {W : World} (hcl : ClearR C) (h96 : T.length ≤ 96) (hC : RdSl (Sl R_Label) W W.heap.size C ca cc) (hQ : RdSl R_Quota W W.heap.size Q qa qc) (hT : RdSl R_Task W W.heap.size T ta tc) (hU : RdSl R_Use W W.heap.size U ua uc) :
    Calls Tryz.prog 41 #[.agg #[.slice ca C.length cc, .slice pa P.length pc, .slice qa Q.length qc, .int .i64 hf, .slice na N.length nc, .slice ta T.length tc, .slice ua U.length uc, .int .i64 now]] W (ResB (quotasIn C Q T ∧ usesIn C U) W) := by
  have hUn : U.length ≤ 9223372036854775807 := by have h1 := hU.1; have h2 := hU.2.1; unfold maxLen at h2; omega
  obtain ⟨K, hK⟩ : ∃ K, labsOf C = K := ⟨_, rfl⟩
  have HKK := Lib.hid hK
  have hKn : K.length ≤ 32 := by rw [← hK]; exact labsTo_len C 32
  clear hK
  obtain ⟨w0, hw0⟩ : ∃ w, w = W.alloc (.cells #[.slice ca C.length cc, .slice pa P.length pc, .slice qa Q.length qc, .int .i64 hf, .slice na N.length nc, .slice ta T.length tc, .slice ua U.length uc, .int .i64 now] 43) := ⟨_, rfl⟩
  have hb0 : Below W.heap.size W w0 := by rw [hw0]; exact (Below.refl _ _).alloc (Nat.le_refl _) _
  have x0_ : Blk w0 (W.heap.size) 43 #[.slice ca C.length cc, .slice pa P.length pc, .slice qa Q.length qc, .int .i64 hf, .slice na N.length nc, .slice ta T.length tc, .slice ua U.length uc, .int .i64 now] := by
    have h9 := Blk.new W 43 #[.slice ca C.length cc, .slice pa P.length pc, .slice qa Q.length qc, .int .i64 hf, .slice na N.length nc, .slice ta T.length tc, .slice ua U.length uc, .int .i64 now]
    try simp only [World.size_alloc] at h9
    rw [hw0]; exact h9
  have X0 := Lib.hid x0_
  have HC := Lib.hid (rd_mv (Sl_ok R_Label_ok) hC hb0)
  have HQ := Lib.hid (rd_mv R_Quota_ok hQ hb0)
  have HT := Lib.hid (rd_mv R_Task_ok hT hb0)
  have HU := Lib.hid (rd_mv R_Use_ok hU hb0)
  have HB0 := Lib.hid hb0
  have hz0 := hb0.size
  clear hb0 hC hQ hT hU x0_
  go_enter Tryz.func41, Tryz.ntmps41
  go_upto_region 1 with fail
  rw [← hw0]
  clear hw0
  have qX0_0 := X0.out.at_ 0 rfl
  have qX0_1 := X0.out.at_ 1 rfl
  have qX0_2 := X0.out.at_ 2 rfl
  have qX0_3 := X0.out.at_ 3 rfl
  have qX0_4 := X0.out.at_ 4 rfl
  have qX0_5 := X0.out.at_ 5 rfl
  have qX0_6 := X0.out.at_ 6 rfl
  have qX0_7 := X0.out.at_ 7 rfl
  go_wp2_with fail
  have hlb := labs_impl hcl HC.out
  rw [HKK.out] at hlb
  refine hlb.mono ?_
  intro e w1 h
  obtain ⟨la, lc, rfl, ho, hb⟩ := newS_elim h
  have HL := Lib.hid (ho.rd R_Label_ok (B := w1.heap.size) fun k hk => hk.2)
  have HB1 := Lib.hid (HB0.out.trans (hb.mono hz0))
  have Z1 := Lib.hid (X0.out.call hb)
  have HQ1 := Lib.hid (rd_mv R_Quota_ok HQ.out hb)
  have HT1 := Lib.hid (rd_mv R_Task_ok HT.out hb)
  have HU1 := Lib.hid (rd_mv R_Use_ok HU.out hb)
  have hz1 := HB1.out.size
  clear h ho hlb hb qX0_0 qX0_1 qX0_2 qX0_3 qX0_4 qX0_5 qX0_6 qX0_7
  go_wp2
  go_loopw [14] (fun i wr => ∃ j : Nat, j ≤ K.length ∧ i = .int .i64 j ∧ Hid (∀ (q : Nat) a, q < j → K[q]? = some a → (liveTo T a T.length : Int) ≤ quotaIn Q a) ∧ Below w1.heap.size w1 wr) (fun i _ => K.length - (intOf i).toNat)
  case atStart => exact ⟨0, Nat.zero_le _, rfl, Lib.hid fun q u h => absurd h (Nat.not_lt_zero _), Below.refl _ _⟩
  case round =>
    obtain ⟨i, hi, rfl, HQA, hB⟩ := hrel
    obtain ⟨wo, rfl⟩ : ∃ x, x = wr := ⟨_, rfl⟩
    have HB := Lib.hid hB
    have hsz := hB.size
    have HBW := Lib.hid (HB1.out.trans (hB.mono hz1))
    have Z2 := Lib.hid (Z1.out.call hB)
    by_cases hil : i < K.length
    · have hdi : decide ((i : Int) < (K.length : Int)) = true := decide_eq_true (by omega)
      obtain ⟨⟨l0, l1⟩, hl⟩ := el_some hil
      have HX := Lib.hid hl
      obtain ⟨gl, ol, usl, rfl, hgl, hul, hrl⟩ := (rd_mv R_Label_ok HL.out hB).at_ hl
      obtain rfl := rd_Label hrl
      have e0 : wo.cell? ⟨gl, ol + i * 2, none⟩ = some (.int .i64 l0) := by simpa [size_LabelS, Nat.add_assoc] using hul 0 _ rfl
      have e1 : wo.cell? ⟨gl, ol + i * 2 + 1, none⟩ = some (.int .i64 l1) := by simpa [size_LabelS, Nat.add_assoc] using hul 1 _ rfl
      have hi0 : (0 : Int) ≤ (i : Int) := Int.natCast_nonneg _
      have hi1 : (i : Int) < (K.length : Int) := by omega
      obtain ⟨w2, hw2⟩ : ∃ w, w = wo.alloc (.cells #[.int .i64 l0, .int .i64 l1] 67) := ⟨_, rfl⟩
      have hb2 : Below wo.heap.size wo w2 := by rw [hw2]; exact (Below.refl _ _).alloc (Nat.le_refl _) _
      have Y2 := Lib.hid (show Blk w2 wo.heap.size 67 #[.int .i64 l0, .int .i64 l1] from by rw [hw2]; exact Blk.new _ _ _)
      have Z3 := Lib.hid (Z2.out.call hb2)
      have HB2 := Lib.hid (HB.out.trans (hb2.mono hsz))
      have hsz2 := HB2.out.size
      have HBW2 := Lib.hid (HBW.out.trans (hb2.mono HBW.out.size))
      have HQ2 := Lib.hid (rd_mv R_Quota_ok (rd_mv R_Quota_ok HQ1.out hB) hb2)
      have HT2 := Lib.hid (rd_mv R_Task_ok (rd_mv R_Task_ok HT1.out hB) hb2)
      obtain ⟨n1, hn1⟩ : ∃ n, liveTo T (l0, l1) T.length = n := ⟨_, rfl⟩
      obtain ⟨n2, hn2⟩ : ∃ n, quotaIn Q (l0, l1) = n := ⟨_, rfl⟩
      have HN1 := Lib.hid hn1
      have HN2 := Lib.hid hn2
      obtain ⟨c, hc⟩ : ∃ c, decide (n2 < (n1 : Int)) = c := ⟨_, rfl⟩
      clear hB hl hul hgl hb2 hn1 hn2
      go_upto_region 5 with fail
      rw [← hw2]
      clear hw2 e0 e1
      refine wp_region_held_drew (S := (fun V => Below (w2).heap.size (w2) V)) (by kernel_rfl) ((Below.refl _ _).drew) (fun hHeld => ?_)
      refine tk 0 hHeld ?_
      refine tk 1 hHeld ?_ (hy := fun w hSw => by (try dsimp only at hSw); have k0 := (hSw.cell (p := ⟨W.heap.size, 5, none⟩) Z3.out.lt).trans (Z3.out.at_ 5 rfl); clear hSw; go_simp; try with_reducible rfl)
      refine tk 2 hHeld ?_ (hy := fun w hSw => by (try dsimp only at hSw); have k0 := (hSw.cell (p := ⟨wo.heap.size, 0, none⟩) Y2.out.lt).trans (Y2.out.at_ 0 rfl); have k1 := (hSw.cell (p := ⟨wo.heap.size, 1, none⟩) Y2.out.lt).trans (Y2.out.at_ 1 rfl); clear hSw; go_simp; try with_reducible rfl)
      refine tk 4 hHeld ?_
      refine tk 5 hHeld ?_ (hy := fun w hSw => by (try dsimp only at hSw); have k0 := (hSw.cell (p := ⟨W.heap.size, 0, none⟩) Z3.out.lt).trans (Z3.out.at_ 0 rfl); have k1 := (hSw.cell (p := ⟨W.heap.size, 1, none⟩) Z3.out.lt).trans (Z3.out.at_ 1 rfl); have k2 := (hSw.cell (p := ⟨W.heap.size, 2, none⟩) Z3.out.lt).trans (Z3.out.at_ 2 rfl); have k3 := (hSw.cell (p := ⟨W.heap.size, 3, none⟩) Z3.out.lt).trans (Z3.out.at_ 3 rfl); clear hSw; go_simp; try with_reducible rfl)
      refine tk 6 hHeld ?_ (hy := fun w hSw => by (try dsimp only at hSw); have k0 := (hSw.cell (p := ⟨wo.heap.size, 0, none⟩) Y2.out.lt).trans (Y2.out.at_ 0 rfl); have k1 := (hSw.cell (p := ⟨wo.heap.size, 1, none⟩) Y2.out.lt).trans (Y2.out.at_ 1 rfl); clear hSw; go_simp; try with_reducible rfl)
      refine rd1 3 (fun K hK => ?_)
      go_simp
      go_at_call 104
      have hlv := livein_impl (l0 := l0) (l1 := l1) h96 (rd_mv R_Task_ok HT2.out hHeld)
      rw [HN1.out] at hlv
      refine hlv.mono ?_
      intro e w8 h
      obtain ⟨rfl, hb⟩ := isI_elim h
      clear h hlv
      refine hK.out _ _ (hHeld.trans (hb.mono hHeld.size)) (fun hHeld => ?_)
      clear hK K hb
      refine rd1 7 (fun K hK => ?_)
      go_simp
      go_at_call 105
      have hqv := mostlive_impl (C := C) (P := P) (ca := ca) (pa := pa) (cc := cc) (pc := pc) (hf := hf) (l := l0) (s := l1) (rd_mv R_Quota_ok HQ2.out hHeld)
      rw [HN2.out] at hqv
      refine hqv.mono ?_
      intro e w9 h
      obtain ⟨rfl, hb⟩ := isI_elim h
      clear h hqv
      refine hK.out _ _ (hHeld.trans (hb.mono hHeld.size)) (fun hHeld => ?_)
      clear hK K hb
      refine tk 8 hHeld ?_
      refine rd0 ?_
      have HF := Lib.hid hHeld
      clear hHeld
      have HB8 := Lib.hid (HB2.out.trans (HF.out.mono hsz2))
      have HBW8 := Lib.hid (HBW2.out.trans (HF.out.mono HBW2.out.size))
      clear HF
      cases c with
      | true =>
        have HV := Lib.hid (show ¬ (quotasIn C Q T ∧ usesIn C U) from fun h => by have h2 := h.1 i (l0, l1) (by rw [HKK.out]; exact HX.out); rw [HN1.out, HN2.out] at h2; have := of_decide_eq_true hc; omega)
        go_wp2
        go_ret
        exact resB_no HV.out HBW8.out
      | false =>
        have HQA2 := Lib.hid (show ∀ (q : Nat) a, q < i + 1 → K[q]? = some a → (liveTo T a T.length : Int) ≤ quotaIn Q a from fun q a hq ha => by
          by_cases e : q = i
          · subst e; rw [HX.out] at ha; cases ha; rw [HN1.out, HN2.out]; have := of_decide_eq_false hc; omega
          · exact HQA.out q a (by omega) ha)
        clear hc
        go_wp2
        go_roundw
        case rel => exact ⟨i + 1, by omega, by go_num, HQA2, HB8.out⟩
        case measure => simp [intOf]; omega
    · have hdi : decide ((i : Int) < (K.length : Int)) = false := decide_eq_false (by omega)
      obtain rfl : i = K.length := by omega
      have HQI := Lib.hid (show quotasIn C Q T from fun q a ha => by rw [HKK.out] at ha; exact HQA.out q a (List.getElem?_eq_some_iff.1 ha).1 ha)
      have HU2 := Lib.hid (rd_mv R_Use_ok HU1.out hB)
      have HL2 := Lib.hid (rd_mv R_Label_ok HL.out hB)
      have hzo := HBW.out.size
      clear hB
      have z6 := Z2.out.at_ 6 rfl
      go_wp2
      go_loopw [31] (fun i wr => ∃ j : Nat, j ≤ U.length ∧ i = .int .i64 j ∧ Hid (∀ (q : Nat) u, q < j → U[q]? = some u → u.1 ∈ K) ∧ Below wo.heap.size wo wr) (fun i _ => U.length - (intOf i).toNat)
      case atStart => exact ⟨0, Nat.zero_le _, rfl, Lib.hid fun q u h => absurd h (Nat.not_lt_zero _), Below.refl _ _⟩
      case round =>
        obtain ⟨j, hj, rfl, HA, hB⟩ := hrel
        have HBj := Lib.hid hB
        have hszj := hB.size
        have HBWj := Lib.hid (HBW.out.trans (hB.mono hzo))
        by_cases hjl : j < U.length
        · have hdj : decide ((j : Int) < (U.length : Int)) = true := decide_eq_true (by omega)
          obtain ⟨⟨⟨u0, u1⟩, u2, u3⟩, hu⟩ := el_some hjl
          have HX2 := Lib.hid hu
          obtain ⟨gq, oq, usq, rfl, hgq, huq, hrq⟩ := (rd_mv R_Use_ok HU2.out hB).at_ hu
          obtain ⟨rfl, _⟩ := rd_Use hrq
          have e0 : wr.cell? ⟨gq, oq + j * 4, none⟩ = some (.int .i64 u0) := by simpa [size_UseS, Nat.add_assoc] using huq 0 _ rfl
          have e1 : wr.cell? ⟨gq, oq + j * 4 + 1, none⟩ = some (.int .i64 u1) := by simpa [size_UseS, Nat.add_assoc] using huq 1 _ rfl
          have e2 : wr.cell? ⟨gq, oq + j * 4 + 2, none⟩ = some (.string u2) := by simpa [size_UseS, Nat.add_assoc] using huq 2 _ rfl
          have e3 : wr.cell? ⟨gq, oq + j * 4 + 3, none⟩ = some (.int .i64 u3) := by simpa [size_UseS, Nat.add_assoc] using huq 3 _ rfl
          have hj0 : (0 : Int) ≤ (j : Int) := Int.natCast_nonneg _
          have hj1 : (j : Int) < (U.length : Int) := by omega
          obtain ⟨w3, hw3⟩ : ∃ w, w = wr.alloc (.cells #[.int .i64 u0, .int .i64 u1, .string u2, .int .i64 u3] 76) := ⟨_, rfl⟩
          have hb3 : Below wr.heap.size wr w3 := by rw [hw3]; exact (Below.refl _ _).alloc (Nat.le_refl _) _
          have Y3 := Lib.hid (show Blk w3 wr.heap.size 76 #[.int .i64 u0, .int .i64 u1, .string u2, .int .i64 u3] from by rw [hw3]; exact Blk.new _ _ _)
          have HB3 := Lib.hid (HBj.out.trans (hb3.mono hszj))
          have HBW3 := Lib.hid (HBWj.out.trans (hb3.mono HBWj.out.size))
          have HL3 := Lib.hid (rd_mv R_Label_ok (rd_mv R_Label_ok HL2.out hB) hb3)
          clear hB hu huq hgq hb3 z6
          go_upto_region 11 with fail
          rw [← hw3]
          clear hw3 e0 e1 e2 e3
          have y0 := Y3.out.at_ 0 rfl
          have y1 := Y3.out.at_ 1 rfl
          go_wp2_with fail
          refine (contains_lab HL3.out).mono ?_
          intro e w7 h
          obtain ⟨b, rfl, hb, hbl⟩ := resB_elim h
          have HMB := Lib.hid hb
          have HB7 := Lib.hid (HB3.out.trans (hbl.mono HB3.out.size))
          have HBW7 := Lib.hid (HBW3.out.trans (hbl.mono HBW3.out.size))
          clear h hb hbl y0 y1
          cases b with
          | false =>
            have HV := Lib.hid (show ¬ (quotasIn C Q T ∧ usesIn C U) from fun h => by have h2 := h.2 _ _ HX2.out; rw [HKK.out] at h2; have := HMB.out.2 h2; cases this)
            go_wp2
            go_ret
            exact resB_no HV.out HBW7.out
          | true =>
            have HA2 := Lib.hid (show ∀ (q : Nat) u, q < j + 1 → U[q]? = some u → u.1 ∈ K from fun q u hq hu => by
              by_cases e : q = j
              · subst e; rw [HX2.out] at hu; cases hu; exact HMB.out.1 rfl
              · exact HA.out q u (by omega) hu)
            go_wp2
            go_roundw
            case rel => exact ⟨j + 1, by omega, by go_num, HA2, HB7.out⟩
            case measure => simp [intOf]; omega
        · have hdj : decide ((j : Int) < (U.length : Int)) = false := decide_eq_false (by omega)
          obtain rfl : j = U.length := by omega
          clear hB z6
          have HV := Lib.hid (show (quotasIn C Q T ∧ usesIn C U) from ⟨HQI.out, fun i u hu => by rw [HKK.out]; exact HA.out i u (List.getElem?_eq_some_iff.1 hu).1 hu⟩)
          go_wp2
          go_ret
          exact resB_yes HV.out HBWj.out
set_option maxRecDepth 100000 in
set_option maxHeartbeats 6400000 in
theorem yard_impl {C : List (List D_Label)} {P : List D_Pair} {Q : List D_Quota} {hf : Int} {ca pa qa : Option Addr} {cc pc qc : Nat} {N : List D_Node} {T : List D_Task} {U : List D_Use} {now : Int} {na ta ua : Option Addr} {nc tc uc : Nat} {W : World} (hC : RdSl (Sl R_Label) W W.heap.size C ca cc) (hP : RdSl R_Pair W W.heap.size P pa pc) (hQ : RdSl R_Quota W W.heap.size Q qa qc) (hN : RdSl R_Node W W.heap.size N na nc) (hT : RdSl R_Task W W.heap.size T ta tc) (hU : RdSl R_Use W W.heap.size U ua uc) :
    Calls Tryz.prog 8 #[.agg #[.slice ca C.length cc, .slice pa P.length pc, .slice qa Q.length qc, .int .i64 hf, .slice na N.length nc, .slice ta T.length tc, .slice ua U.length uc, .int .i64 now]] W (ResB (YardR ((C, P, Q, hf), N, T, U, now)) W) := by
  have hNn : N.length ≤ 9223372036854775807 := by have h1 := hN.1; have h2 := hN.2.1; unfold maxLen at h2; omega
  have hTn : T.length ≤ 9223372036854775807 := by have h1 := hT.1; have h2 := hT.2.1; unfold maxLen at h2; omega
  have hUn : U.length ≤ 9223372036854775807 := by have h1 := hU.1; have h2 := hU.2.1; unfold maxLen at h2; omega
  have hCn : C.length ≤ 9223372036854775807 := by have h1 := hC.1; have h2 := hC.2.1; unfold maxLen at h2; omega
  obtain ⟨b0, hb0⟩ : ∃ b, isB now 0 999900 = b := ⟨_, rfl⟩
  have Hb0 := Lib.hid hb0
  clear hb0
  obtain ⟨b1, hb1⟩ : ∃ b, cfgB C P Q hf = b := ⟨_, rfl⟩
  have Hb1 := Lib.hid hb1
  clear hb1
  obtain ⟨b2, hb2⟩ : ∃ b, nodesB N = b := ⟨_, rfl⟩
  have Hb2 := Lib.hid hb2
  clear hb2
  obtain ⟨b4, hb4⟩ : ∃ b, tasksB T = b := ⟨_, rfl⟩
  have Hb4 := Lib.hid hb4
  clear hb4
  obtain ⟨b5, hb5⟩ : ∃ b, usesB U = b := ⟨_, rfl⟩
  have Hb5 := Lib.hid hb5
  clear hb5
  obtain ⟨w0, hw0⟩ : ∃ w, w = W.alloc (.cells #[.slice ca C.length cc, .slice pa P.length pc, .slice qa Q.length qc, .int .i64 hf, .slice na N.length nc, .slice ta T.length tc, .slice ua U.length uc, .int .i64 now] 43) := ⟨_, rfl⟩
  have hb0 : Below W.heap.size W w0 := by rw [hw0]; exact (Below.refl _ _).alloc (Nat.le_refl _) _
  have x0_ : Blk w0 (W.heap.size) 43 #[.slice ca C.length cc, .slice pa P.length pc, .slice qa Q.length qc, .int .i64 hf, .slice na N.length nc, .slice ta T.length tc, .slice ua U.length uc, .int .i64 now] := by
    have h9 := Blk.new W 43 #[.slice ca C.length cc, .slice pa P.length pc, .slice qa Q.length qc, .int .i64 hf, .slice na N.length nc, .slice ta T.length tc, .slice ua U.length uc, .int .i64 now]
    try simp only [World.size_alloc] at h9
    rw [hw0]; exact h9
  have X0 := Lib.hid x0_
  have HC := Lib.hid (rd_mv (Sl_ok R_Label_ok) hC hb0)
  have HP := Lib.hid (rd_mv R_Pair_ok hP hb0)
  have HQ := Lib.hid (rd_mv R_Quota_ok hQ hb0)
  have HN := Lib.hid (rd_mv R_Node_ok hN hb0)
  have HT := Lib.hid (rd_mv R_Task_ok hT hb0)
  have HU := Lib.hid (rd_mv R_Use_ok hU hb0)
  have HB0 := Lib.hid hb0
  have hz0 := hb0.size
  clear hb0 hC hP hQ hN hT hU x0_
  go_enter Tryz.func8, Tryz.ntmps8
  go_upto_region 1 with fail
  rw [← hw0]
  clear hw0
  have qX0_0 := X0.out.at_ 0 rfl
  have qX0_1 := X0.out.at_ 1 rfl
  have qX0_2 := X0.out.at_ 2 rfl
  have qX0_3 := X0.out.at_ 3 rfl
  have qX0_4 := X0.out.at_ 4 rfl
  have qX0_5 := X0.out.at_ 5 rfl
  have qX0_6 := X0.out.at_ 6 rfl
  have qX0_7 := X0.out.at_ 7 rfl
  go_wp2_with fail
  have hcx := config_impl HC.out HP.out HQ.out (hf := hf)
  rw [Hb1.out] at hcx
  refine hcx.mono ?_
  intro e v1 h
  obtain ⟨rfl, hb⟩ := isB_elim h
  have HC := Lib.hid (rd_mv (Sl_ok R_Label_ok) HC.out hb)
  have HP := Lib.hid (rd_mv R_Pair_ok HP.out hb)
  have HQ := Lib.hid (rd_mv R_Quota_ok HQ.out hb)
  have HN := Lib.hid (rd_mv R_Node_ok HN.out hb)
  have HT := Lib.hid (rd_mv R_Task_ok HT.out hb)
  have HU := Lib.hid (rd_mv R_Use_ok HU.out hb)
  have X0 := Lib.hid (X0.out.call hb)
  have HB0 := Lib.hid (HB0.out.trans (hb.mono HB0.out.size))
  clear h hb hcx qX0_0 qX0_1 qX0_2 qX0_3 qX0_4 qX0_5 qX0_6 qX0_7
  have qX0_0 := X0.out.at_ 0 rfl
  have qX0_1 := X0.out.at_ 1 rfl
  have qX0_2 := X0.out.at_ 2 rfl
  have qX0_3 := X0.out.at_ 3 rfl
  have qX0_4 := X0.out.at_ 4 rfl
  have qX0_5 := X0.out.at_ 5 rfl
  have qX0_6 := X0.out.at_ 6 rfl
  have qX0_7 := X0.out.at_ 7 rfl
  cases b1 with
  | false =>
    have HV := Lib.hid (show ¬ (YardR ((C, P, Q, hf), N, T, U, now)) from fun h => by have h2 := cfgB_iff.2 h.2.1; rw [Hb1.out] at h2; cases h2)
    go_wp2
    go_ret
    exact resB_no HV.out HB0.out
  | true =>
  by_cases hnl : N.length = C.length
  rotate_left
  · have hne : ((N.length : Int) == (C.length : Int)) = false := by simp; omega
    have HV := Lib.hid (show ¬ (YardR ((C, P, Q, hf), N, T, U, now)) from fun h => hnl h.2.2.2.1)
    go_wp2
    go_ret
    exact resB_no HV.out HB0.out
  have hne : ((N.length : Int) == (C.length : Int)) = true := by simp; omega
  have HNL := Lib.hid hnl
  clear hnl
  go_wp2_with fail
  have hcx := nds_impl HN.out
  rw [Hb2.out] at hcx
  refine hcx.mono ?_
  intro e v2 h
  obtain ⟨rfl, hb⟩ := isB_elim h
  have HC := Lib.hid (rd_mv (Sl_ok R_Label_ok) HC.out hb)
  have HP := Lib.hid (rd_mv R_Pair_ok HP.out hb)
  have HQ := Lib.hid (rd_mv R_Quota_ok HQ.out hb)
  have HN := Lib.hid (rd_mv R_Node_ok HN.out hb)
  have HT := Lib.hid (rd_mv R_Task_ok HT.out hb)
  have HU := Lib.hid (rd_mv R_Use_ok HU.out hb)
  have X0 := Lib.hid (X0.out.call hb)
  have HB0 := Lib.hid (HB0.out.trans (hb.mono HB0.out.size))
  clear h hb hcx qX0_0 qX0_1 qX0_2 qX0_3 qX0_4 qX0_5 qX0_6 qX0_7
  have qX0_0 := X0.out.at_ 0 rfl
  have qX0_1 := X0.out.at_ 1 rfl
  have qX0_2 := X0.out.at_ 2 rfl
  have qX0_3 := X0.out.at_ 3 rfl
  have qX0_4 := X0.out.at_ 4 rfl
  have qX0_5 := X0.out.at_ 5 rfl
  have qX0_6 := X0.out.at_ 6 rfl
  have qX0_7 := X0.out.at_ 7 rfl
  cases b2 with
  | false =>
    have HV := Lib.hid (show ¬ (YardR ((C, P, Q, hf), N, T, U, now)) from fun h => by have h2 := nodesB_iff.2 h.2.2.1; rw [Hb2.out] at h2; cases h2)
    go_wp2
    go_ret
    exact resB_no HV.out HB0.out
  | true =>
  go_wp2_with fail
  have hcx := tasks_impl HT.out
  rw [Hb4.out] at hcx
  refine hcx.mono ?_
  intro e v4 h
  obtain ⟨rfl, hb⟩ := isB_elim h
  have HC := Lib.hid (rd_mv (Sl_ok R_Label_ok) HC.out hb)
  have HP := Lib.hid (rd_mv R_Pair_ok HP.out hb)
  have HQ := Lib.hid (rd_mv R_Quota_ok HQ.out hb)
  have HN := Lib.hid (rd_mv R_Node_ok HN.out hb)
  have HT := Lib.hid (rd_mv R_Task_ok HT.out hb)
  have HU := Lib.hid (rd_mv R_Use_ok HU.out hb)
  have X0 := Lib.hid (X0.out.call hb)
  have HB0 := Lib.hid (HB0.out.trans (hb.mono HB0.out.size))
  clear h hb hcx qX0_0 qX0_1 qX0_2 qX0_3 qX0_4 qX0_5 qX0_6 qX0_7
  have qX0_0 := X0.out.at_ 0 rfl
  have qX0_1 := X0.out.at_ 1 rfl
  have qX0_2 := X0.out.at_ 2 rfl
  have qX0_3 := X0.out.at_ 3 rfl
  have qX0_4 := X0.out.at_ 4 rfl
  have qX0_5 := X0.out.at_ 5 rfl
  have qX0_6 := X0.out.at_ 6 rfl
  have qX0_7 := X0.out.at_ 7 rfl
  cases b4 with
  | false =>
    have HV := Lib.hid (show ¬ (YardR ((C, P, Q, hf), N, T, U, now)) from fun h => by have h2 := tasksB_iff.2 h.2.2.2.2.1; rw [Hb4.out] at h2; cases h2)
    go_wp2
    go_ret
    exact resB_no HV.out HB0.out
  | true =>
  go_wp2_with fail
  have hcx := uses_impl HU.out
  rw [Hb5.out] at hcx
  refine hcx.mono ?_
  intro e v5 h
  obtain ⟨rfl, hb⟩ := isB_elim h
  have HC := Lib.hid (rd_mv (Sl_ok R_Label_ok) HC.out hb)
  have HP := Lib.hid (rd_mv R_Pair_ok HP.out hb)
  have HQ := Lib.hid (rd_mv R_Quota_ok HQ.out hb)
  have HN := Lib.hid (rd_mv R_Node_ok HN.out hb)
  have HT := Lib.hid (rd_mv R_Task_ok HT.out hb)
  have HU := Lib.hid (rd_mv R_Use_ok HU.out hb)
  have X0 := Lib.hid (X0.out.call hb)
  have HB0 := Lib.hid (HB0.out.trans (hb.mono HB0.out.size))
  clear h hb hcx qX0_0 qX0_1 qX0_2 qX0_3 qX0_4 qX0_5 qX0_6 qX0_7
  have qX0_0 := X0.out.at_ 0 rfl
  have qX0_1 := X0.out.at_ 1 rfl
  have qX0_2 := X0.out.at_ 2 rfl
  have qX0_3 := X0.out.at_ 3 rfl
  have qX0_4 := X0.out.at_ 4 rfl
  have qX0_5 := X0.out.at_ 5 rfl
  have qX0_6 := X0.out.at_ 6 rfl
  have qX0_7 := X0.out.at_ 7 rfl
  cases b5 with
  | false =>
    have HV := Lib.hid (show ¬ (YardR ((C, P, Q, hf), N, T, U, now)) from fun h => by have h2 := usesB_iff.2 h.2.2.2.2.2.1; rw [Hb5.out] at h2; cases h2)
    go_wp2
    go_ret
    exact resB_no HV.out HB0.out
  | true =>
  go_wp2_with fail
  refine (nowI_at _ Hb0.out _).mono ?_
  rintro e v6 ⟨rfl, rfl⟩
  cases b0 with
  | false =>
    have HV := Lib.hid (show ¬ (YardR ((C, P, Q, hf), N, T, U, now)) from fun h => by have h2 := h.1; rw [Hb0.out] at h2; cases h2)
    go_wp2
    go_ret
    exact resB_no HV.out HB0.out
  | true =>
  have HPRE := Lib.hid (⟨Hb0.out, cfgB_iff.1 Hb1.out, nodesB_iff.1 Hb2.out, HNL.out, tasksB_iff.1 Hb4.out, usesB_iff.1 Hb5.out⟩ : Pre13 C P Q hf N T U now)
  have hnow := (isB_iff _ _ _).1 Hb0.out
  go_wp2_with fail
  refine (tasksfit_impl (nodes_le HPRE.out.cfg).2 HPRE.out.tas hnow HC.out HT.out).mono ?_
  intro e v7 h
  obtain ⟨b, rfl, hb7, hb⟩ := resB_elim h
  have HFB := Lib.hid hb7
  have HC := Lib.hid (rd_mv (Sl_ok R_Label_ok) HC.out hb)
  have HP := Lib.hid (rd_mv R_Pair_ok HP.out hb)
  have HQ := Lib.hid (rd_mv R_Quota_ok HQ.out hb)
  have HN := Lib.hid (rd_mv R_Node_ok HN.out hb)
  have HT := Lib.hid (rd_mv R_Task_ok HT.out hb)
  have HU := Lib.hid (rd_mv R_Use_ok HU.out hb)
  have X0 := Lib.hid (X0.out.call hb)
  have HB0 := Lib.hid (HB0.out.trans (hb.mono HB0.out.size))
  clear h hb hb7 qX0_0 qX0_1 qX0_2 qX0_3 qX0_4 qX0_5 qX0_6 qX0_7
  have qX0_0 := X0.out.at_ 0 rfl
  have qX0_1 := X0.out.at_ 1 rfl
  have qX0_2 := X0.out.at_ 2 rfl
  have qX0_3 := X0.out.at_ 3 rfl
  have qX0_4 := X0.out.at_ 4 rfl
  have qX0_5 := X0.out.at_ 5 rfl
  have qX0_6 := X0.out.at_ 6 rfl
  have qX0_7 := X0.out.at_ 7 rfl
  cases b with
  | false =>
    have HV := Lib.hid (show ¬ (YardR ((C, P, Q, hf), N, T, U, now)) from fun h => by have := HFB.out.2 h.2.2.2.2.2.2.1; cases this)
    go_wp2
    go_ret
    exact resB_no HV.out HB0.out
  | true =>
  have HF1 := Lib.hid (HFB.out.1 rfl)
  go_wp2_with fail
  refine (labelsfit_impl HPRE.out.cfg.1 HPRE.out.tas.1 HC.out HQ.out HT.out HU.out).mono ?_
  intro e v8 h
  obtain ⟨b, rfl, hb8, hb⟩ := resB_elim h
  have HB8 := Lib.hid (HB0.out.trans (hb.mono HB0.out.size))
  have HV := Lib.hid (show b = true ↔ YardR ((C, P, Q, hf), N, T, U, now) from hb8.trans ⟨fun h => ⟨HPRE.out.now, HPRE.out.cfg, HPRE.out.nds, HPRE.out.len, HPRE.out.tas, HPRE.out.use, HF1.out, h.2, h.1⟩, fun h => ⟨h.2.2.2.2.2.2.2.2, h.2.2.2.2.2.2.2.1⟩⟩)
  clear h hb hb8
  go_wp2
  go_ret
  exact ⟨b, rfl, HV.out, HB8.out⟩
end Go.Proofs.YtelhmacfljffhaaGreat.RepC
end
section
namespace Go.Proofs.YtelhmacfljffhaaGreat.RepC
open Go.RowKit RowC ValC
set_option linter.unusedVariables false
set_option linter.unusedSimpArgs false
theorem gsz_Yard {d : D_Yard} {cs : List Value} {W : World} {l : Int} (h0 : 0 ≤ l) (h1 : l ≤ 1048576) (h : R_Yard.rd W W.heap.size d cs) : Calls Tryz.prog 5 #[.agg cs.toArray, .int .i64 l] W (SzC l (R_Yard.sz d) W) := by
  obtain ⟨⟨L0, L1, L2, x3⟩, L3, L4, L5, x7⟩ := d
  obtain ⟨a0, c0, a1, c1, a2, c2, a3, c3, a4, c4, a5, c5, rfl, k_L0, k_L1, k_L2, k_L3, k_L4, k_L5⟩ := rd_Yard h
  exact sz_Yard h0 h1 k_L0 k_L1 k_L2 k_L3 k_L4 k_L5
theorem gto_Yard {d : D_Yard} {cs : List Value} {W : World} (hsz : R_Yard.sz d ≤ 1048576) (h : R_Yard.rd W W.heap.size d cs) : Calls Tryz.prog 7 #[.agg cs.toArray] W (NewV R_Yard d W) := by
  obtain ⟨⟨L0, L1, L2, x3⟩, L3, L4, L5, x7⟩ := d
  obtain ⟨a0, c0, a1, c1, a2, c2, a3, c3, a4, c4, a5, c5, rfl, k_L0, k_L1, k_L2, k_L3, k_L4, k_L5⟩ := rd_Yard h
  exact to_Yard hsz k_L0 k_L1 k_L2 k_L3 k_L4 k_L5
theorem geq_Yard {d : D_Yard} {cs cs' : List Value} {W : World} (h : R_Yard.rd W W.heap.size d cs) (h' : R_Yard.rd W W.heap.size d cs') : Calls Tryz.prog 9 #[.agg cs.toArray, .agg cs'.toArray] W (IsB true W) := by
  obtain ⟨⟨L0, L1, L2, x3⟩, L3, L4, L5, x7⟩ := d
  obtain ⟨a0, c0, a1, c1, a2, c2, a3, c3, a4, c4, a5, c5, rfl, k_L0, k_L1, k_L2, k_L3, k_L4, k_L5⟩ := rd_Yard h
  obtain ⟨a0', c0', a1', c1', a2', c2', a3', c3', a4', c4', a5', c5', rfl, k'_L0, k'_L1, k'_L2, k'_L3, k'_L4, k'_L5⟩ := rd_Yard h'
  exact eq_Yard k_L0 k_L1 k_L2 k_L3 k_L4 k_L5 k'_L0 k'_L1 k'_L2 k'_L3 k'_L4 k'_L5
theorem owc_Yard {W : World} {S : Nat → Prop} {L0 : List (List (D_Label))} {L1 : List (D_Pair)} {L2 : List (D_Quota)} {x3 : Int} {L3 : List (D_Node)} {L4 : List (D_Task)} {L5 : List (D_Use)} {x7 : Int} {cs : List Value} (h : R_Yard.ow W S ((L0, L1, L2, x3), L3, L4, L5, x7) cs) : ∃ a0 c0 a1 c1 a2 c2 a3 c3 a4 c4 a5 c5, cs = [.slice a0 L0.length c0, .slice a1 L1.length c1, .slice a2 L2.length c2, .int .i64 x3, .slice a3 L3.length c3, .slice a4 L4.length c4, .slice a5 L5.length c5, .int .i64 x7] ∧ R_Yard.ow W S ((L0, L1, L2, x3), L3, L4, L5, x7) [.slice a0 L0.length c0, .slice a1 L1.length c1, .slice a2 L2.length c2, .int .i64 x3, .slice a3 L3.length c3, .slice a4 L4.length c4, .slice a5 L5.length c5, .int .i64 x7] := by
  have h0 := h
  obtain ⟨a0, c0, a1, c1, a2, c2, a3, c3, a4, c4, a5, c5, T0, T1, T2, T3, T4, T5, rfl, _⟩ := ow_Yard h
  exact ⟨a0, c0, a1, c1, a2, c2, a3, c3, a4, c4, a5, c5, rfl, h0⟩
theorem rdc_Yard {W : World} {B : Nat} {L0 : List (List (D_Label))} {L1 : List (D_Pair)} {L2 : List (D_Quota)} {x3 : Int} {L3 : List (D_Node)} {L4 : List (D_Task)} {L5 : List (D_Use)} {x7 : Int} {cs : List Value} (h : R_Yard.rd W B ((L0, L1, L2, x3), L3, L4, L5, x7) cs) : ∃ a0 c0 a1 c1 a2 c2 a3 c3 a4 c4 a5 c5, cs = [.slice a0 L0.length c0, .slice a1 L1.length c1, .slice a2 L2.length c2, .int .i64 x3, .slice a3 L3.length c3, .slice a4 L4.length c4, .slice a5 L5.length c5, .int .i64 x7] ∧ R_Yard.rd W B ((L0, L1, L2, x3), L3, L4, L5, x7) [.slice a0 L0.length c0, .slice a1 L1.length c1, .slice a2 L2.length c2, .int .i64 x3, .slice a3 L3.length c3, .slice a4 L4.length c4, .slice a5 L5.length c5, .int .i64 x7] := by
  have h0 := h
  obtain ⟨a0, c0, a1, c1, a2, c2, a3, c3, a4, c4, a5, c5, rfl, _⟩ := rd_Yard h
  exact ⟨a0, c0, a1, c1, a2, c2, a3, c3, a4, c4, a5, c5, rfl, h0⟩
end Go.Proofs.YtelhmacfljffhaaGreat.RepC
end
section
namespace Go.Proofs.YtelhmacfljffhaaGreat.RepC
open Go.ChangeShapes Go.WideShapes Go.ChangeAt Go.RowKit Go.Joins Go.Deep RowC ValC
set_option linter.unusedVariables false
set_option linter.unusedSimpArgs false
set_option maxRecDepth 100000
theorem c_SpanS : Tryz.prog.cellsOf 104 = 1 := by kernel_rfl
theorem c_Span : Tryz.prog.cellsOf 197 = 2 := by kernel_rfl
theorem opn_Span : Opn R_Span 197 := fun enc W fuel cs y h => by
  obtain ⟨xs, n, _, _, hl, hlen, hf⟩ := DataW.trod_struct Tryz.underlying197 h
  rw [c_Span] at hl
  match cs, hl with
  | [c0, c1], _ =>
    have e2 : xs.length = 2 := hlen
    match xs, e2 with
    | [y0, y1], _ =>
      have g0 := fld hf 0 2 0 1 rfl c_int64
      have g1 := fld hf 1 2 1 1 rfl c_int64
      obtain ⟨d0, h0⟩ := opn_i64 enc W n [c0] y0 g0
      obtain ⟨d1, h1⟩ := opn_i64 enc W n [c1] y1 g1
      exact ⟨(d0, d1), ⟨[c0], [c1], rfl, h0, h1⟩⟩
theorem opn_SpanS : Opn (Sl R_Span) 104 := opn_sl opn_Span (by decide) Tryz.underlying104 c_Span
theorem c_Node : Tryz.prog.cellsOf 106 = 2 := by kernel_rfl
theorem opn_Node : Opn R_Node 106 := fun enc W fuel cs y h => by
  obtain ⟨xs, n, _, _, hl, hlen, hf⟩ := DataW.trod_struct Tryz.underlying106 h
  rw [c_Node] at hl
  match cs, hl with
  | [c0, c1], _ =>
    have e2 : xs.length = 2 := hlen
    match xs, e2 with
    | [y0, y1], _ =>
      have g0 := fld hf 0 2 0 1 rfl c_int64
      have g1 := fld hf 1 104 1 1 rfl c_SpanS
      obtain ⟨d0, h0⟩ := opn_i64 enc W n [c0] y0 g0
      obtain ⟨d1, h1⟩ := opn_SpanS enc W n [c1] y1 g1
      exact ⟨(d0, d1), ⟨[c0], [c1], rfl, h0, h1⟩⟩
theorem opn_NodeS : Opn (Sl R_Node) 27 := opn_sl opn_Node (by decide) Tryz.underlying27 c_Node
end Go.Proofs.YtelhmacfljffhaaGreat.RepC
end
section
namespace Go.Proofs.YtelhmacfljffhaaGreat.RepC
open Go.ChangeShapes Go.WideShapes Go.ChangeAt Go.RowKit Go.Joins Go.Deep RowC ValC
set_option maxRecDepth 100000
set_option linter.unusedVariables false
set_option linter.unusedSimpArgs false
theorem c_NodeS : Tryz.prog.cellsOf 27 = 1 := by kernel_rfl
theorem c_Yard : Tryz.prog.cellsOf 31 = 8 := by kernel_rfl
theorem opn_Yard : Opn R_Yard 31 := fun enc W fuel cs y h => by
  obtain ⟨xs, n, _, _, hl, hlen, hf⟩ := DataW.trod_struct Tryz.underlying31 h
  rw [c_Yard] at hl
  match cs, hl with
  | [c0, c1, c2, c3, c4, c5, c6, c7], _ =>
    have e2 : xs.length = 5 := hlen
    match xs, e2 with
    | [y0, y1, y2, y3, y4], _ =>
      have g0 := fld hf 0 26 0 4 rfl c_Config
      have g1 := fld hf 1 27 4 1 rfl c_NodeS
      have g2 := fld hf 2 28 5 1 rfl c_TaskS
      have g3 := fld hf 3 29 6 1 rfl c_UseS
      have g4 := fld hf 4 2 7 1 rfl c_int64
      obtain ⟨d0, h0⟩ := opn_Config enc W n [c0, c1, c2, c3] y0 g0
      obtain ⟨d1, h1⟩ := opn_NodeS enc W n [c4] y1 g1
      obtain ⟨d2, h2⟩ := opn_TaskS enc W n [c5] y2 g2
      obtain ⟨d3, h3⟩ := opn_UseS enc W n [c6] y3 g3
      obtain ⟨d4, h4⟩ := opn_i64 enc W n [c7] y4 g4
      exact ⟨(d0, d1, d2, d3, d4), ⟨[c0, c1, c2, c3], [c4, c5, c6, c7], rfl, h0, ⟨[c4], [c5, c6, c7], rfl, h1, ⟨[c5], [c6, c7], rfl, h2, ⟨[c6], [c7], rfl, h3, h4⟩⟩⟩⟩⟩
theorem open_Yard {H : Type} {enc : TypeId × Value → H} {W : World} {base : Nat} {v : Value} {d : DataW H} {p : List MemPlace} (o : Value.okWide Tryz.prog W .any base 31 v) (h : DataW.Trod enc Tryz.prog W 0 (fun _ => true) true 31 v d p) :
    ∃ (L0 : List (List (D_Label))) (L1 : List (D_Pair)) (L2 : List (D_Quota)) (x3 : Int) (L3 : List (D_Node)) (L4 : List (D_Task)) (L5 : List (D_Use)) (x7 : Int) (a0 : Option Addr) (c0 : Nat) (a1 : Option Addr) (c1 : Nat) (a2 : Option Addr) (c2 : Nat) (a3 : Option Addr) (c3 : Nat) (a4 : Option Addr) (c4 : Nat) (a5 : Option Addr) (c5 : Nat), v = .agg #[.slice a0 L0.length c0, .slice a1 L1.length c1, .slice a2 L2.length c2, .int .i64 x3, .slice a3 L3.length c3, .slice a4 L4.length c4, .slice a5 L5.length c5, .int .i64 x7] ∧ R_Yard.rd W W.heap.size ((L0, L1, L2, x3), L3, L4, L5, x7) [.slice a0 L0.length c0, .slice a1 L1.length c1, .slice a2 L2.length c2, .int .i64 x3, .slice a3 L3.length c3, .slice a4 L4.length c4, .slice a5 L5.length c5, .int .i64 x7] := by
  obtain ⟨⟨⟨L0, L1, L2, x3⟩, L3, L4, L5, x7⟩, cs, rfl, hr⟩ := open_st opn_Yard Tryz.underlying31 o h
  obtain ⟨a0, c0, a1, c1, a2, c2, a3, c3, a4, c4, a5, c5, rfl, h0⟩ := rdc_Yard hr
  exact ⟨L0, L1, L2, x3, L3, L4, L5, x7, a0, c0, a1, c1, a2, c2, a3, c3, a4, c4, a5, c5, rfl, h0⟩
end Go.Proofs.YtelhmacfljffhaaGreat.RepC
end
section
namespace Go.Proofs.YtelhmacfljffhaaGreat.RepC
open Go.RowKit RowC ValC SpanC KeptC NameC CfC
set_option linter.unusedVariables false
set_option linter.unusedSimpArgs false
theorem gyard_spec {y : D_Yard} {cs : List Value} {W : World} (h : R_Yard.rd W W.heap.size y cs) : Calls Tryz.prog 6 #[.agg cs.toArray] W (IsB (yardB y) W) := by
  obtain ⟨⟨C, P, Q, hf⟩, N, T, U, now⟩ := y
  obtain ⟨a0, c0, a1, c1, a2, c2, a3, c3, a4, c4, a5, c5, rfl, k0, k1, k2, k3, k4, k5⟩ := rd_Yard h
  exact (yard_spec k0 k1 k2 k3 k4 k5).mono fun e w' h => resB_is yardB_iff h
theorem gyard_impl {y : D_Yard} {cs : List Value} {W : World} (h : R_Yard.rd W W.heap.size y cs) : Calls Tryz.prog 8 #[.agg cs.toArray] W (IsB (yardB y) W) := by
  obtain ⟨⟨C, P, Q, hf⟩, N, T, U, now⟩ := y
  obtain ⟨a0, c0, a1, c1, a2, c2, a3, c3, a4, c4, a5, c5, rfl, k0, k1, k2, k3, k4, k5⟩ := rd_Yard h
  exact (yard_impl k0 k1 k2 k3 k4 k5).mono fun e w' h => resB_is yardB_iff h
end Go.Proofs.YtelhmacfljffhaaGreat.RepC
end
section
namespace Go.Proofs.YtelhmacfljffhaaGreat.RepC
open Go.RowKit RowC ValC SpanC KeptC
set_option linter.unusedVariables false
set_option linter.unusedSimpArgs false
set_option maxRecDepth 100000 in
set_option maxHeartbeats 4000000 in
theorem law_yardright {YL0 : List (List (D_Label))} {YL1 : List (D_Pair)} {YL2 : List (D_Quota)} {Yx3 : Int} {YL3 : List (D_Node)} {YL4 : List (D_Task)} {YL5 : List (D_Use)} {Yx7 : Int} {Ya0 : Option Addr} {Yc0 : Nat} {Ya1 : Option Addr} {Yc1 : Nat} {Ya2 : Option Addr} {Yc2 : Nat} {Ya3 : Option Addr} {Yc3 : Nat} {Ya4 : Option Addr} {Yc4 : Nat} {Ya5 : Option Addr} {Yc5 : Nat} {W : World} (hY : R_Yard.rd W W.heap.size ((YL0, YL1, YL2, Yx3), YL3, YL4, YL5, Yx7) [.slice Ya0 YL0.length Yc0, .slice Ya1 YL1.length Yc1, .slice Ya2 YL2.length Yc2, .int .i64 Yx3, .slice Ya3 YL3.length Yc3, .slice Ya4 YL4.length Yc4, .slice Ya5 YL5.length Yc5, .int .i64 Yx7]) :
    Calls Tryz.prog 3 #[.agg #[.slice Ya0 YL0.length Yc0, .slice Ya1 YL1.length Yc1, .slice Ya2 YL2.length Yc2, .int .i64 Yx3, .slice Ya3 YL3.length Yc3, .slice Ya4 YL4.length Yc4, .slice Ya5 YL5.length Yc5, .int .i64 Yx7]] W fun e w' => e = .returned (.bool true) ∧ Below W.heap.size W w' := by
  have HY := Lib.hid hY
  have HY0 := Lib.hid hY
  clear hY
  have hbA : Below (W).heap.size (W) (W.alloc (.cells #[.slice Ya0 YL0.length Yc0, .slice Ya1 YL1.length Yc1, .slice Ya2 YL2.length Yc2, .int .i64 Yx3, .slice Ya3 YL3.length Yc3, .slice Ya4 YL4.length Yc4, .slice Ya5 YL5.length Yc5, .int .i64 Yx7] 31)) := (Below.refl _ _).alloc (Nat.le_refl _) _
  have HY_1 := Lib.hid (gmv R_Yard_ok HY.out hbA)
  have HB1 := Lib.hid (show Below W.heap.size W (W.alloc (.cells #[.slice Ya0 YL0.length Yc0, .slice Ya1 YL1.length Yc1, .slice Ya2 YL2.length Yc2, .int .i64 Yx3, .slice Ya3 YL3.length Yc3, .slice Ya4 YL4.length Yc4, .slice Ya5 YL5.length Yc5, .int .i64 Yx7] 31)) from hbA)
  have HZ1 := Lib.hid ((hbA).size)
  clear HY
  have PY_1 := Blk.new (W) 31 #[.slice Ya0 YL0.length Yc0, .slice Ya1 YL1.length Yc1, .slice Ya2 YL2.length Yc2, .int .i64 Yx3, .slice Ya3 YL3.length Yc3, .slice Ya4 YL4.length Yc4, .slice Ya5 YL5.length Yc5, .int .i64 Yx7]
  have PYh_1 := Lib.hid PY_1
  clear PY_1 hbA
  by_cases hsz : R_Yard.sz ((YL0, YL1, YL2, Yx3), YL3, YL4, YL5, Yx7) ≤ 1048576
  rotate_left
  · skip
    go_enter Tryz.func3, Tryz.ntmps3
    have qPY_0 := PYh_1.out.at_ 0 rfl
    have qPY_1 := PYh_1.out.at_ 1 rfl
    have qPY_2 := PYh_1.out.at_ 2 rfl
    have qPY_3 := PYh_1.out.at_ 3 rfl
    have qPY_4 := PYh_1.out.at_ 4 rfl
    have qPY_5 := PYh_1.out.at_ 5 rfl
    have qPY_6 := PYh_1.out.at_ 6 rfl
    have qPY_7 := PYh_1.out.at_ 7 rfl
    go_wp2_with fail
    refine (gsz_Yard (by omega) (by omega) HY_1.out).mono ?_
    intro e w2 h
    obtain ⟨rfl, hb⟩ := szC_elim h
    rw [szR_no (by omega)]
    clear qPY_0 qPY_1 qPY_2 qPY_3 qPY_4 qPY_5 qPY_6 qPY_7
    have PY_2 := Lib.hid (PYh_1.out.call hb)
    have HY_2 := Lib.hid (gmv R_Yard_ok HY_1.out hb)
    have HB2 := Lib.hid (HB1.out.trans ((hb).mono HB1.out.size))
    have HZ2 := Lib.hid ((hb).size)
    clear PYh_1 HY_1 HB1
    clear h hb
    go_wp2
    go_ret
    exact ⟨rfl, HB2.out⟩
  have HSZY := Lib.hid hsz
  have HSAY := Lib.hid (hsz)
  obtain ⟨m, hm⟩ : ∃ m : Nat, R_Yard.sz ((YL0, YL1, YL2, Yx3), YL3, YL4, YL5, Yx7) = m := ⟨_, rfl⟩
  have HM := Lib.hid hm
  rw [hm] at hsz
  clear hm
  have hlt1 : decide ((1048576 : Int) - (m : Int) < 0) = false := decide_eq_false (by omega)
  obtain ⟨dR, hD⟩ : ∃ d, yardB ((YL0, YL1, YL2, Yx3), YL3, YL4, YL5, Yx7) = d := ⟨_, rfl⟩
  have HDD := Lib.hid hD
  clear hD
  go_enter Tryz.func3, Tryz.ntmps3
  have qPY_0 := PYh_1.out.at_ 0 rfl
  have qPY_1 := PYh_1.out.at_ 1 rfl
  have qPY_2 := PYh_1.out.at_ 2 rfl
  have qPY_3 := PYh_1.out.at_ 3 rfl
  have qPY_4 := PYh_1.out.at_ 4 rfl
  have qPY_5 := PYh_1.out.at_ 5 rfl
  have qPY_6 := PYh_1.out.at_ 6 rfl
  have qPY_7 := PYh_1.out.at_ 7 rfl
  go_wp2_with fail
  refine (gsz_Yard (by omega) (by omega) HY_1.out).mono ?_
  intro e w2 h
  obtain ⟨rfl, hb⟩ := szC_elim h
  rw [HM.out, szR_yes (by omega)]
  clear qPY_0 qPY_1 qPY_2 qPY_3 qPY_4 qPY_5 qPY_6 qPY_7
  have PY_2 := Lib.hid (PYh_1.out.call hb)
  have HY_2 := Lib.hid (gmv R_Yard_ok HY_1.out hb)
  have HB2 := Lib.hid (HB1.out.trans ((hb).mono HB1.out.size))
  have HZ2 := Lib.hid ((hb).size)
  clear PYh_1 HY_1 HB1
  clear hsz
  clear h hb
  have HPL := Lib.hid (PY_2.out.lt)
  have hbb : (dR != dR) = false := by cases dR <;> rfl
  have qPY_0 := PY_2.out.at_ 0 rfl
  have qPY_1 := PY_2.out.at_ 1 rfl
  have qPY_2 := PY_2.out.at_ 2 rfl
  have qPY_3 := PY_2.out.at_ 3 rfl
  have qPY_4 := PY_2.out.at_ 4 rfl
  have qPY_5 := PY_2.out.at_ 5 rfl
  have qPY_6 := PY_2.out.at_ 6 rfl
  have qPY_7 := PY_2.out.at_ 7 rfl
  go_wp2_with fail
  refine (gto_Yard HSZY.out HY_2.out).mono ?_
  intro e w3 h
  obtain ⟨us, rfl, hu, hb⟩ := newV_elim h
  obtain ⟨aY03, cY03, aY13, cY13, aY23, cY23, aY33, cY33, aY43, cY43, aY53, cY53, rfl, hu⟩ := owc_Yard hu
  clear qPY_0 qPY_1 qPY_2 qPY_3 qPY_4 qPY_5 qPY_6 qPY_7
  have PY_3 := Lib.hid (PY_2.out.call hb)
  have HY_3 := Lib.hid (gmv R_Yard_ok HY_2.out hb)
  have HB3 := Lib.hid (HB2.out.trans ((hb).mono HB2.out.size))
  have HZ3 := Lib.hid ((hb).size)
  clear PY_2 HY_2 HB2
  have NY_3 := Lib.hid (owG_new hu)
  clear hu
  clear h hb
  go_wp2_with fail
  refine (gyard_spec (NY_3.out.rd R_Yard_ok)).mono ?_
  intro e w4 h
  rw [HDD.out] at h
  obtain ⟨rfl, hb⟩ := isB_elim h
  have PY_4 := Lib.hid (PY_3.out.call hb)
  have HY_4 := Lib.hid (gmv R_Yard_ok HY_3.out hb)
  have NY_4 := Lib.hid (NY_3.out.mv R_Yard_ok hb)
  have HB4 := Lib.hid (HB3.out.trans ((hb).mono HB3.out.size))
  have HZ4 := Lib.hid ((hb).size)
  clear PY_3 HY_3 NY_3 HB3
  clear h hb
  clear NY_4
  have qPY_0 := PY_4.out.at_ 0 rfl
  have qPY_1 := PY_4.out.at_ 1 rfl
  have qPY_2 := PY_4.out.at_ 2 rfl
  have qPY_3 := PY_4.out.at_ 3 rfl
  have qPY_4 := PY_4.out.at_ 4 rfl
  have qPY_5 := PY_4.out.at_ 5 rfl
  have qPY_6 := PY_4.out.at_ 6 rfl
  have qPY_7 := PY_4.out.at_ 7 rfl
  go_wp2_with fail
  refine (gto_Yard HSZY.out HY_4.out).mono ?_
  intro e w5 h
  obtain ⟨us, rfl, hu, hb⟩ := newV_elim h
  obtain ⟨aY05, cY05, aY15, cY15, aY25, cY25, aY35, cY35, aY45, cY45, aY55, cY55, rfl, hu⟩ := owc_Yard hu
  clear qPY_0 qPY_1 qPY_2 qPY_3 qPY_4 qPY_5 qPY_6 qPY_7
  have PY_5 := Lib.hid (PY_4.out.call hb)
  have HY_5 := Lib.hid (gmv R_Yard_ok HY_4.out hb)
  have HB5 := Lib.hid (HB4.out.trans ((hb).mono HB4.out.size))
  have HZ5 := Lib.hid ((hb).size)
  clear PY_4 HY_4 HB4
  have X_5 := Lib.hid (owG_new hu)
  have HSX := Lib.hid (fun k (hk : Rg w4.heap.size w5.heap.size k) => hk)
  clear hu
  clear h hb
  have hbA : Below (w5).heap.size (w5) (w5.alloc (.cells #[.slice aY05 YL0.length cY05, .slice aY15 YL1.length cY15, .slice aY25 YL2.length cY25, .int .i64 Yx3, .slice aY35 YL3.length cY35, .slice aY45 YL4.length cY45, .slice aY55 YL5.length cY55, .int .i64 Yx7] 43)) := (Below.refl _ _).alloc (Nat.le_refl _) _
  have PY_6 := Lib.hid (PY_5.out.call hbA)
  have HY_6 := Lib.hid (gmv R_Yard_ok HY_5.out hbA)
  have X_6 := Lib.hid (X_5.out.mv R_Yard_ok hbA)
  have HB6 := Lib.hid (HB5.out.trans ((hbA).mono HB5.out.size))
  have HZ6 := Lib.hid ((hbA).size)
  clear PY_5 HY_5 X_5 HB5
  have BX_6 := Blk.new (w5) 43 #[.slice aY05 YL0.length cY05, .slice aY15 YL1.length cY15, .slice aY25 YL2.length cY25, .int .i64 Yx3, .slice aY35 YL3.length cY35, .slice aY45 YL4.length cY45, .slice aY55 YL5.length cY55, .int .i64 Yx7]
  have BXh_6 := Lib.hid BX_6
  clear BX_6 hbA
  have HZ7 := Lib.hid ((show (w5.alloc (.cells #[.slice aY05 YL0.length cY05, .slice aY15 YL1.length cY15, .slice aY25 YL2.length cY25, .int .i64 Yx3, .slice aY35 YL3.length cY35, .slice aY45 YL4.length cY45, .slice aY55 YL5.length cY55, .int .i64 Yx7] 43)).heap.size = w5.heap.size + 1 by simp))
  obtain ⟨wz6, hwz6⟩ : ∃ w, w = w5.alloc (.cells #[.slice aY05 YL0.length cY05, .slice aY15 YL1.length cY15, .slice aY25 YL2.length cY25, .int .i64 Yx3, .slice aY35 YL3.length cY35, .slice aY45 YL4.length cY45, .slice aY55 YL5.length cY55, .int .i64 Yx7] 43) := ⟨_, rfl⟩
  rw [← hwz6] at PY_6 BXh_6 HY_6 X_6 HB6 HZ6 HZ7
  have qBX_0 := BXh_6.out.at_ 0 rfl
  have qBX_1 := BXh_6.out.at_ 1 rfl
  have qBX_2 := BXh_6.out.at_ 2 rfl
  have qBX_3 := BXh_6.out.at_ 3 rfl
  have qBX_4 := BXh_6.out.at_ 4 rfl
  have qBX_5 := BXh_6.out.at_ 5 rfl
  have qBX_6 := BXh_6.out.at_ 6 rfl
  have qBX_7 := BXh_6.out.at_ 7 rfl
  have qBX_0_u := qBX_0
  rw [hwz6] at qBX_0_u
  have qBX_1_u := qBX_1
  rw [hwz6] at qBX_1_u
  have qBX_2_u := qBX_2
  rw [hwz6] at qBX_2_u
  have qBX_3_u := qBX_3
  rw [hwz6] at qBX_3_u
  have qBX_4_u := qBX_4
  rw [hwz6] at qBX_4_u
  have qBX_5_u := qBX_5
  rw [hwz6] at qBX_5_u
  have qBX_6_u := qBX_6
  rw [hwz6] at qBX_6_u
  have qBX_7_u := qBX_7
  rw [hwz6] at qBX_7_u
  go_wp2_with fail
  rw [← hwz6]
  clear hwz6
  refine (gyard_impl (X_6.out.rd R_Yard_ok)).mono ?_
  intro e w7 h
  rw [HDD.out] at h
  obtain ⟨rfl, hb⟩ := isB_elim h
  clear qBX_0 qBX_1 qBX_2 qBX_3 qBX_4 qBX_5 qBX_6 qBX_7 qBX_0_u qBX_1_u qBX_2_u qBX_3_u qBX_4_u qBX_5_u qBX_6_u qBX_7_u
  have PY_7 := Lib.hid (PY_6.out.call hb)
  have BX_7 := Lib.hid (BXh_6.out.call hb)
  have HY_7 := Lib.hid (gmv R_Yard_ok HY_6.out hb)
  have X_7 := Lib.hid (X_6.out.mv R_Yard_ok hb)
  have HB7 := Lib.hid (HB6.out.trans ((hb).mono HB6.out.size))
  have HZ8 := Lib.hid ((hb).size)
  clear PY_6 BXh_6 HY_6 X_6 HB6
  clear h hb
  go_wp2_with fail
  refine wp_region_held_drew (S := (fun V => Below (w7).heap.size (w7) V)) (by kernel_rfl) ((Below.refl _ _).drew) (fun hHeld => ?_)
  refine tk 0 hHeld ?_ (hy := fun w hSw => by (try dsimp only at hSw); have k0 := (hSw.cell (p := ⟨w5.heap.size, 0, none⟩) BX_7.out.lt).trans (BX_7.out.at_ 0 rfl); have k1 := (hSw.cell (p := ⟨w5.heap.size, 1, none⟩) BX_7.out.lt).trans (BX_7.out.at_ 1 rfl); have k2 := (hSw.cell (p := ⟨w5.heap.size, 2, none⟩) BX_7.out.lt).trans (BX_7.out.at_ 2 rfl); have k3 := (hSw.cell (p := ⟨w5.heap.size, 3, none⟩) BX_7.out.lt).trans (BX_7.out.at_ 3 rfl); have k4 := (hSw.cell (p := ⟨w5.heap.size, 4, none⟩) BX_7.out.lt).trans (BX_7.out.at_ 4 rfl); have k5 := (hSw.cell (p := ⟨w5.heap.size, 5, none⟩) BX_7.out.lt).trans (BX_7.out.at_ 5 rfl); have k6 := (hSw.cell (p := ⟨w5.heap.size, 6, none⟩) BX_7.out.lt).trans (BX_7.out.at_ 6 rfl); have k7 := (hSw.cell (p := ⟨w5.heap.size, 7, none⟩) BX_7.out.lt).trans (BX_7.out.at_ 7 rfl); clear hSw; go_simp; try with_reducible rfl)
  refine tk 1 hHeld ?_ (hy := fun w hSw => by (try dsimp only at hSw); have k0 := (hSw.cell (p := ⟨W.heap.size, 0, none⟩) PY_7.out.lt).trans (PY_7.out.at_ 0 rfl); have k1 := (hSw.cell (p := ⟨W.heap.size, 1, none⟩) PY_7.out.lt).trans (PY_7.out.at_ 1 rfl); have k2 := (hSw.cell (p := ⟨W.heap.size, 2, none⟩) PY_7.out.lt).trans (PY_7.out.at_ 2 rfl); have k3 := (hSw.cell (p := ⟨W.heap.size, 3, none⟩) PY_7.out.lt).trans (PY_7.out.at_ 3 rfl); have k4 := (hSw.cell (p := ⟨W.heap.size, 4, none⟩) PY_7.out.lt).trans (PY_7.out.at_ 4 rfl); have k5 := (hSw.cell (p := ⟨W.heap.size, 5, none⟩) PY_7.out.lt).trans (PY_7.out.at_ 5 rfl); have k6 := (hSw.cell (p := ⟨W.heap.size, 6, none⟩) PY_7.out.lt).trans (PY_7.out.at_ 6 rfl); have k7 := (hSw.cell (p := ⟨W.heap.size, 7, none⟩) PY_7.out.lt).trans (PY_7.out.at_ 7 rfl); clear hSw; go_simp; try with_reducible rfl)
  refine rd1 2 (fun K hK => ?_)
  go_simp
  go_at_call 7
  refine (gto_Yard HSZY.out (gmv R_Yard_ok HY_7.out hHeld)).mono ?_
  intro e w701 h
  obtain ⟨us, rfl, hu, hb⟩ := newV_elim h
  obtain ⟨aY0701, cY0701, aY1701, cY1701, aY2701, cY2701, aY3701, cY3701, aY4701, cY4701, aY5701, cY5701, rfl, hu⟩ := owc_Yard hu
  have NZ := Lib.hid (owG_new hu)
  clear h hu
  refine hK.out _ _ (hHeld.trans (hb.mono hHeld.size)) (fun hHeld => ?_)
  clear hK K hb
  refine rd1 3 (fun K hK => ?_)
  go_simp
  go_at_call 9
  refine (geq_Yard (gmv R_Yard_ok (X_7.out.rd R_Yard_ok) hHeld) (NZ.out.rd R_Yard_ok)).mono ?_
  intro e w702 h
  obtain ⟨rfl, hb⟩ := isB_elim h
  clear h
  refine hK.out _ _ (hHeld.trans (hb.mono hHeld.size)) (fun hHeld => ?_)
  clear hK K hb
  refine tk 4 hHeld ?_
  refine rd0 ?_
  have HF := Lib.hid hHeld
  clear hHeld
  have hF := HF.out
  have PY_8 := Lib.hid (PY_7.out.call hF)
  have BX_8 := Lib.hid (BX_7.out.call hF)
  have HY_8 := Lib.hid (gmv R_Yard_ok HY_7.out hF)
  have X_8 := Lib.hid (X_7.out.mv R_Yard_ok hF)
  have HB8 := Lib.hid (HB7.out.trans ((hF).mono HB7.out.size))
  have HZ9 := Lib.hid ((hF).size)
  clear PY_7 BX_7 HY_7 X_7 HB7
  clear HF hF NZ
  go_wp2
  go_ret
  exact ⟨rfl, HB8.out⟩
end Go.Proofs.YtelhmacfljffhaaGreat.RepC
end
