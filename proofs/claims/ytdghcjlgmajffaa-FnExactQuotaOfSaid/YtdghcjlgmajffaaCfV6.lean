/- QuotaOf in the program: contract. -/
import Derived.Test.YtdghcjlgmajffaaTk
import Derived.Test.YtdghcjlgmajffaaTk
import Derived.Test.YtdghcjlgmajffaaCfV2
namespace Go.Proofs.Ytdghcjlgmajffaa.RepC
open Go.RowKit RowC ValC SpanC KeptC CfC
set_option linter.unusedVariables false
set_option linter.unusedSimpArgs false

set_option maxRecDepth 100000 in
set_option maxHeartbeats 3200000 in
theorem quotaof_impl {C : List (List D_Label)} {P : List D_Pair} {Q : List D_Quota} {hf : Int} {ca pa qa : Option Addr} {cc pc qc : Nat} {l s : Int} {W : World} (hC : RdSl (Sl R_Label) W W.heap.size C ca cc) (hP : RdSl R_Pair W W.heap.size P pa pc) (hQ : RdSl R_Quota W W.heap.size Q qa qc) :
    Calls Try.prog 26 #[.agg #[.slice ca C.length cc, .slice pa P.length pc, .slice qa Q.length qc, .int .i64 hf], .agg #[.int .i64 l, .int .i64 s]] W (IsI (quotaV C P Q hf (l, s)) W) := by
  obtain ⟨M, hM⟩ : ∃ M, quotaV C P Q hf (l, s) = M := ⟨_, rfl⟩
  have HM := Lib.hid hM
  rw [hM]
  clear hM
  have hcn : C.length ≤ 9223372036854775807 := by have h1 := hC.1; have h2 := hC.2.1; unfold maxLen at h2; omega
  have hpn : P.length ≤ 9223372036854775807 := by have h1 := hP.1; have h2 := hP.2.1; unfold maxLen at h2; omega
  have hqn : Q.length ≤ 9223372036854775807 := by have h1 := hQ.1; have h2 := hQ.2.1; unfold maxLen at h2; omega
  obtain ⟨K, hK⟩ : ∃ K, labsV C P Q hf = K := ⟨_, rfl⟩
  have HKv := Lib.hid (show M = (by classical exact if (l, s) ∈ K then quotaIn Q (l, s) else 0) from by rw [← HM.out, ← hK]; rfl)
  have HK := Lib.hid hK
  clear hK
  obtain ⟨w0, hw0⟩ : ∃ w, w = (W.alloc (.cells #[.slice ca C.length cc, .slice pa P.length pc, .slice qa Q.length qc, .int .i64 hf] 33)).alloc (.cells #[.int .i64 l, .int .i64 s] 46) := ⟨_, rfl⟩
  have hb0 : Below W.heap.size W w0 := by rw [hw0]; exact ((Below.refl _ _).alloc (Nat.le_refl _) _).alloc (by simp) _
  have x0 : Blk w0 (W.heap.size) 33 #[.slice ca C.length cc, .slice pa P.length pc, .slice qa Q.length qc, .int .i64 hf] := by
    have h9 := Blk.new W 33 #[.slice ca C.length cc, .slice pa P.length pc, .slice qa Q.length qc, .int .i64 hf]
    try simp only [World.size_alloc] at h9
    rw [hw0]; exact (h9.alloc _)
  have X0 := Lib.hid x0
  have x1 : Blk w0 (W.heap.size + 1) 46 #[.int .i64 l, .int .i64 s] := by
    have h9 := Blk.new (W.alloc (.cells #[.slice ca C.length cc, .slice pa P.length pc, .slice qa Q.length qc, .int .i64 hf] 33)) 46 #[.int .i64 l, .int .i64 s]
    try simp only [World.size_alloc] at h9
    rw [hw0]; exact h9
  have X1 := Lib.hid x1
  have HC := Lib.hid (rd_mv (Sl_ok R_Label_ok) hC hb0)
  have HP := Lib.hid (rd_mv R_Pair_ok hP hb0)
  have HQ := Lib.hid (rd_mv R_Quota_ok hQ hb0)
  have HB0 := Lib.hid hb0
  have hz0 := hb0.size
  clear hb0 hC hP hQ x0 x1
  go_enter Try.func26, Try.ntmps26
  go_wp2_with fail
  rw [← hw0]
  clear hw0
  refine wp_region_held_drew (S := (fun V => Below (w0).heap.size (w0) V)) (by kernel_rfl) ((Below.refl _ _).drew) (fun hHeld => ?_)
  refine tk 0 hHeld ?_ (hy := fun w hSw => by (try dsimp only at hSw); have k0 := (hSw.cell (p := ⟨W.heap.size, 0, none⟩) X0.out.lt).trans (X0.out.at_ 0 rfl); have k1 := (hSw.cell (p := ⟨W.heap.size, 1, none⟩) X0.out.lt).trans (X0.out.at_ 1 rfl); have k2 := (hSw.cell (p := ⟨W.heap.size, 2, none⟩) X0.out.lt).trans (X0.out.at_ 2 rfl); have k3 := (hSw.cell (p := ⟨W.heap.size, 3, none⟩) X0.out.lt).trans (X0.out.at_ 3 rfl); clear hSw; go_simp; try with_reducible rfl)
  refine tk 2 hHeld ?_ (hy := fun w hSw => by (try dsimp only at hSw); have k0 := (hSw.cell (p := ⟨W.heap.size + 1, 0, none⟩) X1.out.lt).trans (X1.out.at_ 0 rfl); have k1 := (hSw.cell (p := ⟨W.heap.size + 1, 1, none⟩) X1.out.lt).trans (X1.out.at_ 1 rfl); clear hSw; go_simp; try with_reducible rfl)
  refine rd1 1 (fun K hK => ?_)
  go_simp
  go_at_call 14
  have hlo := labelsof_impl (hf := hf) (rd_mv (Sl_ok R_Label_ok) HC.out hHeld) (rd_mv R_Pair_ok HP.out hHeld) (rd_mv R_Quota_ok HQ.out hHeld)
  rw [HK.out] at hlo
  refine hlo.mono ?_
  intro e w2 h
  obtain ⟨la, lc, rfl, ho, hb⟩ := newS_elim h
  have HL := Lib.hid (ho.rd R_Label_ok (B := w2.heap.size) fun k hk => hk.2)
  clear h ho hlo
  refine hK.out _ _ (hHeld.trans (hb.mono hHeld.size)) (fun hHeld => ?_)
  clear hK K hb
  refine rd1 3 (fun K hK => ?_)
  go_simp
  go_at_call 54
  refine (contains_lab HL.out).mono ?_
  intro e w3 h
  obtain ⟨q, rfl, hq2, hb⟩ := resB_elim h
  have HQq := Lib.hid hq2
  clear h hq2
  refine hK.out _ _ (hHeld.trans (hb.mono hHeld.size)) (fun hHeld => ?_)
  clear hK K hb
  refine tk 4 hHeld ?_
  refine rd0 ?_
  have HF := Lib.hid hHeld
  clear hHeld
  have HB1 := Lib.hid (HB0.out.trans (HF.out.mono hz0))
  have Z0 := Lib.hid (X0.out.call HF.out)
  have Z1 := Lib.hid (X1.out.call HF.out)
  have HQ2 := Lib.hid (rd_mv R_Quota_ok HQ.out HF.out)
  have hz1 := HB1.out.size
  clear HF
  rcases mem_cases q HQq.out with ⟨hq, hm⟩ | ⟨hq, hm⟩
  rotate_left
  · have HE := Lib.hid (show M = 0 from by rw [HKv.out]; exact if_neg hm)
    obtain rfl := HE.out
    clear hm
    subst hq
    go_wp2
    go_ret
    exact ⟨rfl, HB1.out⟩
  have HE := Lib.hid (show M = quotaIn Q (l, s) from by rw [HKv.out]; exact if_pos hm)
  clear hm
  subst hq
  have p2 := Z0.out.at_ 2 rfl
  go_wp2
  go_loopw [15] (fun i wr => ∃ k : Nat, k ≤ Q.length ∧ i = .int .i64 k ∧ Hid (∀ (j : Nat) y, j < k → Q[j]? = some y → y.1 ≠ (l, s)) ∧ Below w3.heap.size w3 wr) (fun i _ => Q.length - (intOf i).toNat)
  case atStart => exact ⟨0, Nat.zero_le _, rfl, Lib.hid fun j y h => absurd h (Nat.not_lt_zero _), Below.refl _ _⟩
  case round =>
    obtain ⟨k, hk, rfl, HA, hB⟩ := hrel
    obtain ⟨wo, rfl⟩ : ∃ x, x = wr := ⟨_, rfl⟩
    have HB := Lib.hid hB
    have hsz := hB.size
    have Y0 := Lib.hid (Z0.out.call hB)
    have Y1 := Lib.hid (Z1.out.call hB)
    have q2 := Y0.out.at_ 2 rfl
    by_cases hlt : k < Q.length
    · have hdl : decide ((k : Int) < (Q.length : Int)) = true := decide_eq_true (by omega)
      obtain ⟨⟨⟨x0, x1⟩, x2⟩, hx⟩ := el_some hlt
      have HX := Lib.hid hx
      obtain ⟨g, o, us, rfl, hg, hu, hr⟩ := (rd_mv R_Quota_ok HQ2.out hB).at_ hx
      obtain rfl := rd_Quota hr
      have e0 : wo.cell? ⟨g, o + k * 3, none⟩ = some (.int .i64 x0) := by simpa [size_QuotaS, Nat.add_assoc] using hu 0 _ rfl
      have e1 : wo.cell? ⟨g, o + k * 3 + 1, none⟩ = some (.int .i64 x1) := by simpa [size_QuotaS, Nat.add_assoc] using hu 1 _ rfl
      have e2 : wo.cell? ⟨g, o + k * 3 + 2, none⟩ = some (.int .i64 x2) := by simpa [size_QuotaS, Nat.add_assoc] using hu 2 _ rfl
      have HG := Lib.hid hg
      have hi0 : (0 : Int) ≤ (k : Int) := Int.natCast_nonneg _
      have hi1 : (k : Int) < (Q.length : Int) := by omega
      obtain ⟨b, hb⟩ : ∃ b, decide (((x0, x1) : Int × Int) = (l, s)) = b := ⟨_, rfl⟩
      have hE := eql_lab x0 x1 l s b hb
      have HBE := Lib.hid hb
      obtain ⟨w8, hw8⟩ : ∃ w, w = wo.alloc (.cells #[.int .i64 x0, .int .i64 x1, .int .i64 x2] 79) := ⟨_, rfl⟩
      have hbA : Below wo.heap.size wo w8 := by rw [hw8]; exact (Below.refl _ _).alloc (Nat.le_refl _) _
      have HB8 := Lib.hid (HB.out.trans (hbA.mono hsz))
      have V1 := Y1.out.call hbA
      have r0 : (wo.alloc (.cells #[.int .i64 x0, .int .i64 x1, .int .i64 x2] 79)).cell? ⟨W.heap.size + 1, 0, none⟩ = some (.int .i64 l) := by rw [← hw8]; exact V1.at_ 0 rfl
      have r1 : (wo.alloc (.cells #[.int .i64 x0, .int .i64 x1, .int .i64 x2] 79)).cell? ⟨W.heap.size + 1, 1, none⟩ = some (.int .i64 s) := by rw [← hw8]; exact V1.at_ 1 rfl
      rw [hw8] at HB8
      clear hB hx hu hr hg hb p2 q2 V1 hbA hw8
      cases b with
      | false =>
        have HA2 := Lib.hid (show ∀ (j : Nat) y, j < k + 1 → Q[j]? = some y → y.1 ≠ (l, s) from fun j y hj hy => by
          by_cases e : j = k
          · subst e; rw [HX.out] at hy; obtain rfl := Option.some.inj hy
            exact of_decide_eq_false HBE.out
          · exact HA.out j y (by omega) hy)
        go_wp2
        go_roundw
        case rel => exact ⟨k + 1, by omega, by go_num, HA2, HB8.out⟩
        case measure => simp [intOf]; omega
      | true =>
        have HV := Lib.hid (show M = x2 from by rw [HE.out]; exact quotaIn_hit HX.out (of_decide_eq_true HBE.out) HA.out)
        obtain rfl := HV.out
        go_wp2
        go_ret
        exact ⟨rfl, HB1.out.trans (HB8.out.mono hz1)⟩
    · have hdl : decide ((k : Int) < (Q.length : Int)) = false := decide_eq_false (by omega)
      have HV := Lib.hid (show M = 6 from by rw [HE.out]; exact quotaIn_none fun j y hy => HA.out j y (by have := el_lt hy; omega) hy)
      obtain rfl := HV.out
      clear hB
      go_wp2
      go_ret
      exact ⟨rfl, HB1.out.trans (HB.out.mono hz1)⟩
end Go.Proofs.Ytdghcjlgmajffaa.RepC
