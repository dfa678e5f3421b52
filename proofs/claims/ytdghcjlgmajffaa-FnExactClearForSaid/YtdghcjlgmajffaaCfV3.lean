/- ClearFor in the model: contract. -/
import Derived.Test.YtdghcjlgmajffaaTk
import Derived.Test.YtdghcjlgmajffaaTk
import Derived.Test.YtdghcjlgmajffaaCfV
namespace Go.Proofs.Ytdghcjlgmajffaa.RepC
open Go.RowKit RowC ValC SpanC KeptC CfC
set_option linter.unusedVariables false
set_option linter.unusedSimpArgs false

set_option maxRecDepth 100000 in
set_option maxHeartbeats 3200000 in
theorem clearfor_spec {C : List (List D_Label)} {P : List D_Pair} {Q : List D_Quota} {hf : Int} {ca pa qa : Option Addr} {cc pc qc : Nat} {l s : Int} {W : World} (hC : RdSl (Sl R_Label) W W.heap.size C ca cc) (hP : RdSl R_Pair W W.heap.size P pa pc) (hQ : RdSl R_Quota W W.heap.size Q qa qc) :
    Calls Try.prog 19 #[.agg #[.slice ca C.length cc, .slice pa P.length pc, .slice qa Q.length qc, .int .i64 hf], .agg #[.int .i64 l, .int .i64 s]] W (NewS I (clearV C P Q hf (l, s)) W) := by
  obtain ⟨M, hM⟩ : ∃ M, clearV C P Q hf (l, s) = M := ⟨_, rfl⟩
  have HM := Lib.hid hM
  rw [hM]
  clear hM
  have hcn : C.length ≤ 9223372036854775807 := by have h1 := hC.1; have h2 := hC.2.1; unfold maxLen at h2; omega
  have hpn : P.length ≤ 9223372036854775807 := by have h1 := hP.1; have h2 := hP.2.1; unfold maxLen at h2; omega
  have hqn : Q.length ≤ 9223372036854775807 := by have h1 := hQ.1; have h2 := hQ.2.1; unfold maxLen at h2; omega
  obtain ⟨z, hz⟩ : ∃ z, cfgB C P Q hf = z := ⟨_, rfl⟩
  have HZ := Lib.hid hz
  clear hz
  obtain ⟨w0, hw0⟩ : ∃ w, w = (W.alloc (.cells #[.slice ca C.length cc, .slice pa P.length pc, .slice qa Q.length qc, .int .i64 hf] 33)).alloc (.cells #[.int .i64 l, .int .i64 s] 46) := ⟨_, rfl⟩
  have hb0 : Below W.heap.size W w0 := by rw [hw0]; exact ((Below.refl _ _).alloc (Nat.le_refl _) _).alloc (by simp) _
  have x0 : Blk w0 (W.heap.size) 33 #[.slice ca C.length cc, .slice pa P.length pc, .slice qa Q.length qc, .int .i64 hf] := by
    have h9 := Blk.new W 33 #[.slice ca C.length cc, .slice pa P.length pc, .slice qa Q.length qc, .int .i64 hf]
    try simp only [World.size_alloc] at h9
    rw [hw0]; exact h9.alloc _
  have X0 := Lib.hid x0
  have x1 : Blk w0 (W.heap.size + 1) 46 #[.int .i64 l, .int .i64 s] := by
    have h9 := Blk.new (W.alloc (.cells #[.slice ca C.length cc, .slice pa P.length pc, .slice qa Q.length qc, .int .i64 hf] 33)) 46 #[.int .i64 l, .int .i64 s]
    try simp only [World.size_alloc] at h9
    rw [hw0]; exact h9
  have X1 := Lib.hid x1
  have HC := Lib.hid (rd_mv (Sl_ok R_Label_ok) hC hb0)
  have HP := Lib.hid (rd_mv R_Pair_ok hP hb0)
  have HQ := Lib.hid (rd_mv R_Quota_ok hQ hb0)
  have HB0 := Lib.hid hb0
  have hz0 := hb0.size
  clear hb0 hC hP hQ x0 x1
  have hsz0 : w0.heap.size = W.heap.size + 1 + 1 := by rw [hw0]; simp
  obtain ⟨v1, hv1⟩ : ∃ v, v = w0.alloc (.cells #[] 2) := ⟨_, rfl⟩
  have hb1 : Below w0.heap.size w0 v1 := by rw [hv1]; exact (Below.refl _ _).alloc (Nat.le_refl _) _
  have HV := Lib.hid (show IRow v1 w0.heap.size (.slice (some ⟨W.heap.size + 1 + 1, 0, none⟩) 0 0) [] from by rw [← hsz0, hv1]; exact FRow.made _ _ _ _)
  have hzz := hb1.size
  clear hsz0
  have HC0 := HC
  have HC := Lib.hid (rd_mv (Sl_ok R_Label_ok) HC.out hb1)
  have HP := Lib.hid (rd_mv R_Pair_ok HP.out hb1)
  have HQ := Lib.hid (rd_mv R_Quota_ok HQ.out hb1)
  have Y0 := Lib.hid (X0.out.call hb1)
  have Y1 := Lib.hid (X1.out.call hb1)
  have HB1 := Lib.hid hb1
  clear hb1
  go_enter Try.func19, Try.ntmps19
  have p0 := Y0.out.at_ 0 rfl
  have p1 := Y0.out.at_ 1 rfl
  have p2 := Y0.out.at_ 2 rfl
  have p3 := Y0.out.at_ 3 rfl
  rw [hv1] at p0 p1 p2 p3
  rw [hw0] at p0 p1 p2 p3
  go_wp2_with fail
  rw [← hw0, ← hv1]
  clear hw0 hv1 p0 p1 p2 p3
  have hcf := config_spec HC.out HP.out HQ.out (hf := hf)
  rw [HZ.out] at hcf
  refine hcf.mono ?_
  intro e v2 h
  obtain ⟨rfl, hb⟩ := isB_elim h
  have HB2 := Lib.hid (HB1.out.trans (hb.mono HB1.out.size))
  have HV2 := Lib.hid (HV.out.call hb)
  have hz2 := HB2.out.size
  have hz2b := hb.size
  clear h hb hcf HV
  cases z with
  | false =>
    have HE := Lib.hid (show M = [] from by rw [← HM.out]; unfold clearV; rw [HZ.out]; rfl)
    obtain rfl := HE.out
    go_wp2
    go_ret
    exact FRow.news I_ok flat_I HV2.out HB0.out.size (HB0.out.trans (HB2.out.mono HB0.out.size))
  | true =>
  have HCL := Lib.hid (show C.length ≤ 6 from (cfgB_iff.1 HZ.out).1.2.1)
  have HE := Lib.hid (show M = nodesTo C (l, s) C.length from by rw [← HM.out]; unfold clearV; rw [HZ.out]; rfl)
  go_wp2
  go_loopw [5, 6] (fun v i wr => ∃ k : Nat, k ≤ C.length ∧ i = .int .i64 k ∧ Hid (IRow wr w0.heap.size v (nodesTo C (l, s) k)) ∧ Below w0.heap.size w0 wr) (fun _ i _ => C.length - (intOf i).toNat)
  case atStart => exact ⟨0, Nat.zero_le _, rfl, HV2, HB2.out⟩
  case round =>
    obtain ⟨k, hk, rfl, HR, hB⟩ := hrel
    have HB := Lib.hid hB
    have hsz := hB.size
    obtain ⟨va, vc, rfl⟩ := HR.out.isSlice
    have Z0 := Lib.hid (X0.out.call hB)
    have Z1 := Lib.hid (X1.out.call hB)
    have q0 := Z0.out.at_ 0 rfl
    by_cases hlt : k < C.length
    · have hdl : decide ((k : Int) < (C.length : Int)) = true := decide_eq_true (by omega)
      obtain ⟨x, hx⟩ := el_some hlt
      have HX := Lib.hid hx
      have hCr := rd_mv (Sl_ok R_Label_ok) HC0.out hB
      obtain ⟨g, o, us, rfl, hg, hu, hr⟩ := hCr.at_ hx
      obtain ⟨a1, c1, rfl, k_x⟩ := hr
      have e0 : wr.cell? ⟨g, o + k, none⟩ = some (.slice a1 x.length c1) := by simpa [size_SLab] using hu 0 _ rfl
      have hi0 : (0 : Int) ≤ (k : Int) := Int.natCast_nonneg _
      have hi1 : (k : Int) < (C.length : Int) := by omega
      have HG := Lib.hid hg
      have HK := Lib.hid k_x
      clear hB hx hu k_x hCr hg
      go_wp2_with fail
      refine wp_region_held_drew (S := (fun V => Below (wr).heap.size (wr) V)) (by kernel_rfl) ((Below.refl _ _).drew) (fun hHeld => ?_)
      refine tk 0 hHeld ?_
      refine tk 1 hHeld ?_ (hy := fun w hSw => by (try dsimp only at hSw); have k0 := (hSw.cell (p := ⟨W.heap.size, 0, none⟩) Z0.out.lt).trans (Z0.out.at_ 0 rfl); clear hSw; go_simp; try with_reducible rfl)
      refine tk 2 hHeld ?_
      refine tk 3 hHeld ?_
      refine tk 4 hHeld ?_ (hy := fun w hSw => by (try dsimp only at hSw); have k0 := (hSw.cell (p := ⟨g, o + k, none⟩) HG.out).trans e0; clear hSw; go_simp; try with_reducible rfl)
      refine tk 5 hHeld ?_ (hy := fun w hSw => by (try dsimp only at hSw); have k0 := (hSw.cell (p := ⟨W.heap.size + 1, 0, none⟩) Z1.out.lt).trans (Z1.out.at_ 0 rfl); have k1 := (hSw.cell (p := ⟨W.heap.size + 1, 1, none⟩) Z1.out.lt).trans (Z1.out.at_ 1 rfl); clear hSw; go_simp; try with_reducible rfl)
      refine rd1 6 (fun K hK => ?_)
      go_simp
      go_at_call 52
      refine (cleared_spec (rd_mv R_Label_ok HK.out hHeld)).mono ?_
      intro e w4 h
      obtain ⟨q, rfl, hq2, hb⟩ := resB_elim h
      have HQq := Lib.hid hq2
      clear h hq2
      refine hK.out _ _ (hHeld.trans (hb.mono hHeld.size)) (fun hHeld => ?_)
      clear hK K hb
      refine rd0 ?_
      have HF := Lib.hid hHeld
      clear hHeld
      have HB3 := Lib.hid (HB.out.trans (HF.out.mono hsz))
      have HR3 := Lib.hid (HR.out.call HF.out)
      have hz3 := HB3.out.size
      clear HF
      rcases mem_cases q HQq.out with ⟨hq, hm⟩ | ⟨hq, hm⟩
      · have HN := Lib.hid (nodesTo_yes HX.out hm)
        clear hm
        subst hq
        obtain ⟨w5, hw5⟩ : ∃ w, w = w4.alloc (.cells #[.int .i64 (k : Int)] 2) := ⟨_, rfl⟩
        have hbB : Below w4.heap.size w4 w5 := by rw [hw5]; exact (Below.refl _ _).alloc (Nat.le_refl _) _
        have HP5 : Blk w5 w4.heap.size 2 #[.int .i64 (k : Int)] := by rw [hw5]; exact Blk.new _ _ _
        have hlen := nodesTo_len C (l, s) k
        have hz5 := hbB.size
        obtain ⟨a', c', w6, hrun, hrow, hb6⟩ := IRow.more (HR3.out.call hbB) (rd_oneI (k : Int) HP5) (show w0.heap.size ≤ w5.heap.size by omega) (by simp only [List.length_singleton]; have := HCL.out; omega)
        have HRun := Lib.hid hrun
        have HR6 := Lib.hid hrow
        have HB6 := Lib.hid ((HB3.out.trans (hbB.mono (by omega))).trans (hb6.mono (by omega)))
        rw [hw5] at HRun
        clear hrun hrow hb6 hbB HP5 hw5 q0 e0
        go_wp2_with (at_builtin; refine wpList_app rfl (.tmp 26) (.tmp 28) 44 rfl rfl rfl HRun.out ?_)
        go_roundw
        case rel => exact ⟨k + 1, by omega, by go_num, Lib.hid (by rw [HN.out]; simpa using HR6.out), HB6.out⟩
        case measure => simp [intOf]; omega
      · have HN := Lib.hid (nodesTo_no HX.out hm)
        clear hm
        subst hq
        clear q0 e0
        go_wp2
        go_roundw
        case rel => exact ⟨k + 1, by omega, by go_num, Lib.hid (by rw [HN.out]; exact HR3.out), HB3.out⟩
        case measure => simp [intOf]; omega
    · have hdl : decide ((k : Int) < (C.length : Int)) = false := decide_eq_false (by omega)
      obtain rfl : k = C.length := by omega
      have HR3 := Lib.hid (show IRow wr w0.heap.size (.slice va (nodesTo C (l, s) C.length).length vc) M from by rw [HE.out]; exact HR.out)
      clear hB
      go_wp2
      go_ret
      exact FRow.news I_ok flat_I HR3.out HB0.out.size (HB0.out.trans (HB.out.mono HB0.out.size))
end Go.Proofs.Ytdghcjlgmajffaa.RepC
