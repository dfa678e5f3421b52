/- CfV3, CfV4, CfGClear, CfW3 in one text. -/
import Derived.Test.YtmmnkdilnlhbfaaTk
import Derived.Test.YtmmnkdilnlhbfaaTk
import Derived.Test.YtmmnkdilnlhbfaaCfV
import Derived.Test.YtmmnkdilnlhbfaaCfOm
import Derived.Test.YtmmnkdilnlhbfaaCfGv
namespace Go.Proofs.Ytmmnkdilnlhbfaa.RepC
open Go.RowKit RowC ValC SpanC KeptC CfC
set_option linter.unusedVariables false
set_option linter.unusedSimpArgs false

set_option maxRecDepth 100000 in
set_option maxHeartbeats 3200000 in
theorem clearfor_spec {C : List (List D_Label)} {P : List D_Pair} {Q : List D_Quota} {hf : Int} {ca pa qa : Option Addr} {cc pc qc : Nat} {l s : Int} {W : World} (hC : RdSl (Sl R_Label) W W.heap.size C ca cc) (hP : RdSl R_Pair W W.heap.size P pa pc) (hQ : RdSl R_Quota W W.heap.size Q qa qc) :
    Calls Try.prog 10 #[.agg #[.slice ca C.length cc, .slice pa P.length pc, .slice qa Q.length qc, .int .i64 hf], .agg #[.int .i64 l, .int .i64 s]] W (NewS I (clearV C P Q hf (l, s)) W) := by
  obtain ⟨M, hM⟩ : ∃ M, clearV C P Q hf (l, s) = M := ⟨_, rfl⟩
  have HM := Lib.hid hM
  rw [hM]
  clear hM
  have hcn : C.length ≤ 9223372036854775807 := by have h1 := hC.1; have h2 := hC.2.1; unfold maxLen at h2; omega
  have hpn : P.length ≤ 9223372036854775807 := by have h1 := hP.1; have h2 := hP.2.1; unfold maxLen at h2; omega
  have hqn : Q.length ≤ 9223372036854775807 := by have h1 := hQ.1; have h2 := hQ.2.1; unfold maxLen at h2; omega
  obtain ⟨z, hz⟩ : ∃ z, cfgB C P Q hf = z := ⟨_, rfl⟩
  have HZ := Lib.hid hz
  clear hz
  obtain ⟨w0, hw0⟩ : ∃ w, w = (W.alloc (.cells #[.slice ca C.length cc, .slice pa P.length pc, .slice qa Q.length qc, .int .i64 hf] 36)).alloc (.cells #[.int .i64 l, .int .i64 s] 38) := ⟨_, rfl⟩
  have hb0 : Below W.heap.size W w0 := by rw [hw0]; exact ((Below.refl _ _).alloc (Nat.le_refl _) _).alloc (by simp) _
  have x0 : Blk w0 (W.heap.size) 36 #[.slice ca C.length cc, .slice pa P.length pc, .slice qa Q.length qc, .int .i64 hf] := by
    have h9 := Blk.new W 36 #[.slice ca C.length cc, .slice pa P.length pc, .slice qa Q.length qc, .int .i64 hf]
    try simp only [World.size_alloc] at h9
    rw [hw0]; exact (h9.alloc _)
  have X0 := Lib.hid x0
  have x1 : Blk w0 (W.heap.size + 1) 38 #[.int .i64 l, .int .i64 s] := by
    have h9 := Blk.new (W.alloc (.cells #[.slice ca C.length cc, .slice pa P.length pc, .slice qa Q.length qc, .int .i64 hf] 36)) 38 #[.int .i64 l, .int .i64 s]
    try simp only [World.size_alloc] at h9
    rw [hw0]; exact h9
  have X1 := Lib.hid x1
  have HC := Lib.hid (rd_mv (Sl_ok R_Label_ok) hC hb0)
  have HP := Lib.hid (rd_mv R_Pair_ok hP hb0)
  have HQ := Lib.hid (rd_mv R_Quota_ok hQ hb0)
  have HB0 := Lib.hid hb0
  have hz0 := hb0.size
  clear hb0 hC hP hQ x0 x1
  have hsz0 : w0.heap.size = W.heap.size + 1 + 1 := by rw [hw0]; simp
  obtain ⟨v1, hv1⟩ : ∃ v, v = w0.alloc (.cells #[] 2) := ⟨_, rfl⟩
  have hb1 : Below w0.heap.size w0 v1 := by rw [hv1]; exact (Below.refl _ _).alloc (Nat.le_refl _) _
  have HV := Lib.hid (show IRow v1 w0.heap.size (.slice (some ⟨W.heap.size + 1 + 1, 0, none⟩) 0 0) [] from by rw [← hsz0, hv1]; exact FRow.made _ _ _ _)
  have hzz := hb1.size
  clear hsz0
  have HC0 := HC
  have HC := Lib.hid (rd_mv (Sl_ok R_Label_ok) HC.out hb1)
  have HP := Lib.hid (rd_mv R_Pair_ok HP.out hb1)
  have HQ := Lib.hid (rd_mv R_Quota_ok HQ.out hb1)
  have Y0 := Lib.hid (X0.out.call hb1)
  have Y1 := Lib.hid (X1.out.call hb1)
  have HB1 := Lib.hid hb1
  clear hb1
  go_enter Try.func10, Try.ntmps10
  have p0 := Y0.out.at_ 0 rfl
  have p1 := Y0.out.at_ 1 rfl
  have p2 := Y0.out.at_ 2 rfl
  have p3 := Y0.out.at_ 3 rfl
  rw [hv1] at p0 p1 p2 p3
  rw [hw0] at p0 p1 p2 p3
  go_wp2_with fail
  rw [← hw0, ← hv1]
  clear hw0 hv1 p0 p1 p2 p3
  have hcf := config_spec HC.out HP.out HQ.out (hf := hf)
  rw [HZ.out] at hcf
  refine hcf.mono ?_
  intro e v2 h
  obtain ⟨rfl, hb⟩ := isB_elim h
  have HB2 := Lib.hid (HB1.out.trans (hb.mono HB1.out.size))
  have HV2 := Lib.hid (HV.out.call hb)
  have hz2 := HB2.out.size
  have hz2b := hb.size
  clear h hb hcf HV
  cases z with
  | false =>
    have HE := Lib.hid (show M = [] from by rw [← HM.out]; unfold clearV; rw [HZ.out]; rfl)
    obtain rfl := HE.out
    go_wp2
    go_ret
    exact FRow.news I_ok flat_I HV2.out HB0.out.size (HB0.out.trans (HB2.out.mono HB0.out.size))
  | true =>
  have HCL := Lib.hid (show C.length ≤ 6 from (cfgB_iff.1 HZ.out).1.2.1)
  have HE := Lib.hid (show M = nodesTo C (l, s) C.length from by rw [← HM.out]; unfold clearV; rw [HZ.out]; rfl)
  go_wp2
  go_loopw [5, 6] (fun v i wr => ∃ k : Nat, k ≤ C.length ∧ i = .int .i64 k ∧ Hid (IRow wr w0.heap.size v (nodesTo C (l, s) k)) ∧ Below w0.heap.size w0 wr) (fun _ i _ => C.length - (intOf i).toNat)
  case atStart => exact ⟨0, Nat.zero_le _, rfl, HV2, HB2.out⟩
  case round =>
    obtain ⟨k, hk, rfl, HR, hB⟩ := hrel
    have HB := Lib.hid hB
    have hsz := hB.size
    obtain ⟨va, vc, rfl⟩ := HR.out.isSlice
    have Z0 := Lib.hid (X0.out.call hB)
    have Z1 := Lib.hid (X1.out.call hB)
    have q0 := Z0.out.at_ 0 rfl
    by_cases hlt : k < C.length
    · have hdl : decide ((k : Int) < (C.length : Int)) = true := decide_eq_true (by omega)
      obtain ⟨x, hx⟩ := el_some hlt
      have HX := Lib.hid hx
      have hCr := rd_mv (Sl_ok R_Label_ok) HC0.out hB
      obtain ⟨g, o, us, rfl, hg, hu, hr⟩ := hCr.at_ hx
      obtain ⟨a1, c1, rfl, k_x⟩ := hr
      have e0 : wr.cell? ⟨g, o + k, none⟩ = some (.slice a1 x.length c1) := by simpa [size_SLab] using hu 0 _ rfl
      have hi0 : (0 : Int) ≤ (k : Int) := Int.natCast_nonneg _
      have hi1 : (k : Int) < (C.length : Int) := by omega
      have HG := Lib.hid hg
      have HK := Lib.hid k_x
      clear hB hx hu k_x hCr hg
      go_wp2_with fail
      refine wp_region_held_drew (S := (fun V => Below (wr).heap.size (wr) V)) (by kernel_rfl) ((Below.refl _ _).drew) (fun hHeld => ?_)
      refine tk 0 hHeld ?_
      refine tk 1 hHeld ?_ (hy := fun w hSw => by (try dsimp only at hSw); have k0 := (hSw.cell (p := ⟨W.heap.size, 0, none⟩) Z0.out.lt).trans (Z0.out.at_ 0 rfl); clear hSw; go_simp; try with_reducible rfl)
      refine tk 2 hHeld ?_
      refine tk 3 hHeld ?_
      refine tk 4 hHeld ?_ (hy := fun w hSw => by (try dsimp only at hSw); have k0 := (hSw.cell (p := ⟨g, o + k, none⟩) HG.out).trans e0; clear hSw; go_simp; try with_reducible rfl)
      refine tk 5 hHeld ?_ (hy := fun w hSw => by (try dsimp only at hSw); have k0 := (hSw.cell (p := ⟨W.heap.size + 1, 0, none⟩) Z1.out.lt).trans (Z1.out.at_ 0 rfl); have k1 := (hSw.cell (p := ⟨W.heap.size + 1, 1, none⟩) Z1.out.lt).trans (Z1.out.at_ 1 rfl); clear hSw; go_simp; try with_reducible rfl)
      refine rd1 6 (fun K hK => ?_)
      go_simp
      go_at_call 42
      refine (cleared_spec (rd_mv R_Label_ok HK.out hHeld)).mono ?_
      intro e w4 h
      obtain ⟨q, rfl, hq2, hb⟩ := resB_elim h
      have HQq := Lib.hid hq2
      clear h hq2
      refine hK.out _ _ (hHeld.trans (hb.mono hHeld.size)) (fun hHeld => ?_)
      clear hK K hb
      refine rd0 ?_
      have HF := Lib.hid hHeld
      clear hHeld
      have HB3 := Lib.hid (HB.out.trans (HF.out.mono hsz))
      have HR3 := Lib.hid (HR.out.call HF.out)
      have hz3 := HB3.out.size
      clear HF
      rcases mem_cases q HQq.out with ⟨hq, hm⟩ | ⟨hq, hm⟩
      · have HN := Lib.hid (nodesTo_yes HX.out hm)
        clear hm
        subst hq
        obtain ⟨w5, hw5⟩ : ∃ w, w = w4.alloc (.cells #[.int .i64 (k : Int)] 2) := ⟨_, rfl⟩
        have hbB : Below w4.heap.size w4 w5 := by rw [hw5]; exact (Below.refl _ _).alloc (Nat.le_refl _) _
        have HP5 : Blk w5 w4.heap.size 2 #[.int .i64 (k : Int)] := by rw [hw5]; exact Blk.new _ _ _
        have hlen := nodesTo_len C (l, s) k
        have hz5 := hbB.size
        obtain ⟨a', c', w6, hrun, hrow, hb6⟩ := IRow.more (HR3.out.call hbB) (rd_oneI (k : Int) HP5) (show w0.heap.size ≤ w5.heap.size by omega) (by simp only [List.length_singleton]; have := HCL.out; omega)
        have HRun := Lib.hid hrun
        have HR6 := Lib.hid hrow
        have HB6 := Lib.hid ((HB3.out.trans (hbB.mono (by omega))).trans (hb6.mono (by omega)))
        rw [hw5] at HRun
        clear hrun hrow hb6 hbB HP5 hw5 q0 e0
        go_wp2_with (at_builtin; refine wpList_app rfl (.tmp 26) (.tmp 28) 30 rfl rfl rfl HRun.out ?_)
        go_roundw
        case rel => exact ⟨k + 1, by omega, by go_num, Lib.hid (by rw [HN.out]; simpa using HR6.out), HB6.out⟩
        case measure => simp [intOf]; omega
      · have HN := Lib.hid (nodesTo_no HX.out hm)
        clear hm
        subst hq
        clear q0 e0
        go_wp2
        go_roundw
        case rel => exact ⟨k + 1, by omega, by go_num, Lib.hid (by rw [HN.out]; exact HR3.out), HB3.out⟩
        case measure => simp [intOf]; omega
    · have hdl : decide ((k : Int) < (C.length : Int)) = false := decide_eq_false (by omega)
      obtain rfl : k = C.length := by omega
      have HR3 := Lib.hid (show IRow wr w0.heap.size (.slice va (nodesTo C (l, s) C.length).length vc) M from by rw [HE.out]; exact HR.out)
      clear hB
      go_wp2
      go_ret
      exact FRow.news I_ok flat_I HR3.out HB0.out.size (HB0.out.trans (HB.out.mono HB0.out.size))
end Go.Proofs.Ytmmnkdilnlhbfaa.RepC
namespace Go.Proofs.Ytmmnkdilnlhbfaa.RepC
open Go.RowKit RowC ValC SpanC KeptC CfC
set_option linter.unusedVariables false
set_option linter.unusedSimpArgs false

set_option maxRecDepth 100000 in
set_option maxHeartbeats 3200000 in
theorem clearfor_impl {C : List (List D_Label)} {P : List D_Pair} {Q : List D_Quota} {hf : Int} {ca pa qa : Option Addr} {cc pc qc : Nat} {l s : Int} {W : World} (hC : RdSl (Sl R_Label) W W.heap.size C ca cc) (hP : RdSl R_Pair W W.heap.size P pa pc) (hQ : RdSl R_Quota W W.heap.size Q qa qc) :
    Calls Try.prog 13 #[.agg #[.slice ca C.length cc, .slice pa P.length pc, .slice qa Q.length qc, .int .i64 hf], .agg #[.int .i64 l, .int .i64 s]] W (NewS I (clearV C P Q hf (l, s)) W) := by
  obtain ⟨M, hM⟩ : ∃ M, clearV C P Q hf (l, s) = M := ⟨_, rfl⟩
  have HM := Lib.hid hM
  rw [hM]
  clear hM
  have hcn : C.length ≤ 9223372036854775807 := by have h1 := hC.1; have h2 := hC.2.1; unfold maxLen at h2; omega
  have hpn : P.length ≤ 9223372036854775807 := by have h1 := hP.1; have h2 := hP.2.1; unfold maxLen at h2; omega
  have hqn : Q.length ≤ 9223372036854775807 := by have h1 := hQ.1; have h2 := hQ.2.1; unfold maxLen at h2; omega
  obtain ⟨z, hz⟩ : ∃ z, cfgB C P Q hf = z := ⟨_, rfl⟩
  have HZ := Lib.hid hz
  clear hz
  obtain ⟨w0, hw0⟩ : ∃ w, w = (W.alloc (.cells #[.slice ca C.length cc, .slice pa P.length pc, .slice qa Q.length qc, .int .i64 hf] 36)).alloc (.cells #[.int .i64 l, .int .i64 s] 38) := ⟨_, rfl⟩
  have hb0 : Below W.heap.size W w0 := by rw [hw0]; exact ((Below.refl _ _).alloc (Nat.le_refl _) _).alloc (by simp) _
  have x0 : Blk w0 (W.heap.size) 36 #[.slice ca C.length cc, .slice pa P.length pc, .slice qa Q.length qc, .int .i64 hf] := by
    have h9 := Blk.new W 36 #[.slice ca C.length cc, .slice pa P.length pc, .slice qa Q.length qc, .int .i64 hf]
    try simp only [World.size_alloc] at h9
    rw [hw0]; exact (h9.alloc _)
  have X0 := Lib.hid x0
  have x1 : Blk w0 (W.heap.size + 1) 38 #[.int .i64 l, .int .i64 s] := by
    have h9 := Blk.new (W.alloc (.cells #[.slice ca C.length cc, .slice pa P.length pc, .slice qa Q.length qc, .int .i64 hf] 36)) 38 #[.int .i64 l, .int .i64 s]
    try simp only [World.size_alloc] at h9
    rw [hw0]; exact h9
  have X1 := Lib.hid x1
  have HC := Lib.hid (rd_mv (Sl_ok R_Label_ok) hC hb0)
  have HP := Lib.hid (rd_mv R_Pair_ok hP hb0)
  have HQ := Lib.hid (rd_mv R_Quota_ok hQ hb0)
  have HB0 := Lib.hid hb0
  have hz0 := hb0.size
  clear hb0 hC hP hQ x0 x1
  have hmf : ∀ (fn : Fn) (first cap : Array Value) (w : World), (Instr.makeFunc fn first cap).run Try.prog w = .ok (.func fn first cap) w := fun _ _ _ _ => rfl
  have eg : ∀ args w, (callFunc 88 args).run Try.prog w = .ok (.enter 88 args) w := enters_of Try.func88 (by kernel_rfl) rfl
  go_enter Try.func13, Try.ntmps13
  have p0 := X0.out.at_ 0 rfl
  have p1 := X0.out.at_ 1 rfl
  have p2 := X0.out.at_ 2 rfl
  have p3 := X0.out.at_ 3 rfl
  rw [hw0] at p0 p1 p2 p3
  go_wp2_with fail
  rw [← hw0]
  clear hw0 p0 p1 p2 p3
  have hcf := config_impl HC.out HP.out HQ.out (hf := hf)
  rw [HZ.out] at hcf
  refine hcf.mono ?_
  intro e v2 h
  obtain ⟨rfl, hb⟩ := isB_elim h
  have HB2 := Lib.hid (HB0.out.trans (hb.mono hz0))
  have Z0 := Lib.hid (X0.out.call hb)
  have Z1 := Lib.hid (X1.out.call hb)
  have HC2 := Lib.hid (rd_mv (Sl_ok R_Label_ok) HC.out hb)
  have hz2 := HB2.out.size
  clear h hb hcf
  have p0 := Z0.out.at_ 0 rfl
  have p4 := Z1.out.at_ 0 rfl
  have p5 := Z1.out.at_ 1 rfl
  cases z with
  | false =>
    have HE := Lib.hid (show M = [] from by rw [← HM.out]; unfold clearV; rw [HZ.out]; rfl)
    obtain rfl := HE.out
    go_wp2
    go_ret
    exact ⟨_, _, rfl, ⟨Nat.le_refl _, by unfold maxLen; omega, fun h => absurd h (Nat.lt_irrefl _)⟩, HB2.out⟩
  | true =>
  have HCL := Lib.hid (show C.length ≤ 6 from (cfgB_iff.1 HZ.out).1.2.1)
  have HE := Lib.hid (show M = nodesOf C (l, s) from by rw [← HM.out]; unfold clearV; rw [HZ.out]; rfl)
  have p1 := Z0.out.at_ 1 rfl
  have p2 := Z0.out.at_ 2 rfl
  have p3 := Z0.out.at_ 3 rfl
  go_wp2_with fail
  refine (opennodes_impl HCL.out HC2.out).mono ?_
  intro e v3 h
  obtain ⟨pa9, pc9, rfl, ho, hb⟩ := newS_elim h
  obtain rfl := HE.out
  have HO := Lib.hid (show OwSl I v3 (Rg W.heap.size v3.heap.size) (nodesOf C (l, s)) pa9 pc9 from ho.more fun q hq => ⟨Nat.le_trans hz2 hq.1, hq.2⟩)
  have HB3 := Lib.hid (HB2.out.trans (hb.mono hz2))
  clear h ho hb p0 p1 p2 p3 p4 p5
  go_wp2
  go_ret
  exact ⟨_, _, rfl, HO.out, HB3.out⟩
end Go.Proofs.Ytmmnkdilnlhbfaa.RepC
namespace Go.Proofs.Ytmmnkdilnlhbfaa.RepC
open Go.RowKit RowC ValC SpanC KeptC
set_option linter.unusedVariables false
set_option linter.unusedSimpArgs false

noncomputable def clearG (d : D_Config) (l s : Int) : List Int := clearV d.1 d.2.1 d.2.2.1 d.2.2.2 (l, s)
theorem gclear_spec {d : D_Config} {cs : List Value} {l s : Int} {W : World} (h : R_Config.rd W W.heap.size d cs) : Calls Try.prog 10 #[.agg cs.toArray, .agg #[.int .i64 l, .int .i64 s]] W (NewS I (clearG d l s) W) := by
  obtain ⟨C, P, Q, hf⟩ := d
  obtain ⟨a0, c0, a1, c1, a2, c2, rfl, k0, k1, k2⟩ := rd_Config h
  exact clearfor_spec k0 k1 k2
theorem gclear_impl {d : D_Config} {cs : List Value} {l s : Int} {W : World} (h : R_Config.rd W W.heap.size d cs) : Calls Try.prog 13 #[.agg cs.toArray, .agg #[.int .i64 l, .int .i64 s]] W (NewS I (clearG d l s) W) := by
  obtain ⟨C, P, Q, hf⟩ := d
  obtain ⟨a0, c0, a1, c1, a2, c2, rfl, k0, k1, k2⟩ := rd_Config h
  exact clearfor_impl k0 k1 k2
theorem cm_ints : ∀ L : List Int, sumL I.cm L = L.length
  | [] => rfl
  | x :: xs => by simp only [sumL, cm_ints xs, List.length_cons]; show 1 + xs.length = _; omega
theorem clear_small {d : D_Config} {l s : Int} {R : List Int} (hz : R_Config.sz d ≤ 1048576) (hd : clearG d l s = R) : (Sl I).cv R ≤ 1048576 := by
  show sumL I.cm R ≤ _
  rw [cm_ints, ← hd]
  obtain ⟨C, P, Q, hf⟩ := d
  unfold clearG clearV
  split
  · have h := nodesTo_len C (l, s) C.length
    rw [szd_Config] at hz
    have e : (Sl (Sl R_Label)).sz C = C.length + sumL (Sl R_Label).sz C := rfl
    show (nodesTo C (l, s) C.length).length ≤ _
    omega
  · simp
end Go.Proofs.Ytmmnkdilnlhbfaa.RepC
namespace Go.Proofs.Ytmmnkdilnlhbfaa.RepC
open Go.RowKit RowC ValC SpanC KeptC
set_option linter.unusedVariables false
set_option linter.unusedSimpArgs false

set_option maxRecDepth 100000 in
set_option maxHeartbeats 4000000 in
theorem law_clearfor {DL0 : List (List (D_Label))} {DL1 : List (D_Pair)} {DL2 : List (D_Quota)} {Dx3 : Int} {Da0 : Option Addr} {Dc0 : Nat} {Da1 : Option Addr} {Dc1 : Nat} {Da2 : Option Addr} {Dc2 : Nat} {Fx0 : Int} {Fx1 : Int}  {W : World} (hD : R_Config.rd W W.heap.size (DL0, DL1, DL2, Dx3) [.slice Da0 DL0.length Dc0, .slice Da1 DL1.length Dc1, .slice Da2 DL2.length Dc2, .int .i64 Dx3]) :
    Calls Try.prog 3 #[.agg #[.slice Da0 DL0.length Dc0, .slice Da1 DL1.length Dc1, .slice Da2 DL2.length Dc2, .int .i64 Dx3], .agg #[.int .i64 Fx0, .int .i64 Fx1]] W fun e w' => e = .returned (.bool true) ∧ Below W.heap.size W w' := by
  have HD := Lib.hid hD
  have HD0 := Lib.hid hD
  clear hD
  have hbA : Below (W).heap.size (W) (W.alloc (.cells #[.slice Da0 DL0.length Dc0, .slice Da1 DL1.length Dc1, .slice Da2 DL2.length Dc2, .int .i64 Dx3] 26)) := (Below.refl _ _).alloc (Nat.le_refl _) _
  have HD_1 := Lib.hid (gmv R_Config_ok HD.out hbA)
  have HB1 := Lib.hid (show Below W.heap.size W (W.alloc (.cells #[.slice Da0 DL0.length Dc0, .slice Da1 DL1.length Dc1, .slice Da2 DL2.length Dc2, .int .i64 Dx3] 26)) from hbA)
  have HZ1 := Lib.hid ((hbA).size)
  clear HD
  have PD_1 := Blk.new (W) 26 #[.slice Da0 DL0.length Dc0, .slice Da1 DL1.length Dc1, .slice Da2 DL2.length Dc2, .int .i64 Dx3]
  have PDh_1 := Lib.hid PD_1
  clear PD_1 hbA
  have hbA : Below (W.alloc (.cells #[.slice Da0 DL0.length Dc0, .slice Da1 DL1.length Dc1, .slice Da2 DL2.length Dc2, .int .i64 Dx3] 26)).heap.size (W.alloc (.cells #[.slice Da0 DL0.length Dc0, .slice Da1 DL1.length Dc1, .slice Da2 DL2.length Dc2, .int .i64 Dx3] 26)) ((W.alloc (.cells #[.slice Da0 DL0.length Dc0, .slice Da1 DL1.length Dc1, .slice Da2 DL2.length Dc2, .int .i64 Dx3] 26)).alloc (.cells #[.int .i64 Fx0, .int .i64 Fx1] 28)) := (Below.refl _ _).alloc (Nat.le_refl _) _
  have PD_2 := Lib.hid (PDh_1.out.call hbA)
  have HD_2 := Lib.hid (gmv R_Config_ok HD_1.out hbA)
  have HB2 := Lib.hid (HB1.out.trans ((hbA).mono HB1.out.size))
  have HZ2 := Lib.hid ((hbA).size)
  clear PDh_1 HD_1 HB1
  have PF_2 := Blk.new (W.alloc (.cells #[.slice Da0 DL0.length Dc0, .slice Da1 DL1.length Dc1, .slice Da2 DL2.length Dc2, .int .i64 Dx3] 26)) 28 #[.int .i64 Fx0, .int .i64 Fx1]
  have PFh_2 := Lib.hid PF_2
  clear PF_2 hbA
  have hq := PFh_2.out
  simp only [World.size_alloc] at hq
  clear PFh_2
  have PFh_2 := Lib.hid hq
  clear hq
  by_cases hsz : R_Config.sz (DL0, DL1, DL2, Dx3) ≤ 1048576
  rotate_left
  · skip
    go_enter Try.func3, Try.ntmps3
    have qPD_0 := PD_2.out.at_ 0 rfl
    have qPD_1 := PD_2.out.at_ 1 rfl
    have qPD_2 := PD_2.out.at_ 2 rfl
    have qPD_3 := PD_2.out.at_ 3 rfl
    have qPF_0 := PFh_2.out.at_ 0 rfl
    have qPF_1 := PFh_2.out.at_ 1 rfl
    go_wp2_with fail
    refine (gsz_Config (by omega) (by omega) HD_2.out).mono ?_
    intro e w3 h
    obtain ⟨rfl, hb⟩ := szC_elim h
    rw [szR_no (by omega)]
    clear qPD_0 qPD_1 qPD_2 qPD_3 qPF_0 qPF_1
    have PD_3 := Lib.hid (PD_2.out.call hb)
    have PF_3 := Lib.hid (PFh_2.out.call hb)
    have HD_3 := Lib.hid (gmv R_Config_ok HD_2.out hb)
    have HB3 := Lib.hid (HB2.out.trans ((hb).mono HB2.out.size))
    have HZ3 := Lib.hid ((hb).size)
    clear PD_2 PFh_2 HD_2 HB2
    clear h hb
    go_wp2
    go_ret
    exact ⟨rfl, HB3.out⟩
  have HSZD := Lib.hid hsz
  have HSAD := Lib.hid (cvs_Config hsz)
  obtain ⟨m, hm⟩ : ∃ m : Nat, R_Config.sz (DL0, DL1, DL2, Dx3) = m := ⟨_, rfl⟩
  have HM := Lib.hid hm
  rw [hm] at hsz
  clear hm
  have hlt1 : decide ((1048576 : Int) - (m : Int) < 0) = false := decide_eq_false (by omega)
  obtain ⟨dR, hD⟩ : ∃ d, clearG (DL0, DL1, DL2, Dx3) Fx0 Fx1 = d := ⟨_, rfl⟩
  have HDD := Lib.hid hD
  have HSM := Lib.hid (clear_small HSZD.out hD)
  clear hD
  go_enter Try.func3, Try.ntmps3
  have qPD_0 := PD_2.out.at_ 0 rfl
  have qPD_1 := PD_2.out.at_ 1 rfl
  have qPD_2 := PD_2.out.at_ 2 rfl
  have qPD_3 := PD_2.out.at_ 3 rfl
  have qPF_0 := PFh_2.out.at_ 0 rfl
  have qPF_1 := PFh_2.out.at_ 1 rfl
  go_wp2_with fail
  refine (gsz_Config (by omega) (by omega) HD_2.out).mono ?_
  intro e w3 h
  obtain ⟨rfl, hb⟩ := szC_elim h
  rw [HM.out, szR_yes (by omega)]
  clear qPD_0 qPD_1 qPD_2 qPD_3 qPF_0 qPF_1
  have PD_3 := Lib.hid (PD_2.out.call hb)
  have PF_3 := Lib.hid (PFh_2.out.call hb)
  have HD_3 := Lib.hid (gmv R_Config_ok HD_2.out hb)
  have HB3 := Lib.hid (HB2.out.trans ((hb).mono HB2.out.size))
  have HZ3 := Lib.hid ((hb).size)
  clear PD_2 PFh_2 HD_2 HB2
  clear hsz
  clear h hb
  have HPL := Lib.hid (PF_3.out.lt)
  go_wp2_with fail
  refine wp_region_held_drew (S := (fun V => Below (w3).heap.size (w3) V)) (by kernel_rfl) ((Below.refl _ _).drew) (fun hHeld => ?_)
  refine tk 0 hHeld ?_ (hy := fun w hSw => by (try dsimp only at hSw); have k0 := (hSw.cell (p := ⟨W.heap.size, 0, none⟩) PD_3.out.lt).trans (PD_3.out.at_ 0 rfl); have k1 := (hSw.cell (p := ⟨W.heap.size, 1, none⟩) PD_3.out.lt).trans (PD_3.out.at_ 1 rfl); have k2 := (hSw.cell (p := ⟨W.heap.size, 2, none⟩) PD_3.out.lt).trans (PD_3.out.at_ 2 rfl); have k3 := (hSw.cell (p := ⟨W.heap.size, 3, none⟩) PD_3.out.lt).trans (PD_3.out.at_ 3 rfl); clear hSw; go_simp; try with_reducible rfl)
  refine tk 2 hHeld ?_ (hy := fun w hSw => by (try dsimp only at hSw); have k0 := (hSw.cell (p := ⟨(W.heap.size + 1), 0, none⟩) PF_3.out.lt).trans (PF_3.out.at_ 0 rfl); have k1 := (hSw.cell (p := ⟨(W.heap.size + 1), 1, none⟩) PF_3.out.lt).trans (PF_3.out.at_ 1 rfl); clear hSw; go_simp; try with_reducible rfl)
  refine rd1 1 (fun K hK => ?_)
  go_simp
  go_at_call 11
  refine (gto_Config HSZD.out (gmv R_Config_ok HD_3.out hHeld)).mono ?_
  intro e w301 h
  obtain ⟨us, rfl, hu, hb⟩ := newV_elim h
  obtain ⟨aD0301, cD0301, aD1301, cD1301, aD2301, cD2301, rfl, hu⟩ := owc_Config hu
  have ND := Lib.hid (owG_new hu)
  clear h hu
  refine hK.out _ _ (hHeld.trans (hb.mono hHeld.size)) (fun hHeld => ?_)
  clear hK K hb
  refine rd1 3 (fun K hK => ?_)
  go_simp
  go_at_call 12
  refine (to_Label (by simp only [R_Label, Pr, I, atom] <;> omega)).mono ?_
  intro e w302 h
  obtain ⟨us, rfl, hu, hb⟩ := newV_elim h
  obtain rfl := ow0_Label hu
  have ND := Lib.hid (ND.out.mv R_Config_ok hb)
  clear h hu
  refine hK.out _ _ (hHeld.trans (hb.mono hHeld.size)) (fun hHeld => ?_)
  clear hK K hb
  refine rd1 4 (fun K hK => ?_)
  go_simp
  go_at_call 10
  refine (gclear_spec (ND.out.rd R_Config_ok)).mono ?_
  intro e w303 h
  rw [HDD.out] at h
  obtain ⟨raw, rcw, rfl, hu, hb⟩ := newS_elim2 h
  have Yw := Lib.hid (owG_new hu)
  have HSw := Lib.hid (fun k (hk : Rg w302.heap.size w303.heap.size k) => (⟨Nat.le_trans hHeld.size hk.1, hk.2⟩ : w3.heap.size ≤ k ∧ k < w303.heap.size))
  clear h hu
  refine hK.out _ _ (hHeld.trans (hb.mono hHeld.size)) (fun hHeld => ?_)
  clear hK K hb
  refine tk 5 hHeld ?_
  refine rd0 ?_
  have HF := Lib.hid hHeld
  clear hHeld
  have hF := HF.out
  have PD_4 := Lib.hid (PD_3.out.call hF)
  have PF_4 := Lib.hid (PF_3.out.call hF)
  have HD_4 := Lib.hid (gmv R_Config_ok HD_3.out hF)
  have HB4 := Lib.hid (HB3.out.trans ((hF).mono HB3.out.size))
  have HZ4 := Lib.hid ((hF).size)
  clear PD_3 PF_3 HD_3 HB3
  clear HF hF
  clear ND
  have qPD_0 := PD_4.out.at_ 0 rfl
  have qPD_1 := PD_4.out.at_ 1 rfl
  have qPD_2 := PD_4.out.at_ 2 rfl
  have qPD_3 := PD_4.out.at_ 3 rfl
  go_wp2_with fail
  refine (gto_Config HSZD.out HD_4.out).mono ?_
  intro e w5 h
  obtain ⟨us, rfl, hu, hb⟩ := newV_elim h
  obtain ⟨aD05, cD05, aD15, cD15, aD25, cD25, rfl, hu⟩ := owc_Config hu
  clear qPD_0 qPD_1 qPD_2 qPD_3
  have PD_5 := Lib.hid (PD_4.out.call hb)
  have PF_5 := Lib.hid (PF_4.out.call hb)
  have HD_5 := Lib.hid (gmv R_Config_ok HD_4.out hb)
  have Yw_5 := Lib.hid (Yw.out.mv (Sl_ok I_ok) hb)
  have HB5 := Lib.hid (HB4.out.trans ((hb).mono HB4.out.size))
  have HZ5 := Lib.hid ((hb).size)
  clear PD_4 PF_4 HD_4 Yw HB4
  have X_5 := Lib.hid (owG_new hu)
  have HSX := Lib.hid (fun k (hk : Rg w303.heap.size w5.heap.size k) => hk)
  clear hu
  clear h hb
  have hbA : Below (w5).heap.size (w5) (w5.alloc (.cells #[.slice aD05 DL0.length cD05, .slice aD15 DL1.length cD15, .slice aD25 DL2.length cD25, .int .i64 Dx3] 36)) := (Below.refl _ _).alloc (Nat.le_refl _) _
  have PD_6 := Lib.hid (PD_5.out.call hbA)
  have PF_6 := Lib.hid (PF_5.out.call hbA)
  have HD_6 := Lib.hid (gmv R_Config_ok HD_5.out hbA)
  have Yw_6 := Lib.hid (Yw_5.out.mv (Sl_ok I_ok) hbA)
  have X_6 := Lib.hid (X_5.out.mv R_Config_ok hbA)
  have HB6 := Lib.hid (HB5.out.trans ((hbA).mono HB5.out.size))
  have HZ6 := Lib.hid ((hbA).size)
  clear PD_5 PF_5 HD_5 Yw_5 X_5 HB5
  have BX_6 := Blk.new (w5) 36 #[.slice aD05 DL0.length cD05, .slice aD15 DL1.length cD15, .slice aD25 DL2.length cD25, .int .i64 Dx3]
  have BXh_6 := Lib.hid BX_6
  clear BX_6 hbA
  have HZ7 := Lib.hid ((show (w5.alloc (.cells #[.slice aD05 DL0.length cD05, .slice aD15 DL1.length cD15, .slice aD25 DL2.length cD25, .int .i64 Dx3] 36)).heap.size = w5.heap.size + 1 by simp))
  obtain ⟨wz6, hwz6⟩ : ∃ w, w = w5.alloc (.cells #[.slice aD05 DL0.length cD05, .slice aD15 DL1.length cD15, .slice aD25 DL2.length cD25, .int .i64 Dx3] 36) := ⟨_, rfl⟩
  rw [← hwz6] at PD_6 PF_6 BXh_6 HD_6 Yw_6 X_6 HB6 HZ6 HZ7
  go_wp2_with fail
  rw [← hwz6]
  clear hwz6
  refine wp_region_held_drew (S := (fun V => Below (wz6).heap.size (wz6) V)) (by kernel_rfl) ((Below.refl _ _).drew) (fun hHeld => ?_)
  refine tk 0 hHeld ?_ (hy := fun w hSw => by (try dsimp only at hSw); have k0 := (hSw.cell (p := ⟨w5.heap.size, 0, none⟩) BXh_6.out.lt).trans (BXh_6.out.at_ 0 rfl); have k1 := (hSw.cell (p := ⟨w5.heap.size, 1, none⟩) BXh_6.out.lt).trans (BXh_6.out.at_ 1 rfl); have k2 := (hSw.cell (p := ⟨w5.heap.size, 2, none⟩) BXh_6.out.lt).trans (BXh_6.out.at_ 2 rfl); have k3 := (hSw.cell (p := ⟨w5.heap.size, 3, none⟩) BXh_6.out.lt).trans (BXh_6.out.at_ 3 rfl); clear hSw; go_simp; try with_reducible rfl)
  refine tk 1 hHeld ?_ (hy := fun w hSw => by (try dsimp only at hSw); have k0 := (hSw.cell (p := ⟨(W.heap.size + 1), 0, none⟩) PF_6.out.lt).trans (PF_6.out.at_ 0 rfl); have k1 := (hSw.cell (p := ⟨(W.heap.size + 1), 1, none⟩) PF_6.out.lt).trans (PF_6.out.at_ 1 rfl); clear hSw; go_simp; try with_reducible rfl)
  refine rd1 2 (fun K hK => ?_)
  go_simp
  go_at_call 12
  refine (to_Label (by simp only [R_Label, Pr, I, atom] <;> omega)).mono ?_
  intro e w601 h
  obtain ⟨us, rfl, hu, hb⟩ := newV_elim h
  obtain rfl := ow0_Label hu
  clear h hu
  refine hK.out _ _ (hHeld.trans (hb.mono hHeld.size)) (fun hHeld => ?_)
  clear hK K hb
  refine rd1 3 (fun K hK => ?_)
  go_simp
  go_at_call 13
  refine (gclear_impl (gmv R_Config_ok (X_6.out.rd R_Config_ok) hHeld)).mono ?_
  intro e w602 h
  rw [HDD.out] at h
  obtain ⟨rag, rcg, rfl, hu, hb⟩ := newS_elim2 h
  have Yg := Lib.hid (owG_new hu)
  have HSg := Lib.hid (fun k (hk : Rg w601.heap.size w602.heap.size k) => (⟨Nat.le_trans hHeld.size hk.1, hk.2⟩ : wz6.heap.size ≤ k ∧ k < w602.heap.size))
  clear h hu
  refine hK.out _ _ (hHeld.trans (hb.mono hHeld.size)) (fun hHeld => ?_)
  clear hK K hb
  refine tk 4 hHeld ?_
  refine rd0 ?_
  have HF := Lib.hid hHeld
  clear hHeld
  have hF := HF.out
  have PD_7 := Lib.hid (PD_6.out.call hF)
  have PF_7 := Lib.hid (PF_6.out.call hF)
  have BX_7 := Lib.hid (BXh_6.out.call hF)
  have HD_7 := Lib.hid (gmv R_Config_ok HD_6.out hF)
  have Yw_7 := Lib.hid (Yw_6.out.mv (Sl_ok I_ok) hF)
  have X_7 := Lib.hid (X_6.out.mv R_Config_ok hF)
  have HB7 := Lib.hid (HB6.out.trans ((hF).mono HB6.out.size))
  have HZ8 := Lib.hid ((hF).size)
  clear PD_6 PF_6 BXh_6 HD_6 Yw_6 X_6 HB6
  clear HF hF
  go_wp2_with fail
  refine (geq_Int64S (Yg.out.rd (Sl_ok I_ok)) (Yw_7.out.rd (Sl_ok I_ok))).mono ?_
  intro e w8 h
  obtain ⟨rfl, hb⟩ := isB_elim h
  have PD_8 := Lib.hid (PD_7.out.call hb)
  have PF_8 := Lib.hid (PF_7.out.call hb)
  have BX_8 := Lib.hid (BX_7.out.call hb)
  have HD_8 := Lib.hid (gmv R_Config_ok HD_7.out hb)
  have Yw_8 := Lib.hid (Yw_7.out.mv (Sl_ok I_ok) hb)
  have X_8 := Lib.hid (X_7.out.mv R_Config_ok hb)
  have Yg_8 := Lib.hid (Yg.out.mv (Sl_ok I_ok) hb)
  have HB8 := Lib.hid (HB7.out.trans ((hb).mono HB7.out.size))
  have HZ9 := Lib.hid ((hb).size)
  clear PD_7 PF_7 BX_7 HD_7 Yw_7 X_7 Yg HB7
  clear h hb
  go_wp2_with fail
  refine wp_region_held_drew (S := (fun V => Below (w8).heap.size (w8) V)) (by kernel_rfl) ((Below.refl _ _).drew) (fun hHeld => ?_)
  refine tk 0 hHeld ?_ (hy := fun w hSw => by (try dsimp only at hSw); have k0 := (hSw.cell (p := ⟨w5.heap.size, 0, none⟩) BX_8.out.lt).trans (BX_8.out.at_ 0 rfl); have k1 := (hSw.cell (p := ⟨w5.heap.size, 1, none⟩) BX_8.out.lt).trans (BX_8.out.at_ 1 rfl); have k2 := (hSw.cell (p := ⟨w5.heap.size, 2, none⟩) BX_8.out.lt).trans (BX_8.out.at_ 2 rfl); have k3 := (hSw.cell (p := ⟨w5.heap.size, 3, none⟩) BX_8.out.lt).trans (BX_8.out.at_ 3 rfl); clear hSw; go_simp; try with_reducible rfl)
  refine tk 1 hHeld ?_ (hy := fun w hSw => by (try dsimp only at hSw); have k0 := (hSw.cell (p := ⟨W.heap.size, 0, none⟩) PD_8.out.lt).trans (PD_8.out.at_ 0 rfl); have k1 := (hSw.cell (p := ⟨W.heap.size, 1, none⟩) PD_8.out.lt).trans (PD_8.out.at_ 1 rfl); have k2 := (hSw.cell (p := ⟨W.heap.size, 2, none⟩) PD_8.out.lt).trans (PD_8.out.at_ 2 rfl); have k3 := (hSw.cell (p := ⟨W.heap.size, 3, none⟩) PD_8.out.lt).trans (PD_8.out.at_ 3 rfl); clear hSw; go_simp; try with_reducible rfl)
  refine rd1 2 (fun K hK => ?_)
  go_simp
  go_at_call 11
  refine (gto_Config HSZD.out (gmv R_Config_ok HD_8.out hHeld)).mono ?_
  intro e w801 h
  obtain ⟨us, rfl, hu, hb⟩ := newV_elim h
  obtain ⟨aD0801, cD0801, aD1801, cD1801, aD2801, cD2801, rfl, hu⟩ := owc_Config hu
  have NZ := Lib.hid (owG_new hu)
  clear h hu
  refine hK.out _ _ (hHeld.trans (hb.mono hHeld.size)) (fun hHeld => ?_)
  clear hK K hb
  refine rd1 3 (fun K hK => ?_)
  go_simp
  go_at_call 15
  refine (geq_Config (gmv R_Config_ok (X_8.out.rd R_Config_ok) hHeld) (NZ.out.rd R_Config_ok)).mono ?_
  intro e w802 h
  obtain ⟨rfl, hb⟩ := isB_elim h
  clear h
  refine hK.out _ _ (hHeld.trans (hb.mono hHeld.size)) (fun hHeld => ?_)
  clear hK K hb
  refine tk 4 hHeld ?_
  refine rd0 ?_
  have HF := Lib.hid hHeld
  clear hHeld
  have hF := HF.out
  have PD_9 := Lib.hid (PD_8.out.call hF)
  have PF_9 := Lib.hid (PF_8.out.call hF)
  have BX_9 := Lib.hid (BX_8.out.call hF)
  have HD_9 := Lib.hid (gmv R_Config_ok HD_8.out hF)
  have Yw_9 := Lib.hid (Yw_8.out.mv (Sl_ok I_ok) hF)
  have X_9 := Lib.hid (X_8.out.mv R_Config_ok hF)
  have Yg_9 := Lib.hid (Yg_8.out.mv (Sl_ok I_ok) hF)
  have HB9 := Lib.hid (HB8.out.trans ((hF).mono HB8.out.size))
  have HZ10 := Lib.hid ((hF).size)
  clear PD_8 PF_8 BX_8 HD_8 Yw_8 X_8 Yg_8 HB8
  clear HF hF NZ
  have qBX_0 := BX_9.out.at_ 0 rfl
  have qBX_1 := BX_9.out.at_ 1 rfl
  have qBX_2 := BX_9.out.at_ 2 rfl
  have qBX_3 := BX_9.out.at_ 3 rfl
  go_wp2_with fail
  refine (gmark_Config (by omega) (by have h1 := HSAD.out; omega) X_9.out.2 X_9.out.1).mono ?_
  intro e wm h
  obtain ⟨dM, y1, rfl, hmv, hzz, ho, hoff⟩ := markG_elim h
  clear qBX_0 qBX_1 qBX_2 qBX_3
  have HB10 := Lib.hid (HB9.out.trans (hoff.below HB9.out.size (fun k hk => by have zHZ3 := HZ3.out; have zHZ4 := HZ4.out; have zHZ5 := HZ5.out; have zHZ6 := HZ6.out; have zHZ7 := HZ7.out; have zHZ8 := HZ8.out; have zHZ9 := HZ9.out; have zHZ10 := HZ10.out; have yHPL := HPL.out; have rX := HSX.out _ hk; try unfold Rg at rX; omega)))
  have PD_10 := Lib.hid (PD_9.out.off hoff PD_9.out.lt (fun hk => by have zHZ3 := HZ3.out; have zHZ4 := HZ4.out; have zHZ5 := HZ5.out; have zHZ6 := HZ6.out; have zHZ7 := HZ7.out; have zHZ8 := HZ8.out; have zHZ9 := HZ9.out; have zHZ10 := HZ10.out; have yHPL := HPL.out; have rX := HSX.out _ hk; try unfold Rg at rX; omega))
  have PF_10 := Lib.hid (PF_9.out.off hoff PF_9.out.lt (fun hk => by have zHZ3 := HZ3.out; have zHZ4 := HZ4.out; have zHZ5 := HZ5.out; have zHZ6 := HZ6.out; have zHZ7 := HZ7.out; have zHZ8 := HZ8.out; have zHZ9 := HZ9.out; have zHZ10 := HZ10.out; have yHPL := HPL.out; have rX := HSX.out _ hk; try unfold Rg at rX; omega))
  have BX_10 := Lib.hid (BX_9.out.off hoff BX_9.out.lt (fun hk => by have zHZ3 := HZ3.out; have zHZ4 := HZ4.out; have zHZ5 := HZ5.out; have zHZ6 := HZ6.out; have zHZ7 := HZ7.out; have zHZ8 := HZ8.out; have zHZ9 := HZ9.out; have zHZ10 := HZ10.out; have yHPL := HPL.out; have rX := HSX.out _ hk; try unfold Rg at rX; omega))
  have HD_10 := Lib.hid (gmv R_Config_ok HD0.out HB10.out)
  have Yw_10 := Lib.hid (Yw_9.out.off (Sl_ok I_ok) hoff (fun k hk hk2 => by have zHZ3 := HZ3.out; have zHZ4 := HZ4.out; have zHZ5 := HZ5.out; have zHZ6 := HZ6.out; have zHZ7 := HZ7.out; have zHZ8 := HZ8.out; have zHZ9 := HZ9.out; have zHZ10 := HZ10.out; have yHPL := HPL.out; have rX := HSX.out k hk2; try unfold Rg at rX; have rw := HSw.out k hk; try unfold Rg at rw; omega))
  have Yg_10 := Lib.hid (Yg_9.out.off (Sl_ok I_ok) hoff (fun k hk hk2 => by have zHZ3 := HZ3.out; have zHZ4 := HZ4.out; have zHZ5 := HZ5.out; have zHZ6 := HZ6.out; have zHZ7 := HZ7.out; have zHZ8 := HZ8.out; have zHZ9 := HZ9.out; have zHZ10 := HZ10.out; have yHPL := HPL.out; have rX := HSX.out k hk2; try unfold Rg at rX; have rg := HSg.out k hk; try unfold Rg at rg; omega))
  have hkn : decide (y1 < 0) = false := decide_eq_false (by omega)
  have HZ11 := Lib.hid (hoff.size)
  clear h hmv hzz ho hoff
  go_wp2_with fail
  refine (geq_Int64S (Yg_10.out.rd (Sl_ok I_ok)) (Yw_10.out.rd (Sl_ok I_ok))).mono ?_
  intro e w11 h
  obtain ⟨rfl, hb⟩ := isB_elim h
  have PD_11 := Lib.hid (PD_10.out.call hb)
  have PF_11 := Lib.hid (PF_10.out.call hb)
  have BX_11 := Lib.hid (BX_10.out.call hb)
  have HD_11 := Lib.hid (gmv R_Config_ok HD_10.out hb)
  have Yw_11 := Lib.hid (Yw_10.out.mv (Sl_ok I_ok) hb)
  have Yg_11 := Lib.hid (Yg_10.out.mv (Sl_ok I_ok) hb)
  have HB11 := Lib.hid (HB10.out.trans ((hb).mono HB10.out.size))
  have HZ12 := Lib.hid ((hb).size)
  clear PD_10 PF_10 BX_10 HB10
  clear h hb
  clear hkn
  go_wp2_with fail
  refine (gmark_Int64S (by omega) (by have h1 := HSM.out; omega) Yg_11.out.2 Yg_11.out.1).mono ?_
  intro e wn h
  obtain ⟨dN, zN, rfl, hmv, hzz, ho, hoff⟩ := markG_elim h
  have HB12 := Lib.hid (HB11.out.trans (hoff.below HB11.out.size (fun k hk => by have zHZ3 := HZ3.out; have zHZ4 := HZ4.out; have zHZ5 := HZ5.out; have zHZ6 := HZ6.out; have zHZ7 := HZ7.out; have zHZ8 := HZ8.out; have zHZ9 := HZ9.out; have zHZ10 := HZ10.out; have zHZ11 := HZ11.out; have zHZ12 := HZ12.out; have yHPL := HPL.out; have rg := HSg.out _ hk; try unfold Rg at rg; omega)))
  have PD_12 := Lib.hid (PD_11.out.off hoff PD_11.out.lt (fun hk => by have zHZ3 := HZ3.out; have zHZ4 := HZ4.out; have zHZ5 := HZ5.out; have zHZ6 := HZ6.out; have zHZ7 := HZ7.out; have zHZ8 := HZ8.out; have zHZ9 := HZ9.out; have zHZ10 := HZ10.out; have zHZ11 := HZ11.out; have zHZ12 := HZ12.out; have yHPL := HPL.out; have rg := HSg.out _ hk; try unfold Rg at rg; omega))
  have PF_12 := Lib.hid (PF_11.out.off hoff PF_11.out.lt (fun hk => by have zHZ3 := HZ3.out; have zHZ4 := HZ4.out; have zHZ5 := HZ5.out; have zHZ6 := HZ6.out; have zHZ7 := HZ7.out; have zHZ8 := HZ8.out; have zHZ9 := HZ9.out; have zHZ10 := HZ10.out; have zHZ11 := HZ11.out; have zHZ12 := HZ12.out; have yHPL := HPL.out; have rg := HSg.out _ hk; try unfold Rg at rg; omega))
  have BX_12 := Lib.hid (BX_11.out.off hoff BX_11.out.lt (fun hk => by have zHZ3 := HZ3.out; have zHZ4 := HZ4.out; have zHZ5 := HZ5.out; have zHZ6 := HZ6.out; have zHZ7 := HZ7.out; have zHZ8 := HZ8.out; have zHZ9 := HZ9.out; have zHZ10 := HZ10.out; have zHZ11 := HZ11.out; have zHZ12 := HZ12.out; have yHPL := HPL.out; have rg := HSg.out _ hk; try unfold Rg at rg; omega))
  have HD_12 := Lib.hid (gmv R_Config_ok HD0.out HB12.out)
  have Yw_12 := Lib.hid (Yw_11.out.off (Sl_ok I_ok) hoff (fun k hk hk2 => by have zHZ3 := HZ3.out; have zHZ4 := HZ4.out; have zHZ5 := HZ5.out; have zHZ6 := HZ6.out; have zHZ7 := HZ7.out; have zHZ8 := HZ8.out; have zHZ9 := HZ9.out; have zHZ10 := HZ10.out; have zHZ11 := HZ11.out; have zHZ12 := HZ12.out; have yHPL := HPL.out; have rg := HSg.out k hk2; try unfold Rg at rg; have rw := HSw.out k hk; try unfold Rg at rw; omega))
  have Yg_12 := Lib.hid (show OwG (Sl I) wn _ dN _ from ⟨ho, fun k hk => Nat.lt_of_lt_of_le (Yg_11.out.2 k hk) hoff.size⟩)
  have HMV := Lib.hid hmv
  have hzn : decide (zN < 0) = false := decide_eq_false (by omega)
  have hze : (zN != zN) = false := by simp
  have hzb : zN ≤ 4611686018427387904 := by have := HSM.out; omega
  have HZ13 := Lib.hid (hoff.size)
  clear h hmv hzz ho hoff
  go_wp2_with fail
  refine (gheld_Int64S (by omega) hzb HMV.out (Yg_12.out.rd (Sl_ok I_ok))).mono ?_
  intro e w13 h
  obtain ⟨rfl, hb⟩ := heldC_elim h
  have PD_13 := Lib.hid (PD_12.out.call hb)
  have PF_13 := Lib.hid (PF_12.out.call hb)
  have BX_13 := Lib.hid (BX_12.out.call hb)
  have HD_13 := Lib.hid (gmv R_Config_ok HD_12.out hb)
  have Yw_13 := Lib.hid (Yw_12.out.mv (Sl_ok I_ok) hb)
  have Yg_13 := Lib.hid (Yg_12.out.mv (Sl_ok I_ok) hb)
  have HB13 := Lib.hid (HB12.out.trans ((hb).mono HB12.out.size))
  have HZ14 := Lib.hid ((hb).size)
  clear PD_12 PF_12 BX_12 HD_12 Yw_12 Yg_12 HB12
  clear h hb
  go_wp2_with fail
  refine wp_region_held_drew (S := (fun V => Below (w13).heap.size (w13) V)) (by kernel_rfl) ((Below.refl _ _).drew) (fun hHeld => ?_)
  refine tk 0 hHeld ?_ (hy := fun w hSw => by (try dsimp only at hSw); have k0 := (hSw.cell (p := ⟨W.heap.size, 0, none⟩) PD_13.out.lt).trans (PD_13.out.at_ 0 rfl); have k1 := (hSw.cell (p := ⟨W.heap.size, 1, none⟩) PD_13.out.lt).trans (PD_13.out.at_ 1 rfl); have k2 := (hSw.cell (p := ⟨W.heap.size, 2, none⟩) PD_13.out.lt).trans (PD_13.out.at_ 2 rfl); have k3 := (hSw.cell (p := ⟨W.heap.size, 3, none⟩) PD_13.out.lt).trans (PD_13.out.at_ 3 rfl); clear hSw; go_simp; try with_reducible rfl)
  refine tk 2 hHeld ?_ (hy := fun w hSw => by (try dsimp only at hSw); have k0 := (hSw.cell (p := ⟨(W.heap.size + 1), 0, none⟩) PF_13.out.lt).trans (PF_13.out.at_ 0 rfl); have k1 := (hSw.cell (p := ⟨(W.heap.size + 1), 1, none⟩) PF_13.out.lt).trans (PF_13.out.at_ 1 rfl); clear hSw; go_simp; try with_reducible rfl)
  refine rd1 1 (fun K hK => ?_)
  go_simp
  go_at_call 11
  refine (gto_Config HSZD.out (gmv R_Config_ok HD_13.out hHeld)).mono ?_
  intro e w1301 h
  obtain ⟨us, rfl, hu, hb⟩ := newV_elim h
  obtain ⟨aD01301, cD01301, aD11301, cD11301, aD21301, cD21301, rfl, hu⟩ := owc_Config hu
  have ND := Lib.hid (owG_new hu)
  clear h hu
  refine hK.out _ _ (hHeld.trans (hb.mono hHeld.size)) (fun hHeld => ?_)
  clear hK K hb
  refine rd1 3 (fun K hK => ?_)
  go_simp
  go_at_call 12
  refine (to_Label (by simp only [R_Label, Pr, I, atom] <;> omega)).mono ?_
  intro e w1302 h
  obtain ⟨us, rfl, hu, hb⟩ := newV_elim h
  obtain rfl := ow0_Label hu
  have ND := Lib.hid (ND.out.mv R_Config_ok hb)
  clear h hu
  refine hK.out _ _ (hHeld.trans (hb.mono hHeld.size)) (fun hHeld => ?_)
  clear hK K hb
  refine rd1 4 (fun K hK => ?_)
  go_simp
  go_at_call 13
  refine (gclear_impl (ND.out.rd R_Config_ok)).mono ?_
  intro e w1303 h
  rw [HDD.out] at h
  obtain ⟨rah, rch, rfl, hu, hb⟩ := newS_elim2 h
  have Yh := Lib.hid (owG_new hu)
  have HSh := Lib.hid (fun k (hk : Rg w1302.heap.size w1303.heap.size k) => (⟨Nat.le_trans hHeld.size hk.1, hk.2⟩ : w13.heap.size ≤ k ∧ k < w1303.heap.size))
  clear h hu
  refine hK.out _ _ (hHeld.trans (hb.mono hHeld.size)) (fun hHeld => ?_)
  clear hK K hb
  refine tk 5 hHeld ?_
  refine rd0 ?_
  have HF := Lib.hid hHeld
  clear hHeld
  have hF := HF.out
  have PD_14 := Lib.hid (PD_13.out.call hF)
  have PF_14 := Lib.hid (PF_13.out.call hF)
  have BX_14 := Lib.hid (BX_13.out.call hF)
  have HD_14 := Lib.hid (gmv R_Config_ok HD_13.out hF)
  have Yw_14 := Lib.hid (Yw_13.out.mv (Sl_ok I_ok) hF)
  have Yg_14 := Lib.hid (Yg_13.out.mv (Sl_ok I_ok) hF)
  have HB14 := Lib.hid (HB13.out.trans ((hF).mono HB13.out.size))
  have HZ15 := Lib.hid ((hF).size)
  clear PD_13 PF_13 BX_13 HD_13 Yw_13 Yg_13 HB13
  clear HF hF
  clear ND
  go_wp2_with fail
  refine (geq_Int64S (Yh.out.rd (Sl_ok I_ok)) (Yw_14.out.rd (Sl_ok I_ok))).mono ?_
  intro e w15 h
  obtain ⟨rfl, hb⟩ := isB_elim h
  have PD_15 := Lib.hid (PD_14.out.call hb)
  have PF_15 := Lib.hid (PF_14.out.call hb)
  have BX_15 := Lib.hid (BX_14.out.call hb)
  have HD_15 := Lib.hid (gmv R_Config_ok HD_14.out hb)
  have Yw_15 := Lib.hid (Yw_14.out.mv (Sl_ok I_ok) hb)
  have Yg_15 := Lib.hid (Yg_14.out.mv (Sl_ok I_ok) hb)
  have Yh_15 := Lib.hid (Yh.out.mv (Sl_ok I_ok) hb)
  have HB15 := Lib.hid (HB14.out.trans ((hb).mono HB14.out.size))
  have HZ16 := Lib.hid ((hb).size)
  clear PD_14 PF_14 BX_14 HD_14 Yw_14 Yg_14 Yh HB14
  clear h hb
  go_wp2_with fail
  refine (gheld_Int64S (by omega) hzb HMV.out (Yg_15.out.rd (Sl_ok I_ok))).mono ?_
  intro e w16 h
  obtain ⟨rfl, hb⟩ := heldC_elim h
  have PD_16 := Lib.hid (PD_15.out.call hb)
  have PF_16 := Lib.hid (PF_15.out.call hb)
  have BX_16 := Lib.hid (BX_15.out.call hb)
  have HD_16 := Lib.hid (gmv R_Config_ok HD_15.out hb)
  have Yw_16 := Lib.hid (Yw_15.out.mv (Sl_ok I_ok) hb)
  have Yg_16 := Lib.hid (Yg_15.out.mv (Sl_ok I_ok) hb)
  have Yh_16 := Lib.hid (Yh_15.out.mv (Sl_ok I_ok) hb)
  have HB16 := Lib.hid (HB15.out.trans ((hb).mono HB15.out.size))
  have HZ17 := Lib.hid ((hb).size)
  clear PD_15 PF_15 BX_15 HD_15 Yw_15 Yg_15 Yh_15 HB15
  clear h hb
  go_wp2
  go_ret
  exact ⟨rfl, HB16.out⟩
end Go.Proofs.Ytmmnkdilnlhbfaa.RepC
