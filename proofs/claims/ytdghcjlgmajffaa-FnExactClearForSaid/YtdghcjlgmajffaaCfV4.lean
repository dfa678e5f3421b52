/- ClearFor in the program: contract. -/
import Derived.Test.YtdghcjlgmajffaaCfV2
namespace Go.Proofs.Ytdghcjlgmajffaa.RepC
open Go.RowKit RowC ValC SpanC KeptC CfC
set_option linter.unusedVariables false
set_option linter.unusedSimpArgs false

set_option maxRecDepth 100000 in
set_option maxHeartbeats 3200000 in
theorem clearfor_impl {C : List (List D_Label)} {P : List D_Pair} {Q : List D_Quota} {hf : Int} {ca pa qa : Option Addr} {cc pc qc : Nat} {l s : Int} {W : World} (hC : RdSl (Sl R_Label) W W.heap.size C ca cc) (hP : RdSl R_Pair W W.heap.size P pa pc) (hQ : RdSl R_Quota W W.heap.size Q qa qc) :
    Calls Try.prog 21 #[.agg #[.slice ca C.length cc, .slice pa P.length pc, .slice qa Q.length qc, .int .i64 hf], .agg #[.int .i64 l, .int .i64 s]] W (NewS I (clearV C P Q hf (l, s)) W) := by
  obtain ⟨M, hM⟩ : ∃ M, clearV C P Q hf (l, s) = M := ⟨_, rfl⟩
  have HM := Lib.hid hM
  rw [hM]
  clear hM
  have hcn : C.length ≤ 9223372036854775807 := by have h1 := hC.1; have h2 := hC.2.1; unfold maxLen at h2; omega
  have hpn : P.length ≤ 9223372036854775807 := by have h1 := hP.1; have h2 := hP.2.1; unfold maxLen at h2; omega
  have hqn : Q.length ≤ 9223372036854775807 := by have h1 := hQ.1; have h2 := hQ.2.1; unfold maxLen at h2; omega
  obtain ⟨z, hz⟩ : ∃ z, cfgB C P Q hf = z := ⟨_, rfl⟩
  have HZ := Lib.hid hz
  clear hz
  obtain ⟨w0, hw0⟩ : ∃ w, w = (W.alloc (.cells #[.slice ca C.length cc, .slice pa P.length pc, .slice qa Q.length qc, .int .i64 hf] 33)).alloc (.cells #[.int .i64 l, .int .i64 s] 46) := ⟨_, rfl⟩
  have hb0 : Below W.heap.size W w0 := by rw [hw0]; exact ((Below.refl _ _).alloc (Nat.le_refl _) _).alloc (by simp) _
  have x0 : Blk w0 (W.heap.size) 33 #[.slice ca C.length cc, .slice pa P.length pc, .slice qa Q.length qc, .int .i64 hf] := by
    have h9 := Blk.new W 33 #[.slice ca C.length cc, .slice pa P.length pc, .slice qa Q.length qc, .int .i64 hf]
    try simp only [World.size_alloc] at h9
    rw [hw0]; exact h9.alloc _
  have X0 := Lib.hid x0
  have x1 : Blk w0 (W.heap.size + 1) 46 #[.int .i64 l, .int .i64 s] := by
    have h9 := Blk.new (W.alloc (.cells #[.slice ca C.length cc, .slice pa P.length pc, .slice qa Q.length qc, .int .i64 hf] 33)) 46 #[.int .i64 l, .int .i64 s]
    try simp only [World.size_alloc] at h9
    rw [hw0]; exact h9
  have X1 := Lib.hid x1
  have HC := Lib.hid (rd_mv (Sl_ok R_Label_ok) hC hb0)
  have HP := Lib.hid (rd_mv R_Pair_ok hP hb0)
  have HQ := Lib.hid (rd_mv R_Quota_ok hQ hb0)
  have HB0 := Lib.hid hb0
  have hz0 := hb0.size
  clear hb0 hC hP hQ x0 x1
  have hmf : ∀ (fn : Fn) (first cap : Array Value) (w : World), (Instr.makeFunc fn first cap).run Try.prog w = .ok (.func fn first cap) w := fun _ _ _ _ => rfl
  have eg : ∀ args w, (callFunc 53 args).run Try.prog w = .ok (.enter 53 args) w := enters_of Try.func53 (by kernel_rfl) rfl
  go_enter Try.func21, Try.ntmps21
  have p0 := X0.out.at_ 0 rfl
  have p1 := X0.out.at_ 1 rfl
  have p2 := X0.out.at_ 2 rfl
  have p3 := X0.out.at_ 3 rfl
  rw [hw0] at p0 p1 p2 p3
  go_wp2_with fail
  rw [← hw0]
  clear hw0 p0 p1 p2 p3
  have hcf := config_impl HC.out HP.out HQ.out (hf := hf)
  rw [HZ.out] at hcf
  refine hcf.mono ?_
  intro e v2 h
  obtain ⟨rfl, hb⟩ := isB_elim h
  have HB2 := Lib.hid (HB0.out.trans (hb.mono hz0))
  have Z0 := Lib.hid (X0.out.call hb)
  have Z1 := Lib.hid (X1.out.call hb)
  have HC2 := Lib.hid (rd_mv (Sl_ok R_Label_ok) HC.out hb)
  have hz2 := HB2.out.size
  clear h hb hcf
  have p0 := Z0.out.at_ 0 rfl
  have p4 := Z1.out.at_ 0 rfl
  have p5 := Z1.out.at_ 1 rfl
  cases z with
  | false =>
    have HE := Lib.hid (show M = [] from by rw [← HM.out]; unfold clearV; rw [HZ.out]; rfl)
    obtain rfl := HE.out
    go_wp2
    go_ret
    exact ⟨_, _, rfl, ⟨Nat.le_refl _, by unfold maxLen; omega, fun h => absurd h (Nat.lt_irrefl _)⟩, HB2.out⟩
  | true =>
  have HCL := Lib.hid (show C.length ≤ 6 from (cfgB_iff.1 HZ.out).1.2.1)
  have HE := Lib.hid (show M = nodesTo C (l, s) C.length from by rw [← HM.out]; unfold clearV; rw [HZ.out]; rfl)
  go_wp2
  go_loopw [6, 19] (fun v i wr => ∃ k : Nat, k ≤ C.length ∧ i = .int .i64 k ∧ Hid (IRow wr v2.heap.size v (nodesTo C (l, s) k)) ∧ Below v2.heap.size v2 wr) (fun _ i _ => C.length - (intOf i).toNat)
  case atStart => exact ⟨0, Nat.zero_le _, rfl, Lib.hid (FRow.none_ _ _ _ _ _), Below.refl _ _⟩
  case round =>
    obtain ⟨k, hk, rfl, HR, hB⟩ := hrel
    have HB := Lib.hid hB
    have hsz := hB.size
    obtain ⟨va, vc, rfl⟩ := HR.out.isSlice
    by_cases hlt : k < C.length
    · have hdl : decide ((k : Int) < (C.length : Int)) = true := decide_eq_true (by omega)
      obtain ⟨x, hx⟩ := el_some hlt
      have HX := Lib.hid hx
      have HCr := Lib.hid (rd_mv (Sl_ok R_Label_ok) HC2.out hB)
      clear hB hx p0 p4 p5
      go_wp2_with fail
      refine (opens_spec (m := k) (by omega) HCr.out).mono ?_
      intro e w4 h
      obtain ⟨q, rfl, hq2, hb⟩ := resB_elim h
      have HQq := Lib.hid (show q = true ↔ (l, s) ∈ x from by
        rw [hq2]
        unfold okN1
        rw [Int.toNat_natCast, HX.out]
        exact ⟨fun ⟨_, y, hy, hm⟩ => by obtain rfl := Option.some.inj hy; exact hm, fun hm => ⟨by omega, x, rfl, hm⟩⟩)
      have HB3 := Lib.hid (HB.out.trans (hb.mono hsz))
      have HR3 := Lib.hid (HR.out.call hb)
      have hz3 := HB3.out.size
      clear h hq2 hb
      rcases mem_cases q HQq.out with ⟨hq, hm⟩ | ⟨hq, hm⟩
      · have HN := Lib.hid (nodesTo_yes HX.out hm)
        clear hm
        subst hq
        obtain ⟨w5, hw5⟩ : ∃ w, w = w4.alloc (.cells #[.int .i64 (k : Int)] 2) := ⟨_, rfl⟩
        have hbB : Below w4.heap.size w4 w5 := by rw [hw5]; exact (Below.refl _ _).alloc (Nat.le_refl _) _
        have HP5 : Blk w5 w4.heap.size 2 #[.int .i64 (k : Int)] := by rw [hw5]; exact Blk.new _ _ _
        have hlen := nodesTo_len C (l, s) k
        have hz5 := hbB.size
        obtain ⟨a', c', w6, hrun, hrow, hb6⟩ := IRow.more (HR3.out.call hbB) (rd_oneI (k : Int) HP5) (show v2.heap.size ≤ w5.heap.size by omega) (by simp only [List.length_singleton]; have := HCL.out; omega)
        have HRun := Lib.hid hrun
        have HR6 := Lib.hid hrow
        have HB6 := Lib.hid ((HB3.out.trans (hbB.mono (by omega))).trans (hb6.mono (by omega)))
        rw [hw5] at HRun
        clear hrun hrow hb6 hbB HP5 hw5
        go_wp2_with (at_builtin; refine wpList_app rfl (.tmp 25) (.tmp 27) 44 rfl rfl rfl HRun.out ?_)
        go_roundw
        case rel => exact ⟨k + 1, by omega, by go_num, Lib.hid (by rw [HN.out]; simpa using HR6.out), HB6.out⟩
        case measure => simp [intOf]; omega
      · have HN := Lib.hid (nodesTo_no HX.out hm)
        clear hm
        subst hq
        go_wp2
        go_roundw
        case rel => exact ⟨k + 1, by omega, by go_num, Lib.hid (by rw [HN.out]; exact HR3.out), HB3.out⟩
        case measure => simp [intOf]; omega
    · have hdl : decide ((k : Int) < (C.length : Int)) = false := decide_eq_false (by omega)
      obtain rfl : k = C.length := by omega
      have HR3 := Lib.hid (show IRow wr v2.heap.size (.slice va (nodesTo C (l, s) C.length).length vc) M from by rw [HE.out]; exact HR.out)
      clear hB
      go_wp2
      go_ret
      exact FRow.news I_ok flat_I HR3.out hz2 (HB2.out.trans (HB.out.mono hz2))
end Go.Proofs.Ytdghcjlgmajffaa.RepC
