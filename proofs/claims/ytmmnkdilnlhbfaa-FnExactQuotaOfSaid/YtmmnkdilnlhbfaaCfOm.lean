/- The program: the nodes that are open for a label; the quota of a label: contracts (YaD2 without the yard). -/
import Derived.Test.YtmmnkdilnlhbfaaCfV2
import Derived.Test.YtmmnkdilnlhbfaaTk
namespace Go.Proofs.Ytmmnkdilnlhbfaa.RepC
open Go.RowKit RowC ValC SpanC KeptC CfC
set_option linter.unusedVariables false
set_option linter.unusedSimpArgs false

set_option maxRecDepth 100000 in
set_option maxHeartbeats 3200000 in
theorem opennodes_impl {C : List (List D_Label)} {P : List D_Pair} {Q : List D_Quota} {hf : Int} {ca pa qa : Option Addr} {cc pc qc : Nat} {l s : Int} {W : World} (h6 : C.length ≤ 6) (hC : RdSl (Sl R_Label) W W.heap.size C ca cc) :
    Calls Try.prog 47 #[.agg #[.slice ca C.length cc, .slice pa P.length pc, .slice qa Q.length qc, .int .i64 hf], .agg #[.int .i64 l, .int .i64 s]] W (NewS I (nodesOf C (l, s)) W) := by
  obtain ⟨w0, hw0⟩ : ∃ w, w = (W.alloc (.cells #[.slice ca C.length cc, .slice pa P.length pc, .slice qa Q.length qc, .int .i64 hf] 36)).alloc (.cells #[.int .i64 l, .int .i64 s] 38) := ⟨_, rfl⟩
  have hb0 : Below W.heap.size W w0 := by rw [hw0]; exact ((Below.refl _ _).alloc (Nat.le_refl _) _).alloc (by simp) _
  have x0_ : Blk w0 (W.heap.size) 36 #[.slice ca C.length cc, .slice pa P.length pc, .slice qa Q.length qc, .int .i64 hf] := by
    have h9 := Blk.new W 36 #[.slice ca C.length cc, .slice pa P.length pc, .slice qa Q.length qc, .int .i64 hf]
    try simp only [World.size_alloc] at h9
    rw [hw0]; exact (h9.alloc _)
  have X0 := Lib.hid x0_
  have x1_ : Blk w0 (W.heap.size + 1) 38 #[.int .i64 l, .int .i64 s] := by
    have h9 := Blk.new (W.alloc (.cells #[.slice ca C.length cc, .slice pa P.length pc, .slice qa Q.length qc, .int .i64 hf] 36)) 38 #[.int .i64 l, .int .i64 s]
    try simp only [World.size_alloc] at h9
    rw [hw0]; exact h9
  have X1 := Lib.hid x1_
  have HC := Lib.hid (rd_mv (Sl_ok R_Label_ok) hC hb0)
  have HB0 := Lib.hid hb0
  have hz0 := hb0.size
  clear hb0 hC x0_ x1_
  have hmf : ∀ (fn : Fn) (first cap : Array Value) (w : World), (Instr.makeFunc fn first cap).run Try.prog w = .ok (.func fn first cap) w := fun _ _ _ _ => rfl
  have eg : ∀ args w, (callFunc 88 args).run Try.prog w = .ok (.enter 88 args) w := enters_of Try.func88 (by kernel_rfl) rfl
  go_enter Try.func47, Try.ntmps47
  go_wp2_with fail
  rw [← hw0]
  clear hw0
  go_loopw [6, 16] (fun v i wr => ∃ k : Nat, k ≤ C.length ∧ i = .int .i64 k ∧ Hid (IRow wr w0.heap.size v (nodesTo C (l, s) k)) ∧ Below w0.heap.size w0 wr) (fun _ i _ => C.length - (intOf i).toNat)
  case atStart => exact ⟨0, Nat.zero_le _, rfl, Lib.hid (FRow.none_ _ _ _ _ _), Below.refl _ _⟩
  case round =>
    obtain ⟨k, hk, rfl, HR, hB⟩ := hrel
    have HB := Lib.hid hB
    have hsz := hB.size
    obtain ⟨va, vc, rfl⟩ := HR.out.isSlice
    by_cases hlt : k < C.length
    · have hdl : decide ((k : Int) < (C.length : Int)) = true := decide_eq_true (by omega)
      obtain ⟨x, hx⟩ := el_some hlt
      have HX := Lib.hid hx
      have HCr := Lib.hid (rd_mv (Sl_ok R_Label_ok) HC.out hB)
      clear hB hx
      go_wp2_with fail
      refine (opens_spec (m := k) (by omega) HCr.out).mono ?_
      intro e w4 h
      obtain ⟨q, rfl, hq2, hb⟩ := resB_elim h
      have HQq := Lib.hid (show q = true ↔ (l, s) ∈ x from by
        rw [hq2]
        unfold okN1
        rw [Int.toNat_natCast, HX.out]
        exact ⟨fun ⟨_, y, hy, hm⟩ => by obtain rfl := Option.some.inj hy; exact hm, fun hm => ⟨by omega, x, rfl, hm⟩⟩)
      have HB3 := Lib.hid (HB.out.trans (hb.mono hsz))
      have HR3 := Lib.hid (HR.out.call hb)
      have hz3 := HB3.out.size
      clear h hq2 hb
      rcases mem_cases q HQq.out with ⟨hq, hm⟩ | ⟨hq, hm⟩
      · have HN := Lib.hid (nodesTo_yes HX.out hm)
        clear hm
        subst hq
        obtain ⟨w5, hw5⟩ : ∃ w, w = w4.alloc (.cells #[.int .i64 (k : Int)] 2) := ⟨_, rfl⟩
        have hbB : Below w4.heap.size w4 w5 := by rw [hw5]; exact (Below.refl _ _).alloc (Nat.le_refl _) _
        have HP5 : Blk w5 w4.heap.size 2 #[.int .i64 (k : Int)] := by rw [hw5]; exact Blk.new _ _ _
        have hlen := nodesTo_len C (l, s) k
        have hz5 := hbB.size
        obtain ⟨a', c', w6, hrun, hrow, hb6⟩ := IRow.more (HR3.out.call hbB) (rd_oneI (k : Int) HP5) (show w0.heap.size ≤ w5.heap.size by omega) (by simp only [List.length_singleton]; omega)
        have HRun := Lib.hid hrun
        have HR6 := Lib.hid hrow
        have HB6 := Lib.hid ((HB3.out.trans (hbB.mono (by omega))).trans (hb6.mono (by omega)))
        rw [hw5] at HRun
        clear hrun hrow hb6 hbB HP5 hw5
        go_wp2_with (at_builtin; refine wpList_app rfl (.tmp 22) (.tmp 24) 30 rfl rfl rfl HRun.out ?_)
        go_roundw
        case rel => exact ⟨k + 1, by omega, by go_num, Lib.hid (by rw [HN.out]; simpa using HR6.out), HB6.out⟩
        case measure => simp [intOf]; omega
      · have HN := Lib.hid (nodesTo_no HX.out hm)
        clear hm
        subst hq
        go_wp2
        go_roundw
        case rel => exact ⟨k + 1, by omega, by go_num, Lib.hid (by rw [HN.out]; exact HR3.out), HB3.out⟩
        case measure => simp [intOf]; omega
    · have hdl : decide ((k : Int) < (C.length : Int)) = false := decide_eq_false (by omega)
      obtain rfl : k = C.length := by omega
      have HR3 := Lib.hid (show IRow wr w0.heap.size (.slice va (nodesTo C (l, s) C.length).length vc) (nodesOf C (l, s)) from HR.out)
      clear hB
      go_wp2
      go_ret
      exact FRow.news I_ok flat_I HR3.out hz0 (HB0.out.trans (HB.out.mono hz0))
set_option maxRecDepth 100000 in
set_option maxHeartbeats 3200000 in
theorem mostlive_impl {C : List (List D_Label)} {P : List D_Pair} {Q : List D_Quota} {hf : Int} {ca pa qa : Option Addr} {cc pc qc : Nat} {l s : Int} {W : World} (hQ : RdSl R_Quota W W.heap.size Q qa qc) :
    Calls Try.prog 57 #[.agg #[.slice ca C.length cc, .slice pa P.length pc, .slice qa Q.length qc, .int .i64 hf], .agg #[.int .i64 l, .int .i64 s]] W (IsI (quotaIn Q (l, s)) W) := by
  have hqn : Q.length ≤ 9223372036854775807 := by have h1 := hQ.1; have h2 := hQ.2.1; unfold maxLen at h2; omega
  obtain ⟨w0, hw0⟩ : ∃ w, w = (W.alloc (.cells #[.slice ca C.length cc, .slice pa P.length pc, .slice qa Q.length qc, .int .i64 hf] 36)).alloc (.cells #[.int .i64 l, .int .i64 s] 38) := ⟨_, rfl⟩
  have hb0 : Below W.heap.size W w0 := by rw [hw0]; exact ((Below.refl _ _).alloc (Nat.le_refl _) _).alloc (by simp) _
  have x0_ : Blk w0 (W.heap.size) 36 #[.slice ca C.length cc, .slice pa P.length pc, .slice qa Q.length qc, .int .i64 hf] := by
    have h9 := Blk.new W 36 #[.slice ca C.length cc, .slice pa P.length pc, .slice qa Q.length qc, .int .i64 hf]
    try simp only [World.size_alloc] at h9
    rw [hw0]; exact (h9.alloc _)
  have X0 := Lib.hid x0_
  have x1_ : Blk w0 (W.heap.size + 1) 38 #[.int .i64 l, .int .i64 s] := by
    have h9 := Blk.new (W.alloc (.cells #[.slice ca C.length cc, .slice pa P.length pc, .slice qa Q.length qc, .int .i64 hf] 36)) 38 #[.int .i64 l, .int .i64 s]
    try simp only [World.size_alloc] at h9
    rw [hw0]; exact h9
  have X1 := Lib.hid x1_
  have HQ := Lib.hid (rd_mv R_Quota_ok hQ hb0)
  have HB0 := Lib.hid hb0
  have hz0 := hb0.size
  clear hb0 hQ x0_ x1_
  have q2 := X0.out.at_ 2 rfl
  have r0 := X1.out.at_ 0 rfl
  have r1 := X1.out.at_ 1 rfl
  rw [hw0] at q2 r0 r1
  go_enter Try.func57, Try.ntmps57
  go_wp2_with fail
  rw [← hw0]
  clear hw0 q2 r0 r1
  go_loopw [10] (fun i wr => ∃ k : Nat, k ≤ Q.length ∧ i = .int .i64 k ∧ Hid (∀ (j : Nat) y, j < k → Q[j]? = some y → y.1 ≠ (l, s)) ∧ Below w0.heap.size w0 wr) (fun i _ => Q.length - (intOf i).toNat)
  case atStart => exact ⟨0, Nat.zero_le _, rfl, Lib.hid fun j y h => absurd h (Nat.not_lt_zero _), Below.refl _ _⟩
  case round =>
    obtain ⟨k, hk, rfl, HA, hB⟩ := hrel
    have HB := Lib.hid hB
    have hsz := hB.size
    by_cases hlt : k < Q.length
    · have hdl : decide ((k : Int) < (Q.length : Int)) = true := decide_eq_true (by omega)
      obtain ⟨⟨⟨x0, x1⟩, x2⟩, hx⟩ := el_some hlt
      have HX := Lib.hid hx
      obtain ⟨g, o, us, rfl, hg, hu, hr⟩ := (rd_mv R_Quota_ok HQ.out hB).at_ hx
      obtain rfl := rd_Quota hr
      have e0 : wr.cell? ⟨g, o + k * 3, none⟩ = some (.int .i64 x0) := by simpa [size_QuotaS, Nat.add_assoc] using hu 0 _ rfl
      have e1 : wr.cell? ⟨g, o + k * 3 + 1, none⟩ = some (.int .i64 x1) := by simpa [size_QuotaS, Nat.add_assoc] using hu 1 _ rfl
      have e2 : wr.cell? ⟨g, o + k * 3 + 2, none⟩ = some (.int .i64 x2) := by simpa [size_QuotaS, Nat.add_assoc] using hu 2 _ rfl
      have hi0 : (0 : Int) ≤ (k : Int) := Int.natCast_nonneg _
      have hi1 : (k : Int) < (Q.length : Int) := by omega
      obtain ⟨b, hb⟩ : ∃ b, decide (((x0, x1) : Int × Int) = (l, s)) = b := ⟨_, rfl⟩
      have hq := eql_lab x0 x1 l s b hb
      have HE := Lib.hid hb
      obtain ⟨w2, hw2⟩ : ∃ w, w = wr.alloc (.cells #[.int .i64 x0, .int .i64 x1, .int .i64 x2] 86) := ⟨_, rfl⟩
      have hb2 : Below wr.heap.size wr w2 := by rw [hw2]; exact (Below.refl _ _).alloc (Nat.le_refl _) _
      have HB2 := Lib.hid (HB.out.trans (hb2.mono hsz))
      have Y2 := Lib.hid (show Blk w2 wr.heap.size 86 #[.int .i64 x0, .int .i64 x1, .int .i64 x2] from by rw [hw2]; exact Blk.new _ _ _)
      have Z1 := Lib.hid ((X1.out.call hB).call hb2)
      clear hB hx hu hg hb hb2
      go_upto_region 4 with fail
      rw [← hw2]
      clear hw2 e0 e1 e2
      have y0 := Y2.out.at_ 0 rfl
      have y1 := Y2.out.at_ 1 rfl
      have y2 := Y2.out.at_ 2 rfl
      have z0 := Z1.out.at_ 0 rfl
      have z1 := Z1.out.at_ 1 rfl
      cases b with
      | true =>
        have HV := Lib.hid (show quotaIn Q (l, s) = x2 from quotaIn_hit HX.out (of_decide_eq_true HE.out) HA.out)
        go_wp2
        go_ret
        exact ⟨by rw [HV.out]; rfl, HB0.out.trans (HB2.out.mono hz0)⟩
      | false =>
        have HA2 := Lib.hid (show ∀ (j : Nat) y, j < k + 1 → Q[j]? = some y → y.1 ≠ (l, s) from fun j y hj hy => by
          by_cases e : j = k
          · subst e; rw [HX.out] at hy; cases hy; exact of_decide_eq_false HE.out
          · exact HA.out j y (by omega) hy)
        go_wp2
        go_roundw
        case rel => exact ⟨k + 1, by omega, by go_num, HA2, HB2.out⟩
        case measure => simp [intOf]; omega
    · have hdl : decide ((k : Int) < (Q.length : Int)) = false := decide_eq_false (by omega)
      obtain rfl : k = Q.length := by omega
      have HV := Lib.hid (show quotaIn Q (l, s) = 6 from quotaIn_none fun j y hy => HA.out j y (List.getElem?_eq_some_iff.1 hy).1 hy)
      clear hB
      go_wp2
      go_ret
      exact ⟨by rw [HV.out]; rfl, HB0.out.trans (HB.out.mono hz0)⟩
end Go.Proofs.Ytmmnkdilnlhbfaa.RepC
