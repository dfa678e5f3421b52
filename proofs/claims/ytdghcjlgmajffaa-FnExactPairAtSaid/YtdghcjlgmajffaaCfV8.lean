/- PairAt in the program: contract. -/
import Derived.Test.YtdghcjlgmajffaaCfV2
namespace Go.Proofs.Ytdghcjlgmajffaa.RepC
open Go.RowKit RowC ValC SpanC KeptC CfC
set_option linter.unusedVariables false
set_option linter.unusedSimpArgs false

set_option maxRecDepth 100000 in
set_option maxHeartbeats 3200000 in
theorem pairat_impl {C : List (List D_Label)} {P : List D_Pair} {Q : List D_Quota} {hf : Int} {ca pa qa : Option Addr} {cc pc qc : Nat} {f0 f1 t0 t1 : Int} {W : World} (hC : RdSl (Sl R_Label) W W.heap.size C ca cc) (hP : RdSl R_Pair W W.heap.size P pa pc) (hQ : RdSl R_Quota W W.heap.size Q qa qc) :
    Calls Try.prog 28 #[.agg #[.slice ca C.length cc, .slice pa P.length pc, .slice qa Q.length qc, .int .i64 hf], .agg #[.int .i64 f0, .int .i64 f1], .agg #[.int .i64 t0, .int .i64 t1]] W (IsI (pairV C P Q hf (f0, f1) (t0, t1)) W) := by
  obtain ⟨M, hM⟩ : ∃ M, pairV C P Q hf (f0, f1) (t0, t1) = M := ⟨_, rfl⟩
  have HM := Lib.hid hM
  rw [hM]
  clear hM
  have hcn : C.length ≤ 9223372036854775807 := by have h1 := hC.1; have h2 := hC.2.1; unfold maxLen at h2; omega
  have hpn : P.length ≤ 9223372036854775807 := by have h1 := hP.1; have h2 := hP.2.1; unfold maxLen at h2; omega
  have hqn : Q.length ≤ 9223372036854775807 := by have h1 := hQ.1; have h2 := hQ.2.1; unfold maxLen at h2; omega
  obtain ⟨z, hz⟩ : ∃ z, cfgB C P Q hf = z := ⟨_, rfl⟩
  have HZ := Lib.hid hz
  clear hz
  obtain ⟨w0, hw0⟩ : ∃ w, w = ((W.alloc (.cells #[.slice ca C.length cc, .slice pa P.length pc, .slice qa Q.length qc, .int .i64 hf] 33)).alloc (.cells #[.int .i64 f0, .int .i64 f1] 46)).alloc (.cells #[.int .i64 t0, .int .i64 t1] 46) := ⟨_, rfl⟩
  have hb0 : Below W.heap.size W w0 := by rw [hw0]; exact (((Below.refl _ _).alloc (Nat.le_refl _) _).alloc (by simp) _).alloc (by simp <;> omega) _
  have x0 : Blk w0 (W.heap.size) 33 #[.slice ca C.length cc, .slice pa P.length pc, .slice qa Q.length qc, .int .i64 hf] := by
    have h9 := Blk.new W 33 #[.slice ca C.length cc, .slice pa P.length pc, .slice qa Q.length qc, .int .i64 hf]
    try simp only [World.size_alloc] at h9
    rw [hw0]; exact ((h9.alloc _).alloc _)
  have X0 := Lib.hid x0
  have x1 : Blk w0 (W.heap.size + 1) 46 #[.int .i64 f0, .int .i64 f1] := by
    have h9 := Blk.new (W.alloc (.cells #[.slice ca C.length cc, .slice pa P.length pc, .slice qa Q.length qc, .int .i64 hf] 33)) 46 #[.int .i64 f0, .int .i64 f1]
    try simp only [World.size_alloc] at h9
    rw [hw0]; exact (h9.alloc _)
  have X1 := Lib.hid x1
  have x2 : Blk w0 (W.heap.size + 1 + 1) 46 #[.int .i64 t0, .int .i64 t1] := by
    have h9 := Blk.new ((W.alloc (.cells #[.slice ca C.length cc, .slice pa P.length pc, .slice qa Q.length qc, .int .i64 hf] 33)).alloc (.cells #[.int .i64 f0, .int .i64 f1] 46)) 46 #[.int .i64 t0, .int .i64 t1]
    try simp only [World.size_alloc] at h9
    rw [hw0]; exact h9
  have X2 := Lib.hid x2
  have HC := Lib.hid (rd_mv (Sl_ok R_Label_ok) hC hb0)
  have HP := Lib.hid (rd_mv R_Pair_ok hP hb0)
  have HQ := Lib.hid (rd_mv R_Quota_ok hQ hb0)
  have HB0 := Lib.hid hb0
  have hz0 := hb0.size
  clear hb0 hC hP hQ x0 x1 x2
  go_enter Try.func28, Try.ntmps28
  have p0 := X0.out.at_ 0 rfl
  have p1 := X0.out.at_ 1 rfl
  have p2 := X0.out.at_ 2 rfl
  have p3 := X0.out.at_ 3 rfl
  rw [hw0] at p0 p1 p2 p3
  go_wp2_with fail
  rw [← hw0]
  clear hw0 p0 p1 p2 p3
  have hcf := config_impl HC.out HP.out HQ.out (hf := hf)
  rw [HZ.out] at hcf
  refine hcf.mono ?_
  intro e v2 h
  obtain ⟨rfl, hb⟩ := isB_elim h
  have HB1 := Lib.hid (HB0.out.trans (hb.mono hz0))
  have Z0 := Lib.hid (X0.out.call hb)
  have Z1 := Lib.hid (X1.out.call hb)
  have Z2 := Lib.hid (X2.out.call hb)
  have HP2 := Lib.hid (rd_mv R_Pair_ok HP.out hb)
  have hz1 := HB1.out.size
  clear h hb hcf
  have p1 := Z0.out.at_ 1 rfl
  have p3 := Z1.out.at_ 0 rfl
  have p4 := Z1.out.at_ 1 rfl
  have p5 := Z2.out.at_ 0 rfl
  have p6 := Z2.out.at_ 1 rfl
  cases z with
  | false =>
    have HE := Lib.hid (show M = -1 from by rw [← HM.out]; unfold pairV; rw [HZ.out]; rfl)
    obtain rfl := HE.out
    go_wp2
    go_ret
    exact ⟨rfl, HB1.out⟩
  | true =>
  have HE := Lib.hid (show M = ixP P (f0, f1) (t0, t1) from by rw [← HM.out]; unfold pairV; rw [HZ.out]; rfl)
  go_wp2_with fail
  have hpx := pairix_impl (f0 := f0) (f1 := f1) (t0 := t0) (t1 := t1) HP2.out
  rw [← HE.out] at hpx
  refine hpx.mono ?_
  intro e w3 h
  obtain ⟨rfl, hb⟩ := isI_elim h
  have HB2 := Lib.hid (HB1.out.trans (hb.mono hz1))
  clear h hb hpx
  go_wp2
  go_ret
  exact ⟨rfl, HB2.out⟩
end Go.Proofs.Ytdghcjlgmajffaa.RepC
