/- Of this claim's texts the part 32: YaC1 YaC2. -/
import Derived.Test.YtelhmacfljffhabGreatPV0
import Derived.Test.YtelhmacfljffhabGreatPV1
import Derived.Test.YtelhmacfljffhabGreatPV2
import Derived.Test.YtelhmacfljffhabGreatPV3
import Derived.Test.YtelhmacfljffhabGreatPV4
import Derived.Test.YtelhmacfljffhabGreatPV5
import Derived.Test.YtelhmacfljffhabGreatPV6
import Derived.Test.YtelhmacfljffhabGreatPV7
import Derived.Test.YtelhmacfljffhabGreatPV8
import Derived.Test.YtelhmacfljffhabGreatPV9
import Derived.Test.YtelhmacfljffhabGreatPV10
import Derived.Test.YtelhmacfljffhabGreatPV11
import Derived.Test.YtelhmacfljffhabGreatPV12
import Derived.Test.YtelhmacfljffhabGreatPV13
import Derived.Test.YtelhmacfljffhabGreatPV14
import Derived.Test.YtelhmacfljffhabGreatPV15
import Derived.Test.YtelhmacfljffhabGreatPV16
import Derived.Test.YtelhmacfljffhabGreatPV17
import Derived.Test.YtelhmacfljffhabGreatPV18
import Derived.Test.YtelhmacfljffhabGreatPV19
import Derived.Test.YtelhmacfljffhabGreatPV20
import Derived.Test.YtelhmacfljffhabGreatPV21
import Derived.Test.YtelhmacfljffhabGreatPV22
section
namespace Go.Proofs.YtelhmacfljffhabGreat.RepC
open Go.RowKit RowC ValC SpanC KeptC NameC CfC
set_option linter.unusedVariables false
set_option linter.unusedSimpArgs false
set_option maxRecDepth 100000 in
set_option maxHeartbeats 1600000 in
theorem clear13_spec {C : List (List D_Label)} {P : List D_Pair} {Q : List D_Quota} {hf : Int} {ca pa qa : Option Addr} {cc pc qc : Nat} {l s : Int} {W : World} (hC : RdSl (Sl R_Label) W W.heap.size C ca cc) :
    Calls Tryz.prog 93 #[.agg #[.slice ca C.length cc, .slice pa P.length pc, .slice qa Q.length qc, .int .i64 hf], .agg #[.int .i64 l, .int .i64 s]] W (IsI ((nodesOf C (l, s)).length : Int) W) := by
  have hcn : C.length ≤ 9223372036854775807 := by have h1 := hC.1; have h2 := hC.2.1; unfold maxLen at h2; omega
  obtain ⟨w0, hw0⟩ : ∃ w, w = (W.alloc (.cells #[.slice ca C.length cc, .slice pa P.length pc, .slice qa Q.length qc, .int .i64 hf] 40)).alloc (.cells #[.int .i64 l, .int .i64 s] 47) := ⟨_, rfl⟩
  have hb0 : Below W.heap.size W w0 := by rw [hw0]; exact ((Below.refl _ _).alloc (Nat.le_refl _) _).alloc (by simp) _
  have x0_ : Blk w0 (W.heap.size) 40 #[.slice ca C.length cc, .slice pa P.length pc, .slice qa Q.length qc, .int .i64 hf] := by
    have h9 := Blk.new W 40 #[.slice ca C.length cc, .slice pa P.length pc, .slice qa Q.length qc, .int .i64 hf]
    try simp only [World.size_alloc] at h9
    rw [hw0]; exact (h9.alloc _)
  have X0 := Lib.hid x0_
  have x1_ : Blk w0 (W.heap.size + 1) 47 #[.int .i64 l, .int .i64 s] := by
    have h9 := Blk.new (W.alloc (.cells #[.slice ca C.length cc, .slice pa P.length pc, .slice qa Q.length qc, .int .i64 hf] 40)) 47 #[.int .i64 l, .int .i64 s]
    try simp only [World.size_alloc] at h9
    rw [hw0]; exact h9
  have X1 := Lib.hid x1_
  have HC := Lib.hid (rd_mv (Sl_ok R_Label_ok) hC hb0)
  have HB0 := Lib.hid hb0
  have hz0 := hb0.size
  clear hb0 hC x0_ x1_
  go_enter Tryz.func93, Tryz.ntmps93
  have q0 := X0.out.at_ 0 rfl
  go_wp2_with fail
  rw [← hw0]
  clear hw0 q0
  go_loopw [5, 6] (fun v i wr => ∃ k : Nat, k ≤ C.length ∧ i = .int .i64 k ∧ v = .int .i64 ((nodesTo C (l, s) k).length : Nat) ∧ Below w0.heap.size w0 wr) (fun _ i _ => C.length - (intOf i).toNat)
  case atStart => exact ⟨0, Nat.zero_le _, rfl, rfl, Below.refl _ _⟩
  case round =>
    obtain ⟨k, hk, rfl, rfl, hB⟩ := hrel
    have HB := Lib.hid hB
    have hsz := hB.size
    have Z0 := Lib.hid (X0.out.call hB)
    have Z1 := Lib.hid (X1.out.call hB)
    have q0 := Z0.out.at_ 0 rfl
    obtain ⟨n, hnn⟩ : ∃ n, (nodesTo C (l, s) k).length = n := ⟨_, rfl⟩
    have hle := nodesTo_len C (l, s) k
    have HNN := Lib.hid hnn
    rw [hnn] at hle
    rw [hnn]
    clear hnn
    by_cases hlt : k < C.length
    · have hdl : decide ((k : Int) < (C.length : Int)) = true := decide_eq_true (by omega)
      have hnw : IntKind.i64.wrap ((n : Int) + 1) = (n : Int) + 1 := IntWalk.i64_in _ (by omega)
      obtain ⟨x, hx⟩ := el_some hlt
      have HX := Lib.hid hx
      have hCr := rd_mv (Sl_ok R_Label_ok) HC.out hB
      obtain ⟨g, o, us, rfl, hg, hu, hr⟩ := hCr.at_ hx
      obtain ⟨a1, c1, rfl, k_x⟩ := hr
      have e0 : wr.cell? ⟨g, o + k, none⟩ = some (.slice a1 x.length c1) := by simpa [size_SLab] using hu 0 _ rfl
      have hi0 : (0 : Int) ≤ (k : Int) := Int.natCast_nonneg _
      have hi1 : (k : Int) < (C.length : Int) := by omega
      have HG := Lib.hid hg
      have HK := Lib.hid k_x
      clear hB hx hu k_x hCr hg
      go_wp2_with fail
      refine wp_region_held_drew (S := (fun V => Below (wr).heap.size (wr) V)) (by kernel_rfl) ((Below.refl _ _).drew) (fun hHeld => ?_)
      refine tk 0 hHeld ?_
      refine tk 1 hHeld ?_ (hy := fun w hSw => by (try dsimp only at hSw); have k0 := (hSw.cell (p := ⟨W.heap.size, 0, none⟩) Z0.out.lt).trans (Z0.out.at_ 0 rfl); clear hSw; go_simp; try with_reducible rfl)
      refine tk 2 hHeld ?_
      refine tk 3 hHeld ?_
      refine tk 4 hHeld ?_ (hy := fun w hSw => by (try dsimp only at hSw); have k0 := (hSw.cell (p := ⟨g, o + k, none⟩) HG.out).trans e0; clear hSw; go_simp; try with_reducible rfl)
      refine tk 5 hHeld ?_ (hy := fun w hSw => by (try dsimp only at hSw); have k0 := (hSw.cell (p := ⟨W.heap.size + 1, 0, none⟩) Z1.out.lt).trans (Z1.out.at_ 0 rfl); have k1 := (hSw.cell (p := ⟨W.heap.size + 1, 1, none⟩) Z1.out.lt).trans (Z1.out.at_ 1 rfl); clear hSw; go_simp; try with_reducible rfl)
      refine rd1 6 (fun K hK => ?_)
      go_simp
      go_at_call 50
      refine (cleared_spec (rd_mv R_Label_ok HK.out hHeld)).mono ?_
      intro e w4 h
      obtain ⟨q, rfl, hq2, hb⟩ := resB_elim h
      have HQq := Lib.hid hq2
      clear h hq2
      refine hK.out _ _ (hHeld.trans (hb.mono hHeld.size)) (fun hHeld => ?_)
      clear hK K hb
      refine rd0 ?_
      have HF := Lib.hid hHeld
      clear hHeld
      have HB3 := Lib.hid (HB.out.trans (HF.out.mono hsz))
      have hz3 := HB3.out.size
      clear HF
      rcases mem_cases q HQq.out with ⟨hq, hm⟩ | ⟨hq, hm⟩
      · have HN := Lib.hid (show (nodesTo C (l, s) (k + 1)).length = n + 1 from by rw [nodesTo_yes HX.out hm, List.length_append, HNN.out]; rfl)
        clear hm
        subst hq
        clear q0 e0
        go_wp2
        go_roundw
        case rel => exact ⟨k + 1, by omega, by go_num, by rw [HN.out]; go_num, HB3.out⟩
        case measure => simp [intOf]; omega
      · have HN := Lib.hid (show (nodesTo C (l, s) (k + 1)).length = n from by rw [nodesTo_no HX.out hm, HNN.out])
        clear hm
        subst hq
        clear q0 e0
        go_wp2
        go_roundw
        case rel => exact ⟨k + 1, by omega, by go_num, by rw [HN.out], HB3.out⟩
        case measure => simp [intOf]; omega
    · have hdl : decide ((k : Int) < (C.length : Int)) = false := decide_eq_false (by omega)
      obtain rfl : k = C.length := by omega
      clear hB
      go_wp2
      go_ret
      exact ⟨by rw [← HNN.out]; rfl, HB0.out.trans (HB.out.mono HB0.out.size)⟩
set_option maxRecDepth 100000 in
set_option maxHeartbeats 1600000 in
theorem end13_spec {x0 x1 x2 : Int} {x3 : ByteArray} {x4 x5 x6 x7 x8 x9 x10 x11 x12 : Int} {M : List Int} {ma : Option Addr} {mc : Nat} {W : World} (h0 : 0 ≤ x12 ∧ x12 ≤ 1000000) (h1 : 1 ≤ x5 ∧ x5 ≤ 20) : Calls Tryz.prog 94 #[.agg #[.int .i64 x0, .int .i64 x1, .int .i64 x2, .string x3, .int .i64 x4, .int .i64 x5, .int .i64 x6, .int .i64 x7, .int .i64 x8, .int .i64 x9, .int .i64 x10, .int .i64 x11, .int .i64 x12, .slice ma M.length mc]] W (IsI (x12 + 1 + x5) W) := by
  have HB0 := Lib.hid (show Below W.heap.size W (W.alloc (.cells #[.int .i64 x0, .int .i64 x1, .int .i64 x2, .string x3, .int .i64 x4, .int .i64 x5, .int .i64 x6, .int .i64 x7, .int .i64 x8, .int .i64 x9, .int .i64 x10, .int .i64 x11, .int .i64 x12, .slice ma M.length mc] 66)) from (Below.refl _ _).alloc (Nat.le_refl _) _)
  have e1 : IntKind.i64.wrap (x12 + 1) = x12 + 1 := IntWalk.i64_in _ (by omega)
  have e2 : IntKind.i64.wrap (x12 + 1 + x5) = x12 + 1 + x5 := IntWalk.i64_in _ (by omega)
  go_enter Tryz.func94, Tryz.ntmps94
  go_wp2
  go_ret
  exact ⟨by first | rfl | (simp [e1, e2]; done) | (rw [e1, e2]), HB0.out⟩
end Go.Proofs.YtelhmacfljffhabGreat.RepC
end
section
namespace Go.Proofs.YtelhmacfljffhabGreat.RepC
open Go.RowKit RowC ValC SpanC KeptC NameC CfC
set_option linter.unusedVariables false
set_option linter.unusedSimpArgs false
theorem startT_run {now : Int} {x : D_Task} (h : tState x = 2) : startT now x ↔ tStart x ≤ now ∧ now < endT x := ⟨fun hh => hh.1 h, fun hh => ⟨fun _ => hh, fun hn => absurd h hn⟩⟩
theorem startT_none {now : Int} {x : D_Task} (h : tState x ≠ 2) (hl : (tNodes x).length = 0) : startT now x := ⟨fun hh => absurd hh h, fun _ hl2 => by omega⟩
theorem startT_wait {now : Int} {x : D_Task} (h : tState x ≠ 2) (hl : (tNodes x).length ≠ 0) : startT now x ↔ now < tStart x ∧ tStart x ≤ now + 40 := ⟨fun hh => hh.2 h (by omega), fun hh => ⟨fun h2 => absurd h2 h, fun _ _ => hh⟩⟩
theorem has_nodes {x : D_Task} (h : TaskR x) {k : Nat} (hk : k < (tNodes x).length) : NodesR (tNodes x) := by
  obtain ⟨⟨x0, x1⟩, x2, x3, x4, x5, x6, ⟨x7, x8⟩, x9, x10, x11, x12, M⟩ := x
  have hH : Has x11 M := by
    by_cases hh : Has x11 M
    · exact hh
    · have h2 : NoP x12 M := h.2.2.2.2.2.2.2.2.2.2 hh
      have h3 := h2.2
      have hk2 : k < M.length := hk
      omega
  exact (h.2.2.2.2.2.2.2.2.2.1 hH).2.2
theorem taskR_long {x : D_Task} (h : TaskR x) : 1 ≤ tLong x ∧ tLong x ≤ 20 := by
  obtain ⟨⟨x0, x1⟩, x2, x3, x4, x5, x6, ⟨x7, x8⟩, x9, x10, x11, x12, M⟩ := x
  exact (isB_iff _ _ _).1 h.2.2.2.2.1
theorem taskR_start {x : D_Task} (h : TaskR x) : 0 ≤ tStart x ∧ tStart x ≤ 1000000 := by
  obtain ⟨⟨x0, x1⟩, x2, x3, x4, x5, x6, ⟨x7, x8⟩, x9, x10, x11, x12, M⟩ := x
  by_cases hh : Has x11 M
  · exact (isB_iff _ _ _).1 (h.2.2.2.2.2.2.2.2.2.1 hh).1
  · have h2 : NoP x12 M := h.2.2.2.2.2.2.2.2.2.2 hh
    have h3 := h2.1
    show 0 ≤ x12 ∧ x12 ≤ 1000000
    omega
theorem cleared_at {C : List (List D_Label)} {a : D_Label} {m : Nat} {x : List D_Label} (hx : C[m]? = some x) : (m : Int) ∈ nodesOf C a ↔ a ∈ x := by
  rw [mem_nodesOf]
  constructor
  · rintro ⟨k, y, hy, he, ha⟩
    have : k = m := by omega
    subst this
    rw [hx] at hy; cases hy; exact ha
  · exact fun h => ⟨m, x, hx, rfl, h⟩
theorem cleared_not {C : List (List D_Label)} {a : D_Label} {m : Nat} (h : C.length ≤ m) : (m : Int) ∉ nodesOf C a := by
  rw [mem_nodesOf]
  rintro ⟨k, y, hy, he, ha⟩
  have := (List.getElem?_eq_some_iff.1 hy).1
  omega
set_option maxRecDepth 100000 in
set_option maxHeartbeats 3200000 in
theorem task13_spec {C : List (List D_Label)} {P : List D_Pair} {Q : List D_Quota} {hf : Int} {ca pa qa : Option Addr} {cc pc qc : Nat} {N : List D_Node} {T : List D_Task} {U : List D_Use} {now : Int} {na ta ua : Option Addr} {nc tc uc : Nat} {x0 x1 x2 : Int} {x3 : ByteArray} {x4 x5 x6 x7 x8 x9 x10 x11 x12 : Int} {M : List Int} {ma : Option Addr} {mc : Nat} {W : World} (hC : RdSl (Sl R_Label) W W.heap.size C ca cc) (hM : RdSl I W W.heap.size M ma mc) (hR : TaskR ((x0, x1), x2, x3, x4, x5, x6, (x7, x8), x9, x10, x11, x12, M)) (hcl : C.length ≤ 6) (hnl : N.length = C.length) (hnow : 0 ≤ now ∧ now ≤ 999900) :
    Calls Tryz.prog 48 #[.agg #[.slice ca C.length cc, .slice pa P.length pc, .slice qa Q.length qc, .int .i64 hf, .slice na N.length nc, .slice ta T.length tc, .slice ua U.length uc, .int .i64 now], .agg #[.int .i64 x0, .int .i64 x1, .int .i64 x2, .string x3, .int .i64 x4, .int .i64 x5, .int .i64 x6, .int .i64 x7, .int .i64 x8, .int .i64 x9, .int .i64 x10, .int .i64 x11, .int .i64 x12, .slice ma M.length mc]] W (ResB (fitT C now ((x0, x1), x2, x3, x4, x5, x6, (x7, x8), x9, x10, x11, x12, M)) W) := by
  have HR := Lib.hid hR
  have hst := taskR_start hR
  have hlg := taskR_long hR
  simp only [tStart, tLong] at hst hlg
  clear hR
  have hMn : M.length ≤ 9223372036854775807 := by have h1 := hM.1; have h2 := hM.2.1; unfold maxLen at h2; omega
  obtain ⟨K, hK⟩ : ∃ K, (nodesOf C (x0, x1)).length = K := ⟨_, rfl⟩
  have HK := Lib.hid hK
  clear hK
  obtain ⟨b1, h1⟩ : ∃ b, decide ((K : Int) < x4) = b := ⟨_, rfl⟩
  obtain ⟨b2, h2⟩ : ∃ b, decide (now < x10) = b := ⟨_, rfl⟩
  have HNL := Lib.hid hnl
  have hNn : N.length ≤ 6 := by omega
  clear hnl
  obtain ⟨w0, hw0⟩ : ∃ w, w = (W.alloc (.cells #[.slice ca C.length cc, .slice pa P.length pc, .slice qa Q.length qc, .int .i64 hf, .slice na N.length nc, .slice ta T.length tc, .slice ua U.length uc, .int .i64 now] 45)).alloc (.cells #[.int .i64 x0, .int .i64 x1, .int .i64 x2, .string x3, .int .i64 x4, .int .i64 x5, .int .i64 x6, .int .i64 x7, .int .i64 x8, .int .i64 x9, .int .i64 x10, .int .i64 x11, .int .i64 x12, .slice ma M.length mc] 66) := ⟨_, rfl⟩
  have hb0 : Below W.heap.size W w0 := by rw [hw0]; exact ((Below.refl _ _).alloc (Nat.le_refl _) _).alloc (by simp) _
  have x0_ : Blk w0 (W.heap.size) 45 #[.slice ca C.length cc, .slice pa P.length pc, .slice qa Q.length qc, .int .i64 hf, .slice na N.length nc, .slice ta T.length tc, .slice ua U.length uc, .int .i64 now] := by
    have h9 := Blk.new W 45 #[.slice ca C.length cc, .slice pa P.length pc, .slice qa Q.length qc, .int .i64 hf, .slice na N.length nc, .slice ta T.length tc, .slice ua U.length uc, .int .i64 now]
    try simp only [World.size_alloc] at h9
    rw [hw0]; exact (h9.alloc _)
  have X0 := Lib.hid x0_
  have x1_ : Blk w0 (W.heap.size + 1) 66 #[.int .i64 x0, .int .i64 x1, .int .i64 x2, .string x3, .int .i64 x4, .int .i64 x5, .int .i64 x6, .int .i64 x7, .int .i64 x8, .int .i64 x9, .int .i64 x10, .int .i64 x11, .int .i64 x12, .slice ma M.length mc] := by
    have h9 := Blk.new (W.alloc (.cells #[.slice ca C.length cc, .slice pa P.length pc, .slice qa Q.length qc, .int .i64 hf, .slice na N.length nc, .slice ta T.length tc, .slice ua U.length uc, .int .i64 now] 45)) 66 #[.int .i64 x0, .int .i64 x1, .int .i64 x2, .string x3, .int .i64 x4, .int .i64 x5, .int .i64 x6, .int .i64 x7, .int .i64 x8, .int .i64 x9, .int .i64 x10, .int .i64 x11, .int .i64 x12, .slice ma M.length mc]
    try simp only [World.size_alloc] at h9
    rw [hw0]; exact h9
  have X1 := Lib.hid x1_
  have HC := Lib.hid (rd_mv (Sl_ok R_Label_ok) hC hb0)
  have HM := Lib.hid (rd_mv I_ok hM hb0)
  have HB0 := Lib.hid hb0
  have hz0 := hb0.size
  clear hb0 hC hM x0_ x1_
  go_enter Tryz.func48, Tryz.ntmps48
  go_upto_region 1 with fail
  rw [← hw0]
  clear hw0
  cases b1 with
  | true =>
    refine wp_region_held_drew (S := (fun V => Below (w0).heap.size (w0) V)) (by kernel_rfl) ((Below.refl _ _).drew) (fun hHeld => ?_)
    refine tk 0 hHeld ?_
    refine tk 1 hHeld ?_ (hy := fun w hSw => by (try dsimp only at hSw); have k0 := (hSw.cell (p := ⟨W.heap.size, 0, none⟩) X0.out.lt).trans (X0.out.at_ 0 rfl); have k1 := (hSw.cell (p := ⟨W.heap.size, 1, none⟩) X0.out.lt).trans (X0.out.at_ 1 rfl); have k2 := (hSw.cell (p := ⟨W.heap.size, 2, none⟩) X0.out.lt).trans (X0.out.at_ 2 rfl); have k3 := (hSw.cell (p := ⟨W.heap.size, 3, none⟩) X0.out.lt).trans (X0.out.at_ 3 rfl); clear hSw; go_simp; try with_reducible rfl)
    refine tk 2 hHeld ?_
    refine tk 3 hHeld ?_ (hy := fun w hSw => by (try dsimp only at hSw); have k0 := (hSw.cell (p := ⟨W.heap.size + 1, 0, none⟩) X1.out.lt).trans (X1.out.at_ 0 rfl); have k1 := (hSw.cell (p := ⟨W.heap.size + 1, 1, none⟩) X1.out.lt).trans (X1.out.at_ 1 rfl); clear hSw; go_simp; try with_reducible rfl)
    refine tk 5 hHeld ?_
    refine tk 6 hHeld ?_ (hy := fun w hSw => by (try dsimp only at hSw); have k0 := (hSw.cell (p := ⟨W.heap.size + 1, 4, none⟩) X1.out.lt).trans (X1.out.at_ 4 rfl); clear hSw; go_simp; try with_reducible rfl)
    refine rd1 4 (fun K hK => ?_)
    go_simp
    go_at_call 93
    have hcl9 := clear13_spec (P := P) (Q := Q) (hf := hf) (pa := pa) (qa := qa) (pc := pc) (qc := qc) (l := x0) (s := x1) (rd_mv (Sl_ok R_Label_ok) HC.out hHeld)
    rw [HK.out] at hcl9
    refine hcl9.mono ?_
    intro e w2 h
    obtain ⟨rfl, hb⟩ := isI_elim h
    clear h hcl9
    refine hK.out _ _ (hHeld.trans (hb.mono hHeld.size)) (fun hHeld => ?_)
    clear hK K hb
    refine tk 7 hHeld ?_
    refine tk 8 hHeld ?_
    refine tn 9 hHeld ?_
    refine tn 10 hHeld ?_
    refine tn 11 hHeld ?_
    refine tn 12 hHeld ?_
    refine tn 13 hHeld ?_
    refine tk 14 hHeld ?_
    refine rd0 ?_
    have HF := Lib.hid hHeld
    clear hHeld
    have HV := Lib.hid (show ¬ fitT C now ((x0, x1), x2, x3, x4, x5, x6, (x7, x8), x9, x10, x11, x12, M) from fun h => by have h3 : x4 ≤ (((nodesOf C (x0, x1)).length : Nat) : Int) := h.1; rw [HK.out] at h3; have h4 := of_decide_eq_true h1; omega)
    go_wp2
    go_ret
    exact resB_no HV.out (HB0.out.trans (HF.out.mono hz0))
  | false =>
    have HK1 := Lib.hid (show x4 ≤ (K : Int) from by have := of_decide_eq_false h1; omega)
    cases b2 with
    | true =>
      refine wp_region_held_drew (S := (fun V => Below (w0).heap.size (w0) V)) (by kernel_rfl) ((Below.refl _ _).drew) (fun hHeld => ?_)
      refine tk 0 hHeld ?_
      refine tk 1 hHeld ?_ (hy := fun w hSw => by (try dsimp only at hSw); have k0 := (hSw.cell (p := ⟨W.heap.size, 0, none⟩) X0.out.lt).trans (X0.out.at_ 0 rfl); have k1 := (hSw.cell (p := ⟨W.heap.size, 1, none⟩) X0.out.lt).trans (X0.out.at_ 1 rfl); have k2 := (hSw.cell (p := ⟨W.heap.size, 2, none⟩) X0.out.lt).trans (X0.out.at_ 2 rfl); have k3 := (hSw.cell (p := ⟨W.heap.size, 3, none⟩) X0.out.lt).trans (X0.out.at_ 3 rfl); clear hSw; go_simp; try with_reducible rfl)
      refine tk 2 hHeld ?_
      refine tk 3 hHeld ?_ (hy := fun w hSw => by (try dsimp only at hSw); have k0 := (hSw.cell (p := ⟨W.heap.size + 1, 0, none⟩) X1.out.lt).trans (X1.out.at_ 0 rfl); have k1 := (hSw.cell (p := ⟨W.heap.size + 1, 1, none⟩) X1.out.lt).trans (X1.out.at_ 1 rfl); clear hSw; go_simp; try with_reducible rfl)
      refine tk 5 hHeld ?_
      refine tk 6 hHeld ?_ (hy := fun w hSw => by (try dsimp only at hSw); have k0 := (hSw.cell (p := ⟨W.heap.size + 1, 4, none⟩) X1.out.lt).trans (X1.out.at_ 4 rfl); clear hSw; go_simp; try with_reducible rfl)
      refine rd1 4 (fun K hK => ?_)
      go_simp
      go_at_call 93
      have hcl9 := clear13_spec (P := P) (Q := Q) (hf := hf) (pa := pa) (qa := qa) (pc := pc) (qc := qc) (l := x0) (s := x1) (rd_mv (Sl_ok R_Label_ok) HC.out hHeld)
      rw [HK.out] at hcl9
      refine hcl9.mono ?_
      intro e w2 h
      obtain ⟨rfl, hb⟩ := isI_elim h
      clear h hcl9
      refine hK.out _ _ (hHeld.trans (hb.mono hHeld.size)) (fun hHeld => ?_)
      clear hK K hb
      refine tk 7 hHeld ?_
      refine tk 8 hHeld ?_
      refine tk 9 hHeld ?_
      refine tk 10 hHeld ?_ (hy := fun w hSw => by (try dsimp only at hSw); have k0 := (hSw.cell (p := ⟨W.heap.size + 1, 10, none⟩) X1.out.lt).trans (X1.out.at_ 10 rfl); clear hSw; go_simp; try with_reducible rfl)
      refine tk 11 hHeld ?_
      refine tk 12 hHeld ?_ (hy := fun w hSw => by (try dsimp only at hSw); have k0 := (hSw.cell (p := ⟨W.heap.size, 7, none⟩) X0.out.lt).trans (X0.out.at_ 7 rfl); clear hSw; go_simp; try with_reducible rfl)
      refine tk 13 hHeld ?_
      refine tk 14 hHeld ?_
      refine rd0 ?_
      have HF := Lib.hid hHeld
      clear hHeld
      have HV := Lib.hid (show ¬ fitT C now ((x0, x1), x2, x3, x4, x5, x6, (x7, x8), x9, x10, x11, x12, M) from fun h => by have h3 : x10 ≤ now := h.2.1; have h4 := of_decide_eq_true h2; omega)
      go_wp2
      go_ret
      exact resB_no HV.out (HB0.out.trans (HF.out.mono hz0))
    | false =>
      have HK2 := Lib.hid (show x10 ≤ now from by have := of_decide_eq_false h2; omega)
      refine wp_region_held_drew (S := (fun V => Below (w0).heap.size (w0) V)) (by kernel_rfl) ((Below.refl _ _).drew) (fun hHeld => ?_)
      refine tk 0 hHeld ?_
      refine tk 1 hHeld ?_ (hy := fun w hSw => by (try dsimp only at hSw); have k0 := (hSw.cell (p := ⟨W.heap.size, 0, none⟩) X0.out.lt).trans (X0.out.at_ 0 rfl); have k1 := (hSw.cell (p := ⟨W.heap.size, 1, none⟩) X0.out.lt).trans (X0.out.at_ 1 rfl); have k2 := (hSw.cell (p := ⟨W.heap.size, 2, none⟩) X0.out.lt).trans (X0.out.at_ 2 rfl); have k3 := (hSw.cell (p := ⟨W.heap.size, 3, none⟩) X0.out.lt).trans (X0.out.at_ 3 rfl); clear hSw; go_simp; try with_reducible rfl)
      refine tk 2 hHeld ?_
      refine tk 3 hHeld ?_ (hy := fun w hSw => by (try dsimp only at hSw); have k0 := (hSw.cell (p := ⟨W.heap.size + 1, 0, none⟩) X1.out.lt).trans (X1.out.at_ 0 rfl); have k1 := (hSw.cell (p := ⟨W.heap.size + 1, 1, none⟩) X1.out.lt).trans (X1.out.at_ 1 rfl); clear hSw; go_simp; try with_reducible rfl)
      refine tk 5 hHeld ?_
      refine tk 6 hHeld ?_ (hy := fun w hSw => by (try dsimp only at hSw); have k0 := (hSw.cell (p := ⟨W.heap.size + 1, 4, none⟩) X1.out.lt).trans (X1.out.at_ 4 rfl); clear hSw; go_simp; try with_reducible rfl)
      refine rd1 4 (fun K hK => ?_)
      go_simp
      go_at_call 93
      have hcl9 := clear13_spec (P := P) (Q := Q) (hf := hf) (pa := pa) (qa := qa) (pc := pc) (qc := qc) (l := x0) (s := x1) (rd_mv (Sl_ok R_Label_ok) HC.out hHeld)
      rw [HK.out] at hcl9
      refine hcl9.mono ?_
      intro e w2 h
      obtain ⟨rfl, hb⟩ := isI_elim h
      clear h hcl9
      refine hK.out _ _ (hHeld.trans (hb.mono hHeld.size)) (fun hHeld => ?_)
      clear hK K hb
      refine tk 7 hHeld ?_
      refine tk 8 hHeld ?_
      refine tk 9 hHeld ?_
      refine tk 10 hHeld ?_ (hy := fun w hSw => by (try dsimp only at hSw); have k0 := (hSw.cell (p := ⟨W.heap.size + 1, 10, none⟩) X1.out.lt).trans (X1.out.at_ 10 rfl); clear hSw; go_simp; try with_reducible rfl)
      refine tk 11 hHeld ?_
      refine tk 12 hHeld ?_ (hy := fun w hSw => by (try dsimp only at hSw); have k0 := (hSw.cell (p := ⟨W.heap.size, 7, none⟩) X0.out.lt).trans (X0.out.at_ 7 rfl); clear hSw; go_simp; try with_reducible rfl)
      refine tk 13 hHeld ?_
      refine tk 14 hHeld ?_
      refine rd0 ?_
      have HF := Lib.hid hHeld
      clear hHeld
      have Z0 := Lib.hid (X0.out.call HF.out)
      have Z1 := Lib.hid (X1.out.call HF.out)
      have HC1 := Lib.hid (rd_mv (Sl_ok R_Label_ok) HC.out HF.out)
      have HM1 := Lib.hid (rd_mv I_ok HM.out HF.out)
      have HB1 := Lib.hid (HB0.out.trans (HF.out.mono hz0))
      have hz1 := HB1.out.size
      clear HF h1 h2 X0 X1 HC HM
      go_wp2
      go_loopw [5] (fun i wr => ∃ k : Nat, k ≤ M.length ∧ i = .int .i64 k ∧ Hid (∀ (j : Nat) n, j < k → M[j]? = some n → n ∈ nodesOf C (x0, x1)) ∧ Below w2.heap.size w2 wr) (fun i _ => M.length - (intOf i).toNat)
      case atStart => exact ⟨0, Nat.zero_le _, rfl, Lib.hid fun j n h => absurd h (Nat.not_lt_zero _), Below.refl _ _⟩
      case round =>
        obtain ⟨k, hk, rfl, HA, hB⟩ := hrel
        have HB := Lib.hid hB
        have hsz := hB.size
        have V0 := Lib.hid (Z0.out.call hB)
        have V1 := Lib.hid (Z1.out.call hB)
        have HBW := Lib.hid (HB1.out.trans (hB.mono hz1))
        have v13 := V1.out.at_ 13 rfl
        by_cases hlt : k < M.length
        · have hdl : decide ((k : Int) < (M.length : Int)) = true := decide_eq_true (by omega)
          obtain ⟨n, hx⟩ := el_some hlt
          have hrg := nodesR_rng (has_nodes HR.out hlt) hx
          obtain ⟨m, rfl⟩ : ∃ m : Nat, n = (m : Int) := ⟨n.toNat, by omega⟩
          have HX := Lib.hid hx
          obtain ⟨g, o, us, rfl, hg, hu, hr⟩ := (rd_mv I_ok HM1.out hB).at_ hx
          obtain rfl : us = [_] := hr
          have e0 : wr.cell? ⟨g, o + k, none⟩ = some (.int .i64 (m : Int)) := by simpa [show I.size = 1 from rfl] using hu 0 _ rfl
          have HE0 := Lib.hid e0
          have HG := Lib.hid hg
          have hi0 : (0 : Int) ≤ (k : Int) := Int.natCast_nonneg _
          have hi1 : (k : Int) < (M.length : Int) := by omega
          have hm0 : (0 : Int) ≤ (m : Int) := Int.natCast_nonneg _
          by_cases hmn : m < N.length
          rotate_left
          · have hge : decide ((N.length : Int) ≤ (m : Int)) = true := decide_eq_true (by omega)
            have hge' : decide (N.length ≤ m) = true := decide_eq_true (by omega)
            have HNM := Lib.hid (show C.length ≤ m by have := HNL.out; omega)
            clear hB hu hx hg e0 hmn
            go_upto_region 6 with fail
            refine wp_region_held_drew (S := (fun V => Below (wr).heap.size (wr) V)) (by kernel_rfl) ((Below.refl _ _).drew) (fun hHeld => ?_)
            refine tk 0 hHeld ?_
            refine tk 1 hHeld ?_ (hy := fun w hSw => by (try dsimp only at hSw); have k0 := (hSw.cell (p := ⟨W.heap.size + 1, 13, none⟩) V1.out.lt).trans (V1.out.at_ 13 rfl); clear hSw; go_simp; try with_reducible rfl)
            refine tk 2 hHeld ?_
            refine tk 3 hHeld ?_
            refine tk 4 hHeld ?_ (hy := fun w hSw => by (try dsimp only at hSw); have k0 := (hSw.cell (p := ⟨g, o + k, none⟩) (Nat.lt_of_lt_of_le HG.out (Nat.le_refl _))).trans HE0.out; clear hSw; go_simp; try with_reducible rfl)
            refine tk 5 hHeld ?_
            refine tk 6 hHeld ?_ (hy := fun w hSw => by (try dsimp only at hSw); have k0 := (hSw.cell (p := ⟨W.heap.size, 4, none⟩) V0.out.lt).trans (V0.out.at_ 4 rfl); clear hSw; go_simp; try with_reducible rfl)
            refine tk 7 hHeld ?_
            refine tk 8 hHeld ?_
            refine tk 9 hHeld ?_
            refine tn 10 hHeld ?_
            refine tn 11 hHeld ?_
            refine tn 12 hHeld ?_
            refine tn 13 hHeld ?_
            refine tn 14 hHeld ?_
            refine tn 15 hHeld ?_
            refine tn 16 hHeld ?_
            refine tn 17 hHeld ?_
            refine tn 18 hHeld ?_
            refine tn 19 hHeld ?_
            refine tn 20 hHeld ?_
            refine tn 21 hHeld ?_
            refine tn 22 hHeld ?_
            refine tn 23 hHeld ?_
            refine tk 24 hHeld ?_
            refine rd0 ?_
            have HF := Lib.hid hHeld
            clear hHeld
            have HBX := Lib.hid (HBW.out.trans (HF.out.mono (Nat.le_trans hz1 hsz)))
            clear HF
            have HV := Lib.hid (show ¬ fitT C now ((x0, x1), x2, x3, x4, x5, x6, (x7, x8), x9, x10, x11, x12, M) from fun h => cleared_not HNM.out (h.2.2.1 _ (List.mem_of_getElem? HX.out)))
            go_wp2
            go_ret
            exact resB_no HV.out HBX.out
          · have hge : decide ((N.length : Int) ≤ (m : Int)) = false := decide_eq_false (by omega)
            have hge' : decide (N.length ≤ m) = false := decide_eq_false (by omega)
            have hmc : m < C.length := by have := HNL.out; omega
            have hmc1 : (m : Int) < (C.length : Int) := by omega
            obtain ⟨x, hxc⟩ := el_some hmc
            have HXC := Lib.hid hxc
            obtain ⟨gc, oc, us2, rfl, hgc, huc, hrc⟩ := (rd_mv (Sl_ok R_Label_ok) HC1.out hB).at_ hxc
            obtain ⟨a1, c1, rfl, k_x⟩ := hrc
            have ec : wr.cell? ⟨gc, oc + m, none⟩ = some (.slice a1 x.length c1) := by simpa [size_SLab] using huc 0 _ rfl
            have HEC := Lib.hid ec
            have HGC := Lib.hid hgc
            have HKX := Lib.hid k_x
            clear hB hu hx hg e0 hmn hxc hgc huc k_x ec
            go_upto_region 6 with fail
            refine wp_region_held_drew (S := (fun V => Below (wr).heap.size (wr) V)) (by kernel_rfl) ((Below.refl _ _).drew) (fun hHeld => ?_)
            refine tk 0 hHeld ?_
            refine tk 1 hHeld ?_ (hy := fun w hSw => by (try dsimp only at hSw); have k0 := (hSw.cell (p := ⟨W.heap.size + 1, 13, none⟩) V1.out.lt).trans (V1.out.at_ 13 rfl); clear hSw; go_simp; try with_reducible rfl)
            refine tk 2 hHeld ?_
            refine tk 3 hHeld ?_
            refine tk 4 hHeld ?_ (hy := fun w hSw => by (try dsimp only at hSw); have k0 := (hSw.cell (p := ⟨g, o + k, none⟩) (Nat.lt_of_lt_of_le HG.out (Nat.le_refl _))).trans HE0.out; clear hSw; go_simp; try with_reducible rfl)
            refine tk 5 hHeld ?_
            refine tk 6 hHeld ?_ (hy := fun w hSw => by (try dsimp only at hSw); have k0 := (hSw.cell (p := ⟨W.heap.size, 4, none⟩) V0.out.lt).trans (V0.out.at_ 4 rfl); clear hSw; go_simp; try with_reducible rfl)
            refine tk 7 hHeld ?_
            refine tk 8 hHeld ?_
            refine tk 9 hHeld ?_
            refine tk 10 hHeld ?_
            refine tk 11 hHeld ?_
            refine tk 12 hHeld ?_ (hy := fun w hSw => by (try dsimp only at hSw); have k0 := (hSw.cell (p := ⟨W.heap.size, 0, none⟩) V0.out.lt).trans (V0.out.at_ 0 rfl); clear hSw; go_simp; try with_reducible rfl)
            refine tk 13 hHeld ?_
            refine tk 14 hHeld ?_ (hy := fun w hSw => by (try dsimp only at hSw); have k0 := (hSw.cell (p := ⟨W.heap.size + 1, 13, none⟩) V1.out.lt).trans (V1.out.at_ 13 rfl); clear hSw; go_simp; try with_reducible rfl)
            refine tk 15 hHeld ?_
            refine tk 16 hHeld ?_
            refine tk 17 hHeld ?_ (hy := fun w hSw => by (try dsimp only at hSw); have k0 := (hSw.cell (p := ⟨g, o + k, none⟩) (Nat.lt_of_lt_of_le HG.out (Nat.le_refl _))).trans HE0.out; clear hSw; go_simp; try with_reducible rfl)
            refine tk 18 hHeld ?_
            refine tk 19 hHeld ?_ (hy := fun w hSw => by (try dsimp only at hSw); have k0 := (hSw.cell (p := ⟨gc, oc + m, none⟩) HGC.out).trans HEC.out; clear hSw; go_simp; try with_reducible rfl)
            refine tk 20 hHeld ?_
            refine tk 21 hHeld ?_ (hy := fun w hSw => by (try dsimp only at hSw); have k0 := (hSw.cell (p := ⟨W.heap.size + 1, 0, none⟩) V1.out.lt).trans (V1.out.at_ 0 rfl); have k1 := (hSw.cell (p := ⟨W.heap.size + 1, 1, none⟩) V1.out.lt).trans (V1.out.at_ 1 rfl); clear hSw; go_simp; try with_reducible rfl)
            refine rd1 22 (fun K hK => ?_)
            go_simp
            go_at_call 50
            refine (cleared_spec (rd_mv R_Label_ok HKX.out hHeld)).mono ?_
            intro e w4 h
            obtain ⟨q, rfl, hq2, hb⟩ := resB_elim h
            have HQq := Lib.hid hq2
            clear h hq2
            refine hK.out _ _ (hHeld.trans (hb.mono hHeld.size)) (fun hHeld => ?_)
            clear hK K hb
            refine tk 23 hHeld ?_
            refine tk 24 hHeld ?_
            refine rd0 ?_
            have HF := Lib.hid hHeld
            clear hHeld
            have HB3 := Lib.hid (HB.out.trans (HF.out.mono hsz))
            have HBX := Lib.hid (HBW.out.trans (HF.out.mono (Nat.le_trans hz1 hsz)))
            clear HF
            rcases mem_cases q HQq.out with ⟨hq, hm⟩ | ⟨hq, hm⟩
            · have HA2 := Lib.hid (show ∀ (j : Nat) n, j < k + 1 → M[j]? = some n → n ∈ nodesOf C (x0, x1) from fun j n hj hn => by
                by_cases e : j = k
                · subst e
                  rw [HX.out] at hn; cases hn
                  exact (cleared_at HXC.out).2 hm
                · exact HA.out j n (by omega) hn)
              clear hm
              subst hq
              clear v13
              go_wp2
              go_roundw
              case rel => exact ⟨k + 1, by omega, by go_num, HA2, HB3.out⟩
              case measure => simp [intOf]; omega
            · have HMM := Lib.hid hm
              clear hm
              subst hq
              have HV := Lib.hid (show ¬ fitT C now ((x0, x1), x2, x3, x4, x5, x6, (x7, x8), x9, x10, x11, x12, M) from fun h => HMM.out ((cleared_at HXC.out).1 (h.2.2.1 _ (List.mem_of_getElem? HX.out))))
              go_wp2
              go_ret
              exact resB_no HV.out HBX.out
        · have hdl : decide ((k : Int) < (M.length : Int)) = false := decide_eq_false (by omega)
          obtain rfl : k = M.length := by omega
          have HALL := Lib.hid (show ∀ n ∈ M, n ∈ nodesOf C (x0, x1) from fun n hn => by
            obtain ⟨j, hj, rfl⟩ := List.mem_iff_getElem.1 hn
            exact HA.out j _ hj (List.getElem?_eq_getElem hj))
          have HCONS := Lib.hid (show startT now ((x0, x1), x2, x3, x4, x5, x6, (x7, x8), x9, x10, x11, x12, M) → fitT C now ((x0, x1), x2, x3, x4, x5, x6, (x7, x8), x9, x10, x11, x12, M) from fun h => ⟨by show x4 ≤ (((nodesOf C (x0, x1)).length : Nat) : Int); rw [HK.out]; exact HK1.out, HK2.out, HALL.out, h⟩)
          have v7 := V0.out.at_ 7 rfl
          have v11 := V1.out.at_ 11 rfl
          have v12 := V1.out.at_ 12 rfl
          have hw40 : IntKind.i64.wrap (now + 40) = now + 40 := IntWalk.i64_in _ (by omega)
          clear hB HA
          by_cases hs2 : x11 = 2
          · have hs2' : (x11 == 2) = true := beq_iff_eq.2 hs2
            have HRUN := Lib.hid (startT_run (now := now) (x := ((x0, x1), x2, x3, x4, x5, x6, (x7, x8), x9, x10, x11, x12, M)) hs2)
            obtain ⟨b3, h3⟩ : ∃ b, decide (x12 ≤ now) = b := ⟨_, rfl⟩
            obtain ⟨b4, h4⟩ : ∃ b, decide (now < x12 + 1 + x5) = b := ⟨_, rfl⟩
            clear hs2
            go_upto_region 9 with fail
            clear v7 v11 v12 v13
            cases b3 with
            | false =>
              refine wp_region_held_drew (S := (fun V => Below (wr).heap.size (wr) V)) (by kernel_rfl) ((Below.refl _ _).drew) (fun hHeld => ?_)
              refine tk 0 hHeld ?_
              refine tk 1 hHeld ?_ (hy := fun w hSw => by (try dsimp only at hSw); have k0 := (hSw.cell (p := ⟨W.heap.size + 1, 12, none⟩) V1.out.lt).trans (V1.out.at_ 12 rfl); clear hSw; go_simp; try with_reducible rfl)
              refine tk 2 hHeld ?_
              refine tk 3 hHeld ?_ (hy := fun w hSw => by (try dsimp only at hSw); have k0 := (hSw.cell (p := ⟨W.heap.size, 7, none⟩) V0.out.lt).trans (V0.out.at_ 7 rfl); clear hSw; go_simp; try with_reducible rfl)
              refine tk 4 hHeld ?_
              refine tk 5 hHeld ?_
              refine tn 6 hHeld ?_
              refine tn 7 hHeld ?_
              refine tn 8 hHeld ?_
              refine tn 9 hHeld ?_
              refine tn 10 hHeld ?_
              refine tk 11 hHeld ?_
              refine tk 12 hHeld ?_
              refine rd0 ?_
              have HF := Lib.hid hHeld
              clear hHeld
              have HBX := Lib.hid (HBW.out.trans (HF.out.mono (Nat.le_trans hz1 hsz)))
              clear HF
              have HV := Lib.hid (show ¬ fitT C now ((x0, x1), x2, x3, x4, x5, x6, (x7, x8), x9, x10, x11, x12, M) from fun h => by have h5 := (HRUN.out.1 h.2.2.2).1; have h6 := of_decide_eq_false h3; simp only [tStart] at h5; omega)
              go_wp2
              go_ret
              exact resB_no HV.out HBX.out
            | true =>
              cases b4 with
              | false =>
                refine wp_region_held_drew (S := (fun V => Below (wr).heap.size (wr) V)) (by kernel_rfl) ((Below.refl _ _).drew) (fun hHeld => ?_)
                refine tk 0 hHeld ?_
                refine tk 1 hHeld ?_ (hy := fun w hSw => by (try dsimp only at hSw); have k0 := (hSw.cell (p := ⟨W.heap.size + 1, 12, none⟩) V1.out.lt).trans (V1.out.at_ 12 rfl); clear hSw; go_simp; try with_reducible rfl)
                refine tk 2 hHeld ?_
                refine tk 3 hHeld ?_ (hy := fun w hSw => by (try dsimp only at hSw); have k0 := (hSw.cell (p := ⟨W.heap.size, 7, none⟩) V0.out.lt).trans (V0.out.at_ 7 rfl); clear hSw; go_simp; try with_reducible rfl)
                refine tk 4 hHeld ?_
                refine tk 5 hHeld ?_
                refine tk 6 hHeld ?_
                refine tk 7 hHeld ?_ (hy := fun w hSw => by (try dsimp only at hSw); have k0 := (hSw.cell (p := ⟨W.heap.size, 7, none⟩) V0.out.lt).trans (V0.out.at_ 7 rfl); clear hSw; go_simp; try with_reducible rfl)
                refine tk 8 hHeld ?_ (hy := fun w hSw => by (try dsimp only at hSw); have k0 := (hSw.cell (p := ⟨W.heap.size + 1, 0, none⟩) V1.out.lt).trans (V1.out.at_ 0 rfl); have k1 := (hSw.cell (p := ⟨W.heap.size + 1, 1, none⟩) V1.out.lt).trans (V1.out.at_ 1 rfl); have k2 := (hSw.cell (p := ⟨W.heap.size + 1, 2, none⟩) V1.out.lt).trans (V1.out.at_ 2 rfl); have k3 := (hSw.cell (p := ⟨W.heap.size + 1, 3, none⟩) V1.out.lt).trans (V1.out.at_ 3 rfl); have k4 := (hSw.cell (p := ⟨W.heap.size + 1, 4, none⟩) V1.out.lt).trans (V1.out.at_ 4 rfl); have k5 := (hSw.cell (p := ⟨W.heap.size + 1, 5, none⟩) V1.out.lt).trans (V1.out.at_ 5 rfl); have k6 := (hSw.cell (p := ⟨W.heap.size + 1, 6, none⟩) V1.out.lt).trans (V1.out.at_ 6 rfl); have k7 := (hSw.cell (p := ⟨W.heap.size + 1, 7, none⟩) V1.out.lt).trans (V1.out.at_ 7 rfl); have k8 := (hSw.cell (p := ⟨W.heap.size + 1, 8, none⟩) V1.out.lt).trans (V1.out.at_ 8 rfl); have k9 := (hSw.cell (p := ⟨W.heap.size + 1, 9, none⟩) V1.out.lt).trans (V1.out.at_ 9 rfl); have k10 := (hSw.cell (p := ⟨W.heap.size + 1, 10, none⟩) V1.out.lt).trans (V1.out.at_ 10 rfl); have k11 := (hSw.cell (p := ⟨W.heap.size + 1, 11, none⟩) V1.out.lt).trans (V1.out.at_ 11 rfl); have k12 := (hSw.cell (p := ⟨W.heap.size + 1, 12, none⟩) V1.out.lt).trans (V1.out.at_ 12 rfl); have k13 := (hSw.cell (p := ⟨W.heap.size + 1, 13, none⟩) V1.out.lt).trans (V1.out.at_ 13 rfl); clear hSw; go_simp; try with_reducible rfl)
                refine rd1 9 (fun K hK => ?_)
                go_simp
                go_at_call 94
                refine (end13_spec hst hlg).mono ?_
                intro e w5 h
                obtain ⟨rfl, hb⟩ := isI_elim h
                clear h
                refine hK.out _ _ (hHeld.trans (hb.mono hHeld.size)) (fun hHeld => ?_)
                clear hK K hb
                refine tk 10 hHeld ?_
                refine tk 11 hHeld ?_
                refine tk 12 hHeld ?_
                refine rd0 ?_
                have HF := Lib.hid hHeld
                clear hHeld
                have HBX := Lib.hid (HBW.out.trans (HF.out.mono (Nat.le_trans hz1 hsz)))
                clear HF
                have HV := Lib.hid (show ¬ fitT C now ((x0, x1), x2, x3, x4, x5, x6, (x7, x8), x9, x10, x11, x12, M) from fun h => by have h5 := (HRUN.out.1 h.2.2.2).2; have h6 := of_decide_eq_false h4; simp only [endT, tStart, tLong] at h5; omega)
                go_wp2
                go_ret
                exact resB_no HV.out HBX.out
              | true =>
                refine wp_region_held_drew (S := (fun V => Below (wr).heap.size (wr) V)) (by kernel_rfl) ((Below.refl _ _).drew) (fun hHeld => ?_)
                refine tk 0 hHeld ?_
                refine tk 1 hHeld ?_ (hy := fun w hSw => by (try dsimp only at hSw); have k0 := (hSw.cell (p := ⟨W.heap.size + 1, 12, none⟩) V1.out.lt).trans (V1.out.at_ 12 rfl); clear hSw; go_simp; try with_reducible rfl)
                refine tk 2 hHeld ?_
                refine tk 3 hHeld ?_ (hy := fun w hSw => by (try dsimp only at hSw); have k0 := (hSw.cell (p := ⟨W.heap.size, 7, none⟩) V0.out.lt).trans (V0.out.at_ 7 rfl); clear hSw; go_simp; try with_reducible rfl)
                refine tk 4 hHeld ?_
                refine tk 5 hHeld ?_
                refine tk 6 hHeld ?_
                refine tk 7 hHeld ?_ (hy := fun w hSw => by (try dsimp only at hSw); have k0 := (hSw.cell (p := ⟨W.heap.size, 7, none⟩) V0.out.lt).trans (V0.out.at_ 7 rfl); clear hSw; go_simp; try with_reducible rfl)
                refine tk 8 hHeld ?_ (hy := fun w hSw => by (try dsimp only at hSw); have k0 := (hSw.cell (p := ⟨W.heap.size + 1, 0, none⟩) V1.out.lt).trans (V1.out.at_ 0 rfl); have k1 := (hSw.cell (p := ⟨W.heap.size + 1, 1, none⟩) V1.out.lt).trans (V1.out.at_ 1 rfl); have k2 := (hSw.cell (p := ⟨W.heap.size + 1, 2, none⟩) V1.out.lt).trans (V1.out.at_ 2 rfl); have k3 := (hSw.cell (p := ⟨W.heap.size + 1, 3, none⟩) V1.out.lt).trans (V1.out.at_ 3 rfl); have k4 := (hSw.cell (p := ⟨W.heap.size + 1, 4, none⟩) V1.out.lt).trans (V1.out.at_ 4 rfl); have k5 := (hSw.cell (p := ⟨W.heap.size + 1, 5, none⟩) V1.out.lt).trans (V1.out.at_ 5 rfl); have k6 := (hSw.cell (p := ⟨W.heap.size + 1, 6, none⟩) V1.out.lt).trans (V1.out.at_ 6 rfl); have k7 := (hSw.cell (p := ⟨W.heap.size + 1, 7, none⟩) V1.out.lt).trans (V1.out.at_ 7 rfl); have k8 := (hSw.cell (p := ⟨W.heap.size + 1, 8, none⟩) V1.out.lt).trans (V1.out.at_ 8 rfl); have k9 := (hSw.cell (p := ⟨W.heap.size + 1, 9, none⟩) V1.out.lt).trans (V1.out.at_ 9 rfl); have k10 := (hSw.cell (p := ⟨W.heap.size + 1, 10, none⟩) V1.out.lt).trans (V1.out.at_ 10 rfl); have k11 := (hSw.cell (p := ⟨W.heap.size + 1, 11, none⟩) V1.out.lt).trans (V1.out.at_ 11 rfl); have k12 := (hSw.cell (p := ⟨W.heap.size + 1, 12, none⟩) V1.out.lt).trans (V1.out.at_ 12 rfl); have k13 := (hSw.cell (p := ⟨W.heap.size + 1, 13, none⟩) V1.out.lt).trans (V1.out.at_ 13 rfl); clear hSw; go_simp; try with_reducible rfl)
                refine rd1 9 (fun K hK => ?_)
                go_simp
                go_at_call 94
                refine (end13_spec hst hlg).mono ?_
                intro e w5 h
                obtain ⟨rfl, hb⟩ := isI_elim h
                clear h
                refine hK.out _ _ (hHeld.trans (hb.mono hHeld.size)) (fun hHeld => ?_)
                clear hK K hb
                refine tk 10 hHeld ?_
                refine tk 11 hHeld ?_
                refine tk 12 hHeld ?_
                refine rd0 ?_
                have HF := Lib.hid hHeld
                clear hHeld
                have HBX := Lib.hid (HBW.out.trans (HF.out.mono (Nat.le_trans hz1 hsz)))
                clear HF
                have HV := Lib.hid (show fitT C now ((x0, x1), x2, x3, x4, x5, x6, (x7, x8), x9, x10, x11, x12, M) from HCONS.out (HRUN.out.2 ⟨of_decide_eq_true h3, of_decide_eq_true h4⟩))
                go_wp2
                go_ret
                exact resB_yes HV.out HBX.out
          · have hs2' : (x11 == 2) = false := beq_eq_false_iff_ne.2 hs2
            by_cases hl0 : M.length = 0
            · have hl0' : ((M.length : Int) == 0) = true := beq_iff_eq.2 (by omega)
              have HV := Lib.hid (show fitT C now ((x0, x1), x2, x3, x4, x5, x6, (x7, x8), x9, x10, x11, x12, M) from HCONS.out (startT_none hs2 hl0))
              clear hs2 hl0
              go_wp2
              go_ret
              exact resB_yes HV.out HBW.out
            · have hl0' : ((M.length : Int) == 0) = false := beq_eq_false_iff_ne.2 (by omega)
              have HW := Lib.hid (startT_wait (now := now) (x := ((x0, x1), x2, x3, x4, x5, x6, (x7, x8), x9, x10, x11, x12, M)) hs2 hl0)
              obtain ⟨b3, h3⟩ : ∃ b, decide (now < x12) = b := ⟨_, rfl⟩
              obtain ⟨b4, h4⟩ : ∃ b, decide (x12 ≤ now + 40) = b := ⟨_, rfl⟩
              clear hs2 hl0
              cases b3 with
              | false =>
                have HV := Lib.hid (show ¬ fitT C now ((x0, x1), x2, x3, x4, x5, x6, (x7, x8), x9, x10, x11, x12, M) from fun h => by have h5 := (HW.out.1 h.2.2.2).1; have h6 := of_decide_eq_false h3; simp only [tStart] at h5; omega)
                go_wp2
                go_ret
                exact resB_no HV.out HBW.out
              | true =>
                have HV := Lib.hid (show b4 = true ↔ fitT C now ((x0, x1), x2, x3, x4, x5, x6, (x7, x8), x9, x10, x11, x12, M) from by
                  rw [← h4, decide_eq_true_eq]
                  exact ⟨fun h => HCONS.out (HW.out.2 ⟨of_decide_eq_true h3, h⟩), fun h => (HW.out.1 h.2.2.2).2⟩)
                go_wp2
                go_ret
                exact ⟨b4, rfl, HV.out, HBW.out⟩
end Go.Proofs.YtelhmacfljffhabGreat.RepC
end
