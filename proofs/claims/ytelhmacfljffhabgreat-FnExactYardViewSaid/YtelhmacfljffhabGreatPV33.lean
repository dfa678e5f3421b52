/- Of this claim's texts the part 33: YaD3. -/
import Derived.Test.YtelhmacfljffhabGreatPV0
import Derived.Test.YtelhmacfljffhabGreatPV1
import Derived.Test.YtelhmacfljffhabGreatPV2
import Derived.Test.YtelhmacfljffhabGreatPV3
import Derived.Test.YtelhmacfljffhabGreatPV4
import Derived.Test.YtelhmacfljffhabGreatPV5
import Derived.Test.YtelhmacfljffhabGreatPV6
import Derived.Test.YtelhmacfljffhabGreatPV7
import Derived.Test.YtelhmacfljffhabGreatPV8
import Derived.Test.YtelhmacfljffhabGreatPV9
import Derived.Test.YtelhmacfljffhabGreatPV10
import Derived.Test.YtelhmacfljffhabGreatPV11
import Derived.Test.YtelhmacfljffhabGreatPV12
import Derived.Test.YtelhmacfljffhabGreatPV13
import Derived.Test.YtelhmacfljffhabGreatPV14
import Derived.Test.YtelhmacfljffhabGreatPV15
import Derived.Test.YtelhmacfljffhabGreatPV16
import Derived.Test.YtelhmacfljffhabGreatPV17
import Derived.Test.YtelhmacfljffhabGreatPV18
import Derived.Test.YtelhmacfljffhabGreatPV19
import Derived.Test.YtelhmacfljffhabGreatPV20
import Derived.Test.YtelhmacfljffhabGreatPV21
import Derived.Test.YtelhmacfljffhabGreatPV22
import Derived.Test.YtelhmacfljffhabGreatPV23
import Derived.Test.YtelhmacfljffhabGreatPV29
import Derived.Test.YtelhmacfljffhabGreatPV30
import Derived.Test.YtelhmacfljffhabGreatPV31
import Derived.Test.YtelhmacfljffhabGreatPV32
section
namespace Go.Proofs.YtelhmacfljffhabGreat.RepC
open Go.RowKit RowC ValC SpanC KeptC NameC CfC
set_option linter.unusedVariables false
set_option linter.unusedSimpArgs false
set_option maxRecDepth 100000 in
set_option maxHeartbeats 3200000 in
theorem nodesfit_impl {C : List (List D_Label)} {P : List D_Pair} {Q : List D_Quota} {hf : Int} {ca pa qa : Option Addr} {cc pc qc : Nat} {N : List D_Node} {T : List D_Task} {U : List D_Use} {now : Int} {na ta ua : Option Addr} {nc tc uc : Nat} {x0 x1 x2 : Int} {x3 : ByteArray} {x4 x5 x6 x7 x8 x9 x10 x11 x12 : Int} {M : List Int} {ma : Option Addr} {mc : Nat} {W : World} (h6 : C.length ≤ 6) (hC : RdSl (Sl R_Label) W W.heap.size C ca cc) (hM : RdSl I W W.heap.size M ma mc) :
    Calls Tryz.prog 118 #[.agg #[.slice ca C.length cc, .slice pa P.length pc, .slice qa Q.length qc, .int .i64 hf, .slice na N.length nc, .slice ta T.length tc, .slice ua U.length uc, .int .i64 now], .agg #[.int .i64 x0, .int .i64 x1, .int .i64 x2, .string x3, .int .i64 x4, .int .i64 x5, .int .i64 x6, .int .i64 x7, .int .i64 x8, .int .i64 x9, .int .i64 x10, .int .i64 x11, .int .i64 x12, .slice ma M.length mc]] W (ResB ((∀ n ∈ M, n ∈ nodesOf C (x0, x1)) ∧ x4 ≤ ((nodesOf C (x0, x1)).length : Int)) W) := by
  have hMn : M.length ≤ 9223372036854775807 := by have h1 := hM.1; have h2 := hM.2.1; unfold maxLen at h2; omega
  obtain ⟨K, hK⟩ : ∃ K, nodesOf C (x0, x1) = K := ⟨_, rfl⟩
  have HK := Lib.hid hK
  have hKn : K.length ≤ 6 := by rw [← hK]; exact Nat.le_trans (nodesTo_len C _ _) h6
  rw [hK]
  clear hK
  obtain ⟨w0, hw0⟩ : ∃ w, w = (W.alloc (.cells #[.slice ca C.length cc, .slice pa P.length pc, .slice qa Q.length qc, .int .i64 hf, .slice na N.length nc, .slice ta T.length tc, .slice ua U.length uc, .int .i64 now] 45)).alloc (.cells #[.int .i64 x0, .int .i64 x1, .int .i64 x2, .string x3, .int .i64 x4, .int .i64 x5, .int .i64 x6, .int .i64 x7, .int .i64 x8, .int .i64 x9, .int .i64 x10, .int .i64 x11, .int .i64 x12, .slice ma M.length mc] 66) := ⟨_, rfl⟩
  have hb0 : Below W.heap.size W w0 := by rw [hw0]; exact ((Below.refl _ _).alloc (Nat.le_refl _) _).alloc (by simp) _
  have x0_ : Blk w0 (W.heap.size) 45 #[.slice ca C.length cc, .slice pa P.length pc, .slice qa Q.length qc, .int .i64 hf, .slice na N.length nc, .slice ta T.length tc, .slice ua U.length uc, .int .i64 now] := by
    have h9 := Blk.new W 45 #[.slice ca C.length cc, .slice pa P.length pc, .slice qa Q.length qc, .int .i64 hf, .slice na N.length nc, .slice ta T.length tc, .slice ua U.length uc, .int .i64 now]
    try simp only [World.size_alloc] at h9
    rw [hw0]; exact (h9.alloc _)
  have X0 := Lib.hid x0_
  have x1_ : Blk w0 (W.heap.size + 1) 66 #[.int .i64 x0, .int .i64 x1, .int .i64 x2, .string x3, .int .i64 x4, .int .i64 x5, .int .i64 x6, .int .i64 x7, .int .i64 x8, .int .i64 x9, .int .i64 x10, .int .i64 x11, .int .i64 x12, .slice ma M.length mc] := by
    have h9 := Blk.new (W.alloc (.cells #[.slice ca C.length cc, .slice pa P.length pc, .slice qa Q.length qc, .int .i64 hf, .slice na N.length nc, .slice ta T.length tc, .slice ua U.length uc, .int .i64 now] 45)) 66 #[.int .i64 x0, .int .i64 x1, .int .i64 x2, .string x3, .int .i64 x4, .int .i64 x5, .int .i64 x6, .int .i64 x7, .int .i64 x8, .int .i64 x9, .int .i64 x10, .int .i64 x11, .int .i64 x12, .slice ma M.length mc]
    try simp only [World.size_alloc] at h9
    rw [hw0]; exact h9
  have X1 := Lib.hid x1_
  have HC := Lib.hid (rd_mv (Sl_ok R_Label_ok) hC hb0)
  have HM := Lib.hid (rd_mv I_ok hM hb0)
  have HB0 := Lib.hid hb0
  have hz0 := hb0.size
  clear hb0 hC hM x0_ x1_
  go_enter Tryz.func118, Tryz.ntmps118
  go_upto_region 1 with fail
  rw [← hw0]
  clear hw0
  have qX0_0 := X0.out.at_ 0 rfl
  have qX0_1 := X0.out.at_ 1 rfl
  have qX0_2 := X0.out.at_ 2 rfl
  have qX0_3 := X0.out.at_ 3 rfl
  have qX0_4 := X0.out.at_ 4 rfl
  have qX0_5 := X0.out.at_ 5 rfl
  have qX0_6 := X0.out.at_ 6 rfl
  have qX0_7 := X0.out.at_ 7 rfl
  have qX1_0 := X1.out.at_ 0 rfl
  have qX1_1 := X1.out.at_ 1 rfl
  have qX1_2 := X1.out.at_ 2 rfl
  have qX1_3 := X1.out.at_ 3 rfl
  have qX1_4 := X1.out.at_ 4 rfl
  have qX1_5 := X1.out.at_ 5 rfl
  have qX1_6 := X1.out.at_ 6 rfl
  have qX1_7 := X1.out.at_ 7 rfl
  have qX1_8 := X1.out.at_ 8 rfl
  have qX1_9 := X1.out.at_ 9 rfl
  have qX1_10 := X1.out.at_ 10 rfl
  have qX1_11 := X1.out.at_ 11 rfl
  have qX1_12 := X1.out.at_ 12 rfl
  have qX1_13 := X1.out.at_ 13 rfl
  go_wp2_with fail
  have hop := opennodes_impl (P := P) (Q := Q) (hf := hf) (pa := pa) (qa := qa) (pc := pc) (qc := qc) (l := x0) (s := x1) h6 HC.out
  rw [HK.out] at hop
  refine hop.mono ?_
  intro e w1 h
  obtain ⟨la, lc, rfl, ho, hb⟩ := newS_elim h
  have HL := Lib.hid (ho.rd I_ok (B := w1.heap.size) fun k hk => hk.2)
  have HB1 := Lib.hid (HB0.out.trans (hb.mono hz0))
  have Z1 := Lib.hid (X1.out.call hb)
  have HM1 := Lib.hid (rd_mv I_ok HM.out hb)
  have hz1 := HB1.out.size
  clear h ho hop hb qX0_0 qX0_1 qX0_2 qX0_3 qX0_4 qX0_5 qX0_6 qX0_7 qX1_0 qX1_1 qX1_2 qX1_3 qX1_4 qX1_5 qX1_6 qX1_7 qX1_8 qX1_9 qX1_10 qX1_11 qX1_12 qX1_13
  have q13 := Z1.out.at_ 13 rfl
  go_wp2
  go_loopw [16] (fun i wr => ∃ k : Nat, k ≤ M.length ∧ i = .int .i64 k ∧ Hid (∀ (j : Nat) n, j < k → M[j]? = some n → n ∈ K) ∧ Below w1.heap.size w1 wr) (fun i _ => M.length - (intOf i).toNat)
  case atStart => exact ⟨0, Nat.zero_le _, rfl, Lib.hid fun j n h => absurd h (Nat.not_lt_zero _), Below.refl _ _⟩
  case round =>
    obtain ⟨k, hk, rfl, HA, hB⟩ := hrel
    have HB := Lib.hid hB
    have HBW := Lib.hid (HB1.out.trans (hB.mono hz1))
    have hsz := hB.size
    by_cases hlt : k < M.length
    · have hdl : decide ((k : Int) < (M.length : Int)) = true := decide_eq_true (by omega)
      obtain ⟨n, hx⟩ := el_some hlt
      have HX := Lib.hid hx
      obtain ⟨g, o, us, rfl, hg, hu, hr⟩ := (rd_mv I_ok HM1.out hB).at_ hx
      obtain rfl : us = [_] := hr
      have e0 : wr.cell? ⟨g, o + k, none⟩ = some (.int .i64 n) := by simpa [show I.size = 1 from rfl] using hu 0 _ rfl
      have hi0 : (0 : Int) ≤ (k : Int) := Int.natCast_nonneg _
      have hi1 : (k : Int) < (M.length : Int) := by omega
      have HL2 := Lib.hid (rd_mv I_ok HL.out hB)
      clear hB hx hu hg q13
      go_wp2_with fail
      refine (contains_int HL2.out).mono ?_
      intro e w2 h
      obtain ⟨b, rfl, hb, hbl⟩ := resB_elim h
      have HMB := Lib.hid hb
      have HB2 := Lib.hid (HB.out.trans (hbl.mono hsz))
      have HBW2 := Lib.hid (HBW.out.trans (hbl.mono HBW.out.size))
      clear h hb hbl e0
      cases b with
      | false =>
        have HV := Lib.hid (show ¬ ((∀ n ∈ M, n ∈ K) ∧ x4 ≤ ((K).length : Int)) from fun h => by have := HMB.out.2 (h.1 n (List.mem_of_getElem? HX.out)); cases this)
        go_wp2
        go_ret
        exact resB_no HV.out HBW2.out
      | true =>
        have HA2 := Lib.hid (show ∀ (j : Nat) n, j < k + 1 → M[j]? = some n → n ∈ K from fun j n hj hn => by
          by_cases e : j = k
          · subst e; rw [HX.out] at hn; cases hn; exact HMB.out.1 rfl
          · exact HA.out j n (by omega) hn)
        go_wp2
        go_roundw
        case rel => exact ⟨k + 1, by omega, by go_num, HA2, HB2.out⟩
        case measure => simp [intOf]; omega
    · have hdl : decide ((k : Int) < (M.length : Int)) = false := decide_eq_false (by omega)
      obtain rfl : k = M.length := by omega
      have HALL := Lib.hid (show ∀ n ∈ M, n ∈ K from fun n hn => by
        obtain ⟨j, hj, rfl⟩ := List.mem_iff_getElem.1 hn
        exact HA.out j _ hj (List.getElem?_eq_getElem hj))
      have Z2 := Lib.hid (Z1.out.call hB)
      have p4 := Z2.out.at_ 4 rfl
      obtain ⟨b, hb⟩ : ∃ b, decide (x4 ≤ (K.length : Int)) = b := ⟨_, rfl⟩
      have HV := Lib.hid (show b = true ↔ ((∀ n ∈ M, n ∈ K) ∧ x4 ≤ ((K).length : Int)) from by rw [← hb, decide_eq_true_eq]; exact ⟨fun h => ⟨HALL.out, h⟩, fun h => h.2⟩)
      clear hB q13
      go_wp2
      go_ret
      exact ⟨b, rfl, HV.out, HBW.out⟩
set_option maxRecDepth 100000 in
set_option maxHeartbeats 3200000 in
theorem startfits_impl {C : List (List D_Label)} {P : List D_Pair} {Q : List D_Quota} {hf : Int} {ca pa qa : Option Addr} {cc pc qc : Nat} {N : List D_Node} {T : List D_Task} {U : List D_Use} {now : Int} {na ta ua : Option Addr} {nc tc uc : Nat} {x0 x1 x2 : Int} {x3 : ByteArray} {x4 x5 x6 x7 x8 x9 x10 x11 x12 : Int} {M : List Int} {ma : Option Addr} {mc : Nat} {W : World} (hst : 0 ≤ x12 ∧ x12 ≤ 1000000) (hlg : 1 ≤ x5 ∧ x5 ≤ 20) (hnow : 0 ≤ now ∧ now ≤ 999900) :
    Calls Tryz.prog 119 #[.agg #[.slice ca C.length cc, .slice pa P.length pc, .slice qa Q.length qc, .int .i64 hf, .slice na N.length nc, .slice ta T.length tc, .slice ua U.length uc, .int .i64 now], .agg #[.int .i64 x0, .int .i64 x1, .int .i64 x2, .string x3, .int .i64 x4, .int .i64 x5, .int .i64 x6, .int .i64 x7, .int .i64 x8, .int .i64 x9, .int .i64 x10, .int .i64 x11, .int .i64 x12, .slice ma M.length mc]] W (ResB (startT now ((x0, x1), x2, x3, x4, x5, x6, (x7, x8), x9, x10, x11, x12, M)) W) := by
  have e1 : IntKind.i64.wrap (x12 + 1 + x5 - 1) = x12 + 1 + x5 - 1 := IntWalk.i64_in _ (by omega)
  have e2 : IntKind.i64.wrap (now + 1) = now + 1 := IntWalk.i64_in _ (by omega)
  have e3 : IntKind.i64.wrap (now + 40) = now + 40 := IntWalk.i64_in _ (by omega)
  obtain ⟨br, hbr⟩ : ∃ b, (x11 == 2) = b := ⟨_, rfl⟩
  obtain ⟨bp, hbp⟩ : ∃ b, decide (0 < M.length) = b := ⟨_, rfl⟩
  obtain ⟨b3, h3⟩ : ∃ b, isB now x12 (x12 + 1 + x5 - 1) = b := ⟨_, rfl⟩
  obtain ⟨b4, h4⟩ : ∃ b, isB x12 (now + 1) (now + 40) = b := ⟨_, rfl⟩
  have HR := Lib.hid hbr
  have HPl := Lib.hid hbp
  have H3 := Lib.hid h3
  have H4 := Lib.hid h4
  clear hbr hbp h3 h4
  obtain ⟨w0, hw0⟩ : ∃ w, w = (W.alloc (.cells #[.slice ca C.length cc, .slice pa P.length pc, .slice qa Q.length qc, .int .i64 hf, .slice na N.length nc, .slice ta T.length tc, .slice ua U.length uc, .int .i64 now] 45)).alloc (.cells #[.int .i64 x0, .int .i64 x1, .int .i64 x2, .string x3, .int .i64 x4, .int .i64 x5, .int .i64 x6, .int .i64 x7, .int .i64 x8, .int .i64 x9, .int .i64 x10, .int .i64 x11, .int .i64 x12, .slice ma M.length mc] 66) := ⟨_, rfl⟩
  have hb0 : Below W.heap.size W w0 := by rw [hw0]; exact ((Below.refl _ _).alloc (Nat.le_refl _) _).alloc (by simp) _
  have x0_ : Blk w0 (W.heap.size) 45 #[.slice ca C.length cc, .slice pa P.length pc, .slice qa Q.length qc, .int .i64 hf, .slice na N.length nc, .slice ta T.length tc, .slice ua U.length uc, .int .i64 now] := by
    have h9 := Blk.new W 45 #[.slice ca C.length cc, .slice pa P.length pc, .slice qa Q.length qc, .int .i64 hf, .slice na N.length nc, .slice ta T.length tc, .slice ua U.length uc, .int .i64 now]
    try simp only [World.size_alloc] at h9
    rw [hw0]; exact (h9.alloc _)
  have X0 := Lib.hid x0_
  have x1_ : Blk w0 (W.heap.size + 1) 66 #[.int .i64 x0, .int .i64 x1, .int .i64 x2, .string x3, .int .i64 x4, .int .i64 x5, .int .i64 x6, .int .i64 x7, .int .i64 x8, .int .i64 x9, .int .i64 x10, .int .i64 x11, .int .i64 x12, .slice ma M.length mc] := by
    have h9 := Blk.new (W.alloc (.cells #[.slice ca C.length cc, .slice pa P.length pc, .slice qa Q.length qc, .int .i64 hf, .slice na N.length nc, .slice ta T.length tc, .slice ua U.length uc, .int .i64 now] 45)) 66 #[.int .i64 x0, .int .i64 x1, .int .i64 x2, .string x3, .int .i64 x4, .int .i64 x5, .int .i64 x6, .int .i64 x7, .int .i64 x8, .int .i64 x9, .int .i64 x10, .int .i64 x11, .int .i64 x12, .slice ma M.length mc]
    try simp only [World.size_alloc] at h9
    rw [hw0]; exact h9
  have X1 := Lib.hid x1_
  have HB0 := Lib.hid hb0
  have hz0 := hb0.size
  clear hb0  x0_ x1_
  go_enter Tryz.func119, Tryz.ntmps119
  go_upto_region 1 with fail
  rw [← hw0]
  clear hw0
  have qX1_0 := X1.out.at_ 0 rfl
  have qX1_1 := X1.out.at_ 1 rfl
  have qX1_2 := X1.out.at_ 2 rfl
  have qX1_3 := X1.out.at_ 3 rfl
  have qX1_4 := X1.out.at_ 4 rfl
  have qX1_5 := X1.out.at_ 5 rfl
  have qX1_6 := X1.out.at_ 6 rfl
  have qX1_7 := X1.out.at_ 7 rfl
  have qX1_8 := X1.out.at_ 8 rfl
  have qX1_9 := X1.out.at_ 9 rfl
  have qX1_10 := X1.out.at_ 10 rfl
  have qX1_11 := X1.out.at_ 11 rfl
  have qX1_12 := X1.out.at_ 12 rfl
  have qX1_13 := X1.out.at_ 13 rfl
  go_wp2_with fail
  refine (runsI_at HR.out _).mono ?_
  rintro e w1 ⟨rfl, hb⟩
  have HB1 := Lib.hid (HB0.out.trans (hb.mono hz0))
  have Z0 := Lib.hid (X0.out.call hb)
  have Z1 := Lib.hid (X1.out.call hb)
  have hz1 := HB1.out.size
  clear hb qX1_0 qX1_1 qX1_2 qX1_3 qX1_4 qX1_5 qX1_6 qX1_7 qX1_8 qX1_9 qX1_10 qX1_11 qX1_12 qX1_13
  cases br with
  | true =>
    have HRUN := Lib.hid (startT_run (now := now) (x := ((x0, x1), x2, x3, x4, x5, x6, (x7, x8), x9, x10, x11, x12, M)) (beq_iff_eq.1 HR.out))
    go_upto_region 2 with fail
    refine wp_region_held_drew (S := (fun V => Below (w1).heap.size (w1) V)) (by kernel_rfl) ((Below.refl _ _).drew) (fun hHeld => ?_)
    refine tk 0 hHeld ?_
    refine tk 1 hHeld ?_ (hy := fun w hSw => by (try dsimp only at hSw); have k0 := (hSw.cell (p := ⟨W.heap.size, 7, none⟩) Z0.out.lt).trans (Z0.out.at_ 7 rfl); clear hSw; go_simp; try with_reducible rfl)
    refine tk 2 hHeld ?_
    refine tk 3 hHeld ?_ (hy := fun w hSw => by (try dsimp only at hSw); have k0 := (hSw.cell (p := ⟨W.heap.size + 1, 12, none⟩) Z1.out.lt).trans (Z1.out.at_ 12 rfl); clear hSw; go_simp; try with_reducible rfl)
    refine tk 4 hHeld ?_ (hy := fun w hSw => by (try dsimp only at hSw); have k0 := (hSw.cell (p := ⟨W.heap.size + 1, 0, none⟩) Z1.out.lt).trans (Z1.out.at_ 0 rfl); have k1 := (hSw.cell (p := ⟨W.heap.size + 1, 1, none⟩) Z1.out.lt).trans (Z1.out.at_ 1 rfl); have k2 := (hSw.cell (p := ⟨W.heap.size + 1, 2, none⟩) Z1.out.lt).trans (Z1.out.at_ 2 rfl); have k3 := (hSw.cell (p := ⟨W.heap.size + 1, 3, none⟩) Z1.out.lt).trans (Z1.out.at_ 3 rfl); have k4 := (hSw.cell (p := ⟨W.heap.size + 1, 4, none⟩) Z1.out.lt).trans (Z1.out.at_ 4 rfl); have k5 := (hSw.cell (p := ⟨W.heap.size + 1, 5, none⟩) Z1.out.lt).trans (Z1.out.at_ 5 rfl); have k6 := (hSw.cell (p := ⟨W.heap.size + 1, 6, none⟩) Z1.out.lt).trans (Z1.out.at_ 6 rfl); have k7 := (hSw.cell (p := ⟨W.heap.size + 1, 7, none⟩) Z1.out.lt).trans (Z1.out.at_ 7 rfl); have k8 := (hSw.cell (p := ⟨W.heap.size + 1, 8, none⟩) Z1.out.lt).trans (Z1.out.at_ 8 rfl); have k9 := (hSw.cell (p := ⟨W.heap.size + 1, 9, none⟩) Z1.out.lt).trans (Z1.out.at_ 9 rfl); have k10 := (hSw.cell (p := ⟨W.heap.size + 1, 10, none⟩) Z1.out.lt).trans (Z1.out.at_ 10 rfl); have k11 := (hSw.cell (p := ⟨W.heap.size + 1, 11, none⟩) Z1.out.lt).trans (Z1.out.at_ 11 rfl); have k12 := (hSw.cell (p := ⟨W.heap.size + 1, 12, none⟩) Z1.out.lt).trans (Z1.out.at_ 12 rfl); have k13 := (hSw.cell (p := ⟨W.heap.size + 1, 13, none⟩) Z1.out.lt).trans (Z1.out.at_ 13 rfl); clear hSw; go_simp; try with_reducible rfl)
    refine rd1 5 (fun K hK => ?_)
    go_simp
    go_at_call 154
    refine (endI_at hst hlg).mono ?_
    rintro e w5 ⟨rfl, hb⟩
    refine hK.out _ _ (hHeld.trans (hb.mono hHeld.size)) (fun hHeld => ?_)
    clear hK K hb
    refine tk 6 hHeld ?_
    refine rd1 7 (fun K hK => ?_)
    go_simp
    go_at_call 109
    refine (wi_at _ _ _ H3.out _).mono ?_
    rintro e w6 ⟨rfl, rfl⟩
    have hb := Below.refl w5.heap.size w5
    refine hK.out _ _ (hHeld.trans (hb.mono hHeld.size)) (fun hHeld => ?_)
    clear hK K hb
    refine tk 8 hHeld ?_
    refine rd0 ?_
    have HF := Lib.hid hHeld
    clear hHeld
    have HBX := Lib.hid (HB1.out.trans (HF.out.mono hz1))
    clear HF
    have HV := Lib.hid (show b3 = true ↔ startT now ((x0, x1), x2, x3, x4, x5, x6, (x7, x8), x9, x10, x11, x12, M) from by
      rw [← H3.out, isB_iff, HRUN.out]
      show _ ↔ x12 ≤ now ∧ now < x12 + 1 + x5
      omega)
    go_wp2
    go_ret
    exact ⟨b3, rfl, HV.out, HBX.out⟩
  | false =>
    have qZ1_0 := Z1.out.at_ 0 rfl
    have qZ1_1 := Z1.out.at_ 1 rfl
    have qZ1_2 := Z1.out.at_ 2 rfl
    have qZ1_3 := Z1.out.at_ 3 rfl
    have qZ1_4 := Z1.out.at_ 4 rfl
    have qZ1_5 := Z1.out.at_ 5 rfl
    have qZ1_6 := Z1.out.at_ 6 rfl
    have qZ1_7 := Z1.out.at_ 7 rfl
    have qZ1_8 := Z1.out.at_ 8 rfl
    have qZ1_9 := Z1.out.at_ 9 rfl
    have qZ1_10 := Z1.out.at_ 10 rfl
    have qZ1_11 := Z1.out.at_ 11 rfl
    have qZ1_12 := Z1.out.at_ 12 rfl
    have qZ1_13 := Z1.out.at_ 13 rfl
    go_wp2_with fail
    refine (placeI_at HPl.out _).mono ?_
    rintro e w2 ⟨rfl, hb⟩
    have HB2 := Lib.hid (HB1.out.trans (hb.mono hz1))
    have V0 := Lib.hid (Z0.out.call hb)
    have V1 := Lib.hid (Z1.out.call hb)
    clear hb qZ1_0 qZ1_1 qZ1_2 qZ1_3 qZ1_4 qZ1_5 qZ1_6 qZ1_7 qZ1_8 qZ1_9 qZ1_10 qZ1_11 qZ1_12 qZ1_13
    cases bp with
    | true =>
      have HW := Lib.hid (startT_wait (now := now) (x := ((x0, x1), x2, x3, x4, x5, x6, (x7, x8), x9, x10, x11, x12, M)) (beq_eq_false_iff_ne.1 HR.out) (by have := of_decide_eq_true HPl.out; show M.length ≠ 0; omega))
      have v7 := V0.out.at_ 7 rfl
      have v12 := V1.out.at_ 12 rfl
      go_wp2_with fail
      refine (wi_at _ _ _ H4.out _).mono ?_
      rintro e w3 ⟨rfl, rfl⟩
      have HV := Lib.hid (show b4 = true ↔ startT now ((x0, x1), x2, x3, x4, x5, x6, (x7, x8), x9, x10, x11, x12, M) from by
        rw [← H4.out, isB_iff, HW.out]
        show _ ↔ now < x12 ∧ x12 ≤ now + 40
        omega)
      go_wp2
      go_ret
      exact ⟨b4, rfl, HV.out, HB2.out⟩
    | false =>
      have HV := Lib.hid (show startT now ((x0, x1), x2, x3, x4, x5, x6, (x7, x8), x9, x10, x11, x12, M) from startT_none (beq_eq_false_iff_ne.1 HR.out) (by have := of_decide_eq_false HPl.out; show M.length = 0; omega))
      go_wp2
      go_ret
      exact resB_yes HV.out HB2.out
end Go.Proofs.YtelhmacfljffhabGreat.RepC
end
