/- Of this claim's texts the part 39: YaD5. -/
import Derived.Test.YtelhmacfljffhabGreatPV0
import Derived.Test.YtelhmacfljffhabGreatPV1
import Derived.Test.YtelhmacfljffhabGreatPV2
import Derived.Test.YtelhmacfljffhabGreatPV3
import Derived.Test.YtelhmacfljffhabGreatPV4
import Derived.Test.YtelhmacfljffhabGreatPV5
import Derived.Test.YtelhmacfljffhabGreatPV6
import Derived.Test.YtelhmacfljffhabGreatPV7
import Derived.Test.YtelhmacfljffhabGreatPV8
import Derived.Test.YtelhmacfljffhabGreatPV9
import Derived.Test.YtelhmacfljffhabGreatPV10
import Derived.Test.YtelhmacfljffhabGreatPV11
import Derived.Test.YtelhmacfljffhabGreatPV12
import Derived.Test.YtelhmacfljffhabGreatPV13
import Derived.Test.YtelhmacfljffhabGreatPV14
import Derived.Test.YtelhmacfljffhabGreatPV15
import Derived.Test.YtelhmacfljffhabGreatPV16
import Derived.Test.YtelhmacfljffhabGreatPV17
import Derived.Test.YtelhmacfljffhabGreatPV18
import Derived.Test.YtelhmacfljffhabGreatPV19
import Derived.Test.YtelhmacfljffhabGreatPV20
import Derived.Test.YtelhmacfljffhabGreatPV21
import Derived.Test.YtelhmacfljffhabGreatPV22
import Derived.Test.YtelhmacfljffhabGreatPV23
import Derived.Test.YtelhmacfljffhabGreatPV26
import Derived.Test.YtelhmacfljffhabGreatPV27
import Derived.Test.YtelhmacfljffhabGreatPV29
import Derived.Test.YtelhmacfljffhabGreatPV30
import Derived.Test.YtelhmacfljffhabGreatPV31
import Derived.Test.YtelhmacfljffhabGreatPV32
import Derived.Test.YtelhmacfljffhabGreatPV33
import Derived.Test.YtelhmacfljffhabGreatPV34
import Derived.Test.YtelhmacfljffhabGreatPV35
import Derived.Test.YtelhmacfljffhabGreatPV36
import Derived.Test.YtelhmacfljffhabGreatPV37
import Derived.Test.YtelhmacfljffhabGreatPV38
section
namespace Go.Proofs.YtelhmacfljffhabGreat.RepC
open Go.RowKit RowC ValC SpanC KeptC NameC CfC
set_option linter.unusedVariables false
set_option linter.unusedSimpArgs false
set_option maxRecDepth 100000 in
set_option maxHeartbeats 6400000 in
theorem labelsfit_impl {C : List (List D_Label)} {P : List D_Pair} {Q : List D_Quota} {hf : Int} {ca pa qa : Option Addr} {cc pc qc : Nat} {N : List D_Node} {T : List D_Task} {U : List D_Use} {now : Int} {na ta ua : Option Addr} {nc tc uc : Nat} {W : World} (hcl : ClearR C) (h96 : T.length ≤ 96) (hC : RdSl (Sl R_Label) W W.heap.size C ca cc) (hQ : RdSl R_Quota W W.heap.size Q qa qc) (hT : RdSl R_Task W W.heap.size T ta tc) (hU : RdSl R_Use W W.heap.size U ua uc) :
    Calls Tryz.prog 68 #[.agg #[.slice ca C.length cc, .slice pa P.length pc, .slice qa Q.length qc, .int .i64 hf, .slice na N.length nc, .slice ta T.length tc, .slice ua U.length uc, .int .i64 now]] W (ResB (quotasIn C Q T ∧ usesIn C U) W) := by
  have hUn : U.length ≤ 9223372036854775807 := by have h1 := hU.1; have h2 := hU.2.1; unfold maxLen at h2; omega
  obtain ⟨K, hK⟩ : ∃ K, labsOf C = K := ⟨_, rfl⟩
  have HKK := Lib.hid hK
  have hKn : K.length ≤ 32 := by rw [← hK]; exact labsTo_len C 32
  clear hK
  obtain ⟨w0, hw0⟩ : ∃ w, w = W.alloc (.cells #[.slice ca C.length cc, .slice pa P.length pc, .slice qa Q.length qc, .int .i64 hf, .slice na N.length nc, .slice ta T.length tc, .slice ua U.length uc, .int .i64 now] 45) := ⟨_, rfl⟩
  have hb0 : Below W.heap.size W w0 := by rw [hw0]; exact (Below.refl _ _).alloc (Nat.le_refl _) _
  have x0_ : Blk w0 (W.heap.size) 45 #[.slice ca C.length cc, .slice pa P.length pc, .slice qa Q.length qc, .int .i64 hf, .slice na N.length nc, .slice ta T.length tc, .slice ua U.length uc, .int .i64 now] := by
    have h9 := Blk.new W 45 #[.slice ca C.length cc, .slice pa P.length pc, .slice qa Q.length qc, .int .i64 hf, .slice na N.length nc, .slice ta T.length tc, .slice ua U.length uc, .int .i64 now]
    try simp only [World.size_alloc] at h9
    rw [hw0]; exact h9
  have X0 := Lib.hid x0_
  have HC := Lib.hid (rd_mv (Sl_ok R_Label_ok) hC hb0)
  have HQ := Lib.hid (rd_mv R_Quota_ok hQ hb0)
  have HT := Lib.hid (rd_mv R_Task_ok hT hb0)
  have HU := Lib.hid (rd_mv R_Use_ok hU hb0)
  have HB0 := Lib.hid hb0
  have hz0 := hb0.size
  clear hb0 hC hQ hT hU x0_
  go_enter Tryz.func68, Tryz.ntmps68
  go_upto_region 1 with fail
  rw [← hw0]
  clear hw0
  have qX0_0 := X0.out.at_ 0 rfl
  have qX0_1 := X0.out.at_ 1 rfl
  have qX0_2 := X0.out.at_ 2 rfl
  have qX0_3 := X0.out.at_ 3 rfl
  have qX0_4 := X0.out.at_ 4 rfl
  have qX0_5 := X0.out.at_ 5 rfl
  have qX0_6 := X0.out.at_ 6 rfl
  have qX0_7 := X0.out.at_ 7 rfl
  go_wp2_with fail
  have hlb := labs_impl hcl HC.out
  rw [HKK.out] at hlb
  refine hlb.mono ?_
  intro e w1 h
  obtain ⟨la, lc, rfl, ho, hb⟩ := newS_elim h
  have HL := Lib.hid (ho.rd R_Label_ok (B := w1.heap.size) fun k hk => hk.2)
  have HB1 := Lib.hid (HB0.out.trans (hb.mono hz0))
  have Z1 := Lib.hid (X0.out.call hb)
  have HQ1 := Lib.hid (rd_mv R_Quota_ok HQ.out hb)
  have HT1 := Lib.hid (rd_mv R_Task_ok HT.out hb)
  have HU1 := Lib.hid (rd_mv R_Use_ok HU.out hb)
  have hz1 := HB1.out.size
  clear h ho hlb hb qX0_0 qX0_1 qX0_2 qX0_3 qX0_4 qX0_5 qX0_6 qX0_7
  go_wp2
  go_loopw [14] (fun i wr => ∃ j : Nat, j ≤ K.length ∧ i = .int .i64 j ∧ Hid (∀ (q : Nat) a, q < j → K[q]? = some a → (liveTo T a T.length : Int) ≤ quotaIn Q a) ∧ Below w1.heap.size w1 wr) (fun i _ => K.length - (intOf i).toNat)
  case atStart => exact ⟨0, Nat.zero_le _, rfl, Lib.hid fun q u h => absurd h (Nat.not_lt_zero _), Below.refl _ _⟩
  case round =>
    obtain ⟨i, hi, rfl, HQA, hB⟩ := hrel
    obtain ⟨wo, rfl⟩ : ∃ x, x = wr := ⟨_, rfl⟩
    have HB := Lib.hid hB
    have hsz := hB.size
    have HBW := Lib.hid (HB1.out.trans (hB.mono hz1))
    have Z2 := Lib.hid (Z1.out.call hB)
    by_cases hil : i < K.length
    · have hdi : decide ((i : Int) < (K.length : Int)) = true := decide_eq_true (by omega)
      obtain ⟨⟨l0, l1⟩, hl⟩ := el_some hil
      have HX := Lib.hid hl
      obtain ⟨gl, ol, usl, rfl, hgl, hul, hrl⟩ := (rd_mv R_Label_ok HL.out hB).at_ hl
      obtain rfl := rd_Label hrl
      have e0 : wo.cell? ⟨gl, ol + i * 2, none⟩ = some (.int .i64 l0) := by simpa [size_LabelS, Nat.add_assoc] using hul 0 _ rfl
      have e1 : wo.cell? ⟨gl, ol + i * 2 + 1, none⟩ = some (.int .i64 l1) := by simpa [size_LabelS, Nat.add_assoc] using hul 1 _ rfl
      have hi0 : (0 : Int) ≤ (i : Int) := Int.natCast_nonneg _
      have hi1 : (i : Int) < (K.length : Int) := by omega
      obtain ⟨w2, hw2⟩ : ∃ w, w = wo.alloc (.cells #[.int .i64 l0, .int .i64 l1] 47) := ⟨_, rfl⟩
      have hb2 : Below wo.heap.size wo w2 := by rw [hw2]; exact (Below.refl _ _).alloc (Nat.le_refl _) _
      have Y2 := Lib.hid (show Blk w2 wo.heap.size 47 #[.int .i64 l0, .int .i64 l1] from by rw [hw2]; exact Blk.new _ _ _)
      have Z3 := Lib.hid (Z2.out.call hb2)
      have HB2 := Lib.hid (HB.out.trans (hb2.mono hsz))
      have hsz2 := HB2.out.size
      have HBW2 := Lib.hid (HBW.out.trans (hb2.mono HBW.out.size))
      have HQ2 := Lib.hid (rd_mv R_Quota_ok (rd_mv R_Quota_ok HQ1.out hB) hb2)
      have HT2 := Lib.hid (rd_mv R_Task_ok (rd_mv R_Task_ok HT1.out hB) hb2)
      obtain ⟨n1, hn1⟩ : ∃ n, liveTo T (l0, l1) T.length = n := ⟨_, rfl⟩
      obtain ⟨n2, hn2⟩ : ∃ n, quotaIn Q (l0, l1) = n := ⟨_, rfl⟩
      have HN1 := Lib.hid hn1
      have HN2 := Lib.hid hn2
      obtain ⟨c, hc⟩ : ∃ c, decide (n2 < (n1 : Int)) = c := ⟨_, rfl⟩
      clear hB hl hul hgl hb2 hn1 hn2
      go_upto_region 5 with fail
      rw [← hw2]
      clear hw2 e0 e1
      refine wp_region_held_drew (S := (fun V => Below (w2).heap.size (w2) V)) (by kernel_rfl) ((Below.refl _ _).drew) (fun hHeld => ?_)
      refine tk 0 hHeld ?_
      refine tk 1 hHeld ?_ (hy := fun w hSw => by (try dsimp only at hSw); have k0 := (hSw.cell (p := ⟨W.heap.size, 5, none⟩) Z3.out.lt).trans (Z3.out.at_ 5 rfl); clear hSw; go_simp; try with_reducible rfl)
      refine tk 2 hHeld ?_ (hy := fun w hSw => by (try dsimp only at hSw); have k0 := (hSw.cell (p := ⟨wo.heap.size, 0, none⟩) Y2.out.lt).trans (Y2.out.at_ 0 rfl); have k1 := (hSw.cell (p := ⟨wo.heap.size, 1, none⟩) Y2.out.lt).trans (Y2.out.at_ 1 rfl); clear hSw; go_simp; try with_reducible rfl)
      refine tk 4 hHeld ?_
      refine tk 5 hHeld ?_ (hy := fun w hSw => by (try dsimp only at hSw); have k0 := (hSw.cell (p := ⟨W.heap.size, 0, none⟩) Z3.out.lt).trans (Z3.out.at_ 0 rfl); have k1 := (hSw.cell (p := ⟨W.heap.size, 1, none⟩) Z3.out.lt).trans (Z3.out.at_ 1 rfl); have k2 := (hSw.cell (p := ⟨W.heap.size, 2, none⟩) Z3.out.lt).trans (Z3.out.at_ 2 rfl); have k3 := (hSw.cell (p := ⟨W.heap.size, 3, none⟩) Z3.out.lt).trans (Z3.out.at_ 3 rfl); clear hSw; go_simp; try with_reducible rfl)
      refine tk 6 hHeld ?_ (hy := fun w hSw => by (try dsimp only at hSw); have k0 := (hSw.cell (p := ⟨wo.heap.size, 0, none⟩) Y2.out.lt).trans (Y2.out.at_ 0 rfl); have k1 := (hSw.cell (p := ⟨wo.heap.size, 1, none⟩) Y2.out.lt).trans (Y2.out.at_ 1 rfl); clear hSw; go_simp; try with_reducible rfl)
      refine rd1 3 (fun K hK => ?_)
      go_simp
      go_at_call 121
      have hlv := livein_impl (l0 := l0) (l1 := l1) h96 (rd_mv R_Task_ok HT2.out hHeld)
      rw [HN1.out] at hlv
      refine hlv.mono ?_
      intro e w8 h
      obtain ⟨rfl, hb⟩ := isI_elim h
      clear h hlv
      refine hK.out _ _ (hHeld.trans (hb.mono hHeld.size)) (fun hHeld => ?_)
      clear hK K hb
      refine rd1 7 (fun K hK => ?_)
      go_simp
      go_at_call 122
      have hqv := mostlive_impl (C := C) (P := P) (ca := ca) (pa := pa) (cc := cc) (pc := pc) (hf := hf) (l := l0) (s := l1) (rd_mv R_Quota_ok HQ2.out hHeld)
      rw [HN2.out] at hqv
      refine hqv.mono ?_
      intro e w9 h
      obtain ⟨rfl, hb⟩ := isI_elim h
      clear h hqv
      refine hK.out _ _ (hHeld.trans (hb.mono hHeld.size)) (fun hHeld => ?_)
      clear hK K hb
      refine tk 8 hHeld ?_
      refine rd0 ?_
      have HF := Lib.hid hHeld
      clear hHeld
      have HB8 := Lib.hid (HB2.out.trans (HF.out.mono hsz2))
      have HBW8 := Lib.hid (HBW2.out.trans (HF.out.mono HBW2.out.size))
      clear HF
      cases c with
      | true =>
        have HV := Lib.hid (show ¬ (quotasIn C Q T ∧ usesIn C U) from fun h => by have h2 := h.1 i (l0, l1) (by rw [HKK.out]; exact HX.out); rw [HN1.out, HN2.out] at h2; have := of_decide_eq_true hc; omega)
        go_wp2
        go_ret
        exact resB_no HV.out HBW8.out
      | false =>
        have HQA2 := Lib.hid (show ∀ (q : Nat) a, q < i + 1 → K[q]? = some a → (liveTo T a T.length : Int) ≤ quotaIn Q a from fun q a hq ha => by
          by_cases e : q = i
          · subst e; rw [HX.out] at ha; cases ha; rw [HN1.out, HN2.out]; have := of_decide_eq_false hc; omega
          · exact HQA.out q a (by omega) ha)
        clear hc
        go_wp2
        go_roundw
        case rel => exact ⟨i + 1, by omega, by go_num, HQA2, HB8.out⟩
        case measure => simp [intOf]; omega
    · have hdi : decide ((i : Int) < (K.length : Int)) = false := decide_eq_false (by omega)
      obtain rfl : i = K.length := by omega
      have HQI := Lib.hid (show quotasIn C Q T from fun q a ha => by rw [HKK.out] at ha; exact HQA.out q a (List.getElem?_eq_some_iff.1 ha).1 ha)
      have HU2 := Lib.hid (rd_mv R_Use_ok HU1.out hB)
      have HL2 := Lib.hid (rd_mv R_Label_ok HL.out hB)
      have hzo := HBW.out.size
      clear hB
      have z6 := Z2.out.at_ 6 rfl
      go_wp2
      go_loopw [31] (fun i wr => ∃ j : Nat, j ≤ U.length ∧ i = .int .i64 j ∧ Hid (∀ (q : Nat) u, q < j → U[q]? = some u → u.1 ∈ K) ∧ Below wo.heap.size wo wr) (fun i _ => U.length - (intOf i).toNat)
      case atStart => exact ⟨0, Nat.zero_le _, rfl, Lib.hid fun q u h => absurd h (Nat.not_lt_zero _), Below.refl _ _⟩
      case round =>
        obtain ⟨j, hj, rfl, HA, hB⟩ := hrel
        have HBj := Lib.hid hB
        have hszj := hB.size
        have HBWj := Lib.hid (HBW.out.trans (hB.mono hzo))
        by_cases hjl : j < U.length
        · have hdj : decide ((j : Int) < (U.length : Int)) = true := decide_eq_true (by omega)
          obtain ⟨⟨⟨u0, u1⟩, u2, u3⟩, hu⟩ := el_some hjl
          have HX2 := Lib.hid hu
          obtain ⟨gq, oq, usq, rfl, hgq, huq, hrq⟩ := (rd_mv R_Use_ok HU2.out hB).at_ hu
          obtain ⟨rfl, _⟩ := rd_Use hrq
          have e0 : wr.cell? ⟨gq, oq + j * 4, none⟩ = some (.int .i64 u0) := by simpa [size_UseS, Nat.add_assoc] using huq 0 _ rfl
          have e1 : wr.cell? ⟨gq, oq + j * 4 + 1, none⟩ = some (.int .i64 u1) := by simpa [size_UseS, Nat.add_assoc] using huq 1 _ rfl
          have e2 : wr.cell? ⟨gq, oq + j * 4 + 2, none⟩ = some (.string u2) := by simpa [size_UseS, Nat.add_assoc] using huq 2 _ rfl
          have e3 : wr.cell? ⟨gq, oq + j * 4 + 3, none⟩ = some (.int .i64 u3) := by simpa [size_UseS, Nat.add_assoc] using huq 3 _ rfl
          have hj0 : (0 : Int) ≤ (j : Int) := Int.natCast_nonneg _
          have hj1 : (j : Int) < (U.length : Int) := by omega
          obtain ⟨w3, hw3⟩ : ∃ w, w = wr.alloc (.cells #[.int .i64 u0, .int .i64 u1, .string u2, .int .i64 u3] 69) := ⟨_, rfl⟩
          have hb3 : Below wr.heap.size wr w3 := by rw [hw3]; exact (Below.refl _ _).alloc (Nat.le_refl _) _
          have Y3 := Lib.hid (show Blk w3 wr.heap.size 69 #[.int .i64 u0, .int .i64 u1, .string u2, .int .i64 u3] from by rw [hw3]; exact Blk.new _ _ _)
          have HB3 := Lib.hid (HBj.out.trans (hb3.mono hszj))
          have HBW3 := Lib.hid (HBWj.out.trans (hb3.mono HBWj.out.size))
          have HL3 := Lib.hid (rd_mv R_Label_ok (rd_mv R_Label_ok HL2.out hB) hb3)
          clear hB hu huq hgq hb3 z6
          go_upto_region 11 with fail
          rw [← hw3]
          clear hw3 e0 e1 e2 e3
          have y0 := Y3.out.at_ 0 rfl
          have y1 := Y3.out.at_ 1 rfl
          go_wp2_with fail
          refine (contains_lab HL3.out).mono ?_
          intro e w7 h
          obtain ⟨b, rfl, hb, hbl⟩ := resB_elim h
          have HMB := Lib.hid hb
          have HB7 := Lib.hid (HB3.out.trans (hbl.mono HB3.out.size))
          have HBW7 := Lib.hid (HBW3.out.trans (hbl.mono HBW3.out.size))
          clear h hb hbl y0 y1
          cases b with
          | false =>
            have HV := Lib.hid (show ¬ (quotasIn C Q T ∧ usesIn C U) from fun h => by have h2 := h.2 _ _ HX2.out; rw [HKK.out] at h2; have := HMB.out.2 h2; cases this)
            go_wp2
            go_ret
            exact resB_no HV.out HBW7.out
          | true =>
            have HA2 := Lib.hid (show ∀ (q : Nat) u, q < j + 1 → U[q]? = some u → u.1 ∈ K from fun q u hq hu => by
              by_cases e : q = j
              · subst e; rw [HX2.out] at hu; cases hu; exact HMB.out.1 rfl
              · exact HA.out q u (by omega) hu)
            go_wp2
            go_roundw
            case rel => exact ⟨j + 1, by omega, by go_num, HA2, HB7.out⟩
            case measure => simp [intOf]; omega
        · have hdj : decide ((j : Int) < (U.length : Int)) = false := decide_eq_false (by omega)
          obtain rfl : j = U.length := by omega
          clear hB z6
          have HV := Lib.hid (show (quotasIn C Q T ∧ usesIn C U) from ⟨HQI.out, fun i u hu => by rw [HKK.out]; exact HA.out i u (List.getElem?_eq_some_iff.1 hu).1 hu⟩)
          go_wp2
          go_ret
          exact resB_yes HV.out HBWj.out
set_option maxRecDepth 100000 in
set_option maxHeartbeats 6400000 in
theorem yard_impl {C : List (List D_Label)} {P : List D_Pair} {Q : List D_Quota} {hf : Int} {ca pa qa : Option Addr} {cc pc qc : Nat} {N : List D_Node} {T : List D_Task} {U : List D_Use} {now : Int} {na ta ua : Option Addr} {nc tc uc : Nat} {W : World} (hC : RdSl (Sl R_Label) W W.heap.size C ca cc) (hP : RdSl R_Pair W W.heap.size P pa pc) (hQ : RdSl R_Quota W W.heap.size Q qa qc) (hN : RdSl R_Node W W.heap.size N na nc) (hT : RdSl R_Task W W.heap.size T ta tc) (hU : RdSl R_Use W W.heap.size U ua uc) :
    Calls Tryz.prog 24 #[.agg #[.slice ca C.length cc, .slice pa P.length pc, .slice qa Q.length qc, .int .i64 hf, .slice na N.length nc, .slice ta T.length tc, .slice ua U.length uc, .int .i64 now]] W (ResB (YardR ((C, P, Q, hf), N, T, U, now)) W) := by
  have hNn : N.length ≤ 9223372036854775807 := by have h1 := hN.1; have h2 := hN.2.1; unfold maxLen at h2; omega
  have hTn : T.length ≤ 9223372036854775807 := by have h1 := hT.1; have h2 := hT.2.1; unfold maxLen at h2; omega
  have hUn : U.length ≤ 9223372036854775807 := by have h1 := hU.1; have h2 := hU.2.1; unfold maxLen at h2; omega
  have hCn : C.length ≤ 9223372036854775807 := by have h1 := hC.1; have h2 := hC.2.1; unfold maxLen at h2; omega
  obtain ⟨b0, hb0⟩ : ∃ b, isB now 0 999900 = b := ⟨_, rfl⟩
  have Hb0 := Lib.hid hb0
  clear hb0
  obtain ⟨b1, hb1⟩ : ∃ b, cfgB C P Q hf = b := ⟨_, rfl⟩
  have Hb1 := Lib.hid hb1
  clear hb1
  obtain ⟨b2, hb2⟩ : ∃ b, nodesB N = b := ⟨_, rfl⟩
  have Hb2 := Lib.hid hb2
  clear hb2
  obtain ⟨b4, hb4⟩ : ∃ b, tasksB T = b := ⟨_, rfl⟩
  have Hb4 := Lib.hid hb4
  clear hb4
  obtain ⟨b5, hb5⟩ : ∃ b, usesB U = b := ⟨_, rfl⟩
  have Hb5 := Lib.hid hb5
  clear hb5
  obtain ⟨w0, hw0⟩ : ∃ w, w = W.alloc (.cells #[.slice ca C.length cc, .slice pa P.length pc, .slice qa Q.length qc, .int .i64 hf, .slice na N.length nc, .slice ta T.length tc, .slice ua U.length uc, .int .i64 now] 45) := ⟨_, rfl⟩
  have hb0 : Below W.heap.size W w0 := by rw [hw0]; exact (Below.refl _ _).alloc (Nat.le_refl _) _
  have x0_ : Blk w0 (W.heap.size) 45 #[.slice ca C.length cc, .slice pa P.length pc, .slice qa Q.length qc, .int .i64 hf, .slice na N.length nc, .slice ta T.length tc, .slice ua U.length uc, .int .i64 now] := by
    have h9 := Blk.new W 45 #[.slice ca C.length cc, .slice pa P.length pc, .slice qa Q.length qc, .int .i64 hf, .slice na N.length nc, .slice ta T.length tc, .slice ua U.length uc, .int .i64 now]
    try simp only [World.size_alloc] at h9
    rw [hw0]; exact h9
  have X0 := Lib.hid x0_
  have HC := Lib.hid (rd_mv (Sl_ok R_Label_ok) hC hb0)
  have HP := Lib.hid (rd_mv R_Pair_ok hP hb0)
  have HQ := Lib.hid (rd_mv R_Quota_ok hQ hb0)
  have HN := Lib.hid (rd_mv R_Node_ok hN hb0)
  have HT := Lib.hid (rd_mv R_Task_ok hT hb0)
  have HU := Lib.hid (rd_mv R_Use_ok hU hb0)
  have HB0 := Lib.hid hb0
  have hz0 := hb0.size
  clear hb0 hC hP hQ hN hT hU x0_
  go_enter Tryz.func24, Tryz.ntmps24
  go_upto_region 1 with fail
  rw [← hw0]
  clear hw0
  have qX0_0 := X0.out.at_ 0 rfl
  have qX0_1 := X0.out.at_ 1 rfl
  have qX0_2 := X0.out.at_ 2 rfl
  have qX0_3 := X0.out.at_ 3 rfl
  have qX0_4 := X0.out.at_ 4 rfl
  have qX0_5 := X0.out.at_ 5 rfl
  have qX0_6 := X0.out.at_ 6 rfl
  have qX0_7 := X0.out.at_ 7 rfl
  go_wp2_with fail
  have hcx := config_impl HC.out HP.out HQ.out (hf := hf)
  rw [Hb1.out] at hcx
  refine hcx.mono ?_
  intro e v1 h
  obtain ⟨rfl, hb⟩ := isB_elim h
  have HC := Lib.hid (rd_mv (Sl_ok R_Label_ok) HC.out hb)
  have HP := Lib.hid (rd_mv R_Pair_ok HP.out hb)
  have HQ := Lib.hid (rd_mv R_Quota_ok HQ.out hb)
  have HN := Lib.hid (rd_mv R_Node_ok HN.out hb)
  have HT := Lib.hid (rd_mv R_Task_ok HT.out hb)
  have HU := Lib.hid (rd_mv R_Use_ok HU.out hb)
  have X0 := Lib.hid (X0.out.call hb)
  have HB0 := Lib.hid (HB0.out.trans (hb.mono HB0.out.size))
  clear h hb hcx qX0_0 qX0_1 qX0_2 qX0_3 qX0_4 qX0_5 qX0_6 qX0_7
  have qX0_0 := X0.out.at_ 0 rfl
  have qX0_1 := X0.out.at_ 1 rfl
  have qX0_2 := X0.out.at_ 2 rfl
  have qX0_3 := X0.out.at_ 3 rfl
  have qX0_4 := X0.out.at_ 4 rfl
  have qX0_5 := X0.out.at_ 5 rfl
  have qX0_6 := X0.out.at_ 6 rfl
  have qX0_7 := X0.out.at_ 7 rfl
  cases b1 with
  | false =>
    have HV := Lib.hid (show ¬ (YardR ((C, P, Q, hf), N, T, U, now)) from fun h => by have h2 := cfgB_iff.2 h.2.1; rw [Hb1.out] at h2; cases h2)
    go_wp2
    go_ret
    exact resB_no HV.out HB0.out
  | true =>
  by_cases hnl : N.length = C.length
  rotate_left
  · have hne : ((N.length : Int) == (C.length : Int)) = false := by simp; omega
    have HV := Lib.hid (show ¬ (YardR ((C, P, Q, hf), N, T, U, now)) from fun h => hnl h.2.2.2.1)
    go_wp2
    go_ret
    exact resB_no HV.out HB0.out
  have hne : ((N.length : Int) == (C.length : Int)) = true := by simp; omega
  have HNL := Lib.hid hnl
  clear hnl
  go_wp2_with fail
  have hcx := nds_impl HN.out
  rw [Hb2.out] at hcx
  refine hcx.mono ?_
  intro e v2 h
  obtain ⟨rfl, hb⟩ := isB_elim h
  have HC := Lib.hid (rd_mv (Sl_ok R_Label_ok) HC.out hb)
  have HP := Lib.hid (rd_mv R_Pair_ok HP.out hb)
  have HQ := Lib.hid (rd_mv R_Quota_ok HQ.out hb)
  have HN := Lib.hid (rd_mv R_Node_ok HN.out hb)
  have HT := Lib.hid (rd_mv R_Task_ok HT.out hb)
  have HU := Lib.hid (rd_mv R_Use_ok HU.out hb)
  have X0 := Lib.hid (X0.out.call hb)
  have HB0 := Lib.hid (HB0.out.trans (hb.mono HB0.out.size))
  clear h hb hcx qX0_0 qX0_1 qX0_2 qX0_3 qX0_4 qX0_5 qX0_6 qX0_7
  have qX0_0 := X0.out.at_ 0 rfl
  have qX0_1 := X0.out.at_ 1 rfl
  have qX0_2 := X0.out.at_ 2 rfl
  have qX0_3 := X0.out.at_ 3 rfl
  have qX0_4 := X0.out.at_ 4 rfl
  have qX0_5 := X0.out.at_ 5 rfl
  have qX0_6 := X0.out.at_ 6 rfl
  have qX0_7 := X0.out.at_ 7 rfl
  cases b2 with
  | false =>
    have HV := Lib.hid (show ¬ (YardR ((C, P, Q, hf), N, T, U, now)) from fun h => by have h2 := nodesB_iff.2 h.2.2.1; rw [Hb2.out] at h2; cases h2)
    go_wp2
    go_ret
    exact resB_no HV.out HB0.out
  | true =>
  go_wp2_with fail
  have hcx := tasks_impl HT.out
  rw [Hb4.out] at hcx
  refine hcx.mono ?_
  intro e v4 h
  obtain ⟨rfl, hb⟩ := isB_elim h
  have HC := Lib.hid (rd_mv (Sl_ok R_Label_ok) HC.out hb)
  have HP := Lib.hid (rd_mv R_Pair_ok HP.out hb)
  have HQ := Lib.hid (rd_mv R_Quota_ok HQ.out hb)
  have HN := Lib.hid (rd_mv R_Node_ok HN.out hb)
  have HT := Lib.hid (rd_mv R_Task_ok HT.out hb)
  have HU := Lib.hid (rd_mv R_Use_ok HU.out hb)
  have X0 := Lib.hid (X0.out.call hb)
  have HB0 := Lib.hid (HB0.out.trans (hb.mono HB0.out.size))
  clear h hb hcx qX0_0 qX0_1 qX0_2 qX0_3 qX0_4 qX0_5 qX0_6 qX0_7
  have qX0_0 := X0.out.at_ 0 rfl
  have qX0_1 := X0.out.at_ 1 rfl
  have qX0_2 := X0.out.at_ 2 rfl
  have qX0_3 := X0.out.at_ 3 rfl
  have qX0_4 := X0.out.at_ 4 rfl
  have qX0_5 := X0.out.at_ 5 rfl
  have qX0_6 := X0.out.at_ 6 rfl
  have qX0_7 := X0.out.at_ 7 rfl
  cases b4 with
  | false =>
    have HV := Lib.hid (show ¬ (YardR ((C, P, Q, hf), N, T, U, now)) from fun h => by have h2 := tasksB_iff.2 h.2.2.2.2.1; rw [Hb4.out] at h2; cases h2)
    go_wp2
    go_ret
    exact resB_no HV.out HB0.out
  | true =>
  go_wp2_with fail
  have hcx := uses_impl HU.out
  rw [Hb5.out] at hcx
  refine hcx.mono ?_
  intro e v5 h
  obtain ⟨rfl, hb⟩ := isB_elim h
  have HC := Lib.hid (rd_mv (Sl_ok R_Label_ok) HC.out hb)
  have HP := Lib.hid (rd_mv R_Pair_ok HP.out hb)
  have HQ := Lib.hid (rd_mv R_Quota_ok HQ.out hb)
  have HN := Lib.hid (rd_mv R_Node_ok HN.out hb)
  have HT := Lib.hid (rd_mv R_Task_ok HT.out hb)
  have HU := Lib.hid (rd_mv R_Use_ok HU.out hb)
  have X0 := Lib.hid (X0.out.call hb)
  have HB0 := Lib.hid (HB0.out.trans (hb.mono HB0.out.size))
  clear h hb hcx qX0_0 qX0_1 qX0_2 qX0_3 qX0_4 qX0_5 qX0_6 qX0_7
  have qX0_0 := X0.out.at_ 0 rfl
  have qX0_1 := X0.out.at_ 1 rfl
  have qX0_2 := X0.out.at_ 2 rfl
  have qX0_3 := X0.out.at_ 3 rfl
  have qX0_4 := X0.out.at_ 4 rfl
  have qX0_5 := X0.out.at_ 5 rfl
  have qX0_6 := X0.out.at_ 6 rfl
  have qX0_7 := X0.out.at_ 7 rfl
  cases b5 with
  | false =>
    have HV := Lib.hid (show ¬ (YardR ((C, P, Q, hf), N, T, U, now)) from fun h => by have h2 := usesB_iff.2 h.2.2.2.2.2.1; rw [Hb5.out] at h2; cases h2)
    go_wp2
    go_ret
    exact resB_no HV.out HB0.out
  | true =>
  go_wp2_with fail
  refine (nowI_at _ Hb0.out _).mono ?_
  rintro e v6 ⟨rfl, rfl⟩
  cases b0 with
  | false =>
    have HV := Lib.hid (show ¬ (YardR ((C, P, Q, hf), N, T, U, now)) from fun h => by have h2 := h.1; rw [Hb0.out] at h2; cases h2)
    go_wp2
    go_ret
    exact resB_no HV.out HB0.out
  | true =>
  have HPRE := Lib.hid (⟨Hb0.out, cfgB_iff.1 Hb1.out, nodesB_iff.1 Hb2.out, HNL.out, tasksB_iff.1 Hb4.out, usesB_iff.1 Hb5.out⟩ : Pre13 C P Q hf N T U now)
  have hnow := (isB_iff _ _ _).1 Hb0.out
  go_wp2_with fail
  refine (tasksfit_impl (nodes_le HPRE.out.cfg).2 HPRE.out.tas hnow HC.out HT.out).mono ?_
  intro e v7 h
  obtain ⟨b, rfl, hb7, hb⟩ := resB_elim h
  have HFB := Lib.hid hb7
  have HC := Lib.hid (rd_mv (Sl_ok R_Label_ok) HC.out hb)
  have HP := Lib.hid (rd_mv R_Pair_ok HP.out hb)
  have HQ := Lib.hid (rd_mv R_Quota_ok HQ.out hb)
  have HN := Lib.hid (rd_mv R_Node_ok HN.out hb)
  have HT := Lib.hid (rd_mv R_Task_ok HT.out hb)
  have HU := Lib.hid (rd_mv R_Use_ok HU.out hb)
  have X0 := Lib.hid (X0.out.call hb)
  have HB0 := Lib.hid (HB0.out.trans (hb.mono HB0.out.size))
  clear h hb hb7 qX0_0 qX0_1 qX0_2 qX0_3 qX0_4 qX0_5 qX0_6 qX0_7
  have qX0_0 := X0.out.at_ 0 rfl
  have qX0_1 := X0.out.at_ 1 rfl
  have qX0_2 := X0.out.at_ 2 rfl
  have qX0_3 := X0.out.at_ 3 rfl
  have qX0_4 := X0.out.at_ 4 rfl
  have qX0_5 := X0.out.at_ 5 rfl
  have qX0_6 := X0.out.at_ 6 rfl
  have qX0_7 := X0.out.at_ 7 rfl
  cases b with
  | false =>
    have HV := Lib.hid (show ¬ (YardR ((C, P, Q, hf), N, T, U, now)) from fun h => by have := HFB.out.2 h.2.2.2.2.2.2.1; cases this)
    go_wp2
    go_ret
    exact resB_no HV.out HB0.out
  | true =>
  have HF1 := Lib.hid (HFB.out.1 rfl)
  go_wp2_with fail
  refine (labelsfit_impl HPRE.out.cfg.1 HPRE.out.tas.1 HC.out HQ.out HT.out HU.out).mono ?_
  intro e v8 h
  obtain ⟨b, rfl, hb8, hb⟩ := resB_elim h
  have HB8 := Lib.hid (HB0.out.trans (hb.mono HB0.out.size))
  have HV := Lib.hid (show b = true ↔ YardR ((C, P, Q, hf), N, T, U, now) from hb8.trans ⟨fun h => ⟨HPRE.out.now, HPRE.out.cfg, HPRE.out.nds, HPRE.out.len, HPRE.out.tas, HPRE.out.use, HF1.out, h.2, h.1⟩, fun h => ⟨h.2.2.2.2.2.2.2.2, h.2.2.2.2.2.2.2.1⟩⟩)
  clear h hb hb8
  go_wp2
  go_ret
  exact ⟨b, rfl, HV.out, HB8.out⟩
end Go.Proofs.YtelhmacfljffhabGreat.RepC
end
