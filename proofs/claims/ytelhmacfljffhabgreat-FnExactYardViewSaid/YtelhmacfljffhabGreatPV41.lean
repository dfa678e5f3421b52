/- Of this claim's texts the part 41: YvC. -/
import Derived.Test.YtelhmacfljffhabGreatPV0
import Derived.Test.YtelhmacfljffhabGreatPV1
import Derived.Test.YtelhmacfljffhabGreatPV2
import Derived.Test.YtelhmacfljffhabGreatPV3
import Derived.Test.YtelhmacfljffhabGreatPV4
import Derived.Test.YtelhmacfljffhabGreatPV5
import Derived.Test.YtelhmacfljffhabGreatPV6
import Derived.Test.YtelhmacfljffhabGreatPV7
import Derived.Test.YtelhmacfljffhabGreatPV8
import Derived.Test.YtelhmacfljffhabGreatPV9
import Derived.Test.YtelhmacfljffhabGreatPV10
import Derived.Test.YtelhmacfljffhabGreatPV11
import Derived.Test.YtelhmacfljffhabGreatPV12
import Derived.Test.YtelhmacfljffhabGreatPV13
import Derived.Test.YtelhmacfljffhabGreatPV14
import Derived.Test.YtelhmacfljffhabGreatPV15
import Derived.Test.YtelhmacfljffhabGreatPV16
import Derived.Test.YtelhmacfljffhabGreatPV17
import Derived.Test.YtelhmacfljffhabGreatPV18
import Derived.Test.YtelhmacfljffhabGreatPV19
import Derived.Test.YtelhmacfljffhabGreatPV20
import Derived.Test.YtelhmacfljffhabGreatPV21
import Derived.Test.YtelhmacfljffhabGreatPV22
import Derived.Test.YtelhmacfljffhabGreatPV23
import Derived.Test.YtelhmacfljffhabGreatPV24
import Derived.Test.YtelhmacfljffhabGreatPV25
import Derived.Test.YtelhmacfljffhabGreatPV32
import Derived.Test.YtelhmacfljffhabGreatPV34
import Derived.Test.YtelhmacfljffhabGreatPV36
import Derived.Test.YtelhmacfljffhabGreatPV37
import Derived.Test.YtelhmacfljffhabGreatPV38
section
namespace Go.Proofs.YtelhmacfljffhabGreat.RepC
open Go.RowKit RowC ValC SpanC KeptC NameC CfC
set_option linter.unusedVariables false
set_option linter.unusedSimpArgs false
set_option maxRecDepth 100000 in
set_option maxHeartbeats 6400000 in
theorem view_spec {C : List (List D_Label)} {P : List D_Pair} {Q : List D_Quota} {hf : Int} {ca pa qa : Option Addr} {cc pc qc : Nat} {N : List D_Node} {T : List D_Task} {U : List D_Use} {now : Int} {na ta ua : Option Addr} {nc tc uc : Nat} {l s : Int} {W : World} (hC : RdSl (Sl R_Label) W W.heap.size C ca cc) (hP : RdSl R_Pair W W.heap.size P pa pc) (hQ : RdSl R_Quota W W.heap.size Q qa qc) (hN : RdSl R_Node W W.heap.size N na nc) (hT : RdSl R_Task W W.heap.size T ta tc) (hU : RdSl R_Use W W.heap.size U ua uc) :
    Calls Tryz.prog 5 #[.agg #[.slice ca C.length cc, .slice pa P.length pc, .slice qa Q.length qc, .int .i64 hf, .slice na N.length nc, .slice ta T.length tc, .slice ua U.length uc, .int .i64 now], .agg #[.int .i64 l, .int .i64 s]] W fun e w' => e = .returned (.string (viewV ((C, P, Q, hf), N, T, U, now) (l, s))) ∧ Below W.heap.size W w' := by
  have hNn : N.length ≤ 9223372036854775807 := by have h1 := hN.1; have h2 := hN.2.1; unfold maxLen at h2; omega
  have hTn : T.length ≤ 9223372036854775807 := by have h1 := hT.1; have h2 := hT.2.1; unfold maxLen at h2; omega
  have hUn : U.length ≤ 9223372036854775807 := by have h1 := hU.1; have h2 := hU.2.1; unfold maxLen at h2; omega
  obtain ⟨b0, hb0⟩ : ∃ b, yardB ((C, P, Q, hf), N, T, U, now) = b := ⟨_, rfl⟩
  have Hb0 := Lib.hid hb0
  clear hb0
  obtain ⟨b1, hb1⟩ : ∃ b, LabC.rB l s = b := ⟨_, rfl⟩
  have Hb1 := Lib.hid hb1
  clear hb1
  obtain ⟨w0, hw0⟩ : ∃ w, w = (W.alloc (.cells #[.slice ca C.length cc, .slice pa P.length pc, .slice qa Q.length qc, .int .i64 hf, .slice na N.length nc, .slice ta T.length tc, .slice ua U.length uc, .int .i64 now] 45)).alloc (.cells #[.int .i64 l, .int .i64 s] 47) := ⟨_, rfl⟩
  have hb0 : Below W.heap.size W w0 := by rw [hw0]; exact ((Below.refl _ _).alloc (Nat.le_refl _) _).alloc (by simp) _
  have x0_ : Blk w0 (W.heap.size) 45 #[.slice ca C.length cc, .slice pa P.length pc, .slice qa Q.length qc, .int .i64 hf, .slice na N.length nc, .slice ta T.length tc, .slice ua U.length uc, .int .i64 now] := by
    have h9 := Blk.new W 45 #[.slice ca C.length cc, .slice pa P.length pc, .slice qa Q.length qc, .int .i64 hf, .slice na N.length nc, .slice ta T.length tc, .slice ua U.length uc, .int .i64 now]
    try simp only [World.size_alloc] at h9
    rw [hw0]; exact (h9.alloc _)
  have X0 := Lib.hid x0_
  have x1_ : Blk w0 (W.heap.size + 1) 47 #[.int .i64 l, .int .i64 s] := by
    have h9 := Blk.new (W.alloc (.cells #[.slice ca C.length cc, .slice pa P.length pc, .slice qa Q.length qc, .int .i64 hf, .slice na N.length nc, .slice ta T.length tc, .slice ua U.length uc, .int .i64 now] 45)) 47 #[.int .i64 l, .int .i64 s]
    try simp only [World.size_alloc] at h9
    rw [hw0]; exact h9
  have X1 := Lib.hid x1_
  have HC := Lib.hid (rd_mv (Sl_ok R_Label_ok) hC hb0)
  have HP := Lib.hid (rd_mv R_Pair_ok hP hb0)
  have HQ := Lib.hid (rd_mv R_Quota_ok hQ hb0)
  have HN := Lib.hid (rd_mv R_Node_ok hN hb0)
  have HT := Lib.hid (rd_mv R_Task_ok hT hb0)
  have HU := Lib.hid (rd_mv R_Use_ok hU hb0)
  have HB0 := Lib.hid hb0
  have hz0 := hb0.size
  clear hb0 hC hP hQ hN hT hU x0_ x1_
  go_enter Tryz.func5, Tryz.ntmps5
  go_upto_region 1 with fail
  rw [← hw0]
  clear hw0
  have qX0_0 := X0.out.at_ 0 rfl
  have qX0_1 := X0.out.at_ 1 rfl
  have qX0_2 := X0.out.at_ 2 rfl
  have qX0_3 := X0.out.at_ 3 rfl
  have qX0_4 := X0.out.at_ 4 rfl
  have qX0_5 := X0.out.at_ 5 rfl
  have qX0_6 := X0.out.at_ 6 rfl
  have qX0_7 := X0.out.at_ 7 rfl
  have qX1_0 := X1.out.at_ 0 rfl
  have qX1_1 := X1.out.at_ 1 rfl
  go_wp2_with fail
  have hcx : Calls Tryz.prog 14 #[.agg #[.slice ca C.length cc, .slice pa P.length pc, .slice qa Q.length qc, .int .i64 hf, .slice na N.length nc, .slice ta T.length tc, .slice ua U.length uc, .int .i64 now]] w0 (IsB (yardB ((C, P, Q, hf), N, T, U, now)) w0) := (yard_spec HC.out HP.out HQ.out HN.out HT.out HU.out).mono fun e w' h => resB_is yardB_iff h
  rw [Hb0.out] at hcx
  refine hcx.mono ?_
  intro e v1 h
  obtain ⟨rfl, hb⟩ := isB_elim h
  have HC := Lib.hid (rd_mv (Sl_ok R_Label_ok) HC.out hb)
  have HP := Lib.hid (rd_mv R_Pair_ok HP.out hb)
  have HQ := Lib.hid (rd_mv R_Quota_ok HQ.out hb)
  have HN := Lib.hid (rd_mv R_Node_ok HN.out hb)
  have HT := Lib.hid (rd_mv R_Task_ok HT.out hb)
  have HU := Lib.hid (rd_mv R_Use_ok HU.out hb)
  have X0 := Lib.hid (X0.out.call hb)
  have X1 := Lib.hid (X1.out.call hb)
  have HB0 := Lib.hid (HB0.out.trans (hb.mono HB0.out.size))
  clear h hb hcx qX0_0 qX0_1 qX0_2 qX0_3 qX0_4 qX0_5 qX0_6 qX0_7 qX1_0 qX1_1
  have qX0_0 := X0.out.at_ 0 rfl
  have qX0_1 := X0.out.at_ 1 rfl
  have qX0_2 := X0.out.at_ 2 rfl
  have qX0_3 := X0.out.at_ 3 rfl
  have qX0_4 := X0.out.at_ 4 rfl
  have qX0_5 := X0.out.at_ 5 rfl
  have qX0_6 := X0.out.at_ 6 rfl
  have qX0_7 := X0.out.at_ 7 rfl
  have qX1_0 := X1.out.at_ 0 rfl
  have qX1_1 := X1.out.at_ 1 rfl
  cases b0 with
  | false =>
    have HE := Lib.hid (show (viewV ((C, P, Q, hf), N, T, U, now) (l, s)) = ⟨#[]⟩ from viewV_no1 Hb0.out)
    go_wp2
    go_ret
    exact ⟨by rw [HE.out]; rfl, HB0.out⟩
  | true =>
  go_wp2_with fail
  refine (lab_below l s Hb1.out _).mono ?_
  rintro e v2 ⟨rfl, hb⟩
  have HC := Lib.hid (rd_mv (Sl_ok R_Label_ok) HC.out hb)
  have HP := Lib.hid (rd_mv R_Pair_ok HP.out hb)
  have HQ := Lib.hid (rd_mv R_Quota_ok HQ.out hb)
  have HN := Lib.hid (rd_mv R_Node_ok HN.out hb)
  have HT := Lib.hid (rd_mv R_Task_ok HT.out hb)
  have HU := Lib.hid (rd_mv R_Use_ok HU.out hb)
  have X0 := Lib.hid (X0.out.call hb)
  have X1 := Lib.hid (X1.out.call hb)
  have HB0 := Lib.hid (HB0.out.trans (hb.mono HB0.out.size))
  clear hb qX0_0 qX0_1 qX0_2 qX0_3 qX0_4 qX0_5 qX0_6 qX0_7 qX1_0 qX1_1
  have qX0_0 := X0.out.at_ 0 rfl
  have qX0_1 := X0.out.at_ 1 rfl
  have qX0_2 := X0.out.at_ 2 rfl
  have qX0_3 := X0.out.at_ 3 rfl
  have qX0_4 := X0.out.at_ 4 rfl
  have qX0_5 := X0.out.at_ 5 rfl
  have qX0_6 := X0.out.at_ 6 rfl
  have qX0_7 := X0.out.at_ 7 rfl
  have qX1_0 := X1.out.at_ 0 rfl
  have qX1_1 := X1.out.at_ 1 rfl
  cases b1 with
  | false =>
    have HE := Lib.hid (show (viewV ((C, P, Q, hf), N, T, U, now) (l, s)) = ⟨#[]⟩ from viewV_no2 Hb1.out)
    go_wp2
    go_ret
    exact ⟨by rw [HE.out]; rfl, HB0.out⟩
  | true =>
  have HE := Lib.hid (show (viewV ((C, P, Q, hf), N, T, U, now) (l, s)) = viewT (l, s) ((C, P, Q, hf), N, T, U, now) from viewV_yes Hb0.out Hb1.out)
  have HY := Lib.hid (yardB_iff.1 Hb0.out)
  have HNR := Lib.hid HY.out.2.2.1
  have HTR := Lib.hid HY.out.2.2.2.2.1
  have HUR := Lib.hid HY.out.2.2.2.2.2.1
  have hN6 : N.length ≤ 6 := HNR.out.1.2
  have hT96 : T.length ≤ 96 := HTR.out.1
  have hU48 : U.length ≤ 48 := HUR.out.1
  have hNB : ∀ k, (catTo nodeB N k).size ≤ 600 := fun k => Nat.le_trans (catTo_size (c := 100) (n := 6) k hN6 fun x hx => nodeB_size (HNR.out.2 x hx)) (by decide)
  have HNB := Lib.hid hNB
  have HTB := Lib.hid (show ∀ k, (catTo (taskPart (l, s)) T k).size ≤ 28800 from fun k => Nat.le_trans (catTo_size (c := 300) (n := 96) k hT96 fun x hx => by
    obtain ⟨i, hi⟩ := List.getElem?_of_mem hx
    exact taskPart_size (HTR.out.2 i x hi).1) (by decide))
  have HUB := Lib.hid (show ∀ k, (catTo (usePart (l, s)) U k).size ≤ 2880 from fun k => Nat.le_trans (catTo_size (c := 60) (n := 48) k hU48 fun x hx => by
    obtain ⟨i, hi⟩ := List.getElem?_of_mem hx
    exact usePart_size (HUR.out.2 i x hi).1) (by decide))
  clear hNB
  have hnow : 0 ≤ now ∧ now ≤ 2000000 := by have h1 := (isB_iff _ _ _).1 HY.out.1; omega
  have HNW := Lib.hid (r64 hnow)
  obtain ⟨P0, hP0⟩ : ∃ b, PutM.encB now = b := ⟨_, rfl⟩
  have hs0 : P0.size ≤ 10 := by rw [← hP0]; exact enc10 hnow
  have HP0 := Lib.hid hP0
  clear hP0 hnow
  go_wp2_with fail
  refine (putS_at now HP0.out HNW.out _).mono ?_
  rintro e v3 ⟨rfl, hb⟩
  have HC := Lib.hid (rd_mv (Sl_ok R_Label_ok) HC.out hb)
  have HP := Lib.hid (rd_mv R_Pair_ok HP.out hb)
  have HQ := Lib.hid (rd_mv R_Quota_ok HQ.out hb)
  have HN := Lib.hid (rd_mv R_Node_ok HN.out hb)
  have HT := Lib.hid (rd_mv R_Task_ok HT.out hb)
  have HU := Lib.hid (rd_mv R_Use_ok HU.out hb)
  have X0 := Lib.hid (X0.out.call hb)
  have X1 := Lib.hid (X1.out.call hb)
  have HB0 := Lib.hid (HB0.out.trans (hb.mono HB0.out.size))
  have hz3 := HB0.out.size
  clear hb qX0_0 qX0_1 qX0_2 qX0_3 qX0_4 qX0_5 qX0_6 qX0_7 qX1_0 qX1_1
  have q1 := X0.out.at_ 4 rfl
  go_wp2
  go_loopw [6, 5] (fun i q wr => ∃ k : Nat, k ≤ N.length ∧ i = .int .i64 k ∧ q = .string (P0 ++ catTo nodeB N k) ∧ Below v3.heap.size v3 wr) (fun i _ _ => N.length - (intOf i).toNat)
  case atStart => exact ⟨0, Nat.zero_le _, rfl, by rw [catTo_zero, ba_nil], Below.refl _ _⟩
  case round =>
    obtain ⟨k, hk, rfl, rfl, hB⟩ := hrel
    obtain ⟨wo, rfl⟩ : ∃ x, x = wr := ⟨_, rfl⟩
    have HB := Lib.hid hB
    have hsz := hB.size
    have HBW := Lib.hid (HB0.out.trans (hB.mono hz3))
    have Z0 := Lib.hid (X0.out.call hB)
    have r1 := Z0.out.at_ 4 rfl
    have hpk := HNB.out k
    obtain ⟨PB, hP⟩ : ∃ PB, P0 ++ catTo nodeB N k = PB := ⟨_, rfl⟩
    have hPs : PB.size ≤ 610 := by rw [← hP, ByteArray.size_append]; omega
    have HPP := Lib.hid hP
    rw [hP]
    clear hpk hP
    by_cases hlt : k < N.length
    · have hdl : decide ((k : Int) < (N.length : Int)) = true := decide_eq_true (by omega)
      obtain ⟨⟨st, Bk⟩, hx⟩ := el_some hlt
      have HX := Lib.hid hx
      have HOK := Lib.hid (HNR.out.2 _ (List.mem_of_getElem? hx))
      have hsm := node_small HOK.out
      obtain ⟨hst, hB4_, hsp⟩ := hsm
      have hB4 : Bk.length ≤ 4 := hB4_
      clear hB4_
      have HSP := Lib.hid hsp
      obtain ⟨gn, on, us, rfl, hg, hu, hr⟩ := (rd_mv R_Node_ok HN.out hB).at_ hx
      obtain ⟨ba, bc, rfl, k_B⟩ := rd_Node hr
      have HG := Lib.hid hg
      have HKB := Lib.hid k_B
      have e0 : wo.cell? ⟨gn, on + k * 2, none⟩ = some (.int .i64 st) := by simpa [size_NodeS, Nat.add_assoc] using hu 0 _ rfl
      have e1 : wo.cell? ⟨gn, on + k * 2 + 1, none⟩ = some (.slice ba Bk.length bc) := by simpa [size_NodeS, Nat.add_assoc] using hu 1 _ rfl
      have E0 := Lib.hid e0
      have E1 := Lib.hid e1
      have hi0 : (0 : Int) ≤ (k : Int) := Int.natCast_nonneg _
      have hi1 : (k : Int) < (N.length : Int) := by omega
      have hBn : Bk.length ≤ 9223372036854775807 := by omega
      have R0 := Lib.hid (r64 hst)
      have R1 := Lib.hid (r64 (n := (Bk.length : Int)) (by omega))
      obtain ⟨p0, hp0⟩ : ∃ b, PutM.encB st = b := ⟨_, rfl⟩
      have s0 : p0.size ≤ 10 := by rw [← hp0]; exact enc10 hst
      have G0 := Lib.hid hp0
      obtain ⟨p1, hp1⟩ : ∃ b, PutM.encB (Bk.length : Int) = b := ⟨_, rfl⟩
      have s1 : p1.size ≤ 10 := by rw [← hp1]; exact enc10 (by omega)
      have G1 := Lib.hid hp1
      have hadd0 := fun w : World => run_string_add_sum (P := Tryz.prog) w PB p0 (by omega)
      have z1 : (PB ++ p0).size ≤ 620 := by rw [ByteArray.size_append]; omega
      have hadd1 := fun w : World => run_string_add_sum (P := Tryz.prog) w (PB ++ p0) p1 (by omega)
      have z2 : ((PB ++ p0) ++ p1).size ≤ 630 := by rw [ByteArray.size_append]; omega
      clear hB hx hu hr hg k_B hst hsp hp0 hp1
      go_upto_region 7 with fail
      refine wp_region_held_drew (S := (fun V => Below (wo).heap.size (wo) V)) (by kernel_rfl) ((Below.refl _ _).drew) (fun hHeld => ?_)
      refine tk 0 hHeld ?_
      refine tk 1 hHeld ?_
      refine tk 2 hHeld ?_ (hy := fun w hSw => by (try dsimp only at hSw); have k0 := (hSw.cell (p := ⟨W.heap.size, 4, none⟩) Z0.out.lt).trans (Z0.out.at_ 4 rfl); clear hSw; go_simp; try with_reducible rfl)
      refine tk 3 hHeld ?_
      refine tk 4 hHeld ?_
      refine tk 5 hHeld ?_
      refine tk 6 hHeld ?_ (hy := fun w hSw => by (try dsimp only at hSw); have k0 := (hSw.cell (p := ⟨gn, on + k * 2, none⟩) HG.out).trans E0.out; clear hSw; go_simp; try with_reducible rfl)
      refine tk 9 hHeld ?_
      refine tk 10 hHeld ?_ (hy := fun w hSw => by (try dsimp only at hSw); have k0 := (hSw.cell (p := ⟨W.heap.size, 4, none⟩) Z0.out.lt).trans (Z0.out.at_ 4 rfl); clear hSw; go_simp; try with_reducible rfl)
      refine tk 11 hHeld ?_
      refine tk 12 hHeld ?_
      refine tk 13 hHeld ?_
      refine tk 14 hHeld ?_ (hy := fun w hSw => by (try dsimp only at hSw); have k0 := (hSw.cell (p := ⟨gn, on + k * 2 + 1, none⟩) HG.out).trans E1.out; clear hSw; go_simp; try with_reducible rfl)
      refine tk 15 hHeld ?_
      refine rd1 7 (fun K hK => ?_)
      go_simp
      go_at_call 16
      refine (putS_at st G0.out R0.out _).mono ?_
      rintro e u1 ⟨rfl, hb⟩
      refine hK.out _ _ (hHeld.trans (hb.mono hHeld.size)) (fun hHeld => ?_)
      clear hK K hb
      refine tk 8 hHeld ?_
      refine rd1 16 (fun K hK => ?_)
      go_simp
      go_at_call 16
      refine (putS_at (Bk.length : Int) G1.out R1.out _).mono ?_
      rintro e u2 ⟨rfl, hb⟩
      refine hK.out _ _ (hHeld.trans (hb.mono hHeld.size)) (fun hHeld => ?_)
      clear hK K hb
      refine tk 17 hHeld ?_
      refine tk 18 hHeld ?_
      refine rd0 ?_
      have HF := Lib.hid hHeld
      clear hHeld
      have HB2 := Lib.hid (HB.out.trans (HF.out.mono hsz))
      have HBW2 := Lib.hid (HBW.out.trans (HF.out.mono HBW.out.size))
      clear hadd0 hadd1 z1 s0 s1 r1
      obtain ⟨QB, hQ⟩ : ∃ QB, (PB ++ p0) ++ p1 = QB := ⟨_, rfl⟩
      rw [hQ] at z2
      have HQQ := Lib.hid (show QB = PB ++ headB (st, Bk) from by rw [← hQ]; unfold headB; rw [G0.out, G1.out, ByteArray.append_assoc])
      rw [hQ]
      clear hQ
      have Z2 := Lib.hid (Z0.out.call HF.out)
      have E02 := Lib.hid ((HF.out.cell (p := ⟨gn, on + k * 2, none⟩) HG.out).trans E0.out)
      have E12 := Lib.hid ((HF.out.cell (p := ⟨gn, on + k * 2 + 1, none⟩) HG.out).trans E1.out)
      have HG2 := Lib.hid (Nat.lt_of_lt_of_le HG.out HF.out.size)
      have HKB2 := Lib.hid (rd_mv R_Span_ok HKB.out HF.out)
      clear HF e0 e1
      have hz2 := HBW2.out.size
      go_wp2
      go_loopw [7, 5] (fun i q wr => ∃ j : Nat, j ≤ Bk.length ∧ i = .int .i64 j ∧ q = .string (QB ++ catTo spanB Bk j) ∧ Below u2.heap.size u2 wr) (fun i _ _ => Bk.length - (intOf i).toNat)
      case atStart => exact ⟨0, Nat.zero_le _, rfl, by rw [catTo_zero, ba_nil], Below.refl _ _⟩
      case round =>
        obtain ⟨j, hj, rfl, rfl, hC⟩ := hrel
        have HC2 := Lib.hid hC
        have hszC := hC.size
        have Z3 := Lib.hid (Z2.out.call hC)
        have E03 := Lib.hid ((hC.cell (p := ⟨gn, on + k * 2, none⟩) HG2.out).trans E02.out)
        have E13 := Lib.hid ((hC.cell (p := ⟨gn, on + k * 2 + 1, none⟩) HG2.out).trans E12.out)
        have HG3 := Lib.hid (Nat.lt_of_lt_of_le HG2.out hszC)
        have HB3 := Lib.hid (HB2.out.trans (hC.mono HB2.out.size))
        have HBW3 := Lib.hid (HBW2.out.trans (hC.mono hz2))
        have r1 := Z3.out.at_ 4 rfl
        have e1 := E13.out
        have hpj : (catTo spanB Bk j).size ≤ 80 := spans_size HOK.out j
        obtain ⟨P', hP'⟩ : ∃ PB, QB ++ catTo spanB Bk j = PB := ⟨_, rfl⟩
        have hPs' : P'.size ≤ 710 := by rw [← hP', ByteArray.size_append]; omega
        have HPP' := Lib.hid hP'
        rw [hP']
        clear hpj hP'
        by_cases hjl : j < Bk.length
        · have hdj : decide ((j : Int) < (Bk.length : Int)) = true := decide_eq_true (by omega)
          obtain ⟨⟨f, b⟩, hx⟩ := el_some hjl
          have HX2 := Lib.hid hx
          have hff := (HSP.out j (f, b) hx).1
          have hbb := (HSP.out j (f, b) hx).2
          obtain ⟨gs, os, us, rfl, hg, hu, hr⟩ := (rd_mv R_Span_ok HKB2.out hC).at_ hx
          obtain rfl := rd_Span hr
          have HGs := Lib.hid hg
          have F0 := Lib.hid (show wr.cell? ⟨gs, os + j * 2, none⟩ = some (.int .i64 f) from by simpa [size_SpanS, Nat.add_assoc] using hu 0 _ rfl)
          have F1 := Lib.hid (show wr.cell? ⟨gs, os + j * 2 + 1, none⟩ = some (.int .i64 b) from by simpa [size_SpanS, Nat.add_assoc] using hu 1 _ rfl)
          have hj0 : (0 : Int) ≤ (j : Int) := Int.natCast_nonneg _
          have hj1 : (j : Int) < (Bk.length : Int) := by omega
          have R0 := Lib.hid (r64 hff)
          have R1 := Lib.hid (r64 hbb)
          obtain ⟨p0, hp0⟩ : ∃ b, PutM.encB f = b := ⟨_, rfl⟩
          have s0 : p0.size ≤ 10 := by rw [← hp0]; exact enc10 hff
          have G0 := Lib.hid hp0
          obtain ⟨p1, hp1⟩ : ∃ c, PutM.encB b = c := ⟨_, rfl⟩
          have s1 : p1.size ≤ 10 := by rw [← hp1]; exact enc10 hbb
          have G1 := Lib.hid hp1
          have hadd0 := fun w : World => run_string_add_sum (P := Tryz.prog) w P' p0 (by omega)
          have z1 : (P' ++ p0).size ≤ 720 := by rw [ByteArray.size_append]; omega
          have hadd1 := fun w : World => run_string_add_sum (P := Tryz.prog) w (P' ++ p0) p1 (by omega)
          clear hC hx hu hr hg hff hbb hp0 hp1
          go_upto_region 11 with fail
          refine wp_region_held_drew (S := (fun V => Below (wr).heap.size (wr) V)) (by kernel_rfl) ((Below.refl _ _).drew) (fun hHeld => ?_)
          refine tk 0 hHeld ?_
          refine tk 1 hHeld ?_
          refine tk 2 hHeld ?_ (hy := fun w hSw => by (try dsimp only at hSw); have k0 := (hSw.cell (p := ⟨W.heap.size, 4, none⟩) Z3.out.lt).trans (Z3.out.at_ 4 rfl); clear hSw; go_simp; try with_reducible rfl)
          refine tk 3 hHeld ?_
          refine tk 4 hHeld ?_
          refine tk 5 hHeld ?_
          refine tk 6 hHeld ?_ (hy := fun w hSw => by (try dsimp only at hSw); have k0 := (hSw.cell (p := ⟨gn, on + k * 2 + 1, none⟩) HG3.out).trans E13.out; clear hSw; go_simp; try with_reducible rfl)
          refine tk 7 hHeld ?_
          refine tk 8 hHeld ?_
          refine tk 9 hHeld ?_
          refine tk 10 hHeld ?_ (hy := fun w hSw => by (try dsimp only at hSw); have k0 := (hSw.cell (p := ⟨gs, os + j * 2, none⟩) HGs.out).trans F0.out; clear hSw; go_simp; try with_reducible rfl)
          refine tk 13 hHeld ?_
          refine tk 14 hHeld ?_ (hy := fun w hSw => by (try dsimp only at hSw); have k0 := (hSw.cell (p := ⟨W.heap.size, 4, none⟩) Z3.out.lt).trans (Z3.out.at_ 4 rfl); clear hSw; go_simp; try with_reducible rfl)
          refine tk 15 hHeld ?_
          refine tk 16 hHeld ?_
          refine tk 17 hHeld ?_
          refine tk 18 hHeld ?_ (hy := fun w hSw => by (try dsimp only at hSw); have k0 := (hSw.cell (p := ⟨gn, on + k * 2 + 1, none⟩) HG3.out).trans E13.out; clear hSw; go_simp; try with_reducible rfl)
          refine tk 19 hHeld ?_
          refine tk 20 hHeld ?_
          refine tk 21 hHeld ?_
          refine tk 22 hHeld ?_ (hy := fun w hSw => by (try dsimp only at hSw); have k0 := (hSw.cell (p := ⟨gs, os + j * 2 + 1, none⟩) HGs.out).trans F1.out; clear hSw; go_simp; try with_reducible rfl)
          refine rd1 11 (fun K hK => ?_)
          go_simp
          go_at_call 16
          refine (putS_at f G0.out R0.out _).mono ?_
          rintro e u3 ⟨rfl, hb⟩
          refine hK.out _ _ (hHeld.trans (hb.mono hHeld.size)) (fun hHeld => ?_)
          clear hK K hb
          refine tk 12 hHeld ?_
          refine rd1 23 (fun K hK => ?_)
          go_simp
          go_at_call 16
          refine (putS_at b G1.out R1.out _).mono ?_
          rintro e u4 ⟨rfl, hb⟩
          refine hK.out _ _ (hHeld.trans (hb.mono hHeld.size)) (fun hHeld => ?_)
          clear hK K hb
          refine tk 24 hHeld ?_
          refine tk 25 hHeld ?_
          refine rd0 ?_
          have HF := Lib.hid hHeld
          clear hHeld
          have HC4 := Lib.hid (HC2.out.trans (HF.out.mono hszC))
          have HST := Lib.hid (show (P' ++ p0) ++ p1 = QB ++ catTo spanB Bk (j + 1) from by rw [catTo_step HX2.out, ← HPP'.out, show spanB (f, b) = p0 ++ p1 from by unfold spanB; rw [G0.out, G1.out]]; simp only [ByteArray.append_assoc])
          clear HF hadd0 hadd1 z1 s0 s1 r1 e1
          go_wp2
          go_roundw
          case rel => exact ⟨j + 1, by omega, by go_num, by rw [HST.out], HC4.out⟩
          case measure => simp [intOf]; omega
        · have hdj : decide ((j : Int) < (Bk.length : Int)) = false := decide_eq_false (by omega)
          obtain rfl : j = Bk.length := by omega
          have HST := Lib.hid (show P' = P0 ++ catTo nodeB N (k + 1) from by rw [catTo_step HX.out, ← HPP'.out, HQQ.out, ← HPP.out]; unfold nodeB; simp only [ByteArray.append_assoc])
          clear hC
          go_wp2
          go_roundw
          case rel => exact ⟨k + 1, by omega, by go_num, by rw [HST.out], HB3.out⟩
          case measure => simp [intOf]; omega
    · have hdl : decide ((k : Int) < (N.length : Int)) = false := decide_eq_false (by omega)
      obtain rfl : k = N.length := by omega
      have HT1 := Lib.hid (rd_mv R_Task_ok HT.out hB)
      have HU1 := Lib.hid (rd_mv R_Use_ok HU.out hB)
      have Z1 := Lib.hid (X1.out.call hB)
      have hzo := HBW.out.size
      clear hB
      go_wp2
      go_loopw [8, 5] (fun i q wr => ∃ k : Nat, k ≤ T.length ∧ i = .int .i64 k ∧ q = .string (PB ++ catTo (taskPart (l, s)) T k) ∧ Below wo.heap.size wo wr) (fun i _ _ => T.length - (intOf i).toNat)
      case atStart => exact ⟨0, Nat.zero_le _, rfl, by rw [catTo_zero, ba_nil], Below.refl _ _⟩
      case round =>
        obtain ⟨k, hk, rfl, rfl, hB⟩ := hrel
        obtain ⟨wp, rfl⟩ : ∃ x, x = wr := ⟨_, rfl⟩
        have HBj := Lib.hid hB
        have hszj := hB.size
        have HBWj := Lib.hid (HBW.out.trans (hB.mono hzo))
        have Y0 := Lib.hid (Z0.out.call hB)
        have Y1 := Lib.hid (Z1.out.call hB)
        have r2 := Y0.out.at_ 5 rfl
        have hpk := HTB.out k
        obtain ⟨P2, hP2⟩ : ∃ P2, PB ++ catTo (taskPart (l, s)) T k = P2 := ⟨_, rfl⟩
        have hPs2 : P2.size ≤ 29410 := by rw [← hP2, ByteArray.size_append]; omega
        have HPP2 := Lib.hid hP2
        rw [hP2]
        clear hpk hP2
        by_cases hlt : k < T.length
        · have hdl : decide ((k : Int) < (T.length : Int)) = true := decide_eq_true (by omega)
          obtain ⟨⟨⟨x0, x1⟩, x2, x3, x4, x5, x6, ⟨x7, x8⟩, x9, x10, x11, x12, M⟩, hx⟩ := el_some hlt
          have HX := Lib.hid hx
          have HTX := Lib.hid (show TaskR ((x0, x1), x2, x3, x4, x5, x6, (x7, x8), x9, x10, x11, x12, M) from (HTR.out.2 k _ hx).1)
          obtain ⟨g, o, us, rfl, hg, hu, hr⟩ := (rd_mv R_Task_ok HT1.out hB).at_ hx
          obtain ⟨ma, mc, rfl, k_M, b_x3⟩ := rd_Task hr
          have HRD := Lib.hid hr
          have HG := Lib.hid hg
          have e0 : wp.cell? ⟨g, o + k * 14, none⟩ = some (.int .i64 x0) := by simpa [size_TaskS, Nat.add_assoc] using hu 0 _ rfl
          have e1 : wp.cell? ⟨g, o + k * 14 + 1, none⟩ = some (.int .i64 x1) := by simpa [size_TaskS, Nat.add_assoc] using hu 1 _ rfl
          have e2 : wp.cell? ⟨g, o + k * 14 + 2, none⟩ = some (.int .i64 x2) := by simpa [size_TaskS, Nat.add_assoc] using hu 2 _ rfl
          have e3 : wp.cell? ⟨g, o + k * 14 + 3, none⟩ = some (.string x3) := by simpa [size_TaskS, Nat.add_assoc] using hu 3 _ rfl
          have e4 : wp.cell? ⟨g, o + k * 14 + 4, none⟩ = some (.int .i64 x4) := by simpa [size_TaskS, Nat.add_assoc] using hu 4 _ rfl
          have e5 : wp.cell? ⟨g, o + k * 14 + 5, none⟩ = some (.int .i64 x5) := by simpa [size_TaskS, Nat.add_assoc] using hu 5 _ rfl
          have e6 : wp.cell? ⟨g, o + k * 14 + 6, none⟩ = some (.int .i64 x6) := by simpa [size_TaskS, Nat.add_assoc] using hu 6 _ rfl
          have e7 : wp.cell? ⟨g, o + k * 14 + 7, none⟩ = some (.int .i64 x7) := by simpa [size_TaskS, Nat.add_assoc] using hu 7 _ rfl
          have e8 : wp.cell? ⟨g, o + k * 14 + 8, none⟩ = some (.int .i64 x8) := by simpa [size_TaskS, Nat.add_assoc] using hu 8 _ rfl
          have e9 : wp.cell? ⟨g, o + k * 14 + 9, none⟩ = some (.int .i64 x9) := by simpa [size_TaskS, Nat.add_assoc] using hu 9 _ rfl
          have e10 : wp.cell? ⟨g, o + k * 14 + 10, none⟩ = some (.int .i64 x10) := by simpa [size_TaskS, Nat.add_assoc] using hu 10 _ rfl
          have e11 : wp.cell? ⟨g, o + k * 14 + 11, none⟩ = some (.int .i64 x11) := by simpa [size_TaskS, Nat.add_assoc] using hu 11 _ rfl
          have e12 : wp.cell? ⟨g, o + k * 14 + 12, none⟩ = some (.int .i64 x12) := by simpa [size_TaskS, Nat.add_assoc] using hu 12 _ rfl
          have e13 : wp.cell? ⟨g, o + k * 14 + 13, none⟩ = some (.slice ma M.length mc) := by simpa [size_TaskS, Nat.add_assoc] using hu 13 _ rfl
          have E0 := Lib.hid e0
          have E1 := Lib.hid e1
          have hi0 : (0 : Int) ≤ (k : Int) := Int.natCast_nonneg _
          have hi1 : (k : Int) < (T.length : Int) := by omega
          have hMn : M.length ≤ 9223372036854775807 := by have h1 := k_M.1; have h2 := k_M.2.1; unfold maxLen at h2; omega
          obtain ⟨c, hc⟩ : ∃ c, LabC.bB x0 x1 l s = c := ⟨_, rfl⟩
          have HCB := Lib.hid hc
          have hts := bytesT_size HTX.out
          obtain ⟨bt, hbt⟩ : ∃ b, bytesT ((x0, x1), x2, x3, x4, x5, x6, (x7, x8), x9, x10, x11, x12, M) = b := ⟨_, rfl⟩
          rw [hbt] at hts
          have HBT := Lib.hid hbt
          have haddT := fun w : World => run_string_add_sum (P := Tryz.prog) w P2 bt (by omega)
          clear hB hx hu hr hg hc k_M b_x3 hbt
          go_upto_region 15 with fail
          refine wp_region_held_drew (S := (fun V => Below (wp).heap.size (wp) V)) (by kernel_rfl) ((Below.refl _ _).drew) (fun hHeld => ?_)
          refine tk 0 hHeld ?_
          refine tk 1 hHeld ?_ (hy := fun w hSw => by (try dsimp only at hSw); have k0 := (hSw.cell (p := ⟨W.heap.size, 5, none⟩) Y0.out.lt).trans (Y0.out.at_ 5 rfl); clear hSw; go_simp; try with_reducible rfl)
          refine tk 2 hHeld ?_
          refine tk 3 hHeld ?_
          refine tk 4 hHeld ?_
          refine tk 5 hHeld ?_ (hy := fun w hSw => by (try dsimp only at hSw); have k0 := (hSw.cell (p := ⟨g, o + k * 14, none⟩) HG.out).trans E0.out; have k1 := (hSw.cell (p := ⟨g, o + k * 14 + 1, none⟩) HG.out).trans E1.out; clear hSw; go_simp; try with_reducible rfl)
          refine tk 6 hHeld ?_ (hy := fun w hSw => by (try dsimp only at hSw); have k0 := (hSw.cell (p := ⟨W.heap.size + 1, 0, none⟩) Y1.out.lt).trans (Y1.out.at_ 0 rfl); have k1 := (hSw.cell (p := ⟨W.heap.size + 1, 1, none⟩) Y1.out.lt).trans (Y1.out.at_ 1 rfl); clear hSw; go_simp; try with_reducible rfl)
          refine rd1 7 (fun K hK => ?_)
          go_simp
          go_at_call 17
          refine (below2_at x0 x1 l s HCB.out _).mono ?_
          rintro e u5 ⟨rfl, hb⟩
          refine hK.out _ _ (hHeld.trans (hb.mono hHeld.size)) (fun hHeld => ?_)
          clear hK K hb
          refine rd0 ?_
          have HF := Lib.hid hHeld
          clear hHeld
          have HB8 := Lib.hid (HBj.out.trans (HF.out.mono hszj))
          have HBW8 := Lib.hid (HBWj.out.trans (HF.out.mono HBWj.out.size))
          cases c with
          | true =>
            have HST := Lib.hid (show P2 ++ bt = PB ++ catTo (taskPart (l, s)) T (k + 1) from by rw [catTo_step HX.out, taskPart_yes (show seesB (tLab ((x0, x1), x2, x3, x4, x5, x6, (x7, x8), x9, x10, x11, x12, M)) (l, s) = true from HCB.out), HBT.out, ← HPP2.out, ByteArray.append_assoc])
            have HRD2 := Lib.hid (R_Task_ok.rd_more (R_Task_ok.rd_below HRD.out HF.out) HF.out.size)
            have t2 := (Y0.out.call HF.out).at_ 5 rfl
            have f0 := (HF.out.cell (p := ⟨g, o + k * 14, none⟩) HG.out).trans e0
            have f1 := (HF.out.cell (p := ⟨g, o + k * 14 + 1, none⟩) HG.out).trans e1
            have f2 := (HF.out.cell (p := ⟨g, o + k * 14 + 2, none⟩) HG.out).trans e2
            have f3 := (HF.out.cell (p := ⟨g, o + k * 14 + 3, none⟩) HG.out).trans e3
            have f4 := (HF.out.cell (p := ⟨g, o + k * 14 + 4, none⟩) HG.out).trans e4
            have f5 := (HF.out.cell (p := ⟨g, o + k * 14 + 5, none⟩) HG.out).trans e5
            have f6 := (HF.out.cell (p := ⟨g, o + k * 14 + 6, none⟩) HG.out).trans e6
            have f7 := (HF.out.cell (p := ⟨g, o + k * 14 + 7, none⟩) HG.out).trans e7
            have f8 := (HF.out.cell (p := ⟨g, o + k * 14 + 8, none⟩) HG.out).trans e8
            have f9 := (HF.out.cell (p := ⟨g, o + k * 14 + 9, none⟩) HG.out).trans e9
            have f10 := (HF.out.cell (p := ⟨g, o + k * 14 + 10, none⟩) HG.out).trans e10
            have f11 := (HF.out.cell (p := ⟨g, o + k * 14 + 11, none⟩) HG.out).trans e11
            have f12 := (HF.out.cell (p := ⟨g, o + k * 14 + 12, none⟩) HG.out).trans e12
            have f13 := (HF.out.cell (p := ⟨g, o + k * 14 + 13, none⟩) HG.out).trans e13
            clear HF e0 e1 e2 e3 e4 e5 e6 e7 e8 e9 e10 e11 e12 e13 r2
            go_wp2_with fail
            have hbb := bytes_spec HRD2.out
            rw [HBT.out] at hbb
            refine hbb.mono ?_
            rintro e w9 ⟨rfl, hb⟩
            have HB9 := Lib.hid (HB8.out.trans (hb.mono HB8.out.size))
            clear hb hbb f0 f1 f2 f3 f4 f5 f6 f7 f8 f9 f10 f11 f12 f13 t2
            go_wp2
            go_roundw
            case rel => exact ⟨k + 1, by omega, by go_num, by rw [HST.out], HB9.out⟩
            case measure => simp [intOf]; omega
          | false =>
            have HST := Lib.hid (show P2 = PB ++ catTo (taskPart (l, s)) T (k + 1) from by rw [catTo_step HX.out, taskPart_no (show seesB (tLab ((x0, x1), x2, x3, x4, x5, x6, (x7, x8), x9, x10, x11, x12, M)) (l, s) = false from HCB.out), ba_nil, HPP2.out])
            clear HF e0 e1 e2 e3 e4 e5 e6 e7 e8 e9 e10 e11 e12 e13 r2
            go_wp2
            go_roundw
            case rel => exact ⟨k + 1, by omega, by go_num, by rw [HST.out], HB8.out⟩
            case measure => simp [intOf]; omega
        · have hdl : decide ((k : Int) < (T.length : Int)) = false := decide_eq_false (by omega)
          obtain rfl : k = T.length := by omega
          have HU2 := Lib.hid (rd_mv R_Use_ok HU1.out hB)
          have hzp := HBWj.out.size
          clear hB
          go_wp2
          go_loopw [9, 5] (fun i q wr => ∃ k : Nat, k ≤ U.length ∧ i = .int .i64 k ∧ q = .string (P2 ++ catTo (usePart (l, s)) U k) ∧ Below wp.heap.size wp wr) (fun i _ _ => U.length - (intOf i).toNat)
          case atStart => exact ⟨0, Nat.zero_le _, rfl, by rw [catTo_zero, ba_nil], Below.refl _ _⟩
          case round =>
            obtain ⟨k, hk, rfl, rfl, hB⟩ := hrel
            obtain ⟨wq, rfl⟩ : ∃ x, x = wr := ⟨_, rfl⟩
            have HBi := Lib.hid hB
            have hszi := hB.size
            have HBWi := Lib.hid (HBWj.out.trans (hB.mono hzp))
            have V0 := Lib.hid (Y0.out.call hB)
            have V1 := Lib.hid (Y1.out.call hB)
            have r3 := V0.out.at_ 6 rfl
            have hpk := HUB.out k
            obtain ⟨P3, hP3⟩ : ∃ P3, P2 ++ catTo (usePart (l, s)) U k = P3 := ⟨_, rfl⟩
            have hPs3 : P3.size ≤ 32290 := by rw [← hP3, ByteArray.size_append]; omega
            have HPP3 := Lib.hid hP3
            rw [hP3]
            clear hpk hP3
            by_cases hlt : k < U.length
            · have hdl : decide ((k : Int) < (U.length : Int)) = true := decide_eq_true (by omega)
              obtain ⟨⟨⟨u0, u1⟩, u2, u3⟩, hx⟩ := el_some hlt
              have HX := Lib.hid hx
              have HOU := Lib.hid (show okU ((u0, u1), u2, u3) from (HUR.out.2 k _ hx).1)
              have hsm := useB_small HOU.out
              obtain ⟨h0, h1, h2, h3⟩ := hsm
              obtain ⟨g, o, us, rfl, hg, hu, hr⟩ := (rd_mv R_Use_ok HU2.out hB).at_ hx
              obtain ⟨rfl, hml⟩ := rd_Use hr
              have HML := Lib.hid hml
              have e0 : wq.cell? ⟨g, o + k * 4, none⟩ = some (.int .i64 u0) := by simpa [size_UseS, Nat.add_assoc] using hu 0 _ rfl
              have e1 : wq.cell? ⟨g, o + k * 4 + 1, none⟩ = some (.int .i64 u1) := by simpa [size_UseS, Nat.add_assoc] using hu 1 _ rfl
              have e2 : wq.cell? ⟨g, o + k * 4 + 2, none⟩ = some (.string u2) := by simpa [size_UseS, Nat.add_assoc] using hu 2 _ rfl
              have e3 : wq.cell? ⟨g, o + k * 4 + 3, none⟩ = some (.int .i64 u3) := by simpa [size_UseS, Nat.add_assoc] using hu 3 _ rfl
              have hi0 : (0 : Int) ≤ (k : Int) := Int.natCast_nonneg _
              have hi1 : (k : Int) < (U.length : Int) := by omega
              obtain ⟨w3, hw3⟩ : ∃ w, w = wq.alloc (.cells #[.int .i64 u0, .int .i64 u1, .string u2, .int .i64 u3] 69) := ⟨_, rfl⟩
              have hb3 : Below wq.heap.size wq w3 := by rw [hw3]; exact (Below.refl _ _).alloc (Nat.le_refl _) _
              have T3 := Lib.hid (show Blk w3 wq.heap.size 69 #[.int .i64 u0, .int .i64 u1, .string u2, .int .i64 u3] from by rw [hw3]; exact Blk.new _ _ _)
              have V13 := Lib.hid (V1.out.call hb3)
              have HB3 := Lib.hid (HBi.out.trans (hb3.mono hszi))
              obtain ⟨c, hc⟩ : ∃ c, LabC.bB u0 u1 l s = c := ⟨_, rfl⟩
              have HCB := Lib.hid hc
              have R0 := Lib.hid (r64 h0)
              have R1 := Lib.hid (r64 h1)
              have R3 := Lib.hid (r64 h3)
              obtain ⟨p0, hp0⟩ : ∃ b, PutM.encB u0 = b := ⟨_, rfl⟩
              have s0 : p0.size ≤ 10 := by rw [← hp0]; exact enc10 h0
              have G0 := Lib.hid hp0
              obtain ⟨p1, hp1⟩ : ∃ b, PutM.encB u1 = b := ⟨_, rfl⟩
              have s1 : p1.size ≤ 10 := by rw [← hp1]; exact enc10 h1
              have G1 := Lib.hid hp1
              obtain ⟨p2, hp2⟩ : ∃ b, JoinC.putT u2 = b := ⟨_, rfl⟩
              have s2 : p2.size ≤ 30 := by rw [← hp2]; exact putT30 h2
              have G2 := Lib.hid hp2
              obtain ⟨p3, hp3⟩ : ∃ b, PutM.encB u3 = b := ⟨_, rfl⟩
              have s3 : p3.size ≤ 10 := by rw [← hp3]; exact enc10 h3
              have G3 := Lib.hid hp3
              have hadd0 := fun w : World => run_string_add_sum (P := Tryz.prog) w P3 p0 (by omega)
              have z1 : (P3 ++ p0).size ≤ 32300 := by rw [ByteArray.size_append]; omega
              have hadd1 := fun w : World => run_string_add_sum (P := Tryz.prog) w (P3 ++ p0) p1 (by omega)
              have z2 : ((P3 ++ p0) ++ p1).size ≤ 32310 := by rw [ByteArray.size_append]; omega
              have hadd2 := fun w : World => run_string_add_sum (P := Tryz.prog) w ((P3 ++ p0) ++ p1) p2 (by omega)
              have z3 : (((P3 ++ p0) ++ p1) ++ p2).size ≤ 32340 := by rw [ByteArray.size_append]; omega
              have hadd3 := fun w : World => run_string_add_sum (P := Tryz.prog) w (((P3 ++ p0) ++ p1) ++ p2) p3 (by omega)
              have HST1 := Lib.hid (show c = true → (((P3 ++ p0) ++ p1) ++ p2) ++ p3 = P2 ++ catTo (usePart (l, s)) U (k + 1) from fun h => by rw [catTo_step HX.out, usePart_yes (show seesB ((u0, u1), u2, u3).1 (l, s) = true from HCB.out.trans h), ← HPP3.out, show useB ((u0, u1), u2, u3) = ((p0 ++ p1) ++ p2) ++ p3 from by unfold useB; rw [hp0, hp1, hp2, hp3]]; simp only [ByteArray.append_assoc])
              clear hB hx hu hr hg hc hb3 hml h0 h1 h2 h3 hp0 hp1 hp2 hp3
              go_upto_region 21 with fail
              rw [← hw3]
              clear hw3 e0 e1 e2 e3 r3
              have t0 := T3.out.at_ 0 rfl
              have t1 := T3.out.at_ 1 rfl
              have l0 := V13.out.at_ 0 rfl
              have l1 := V13.out.at_ 1 rfl
              go_wp2_with fail
              refine (below2_at u0 u1 l s HCB.out _).mono ?_
              rintro e w4 ⟨rfl, hb⟩
              have T4 := Lib.hid (T3.out.call hb)
              have HB4 := Lib.hid (HB3.out.trans (hb.mono HB3.out.size))
              have hz4 := HB4.out.size
              clear hb t0 t1 l0 l1
              cases c with
              | true =>
                have HST := Lib.hid (HST1.out rfl)
                go_upto_region 22 with fail
                refine wp_region_held_drew (S := (fun V => Below (w4).heap.size (w4) V)) (by kernel_rfl) ((Below.refl _ _).drew) (fun hHeld => ?_)
                refine tk 0 hHeld ?_
                refine tk 1 hHeld ?_
                refine tk 2 hHeld ?_
                refine tk 3 hHeld ?_ (hy := fun w hSw => by (try dsimp only at hSw); have k0 := (hSw.cell (p := ⟨wq.heap.size, 0, none⟩) T4.out.lt).trans (T4.out.at_ 0 rfl); clear hSw; go_simp; try with_reducible rfl)
                refine tk 6 hHeld ?_
                refine tk 7 hHeld ?_
                refine tk 8 hHeld ?_ (hy := fun w hSw => by (try dsimp only at hSw); have k0 := (hSw.cell (p := ⟨wq.heap.size, 1, none⟩) T4.out.lt).trans (T4.out.at_ 1 rfl); clear hSw; go_simp; try with_reducible rfl)
                refine tk 11 hHeld ?_
                refine tk 12 hHeld ?_ (hy := fun w hSw => by (try dsimp only at hSw); have k0 := (hSw.cell (p := ⟨wq.heap.size, 2, none⟩) T4.out.lt).trans (T4.out.at_ 2 rfl); clear hSw; go_simp; try with_reducible rfl)
                refine tk 15 hHeld ?_
                refine tk 16 hHeld ?_ (hy := fun w hSw => by (try dsimp only at hSw); have k0 := (hSw.cell (p := ⟨wq.heap.size, 3, none⟩) T4.out.lt).trans (T4.out.at_ 3 rfl); clear hSw; go_simp; try with_reducible rfl)
                refine rd1 4 (fun K hK => ?_)
                go_simp
                go_at_call 16
                refine (putS_at u0 G0.out R0.out _).mono ?_
                rintro e w5 ⟨rfl, hb⟩
                refine hK.out _ _ (hHeld.trans (hb.mono hHeld.size)) (fun hHeld => ?_)
                clear hK K hb
                refine tk 5 hHeld ?_
                refine rd1 9 (fun K hK => ?_)
                go_simp
                go_at_call 16
                refine (putS_at u1 G1.out R1.out _).mono ?_
                rintro e w6 ⟨rfl, hb⟩
                refine hK.out _ _ (hHeld.trans (hb.mono hHeld.size)) (fun hHeld => ?_)
                clear hK K hb
                refine tk 10 hHeld ?_
                refine rd1 13 (fun K hK => ?_)
                go_simp
                go_at_call 19
                refine (textS_at u2 G2.out HML.out _).mono ?_
                rintro e w7 ⟨rfl, hb⟩
                refine hK.out _ _ (hHeld.trans (hb.mono hHeld.size)) (fun hHeld => ?_)
                clear hK K hb
                refine tk 14 hHeld ?_
                refine rd1 17 (fun K hK => ?_)
                go_simp
                go_at_call 16
                refine (putS_at u3 G3.out R3.out _).mono ?_
                rintro e w8 ⟨rfl, hb⟩
                refine hK.out _ _ (hHeld.trans (hb.mono hHeld.size)) (fun hHeld => ?_)
                clear hK K hb
                refine tk 18 hHeld ?_
                refine tk 19 hHeld ?_
                refine rd0 ?_
                have HF := Lib.hid hHeld
                clear hHeld
                have HB5 := Lib.hid (HB4.out.trans (HF.out.mono hz4))
                clear HF hadd0 hadd1 hadd2 hadd3 z1 z2 z3 s0 s1 s2 s3
                go_wp2
                go_roundw
                case rel => exact ⟨k + 1, by omega, by go_num, by rw [HST.out], HB5.out⟩
                case measure => simp [intOf]; omega
              | false =>
                have HST := Lib.hid (show P3 = P2 ++ catTo (usePart (l, s)) U (k + 1) from by rw [catTo_step HX.out, usePart_no (show seesB ((u0, u1), u2, u3).1 (l, s) = false from HCB.out), ba_nil, HPP3.out])
                go_wp2
                go_roundw
                case rel => exact ⟨k + 1, by omega, by go_num, by rw [HST.out], HB4.out⟩
                case measure => simp [intOf]; omega
            · have hdl : decide ((k : Int) < (U.length : Int)) = false := decide_eq_false (by omega)
              obtain rfl : k = U.length := by omega
              have HST := Lib.hid (show P3 = (viewV ((C, P, Q, hf), N, T, U, now) (l, s)) from by rw [HE.out, ← HPP3.out, ← HPP2.out, ← HPP.out, ← HP0.out]; rfl)
              clear hB
              go_wp2
              go_ret
              exact ⟨by rw [HST.out]; rfl, HBWi.out⟩
end Go.Proofs.YtelhmacfljffhabGreat.RepC
end
