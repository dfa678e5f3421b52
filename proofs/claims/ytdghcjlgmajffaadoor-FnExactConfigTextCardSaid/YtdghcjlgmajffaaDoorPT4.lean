/- Of this claim's texts the part 4: CfV CfI2 CfI3 CfV2 Text TextLaw Dec9 CfX CfX2 Shelf Bld. -/
import Derived.Laws.Concat
import Derived.Shelf.Strings.Builder1
import Derived.Shelf.Small.Bits
import Derived.Shelf.Strconv.Itoa0
import Derived.Shelf.Strconv.Itoa1
import Derived.Shelf.LaysM
import Derived.Shelf.Strconv.Itoa2
import Derived.Shelf.Strconv.Itoa3
import Derived.Ground.SlgcProg
import Derived.Shelf.SlicesG.Cmp
import Derived.Test.YtdghcjlgmajffaaDoorProg
import Derived.Test.YtdghcjlgmajffaaDoorRows
import Derived.Lib.Strings
import Derived.Lib.Slices
import Derived.Lib.Walk
import Derived.Lib.Builder
import Derived.Lib.AppendStr
import Derived.Lib.UnsafeStr
import Derived.Lib.MakeNoZero
import Derived.WalkKit
import Derived.Laws.Externs
import Derived.Laws.IdiomCopy
import Derived.Laws.BitsLemmas
import Derived.Shelf.RegionOpenPlain
import Derived.Test.YtdghcjlgmajffaaDoorPT3
section
namespace Go.Proofs.YtdghcjlgmajffaaDoor.RepC
open Go.RowKit RowC ValC SpanC KeptC CfC
set_option linter.unusedVariables false
set_option linter.unusedSimpArgs false
noncomputable def cfgB (C : List (List D_Label)) (P : List D_Pair) (Q : List D_Quota) (hf : Int) : Bool := by classical exact decide (CfgR C P Q hf)
theorem cfgB_iff {C : List (List D_Label)} {P : List D_Pair} {Q : List D_Quota} {hf : Int} : cfgB C P Q hf = true ↔ CfgR C P Q hf := by unfold cfgB; simp
set_option maxRecDepth 100000 in
set_option maxHeartbeats 1600000 in
theorem config_spec {C : List (List D_Label)} {P : List D_Pair} {Q : List D_Quota} {hf : Int} {ca pa qa : Option Addr} {cc pc qc : Nat} {W : World} (hC : RdSl (Sl R_Label) W W.heap.size C ca cc) (hP : RdSl R_Pair W W.heap.size P pa pc) (hQ : RdSl R_Quota W W.heap.size Q qa qc) :
    Calls Tryd.prog 12 #[.agg #[.slice ca C.length cc, .slice pa P.length pc, .slice qa Q.length qc, .int .i64 hf]] W (IsB (cfgB C P Q hf) W) := by
  obtain ⟨z, hz⟩ : ∃ z, cfgB C P Q hf = z := ⟨_, rfl⟩
  have HZ := Lib.hid (show z = true ↔ CfgR C P Q hf from by rw [← hz]; exact cfgB_iff)
  rw [hz]
  clear hz
  refine Calls.mono ?_ fun e w' h => resB_at HZ.out h
  obtain ⟨zh, hzh⟩ : ∃ z, isB hf 1 9 = z := ⟨_, rfl⟩
  have HH := Lib.hid hzh
  clear hzh HZ
  obtain ⟨M, hM⟩ : ∃ M, labsOf C = M := ⟨_, rfl⟩
  have HMr := Lib.hid (show ∀ a ∈ M, LabC.rP a.1 a.2 from by rw [← hM]; exact fun a ha => (mem_labs.1 ha).1)
  have HMs := Lib.hid (show M.Pairwise ltB from by rw [← hM]; exact labs_sorted C 32)
  have HM := Lib.hid hM
  clear hM
  obtain ⟨w0, hw0⟩ : ∃ w, w = W.alloc (.cells #[.slice ca C.length cc, .slice pa P.length pc, .slice qa Q.length qc, .int .i64 hf] 33) := ⟨_, rfl⟩
  have hb0 : Below W.heap.size W w0 := by rw [hw0]; exact (Below.refl _ _).alloc (Nat.le_refl _) _
  have x0 : Blk w0 (W.heap.size) 33 #[.slice ca C.length cc, .slice pa P.length pc, .slice qa Q.length qc, .int .i64 hf] := by
    have h9 := Blk.new W 33 #[.slice ca C.length cc, .slice pa P.length pc, .slice qa Q.length qc, .int .i64 hf]
    try simp only [World.size_alloc] at h9
    rw [hw0]; exact h9
  have X0 := Lib.hid x0
  have HC := Lib.hid (rd_mv (Sl_ok R_Label_ok) hC hb0)
  have HP := Lib.hid (rd_mv R_Pair_ok hP hb0)
  have HQ := Lib.hid (rd_mv R_Quota_ok hQ hb0)
  have HB0 := Lib.hid hb0
  have hz0 := hb0.size
  clear hb0 hC hP hQ x0
  go_enter Tryd.func12, Tryd.ntmps12
  have qX0_0 := X0.out.at_ 0 rfl
  have qX0_1 := X0.out.at_ 1 rfl
  have qX0_2 := X0.out.at_ 2 rfl
  have qX0_3 := X0.out.at_ 3 rfl
  go_wp2_with fail
  rw [← hw0]
  clear hw0
  refine (clear_spec HC.out).mono ?_
  intro e v1 h
  obtain ⟨z1, rfl, hz1, hb1⟩ := resB_elim h
  have HZ1 := Lib.hid hz1
  have HC := Lib.hid (rd_mv (Sl_ok R_Label_ok) HC.out hb1)
  have HP := Lib.hid (rd_mv R_Pair_ok HP.out hb1)
  have HQ := Lib.hid (rd_mv R_Quota_ok HQ.out hb1)
  have X0 := Lib.hid (X0.out.call hb1)
  have HB0 := Lib.hid (HB0.out.trans (hb1.mono HB0.out.size))
  clear h hz1 hb1 qX0_0 qX0_1 qX0_2 qX0_3
  have qX0_0 := X0.out.at_ 0 rfl
  have qX0_1 := X0.out.at_ 1 rfl
  have qX0_2 := X0.out.at_ 2 rfl
  have qX0_3 := X0.out.at_ 3 rfl
  cases z1 with
  | false =>
    have HN := Lib.hid (show ¬ CfgR C P Q hf from fun h => by have := HZ1.out.2 (h.1); cases this)
    go_wp2
    go_ret
    exact resB_no HN.out HB0.out
  | true =>
  have HY1 := Lib.hid (HZ1.out.1 rfl)
  go_wp2_with fail
  refine (is_at _ _ _ HH.out _).mono ?_
  rintro e w9 ⟨rfl, rfl⟩
  cases zh with
  | false =>
    have HN := Lib.hid (show ¬ CfgR C P Q hf from fun h => by have := h.2.1; rw [HH.out] at this; cases this)
    go_wp2
    go_ret
    exact resB_no HN.out HB0.out
  | true =>
  go_wp2_with fail
  have hlb := labs_spec HC.out
  rw [HM.out] at hlb
  refine hlb.mono ?_
  intro e v2 h
  obtain ⟨la, lc, rfl, ho, hb2⟩ := newS_elim h
  have HL := Lib.hid (ho.rd R_Label_ok (B := v2.heap.size) fun k hk => hk.2)
  have HC := Lib.hid (rd_mv (Sl_ok R_Label_ok) HC.out hb2)
  have HP := Lib.hid (rd_mv R_Pair_ok HP.out hb2)
  have HQ := Lib.hid (rd_mv R_Quota_ok HQ.out hb2)
  have X0 := Lib.hid (X0.out.call hb2)
  have HB0 := Lib.hid (HB0.out.trans (hb2.mono HB0.out.size))
  clear h ho hlb hb2 qX0_0 qX0_1 qX0_2 qX0_3
  have qX0_0 := X0.out.at_ 0 rfl
  have qX0_1 := X0.out.at_ 1 rfl
  have qX0_2 := X0.out.at_ 2 rfl
  have qX0_3 := X0.out.at_ 3 rfl
  by_cases h8 : M.length ≤ 8
  rotate_left
  · have hd : decide ((M.length : Int) ≤ 8) = false := decide_eq_false (by omega)
    have hd' : decide (M.length ≤ 8) = false := decide_eq_false h8
    have HN := Lib.hid (show ¬ CfgR C P Q hf from fun h => h8 (by rw [← HM.out]; exact h.2.2.1))
    go_wp2
    go_ret
    exact resB_no HN.out HB0.out
  have hd : decide ((M.length : Int) ≤ 8) = true := decide_eq_true (by omega)
  have hd' : decide (M.length ≤ 8) = true := decide_eq_true h8
  go_wp2_with fail
  refine (pairs_spec HL.out HP.out).mono ?_
  intro e v3 h
  obtain ⟨z3, rfl, hz3, hb3⟩ := resB_elim h
  have HZ3 := Lib.hid hz3
  have HC := Lib.hid (rd_mv (Sl_ok R_Label_ok) HC.out hb3)
  have HP := Lib.hid (rd_mv R_Pair_ok HP.out hb3)
  have HQ := Lib.hid (rd_mv R_Quota_ok HQ.out hb3)
  have HL := Lib.hid (rd_mv R_Label_ok HL.out hb3)
  have X0 := Lib.hid (X0.out.call hb3)
  have HB0 := Lib.hid (HB0.out.trans (hb3.mono HB0.out.size))
  clear h hz3 hb3 qX0_0 qX0_1 qX0_2 qX0_3
  have qX0_0 := X0.out.at_ 0 rfl
  have qX0_1 := X0.out.at_ 1 rfl
  have qX0_2 := X0.out.at_ 2 rfl
  have qX0_3 := X0.out.at_ 3 rfl
  cases z3 with
  | false =>
    have HN := Lib.hid (show ¬ CfgR C P Q hf from fun h => by have := HZ3.out.2 (by rw [← HM.out]; exact h.2.2.2.1); cases this)
    go_wp2
    go_ret
    exact resB_no HN.out HB0.out
  | true =>
  have HY3 := Lib.hid (HZ3.out.1 rfl)
  go_wp2_with fail
  refine (quotas_spec HMr.out HMs.out h8 HL.out HQ.out).mono ?_
  intro e v4 h
  obtain ⟨z4, rfl, hz4, hb4⟩ := resB_elim h
  have HZ4 := Lib.hid hz4
  have HC := Lib.hid (rd_mv (Sl_ok R_Label_ok) HC.out hb4)
  have HP := Lib.hid (rd_mv R_Pair_ok HP.out hb4)
  have HQ := Lib.hid (rd_mv R_Quota_ok HQ.out hb4)
  have HL := Lib.hid (rd_mv R_Label_ok HL.out hb4)
  have X0 := Lib.hid (X0.out.call hb4)
  have HB0 := Lib.hid (HB0.out.trans (hb4.mono HB0.out.size))
  clear h hz4 hb4 qX0_0 qX0_1 qX0_2 qX0_3
  have qX0_0 := X0.out.at_ 0 rfl
  have qX0_1 := X0.out.at_ 1 rfl
  have qX0_2 := X0.out.at_ 2 rfl
  have qX0_3 := X0.out.at_ 3 rfl
  cases z4 with
  | false =>
    have HN := Lib.hid (show ¬ CfgR C P Q hf from fun h => by have := HZ4.out.2 (by rw [← HM.out]; exact h.2.2.2.2); cases this)
    go_wp2
    go_ret
    exact resB_no HN.out HB0.out
  | true =>
  have HY4 := Lib.hid (HZ4.out.1 rfl)
  have HY := Lib.hid (show CfgR C P Q hf from ⟨HY1.out, HH.out, by rw [HM.out]; exact h8, by rw [HM.out]; exact HY3.out, by rw [HM.out]; exact HY4.out⟩)
  go_wp2
  go_ret
  exact resB_yes HY.out HB0.out
end Go.Proofs.YtdghcjlgmajffaaDoor.RepC
end
section
namespace Go.Proofs.YtdghcjlgmajffaaDoor.RepC
open Go.RowKit RowC ValC SpanC KeptC CfC
set_option linter.unusedVariables false
set_option linter.unusedSimpArgs false
theorem below_rP {a b : Lb} (ha : LabC.rP a.1 a.2) (hb : LabC.rP b.1 b.2) : LabC.belowB a.1 a.2 b.1 b.2 = LabC.bB a.1 a.2 b.1 b.2 := LabC.below_yes ((LabC.rB_iff _ _).2 ha) ((LabC.rB_iff _ _).2 hb)
theorem pairix_at {P : List D_Pair} {pa : Option Addr} {pc n : Nat} {f0 f1 t0 t1 ix : Int} {W : World} (hn : P.length = n) (hix : ixP P (f0, f1) (t0, t1) = ix) (hP : RdSl R_Pair W W.heap.size P pa pc) :
    Calls Tryd.prog 58 #[.slice pa n pc, .agg #[.int .i64 f0, .int .i64 f1], .agg #[.int .i64 t0, .int .i64 t1]] W (IsI ix W) := by
  subst hn hix
  exact pairix_impl hP
set_option maxRecDepth 100000 in
set_option maxHeartbeats 3200000 in
theorem pairs_impl {L : List D_Label} {P : List D_Pair} {la pa : Option Addr} {lc pc : Nat} {W : World} (hLR : ∀ a ∈ L, LabC.rP a.1 a.2) (hL : RdSl R_Label W W.heap.size L la lc) (hP : RdSl R_Pair W W.heap.size P pa pc) :
    Calls Tryd.prog 37 #[.slice pa P.length pc, .slice la L.length lc] W (ResB (PairsR L P) W) := by
  have hn : P.length ≤ 9223372036854775807 := by have h1 := hP.1; have h2 := hP.2.1; unfold maxLen at h2; omega
  have hpc := hP.1
  have HL := Lib.hid hL
  have HP := Lib.hid hP
  have HLR := Lib.hid hLR
  clear hL hP hLR
  by_cases h4 : P.length ≤ 4
  rotate_left
  · have hd : decide ((P.length : Int) > 4) = true := decide_eq_true (by omega)
    have hd' : decide (4 < P.length) = true := decide_eq_true (by omega)
    have HN := Lib.hid (show ¬ PairsR L P from fun h => h4 h.1)
    go_enter Tryd.func37, Tryd.ntmps37
    go_wp2
    go_ret
    exact resB_no HN.out (Below.refl _ _)
  have hd : decide ((P.length : Int) > 4) = false := decide_eq_false (by omega)
  have hd' : decide (4 < P.length) = false := decide_eq_false (by omega)
  go_enter Tryd.func37, Tryd.ntmps37
  go_wp2
  go_loopw [12] (fun i wr => ∃ k : Nat, k ≤ P.length ∧ i = .int .i64 k ∧ Hid (∀ (j : Nat) x, j < k → P[j]? = some x → okP L P j x) ∧ Below W.heap.size W wr) (fun i _ => P.length - (intOf i).toNat)
  case atStart => exact ⟨0, Nat.zero_le _, rfl, Lib.hid fun j x h => absurd h (Nat.not_lt_zero _), Below.refl _ _⟩
  case round =>
    obtain ⟨k, hk, rfl, HA, hB⟩ := hrel
    obtain ⟨wo, rfl⟩ : ∃ x, x = wr := ⟨_, rfl⟩
    have HB := Lib.hid hB
    have hsz := hB.size
    by_cases hlt : k < P.length
    · have hdl : decide ((k : Int) < (P.length : Int)) = true := decide_eq_true (by omega)
      obtain ⟨⟨⟨x0, x1⟩, ⟨x2, x3⟩, x4⟩, hx⟩ := el_some hlt
      have HX := Lib.hid hx
      obtain ⟨g, o, us, rfl, hg, hu, hr⟩ := (HP.out.below R_Pair_ok hB).at_ hx
      obtain rfl := rd_Pair hr
      have e0 : wo.cell? ⟨g, o + k * 5, none⟩ = some (.int .i64 x0) := by simpa [size_PairS, Nat.add_assoc] using hu 0 _ rfl
      have e1 : wo.cell? ⟨g, o + k * 5 + 1, none⟩ = some (.int .i64 x1) := by simpa [size_PairS, Nat.add_assoc] using hu 1 _ rfl
      have e2 : wo.cell? ⟨g, o + k * 5 + 2, none⟩ = some (.int .i64 x2) := by simpa [size_PairS, Nat.add_assoc] using hu 2 _ rfl
      have e3 : wo.cell? ⟨g, o + k * 5 + 3, none⟩ = some (.int .i64 x3) := by simpa [size_PairS, Nat.add_assoc] using hu 3 _ rfl
      have e4 : wo.cell? ⟨g, o + k * 5 + 4, none⟩ = some (.int .i64 x4) := by simpa [size_PairS, Nat.add_assoc] using hu 4 _ rfl
      have hi0 : (0 : Int) ≤ (k : Int) := Int.natCast_nonneg _
      have hi1 : (k : Int) < (P.length : Int) := by omega
      obtain ⟨w1, hw1⟩ : ∃ w, w = wo.alloc (.cells #[.int .i64 x0, .int .i64 x1, .int .i64 x2, .int .i64 x3, .int .i64 x4] 46) := ⟨_, rfl⟩
      have hbA : Below wo.heap.size wo w1 := by rw [hw1]; exact (Below.refl _ _).alloc (Nat.le_refl _) _
      have HP1 := Lib.hid (show Blk w1 wo.heap.size 46 #[.int .i64 x0, .int .i64 x1, .int .i64 x2, .int .i64 x3, .int .i64 x4] from by rw [hw1]; exact Blk.new _ _ _)
      have HB1 := Lib.hid (HB.out.trans (hbA.mono hsz))
      have HL1 := Lib.hid (rd_mv R_Label_ok HL.out HB1.out)
      have hz1 := HB1.out.size
      have q0 := HP1.out.at_ 0 rfl
      have q1 := HP1.out.at_ 1 rfl
      have q2 := HP1.out.at_ 2 rfl
      have q3 := HP1.out.at_ 3 rfl
      have q4 := HP1.out.at_ 4 rfl
      clear hB hx hu hr
      go_wp2_with fail
      rw [← hw1]
      clear hw1 hbA e0 e1 e2 e3 e4
      refine (contains_lab HL1.out).mono ?_
      intro e w2 h
      obtain ⟨z, rfl, hz, hb⟩ := resB_elim h
      have HZ1 := Lib.hid hz
      have HB2 := Lib.hid (HB1.out.trans (hb.mono hz1))
      have HL2 := Lib.hid (rd_mv R_Label_ok HL1.out hb)
      have HP2 := Lib.hid (HP1.out.call hb)
      have hz2 := HB2.out.size
      clear h hz hb q0 q1 q2 q3 q4 HP1
      have q0 := HP2.out.at_ 0 rfl
      have q1 := HP2.out.at_ 1 rfl
      have q2 := HP2.out.at_ 2 rfl
      have q3 := HP2.out.at_ 3 rfl
      have q4 := HP2.out.at_ 4 rfl
      cases z with
      | false =>
        have HN := Lib.hid (show ¬ PairsR L P from fun h => by have := HZ1.out.2 (h.2 k _ HX.out).1; cases this)
        go_wp2
        go_ret
        exact resB_no HN.out HB2.out
      | true =>
      have HM1 := Lib.hid (HZ1.out.1 rfl)
      go_wp2_with fail
      refine (contains_lab HL2.out).mono ?_
      intro e w3 h
      obtain ⟨z, rfl, hz, hb⟩ := resB_elim h
      have HZ2 := Lib.hid hz
      have HB3 := Lib.hid (HB2.out.trans (hb.mono hz2))
      have HP3 := Lib.hid (HP2.out.call hb)
      have hz3 := HB3.out.size
      clear h hz hb q0 q1 q2 q3 q4 HP2
      have q0 := HP3.out.at_ 0 rfl
      have q1 := HP3.out.at_ 1 rfl
      have q2 := HP3.out.at_ 2 rfl
      have q3 := HP3.out.at_ 3 rfl
      have q4 := HP3.out.at_ 4 rfl
      cases z with
      | false =>
        have HN := Lib.hid (show ¬ PairsR L P from fun h => by have := HZ2.out.2 (h.2 k _ HX.out).2.1; cases this)
        go_wp2
        go_ret
        exact resB_no HN.out HB3.out
      | true =>
      have HM2 := Lib.hid (HZ2.out.1 rfl)
      obtain ⟨z3, hz3e⟩ : ∃ z, LabC.belowB x0 x1 x2 x3 = z := ⟨_, rfl⟩
      have HZ3 := Lib.hid hz3e
      have HZB := Lib.hid ((below_rP (HLR.out _ HM1.out) (HLR.out _ HM2.out)).symm.trans hz3e)
      clear hz3e
      go_wp2_with fail
      refine (bi_at _ _ _ _ HZ3.out _).mono ?_
      rintro e w4 ⟨rfl, hb⟩
      have HB4 := Lib.hid (HB3.out.trans (hb.mono hz3))
      have HP4 := Lib.hid (HP3.out.call hb)
      have HPk := Lib.hid (rd_mv R_Pair_ok HP.out HB4.out)
      have hz4 := HB4.out.size
      clear hb q0 q1 q2 q3 q4 HP3
      have q0 := HP4.out.at_ 0 rfl
      have q1 := HP4.out.at_ 1 rfl
      have q2 := HP4.out.at_ 2 rfl
      have q3 := HP4.out.at_ 3 rfl
      have q4 := HP4.out.at_ 4 rfl
      cases z3 with
      | true =>
        have HN := Lib.hid (show ¬ PairsR L P from fun h => by have := (h.2 k _ HX.out).2.2.1; rw [HZB.out] at this; cases this)
        go_wp2
        go_ret
        exact resB_no HN.out HB4.out
      | false =>
      obtain ⟨z4, hz4e⟩ : ∃ z, isB x4 1 3 = z := ⟨_, rfl⟩
      have HZ4 := Lib.hid hz4e
      have hkc : (k : Int) ≤ (pc : Int) := by omega
      have hkc2 : k ≤ pc := by omega
      clear hz4e q0 q1 q2 q3 q4
      cases z4 with
      | false =>
        have HN := Lib.hid (show ¬ PairsR L P from fun h => by have := (h.2 k _ HX.out).2.2.2.1; rw [HZ4.out] at this; cases this)
        go_wp2_with fail
        refine wp_region_held_drew (S := (fun V => Below (w4).heap.size (w4) V)) (by kernel_rfl) ((Below.refl _ _).drew) (fun hHeld => ?_)
        refine tk 0 hHeld ?_
        refine tk 1 hHeld ?_ (hy := fun w hSw => by (try dsimp only at hSw); have k0 := (hSw.cell (p := ⟨wo.heap.size, 4, none⟩) HP4.out.lt).trans (HP4.out.at_ 4 rfl); clear hSw; go_simp; try with_reducible rfl)
        refine rd1 2 (fun K hK => ?_)
        go_simp
        go_at_call 39
        refine (wi_at _ _ _ HZ4.out _).mono ?_
        rintro e w5 ⟨rfl, rfl⟩
        have hb := Below.refl w4.drew.heap.size w4.drew
        refine hK.out _ _ (hHeld.trans (hb.mono hHeld.size)) (fun hHeld => ?_)
        clear hK K hb
        refine tk 3 hHeld ?_
        refine tk 4 hHeld ?_
        refine tn 5 hHeld ?_
        refine tn 6 hHeld ?_
        refine tn 7 hHeld ?_
        refine tn 8 hHeld ?_
        refine tn 9 hHeld ?_
        refine tn 10 hHeld ?_
        refine tn 11 hHeld ?_
        refine tn 12 hHeld ?_
        refine tn 13 hHeld ?_
        refine tk 14 hHeld ?_
        refine rd0 ?_
        have HF := Lib.hid hHeld
        clear hHeld
        have HB5 := Lib.hid (HB4.out.trans (HF.out.mono hz4))
        clear HF
        go_wp2
        go_ret
        exact resB_no HN.out HB5.out
      | true =>
      have hkt : (P.take k).length = k := by rw [List.length_take]; omega
      obtain ⟨ix, hix⟩ : ∃ i, ixP (P.take k) (x0, x1) (x2, x3) = i := ⟨_, rfl⟩
      have HIX := Lib.hid hix
      by_cases hge : 0 ≤ ix
      · have hdg : decide (ix ≥ 0) = true := decide_eq_true hge
        have hdg2 : decide (0 ≤ ix) = true := decide_eq_true hge
        have HN := Lib.hid (show ¬ PairsR L P from fun h => by
          obtain ⟨q, y, hy, hh⟩ := ixP_ge.1 (by rw [hix]; exact hge)
          have hqk : q < k := by have := el_lt hy; omega
          rw [List.getElem?_take, if_pos hqk] at hy
          exact (h.2 k _ HX.out).2.2.2.2 q y hqk hy hh)
        clear hix hge
        go_wp2_with fail
        refine wp_region_held_drew (S := (fun V => Below (w4).heap.size (w4) V)) (by kernel_rfl) ((Below.refl _ _).drew) (fun hHeld => ?_)
        refine tk 0 hHeld ?_
        refine tk 1 hHeld ?_ (hy := fun w hSw => by (try dsimp only at hSw); have k0 := (hSw.cell (p := ⟨wo.heap.size, 4, none⟩) HP4.out.lt).trans (HP4.out.at_ 4 rfl); clear hSw; go_simp; try with_reducible rfl)
        refine rd1 2 (fun K hK => ?_)
        go_simp
        go_at_call 39
        refine (wi_at _ _ _ HZ4.out _).mono ?_
        rintro e w5 ⟨rfl, rfl⟩
        have hb := Below.refl w4.drew.heap.size w4.drew
        refine hK.out _ _ (hHeld.trans (hb.mono hHeld.size)) (fun hHeld => ?_)
        clear hK K hb
        refine tk 3 hHeld ?_
        refine tk 4 hHeld ?_
        refine tk 5 hHeld ?_
        refine tk 6 hHeld ?_
        refine tk 7 hHeld ?_
        refine tk 8 hHeld ?_
        refine tk 9 hHeld ?_ (hy := fun w hSw => by (try dsimp only at hSw); have k0 := (hSw.cell (p := ⟨wo.heap.size, 0, none⟩) HP4.out.lt).trans (HP4.out.at_ 0 rfl); have k1 := (hSw.cell (p := ⟨wo.heap.size, 1, none⟩) HP4.out.lt).trans (HP4.out.at_ 1 rfl); clear hSw; go_simp; try with_reducible rfl)
        refine tk 10 hHeld ?_
        refine tk 11 hHeld ?_ (hy := fun w hSw => by (try dsimp only at hSw); have k0 := (hSw.cell (p := ⟨wo.heap.size, 2, none⟩) HP4.out.lt).trans (HP4.out.at_ 2 rfl); have k1 := (hSw.cell (p := ⟨wo.heap.size, 3, none⟩) HP4.out.lt).trans (HP4.out.at_ 3 rfl); clear hSw; go_simp; try with_reducible rfl)
        refine rd1 12 (fun K hK => ?_)
        go_simp
        go_at_call 58
        refine (pairix_at hkt HIX.out (rd_take (rd_mv R_Pair_ok HPk.out hHeld) k)).mono ?_
        intro e w6 h
        obtain ⟨rfl, hb⟩ := isI_elim h
        clear h
        refine hK.out _ _ (hHeld.trans (hb.mono hHeld.size)) (fun hHeld => ?_)
        clear hK K hb
        refine tk 13 hHeld ?_
        refine tk 14 hHeld ?_
        refine rd0 ?_
        have HF := Lib.hid hHeld
        clear hHeld
        have HB5 := Lib.hid (HB4.out.trans (HF.out.mono hz4))
        clear HF
        go_wp2
        go_ret
        exact resB_no HN.out HB5.out
      · have hdg : decide (ix ≥ 0) = false := decide_eq_false hge
        have hdg2 : decide (0 ≤ ix) = false := decide_eq_false hge
        have HA2 := Lib.hid (show ∀ (j : Nat) x, j < k + 1 → P[j]? = some x → okP L P j x from fun q y hq hy => by
          by_cases e : q = k
          · subst e; rw [HX.out] at hy; obtain rfl := Option.some.inj hy
            refine ⟨HM1.out, HM2.out, HZB.out, HZ4.out, fun r z hr hz hh => hge ?_⟩
            rw [← hix]
            exact ixP_ge.2 ⟨r, z, by rw [List.getElem?_take, if_pos hr]; exact hz, hh⟩
          · exact HA.out q y (by omega) hy)
        clear hix hge
        go_wp2_with fail
        refine wp_region_held_drew (S := (fun V => Below (w4).heap.size (w4) V)) (by kernel_rfl) ((Below.refl _ _).drew) (fun hHeld => ?_)
        refine tk 0 hHeld ?_
        refine tk 1 hHeld ?_ (hy := fun w hSw => by (try dsimp only at hSw); have k0 := (hSw.cell (p := ⟨wo.heap.size, 4, none⟩) HP4.out.lt).trans (HP4.out.at_ 4 rfl); clear hSw; go_simp; try with_reducible rfl)
        refine rd1 2 (fun K hK => ?_)
        go_simp
        go_at_call 39
        refine (wi_at _ _ _ HZ4.out _).mono ?_
        rintro e w5 ⟨rfl, rfl⟩
        have hb := Below.refl w4.drew.heap.size w4.drew
        refine hK.out _ _ (hHeld.trans (hb.mono hHeld.size)) (fun hHeld => ?_)
        clear hK K hb
        refine tk 3 hHeld ?_
        refine tk 4 hHeld ?_
        refine tk 5 hHeld ?_
        refine tk 6 hHeld ?_
        refine tk 7 hHeld ?_
        refine tk 8 hHeld ?_
        refine tk 9 hHeld ?_ (hy := fun w hSw => by (try dsimp only at hSw); have k0 := (hSw.cell (p := ⟨wo.heap.size, 0, none⟩) HP4.out.lt).trans (HP4.out.at_ 0 rfl); have k1 := (hSw.cell (p := ⟨wo.heap.size, 1, none⟩) HP4.out.lt).trans (HP4.out.at_ 1 rfl); clear hSw; go_simp; try with_reducible rfl)
        refine tk 10 hHeld ?_
        refine tk 11 hHeld ?_ (hy := fun w hSw => by (try dsimp only at hSw); have k0 := (hSw.cell (p := ⟨wo.heap.size, 2, none⟩) HP4.out.lt).trans (HP4.out.at_ 2 rfl); have k1 := (hSw.cell (p := ⟨wo.heap.size, 3, none⟩) HP4.out.lt).trans (HP4.out.at_ 3 rfl); clear hSw; go_simp; try with_reducible rfl)
        refine rd1 12 (fun K hK => ?_)
        go_simp
        go_at_call 58
        refine (pairix_at hkt HIX.out (rd_take (rd_mv R_Pair_ok HPk.out hHeld) k)).mono ?_
        intro e w6 h
        obtain ⟨rfl, hb⟩ := isI_elim h
        clear h
        refine hK.out _ _ (hHeld.trans (hb.mono hHeld.size)) (fun hHeld => ?_)
        clear hK K hb
        refine tk 13 hHeld ?_
        refine tk 14 hHeld ?_
        refine rd0 ?_
        have HF := Lib.hid hHeld
        clear hHeld
        have HB5 := Lib.hid (HB4.out.trans (HF.out.mono hz4))
        clear HF
        go_wp2
        go_roundw
        case rel => exact ⟨k + 1, by omega, by go_num, HA2, HB5.out⟩
        case measure => simp [intOf]; omega
    · have hdl : decide ((k : Int) < (P.length : Int)) = false := decide_eq_false (by omega)
      have HY := Lib.hid (show PairsR L P from ⟨h4, fun i x hx => HA.out i x (by have := el_lt hx; omega) hx⟩)
      clear hB
      go_wp2
      go_ret
      exact resB_yes HY.out HB.out
end Go.Proofs.YtdghcjlgmajffaaDoor.RepC
end
section
namespace Go.Proofs.YtdghcjlgmajffaaDoor.RepC
open Go.RowKit RowC ValC SpanC KeptC CfC
set_option linter.unusedVariables false
set_option linter.unusedSimpArgs false
theorem bylab_b {a0 a1 b0 b1 i : Int} {W : World} (h : SortC.labI a0 a1 b0 b1 = i) : Calls Tryd.prog 55 #[.agg #[.int .i64 a0, .int .i64 a1], .agg #[.int .i64 b0, .int .i64 b1]] W (IsI i W) := by
  subst h
  exact (SortC.bylab_v a0 a1 b0 b1 W).mono fun e w' ⟨he, hw⟩ => ⟨he, by rw [hw]; exact ((((Below.refl _ _).alloc (Nat.le_refl _) _).alloc (by simp) _).drew).alloc (by show _ ≤ _; simp; omega) _⟩
set_option maxRecDepth 100000 in
set_option maxHeartbeats 3200000 in
theorem quotas_impl {L : List D_Label} {Q : List D_Quota} {la qa : Option Addr} {lc qc : Nat} {W : World} (hL : RdSl R_Label W W.heap.size L la lc) (hQ : RdSl R_Quota W W.heap.size Q qa qc) :
    Calls Tryd.prog 38 #[.slice qa Q.length qc, .slice la L.length lc] W (ResB (QuotasR L Q) W) := by
  have hn : Q.length ≤ 9223372036854775807 := by have h1 := hQ.1; have h2 := hQ.2.1; unfold maxLen at h2; omega
  have HL := Lib.hid hL
  have HQ := Lib.hid hQ
  clear hL hQ
  go_enter Tryd.func38, Tryd.ntmps38
  go_wp2
  go_loopw [9] (fun i wr => ∃ k : Nat, k ≤ Q.length ∧ i = .int .i64 k ∧ Hid (∀ (j : Nat) x, j < k → Q[j]? = some x → okQ L Q j x) ∧ Below W.heap.size W wr) (fun i _ => Q.length - (intOf i).toNat)
  case atStart => exact ⟨0, Nat.zero_le _, rfl, Lib.hid fun j x h => absurd h (Nat.not_lt_zero _), Below.refl _ _⟩
  case round =>
    obtain ⟨k, hk, rfl, HA, hB⟩ := hrel
    obtain ⟨wo, rfl⟩ : ∃ x, x = wr := ⟨_, rfl⟩
    have HB := Lib.hid hB
    have hsz := hB.size
    by_cases hlt : k < Q.length
    · have hdl : decide ((k : Int) < (Q.length : Int)) = true := decide_eq_true (by omega)
      obtain ⟨⟨⟨x0, x1⟩, x2⟩, hx⟩ := el_some hlt
      have HX := Lib.hid hx
      obtain ⟨g, o, us, rfl, hg, hu, hr⟩ := (HQ.out.below R_Quota_ok hB).at_ hx
      obtain rfl := rd_Quota hr
      have e0 : wo.cell? ⟨g, o + k * 3, none⟩ = some (.int .i64 x0) := by simpa [size_QuotaS, Nat.add_assoc] using hu 0 _ rfl
      have e1 : wo.cell? ⟨g, o + k * 3 + 1, none⟩ = some (.int .i64 x1) := by simpa [size_QuotaS, Nat.add_assoc] using hu 1 _ rfl
      have e2 : wo.cell? ⟨g, o + k * 3 + 2, none⟩ = some (.int .i64 x2) := by simpa [size_QuotaS, Nat.add_assoc] using hu 2 _ rfl
      have hi0 : (0 : Int) ≤ (k : Int) := Int.natCast_nonneg _
      have hi1 : (k : Int) < (Q.length : Int) := by omega
      obtain ⟨w1, hw1⟩ : ∃ w, w = wo.alloc (.cells #[.int .i64 x0, .int .i64 x1, .int .i64 x2] 49) := ⟨_, rfl⟩
      have hbA : Below wo.heap.size wo w1 := by rw [hw1]; exact (Below.refl _ _).alloc (Nat.le_refl _) _
      have HP1 := Lib.hid (show Blk w1 wo.heap.size 49 #[.int .i64 x0, .int .i64 x1, .int .i64 x2] from by rw [hw1]; exact Blk.new _ _ _)
      have HB1 := Lib.hid (HB.out.trans (hbA.mono hsz))
      have hz1 := HB1.out.size
      obtain ⟨zi, hzi⟩ : ∃ z, isB x2 1 9 = z := ⟨_, rfl⟩
      have HI := Lib.hid hzi
      clear hzi hB hx hu hr
      cases k with
      | zero =>
        rw [Nat.zero_mul] at e0 e1 e2
        simp only [Nat.add_zero] at e0 e1 e2
        go_wp2_with fail
        rw [← hw1]
        clear hw1 hbA e0 e1 e2
        refine wp_region_held_drew (S := (fun V => Below (w1).heap.size (w1) V)) (by kernel_rfl) ((Below.refl _ _).drew) (fun hHeld => ?_)
        refine tk 0 hHeld ?_
        refine tk 1 hHeld ?_
        refine tk 2 hHeld ?_
        refine tn 3 hHeld ?_
        refine tn 4 hHeld ?_
        refine tn 5 hHeld ?_
        refine tn 6 hHeld ?_
        refine tn 7 hHeld ?_
        refine tn 8 hHeld ?_
        refine tn 9 hHeld ?_
        refine tn 10 hHeld ?_
        refine tn 11 hHeld ?_
        refine tn 12 hHeld ?_
        refine tk 13 hHeld ?_
        refine rd0 ?_
        have HF := Lib.hid hHeld
        clear hHeld
        have HB2 := Lib.hid (HB1.out.trans (HF.out.mono hz1))
        have HP2 := Lib.hid (HP1.out.call HF.out)
        clear HF
        obtain ⟨w2, hw2⟩ : ∃ w, w = w1.drew := ⟨_, rfl⟩
        rw [← hw2] at HB2 HP2
        rw [← hw2]
        clear hw2
        have q0 := HP2.out.at_ 0 rfl
        have q1 := HP2.out.at_ 1 rfl
        have q2 := HP2.out.at_ 2 rfl
        go_wp2_with fail
        refine (contains_lab (rd_mv R_Label_ok HL.out HB2.out)).mono ?_
        intro e w7 h
        obtain ⟨z, rfl, hz, hb⟩ := resB_elim h
        have HZ1 := Lib.hid hz
        have HB7 := Lib.hid (HB2.out.trans (hb.mono HB2.out.size))
        have HP7 := Lib.hid (HP2.out.call hb)
        clear h hz hb q0 q1 q2
        have q0 := HP7.out.at_ 0 rfl
        have q1 := HP7.out.at_ 1 rfl
        have q2 := HP7.out.at_ 2 rfl
        cases z with
        | false =>
          have HN := Lib.hid (show ¬ QuotasR L Q from fun h => by have := HZ1.out.2 (h 0 _ HX.out).1; cases this)
          go_wp2
          go_ret
          exact resB_no HN.out HB7.out
        | true =>
        have HM1 := Lib.hid (HZ1.out.1 rfl)
        go_wp2_with fail
        refine (wi_at _ _ _ HI.out _).mono ?_
        rintro e w8 ⟨rfl, rfl⟩
        cases zi with
        | false =>
          have HN := Lib.hid (show ¬ QuotasR L Q from fun h => by have h2 : isB x2 1 9 = true := (h 0 _ HX.out).2.1; rw [HI.out] at h2; cases h2)
          go_wp2
          go_ret
          exact resB_no HN.out HB7.out
        | true =>
          have HA2 := Lib.hid (show ∀ (j : Nat) x, j < 0 + 1 → Q[j]? = some x → okQ L Q j x from fun q y hq hy => by
            by_cases e : q = 0
            · subst e; rw [HX.out] at hy; obtain rfl := Option.some.inj hy
              exact ⟨HM1.out, HI.out, fun h => absurd h (Nat.lt_irrefl _)⟩
            · exact HA.out q y (by omega) hy)
          go_wp2
          go_roundw
          case rel => exact ⟨0 + 1, by omega, by go_num, HA2, HB7.out⟩
          case measure => simp [intOf]; omega
      | succ m =>
        obtain ⟨⟨⟨y0, y1⟩, y2⟩, hy⟩ := el_some (show m < Q.length by omega)
        have HY := Lib.hid hy
        obtain ⟨g2, o2, us, hgg, hg2, hu, hr⟩ := (HQ.out.below R_Quota_ok HB1.out).at_ hy
        obtain ⟨rfl, rfl⟩ : g = g2 ∧ o = o2 := by cases hgg; exact ⟨rfl, rfl⟩
        obtain rfl := rd_Quota hr
        have d0 : w1.cell? ⟨g, o + m * 3, none⟩ = some (.int .i64 y0) := by simpa [size_QuotaS, Nat.add_assoc] using hu 0 _ rfl
        have d1 : w1.cell? ⟨g, o + m * 3 + 1, none⟩ = some (.int .i64 y1) := by simpa [size_QuotaS, Nat.add_assoc] using hu 1 _ rfl
        have HG := Lib.hid (show g < w1.heap.size by omega)
        have hj0 : (0 : Int) ≤ (m : Int) := Int.natCast_nonneg _
        have hj1 : (m : Int) < (Q.length : Int) := by omega
        have hgt : decide ((((m + 1 : Nat) : Int)) > 0) = true := decide_eq_true (by omega)
        have hgt2 : decide (0 < m + 1) = true := decide_eq_true (by omega)
        have hgt3 : decide (0 < (m : Int) + 1) = true := decide_eq_true (by omega)
        have hi0' : (0 : Int) ≤ (m : Int) + 1 := by omega
        have hi1' : (m : Int) + 1 < (Q.length : Int) := by omega
        have hsub2 : IntKind.i64.wrap (m : Int) = (m : Int) := IntWalk.i64_in _ (by omega)
        have hsub3 : IntKind.i64.wrap ((m : Int) + 1 - 1) = (m : Int) := by rw [show (m : Int) + 1 - 1 = (m : Int) by omega]; exact IntWalk.i64_in _ (by omega)
        obtain ⟨li, hli⟩ : ∃ i, SortC.labI y0 y1 x0 x1 = i := ⟨_, rfl⟩
        have HLI := Lib.hid hli
        clear hy hu hr hgg hg2 hli
        by_cases hge : 0 ≤ li
        · have hdg : decide (li ≥ 0) = true := decide_eq_true hge
          have hdg2 : decide (0 ≤ li) = true := decide_eq_true hge
          have HN := Lib.hid (show ¬ QuotasR L Q from fun h => by
            have h2 := (h (m + 1) _ HX.out).2.2 (by omega) _ (by rw [Nat.add_sub_cancel]; exact HY.out)
            rw [← HLI.out] at hge
            exact (SortC.labI_ge _ _ _ _).1 hge h2)
          clear hge
          go_wp2_with fail
          rw [← hw1]
          clear hw1 hbA e0 e1 e2
          refine wp_region_held_drew (S := (fun V => Below (w1).heap.size (w1) V)) (by kernel_rfl) ((Below.refl _ _).drew) (fun hHeld => ?_)
          refine tk 0 hHeld ?_
          refine tk 1 hHeld ?_
          refine tk 2 hHeld ?_
          refine tk 3 hHeld ?_
          refine tk 4 hHeld ?_
          refine tk 5 hHeld ?_
          refine tk 6 hHeld ?_
          refine tk 7 hHeld ?_
          refine tk 8 hHeld ?_ (hy := fun w hSw => by (try dsimp only at hSw); have k0 := (hSw.cell (p := ⟨g, o + m * 3, none⟩) HG.out).trans d0; have k1 := (hSw.cell (p := ⟨g, o + m * 3 + 1, none⟩) HG.out).trans d1; clear hSw; go_simp; try with_reducible rfl)
          refine tk 9 hHeld ?_
          refine tk 10 hHeld ?_ (hy := fun w hSw => by (try dsimp only at hSw); have k0 := (hSw.cell (p := ⟨wo.heap.size, 0, none⟩) HP1.out.lt).trans (HP1.out.at_ 0 rfl); have k1 := (hSw.cell (p := ⟨wo.heap.size, 1, none⟩) HP1.out.lt).trans (HP1.out.at_ 1 rfl); clear hSw; go_simp; try with_reducible rfl)
          refine rd1 11 (fun K hK => ?_)
          go_simp
          go_at_call 55
          refine (bylab_b HLI.out).mono ?_
          intro e w2 h
          obtain ⟨rfl, hb⟩ := isI_elim h
          clear h
          refine hK.out _ _ (hHeld.trans (hb.mono hHeld.size)) (fun hHeld => ?_)
          clear hK K hb
          refine tk 12 hHeld ?_
          refine tk 13 hHeld ?_
          refine rd0 ?_
          have HF := Lib.hid hHeld
          clear hHeld
          have HB2 := Lib.hid (HB1.out.trans (HF.out.mono hz1))
          clear HF
          go_wp2
          go_ret
          exact resB_no HN.out HB2.out
        · have hdg : decide (li ≥ 0) = false := decide_eq_false hge
          have hdg2 : decide (0 ≤ li) = false := decide_eq_false hge
          have HLT := Lib.hid (show ltB (y0, y1) (x0, x1) from Classical.byContradiction fun h => hge (by rw [← HLI.out]; exact (SortC.labI_ge _ _ _ _).2 h))
          clear hge
          go_wp2_with fail
          rw [← hw1]
          clear hw1 hbA e0 e1 e2
          refine wp_region_held_drew (S := (fun V => Below (w1).heap.size (w1) V)) (by kernel_rfl) ((Below.refl _ _).drew) (fun hHeld => ?_)
          refine tk 0 hHeld ?_
          refine tk 1 hHeld ?_
          refine tk 2 hHeld ?_
          refine tk 3 hHeld ?_
          refine tk 4 hHeld ?_
          refine tk 5 hHeld ?_
          refine tk 6 hHeld ?_
          refine tk 7 hHeld ?_
          refine tk 8 hHeld ?_ (hy := fun w hSw => by (try dsimp only at hSw); have k0 := (hSw.cell (p := ⟨g, o + m * 3, none⟩) HG.out).trans d0; have k1 := (hSw.cell (p := ⟨g, o + m * 3 + 1, none⟩) HG.out).trans d1; clear hSw; go_simp; try with_reducible rfl)
          refine tk 9 hHeld ?_
          refine tk 10 hHeld ?_ (hy := fun w hSw => by (try dsimp only at hSw); have k0 := (hSw.cell (p := ⟨wo.heap.size, 0, none⟩) HP1.out.lt).trans (HP1.out.at_ 0 rfl); have k1 := (hSw.cell (p := ⟨wo.heap.size, 1, none⟩) HP1.out.lt).trans (HP1.out.at_ 1 rfl); clear hSw; go_simp; try with_reducible rfl)
          refine rd1 11 (fun K hK => ?_)
          go_simp
          go_at_call 55
          refine (bylab_b HLI.out).mono ?_
          intro e w2 h
          obtain ⟨rfl, hb⟩ := isI_elim h
          clear h
          refine hK.out _ _ (hHeld.trans (hb.mono hHeld.size)) (fun hHeld => ?_)
          clear hK K hb
          refine tk 12 hHeld ?_
          refine tk 13 hHeld ?_
          refine rd0 ?_
          have HF := Lib.hid hHeld
          clear hHeld
          have HB2 := Lib.hid (HB1.out.trans (HF.out.mono hz1))
          have HP2 := Lib.hid (HP1.out.call HF.out)
          clear HF d0 d1
          have q0 := HP2.out.at_ 0 rfl
          have q1 := HP2.out.at_ 1 rfl
          have q2 := HP2.out.at_ 2 rfl
          go_wp2_with fail
          refine (contains_lab (rd_mv R_Label_ok HL.out HB2.out)).mono ?_
          intro e w7 h
          obtain ⟨z, rfl, hz, hb⟩ := resB_elim h
          have HZ1 := Lib.hid hz
          have HB7 := Lib.hid (HB2.out.trans (hb.mono HB2.out.size))
          have HP7 := Lib.hid (HP2.out.call hb)
          clear h hz hb q0 q1 q2
          have q0 := HP7.out.at_ 0 rfl
          have q1 := HP7.out.at_ 1 rfl
          have q2 := HP7.out.at_ 2 rfl
          cases z with
          | false =>
            have HN := Lib.hid (show ¬ QuotasR L Q from fun h => by have := HZ1.out.2 (h (m + 1) _ HX.out).1; cases this)
            go_wp2
            go_ret
            exact resB_no HN.out HB7.out
          | true =>
          have HM1 := Lib.hid (HZ1.out.1 rfl)
          go_wp2_with fail
          refine (wi_at _ _ _ HI.out _).mono ?_
          rintro e w8 ⟨rfl, rfl⟩
          cases zi with
          | false =>
            have HN := Lib.hid (show ¬ QuotasR L Q from fun h => by have h2 : isB x2 1 9 = true := (h (m + 1) _ HX.out).2.1; rw [HI.out] at h2; cases h2)
            go_wp2
            go_ret
            exact resB_no HN.out HB7.out
          | true =>
            have HA2 := Lib.hid (show ∀ (j : Nat) x, j < (m + 1) + 1 → Q[j]? = some x → okQ L Q j x from fun q y hq hy => by
              by_cases e : q = (m + 1)
              · subst e; rw [HX.out] at hy; obtain rfl := Option.some.inj hy
                exact ⟨HM1.out, HI.out, fun _ z hz => by rw [Nat.add_sub_cancel, HY.out] at hz; obtain rfl := Option.some.inj hz; exact HLT.out⟩
              · exact HA.out q y (by omega) hy)
            go_wp2
            go_roundw
            case rel => exact ⟨(m + 1) + 1, by omega, by go_num, HA2, HB7.out⟩
            case measure => simp [intOf]; omega
    · have hdl : decide ((k : Int) < (Q.length : Int)) = false := decide_eq_false (by omega)
      have HY := Lib.hid (show QuotasR L Q from fun i x hx => HA.out i x (by have := el_lt hx; omega) hx)
      clear hB
      go_wp2
      go_ret
      exact resB_yes HY.out HB.out
end Go.Proofs.YtdghcjlgmajffaaDoor.RepC
end
section
namespace Go.Proofs.YtdghcjlgmajffaaDoor.RepC
open Go.RowKit RowC ValC SpanC KeptC CfC
set_option linter.unusedVariables false
set_option linter.unusedSimpArgs false
set_option maxRecDepth 100000 in
set_option maxHeartbeats 1600000 in
theorem config_impl {C : List (List D_Label)} {P : List D_Pair} {Q : List D_Quota} {hf : Int} {ca pa qa : Option Addr} {cc pc qc : Nat} {W : World} (hC : RdSl (Sl R_Label) W W.heap.size C ca cc) (hP : RdSl R_Pair W W.heap.size P pa pc) (hQ : RdSl R_Quota W W.heap.size Q qa qc) :
    Calls Tryd.prog 18 #[.agg #[.slice ca C.length cc, .slice pa P.length pc, .slice qa Q.length qc, .int .i64 hf]] W (IsB (cfgB C P Q hf) W) := by
  obtain ⟨z, hz⟩ : ∃ z, cfgB C P Q hf = z := ⟨_, rfl⟩
  have HZ := Lib.hid (show z = true ↔ CfgR C P Q hf from by rw [← hz]; exact cfgB_iff)
  rw [hz]
  clear hz
  refine Calls.mono ?_ fun e w' h => resB_at HZ.out h
  obtain ⟨zh, hzh⟩ : ∃ z, isB hf 1 9 = z := ⟨_, rfl⟩
  have HH := Lib.hid hzh
  clear hzh HZ
  obtain ⟨M, hM⟩ : ∃ M, labsOf C = M := ⟨_, rfl⟩
  have HMr := Lib.hid (show ∀ a ∈ M, LabC.rP a.1 a.2 from by rw [← hM]; exact fun a ha => (mem_labs.1 ha).1)
  have HMs := Lib.hid (show M.Pairwise ltB from by rw [← hM]; exact labs_sorted C 32)
  have HM := Lib.hid hM
  clear hM
  obtain ⟨w0, hw0⟩ : ∃ w, w = W.alloc (.cells #[.slice ca C.length cc, .slice pa P.length pc, .slice qa Q.length qc, .int .i64 hf] 33) := ⟨_, rfl⟩
  have hb0 : Below W.heap.size W w0 := by rw [hw0]; exact (Below.refl _ _).alloc (Nat.le_refl _) _
  have x0 : Blk w0 (W.heap.size) 33 #[.slice ca C.length cc, .slice pa P.length pc, .slice qa Q.length qc, .int .i64 hf] := by
    have h9 := Blk.new W 33 #[.slice ca C.length cc, .slice pa P.length pc, .slice qa Q.length qc, .int .i64 hf]
    try simp only [World.size_alloc] at h9
    rw [hw0]; exact h9
  have X0 := Lib.hid x0
  have HC := Lib.hid (rd_mv (Sl_ok R_Label_ok) hC hb0)
  have HP := Lib.hid (rd_mv R_Pair_ok hP hb0)
  have HQ := Lib.hid (rd_mv R_Quota_ok hQ hb0)
  have HB0 := Lib.hid hb0
  have hz0 := hb0.size
  clear hb0 hC hP hQ x0
  go_enter Tryd.func18, Tryd.ntmps18
  have qX0_0 := X0.out.at_ 0 rfl
  have qX0_1 := X0.out.at_ 1 rfl
  have qX0_2 := X0.out.at_ 2 rfl
  have qX0_3 := X0.out.at_ 3 rfl
  go_wp2_with fail
  rw [← hw0]
  clear hw0
  refine (clearright_impl HC.out).mono ?_
  intro e v1 h
  obtain ⟨z1, rfl, hz1, hb1⟩ := resB_elim h
  have HZ1 := Lib.hid hz1
  have HC := Lib.hid (rd_mv (Sl_ok R_Label_ok) HC.out hb1)
  have HP := Lib.hid (rd_mv R_Pair_ok HP.out hb1)
  have HQ := Lib.hid (rd_mv R_Quota_ok HQ.out hb1)
  have X0 := Lib.hid (X0.out.call hb1)
  have HB0 := Lib.hid (HB0.out.trans (hb1.mono HB0.out.size))
  clear h hz1 hb1 qX0_0 qX0_1 qX0_2 qX0_3
  have qX0_0 := X0.out.at_ 0 rfl
  have qX0_1 := X0.out.at_ 1 rfl
  have qX0_2 := X0.out.at_ 2 rfl
  have qX0_3 := X0.out.at_ 3 rfl
  cases z1 with
  | false =>
    have HN := Lib.hid (show ¬ CfgR C P Q hf from fun h => by have := HZ1.out.2 (h.1); cases this)
    go_wp2
    go_ret
    exact resB_no HN.out HB0.out
  | true =>
  have HY1 := Lib.hid (HZ1.out.1 rfl)
  go_wp2_with fail
  have hlb := labs_impl HY1.out HC.out
  rw [HM.out] at hlb
  refine hlb.mono ?_
  intro e v2 h
  obtain ⟨la, lc, rfl, ho, hb2⟩ := newS_elim h
  have HL := Lib.hid (ho.rd R_Label_ok (B := v2.heap.size) fun k hk => hk.2)
  have HC := Lib.hid (rd_mv (Sl_ok R_Label_ok) HC.out hb2)
  have HP := Lib.hid (rd_mv R_Pair_ok HP.out hb2)
  have HQ := Lib.hid (rd_mv R_Quota_ok HQ.out hb2)
  have X0 := Lib.hid (X0.out.call hb2)
  have HB0 := Lib.hid (HB0.out.trans (hb2.mono HB0.out.size))
  clear h ho hlb hb2 qX0_0 qX0_1 qX0_2 qX0_3
  have qX0_0 := X0.out.at_ 0 rfl
  have qX0_1 := X0.out.at_ 1 rfl
  have qX0_2 := X0.out.at_ 2 rfl
  have qX0_3 := X0.out.at_ 3 rfl
  by_cases h8 : M.length ≤ 8
  rotate_left
  · have hd : decide ((M.length : Int) ≤ 8) = false := decide_eq_false (by omega)
    have hd' : decide (M.length ≤ 8) = false := decide_eq_false h8
    have HN := Lib.hid (show ¬ CfgR C P Q hf from fun h => h8 (by rw [← HM.out]; exact h.2.2.1))
    go_wp2
    go_ret
    exact resB_no HN.out HB0.out
  have hd : decide ((M.length : Int) ≤ 8) = true := decide_eq_true (by omega)
  have hd' : decide (M.length ≤ 8) = true := decide_eq_true h8
  go_wp2_with fail
  refine (pairs_impl HMr.out HL.out HP.out).mono ?_
  intro e v3 h
  obtain ⟨z3, rfl, hz3, hb3⟩ := resB_elim h
  have HZ3 := Lib.hid hz3
  have HC := Lib.hid (rd_mv (Sl_ok R_Label_ok) HC.out hb3)
  have HP := Lib.hid (rd_mv R_Pair_ok HP.out hb3)
  have HQ := Lib.hid (rd_mv R_Quota_ok HQ.out hb3)
  have HL := Lib.hid (rd_mv R_Label_ok HL.out hb3)
  have X0 := Lib.hid (X0.out.call hb3)
  have HB0 := Lib.hid (HB0.out.trans (hb3.mono HB0.out.size))
  clear h hz3 hb3 qX0_0 qX0_1 qX0_2 qX0_3
  have qX0_0 := X0.out.at_ 0 rfl
  have qX0_1 := X0.out.at_ 1 rfl
  have qX0_2 := X0.out.at_ 2 rfl
  have qX0_3 := X0.out.at_ 3 rfl
  cases z3 with
  | false =>
    have HN := Lib.hid (show ¬ CfgR C P Q hf from fun h => by have := HZ3.out.2 (by rw [← HM.out]; exact h.2.2.2.1); cases this)
    go_wp2
    go_ret
    exact resB_no HN.out HB0.out
  | true =>
  have HY3 := Lib.hid (HZ3.out.1 rfl)
  go_wp2_with fail
  refine (quotas_impl HL.out HQ.out).mono ?_
  intro e v4 h
  obtain ⟨z4, rfl, hz4, hb4⟩ := resB_elim h
  have HZ4 := Lib.hid hz4
  have HC := Lib.hid (rd_mv (Sl_ok R_Label_ok) HC.out hb4)
  have HP := Lib.hid (rd_mv R_Pair_ok HP.out hb4)
  have HQ := Lib.hid (rd_mv R_Quota_ok HQ.out hb4)
  have HL := Lib.hid (rd_mv R_Label_ok HL.out hb4)
  have X0 := Lib.hid (X0.out.call hb4)
  have HB0 := Lib.hid (HB0.out.trans (hb4.mono HB0.out.size))
  clear h hz4 hb4 qX0_0 qX0_1 qX0_2 qX0_3
  have qX0_0 := X0.out.at_ 0 rfl
  have qX0_1 := X0.out.at_ 1 rfl
  have qX0_2 := X0.out.at_ 2 rfl
  have qX0_3 := X0.out.at_ 3 rfl
  cases z4 with
  | false =>
    have HN := Lib.hid (show ¬ CfgR C P Q hf from fun h => by have := HZ4.out.2 (by rw [← HM.out]; exact h.2.2.2.2); cases this)
    go_wp2
    go_ret
    exact resB_no HN.out HB0.out
  | true =>
  have HY4 := Lib.hid (HZ4.out.1 rfl)
  go_wp2_with fail
  refine (wi_at _ _ _ HH.out _).mono ?_
  rintro e w9 ⟨rfl, rfl⟩
  cases zh with
  | false =>
    have HN := Lib.hid (show ¬ CfgR C P Q hf from fun h => by have := h.2.1; rw [HH.out] at this; cases this)
    go_wp2
    go_ret
    exact resB_no HN.out HB0.out
  | true =>
  have HY := Lib.hid (show CfgR C P Q hf from ⟨HY1.out, HH.out, by rw [HM.out]; exact h8, by rw [HM.out]; exact HY3.out, by rw [HM.out]; exact HY4.out⟩)
  go_wp2
  go_ret
  exact resB_yes HY.out HB0.out
end Go.Proofs.YtdghcjlgmajffaaDoor.RepC
end
section
namespace Go.Proofs.YtdghcjlgmajffaaDoor.LabC
open Go.RowKit KeptC
def digB (d : Int) : ByteArray := ⟨#[UInt8.ofNat (48 + d.toNat)]⟩
theorem cells2 {W w1 : World} {B : Nat} {a b : Value} (hb : Below W.heap.size W w1) (h0 : W.cell? ⟨B, 0, none⟩ = some a) (h1 : W.cell? ⟨B, 1, none⟩ = some b) :
    w1.cell? ⟨B, 0, none⟩ = some a ∧ w1.cell? ⟨B, 1, none⟩ = some b ∧ B < W.heap.size := by
  have hlt := World.block_lt_of_cell? W ⟨B, 0, none⟩ h0
  exact ⟨(hb.cell hlt).trans h0, (hb.cell (p := ⟨B, 1, none⟩) hlt).trans h1, hlt⟩
theorem small_any (d : Int) (w : World) (h0 : 0 ≤ d) (h3 : d ≤ 3) :
    Calls Tryd.prog 76 #[.int .i64 d] w fun e w' => e = .returned (.string (digB d)) ∧ w = w' := by
  obtain rfl | rfl | rfl | rfl : d = 0 ∨ d = 1 ∨ d = 2 ∨ d = 3 := by omega
  all_goals
    go_enter Tryd.func76, Tryd.ntmps76
    go_wp2
    go_ret
    exact ⟨rfl, rfl⟩
theorem fmt_in (d : Int) (w : World) (h0 : 0 ≤ d) (h3 : d ≤ 3) :
    Calls Tryd.prog 72 #[.int .i64 d, .int .i64 10] w fun e w' => e = .returned (.string (digB d)) ∧ w = w' := by
  have h100 : d < 100 := by omega
  go_enter Tryd.func72, Tryd.ntmps72
  go_wp2_with (go_at_call 76; refine (small_any _ _ h0 h3).mono ?_; rintro e w' ⟨rfl, rfl⟩)
  go_ret
  exact ⟨rfl, rfl⟩
theorem fmt_any (d : Int) (w : World) (h0 : 0 ≤ d) (h3 : d ≤ 3) :
    Calls Tryd.prog 61 #[.int .i64 d, .int .i64 10] w fun e w' => e = .returned (.string (digB d)) ∧ w = w' := by
  go_enter Tryd.func61, Tryd.ntmps61
  go_wp2_with (go_at_call 72; refine (fmt_in _ _ h0 h3).mono ?_; rintro e w' ⟨rfl, rfl⟩)
  go_ret
  exact ⟨rfl, rfl⟩
theorem conv1 (c : UInt8) (n : Int) (hn : n = (c.toNat : Int)) (W : World) : (convert 54 9 (.slice (some ⟨W.heap.size, 0, none⟩) 1 1)).run Tryd.prog (W.alloc (.cells #[.int .u8 n] 5)) = .ok (.string ⟨#[c]⟩) (W.alloc (.cells #[.int .u8 n] 5)) :=
  run_convert_bytes_back _ 54 9 5 ⟨W.heap.size, 0, none⟩ 1 [c] Tryd.underlying54 Tryd.underlying5 Tryd.underlying9 (fun j hj => by
    obtain rfl : j = 0 := by simp at hj; omega
    simp [Addr.add, hn])
theorem dec_any (d : Int) (w : World) (h0 : 0 ≤ d) (h3 : d ≤ 3) :
    Calls Tryd.prog 14 #[.int .i64 d] w fun e w' => e = .returned (.string (digB d)) ∧ Below w.heap.size w w' := by
  obtain rfl | rfl | rfl | rfl : d = 0 ∨ d = 1 ∨ d = 2 ∨ d = 3 := by omega
  · go_enter Tryd.func14, Tryd.ntmps14
    go_wp2
    go_ret
    exact ⟨rfl, Below.refl _ _⟩
  · go_enter Tryd.func14, Tryd.ntmps14
    go_wp2
    go_loopw [0, 4] (fun n o wr => ((n = .int .i64 1 ∧ o = .string ⟨#[]⟩) ∨ (n = .int .i64 0 ∧ o = .string (digB 1))) ∧ Below w.heap.size w wr) (fun n _ _ => (intOf n).toNat)
    case atStart => exact ⟨.inl ⟨rfl, rfl⟩, Below.refl _ _⟩
    case round =>
      obtain ⟨⟨rfl, rfl⟩ | ⟨rfl, rfl⟩, hb⟩ := hrel
      · have hcv := conv1 49 49 rfl wr
        go_wp2
        go_roundw
        case rel => exact ⟨.inr ⟨rfl, rfl⟩, hb.alloc hb.size _⟩
        case measure => simp [intOf]
      · go_wp2
        go_ret
        exact ⟨rfl, hb⟩
  · go_enter Tryd.func14, Tryd.ntmps14
    go_wp2
    go_loopw [0, 4] (fun n o wr => ((n = .int .i64 2 ∧ o = .string ⟨#[]⟩) ∨ (n = .int .i64 0 ∧ o = .string (digB 2))) ∧ Below w.heap.size w wr) (fun n _ _ => (intOf n).toNat)
    case atStart => exact ⟨.inl ⟨rfl, rfl⟩, Below.refl _ _⟩
    case round =>
      obtain ⟨⟨rfl, rfl⟩ | ⟨rfl, rfl⟩, hb⟩ := hrel
      · have hcv := conv1 50 50 rfl wr
        go_wp2
        go_roundw
        case rel => exact ⟨.inr ⟨rfl, rfl⟩, hb.alloc hb.size _⟩
        case measure => simp [intOf]
      · go_wp2
        go_ret
        exact ⟨rfl, hb⟩
  · go_enter Tryd.func14, Tryd.ntmps14
    go_wp2
    go_loopw [0, 4] (fun n o wr => ((n = .int .i64 3 ∧ o = .string ⟨#[]⟩) ∨ (n = .int .i64 0 ∧ o = .string (digB 3))) ∧ Below w.heap.size w wr) (fun n _ _ => (intOf n).toNat)
    case atStart => exact ⟨.inl ⟨rfl, rfl⟩, Below.refl _ _⟩
    case round =>
      obtain ⟨⟨rfl, rfl⟩ | ⟨rfl, rfl⟩, hb⟩ := hrel
      · have hcv := conv1 51 51 rfl wr
        go_wp2
        go_roundw
        case rel => exact ⟨.inr ⟨rfl, rfl⟩, hb.alloc hb.size _⟩
        case measure => simp [intOf]
      · go_wp2
        go_ret
        exact ⟨rfl, hb⟩
def tb (s : Int) (k : Nat) : Bool := bits BinOp.and IntKind.i64 (if k = 0 then s else if k = 1 then s / 2 else s / 4) 1 == 1
def letB (k : Nat) : ByteArray := ⟨#[UInt8.ofNat (97 + k)]⟩
theorem enc0 : Utf8.encode 97 = letB 0 := by kernel_rfl
theorem enc1 : Utf8.encode 98 = letB 1 := by kernel_rfl
theorem enc2 : Utf8.encode 99 = letB 2 := by kernel_rfl
theorem let_size (k : Nat) : (letB k).size ≤ 1 := Nat.le_refl 1
def txt (l s : Int) : Nat → ByteArray
  | 0 => digB l ++ ⟨#[58]⟩
  | k + 1 => if tb s k = true then txt l s k ++ letB k else txt l s k
theorem txt_size (l s : Int) : ∀ k, (txt l s k).size ≤ 2 + k
  | 0 => by
    have h1 : (digB l).size ≤ 1 := Nat.le_refl 1
    have h2 : (⟨#[58]⟩ : ByteArray).size ≤ 1 := Nat.le_refl 1
    rw [txt, ByteArray.size_append]; omega
  | k + 1 => by
    have h := txt_size l s k
    have h1 := let_size k
    rw [txt]
    split
    · rw [ByteArray.size_append]; omega
    · omega
theorem txt_yes {l s : Int} {k : Nat} (h : tb s k = true) : txt l s k ++ letB k = txt l s (k + 1) := by rw [txt, if_pos h]
theorem txt_no {l s : Int} {k : Nat} (h : tb s k = false) : txt l s k = txt l s (k + 1) := by rw [txt, if_neg (by simp [h])]
theorem idx0 (W : World) : (Instr.index 102 (.agg #[.int .i32 97, .int .i32 98, .int .i32 99]) (.int .i64 0)).run Tryd.prog W = .ok (.int .i32 97) W := by kernel_rfl
theorem idx1 (W : World) : (Instr.index 102 (.agg #[.int .i32 97, .int .i32 98, .int .i32 99]) (.int .i64 1)).run Tryd.prog W = .ok (.int .i32 98) W := by kernel_rfl
theorem idx2 (W : World) : (Instr.index 102 (.agg #[.int .i32 97, .int .i32 98, .int .i32 99]) (.int .i64 2)).run Tryd.prog W = .ok (.int .i32 99) W := by kernel_rfl
set_option maxHeartbeats 800000 in
theorem text_impl (l s : Int) (w : World) (h : rB l s = true) (h0 : 0 ≤ l) (h3 : l ≤ 3) (c0 : w.cell? ⟨0, 0, none⟩ = some (.int .i32 97)) (c1 : w.cell? ⟨0, 1, none⟩ = some (.int .i32 98)) (c2 : w.cell? ⟨0, 2, none⟩ = some (.int .i32 99)) :
    Calls Tryd.prog 41 #[lab l s] w fun e w' => e = .returned (.string (txt l s 3)) ∧ Below w.heap.size w w' := by
  unfold lab
  have hlt := World.block_lt_of_cell? w ⟨0, 0, none⟩ c0
  have hd : (digB l).size ≤ 1 := Nat.le_refl 1
  go_enter Tryd.func41, Tryd.ntmps41
  go_wp2_with (first | (go_at_call 60; refine (right_impl _ _ _).mono ?_; unfold labO; rintro e w1 ⟨rfl, rfl⟩) | (go_at_call 61; refine (fmt_any _ _ h0 h3).mono ?_; rintro e w' ⟨rfl, rfl⟩))
  go_loop [3, 14] (fun t i => ∃ k : Nat, k ≤ 3 ∧ i = .int .i64 k ∧ t = .string (txt l s k)) (fun _ i => 3 - (intOf i).toNat)
  case atStart => exact ⟨0, by omega, rfl, rfl⟩
  case round =>
    obtain ⟨k, hk, rfl, rfl⟩ := hrel
    have hz := txt_size l s k
    obtain rfl | rfl | rfl | rfl : k = 0 ∨ k = 1 ∨ k = 2 ∨ k = 3 := by omega
    · by_cases ht : tb s 0 = true
      · have hy := Lib.hid (txt_yes (l := l) ht)
        have ht' : (bits BinOp.and IntKind.i64 s 1 == 1) = true := ht
        clear ht
        have hi := idx0
        have he : (Utf8.encode 97).size ≤ 1 := Nat.le_refl 1
        go_wp2
        go_round
        case rel => exact ⟨1, by omega, rfl, by rw [← hy.out, enc0]⟩
        case measure => simp [intOf]
      · have ht1 : tb s 0 = false := by simpa using ht
        have hy := Lib.hid (txt_no (l := l) ht1)
        have ht' : (bits BinOp.and IntKind.i64 s 1 == 1) = false := ht1
        clear ht ht1
        have hi := idx0
        have he : (Utf8.encode 97).size ≤ 1 := Nat.le_refl 1
        go_wp2
        go_round
        case rel => exact ⟨1, by omega, rfl, by rw [hy.out]⟩
        case measure => simp [intOf]
    · by_cases ht : tb s 1 = true
      · have hy := Lib.hid (txt_yes (l := l) ht)
        have ht' : (bits BinOp.and IntKind.i64 (s / 2) 1 == 1) = true := ht
        clear ht
        have hi := idx1
        have he : (Utf8.encode 98).size ≤ 1 := Nat.le_refl 1
        go_wp2
        go_round
        case rel => exact ⟨2, by omega, rfl, by rw [← hy.out, enc1]⟩
        case measure => simp [intOf]
      · have ht1 : tb s 1 = false := by simpa using ht
        have hy := Lib.hid (txt_no (l := l) ht1)
        have ht' : (bits BinOp.and IntKind.i64 (s / 2) 1 == 1) = false := ht1
        clear ht ht1
        have hi := idx1
        have he : (Utf8.encode 98).size ≤ 1 := Nat.le_refl 1
        go_wp2
        go_round
        case rel => exact ⟨2, by omega, rfl, by rw [hy.out]⟩
        case measure => simp [intOf]
    · by_cases ht : tb s 2 = true
      · have hy := Lib.hid (txt_yes (l := l) ht)
        have ht' : (bits BinOp.and IntKind.i64 (s / 4) 1 == 1) = true := ht
        clear ht
        have hi := idx2
        have he : (Utf8.encode 99).size ≤ 1 := Nat.le_refl 1
        go_wp2
        go_round
        case rel => exact ⟨3, by omega, rfl, by rw [← hy.out, enc2]⟩
        case measure => simp [intOf]
      · have ht1 : tb s 2 = false := by simpa using ht
        have hy := Lib.hid (txt_no (l := l) ht1)
        have ht' : (bits BinOp.and IntKind.i64 (s / 4) 1 == 1) = false := ht1
        clear ht ht1
        have hi := idx2
        have he : (Utf8.encode 99).size ≤ 1 := Nat.le_refl 1
        go_wp2
        go_round
        case rel => exact ⟨3, by omega, rfl, by rw [hy.out]⟩
        case measure => simp [intOf]
    · go_wp2
      go_ret
      exact ⟨rfl, ((Below.refl _ _).alloc (Nat.le_refl _) _).alloc (by simp) _⟩
set_option maxHeartbeats 800000 in
theorem text_spec (l s : Int) (w : World) (h : rB l s = true) (h0 : 0 ≤ l) (h3 : l ≤ 3) :
    Calls Tryd.prog 13 #[lab l s] w fun e w' => e = .returned (.string (txt l s 3)) ∧ Below w.heap.size w w' := by
  unfold lab
  have hd : (digB l).size ≤ 1 := Nat.le_refl 1
  go_enter Tryd.func13, Tryd.ntmps13
  go_wp2_with (first | (go_at_call 31; refine (right_spec _ _ _).mono ?_; unfold labO; rintro e w1 ⟨rfl, rfl⟩) | (go_at_call 14; refine (dec_any _ _ h0 h3).mono ?_; rintro e w1 ⟨rfl, hb⟩; have ⟨c0, c1, _⟩ := cells2 hb (B := w.heap.size) (a := .int .i64 l) (b := .int .i64 s) (by simp) (by simp); have HB := Lib.hid hb; clear hb))
  go_loop [3, 5] (fun t i => ∃ k : Nat, k ≤ 3 ∧ i = .int .i64 k ∧ t = .string (txt l s k)) (fun _ i => 3 - (intOf i).toNat)
  case atStart => exact ⟨0, by omega, rfl, rfl⟩
  case round =>
    obtain ⟨k, hk, rfl, rfl⟩ := hrel
    have hz := txt_size l s k
    obtain rfl | rfl | rfl | rfl : k = 0 ∨ k = 1 ∨ k = 2 ∨ k = 3 := by omega
    · by_cases ht : tb s 0 = true
      · have hy := Lib.hid (txt_yes (l := l) ht)
        have ht' : (bits BinOp.and IntKind.i64 s 1 == 1) = true := ht
        clear ht
        go_wp2
        go_round
        case rel => exact ⟨1, by omega, rfl, by (rw [← hy.out]; rfl)⟩
        case measure => simp [intOf]
      · have ht1 : tb s 0 = false := by simpa using ht
        have hy := Lib.hid (txt_no (l := l) ht1)
        have ht' : (bits BinOp.and IntKind.i64 s 1 == 1) = false := ht1
        clear ht ht1
        go_wp2
        go_round
        case rel => exact ⟨1, by omega, rfl, by rw [hy.out]⟩
        case measure => simp [intOf]
    · by_cases ht : tb s 1 = true
      · have hy := Lib.hid (txt_yes (l := l) ht)
        have ht' : (bits BinOp.and IntKind.i64 (s / 2) 1 == 1) = true := ht
        clear ht
        go_wp2
        go_round
        case rel => exact ⟨2, by omega, rfl, by (rw [← hy.out]; rfl)⟩
        case measure => simp [intOf]
      · have ht1 : tb s 1 = false := by simpa using ht
        have hy := Lib.hid (txt_no (l := l) ht1)
        have ht' : (bits BinOp.and IntKind.i64 (s / 2) 1 == 1) = false := ht1
        clear ht ht1
        go_wp2
        go_round
        case rel => exact ⟨2, by omega, rfl, by rw [hy.out]⟩
        case measure => simp [intOf]
    · by_cases ht : tb s 2 = true
      · have hy := Lib.hid (txt_yes (l := l) ht)
        have ht' : (bits BinOp.and IntKind.i64 (s / 4) 1 == 1) = true := ht
        clear ht
        go_wp2
        go_round
        case rel => exact ⟨3, by omega, rfl, by (rw [← hy.out]; rfl)⟩
        case measure => simp [intOf]
      · have ht1 : tb s 2 = false := by simpa using ht
        have hy := Lib.hid (txt_no (l := l) ht1)
        have ht' : (bits BinOp.and IntKind.i64 (s / 4) 1 == 1) = false := ht1
        clear ht ht1
        go_wp2
        go_round
        case rel => exact ⟨3, by omega, rfl, by rw [hy.out]⟩
        case measure => simp [intOf]
    · go_wp2
      go_ret
      exact ⟨rfl, (((Below.refl _ _).alloc (Nat.le_refl _) _).alloc (by simp) _).trans (HB.out.mono (by simp; omega))⟩
end Go.Proofs.YtdghcjlgmajffaaDoor.LabC
end
section
namespace Go.Proofs.YtdghcjlgmajffaaDoor.LabC
open Go.RowKit KeptC
structure Door (w : World) : Prop where
  c0 : w.cell? ⟨0, 0, none⟩ = some (.int .i32 97)
  c1 : w.cell? ⟨0, 1, none⟩ = some (.int .i32 98)
  c2 : w.cell? ⟨0, 2, none⟩ = some (.int .i32 99)
theorem Door.lt {w : World} (h : Door w) : 0 < w.heap.size := World.block_lt_of_cell? w ⟨0, 0, none⟩ h.c0
theorem Door.below {w W W1 : World} (h : Door W) (hb : Below w.heap.size W W1) (hw : 0 < w.heap.size) : Door W1 :=
  ⟨(hb.cell (p := ⟨0, 0, none⟩) hw).trans h.c0, (hb.cell (p := ⟨0, 1, none⟩) hw).trans h.c1, (hb.cell (p := ⟨0, 2, none⟩) hw).trans h.c2⟩
def textV (l s : Int) : ByteArray := if rB l s = true then txt l s 3 else { data := #[] }
theorem text_yes {l s : Int} (h : rB l s = true) : textV l s = txt l s 3 := if_pos h
theorem text_no {l s : Int} (h : rB l s = false) : textV l s = { data := #[] } := if_neg (by simp [h])
theorem ts_w (l s : Int) (w : World) : Calls Tryd.prog 13 #[.agg #[.int .i64 l, .int .i64 s]] w fun e w' => e = .returned (.string (textV l s)) ∧ Below w.heap.size w w' := by
  by_cases h : rB l s = true
  · rw [text_yes h]
    have hp := (rB_iff l s).1 h
    exact text_spec l s w h hp.1 hp.2.1
  · have h' : rB l s = false := by simpa using h
    rw [text_no h']
    clear h
    go_enter Tryd.func13, Tryd.ntmps13
    go_wp2_with (go_at_call 31; refine (right_spec _ _ _).mono ?_; unfold labO; rintro e w1 ⟨rfl, rfl⟩)
    go_ret
    exact ⟨rfl, ((Below.refl _ _).alloc (Nat.le_refl _) _).alloc (by simp) _⟩
theorem ti_w (l s : Int) (w : World) (hD : Door w) : Calls Tryd.prog 41 #[.agg #[.int .i64 l, .int .i64 s]] w fun e w' => e = .returned (.string (textV l s)) ∧ Below w.heap.size w w' := by
  by_cases h : rB l s = true
  · rw [text_yes h]
    have hp := (rB_iff l s).1 h
    exact text_impl l s w h hp.1 hp.2.1 hD.c0 hD.c1 hD.c2
  · have h' : rB l s = false := by simpa using h
    rw [text_no h']
    clear h hD
    go_enter Tryd.func41, Tryd.ntmps41
    go_wp2_with (go_at_call 60; refine (right_impl _ _ _).mono ?_; unfold labO; rintro e w1 ⟨rfl, rfl⟩)
    go_ret
    exact ⟨rfl, ((Below.refl _ _).alloc (Nat.le_refl _) _).alloc (by simp) _⟩
end Go.Proofs.YtdghcjlgmajffaaDoor.LabC
end
section
namespace Go.Proofs.YtdghcjlgmajffaaDoor.LabC
open Go.RowKit KeptC
theorem small9 (d : Int) (w : World) (h0 : 0 ≤ d) (h9 : d ≤ 9) :
    Calls Tryd.prog 76 #[.int .i64 d] w fun e w' => e = .returned (.string (digB d)) ∧ w = w' := by
  obtain rfl | rfl | rfl | rfl | rfl | rfl | rfl | rfl | rfl | rfl : d = 0 ∨ d = 1 ∨ d = 2 ∨ d = 3 ∨ d = 4 ∨ d = 5 ∨ d = 6 ∨ d = 7 ∨ d = 8 ∨ d = 9 := by omega
  all_goals
    go_enter Tryd.func76, Tryd.ntmps76
    go_wp2
    go_ret
    exact ⟨rfl, rfl⟩
theorem fmt9_in (d : Int) (w : World) (h0 : 0 ≤ d) (h9 : d ≤ 9) :
    Calls Tryd.prog 72 #[.int .i64 d, .int .i64 10] w fun e w' => e = .returned (.string (digB d)) ∧ w = w' := by
  have h100 : d < 100 := by omega
  go_enter Tryd.func72, Tryd.ntmps72
  go_wp2_with (go_at_call 76; refine (small9 _ _ h0 h9).mono ?_; rintro e w' ⟨rfl, rfl⟩)
  go_ret
  exact ⟨rfl, rfl⟩
theorem fmt9 (d : Int) (w : World) (h0 : 0 ≤ d) (h9 : d ≤ 9) :
    Calls Tryd.prog 61 #[.int .i64 d, .int .i64 10] w fun e w' => e = .returned (.string (digB d)) ∧ w = w' := by
  go_enter Tryd.func61, Tryd.ntmps61
  go_wp2_with (go_at_call 72; refine (fmt9_in _ _ h0 h9).mono ?_; rintro e w' ⟨rfl, rfl⟩)
  go_ret
  exact ⟨rfl, rfl⟩
theorem decimal9 (d : Int) (w : World) (h0 : 0 ≤ d) (h9 : d ≤ 9) :
    Calls Tryd.prog 42 #[.int .i64 d] w fun e w' => e = .returned (.string (digB d)) ∧ w = w' := by
  go_enter Tryd.func42, Tryd.ntmps42
  go_wp2_with (go_at_call 61; refine (fmt9 _ _ h0 h9).mono ?_; rintro e w' ⟨rfl, rfl⟩)
  go_ret
  exact ⟨rfl, rfl⟩
theorem dec9 (d : Int) (w : World) (h0 : 1 ≤ d) (h9 : d ≤ 9) :
    Calls Tryd.prog 14 #[.int .i64 d] w fun e w' => e = .returned (.string (digB d)) ∧ Below w.heap.size w w' := by
  obtain rfl | rfl | rfl | rfl | rfl | rfl | rfl | rfl | rfl : d = 1 ∨ d = 2 ∨ d = 3 ∨ d = 4 ∨ d = 5 ∨ d = 6 ∨ d = 7 ∨ d = 8 ∨ d = 9 := by omega
  · go_enter Tryd.func14, Tryd.ntmps14
    go_wp2
    go_loopw [0, 4] (fun n o wr => ((n = .int .i64 1 ∧ o = .string ⟨#[]⟩) ∨ (n = .int .i64 0 ∧ o = .string (digB 1))) ∧ Below w.heap.size w wr) (fun n _ _ => (intOf n).toNat)
    case atStart => exact ⟨.inl ⟨rfl, rfl⟩, Below.refl _ _⟩
    case round =>
      obtain ⟨⟨rfl, rfl⟩ | ⟨rfl, rfl⟩, hb⟩ := hrel
      · have hcv := conv1 49 49 rfl wr
        go_wp2
        go_roundw
        case rel => exact ⟨.inr ⟨rfl, rfl⟩, hb.alloc hb.size _⟩
        case measure => simp [intOf]
      · go_wp2
        go_ret
        exact ⟨rfl, hb⟩
  · go_enter Tryd.func14, Tryd.ntmps14
    go_wp2
    go_loopw [0, 4] (fun n o wr => ((n = .int .i64 2 ∧ o = .string ⟨#[]⟩) ∨ (n = .int .i64 0 ∧ o = .string (digB 2))) ∧ Below w.heap.size w wr) (fun n _ _ => (intOf n).toNat)
    case atStart => exact ⟨.inl ⟨rfl, rfl⟩, Below.refl _ _⟩
    case round =>
      obtain ⟨⟨rfl, rfl⟩ | ⟨rfl, rfl⟩, hb⟩ := hrel
      · have hcv := conv1 50 50 rfl wr
        go_wp2
        go_roundw
        case rel => exact ⟨.inr ⟨rfl, rfl⟩, hb.alloc hb.size _⟩
        case measure => simp [intOf]
      · go_wp2
        go_ret
        exact ⟨rfl, hb⟩
  · go_enter Tryd.func14, Tryd.ntmps14
    go_wp2
    go_loopw [0, 4] (fun n o wr => ((n = .int .i64 3 ∧ o = .string ⟨#[]⟩) ∨ (n = .int .i64 0 ∧ o = .string (digB 3))) ∧ Below w.heap.size w wr) (fun n _ _ => (intOf n).toNat)
    case atStart => exact ⟨.inl ⟨rfl, rfl⟩, Below.refl _ _⟩
    case round =>
      obtain ⟨⟨rfl, rfl⟩ | ⟨rfl, rfl⟩, hb⟩ := hrel
      · have hcv := conv1 51 51 rfl wr
        go_wp2
        go_roundw
        case rel => exact ⟨.inr ⟨rfl, rfl⟩, hb.alloc hb.size _⟩
        case measure => simp [intOf]
      · go_wp2
        go_ret
        exact ⟨rfl, hb⟩
  · go_enter Tryd.func14, Tryd.ntmps14
    go_wp2
    go_loopw [0, 4] (fun n o wr => ((n = .int .i64 4 ∧ o = .string ⟨#[]⟩) ∨ (n = .int .i64 0 ∧ o = .string (digB 4))) ∧ Below w.heap.size w wr) (fun n _ _ => (intOf n).toNat)
    case atStart => exact ⟨.inl ⟨rfl, rfl⟩, Below.refl _ _⟩
    case round =>
      obtain ⟨⟨rfl, rfl⟩ | ⟨rfl, rfl⟩, hb⟩ := hrel
      · have hcv := conv1 52 52 rfl wr
        go_wp2
        go_roundw
        case rel => exact ⟨.inr ⟨rfl, rfl⟩, hb.alloc hb.size _⟩
        case measure => simp [intOf]
      · go_wp2
        go_ret
        exact ⟨rfl, hb⟩
  · go_enter Tryd.func14, Tryd.ntmps14
    go_wp2
    go_loopw [0, 4] (fun n o wr => ((n = .int .i64 5 ∧ o = .string ⟨#[]⟩) ∨ (n = .int .i64 0 ∧ o = .string (digB 5))) ∧ Below w.heap.size w wr) (fun n _ _ => (intOf n).toNat)
    case atStart => exact ⟨.inl ⟨rfl, rfl⟩, Below.refl _ _⟩
    case round =>
      obtain ⟨⟨rfl, rfl⟩ | ⟨rfl, rfl⟩, hb⟩ := hrel
      · have hcv := conv1 53 53 rfl wr
        go_wp2
        go_roundw
        case rel => exact ⟨.inr ⟨rfl, rfl⟩, hb.alloc hb.size _⟩
        case measure => simp [intOf]
      · go_wp2
        go_ret
        exact ⟨rfl, hb⟩
  · go_enter Tryd.func14, Tryd.ntmps14
    go_wp2
    go_loopw [0, 4] (fun n o wr => ((n = .int .i64 6 ∧ o = .string ⟨#[]⟩) ∨ (n = .int .i64 0 ∧ o = .string (digB 6))) ∧ Below w.heap.size w wr) (fun n _ _ => (intOf n).toNat)
    case atStart => exact ⟨.inl ⟨rfl, rfl⟩, Below.refl _ _⟩
    case round =>
      obtain ⟨⟨rfl, rfl⟩ | ⟨rfl, rfl⟩, hb⟩ := hrel
      · have hcv := conv1 54 54 rfl wr
        go_wp2
        go_roundw
        case rel => exact ⟨.inr ⟨rfl, rfl⟩, hb.alloc hb.size _⟩
        case measure => simp [intOf]
      · go_wp2
        go_ret
        exact ⟨rfl, hb⟩
  · go_enter Tryd.func14, Tryd.ntmps14
    go_wp2
    go_loopw [0, 4] (fun n o wr => ((n = .int .i64 7 ∧ o = .string ⟨#[]⟩) ∨ (n = .int .i64 0 ∧ o = .string (digB 7))) ∧ Below w.heap.size w wr) (fun n _ _ => (intOf n).toNat)
    case atStart => exact ⟨.inl ⟨rfl, rfl⟩, Below.refl _ _⟩
    case round =>
      obtain ⟨⟨rfl, rfl⟩ | ⟨rfl, rfl⟩, hb⟩ := hrel
      · have hcv := conv1 55 55 rfl wr
        go_wp2
        go_roundw
        case rel => exact ⟨.inr ⟨rfl, rfl⟩, hb.alloc hb.size _⟩
        case measure => simp [intOf]
      · go_wp2
        go_ret
        exact ⟨rfl, hb⟩
  · go_enter Tryd.func14, Tryd.ntmps14
    go_wp2
    go_loopw [0, 4] (fun n o wr => ((n = .int .i64 8 ∧ o = .string ⟨#[]⟩) ∨ (n = .int .i64 0 ∧ o = .string (digB 8))) ∧ Below w.heap.size w wr) (fun n _ _ => (intOf n).toNat)
    case atStart => exact ⟨.inl ⟨rfl, rfl⟩, Below.refl _ _⟩
    case round =>
      obtain ⟨⟨rfl, rfl⟩ | ⟨rfl, rfl⟩, hb⟩ := hrel
      · have hcv := conv1 56 56 rfl wr
        go_wp2
        go_roundw
        case rel => exact ⟨.inr ⟨rfl, rfl⟩, hb.alloc hb.size _⟩
        case measure => simp [intOf]
      · go_wp2
        go_ret
        exact ⟨rfl, hb⟩
  · go_enter Tryd.func14, Tryd.ntmps14
    go_wp2
    go_loopw [0, 4] (fun n o wr => ((n = .int .i64 9 ∧ o = .string ⟨#[]⟩) ∨ (n = .int .i64 0 ∧ o = .string (digB 9))) ∧ Below w.heap.size w wr) (fun n _ _ => (intOf n).toNat)
    case atStart => exact ⟨.inl ⟨rfl, rfl⟩, Below.refl _ _⟩
    case round =>
      obtain ⟨⟨rfl, rfl⟩ | ⟨rfl, rfl⟩, hb⟩ := hrel
      · have hcv := conv1 57 57 rfl wr
        go_wp2
        go_roundw
        case rel => exact ⟨.inr ⟨rfl, rfl⟩, hb.alloc hb.size _⟩
        case measure => simp [intOf]
      · go_wp2
        go_ret
        exact ⟨rfl, hb⟩
end Go.Proofs.YtdghcjlgmajffaaDoor.LabC
end
section
namespace Go.Proofs.YtdghcjlgmajffaaDoor.RepC
open Go.RowKit RowC ValC SpanC KeptC CfC
set_option linter.unusedVariables false
set_option linter.unusedSimpArgs false
def joinB : List ByteArray → ByteArray
  | [] => ⟨#[]⟩
  | x :: xs => x ++ joinB xs
theorem empty_app (a : ByteArray) : (⟨#[]⟩ : ByteArray) ++ a = a := by rw [show (⟨#[]⟩ : ByteArray) = ByteArray.empty from rfl, ByteArray.empty_append]
theorem app_empty (a : ByteArray) : a ++ (⟨#[]⟩ : ByteArray) = a := by rw [show (⟨#[]⟩ : ByteArray) = ByteArray.empty from rfl, ByteArray.append_empty]
theorem joinB_app : ∀ L M : List ByteArray, joinB (L ++ M) = joinB L ++ joinB M
  | [], M => by rw [List.nil_append, joinB, empty_app]
  | x :: xs, M => by rw [List.cons_append, joinB, joinB, joinB_app xs M, ByteArray.append_assoc]
theorem joinB_one (x : ByteArray) : joinB [x] = x := by rw [joinB, joinB, app_empty]
theorem joinB_take {L : List ByteArray} {k : Nat} {x : ByteArray} (h : L[k]? = some x) : joinB (L.take (k + 1)) = joinB (L.take k) ++ x := by
  rw [List.take_add_one, h, Option.toList_some, joinB_app, joinB_one]
theorem joinB_zero (L : List ByteArray) : joinB (L.take 0) = ⟨#[]⟩ := rfl
theorem joinB_size : ∀ {L : List ByteArray} {n : Nat}, (∀ x ∈ L, x.size ≤ n) → (joinB L).size ≤ n * L.length
  | [], _, _ => Nat.zero_le _
  | x :: xs, n, h => by
    rw [joinB, ByteArray.size_append, List.length_cons, Nat.mul_add, Nat.mul_one]
    have := h x List.mem_cons_self
    have := joinB_size (L := xs) fun y hy => h y (List.mem_cons_of_mem _ hy)
    omega
theorem joinB_take_size {L : List ByteArray} {n : Nat} (k : Nat) (h : ∀ x ∈ L, x.size ≤ n) : (joinB (L.take k)).size ≤ n * k := by
  have := joinB_size (L := L.take k) fun x hx => h x (List.mem_of_mem_take hx)
  refine Nat.le_trans this (Nat.mul_le_mul_left n ?_)
  rw [List.length_take]; omega
theorem textV_size (l s : Int) : (LabC.textV l s).size ≤ 5 := by
  unfold LabC.textV
  split
  · exact LabC.txt_size l s 3
  · exact Nat.zero_le _
theorem digB_size (d : Int) : (LabC.digB d).size = 1 := rfl
def lw (a : D_Label) : ByteArray := ⟨#[32]⟩ ++ LabC.textV a.1 a.2
def dw (n : Int) : ByteArray := ⟨#[32]⟩ ++ LabC.digB n
theorem lw_size (a : D_Label) : (lw a).size ≤ 6 := by
  have := textV_size a.1 a.2
  unfold lw
  rw [ByteArray.size_append]
  show 1 + _ ≤ 6
  omega
theorem dw_size (n : Int) : (dw n).size ≤ 2 := by
  unfold dw
  rw [ByteArray.size_append, digB_size]
  exact Nat.le_refl 2
def lnB (b : ByteArray) (L : List D_Label) (N : List Int) : ByteArray := b ++ joinB (L.map lw) ++ joinB (N.map dw) ++ ⟨#[10]⟩
theorem lnB_size {b : ByteArray} {L : List D_Label} {N : List Int} (hb : b.size ≤ 8) (hL : L.length ≤ 4) (hN : N.length ≤ 1) : (lnB b L N).size ≤ 40 := by
  unfold lnB
  rw [ByteArray.size_append, ByteArray.size_append, ByteArray.size_append]
  have h1 := joinB_size (L := L.map lw) (n := 6) fun x hx => by obtain ⟨a, _, rfl⟩ := List.mem_map.1 hx; exact lw_size a
  have h2 := joinB_size (L := N.map dw) (n := 2) fun x hx => by obtain ⟨a, _, rfl⟩ := List.mem_map.1 hx; exact dw_size a
  rw [List.length_map] at h1 h2
  have : (⟨#[10]⟩ : ByteArray).size = 1 := rfl
  omega
def nodeLn (x : List D_Label) : ByteArray := lnB ⟨#[110, 111, 100, 101]⟩ x []
def pairLn (p : D_Pair) : ByteArray := lnB ⟨#[112, 97, 105, 114]⟩ [p.1, p.2.1] [p.2.2]
def quotaLn (q : D_Quota) : ByteArray := lnB ⟨#[113, 117, 111, 116, 97]⟩ [q.1] [q.2]
def halfLn (h : Int) : ByteArray := lnB ⟨#[104, 97, 108, 102]⟩ [] [h]
def cfgText (C : List (List D_Label)) (P : List D_Pair) (Q : List D_Quota) (h : Int) : ByteArray := joinB (C.map nodeLn) ++ joinB (P.map pairLn) ++ joinB (Q.map quotaLn) ++ halfLn h
noncomputable def textC (C : List (List D_Label)) (P : List D_Pair) (Q : List D_Quota) (h : Int) : ByteArray := if cfgB C P Q h then cfgText C P Q h else ⟨#[]⟩
theorem lw_mem {L : List D_Label} : ∀ x ∈ L.map lw, x.size ≤ 6 := fun x hx => by obtain ⟨a, _, rfl⟩ := List.mem_map.1 hx; exact lw_size a
theorem dw_mem {L : List Int} : ∀ x ∈ L.map dw, x.size ≤ 2 := fun x hx => by obtain ⟨a, _, rfl⟩ := List.mem_map.1 hx; exact dw_size a
set_option maxRecDepth 100000 in
set_option maxHeartbeats 3200000 in
theorem line_impl {b : ByteArray} {L : List D_Label} {N : List Int} {la na : Option Addr} {lc nc : Nat} {W : World} (hD : LabC.Door W) (hb : b.size ≤ 8) (hl : L.length ≤ 4) (hn : N.length ≤ 1) (hN9 : ∀ n ∈ N, 0 ≤ n ∧ n ≤ 9) (hL : RdSl R_Label W W.heap.size L la lc) (hN : RdSl I W W.heap.size N na nc) :
    Calls Tryd.prog 20 #[.string b, .slice la L.length lc, .slice na N.length nc] W fun e w' => e = .returned (.string (lnB b L N)) ∧ Below W.heap.size W w' := by
  have HD := Lib.hid hD
  have hD0 := hD.lt
  have HL := Lib.hid hL
  have HN := Lib.hid hN
  have HN9 := Lib.hid hN9
  clear hD hL hN hN9
  go_enter Tryd.func20, Tryd.ntmps20
  go_wp2
  go_loopw [7, 15] (fun s i wr => ∃ (k : Nat) (Z : ByteArray), k ≤ L.length ∧ i = .int .i64 k ∧ s = .string Z ∧ Hid (Z = b ++ joinB ((L.map lw).take k)) ∧ Below W.heap.size W wr) (fun _ i _ => L.length - (intOf i).toNat)
  case atStart => exact ⟨0, b, Nat.zero_le _, rfl, rfl, Lib.hid (by rw [joinB_zero, app_empty]), Below.refl _ _⟩
  case round =>
    obtain ⟨k, Z, hk, rfl, rfl, HZ, hB⟩ := hrel
    have HB := Lib.hid hB
    have hsz := hB.size
    have hzs : Z.size ≤ 32 := by
      rw [HZ.out, ByteArray.size_append]
      have := joinB_take_size (L := L.map lw) k lw_mem
      omega
    by_cases hlt : k < L.length
    · have hdl : decide ((k : Int) < (L.length : Int)) = true := decide_eq_true (by omega)
      obtain ⟨⟨x0, x1⟩, hx⟩ := el_some hlt
      have HX := Lib.hid hx
      obtain ⟨g, o, us, rfl, hg, hu, hr⟩ := (HL.out.below R_Label_ok hB).at_ hx
      obtain rfl := rd_Label hr
      have e0 : wr.cell? ⟨g, o + k * 2, none⟩ = some (.int .i64 x0) := by simpa [size_Lab, Nat.add_assoc] using hu 0 _ rfl
      have e1 : wr.cell? ⟨g, o + k * 2 + 1, none⟩ = some (.int .i64 x1) := by simpa [size_Lab, Nat.add_assoc] using hu 1 _ rfl
      have hi0 : (0 : Int) ≤ (k : Int) := Int.natCast_nonneg _
      have hi1 : (k : Int) < (L.length : Int) := by omega
      obtain ⟨w1, hw1⟩ : ∃ w, w = wr.alloc (.cells #[.int .i64 x0, .int .i64 x1] 44) := ⟨_, rfl⟩
      have hbA : Below wr.heap.size wr w1 := by rw [hw1]; exact (Below.refl _ _).alloc (Nat.le_refl _) _
      have HB1 := Lib.hid (HB.out.trans (hbA.mono hsz))
      have HD1 := Lib.hid (HD.out.below HB1.out hD0)
      have hz1 := HB1.out.size
      obtain ⟨tx, htx⟩ : ∃ t, LabC.textV x0 x1 = t := ⟨_, rfl⟩
      have htz : tx.size ≤ 5 := by rw [← htx]; exact textV_size x0 x1
      have HTX := Lib.hid htx
      have hti := LabC.ti_w x0 x1 w1 HD1.out
      rw [htx] at hti
      have HTI := Lib.hid hti
      have hadd1 := fun w : World => run_string_add_sum (P := Tryd.prog) w ⟨#[32]⟩ tx (by have : (⟨#[32]⟩ : ByteArray).size = 1 := rfl; omega)
      have hsz2 : ((⟨#[32]⟩ : ByteArray) ++ tx).size ≤ 6 := by rw [ByteArray.size_append]; have : (⟨#[32]⟩ : ByteArray).size = 1 := rfl; omega
      have hadd2 := fun w : World => run_string_add_sum (P := Tryd.prog) w Z (⟨#[32]⟩ ++ tx) (by omega)
      clear hB hx hu hr hbA htx hti
      go_wp2_with fail
      rw [← hw1]
      clear hw1 e0 e1
      refine HTI.out.mono ?_
      rintro e w2 ⟨rfl, hb2⟩
      have HB2 := Lib.hid (HB1.out.trans (hb2.mono hz1))
      have HZ2 := Lib.hid (show Z ++ (⟨#[32]⟩ ++ tx) = b ++ joinB ((L.map lw).take (k + 1)) from by
        rw [joinB_take (x := lw (x0, x1)) (by rw [List.getElem?_map, HX.out]; rfl), HZ.out, ByteArray.append_assoc]
        unfold lw
        rw [HTX.out])
      clear hb2
      go_wp2
      go_roundw
      case rel => exact ⟨k + 1, _, by omega, by go_num, rfl, HZ2, HB2.out⟩
      case measure => simp [intOf]; omega
    · have hdl : decide ((k : Int) < (L.length : Int)) = false := decide_eq_false (by omega)
      have HT := Lib.hid (show Z = b ++ joinB (L.map lw) from by rw [HZ.out, List.take_of_length_le (by rw [List.length_map]; omega)])
      clear hB
      go_wp2
      go_loopw [7, 27] (fun s i wr => ∃ (k : Nat) (Y : ByteArray), k ≤ N.length ∧ i = .int .i64 k ∧ s = .string Y ∧ Hid (Y = b ++ joinB (L.map lw) ++ joinB ((N.map dw).take k)) ∧ Below W.heap.size W wr) (fun _ i _ => N.length - (intOf i).toNat)
      case atStart => exact ⟨0, Z, Nat.zero_le _, rfl, rfl, Lib.hid (by rw [joinB_zero, app_empty, HT.out]), HB.out⟩
      case round =>
        obtain ⟨k, Y, hk, rfl, rfl, HY, hB⟩ := hrel
        have HB := Lib.hid hB
        have hsz := hB.size
        have hys : Y.size ≤ 34 := by
          rw [HY.out, ByteArray.size_append, ByteArray.size_append]
          have h1 := joinB_take_size (L := N.map dw) k dw_mem
          have h2 := joinB_size (L := L.map lw) lw_mem
          rw [List.length_map] at h2
          omega
        by_cases hlt : k < N.length
        · have hdl : decide ((k : Int) < (N.length : Int)) = true := decide_eq_true (by omega)
          obtain ⟨n, hx⟩ := el_some hlt
          have HX := Lib.hid hx
          obtain ⟨hn0, hn9⟩ := HN9.out n (List.mem_of_getElem? hx)
          obtain ⟨g, o, us, rfl, hg, hu, hr⟩ := (HN.out.below I_ok hB).at_ hx
          obtain rfl : us = [.int .i64 n] := hr
          have e0 : wr.cell? ⟨g, o + k, none⟩ = some (.int .i64 n) := by simpa [show I.size = 1 from rfl] using hu 0 _ rfl
          have hi0 : (0 : Int) ≤ (k : Int) := Int.natCast_nonneg _
          have hi1 : (k : Int) < (N.length : Int) := by omega
          obtain ⟨tx, htx⟩ : ∃ t, LabC.digB n = t := ⟨_, rfl⟩
          have htz : tx.size ≤ 1 := by rw [← htx]; exact Nat.le_of_eq (digB_size n)
          have HTX := Lib.hid htx
          have hti := LabC.decimal9 n wr hn0 hn9
          rw [htx] at hti
          have HTI := Lib.hid hti
          have hadd1 := fun w : World => run_string_add_sum (P := Tryd.prog) w ⟨#[32]⟩ tx (by have : (⟨#[32]⟩ : ByteArray).size = 1 := rfl; omega)
          have hsz2 : ((⟨#[32]⟩ : ByteArray) ++ tx).size ≤ 6 := by rw [ByteArray.size_append]; have : (⟨#[32]⟩ : ByteArray).size = 1 := rfl; omega
          have hadd2 := fun w : World => run_string_add_sum (P := Tryd.prog) w Y (⟨#[32]⟩ ++ tx) (by omega)
          clear hB hx hu htx hti
          go_wp2_with fail
          refine HTI.out.mono ?_
          rintro e w2 ⟨rfl, rfl⟩
          have HY2 := Lib.hid (show Y ++ (⟨#[32]⟩ ++ tx) = b ++ joinB (L.map lw) ++ joinB ((N.map dw).take (k + 1)) from by
            rw [joinB_take (x := dw n) (by rw [List.getElem?_map, HX.out]; rfl), HY.out, show dw n = ⟨#[32]⟩ ++ tx from by rw [← HTX.out]; rfl]
            simp only [ByteArray.append_assoc])
          clear e0
          go_wp2
          go_roundw
          case rel => exact ⟨k + 1, _, by omega, by go_num, rfl, HY2, HB.out⟩
          case measure => simp [intOf]; omega
        · have hdl : decide ((k : Int) < (N.length : Int)) = false := decide_eq_false (by omega)
          have hadd3 := fun w : World => run_string_add_sum (P := Tryd.prog) w Y ⟨#[10]⟩ (by have : (⟨#[10]⟩ : ByteArray).size = 1 := rfl; omega)
          have HR := Lib.hid (show Y ++ ⟨#[10]⟩ = lnB b L N from by unfold lnB; rw [HY.out, List.take_of_length_le (by rw [List.length_map]; omega)])
          clear hB
          go_wp2
          go_ret
          exact ⟨by rw [← HR.out]; rfl, HB.out⟩
end Go.Proofs.YtdghcjlgmajffaaDoor.RepC
end
section
namespace Go.Proofs.YtdghcjlgmajffaaDoor.RepC
open Go.RowKit RowC ValC SpanC KeptC CfC
set_option linter.unusedVariables false
set_option linter.unusedSimpArgs false
theorem node_cat (Z : ByteArray) (x : List D_Label) : Z ++ (⟨#[110, 111, 100, 101]⟩ : ByteArray) ++ joinB (x.map lw) ++ ⟨#[10]⟩ = Z ++ nodeLn x := by
  unfold nodeLn lnB
  rw [List.map_nil, joinB, app_empty]
  simp only [ByteArray.append_assoc]
theorem pair_cat (Z : ByteArray) (p : D_Pair) : Z ++ (⟨#[112, 97, 105, 114, 32]⟩ : ByteArray) ++ LabC.textV p.1.1 p.1.2 ++ ⟨#[32]⟩ ++ LabC.textV p.2.1.1 p.2.1.2 ++ ⟨#[32]⟩ ++ LabC.digB p.2.2 ++ ⟨#[10]⟩ = Z ++ pairLn p := by
  unfold pairLn lnB
  rw [show ((⟨#[112, 97, 105, 114, 32]⟩ : ByteArray) : ByteArray) = (⟨#[112, 97, 105, 114]⟩ : ByteArray) ++ ⟨#[32]⟩ from rfl]
  simp only [List.map_cons, List.map_nil, joinB, app_empty, lw, dw, ByteArray.append_assoc]
theorem quota_cat (Z : ByteArray) (q : D_Quota) : Z ++ (⟨#[113, 117, 111, 116, 97, 32]⟩ : ByteArray) ++ LabC.textV q.1.1 q.1.2 ++ ⟨#[32]⟩ ++ LabC.digB q.2 ++ ⟨#[10]⟩ = Z ++ quotaLn q := by
  unfold quotaLn lnB
  rw [show ((⟨#[113, 117, 111, 116, 97, 32]⟩ : ByteArray) : ByteArray) = (⟨#[113, 117, 111, 116, 97]⟩ : ByteArray) ++ ⟨#[32]⟩ from rfl]
  simp only [List.map_cons, List.map_nil, joinB, app_empty, lw, dw, ByteArray.append_assoc]
theorem half_cat (Z : ByteArray) (h : Int) : Z ++ (⟨#[104, 97, 108, 102, 32]⟩ : ByteArray) ++ LabC.digB h ++ ⟨#[10]⟩ = Z ++ halfLn h := by
  unfold halfLn lnB
  rw [show ((⟨#[104, 97, 108, 102, 32]⟩ : ByteArray) : ByteArray) = (⟨#[104, 97, 108, 102]⟩ : ByteArray) ++ ⟨#[32]⟩ from rfl]
  simp only [List.map_cons, List.map_nil, joinB, app_empty, empty_app, lw, dw, ByteArray.append_assoc]
theorem nodes_mem {C : List (List D_Label)} (h : ∀ (i : Nat) x, C[i]? = some x → x.length ≤ 4) : ∀ x ∈ C.map nodeLn, x.size ≤ 40 := fun x hx => by
  obtain ⟨a, ha, rfl⟩ := List.mem_map.1 hx
  obtain ⟨i, hi⟩ := List.getElem?_of_mem ha
  exact lnB_size (by decide) (h i a hi) (by simp)
theorem pairs_mem {P : List D_Pair} : ∀ x ∈ P.map pairLn, x.size ≤ 40 := fun x hx => by
  obtain ⟨a, ha, rfl⟩ := List.mem_map.1 hx
  exact lnB_size (by decide) (by simp) (by simp)
theorem quotas_mem {Q : List D_Quota} : ∀ x ∈ Q.map quotaLn, x.size ≤ 40 := fun x hx => by
  obtain ⟨a, ha, rfl⟩ := List.mem_map.1 hx
  exact lnB_size (by decide) (by simp) (by simp)
set_option maxRecDepth 100000 in
set_option maxHeartbeats 3200000 in
theorem ctext_spec {C : List (List D_Label)} {P : List D_Pair} {Q : List D_Quota} {hf : Int} {ca pa qa : Option Addr} {cc pc qc : Nat} {W : World} (hC : RdSl (Sl R_Label) W W.heap.size C ca cc) (hP : RdSl R_Pair W W.heap.size P pa pc) (hQ : RdSl R_Quota W W.heap.size Q qa qc) :
    Calls Tryd.prog 5 #[.agg #[.slice ca C.length cc, .slice pa P.length pc, .slice qa Q.length qc, .int .i64 hf]] W fun e w' => e = .returned (.string (textC C P Q hf)) ∧ Below W.heap.size W w' := by
  obtain ⟨M, hM⟩ : ∃ M, textC C P Q hf = M := ⟨_, rfl⟩
  have HM := Lib.hid hM
  rw [hM]
  clear hM
  have hcn : C.length ≤ 9223372036854775807 := by have h1 := hC.1; have h2 := hC.2.1; unfold maxLen at h2; omega
  have hpn : P.length ≤ 9223372036854775807 := by have h1 := hP.1; have h2 := hP.2.1; unfold maxLen at h2; omega
  have hqn : Q.length ≤ 9223372036854775807 := by have h1 := hQ.1; have h2 := hQ.2.1; unfold maxLen at h2; omega
  obtain ⟨z, hz⟩ : ∃ z, cfgB C P Q hf = z := ⟨_, rfl⟩
  have HZ := Lib.hid hz
  clear hz
  obtain ⟨w0, hw0⟩ : ∃ w, w = W.alloc (.cells #[.slice ca C.length cc, .slice pa P.length pc, .slice qa Q.length qc, .int .i64 hf] 33) := ⟨_, rfl⟩
  have hb0 : Below W.heap.size W w0 := by rw [hw0]; exact (Below.refl _ _).alloc (Nat.le_refl _) _
  have x0 : Blk w0 (W.heap.size) 33 #[.slice ca C.length cc, .slice pa P.length pc, .slice qa Q.length qc, .int .i64 hf] := by
    have h9 := Blk.new W 33 #[.slice ca C.length cc, .slice pa P.length pc, .slice qa Q.length qc, .int .i64 hf]
    try simp only [World.size_alloc] at h9
    rw [hw0]; exact h9
  have X0 := Lib.hid x0
  have HC := Lib.hid (rd_mv (Sl_ok R_Label_ok) hC hb0)
  have HP := Lib.hid (rd_mv R_Pair_ok hP hb0)
  have HQ := Lib.hid (rd_mv R_Quota_ok hQ hb0)
  have HB0 := Lib.hid hb0
  have hz0 := hb0.size
  clear hb0 hC hP hQ x0
  go_enter Tryd.func5, Tryd.ntmps5
  have p0 := X0.out.at_ 0 rfl
  have p1 := X0.out.at_ 1 rfl
  have p2 := X0.out.at_ 2 rfl
  have p3 := X0.out.at_ 3 rfl
  rw [hw0] at p0 p1 p2 p3
  go_wp2_with fail
  rw [← hw0]
  clear hw0 p0 p1 p2 p3
  have hcf := config_spec HC.out HP.out HQ.out (hf := hf)
  rw [HZ.out] at hcf
  refine hcf.mono ?_
  intro e v1 h
  obtain ⟨rfl, hb⟩ := isB_elim h
  have HB1 := Lib.hid (HB0.out.trans (hb.mono hz0))
  have Z0 := Lib.hid (X0.out.call hb)
  have HC1 := Lib.hid (rd_mv (Sl_ok R_Label_ok) HC.out hb)
  have HP1 := Lib.hid (rd_mv R_Pair_ok HP.out hb)
  have HQ1 := Lib.hid (rd_mv R_Quota_ok HQ.out hb)
  have hz1 := HB1.out.size
  clear h hb hcf
  cases z with
  | false =>
    have HE := Lib.hid (show M = ⟨#[]⟩ from by rw [← HM.out]; unfold textC; rw [HZ.out]; rfl)
    obtain rfl := HE.out
    go_wp2
    go_ret
    exact ⟨rfl, HB1.out⟩
  | true =>
  have HE := Lib.hid (show M = cfgText C P Q hf from by rw [← HM.out]; unfold textC; rw [HZ.out]; rfl)
  have HCR := Lib.hid (cfgB_iff.1 HZ.out)
  have hc6 : C.length ≤ 6 := HCR.out.1.2.1
  have hp4 : P.length ≤ 4 := HCR.out.2.2.2.1.1
  have hq8 : Q.length ≤ 8 := by have h1 := quotas_len (labs_sorted C 32) HCR.out.2.2.2.2; have h2 := HCR.out.2.2.1; exact Nat.le_trans h1 h2
  have HX4 := Lib.hid (show ∀ (i : Nat) x, C[i]? = some x → x.length ≤ 4 from fun i x hx => (HCR.out.1.2.2 i x hx).2.1)
  have HR9 := Lib.hid (show ∀ (i : Nat) x, P[i]? = some x → 1 ≤ x.2.2 ∧ x.2.2 ≤ 9 from fun i x hx => by have := isB_io.1 (HCR.out.2.2.2.1.2 i x hx).2.2.2.1; omega)
  have HQ9 := Lib.hid (show ∀ (i : Nat) x, Q[i]? = some x → 1 ≤ x.2 ∧ x.2 ≤ 9 from fun i x hx => isB_io.1 (HCR.out.2.2.2.2 i x hx).2.1)
  have HH9 := Lib.hid (isB_io.1 HCR.out.2.1)
  have p0 := Z0.out.at_ 0 rfl
  go_wp2
  go_loopw [3, 4] (fun s i wr => ∃ (k : Nat) (Z : ByteArray), k ≤ C.length ∧ i = .int .i64 k ∧ s = .string Z ∧ Hid (Z = joinB ((C.map nodeLn).take k)) ∧ Below v1.heap.size v1 wr) (fun _ i _ => C.length - (intOf i).toNat)
  case atStart => exact ⟨0, _, Nat.zero_le _, rfl, rfl, Lib.hid rfl, Below.refl _ _⟩
  case round =>
    obtain ⟨k, Z, hk, rfl, rfl, HZk, hB⟩ := hrel
    obtain ⟨wo, rfl⟩ : ∃ x, x = wr := ⟨_, rfl⟩
    have HB := Lib.hid hB
    have hsz := hB.size
    have hZs : Z.size ≤ 240 := by
      rw [HZk.out]
      have := joinB_take_size (L := C.map nodeLn) k (nodes_mem HX4.out)
      omega
    have Y0 := Lib.hid (Z0.out.call hB)
    have q0 := Y0.out.at_ 0 rfl
    by_cases hlt : k < C.length
    · have hdl : decide ((k : Int) < (C.length : Int)) = true := decide_eq_true (by omega)
      obtain ⟨x, hx⟩ := el_some hlt
      have HX := Lib.hid hx
      have hx4 := HX4.out k x hx
      obtain ⟨g, o, us, hgo, hg, hu, hr⟩ := (rd_mv (Sl_ok R_Label_ok) HC1.out hB).at_ hx
      obtain ⟨a1, c1, rfl, k_x⟩ := hr
      subst hgo
      have HG0 := Lib.hid (show wo.cell? ⟨g, o + k, none⟩ = some (.slice a1 x.length c1) from by simpa [size_SLab] using hu 0 _ rfl)
      have HGl := Lib.hid hg
      have hi0 : (0 : Int) ≤ (k : Int) := Int.natCast_nonneg _
      have hi1 : (k : Int) < (C.length : Int) := by omega
      have HK := Lib.hid k_x
      have hxn : x.length ≤ 9223372036854775807 := by omega
      have na0 := fun w : World => run_string_add_sum (P := Tryd.prog) w (Z) (⟨#[110, 111, 100, 101]⟩) (by have hq : (⟨#[110, 111, 100, 101]⟩ : ByteArray).size = 4 := rfl; omega)
      have nz0 : (Z ++ (⟨#[110, 111, 100, 101]⟩ : ByteArray)).size ≤ 244 := by rw [ByteArray.size_append]; have hq : (⟨#[110, 111, 100, 101]⟩ : ByteArray).size = 4 := rfl; omega
      clear hB hx hu k_x hg
      go_wp2
      go_loopw [3, 5] (fun s i wr => ∃ (j : Nat) (Y : ByteArray), j ≤ x.length ∧ i = .int .i64 j ∧ s = .string Y ∧ Hid (Y = Z ++ (⟨#[110, 111, 100, 101]⟩ : ByteArray) ++ joinB ((x.map lw).take j)) ∧ Below wo.heap.size wo wr) (fun _ i _ => x.length - (intOf i).toNat)
      case atStart => exact ⟨0, _, Nat.zero_le _, rfl, rfl, Lib.hid (by rw [joinB_zero, app_empty]), Below.refl _ _⟩
      case round =>
        obtain ⟨j, Y, hj, rfl, rfl, HYj, hB⟩ := hrel
        have HB2 := Lib.hid (HB.out.trans (hB.mono hsz))
        have HBo := Lib.hid hB
        have hsz2 := HB2.out.size
        have hYs : Y.size ≤ 270 := by
          rw [HYj.out, ByteArray.size_append, ByteArray.size_append]
          have := joinB_take_size (L := x.map lw) j lw_mem
          have h4 : ((⟨#[110, 111, 100, 101]⟩ : ByteArray) : ByteArray).size = 4 := rfl
          omega
        have V0 := Lib.hid (Y0.out.call hB)
        have q1 := V0.out.at_ 0 rfl
        have q2 : wr.cell? ⟨g, o + k, none⟩ = some (.slice a1 x.length c1) := (hB.cell (p := ⟨g, o + k, none⟩) HGl.out).trans HG0.out
        by_cases hjl : j < x.length
        · have hdl2 : decide ((j : Int) < (x.length : Int)) = true := decide_eq_true (by omega)
          obtain ⟨⟨x0, x1⟩, hy⟩ := el_some hjl
          have HYy := Lib.hid hy
          obtain ⟨g2, o2, us, rfl, hg2, hu, hr⟩ := (rd_mv R_Label_ok HK.out hB).at_ hy
          obtain rfl := rd_Label hr
          have e0 : wr.cell? ⟨g2, o2 + j * 2, none⟩ = some (.int .i64 x0) := by simpa [size_Lab, Nat.add_assoc] using hu 0 _ rfl
          have e1 : wr.cell? ⟨g2, o2 + j * 2 + 1, none⟩ = some (.int .i64 x1) := by simpa [size_Lab, Nat.add_assoc] using hu 1 _ rfl
          have hj0 : (0 : Int) ≤ (j : Int) := Int.natCast_nonneg _
          have hj1 : (j : Int) < (x.length : Int) := by omega
          obtain ⟨tx, htx⟩ : ∃ t, LabC.textV x0 x1 = t := ⟨_, rfl⟩
          have htz : tx.size ≤ 5 := by rw [← htx]; exact textV_size x0 x1
          have HTX := Lib.hid htx
          have hti := LabC.ts_w x0 x1 wr
          rw [htx] at hti
          have HTI := Lib.hid hti
          have la0 := fun w : World => run_string_add_sum (P := Tryd.prog) w (Y) (⟨#[32]⟩) (by have hq : (⟨#[32]⟩ : ByteArray).size = 1 := rfl; omega)
          have lz0 : (Y ++ (⟨#[32]⟩ : ByteArray)).size ≤ 271 := by rw [ByteArray.size_append]; have hq : (⟨#[32]⟩ : ByteArray).size = 1 := rfl; omega
          have la1 := fun w : World => run_string_add_sum (P := Tryd.prog) w (Y ++ (⟨#[32]⟩ : ByteArray)) (tx) (by skip; omega)
          have lz1 : ((Y ++ (⟨#[32]⟩ : ByteArray)) ++ tx).size ≤ 276 := by rw [ByteArray.size_append]; skip; omega
          clear hB hy hu htx hti
          go_wp2_with fail
          refine HTI.out.mono ?_
          rintro e w5 ⟨rfl, hb5⟩
          have HB5 := Lib.hid (HBo.out.trans (hb5.mono HBo.out.size))
          have HY2 := Lib.hid (show Y ++ ⟨#[32]⟩ ++ tx = Z ++ (⟨#[110, 111, 100, 101]⟩ : ByteArray) ++ joinB ((x.map lw).take (j + 1)) from by
            rw [joinB_take (x := lw (x0, x1)) (by rw [List.getElem?_map, HYy.out]; rfl), HYj.out]
            unfold lw
            rw [HTX.out]
            simp only [ByteArray.append_assoc])
          clear hb5 e0 e1 q1 q2
          go_wp2
          go_roundw
          case rel => exact ⟨j + 1, _, by omega, by go_num, rfl, HY2, HB5.out⟩
          case measure => simp [intOf]; omega
        · have hdl2 : decide ((j : Int) < (x.length : Int)) = false := decide_eq_false (by omega)
          have ma0 := fun w : World => run_string_add_sum (P := Tryd.prog) w (Y) (⟨#[10]⟩) (by have hq : (⟨#[10]⟩ : ByteArray).size = 1 := rfl; omega)
          have mz0 : (Y ++ (⟨#[10]⟩ : ByteArray)).size ≤ 271 := by rw [ByteArray.size_append]; have hq : (⟨#[10]⟩ : ByteArray).size = 1 := rfl; omega
          have HZ2 := Lib.hid (show Y ++ ⟨#[10]⟩ = joinB ((C.map nodeLn).take (k + 1)) from by
            rw [joinB_take (x := nodeLn x) (by rw [List.getElem?_map, HX.out]; rfl), ← HZk.out, ← node_cat, HYj.out, List.take_of_length_le (by rw [List.length_map]; omega)])
          clear hB
          go_wp2
          go_roundw
          case rel => exact ⟨k + 1, _, by omega, by go_num, rfl, HZ2, HB2.out⟩
          case measure => simp [intOf]; omega
    · have hdl : decide ((k : Int) < (C.length : Int)) = false := decide_eq_false (by omega)
      have HZc := Lib.hid (show Z = joinB (C.map nodeLn) from by rw [HZk.out, List.take_of_length_le (by rw [List.length_map]; omega)])
      clear hB
      go_wp2
      go_loopw [3, 6] (fun s i wr => ∃ (k : Nat) (Y : ByteArray), k ≤ P.length ∧ i = .int .i64 k ∧ s = .string Y ∧ Hid (Y = Z ++ joinB ((P.map pairLn).take k)) ∧ Below v1.heap.size v1 wr) (fun _ i _ => P.length - (intOf i).toNat)
      case atStart => exact ⟨0, _, Nat.zero_le _, rfl, rfl, Lib.hid (by rw [joinB_zero, app_empty]), HB.out⟩
      case round =>
        clear q0
        obtain ⟨k, Y, hk, rfl, rfl, HYk, hB⟩ := hrel
        have HB := Lib.hid hB
        have hsz := hB.size
        have hYs : Y.size ≤ 400 := by
          rw [HYk.out, ByteArray.size_append]
          have := joinB_take_size (L := P.map pairLn) k pairs_mem
          omega
        have Y0 := Lib.hid (Z0.out.call hB)
        have q1 := Y0.out.at_ 1 rfl
        by_cases hlt : k < P.length
        · have hdl : decide ((k : Int) < (P.length : Int)) = true := decide_eq_true (by omega)
          obtain ⟨⟨⟨x0, x1⟩, ⟨x2, x3⟩, x4⟩, hx⟩ := el_some hlt
          have HX := Lib.hid hx
          obtain ⟨hr1, hr9⟩ := HR9.out k _ hx
          obtain ⟨g, o, us, hgo, hg, hu, hr⟩ := (rd_mv R_Pair_ok HP1.out hB).at_ hx
          subst hgo
          obtain rfl := rd_Pair hr
          have e0 : wr.cell? ⟨g, o + k * 5, none⟩ = some (.int .i64 x0) := by simpa [size_PairS, Nat.add_assoc] using hu 0 _ rfl
          have e1 : wr.cell? ⟨g, o + k * 5 + 1, none⟩ = some (.int .i64 x1) := by simpa [size_PairS, Nat.add_assoc] using hu 1 _ rfl
          have e2 : wr.cell? ⟨g, o + k * 5 + 2, none⟩ = some (.int .i64 x2) := by simpa [size_PairS, Nat.add_assoc] using hu 2 _ rfl
          have e3 : wr.cell? ⟨g, o + k * 5 + 3, none⟩ = some (.int .i64 x3) := by simpa [size_PairS, Nat.add_assoc] using hu 3 _ rfl
          have e4 : wr.cell? ⟨g, o + k * 5 + 4, none⟩ = some (.int .i64 x4) := by simpa [size_PairS, Nat.add_assoc] using hu 4 _ rfl
          have HG := Lib.hid hg
          have hi0 : (0 : Int) ≤ (k : Int) := Int.natCast_nonneg _
          have hi1 : (k : Int) < (P.length : Int) := by omega
          obtain ⟨tf, htf⟩ : ∃ t, LabC.textV x0 x1 = t := ⟨_, rfl⟩
          obtain ⟨tt, htt⟩ : ∃ t, LabC.textV x2 x3 = t := ⟨_, rfl⟩
          obtain ⟨dg, hdg⟩ : ∃ t, LabC.digB x4 = t := ⟨_, rfl⟩
          have hfz : tf.size ≤ 5 := by rw [← htf]; exact textV_size x0 x1
          have htz : tt.size ≤ 5 := by rw [← htt]; exact textV_size x2 x3
          have hdz : dg.size ≤ 1 := by rw [← hdg]; exact Nat.le_of_eq (digB_size x4)
          have HTF := Lib.hid (show ∀ w : World, Calls Tryd.prog 13 #[.agg #[.int .i64 x0, .int .i64 x1]] w fun e w' => e = .returned (.string tf) ∧ Below w.heap.size w w' from fun w => by rw [← htf]; exact LabC.ts_w x0 x1 w)
          have HTT := Lib.hid (show ∀ w : World, Calls Tryd.prog 13 #[.agg #[.int .i64 x2, .int .i64 x3]] w fun e w' => e = .returned (.string tt) ∧ Below w.heap.size w w' from fun w => by rw [← htt]; exact LabC.ts_w x2 x3 w)
          have HTD := Lib.hid (show ∀ w : World, Calls Tryd.prog 14 #[.int .i64 x4] w fun e w' => e = .returned (.string dg) ∧ Below w.heap.size w w' from fun w => by rw [← hdg]; exact LabC.dec9 x4 w hr1 hr9)
          have HCat := Lib.hid (show ((((((Y ++ (⟨#[112, 97, 105, 114, 32]⟩ : ByteArray)) ++ tf) ++ (⟨#[32]⟩ : ByteArray)) ++ tt) ++ (⟨#[32]⟩ : ByteArray)) ++ dg) ++ (⟨#[10]⟩ : ByteArray) = Z ++ joinB ((P.map pairLn).take (k + 1)) from by
            rw [joinB_take (x := pairLn ((x0, x1), (x2, x3), x4)) (by rw [List.getElem?_map, HX.out]; rfl), ← ByteArray.append_assoc, ← HYk.out, ← pair_cat, ← htf, ← htt, ← hdg])
          have pa0 := fun w : World => run_string_add_sum (P := Tryd.prog) w (Y) (⟨#[112, 97, 105, 114, 32]⟩) (by have hq : (⟨#[112, 97, 105, 114, 32]⟩ : ByteArray).size = 5 := rfl; omega)
          have pz0 : (Y ++ (⟨#[112, 97, 105, 114, 32]⟩ : ByteArray)).size ≤ 405 := by rw [ByteArray.size_append]; have hq : (⟨#[112, 97, 105, 114, 32]⟩ : ByteArray).size = 5 := rfl; omega
          have pa1 := fun w : World => run_string_add_sum (P := Tryd.prog) w (Y ++ (⟨#[112, 97, 105, 114, 32]⟩ : ByteArray)) (tf) (by skip; omega)
          have pz1 : ((Y ++ (⟨#[112, 97, 105, 114, 32]⟩ : ByteArray)) ++ tf).size ≤ 410 := by rw [ByteArray.size_append]; skip; omega
          have pa2 := fun w : World => run_string_add_sum (P := Tryd.prog) w ((Y ++ (⟨#[112, 97, 105, 114, 32]⟩ : ByteArray)) ++ tf) (⟨#[32]⟩) (by have hq : (⟨#[32]⟩ : ByteArray).size = 1 := rfl; omega)
          have pz2 : (((Y ++ (⟨#[112, 97, 105, 114, 32]⟩ : ByteArray)) ++ tf) ++ (⟨#[32]⟩ : ByteArray)).size ≤ 411 := by rw [ByteArray.size_append]; have hq : (⟨#[32]⟩ : ByteArray).size = 1 := rfl; omega
          have pa3 := fun w : World => run_string_add_sum (P := Tryd.prog) w (((Y ++ (⟨#[112, 97, 105, 114, 32]⟩ : ByteArray)) ++ tf) ++ (⟨#[32]⟩ : ByteArray)) (tt) (by skip; omega)
          have pz3 : ((((Y ++ (⟨#[112, 97, 105, 114, 32]⟩ : ByteArray)) ++ tf) ++ (⟨#[32]⟩ : ByteArray)) ++ tt).size ≤ 416 := by rw [ByteArray.size_append]; skip; omega
          have pa4 := fun w : World => run_string_add_sum (P := Tryd.prog) w ((((Y ++ (⟨#[112, 97, 105, 114, 32]⟩ : ByteArray)) ++ tf) ++ (⟨#[32]⟩ : ByteArray)) ++ tt) (⟨#[32]⟩) (by have hq : (⟨#[32]⟩ : ByteArray).size = 1 := rfl; omega)
          have pz4 : (((((Y ++ (⟨#[112, 97, 105, 114, 32]⟩ : ByteArray)) ++ tf) ++ (⟨#[32]⟩ : ByteArray)) ++ tt) ++ (⟨#[32]⟩ : ByteArray)).size ≤ 417 := by rw [ByteArray.size_append]; have hq : (⟨#[32]⟩ : ByteArray).size = 1 := rfl; omega
          have pa5 := fun w : World => run_string_add_sum (P := Tryd.prog) w (((((Y ++ (⟨#[112, 97, 105, 114, 32]⟩ : ByteArray)) ++ tf) ++ (⟨#[32]⟩ : ByteArray)) ++ tt) ++ (⟨#[32]⟩ : ByteArray)) (dg) (by skip; omega)
          have pz5 : ((((((Y ++ (⟨#[112, 97, 105, 114, 32]⟩ : ByteArray)) ++ tf) ++ (⟨#[32]⟩ : ByteArray)) ++ tt) ++ (⟨#[32]⟩ : ByteArray)) ++ dg).size ≤ 418 := by rw [ByteArray.size_append]; skip; omega
          have pa6 := fun w : World => run_string_add_sum (P := Tryd.prog) w ((((((Y ++ (⟨#[112, 97, 105, 114, 32]⟩ : ByteArray)) ++ tf) ++ (⟨#[32]⟩ : ByteArray)) ++ tt) ++ (⟨#[32]⟩ : ByteArray)) ++ dg) (⟨#[10]⟩) (by have hq : (⟨#[10]⟩ : ByteArray).size = 1 := rfl; omega)
          have pz6 : (((((((Y ++ (⟨#[112, 97, 105, 114, 32]⟩ : ByteArray)) ++ tf) ++ (⟨#[32]⟩ : ByteArray)) ++ tt) ++ (⟨#[32]⟩ : ByteArray)) ++ dg) ++ (⟨#[10]⟩ : ByteArray)).size ≤ 419 := by rw [ByteArray.size_append]; have hq : (⟨#[10]⟩ : ByteArray).size = 1 := rfl; omega
          clear hB hx hu hr hg htf htt hdg
          go_wp2_with fail
          refine wp_region_held_drew (S := (fun V => Below (wr).heap.size (wr) V)) (by kernel_rfl) ((Below.refl _ _).drew) (fun hHeld => ?_)
          refine tk 0 hHeld ?_
          refine tk 1 hHeld ?_
          refine tk 2 hHeld ?_
          refine tk 3 hHeld ?_ (hy := fun w hSw => by (try dsimp only at hSw); have k0 := (hSw.cell (p := ⟨W.heap.size, 1, none⟩) Y0.out.lt).trans (Y0.out.at_ 1 rfl); clear hSw; go_simp; try with_reducible rfl)
          refine tk 4 hHeld ?_
          refine tk 5 hHeld ?_
          refine tk 6 hHeld ?_
          refine tk 7 hHeld ?_ (hy := fun w hSw => by (try dsimp only at hSw); have k0 := (hSw.cell (p := ⟨g, o + k * 5, none⟩) HG.out).trans e0; have k1 := (hSw.cell (p := ⟨g, o + k * 5 + 1, none⟩) HG.out).trans e1; clear hSw; go_simp; try with_reducible rfl)
          refine tk 11 hHeld ?_
          refine tk 12 hHeld ?_ (hy := fun w hSw => by (try dsimp only at hSw); have k0 := (hSw.cell (p := ⟨W.heap.size, 1, none⟩) Y0.out.lt).trans (Y0.out.at_ 1 rfl); clear hSw; go_simp; try with_reducible rfl)
          refine tk 13 hHeld ?_
          refine tk 14 hHeld ?_
          refine tk 15 hHeld ?_
          refine tk 16 hHeld ?_ (hy := fun w hSw => by (try dsimp only at hSw); have k0 := (hSw.cell (p := ⟨g, o + k * 5 + 2, none⟩) HG.out).trans e2; have k1 := (hSw.cell (p := ⟨g, o + k * 5 + 3, none⟩) HG.out).trans e3; clear hSw; go_simp; try with_reducible rfl)
          refine tk 20 hHeld ?_
          refine tk 21 hHeld ?_ (hy := fun w hSw => by (try dsimp only at hSw); have k0 := (hSw.cell (p := ⟨W.heap.size, 1, none⟩) Y0.out.lt).trans (Y0.out.at_ 1 rfl); clear hSw; go_simp; try with_reducible rfl)
          refine tk 22 hHeld ?_
          refine tk 23 hHeld ?_
          refine tk 24 hHeld ?_
          refine tk 25 hHeld ?_ (hy := fun w hSw => by (try dsimp only at hSw); have k0 := (hSw.cell (p := ⟨g, o + k * 5 + 4, none⟩) HG.out).trans e4; clear hSw; go_simp; try with_reducible rfl)
          refine rd1 8 (fun K hK => ?_)
          go_simp
          go_at_call 13
          refine (HTF.out _).mono ?_
          rintro e w31 ⟨rfl, hb⟩
          refine hK.out _ _ (hHeld.trans (hb.mono hHeld.size)) (fun hHeld => ?_)
          clear hK K hb
          refine tk 9 hHeld ?_
          refine tk 10 hHeld ?_
          refine rd1 17 (fun K hK => ?_)
          go_simp
          go_at_call 13
          refine (HTT.out _).mono ?_
          rintro e w32 ⟨rfl, hb⟩
          refine hK.out _ _ (hHeld.trans (hb.mono hHeld.size)) (fun hHeld => ?_)
          clear hK K hb
          refine tk 18 hHeld ?_
          refine tk 19 hHeld ?_
          refine rd1 26 (fun K hK => ?_)
          go_simp
          go_at_call 14
          refine (HTD.out _).mono ?_
          rintro e w33 ⟨rfl, hb⟩
          refine hK.out _ _ (hHeld.trans (hb.mono hHeld.size)) (fun hHeld => ?_)
          clear hK K hb
          refine tk 27 hHeld ?_
          refine tk 28 hHeld ?_
          refine tk 29 hHeld ?_
          refine rd0 ?_
          have HF := Lib.hid hHeld
          clear hHeld
          have HB5 := Lib.hid (HB.out.trans (HF.out.mono hsz))
          clear HF e0 e1 e2 e3 e4 q1
          go_wp2
          go_roundw
          case rel => exact ⟨k + 1, _, by omega, by go_num, rfl, HCat, HB5.out⟩
          case measure => simp [intOf]; omega
        · have hdl : decide ((k : Int) < (P.length : Int)) = false := decide_eq_false (by omega)
          have HYc := Lib.hid (show Y = joinB (C.map nodeLn) ++ joinB (P.map pairLn) from by rw [HYk.out, HZc.out, List.take_of_length_le (by rw [List.length_map]; omega)])
          clear hB
          go_wp2
          go_loopw [3, 7] (fun s i wr => ∃ (k : Nat) (X : ByteArray), k ≤ Q.length ∧ i = .int .i64 k ∧ s = .string X ∧ Hid (X = Y ++ joinB ((Q.map quotaLn).take k)) ∧ Below v1.heap.size v1 wr) (fun _ i _ => Q.length - (intOf i).toNat)
          case atStart => exact ⟨0, _, Nat.zero_le _, rfl, rfl, Lib.hid (by rw [joinB_zero, app_empty]), HB.out⟩
          case round =>
            clear q1
            obtain ⟨k, X, hk, rfl, rfl, HXk, hB⟩ := hrel
            have HB := Lib.hid hB
            have hsz := hB.size
            have hXs : X.size ≤ 720 := by
              rw [HXk.out, ByteArray.size_append]
              have := joinB_take_size (L := Q.map quotaLn) k quotas_mem
              omega
            have Y0 := Lib.hid (Z0.out.call hB)
            have q2 := Y0.out.at_ 2 rfl
            have q3 := Y0.out.at_ 3 rfl
            by_cases hlt : k < Q.length
            · have hdl : decide ((k : Int) < (Q.length : Int)) = true := decide_eq_true (by omega)
              obtain ⟨⟨⟨x0, x1⟩, x2⟩, hx⟩ := el_some hlt
              have HX := Lib.hid hx
              obtain ⟨hr1, hr9⟩ := HQ9.out k _ hx
              obtain ⟨g, o, us, hgo, hg, hu, hr⟩ := (rd_mv R_Quota_ok HQ1.out hB).at_ hx
              subst hgo
              obtain rfl := rd_Quota hr
              have e0 : wr.cell? ⟨g, o + k * 3, none⟩ = some (.int .i64 x0) := by simpa [size_QuotaS, Nat.add_assoc] using hu 0 _ rfl
              have e1 : wr.cell? ⟨g, o + k * 3 + 1, none⟩ = some (.int .i64 x1) := by simpa [size_QuotaS, Nat.add_assoc] using hu 1 _ rfl
              have e2 : wr.cell? ⟨g, o + k * 3 + 2, none⟩ = some (.int .i64 x2) := by simpa [size_QuotaS, Nat.add_assoc] using hu 2 _ rfl
              have HG := Lib.hid hg
              have hi0 : (0 : Int) ≤ (k : Int) := Int.natCast_nonneg _
              have hi1 : (k : Int) < (Q.length : Int) := by omega
              obtain ⟨tf, htf⟩ : ∃ t, LabC.textV x0 x1 = t := ⟨_, rfl⟩
              obtain ⟨dg, hdg⟩ : ∃ t, LabC.digB x2 = t := ⟨_, rfl⟩
              have hfz : tf.size ≤ 5 := by rw [← htf]; exact textV_size x0 x1
              have hdz : dg.size ≤ 1 := by rw [← hdg]; exact Nat.le_of_eq (digB_size x2)
              have HTF := Lib.hid (show ∀ w : World, Calls Tryd.prog 13 #[.agg #[.int .i64 x0, .int .i64 x1]] w fun e w' => e = .returned (.string tf) ∧ Below w.heap.size w w' from fun w => by rw [← htf]; exact LabC.ts_w x0 x1 w)
              have HTD := Lib.hid (show ∀ w : World, Calls Tryd.prog 14 #[.int .i64 x2] w fun e w' => e = .returned (.string dg) ∧ Below w.heap.size w w' from fun w => by rw [← hdg]; exact LabC.dec9 x2 w hr1 hr9)
              have HCat := Lib.hid (show ((((X ++ (⟨#[113, 117, 111, 116, 97, 32]⟩ : ByteArray)) ++ tf) ++ (⟨#[32]⟩ : ByteArray)) ++ dg) ++ (⟨#[10]⟩ : ByteArray) = Y ++ joinB ((Q.map quotaLn).take (k + 1)) from by
                rw [joinB_take (x := quotaLn ((x0, x1), x2)) (by rw [List.getElem?_map, HX.out]; rfl), ← ByteArray.append_assoc, ← HXk.out, ← quota_cat, ← htf, ← hdg])
              have ua0 := fun w : World => run_string_add_sum (P := Tryd.prog) w (X) (⟨#[113, 117, 111, 116, 97, 32]⟩) (by have hq : (⟨#[113, 117, 111, 116, 97, 32]⟩ : ByteArray).size = 6 := rfl; omega)
              have uz0 : (X ++ (⟨#[113, 117, 111, 116, 97, 32]⟩ : ByteArray)).size ≤ 726 := by rw [ByteArray.size_append]; have hq : (⟨#[113, 117, 111, 116, 97, 32]⟩ : ByteArray).size = 6 := rfl; omega
              have ua1 := fun w : World => run_string_add_sum (P := Tryd.prog) w (X ++ (⟨#[113, 117, 111, 116, 97, 32]⟩ : ByteArray)) (tf) (by skip; omega)
              have uz1 : ((X ++ (⟨#[113, 117, 111, 116, 97, 32]⟩ : ByteArray)) ++ tf).size ≤ 731 := by rw [ByteArray.size_append]; skip; omega
              have ua2 := fun w : World => run_string_add_sum (P := Tryd.prog) w ((X ++ (⟨#[113, 117, 111, 116, 97, 32]⟩ : ByteArray)) ++ tf) (⟨#[32]⟩) (by have hq : (⟨#[32]⟩ : ByteArray).size = 1 := rfl; omega)
              have uz2 : (((X ++ (⟨#[113, 117, 111, 116, 97, 32]⟩ : ByteArray)) ++ tf) ++ (⟨#[32]⟩ : ByteArray)).size ≤ 732 := by rw [ByteArray.size_append]; have hq : (⟨#[32]⟩ : ByteArray).size = 1 := rfl; omega
              have ua3 := fun w : World => run_string_add_sum (P := Tryd.prog) w (((X ++ (⟨#[113, 117, 111, 116, 97, 32]⟩ : ByteArray)) ++ tf) ++ (⟨#[32]⟩ : ByteArray)) (dg) (by skip; omega)
              have uz3 : ((((X ++ (⟨#[113, 117, 111, 116, 97, 32]⟩ : ByteArray)) ++ tf) ++ (⟨#[32]⟩ : ByteArray)) ++ dg).size ≤ 733 := by rw [ByteArray.size_append]; skip; omega
              have ua4 := fun w : World => run_string_add_sum (P := Tryd.prog) w ((((X ++ (⟨#[113, 117, 111, 116, 97, 32]⟩ : ByteArray)) ++ tf) ++ (⟨#[32]⟩ : ByteArray)) ++ dg) (⟨#[10]⟩) (by have hq : (⟨#[10]⟩ : ByteArray).size = 1 := rfl; omega)
              have uz4 : (((((X ++ (⟨#[113, 117, 111, 116, 97, 32]⟩ : ByteArray)) ++ tf) ++ (⟨#[32]⟩ : ByteArray)) ++ dg) ++ (⟨#[10]⟩ : ByteArray)).size ≤ 734 := by rw [ByteArray.size_append]; have hq : (⟨#[10]⟩ : ByteArray).size = 1 := rfl; omega
              clear hB hx hu hr hg htf hdg q3
              go_wp2_with fail
              refine wp_region_held_drew (S := (fun V => Below (wr).heap.size (wr) V)) (by kernel_rfl) ((Below.refl _ _).drew) (fun hHeld => ?_)
              refine tk 0 hHeld ?_
              refine tk 1 hHeld ?_
              refine tk 2 hHeld ?_
              refine tk 3 hHeld ?_ (hy := fun w hSw => by (try dsimp only at hSw); have k0 := (hSw.cell (p := ⟨W.heap.size, 2, none⟩) Y0.out.lt).trans (Y0.out.at_ 2 rfl); clear hSw; go_simp; try with_reducible rfl)
              refine tk 4 hHeld ?_
              refine tk 5 hHeld ?_
              refine tk 6 hHeld ?_
              refine tk 7 hHeld ?_ (hy := fun w hSw => by (try dsimp only at hSw); have k0 := (hSw.cell (p := ⟨g, o + k * 3, none⟩) HG.out).trans e0; have k1 := (hSw.cell (p := ⟨g, o + k * 3 + 1, none⟩) HG.out).trans e1; clear hSw; go_simp; try with_reducible rfl)
              refine tk 11 hHeld ?_
              refine tk 12 hHeld ?_ (hy := fun w hSw => by (try dsimp only at hSw); have k0 := (hSw.cell (p := ⟨W.heap.size, 2, none⟩) Y0.out.lt).trans (Y0.out.at_ 2 rfl); clear hSw; go_simp; try with_reducible rfl)
              refine tk 13 hHeld ?_
              refine tk 14 hHeld ?_
              refine tk 15 hHeld ?_
              refine tk 16 hHeld ?_ (hy := fun w hSw => by (try dsimp only at hSw); have k0 := (hSw.cell (p := ⟨g, o + k * 3 + 2, none⟩) HG.out).trans e2; clear hSw; go_simp; try with_reducible rfl)
              refine rd1 8 (fun K hK => ?_)
              go_simp
              go_at_call 13
              refine (HTF.out _).mono ?_
              rintro e w31 ⟨rfl, hb⟩
              refine hK.out _ _ (hHeld.trans (hb.mono hHeld.size)) (fun hHeld => ?_)
              clear hK K hb
              refine tk 9 hHeld ?_
              refine tk 10 hHeld ?_
              refine rd1 17 (fun K hK => ?_)
              go_simp
              go_at_call 14
              refine (HTD.out _).mono ?_
              rintro e w33 ⟨rfl, hb⟩
              refine hK.out _ _ (hHeld.trans (hb.mono hHeld.size)) (fun hHeld => ?_)
              clear hK K hb
              refine tk 18 hHeld ?_
              refine tk 19 hHeld ?_
              refine tk 20 hHeld ?_
              refine rd0 ?_
              have HF := Lib.hid hHeld
              clear hHeld
              have HB5 := Lib.hid (HB.out.trans (HF.out.mono hsz))
              clear HF e0 e1 e2 q2
              go_wp2
              go_roundw
              case rel => exact ⟨k + 1, _, by omega, by go_num, rfl, HCat, HB5.out⟩
              case measure => simp [intOf]; omega
            · have hdl : decide ((k : Int) < (Q.length : Int)) = false := decide_eq_false (by omega)
              obtain ⟨hh1, hh9⟩ := HH9.out
              obtain ⟨dg, hdg⟩ : ∃ t, LabC.digB hf = t := ⟨_, rfl⟩
              have hdz : dg.size ≤ 1 := by rw [← hdg]; exact Nat.le_of_eq (digB_size hf)
              have HTD := Lib.hid (show Calls Tryd.prog 14 #[.int .i64 hf] wr fun e w' => e = .returned (.string dg) ∧ Below wr.heap.size wr w' from by rw [← hdg]; exact LabC.dec9 hf wr hh1 hh9)
              have HCat := Lib.hid (show ((X ++ (⟨#[104, 97, 108, 102, 32]⟩ : ByteArray)) ++ dg) ++ (⟨#[10]⟩ : ByteArray) = M from by
                rw [HE.out, ← hdg, half_cat, HXk.out, HYc.out, List.take_of_length_le (by rw [List.length_map]; omega)]; rfl)
              have va0 := fun w : World => run_string_add_sum (P := Tryd.prog) w (X) (⟨#[104, 97, 108, 102, 32]⟩) (by have hq : (⟨#[104, 97, 108, 102, 32]⟩ : ByteArray).size = 5 := rfl; omega)
              have vz0 : (X ++ (⟨#[104, 97, 108, 102, 32]⟩ : ByteArray)).size ≤ 725 := by rw [ByteArray.size_append]; have hq : (⟨#[104, 97, 108, 102, 32]⟩ : ByteArray).size = 5 := rfl; omega
              have va1 := fun w : World => run_string_add_sum (P := Tryd.prog) w (X ++ (⟨#[104, 97, 108, 102, 32]⟩ : ByteArray)) (dg) (by skip; omega)
              have vz1 : ((X ++ (⟨#[104, 97, 108, 102, 32]⟩ : ByteArray)) ++ dg).size ≤ 726 := by rw [ByteArray.size_append]; skip; omega
              have va2 := fun w : World => run_string_add_sum (P := Tryd.prog) w ((X ++ (⟨#[104, 97, 108, 102, 32]⟩ : ByteArray)) ++ dg) (⟨#[10]⟩) (by have hq : (⟨#[10]⟩ : ByteArray).size = 1 := rfl; omega)
              have vz2 : (((X ++ (⟨#[104, 97, 108, 102, 32]⟩ : ByteArray)) ++ dg) ++ (⟨#[10]⟩ : ByteArray)).size ≤ 727 := by rw [ByteArray.size_append]; have hq : (⟨#[10]⟩ : ByteArray).size = 1 := rfl; omega
              clear hB hdg
              go_wp2_with fail
              refine HTD.out.mono ?_
              rintro e w6 ⟨rfl, hb6⟩
              have HB6 := Lib.hid (HB.out.trans (hb6.mono hsz))
              clear hb6 q2 q3
              go_wp2
              go_ret
              exact ⟨by rw [← HCat.out]; rfl, HB1.out.trans (HB6.out.mono hz1)⟩
end Go.Proofs.YtdghcjlgmajffaaDoor.RepC
end
section
namespace Go.Proofs.YtdghcjlgmajffaaDoor.ShelfC
open Go.Shelf
def Tryd.lays169_ren : Go.Shelf.Ren := ⟨fun | 169 => 21 | n => n, fun | 70 => 53 | 9 => 9 | 0 => 0 | 72 => 56 | 37 => 54 | 127 => 85 | 3 => 3 | 5 => 5 | n => n, fun | n => n⟩
theorem Tryd.lays169 : Go.Proofs.Lays.n169 Tryd.prog Tryd.lays169_ren := {
  mixed := by kernel_rfl
  f169 := Tryd.func21.trans (congrArg some (by kernel_rfl))
  t0 := Tryd.underlying0
  a0 := Tryd.isAgg0
  z0 := Tryd.sizeOf0
  v0 := Tryd.zeroValue0
  t3 := Tryd.underlying3
  a3 := Tryd.isAgg3
  z3 := Tryd.sizeOf3
  v3 := Tryd.zeroValue3
  t9 := Tryd.underlying9
  a9 := Tryd.isAgg9
  z9 := Tryd.sizeOf9
  v9 := Tryd.zeroValue9
  t37 := Tryd.underlying54
  a37 := Tryd.isAgg54
  z37 := Tryd.sizeOf54
  v37 := Tryd.zeroValue54
  t70 := Tryd.underlying53
  a70 := Tryd.isAgg53
  z70 := Tryd.sizeOf53
  v70 := Tryd.zeroValue53
  t72 := Tryd.underlying56
  a72 := Tryd.isAgg56
  z72 := Tryd.sizeOf56
  v72 := Tryd.zeroValue56
  t127 := Tryd.underlying85
  a127 := Tryd.isAgg85
  z127 := Tryd.sizeOf85
  v127 := Tryd.zeroValue85 }
theorem Tryd.Builder_Extra_169 : Builder.Extra Tryd.prog Tryd.lays169_ren := {
  sizeBuilder := by kernel_rfl
  liesBuilder := by kernel_rfl
  t5 := Tryd.underlying5
  a5 := Tryd.isAgg5
  z5 := Tryd.sizeOf5
  v5 := Tryd.zeroValue5
  infoByte := by kernel_rfl
  cellsByte := by kernel_rfl
  sizeByte := by kernel_rfl
  neB5 := by decide }
open Go.RowKit in
theorem Tryd.Builder_String_any (B b : Nat) (l : List UInt8) (w : World) (h : Lib.IsBuilder 56 5 B b (Lib.byteCells l) w) (hBw : B ≤ w.heap.size) :
    Calls Tryd.prog 21 #[.pointer (some ⟨b, 0, none⟩)] w fun e w' => e = .returned (.string ⟨l.toArray⟩) ∧ Below B w w' := Any.Builder_String_any Tryd.lays169 Tryd.Builder_Extra_169 B b l w h hBw
def Tryd.laysSlC25_f67_ren : Go.Shelf.Ren := ⟨fun | 5 => 67 | 7 => 75 | n => n, fun | 22 => 2 | 3 => 3 | 4 => 4 | n => n, fun | n => n⟩
theorem Tryd.laysSlC25_f67 : Go.Proofs.SlLaysC2.n5 Tryd.prog Tryd.laysSlC25_f67_ren := {
  mixed := by kernel_rfl
  f5 := ⟨Tryd.f67.name, by decide, Tryd.func67.trans (congrArg some (by kernel_rfl))⟩
  f7 := ⟨Tryd.f75.name, by decide, Tryd.func75.trans (congrArg some (by kernel_rfl))⟩
  t3 := Tryd.underlying3
  a3 := Tryd.isAgg3
  z3 := Tryd.sizeOf3
  v3 := Tryd.zeroValue3
  t4 := Tryd.underlying4
  a4 := Tryd.isAgg4
  z4 := Tryd.sizeOf4
  v4 := Tryd.zeroValue4
  t22 := Tryd.underlying2
  a22 := Tryd.isAgg2
  z22 := Tryd.sizeOf2
  v22 := Tryd.zeroValue2 }
open Go.Lib in
theorem Tryd.cmp_Compare_int (x y : Int) (w : World) :
    Calls Tryd.prog 67 #[.int .i64 x, .int .i64 y] w fun e w' => e = .returned (.int .i64 (Lib.compareInt x y)) ∧ w' = w := AnyG.cmp_Compare_int Tryd.laysSlC25_f67 x y w
end Go.Proofs.YtdghcjlgmajffaaDoor.ShelfC
end
section
namespace Go.Proofs.YtdghcjlgmajffaaDoor.BldC
open Go.RowKit
set_option linter.unusedVariables false
theorem sizeB : (Tryd.prog.info? 56).map (·.size) = some 2 := by kernel_rfl
theorem liesB : liesAt Tryd.prog Tryd.prog.depth 56 (2 / Tryd.prog.cellsOf 56) 0 56 1 = true := by kernel_rfl
theorem byteI : (Tryd.prog.info? 5).map (fun i => (i.zero, i.size, i.bytes)) = some (some (.int .u8 0), 1, 1) := by kernel_rfl
set_option maxHeartbeats 1000000 in
set_option maxRecDepth 100000 in
theorem check_used (b : Nat) (w : World) (h0 : w.cell? ⟨b, 0, none⟩ = some (.pointer (some ⟨b, 0, none⟩))) :
    Calls Tryd.prog 40 #[.pointer (some ⟨b, 0, none⟩)] w fun e w' => e = .returned (.tuple #[]) ∧ w' = w := by
  obtain ⟨j, hj, _⟩ := Option.map_eq_some_iff.1 sizeB
  go_enter Tryd.func40, Tryd.ntmps40
  go_wp2
  rw [Lib.run_neq_ptr_same w _ Tryd.underlying53 hj]
  go_wp2
  go_end0
  exact ⟨rfl, rfl⟩
set_option maxHeartbeats 1000000 in
set_option maxRecDepth 100000 in
theorem check_fresh (b : Nat) (w : World) (h0 : w.cell? ⟨b, 0, none⟩ = some (.pointer none)) (hsh : w.shape? b = some (56, 2)) (hfz : w.frozen? ⟨b, 0, none⟩ = false) :
    Calls Tryd.prog 40 #[.pointer (some ⟨b, 0, none⟩)] w fun e w' => e = .returned (.tuple #[]) ∧ w' = w.setCell ⟨b, 0, none⟩ (.pointer (some ⟨b, 0, none⟩)) := by
  obtain ⟨j, hj, hjs⟩ := Option.map_eq_some_iff.1 sizeB
  go_enter Tryd.func40, Tryd.ntmps40
  go_wp2
  rw [Lib.run_to_unsafe w ⟨b, 0, none⟩ Tryd.underlying53 Tryd.underlying99 hj (by rw [hjs]; decide) hsh (Nat.zero_lt_succ 1)]
  simp only [Result.andThen]
  rw [Oper.upon_value]
  go_wp2
  rw [run_callFunc_extern Tryd.func59 (by kernel_rfl) (by kernel_rfl) (by kernel_rfl) (e := Extern.AbiNoEscape.same) (by kernel_rfl)]
  rw [Lib.run_noEscape]
  simp only [Result.andThen]
  rw [Oper.upon_value]
  go_wp2
  rw [Lib.run_from_unsafe w ⟨b, 0, none⟩ Tryd.underlying99 Tryd.underlying53 hj hsh liesB]
  simp only [Result.andThen]
  rw [Oper.upon_value]
  go_wp2
  go_end0
  exact ⟨rfl, rfl⟩
theorem check_any (B b : Nat) (bs : List Value) (w : World) (h : Lib.IsBuilder 56 5 B b bs w) :
    Calls Tryd.prog 40 #[.pointer (some ⟨b, 0, none⟩)] w fun e w' => e = .returned (.tuple #[]) ∧ (Lib.BuilderAt 56 5 B b (.pointer (some ⟨b, 0, none⟩)) bs w' ∧ Below B w w') := by
  rcases h with h | h
  · refine (check_fresh b w h.cell0 h.shape h.frozen0).mono ?_
    rintro e w' ⟨rfl, rfl⟩
    exact ⟨rfl, h.used _, (Below.refl B w).setCell (p := ⟨b, 0, none⟩) h.1 _⟩
  · refine (check_used b w h.cell0).mono ?_
    rintro e w' ⟨rfl, rfl⟩
    exact ⟨rfl, h, Below.refl B _⟩
set_option maxHeartbeats 2000000 in
set_option maxRecDepth 100000 in
theorem write_any (B b : Nat) (bs : List Value) (s : ByteArray) (w : World) (h : Lib.IsBuilder 56 5 B b bs w) (hlen : bs.length + s.size ≤ 140737488355328) (hBw : B ≤ w.heap.size) :
    Calls Tryd.prog 19 #[.pointer (some ⟨b, 0, none⟩), .string s] w fun e w' => e = .returned (.tuple #[.int .i64 s.size, .nilIface]) ∧ (Lib.BuilderAt 56 5 B b (.pointer (some ⟨b, 0, none⟩)) (bs ++ Lib.strCells s) w' ∧ Below B w w') := by
  obtain ⟨i0, hi, hz0, hz1, hz2⟩ := info_parts byteI
  go_enter Tryd.func19, Tryd.ntmps19
  go_wp2_with (go_at_call 40; refine (check_any B b bs _ h).mono ?_)
  rintro e w1 ⟨rfl, h1, hb1⟩
  obtain ⟨hB, v, hbk, hown, hne⟩ := h1
  have c0 : w1.cell? ⟨b, 0, none⟩ = some (.pointer (some ⟨b, 0, none⟩)) := by rw [Lib.cell_of_heap hbk]; rfl
  have c1 : w1.cell? ⟨b, 1, none⟩ = some v := by rw [Lib.cell_of_heap hbk]; rfl
  go_wp2_with (at_builtin; refine Lib.wpList_append_own_string _ rfl _ _ 54 9 rfl B 5 i0 Tryd.underlying54 Tryd.underlying9 hi hz0 hz1 hz2 _ _ _ rfl hown s rfl ?c3 ?c4 ?c5 ?_)
  case c3 => unfold maxLen; omega
  case c4 => omega
  case c5 => have := hb1.size; omega
  intro v' w2 hown' hgrow _
  have hlt : b < w1.heap.size := by
    rcases Nat.lt_or_ge b w1.heap.size with h' | h'
    · exact h'
    · simp [Array.getElem?_eq_none h'] at hbk
  have hb2 : w2.heap[b]? = some (.cells #[.pointer (some ⟨b, 0, none⟩), v] 56 (0, 0)) := by
    rw [hgrow.block b hlt (fun e => hne e.symm)]
    exact hbk
  have d0 : w2.cell? ⟨b, 0, none⟩ = some (.pointer (some ⟨b, 0, none⟩)) := by rw [Lib.cell_of_heap hb2]; rfl
  have d1 : w2.cell? ⟨b, 1, none⟩ = some v := by rw [Lib.cell_of_heap hb2]; rfl
  have f1 : w2.frozen? ⟨b, 1, none⟩ = false := Lib.frozen_of_heap hb2 1
  obtain ⟨ao, n', cap, rfl⟩ : ∃ ao n' cap, v' = .slice ao n' cap := by
    rcases hown'.2 with ⟨hv, _⟩ | ⟨g, cap, cur, hv, _⟩
    · exact ⟨_, _, _, hv⟩
    · exact ⟨_, _, _, hv⟩
  go_wp2
  go_ret2
  refine ⟨rfl, ?_, ?_⟩
  · exact Lib.BuilderAt.put (T := 56) (e := 5) hB hb2 (bs' := bs ++ Lib.strCells s) (by simpa [Lib.strCells_length] using hown') (by decide)
  · exact (hb1.grown hgrow (by have := hb1.size; omega) (fun k hk => (hown.lt k hk).1)).setCell (p := ⟨b, 1, none⟩) hB _
theorem at_below {T e : TypeId} {B b : Nat} {p : Value} {bs : List Value} {W W' : World} (h : Lib.BuilderAt T e B b p bs W) (hb : Below W.heap.size W W') : Lib.BuilderAt T e B b p bs W' := by
  have hlt := h.lt
  obtain ⟨hB, v, hv, hown, hne⟩ := h
  exact ⟨hB, v, (hb.block b hlt).trans hv, hown.kept (row := none) ⟨hb.os, hb.tape, hb.output, hb.size, fun k hk _ => hb.block k hk⟩ (Classical.em _), hne⟩
theorem is_below {T e : TypeId} {B b : Nat} {bs : List Value} {W W' : World} (h : Lib.IsBuilder T e B b bs W) (hb : Below W.heap.size W W') : Lib.IsBuilder T e B b bs W' :=
  h.elim (fun x => .inl (at_below x hb)) (fun x => .inr (at_below x hb))
theorem cells_cat (a b : ByteArray) : Lib.strCells a ++ Lib.strCells b = Lib.strCells (a ++ b) := by
  rw [Lib.strCells_eq, Lib.strCells_eq, Lib.strCells_eq, ← Lib.byteCells_append]
  simp
theorem mk_str (s : ByteArray) : (⟨s.data.toList.toArray⟩ : ByteArray) = s := by cases s; simp
theorem str_any (B b : Nat) (s : ByteArray) (w : World) (h : Lib.IsBuilder 56 5 B b (Lib.strCells s) w) (hBw : B ≤ w.heap.size) :
    Calls Tryd.prog 21 #[.pointer (some ⟨b, 0, none⟩)] w fun e w' => e = .returned (.string s) ∧ Below B w w' :=
  (ShelfC.Tryd.Builder_String_any B b s.data.toList w (by rw [Lib.strCells_eq] at h; exact h) hBw).mono fun e w' h => ⟨by rw [h.1, mk_str], h.2⟩
end Go.Proofs.YtdghcjlgmajffaaDoor.BldC
end
