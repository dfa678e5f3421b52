/- The program's checkRunning: a contract. -/
import Derived.Test.YtjpkeofpcpaoaaaPImA
namespace Go.Proofs.Ytjpkeofpcpaoaaa.RepC
open Go.RowKit RowC ValC SpanC KeptC
set_option linter.unusedVariables false
set_option linter.unusedSimpArgs false

/-- the running jobs run now, on nodes cleared for them, no two on one -/
def RunR (C : List (List D_Label)) (L : List D_Job) (now : Int) : Prop := (∀ (i : Nat) (d : D_Job), L[i]? = some d → okT now d ∧ okNs C d) ∧ (usedL L).Nodup

set_option maxRecDepth 100000 in
set_option maxHeartbeats 3200000 in
theorem running_spec {C : List (List D_Label)} {L : List D_Job} {now : Int} {ca ja : Option Addr} {cc jc : Nat} {W : World} (hJ : JobsR L) (hC : RdSl (Sl R_Label) W W.heap.size C ca cc) (hL : RdSl R_Job W W.heap.size L ja jc) :
    Calls Try.prog 134 #[.agg #[.slice ca C.length cc, .slice ja L.length jc, .int .i64 now]] W (ResP (RunR C L now) 1 W) := by
  have hmf : ∀ (fn : Fn) (first cap : Array Value) (w : World), (Instr.makeFunc fn first cap).run Try.prog w = .ok (.func fn first cap) w := fun _ _ _ _ => rfl
  have HC := Lib.hid hC
  have HL := Lib.hid hL
  have HJR := Lib.hid hJ
  have hcn : C.length ≤ 9223372036854775807 := by have h1 := hC.1; have h2 := hC.2.1; unfold maxLen at h2; omega
  have hln : L.length ≤ 9223372036854775807 := by have h1 := hL.1; have h2 := hL.2.1; unfold maxLen at h2; omega
  clear hC hL hJ
  have HB0 := Lib.hid (show Below W.heap.size W ((W.alloc (.cells #[.slice ca C.length cc, .slice ja L.length jc, .int .i64 now] 65)).alloc (.cells #[.bool false, .bool false, .bool false, .bool false, .bool false, .bool false] 168)) from ((Below.refl _ _).alloc (Nat.le_refl _) _).alloc (by simp) _)
  have HP0 := Lib.hid ((Blk.new W 65 #[.slice ca C.length cc, .slice ja L.length jc, .int .i64 now]).alloc (.cells #[.bool false, .bool false, .bool false, .bool false, .bool false, .bool false] 168))
  have HU0 := Lib.hid (UsedB.new (w := W.alloc (.cells #[.slice ca C.length cc, .slice ja L.length jc, .int .i64 now] 65)) (t := 168))
  simp only [World.size_alloc] at HU0
  go_enter Try.func134, Try.ntmps134
  go_wp2
  go_loopw [11] (fun i wr => ∃ k : Nat, k ≤ L.length ∧ i = .int .i64 k ∧ Hid (∀ (j : Nat) (d : D_Job), j < k → L[j]? = some d → okT now d ∧ okNs C d) ∧ Hid ((usedL (L.take k)).Nodup) ∧ Hid (UsedB wr (W.heap.size + 1) (usedL (L.take k))) ∧ Below W.heap.size W wr ∧ Hid (Blk wr W.heap.size 65 #[.slice ca C.length cc, .slice ja L.length jc, .int .i64 now])) (fun i _ => L.length - (intOf i).toNat)
  case atStart => exact ⟨0, Nat.zero_le _, rfl, Lib.hid fun j d h => absurd h (Nat.not_lt_zero _), Lib.hid (by simp [usedL]), HU0, HB0.out, HP0⟩
  case round =>
    obtain ⟨k, hk, rfl, HOK, HND, HU, hB, HP⟩ := hrel
    have HB := Lib.hid hB
    have hsz := hB.size
    have p0 := HP.out.at_ 0 rfl
    have p1 := HP.out.at_ 1 rfl
    have p2 := HP.out.at_ 2 rfl
    by_cases hlt : k < L.length
    · have hdl : decide ((k : Int) < (L.length : Int)) = true := decide_eq_true (by omega)
      obtain ⟨⟨⟨x0, x1⟩, x2, x3, x4, x5, x6, x7, L0⟩, hx⟩ := el_some hlt
      have HX := Lib.hid hx
      have HJ := Lib.hid (show JobR x0 x1 x2 x3 x4 x5 x6 x7 L0 from (HJR.out.2 k hlt _ hx).1)
      obtain ⟨g, o, us, rfl, hg, hu, hr⟩ := HL.out.at_ hx
      obtain ⟨a0, c0, rfl, k_L0⟩ := rd_Job hr
      have e0 : wr.cell? ⟨g, o + k * 9, none⟩ = some (.int .i64 x0) := (hB.cell (p := ⟨g, o + k * 9, none⟩) hg).trans (by simpa [sizeq_JobS, Nat.add_assoc] using hu 0 _ rfl)
      have e1 : wr.cell? ⟨g, o + k * 9 + 1, none⟩ = some (.int .i64 x1) := (hB.cell (p := ⟨g, o + k * 9 + 1, none⟩) hg).trans (by simpa [sizeq_JobS, Nat.add_assoc] using hu 1 _ rfl)
      have e2 : wr.cell? ⟨g, o + k * 9 + 2, none⟩ = some (.int .i64 x2) := (hB.cell (p := ⟨g, o + k * 9 + 2, none⟩) hg).trans (by simpa [sizeq_JobS, Nat.add_assoc] using hu 2 _ rfl)
      have e3 : wr.cell? ⟨g, o + k * 9 + 3, none⟩ = some (.int .i64 x3) := (hB.cell (p := ⟨g, o + k * 9 + 3, none⟩) hg).trans (by simpa [sizeq_JobS, Nat.add_assoc] using hu 3 _ rfl)
      have e4 : wr.cell? ⟨g, o + k * 9 + 4, none⟩ = some (.int .i64 x4) := (hB.cell (p := ⟨g, o + k * 9 + 4, none⟩) hg).trans (by simpa [sizeq_JobS, Nat.add_assoc] using hu 4 _ rfl)
      have e5 : wr.cell? ⟨g, o + k * 9 + 5, none⟩ = some (.int .i64 x5) := (hB.cell (p := ⟨g, o + k * 9 + 5, none⟩) hg).trans (by simpa [sizeq_JobS, Nat.add_assoc] using hu 5 _ rfl)
      have e6 : wr.cell? ⟨g, o + k * 9 + 6, none⟩ = some (.int .i64 x6) := (hB.cell (p := ⟨g, o + k * 9 + 6, none⟩) hg).trans (by simpa [sizeq_JobS, Nat.add_assoc] using hu 6 _ rfl)
      have e7 : wr.cell? ⟨g, o + k * 9 + 7, none⟩ = some (.int .i64 x7) := (hB.cell (p := ⟨g, o + k * 9 + 7, none⟩) hg).trans (by simpa [sizeq_JobS, Nat.add_assoc] using hu 7 _ rfl)
      have e8 : wr.cell? ⟨g, o + k * 9 + 8, none⟩ = some (.slice a0 L0.length c0) := (hB.cell (p := ⟨g, o + k * 9 + 8, none⟩) hg).trans (by simpa [sizeq_JobS, Nat.add_assoc] using hu 8 _ rfl)
      have hi0 : (0 : Int) ≤ (k : Int) := Int.natCast_nonneg _
      have hi1 : (k : Int) < (L.length : Int) := by omega
      have hA : Below wr.heap.size wr (wr.alloc (.cells #[.int .i64 x0, .int .i64 x1, .int .i64 x2, .int .i64 x3, .int .i64 x4, .int .i64 x5, .int .i64 x6, .int .i64 x7, .slice a0 L0.length c0] 45)) := (Below.refl _ _).alloc (Nat.le_refl _) _
      have HK := Lib.hid k_L0
      have HU1 := Lib.hid (HU.out.call hA)
      have HP1 := Lib.hid (HP.out.call hA)
      have HB1 := Lib.hid (hB.trans (hA.mono hsz))
      have HJ1 := Lib.hid (Blk.new wr 45 #[.int .i64 x0, .int .i64 x1, .int .i64 x2, .int .i64 x3, .int .i64 x4, .int .i64 x5, .int .i64 x6, .int .i64 x7, .slice a0 L0.length c0])
      have hln0 : L0.length ≤ 9223372036854775807 := by have h1 := k_L0.1; have h2 := k_L0.2.1; unfold maxLen at h2; omega
      clear hB hx hu hr k_L0 hA
      have q0 := HP1.out.at_ 0 rfl
      have q2 := HP1.out.at_ 2 rfl
      by_cases h2 : x6 = 2
      rotate_left
      · -- it does not run
        have hs : (x6 != 2) = true := by simpa using h2
        have hnil : L0 = [] := List.eq_nil_of_length_eq_zero (HJ.out.2.2.2.2.2.2.2 h2).2
        have HNIL := Lib.hid hnil
        have HOK2 := Lib.hid (show ∀ (j : Nat) (d : D_Job), j < k + 1 → L[j]? = some d → okT now d ∧ okNs C d from fun j d hj hd => by
          by_cases e : j = k
          · subst e
            have := HX.out
            rw [hd] at this
            obtain rfl := Option.some.inj this
            exact ⟨fun h => absurd h h2, fun p n hn => by rw [show ndsOf ((x0, x1), x2, x3, x4, x5, x6, x7, L0) = L0 from rfl, HNIL.out] at hn; simp at hn⟩
          · exact HOK.out j d (by omega) hd)
        have HUE := Lib.hid (show usedL (L.take (k + 1)) = usedL (L.take k) from by rw [usedL_take HX.out, show ndsOf ((x0, x1), x2, x3, x4, x5, x6, x7, L0) = L0 from rfl, HNIL.out, List.append_nil])
        clear h2 hnil
        go_wp2
        go_roundw
        case rel => exact ⟨k + 1, by omega, by go_num, HOK2, Lib.hid (by rw [HUE.out]; exact HND.out), Lib.hid (by rw [HUE.out]; exact HU1.out), HB1.out, HP1⟩
        case measure => simp [intOf]; omega
      have hs : (x6 != 2) = false := by simpa using h2
      have HS2 := Lib.hid h2
      have hst := HJ.out.2.2.2.2.2.2.1 h2
      have hst7 := isB_io.1 hst.1
      have hst4 := isB_io.1 HJ.out.2.2.2.1
      have hw : IntKind.i64.wrap (x7 + x4) = x7 + x4 := IntWalk.i64_in _ (by omega)
      clear hst hst7 hst4 h2
      by_cases hg1 : x7 ≤ now
      rotate_left
      · have hgt : decide (x7 ≤ now) = false := decide_eq_false hg1
        have HN := Lib.hid (show ¬ RunR C L now from fun h => hg1 ((h.1 k _ HX.out).1 HS2.out).1)
        clear hg1
        go_wp2_with fail
        refine (must_no _ _).mono ?_
        rintro e w9 ⟨rfl, rfl⟩
        go_wp2
        refine ⟨rfl, ?_⟩
        exact resP_no HN.out HB1.out
      have hgt : decide (x7 ≤ now) = true := decide_eq_true hg1
      have HG1 := Lib.hid hg1
      clear hg1
      by_cases hg2 : now < x7 + x4
      rotate_left
      · have hgt2 : decide (now < x7 + x4) = false := decide_eq_false hg2
        have HN := Lib.hid (show ¬ RunR C L now from fun h => hg2 ((h.1 k _ HX.out).1 HS2.out).2)
        clear hg2
        go_wp2_with fail
        refine (must_no _ _).mono ?_
        rintro e w9 ⟨rfl, rfl⟩
        go_wp2
        refine ⟨rfl, ?_⟩
        exact resP_no HN.out HB1.out
      have hgt2 : decide (now < x7 + x4) = true := decide_eq_true hg2
      have HT := Lib.hid (show okT now ((x0, x1), x2, x3, x4, x5, x6, x7, L0) from fun _ => ⟨HG1.out, hg2⟩)
      clear hg2
      go_wp2_with fail
      refine (must_yes _ _).mono ?_
      rintro e w9 ⟨rfl, rfl⟩
      obtain ⟨wq, rfl⟩ : ∃ x, x = wr := ⟨_, rfl⟩
      have hzu : W.heap.size + 1 < wq.heap.size := HU.out.2.2
      have hj0 := HJ1.out.at_ 0 rfl
      have hj1 := HJ1.out.at_ 1 rfl
      have hj7 := HJ1.out.at_ 8 rfl
      go_wp2
      go_loopw [43] (fun i wr => ∃ q : Nat, q ≤ L0.length ∧ i = .int .i64 q ∧ Hid (∀ (p : Nat) n, p < q → L0[p]? = some n → okN1 C (x0, x1) n) ∧ Hid ((usedL (L.take k) ++ L0.take q).Nodup) ∧ Hid (UsedB wr (W.heap.size + 1) (usedL (L.take k) ++ L0.take q)) ∧ Below W.heap.size W wr ∧ Hid (Blk wr W.heap.size 65 #[.slice ca C.length cc, .slice (some ⟨g, o, none⟩) L.length jc, .int .i64 now])) (fun i _ => L0.length - (intOf i).toNat)
      case atStart => exact ⟨0, Nat.zero_le _, rfl, Lib.hid fun p n h => absurd h (Nat.not_lt_zero _), Lib.hid (by simpa using HND.out), Lib.hid (by simpa using HU1.out), HB1.out, HP1⟩
      case round =>
        obtain ⟨q, hq, rfl, HON, HND2, HU2, hB2, HP2⟩ := hrel
        have HK2 := Lib.hid (HK.out.below I_ok hB2)
        have HB2 := Lib.hid hB2
        have hsz2 := hB2.size
        clear e0 e1 e2 e3 e4 e5 e6 e7 e8 p0 p1 p2 q0 q2 hj0 hj1 hj7
        by_cases hlq : q < L0.length
        · have hdq : decide ((q : Int) < (L0.length : Int)) = true := decide_eq_true (by omega)
          obtain ⟨n, hn⟩ := el_some hlq
          have HN := Lib.hid hn
          have hN5 : 0 ≤ n ∧ n ≤ 5 := isB_io.1 ((HJ.out.2.2.2.2.2.2.1 HS2.out).2.2 q hlq n hn).1
          obtain ⟨m, rfl⟩ : ∃ m : Nat, n = (m : Int) := ⟨n.toNat, by omega⟩
          have hm6 : m < 6 := by omega
          obtain ⟨g1, o1, us, rfl, hg1, hu1, hr1⟩ := HK2.out.at_ hn
          obtain rfl : us = [_] := hr1
          have f0 : wr.cell? ⟨g1, o1 + q, none⟩ = some (.int .i64 (m : Int)) := by simpa [show I.size = 1 from rfl] using hu1 0 _ rfl
          have hiq0 : (0 : Int) ≤ (q : Int) := Int.natCast_nonneg _
          have hiq1 : (q : Int) < (L0.length : Int) := by omega
          have him0 : (0 : Int) ≤ (m : Int) := Int.natCast_nonneg _
          have him6 : (m : Int) < 6 := by omega
          have HC2 := Lib.hid ((HC.out.below (Sl_ok R_Label_ok) hB2).more (Sl_ok R_Label_ok) hsz2)
          clear hn hu1 hN5 hB2
          go_wp2_with fail
          refine (opens_spec (m := m) (by omega) HC2.out).mono ?_
          intro e w8 h
          obtain ⟨z, rfl, hz, hb⟩ := resB_elim h
          have HU3 := Lib.hid (HU2.out.call hb)
          have HP3 := Lib.hid (HP2.out.call hb)
          have HB3 := Lib.hid (HB2.out.trans (hb.mono hsz2))
          have HZ := Lib.hid hz
          clear h hz hb
          cases z with
          | false =>
            have HNo := Lib.hid (show ¬ RunR C L now from fun h => by have h1 := (h.1 k _ HX.out).2 q _ HN.out; have := HZ.out.2 h1; cases this)
            go_wp2_with fail
            refine (must_no _ _).mono ?_
            rintro e w9 ⟨rfl, rfl⟩
            go_wp2
            refine ⟨rfl, ?_⟩
            exact resP_no HNo.out HB3.out
          | true =>
            have HYes := Lib.hid (HZ.out.1 rfl)
            have hu6 := HU3.out.1 m hm6
            have hs6 := HU3.out.2.1 m
            by_cases hin : (m : Int) ∈ usedL (L.take k) ++ L0.take q
            · have hdi : decide ((m : Int) ∈ usedL (L.take k) ++ L0.take q) = true := decide_eq_true hin
              have HNo := Lib.hid (show ¬ RunR C L now from fun h => by
                have h1 := used_pre (q := q + 1) HX.out h.2
                rw [show ndsOf ((x0, x1), x2, x3, x4, x5, x6, x7, L0) = L0 from rfl, take_snoc HN.out, ← List.append_assoc] at h1
                exact (nodup_snoc.1 h1).2 hin)
              rw [hdi] at hu6
              clear hdi hin
              go_wp2_with fail
              refine (must_no _ _).mono ?_
              rintro e w9 ⟨rfl, rfl⟩
              go_wp2
              refine ⟨rfl, ?_⟩
              exact resP_no HNo.out HB3.out
            · have hdi : decide ((m : Int) ∈ usedL (L.take k) ++ L0.take q) = false := decide_eq_false hin
              have HND3 := Lib.hid (show (usedL (L.take k) ++ L0.take (q + 1)).Nodup from by rw [take_snoc HN.out, ← List.append_assoc]; exact nodup_snoc.2 ⟨HND2.out, hin⟩)
              have HON3 := Lib.hid (show ∀ (p : Nat) n, p < q + 1 → L0[p]? = some n → okN1 C (x0, x1) n from fun p n hp hn => by
                by_cases e : p = q
                · subst e
                  have := HN.out
                  rw [hn] at this
                  obtain rfl := Option.some.inj this
                  exact HYes.out
                · exact HON.out p n (by omega) hn)
              rw [hdi] at hu6
              clear hdi hin
              go_wp2_with fail
              refine (must_yes _ _).mono ?_
              rintro e w9 ⟨rfl, rfl⟩
              go_wp2
              go_roundw
              case rel => exact ⟨q + 1, by omega, by go_num, HON3, HND3, Lib.hid (by rw [take_snoc HN.out, ← List.append_assoc]; exact HU3.out.put hm6), HB3.out.setCell (p := ⟨W.heap.size + 1, m, none⟩) (by show W.heap.size ≤ W.heap.size + 1; omega) _, Lib.hid (HP3.out.far (by omega) _)⟩
              case measure => simp [intOf]; omega
        · have hdq : decide ((q : Int) < (L0.length : Int)) = false := decide_eq_false (by omega)
          have HE := Lib.hid (show L0.take q = L0 from List.take_of_length_le (by omega))
          have HOK2 := Lib.hid (show ∀ (j : Nat) (d : D_Job), j < k + 1 → L[j]? = some d → okT now d ∧ okNs C d from fun j d hj hd => by
            by_cases e : j = k
            · subst e
              have := HX.out
              rw [hd] at this
              obtain rfl := Option.some.inj this
              exact ⟨HT.out, fun p n hn => HON.out p n (by have := (List.getElem?_eq_some_iff.1 hn).1; have e2 : (ndsOf ((x0, x1), x2, x3, x4, x5, x6, x7, L0)).length = L0.length := rfl; omega) hn⟩
            · exact HOK.out j d (by omega) hd)
          have HND4 := Lib.hid (show (usedL (L.take (k + 1))).Nodup from by rw [usedL_take HX.out]; have h := HND2.out; rw [HE.out] at h; exact h)
          have HU4 := Lib.hid (show UsedB wr (W.heap.size + 1) (usedL (L.take (k + 1))) from by rw [usedL_take HX.out]; have h := HU2.out; rw [HE.out] at h; exact h)
          clear hB2
          go_wp2
          go_roundw
          case rel => exact ⟨k + 1, by omega, by go_num, HOK2, HND4, HU4, HB2.out, HP2⟩
          case measure => simp [intOf]; omega
    · have hdl : decide ((k : Int) < (L.length : Int)) = false := decide_eq_false (by omega)
      have HY := Lib.hid (show RunR C L now from ⟨fun i d hd => HOK.out i d (by have := el_lt hd; omega) hd, by have h := HND.out; rw [List.take_of_length_le (by omega)] at h; exact h⟩)
      clear hB
      go_wp2
      go_end0
      exact resP_yes HY.out HB.out
end Go.Proofs.Ytjpkeofpcpaoaaa.RepC
