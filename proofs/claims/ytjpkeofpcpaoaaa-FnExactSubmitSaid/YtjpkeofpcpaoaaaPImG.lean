/- The program's Submit: contracts. -/
import Derived.Test.YtjpkeofpcpaoaaaPImF
import Derived.Test.YtjpkeofpcpaoaaaPoolS
namespace Go.Proofs.Ytjpkeofpcpaoaaa.RepC
open Go.RowKit RowC ValC SpanC KeptC
set_option linter.unusedVariables false
set_option linter.unusedSimpArgs false

theorem wp_clear {C : List (List D_Label)} {L : List D_Job} {now : Int} {lo g : Nat} {w : World} (h : WP C L now lo g w) : ∃ ja jc ca cc, Blk w g 140 #[.slice ja L.length jc, .slice ca C.length cc, .int .i64 now] ∧ RdSl R_Job w w.heap.size L ja jc ∧ RdSl (Sl R_Label) w w.heap.size C ca cc := by
  obtain ⟨ca, cc, ja, jc, l1, h1, l2, h2, xs, Sf, ys, Sg, hG, hA, hB, _⟩ := h
  obtain ⟨a1, c1, e1, o1⟩ := hA.done
  obtain ⟨a2, c2, e2, o2⟩ := hB.done
  injection e1 with p1 p2 p3
  injection e2 with q1 q2 q3
  subst p1 p3 q1 q3
  have le1 := hA.le
  have le2 := hB.le
  exact ⟨ja, jc, ca, cc, hG, o1.rd R_Job_ok (fun k hk => by have := hk.2; omega), o2.rd (Sl_ok R_Label_ok) (fun k hk => by have := hk.2; omega)⟩
theorem okN1_at {C : List (List D_Label)} {l s : Int} {k : Nat} {x : List D_Label} (h : C[k]? = some x) : okN1 C (l, s) (k : Int) ↔ (l, s) ∈ x := by
  constructor
  · rintro ⟨_, y, hy, hm⟩
    rw [Int.toNat_natCast, h] at hy
    obtain rfl := Option.some.inj hy
    exact hm
  · intro hm
    have := el_lt h
    exact ⟨by omega, x, by rw [Int.toNat_natCast]; exact h, hm⟩
theorem cntC_mono (C : List (List D_Label)) (l s : Int) (k : Nat) : cntC (C.take k) l s ≤ cntC C l s := by
  unfold cntC
  have h : (C.take k ++ C.drop k).filter (fun x => decide ((l, s) ∈ x)) = C.filter (fun x => decide ((l, s) ∈ x)) := by rw [List.take_append_drop]
  rw [List.filter_append] at h
  rw [← h, List.length_append]
  omega

set_option maxRecDepth 100000 in
set_option maxHeartbeats 3200000 in
theorem hasnodes_spec {C : List (List D_Label)} {L : List D_Job} {now l s need : Int} {lo g : Nat} {W : World} (hc6 : C.length ≤ 6) (hn : 1 ≤ need ∧ need ≤ 6) (h : WP C L now lo g W) :
    Calls Try.prog 116 #[.pointer (some ⟨g, 0, none⟩), .agg #[.int .i64 l, .int .i64 s], .int .i64 need] W (ResB (need ≤ (cntC C l s : Int)) W) := by
  have hmf : ∀ (fn : Fn) (first cap : Array Value) (w : World), (Instr.makeFunc fn first cap).run Try.prog w = .ok (.func fn first cap) w := fun _ _ _ _ => rfl
  obtain ⟨ja, jc, ca, cc, hG, hL, hC⟩ := wp_clear h
  have HA := Lib.hid (show Below W.heap.size W (W.alloc (.cells #[.int .i64 l, .int .i64 s] 43)) from (Below.refl _ _).alloc (Nat.le_refl _) _)
  have HC := Lib.hid (rd_mv (Sl_ok R_Label_ok) hC HA.out)
  have HG := Lib.hid (hG.call HA.out)
  have HB := Lib.hid (Blk.new W 43 #[.int .i64 l, .int .i64 s])
  have hs1 := HA.out.size
  clear h hG hL hC
  go_enter Try.func116, Try.ntmps116
  go_wp2_with fail
  obtain ⟨W1, hW1⟩ : ∃ w, w = W.alloc (.cells #[.int .i64 l, .int .i64 s] 43) := ⟨_, rfl⟩
  rw [← hW1] at HA HC HG HB hs1 ⊢
  clear hW1
  have gg0 := HG.out.at_ 1 rfl
  have hgl := HG.out.lt
  have hbl := HB.out.lt
  have bb0 := HB.out.at_ 0 rfl
  have bb1 := HB.out.at_ 1 rfl
  go_step3
  go_wp2_with fail
  refine wp_region_held_drew (S := (fun V => Below (W1).heap.size (W1) V)) (by kernel_rfl) ((Below.refl _ _).drew) (fun hHeld => ?_)
  (refine wpAnyH_take (i := 0) (v := ?hv1) rfl (by kernel_rfl) (by kernel_rfl) (by kernel_rfl) (fun _ _ _ h => h) (Or.inl ⟨by kernel_rfl, ?hy1⟩) hHeld ?hr1; case hy1 => (intro w hSw; (try dsimp only at hSw); have k0 := (hSw.cell (p := ⟨W.heap.size, 0, none⟩) hbl).trans bb0; have k1 := (hSw.cell (p := ⟨W.heap.size, 1, none⟩) hbl).trans bb1; clear hSw; go_simp; try with_reducible rfl))
  simp only [Act.put, List.getElem_toArray, List.getElem_cons_succ, List.getElem_cons_zero, List.setIfInBounds_toArray, List.set_cons_zero, List.set_cons_succ]
  (refine wpAnyH_take (i := 1) (v := ?hv2) rfl (by kernel_rfl) (by kernel_rfl) (by kernel_rfl) (fun _ _ _ h => h) (Or.inl ⟨by kernel_rfl, ?hy2⟩) hHeld ?hr2; case hy2 => (intro w hSw; (try dsimp only at hSw); go_simp; try with_reducible rfl))
  simp only [Act.put, List.getElem_toArray, List.getElem_cons_succ, List.getElem_cons_zero, List.setIfInBounds_toArray, List.set_cons_zero, List.set_cons_succ]
  (refine wpAnyH_take (i := 2) (v := ?hv3) rfl (by kernel_rfl) (by kernel_rfl) (by kernel_rfl) (fun _ _ _ h => h) (Or.inl ⟨by kernel_rfl, ?hy3⟩) hHeld ?hr3; case hy3 => (intro w hSw; (try dsimp only at hSw); go_simp; try with_reducible rfl))
  simp only [Act.put, List.getElem_toArray, List.getElem_cons_succ, List.getElem_cons_zero, List.setIfInBounds_toArray, List.set_cons_zero, List.set_cons_succ]
  (refine wpAnyH_take (i := 3) (v := ?hv4) rfl (by kernel_rfl) (by kernel_rfl) (by kernel_rfl) (fun _ _ _ h => h) (Or.inl ⟨by kernel_rfl, ?hy4⟩) hHeld ?hr4; case hy4 => (intro w hSw; (try dsimp only at hSw); go_simp; try with_reducible rfl))
  simp only [Act.put, List.getElem_toArray, List.getElem_cons_succ, List.getElem_cons_zero, List.setIfInBounds_toArray, List.set_cons_zero, List.set_cons_succ]
  (refine wpAnyH_take (i := 4) (v := ?hv5) rfl (by kernel_rfl) (by kernel_rfl) (by kernel_rfl) (fun _ _ _ h => h) (Or.inl ⟨by kernel_rfl, ?hy5⟩) hHeld ?hr5; case hy5 => (intro w hSw; (try dsimp only at hSw); have k0 := (hSw.cell (p := ⟨g, 1, none⟩) hgl).trans gg0; clear hSw; go_simp; try with_reducible rfl))
  simp only [Act.put, List.getElem_toArray, List.getElem_cons_succ, List.getElem_cons_zero, List.setIfInBounds_toArray, List.set_cons_zero, List.set_cons_succ]
  (refine wpAnyH_take (i := 5) (v := ?hv6) rfl (by kernel_rfl) (by kernel_rfl) (by kernel_rfl) (fun _ _ _ h => h) (Or.inl ⟨by kernel_rfl, ?hy6⟩) hHeld ?hr6; case hy6 => (intro w hSw; (try dsimp only at hSw); go_simp; try with_reducible rfl))
  simp only [Act.put, List.getElem_toArray, List.getElem_cons_succ, List.getElem_cons_zero, List.setIfInBounds_toArray, List.set_cons_zero, List.set_cons_succ]
  (refine wpAnyH_take (i := 6) (v := ?hv7) rfl (by kernel_rfl) (by kernel_rfl) (by kernel_rfl) (fun _ _ _ h => h) (Or.inl ⟨by kernel_rfl, ?hy7⟩) hHeld ?hr7; case hy7 => (intro w hSw; (try dsimp only at hSw); have k0 := hmf; clear hSw; go_simp; try with_reducible rfl))
  simp only [Act.put, List.getElem_toArray, List.getElem_cons_succ, List.getElem_cons_zero, List.setIfInBounds_toArray, List.set_cons_zero, List.set_cons_succ]
  (refine wpAnyH_take (i := 7) (v := ?hv8) rfl (by kernel_rfl) (by kernel_rfl) (by kernel_rfl) (fun _ _ _ h => h) (Or.inl ⟨by kernel_rfl, ?hy8⟩) hHeld ?hr8; case hy8 => (intro w hSw; (try dsimp only at hSw); go_simp; try with_reducible rfl))
  simp only [Act.put, List.getElem_toArray, List.getElem_cons_succ, List.getElem_cons_zero, List.setIfInBounds_toArray, List.set_cons_zero, List.set_cons_succ]
  refine wpAnyH_done (by kernel_rfl) ?_ _
  have HF := Lib.hid hHeld
  clear hHeld
  have HD := Lib.hid (show Below W.heap.size W W1.drew from HA.out.drew)
  have HCd := Lib.hid (rd_mv (Sl_ok R_Label_ok) HC.out ((Below.refl _ W1).drew))
  have HGd := Lib.hid (show Blk W1.drew g 140 _ from HG.out)
  clear HF gg0 bb0 bb1 HC HG HA
  obtain ⟨W2, hW2⟩ : ∃ w, w = W1.drew := ⟨_, rfl⟩
  rw [← hW2] at HD HCd HGd ⊢
  have hs2 : W.heap.size ≤ W2.heap.size := HD.out.size
  have g1 := HGd.out.at_ 1 rfl
  clear hW2
  go_wp2
  go_step3
  go_wp2
  go_loopw [21, 2] (fun i q wr => ∃ k : Nat, k ≤ C.length ∧ i = .int .i64 k ∧ ∃ z : Int, q = .int .i64 z ∧ 0 ≤ z ∧ Hid (z = need - (cntC (C.take k) l s : Nat)) ∧ Below W2.heap.size W2 wr) (fun i _ _ => C.length - (intOf i).toNat)
  case atStart => exact ⟨0, Nat.zero_le _, rfl, need, rfl, by omega, Lib.hid (by simp [cntC]), Below.refl _ _⟩
  case round =>
    obtain ⟨k, hk, rfl, z, rfl, hz0, HZ, hB⟩ := hrel
    have HBd := Lib.hid hB
    have hsz := hB.size
    have hcl : cntC (C.take k) l s ≤ cntC C l s := cntC_mono C l s k
    by_cases hlt : k < C.length
    · have hdl : decide ((k : Int) < (C.length : Int)) = true := decide_eq_true (by omega)
      by_cases hz : z = 0
      · have hze : (z == 0) = true := beq_iff_eq.2 hz
        have HY := Lib.hid (show need ≤ (cntC C l s : Int) from by have := HZ.out; omega)
        have HT := Lib.hid (HD.out.trans (hB.mono hs2))
        clear hB hz hcl
        go_wp2
        try rw [Exit.noGoto_ret]
        go_ret
        exact resB_yes HY.out HT.out
      · have hze : (z == 0) = false := beq_eq_false_iff_ne.2 hz
        obtain ⟨x, hx⟩ := el_some hlt
        have HS := Lib.hid (cntC_step (l := l) (s := s) hx)
        have HO := Lib.hid (okN1_at (l := l) (s := s) hx)
        have HC2 := Lib.hid ((HCd.out.below (Sl_ok R_Label_ok) hB).more (Sl_ok R_Label_ok) hsz)
        have hkb : k < 9223372036854775807 := by omega
        clear hB hx hcl
        go_wp2_with fail
        refine (opens_spec (m := k) hkb HC2.out).mono ?_
        intro e w1 h
        obtain ⟨b, rfl, hb1, hb⟩ := resB_elim h
        have HB1 := Lib.hid (HBd.out.trans (hb.mono hsz))
        have HB2 := Lib.hid hb1
        clear h hb hb1
        cases b with
        | false =>
          have HN := Lib.hid (show z = need - (cntC (C.take (k + 1)) l s : Nat) from by rw [HS.out, if_neg (fun h => by have := HB2.out.2 (HO.out.2 h); cases this)]; exact HZ.out)
          go_wp2
          go_roundw
          case rel => exact ⟨k + 1, by omega, by go_num, z, rfl, hz0, HN, HB1.out⟩
          case measure => simp [intOf]; omega
        | true =>
          have HN := Lib.hid (show z - 1 = need - (cntC (C.take (k + 1)) l s : Nat) from by rw [HS.out, if_pos (HO.out.1 (HB2.out.1 rfl))]; have := HZ.out; omega)
          have hzw : IntKind.i64.wrap (z - 1) = z - 1 := IntWalk.i64_in _ (by have := HZ.out; omega)
          go_wp2
          go_roundw
          case rel => exact ⟨k + 1, by omega, by go_num, z - 1, by go_num, by omega, HN, HB1.out⟩
          case measure => simp [intOf]; omega
    · have hdl : decide ((k : Int) < (C.length : Int)) = false := decide_eq_false (by omega)
      have HE := Lib.hid (show cntC (C.take k) l s = cntC C l s from by rw [List.take_of_length_le (by omega)])
      have HT := Lib.hid (HD.out.trans (hB.mono hs2))
      clear hB
      by_cases hz : z = 0
      · have hze : (z == 0) = true := beq_iff_eq.2 hz
        have HY := Lib.hid (show need ≤ (cntC C l s : Int) from by have := HZ.out; omega)
        clear hz
        go_wp2
        try rw [Exit.noGoto_ret]
        go_ret
        exact resB_yes HY.out HT.out
      · have hze : (z == 0) = false := beq_eq_false_iff_ne.2 hz
        have HY := Lib.hid (show ¬ need ≤ (cntC C l s : Int) from by have h1 := HZ.out; rw [HE.out] at h1; omega)
        clear hz
        go_wp2
        try rw [Exit.noGoto_ret]
        go_ret
        exact resB_no (by have := HY.out; omega) HT.out

set_option maxRecDepth 100000 in
set_option maxHeartbeats 3200000 in
theorem count_spec {L : List D_Job} {m : Nat} {a : Option Addr} {cap : Nat} {l s : Int} {W : World} (hM : cnt L l s = m) (h : RdSl R_Job W W.heap.size L a cap) :
    Calls Try.prog 117 #[.slice a L.length cap, .agg #[.int .i64 l, .int .i64 s]] W (IsI m W) := by
  have hn : L.length ≤ 9223372036854775807 := by have h1 := h.1; have h2 := h.2.1; unfold maxLen at h2; omega
  have H := Lib.hid h
  have HM := Lib.hid hM
  clear h hM
  have HB0 := Lib.hid (show Below W.heap.size W (W.alloc (.cells #[.int .i64 l, .int .i64 s] 43)) from (Below.refl _ _).alloc (Nat.le_refl _) _)
  have HP0 := Lib.hid (Blk.new W 43 #[.int .i64 l, .int .i64 s])
  go_enter Try.func117, Try.ntmps117
  go_wp2
  go_loopw [10, 5] (fun i q wr => ∃ k : Nat, k ≤ L.length ∧ i = .int .i64 k ∧ (∃ z : Nat, q = .int .i64 z ∧ Hid (z = cnt (L.take k) l s) ∧ z ≤ k) ∧ Below W.heap.size W wr ∧ Hid (Blk wr W.heap.size 43 #[.int .i64 l, .int .i64 s])) (fun i _ _ => L.length - (intOf i).toNat)
  case atStart => exact ⟨0, Nat.zero_le _, rfl, ⟨0, rfl, Lib.hid (by simp [cnt]), Nat.le_refl _⟩, HB0.out, HP0⟩
  case round =>
    obtain ⟨k, hk, rfl, ⟨z, rfl, HZ, hzk⟩, hB, HP⟩ := hrel
    have HB := Lib.hid hB
    have hsz := hB.size
    by_cases hlt : k < L.length
    · have hdl : decide ((k : Int) < (L.length : Int)) = true := decide_eq_true (by omega)
      obtain ⟨⟨⟨x0, x1⟩, x2, x3, x4, x5, x6, x7, L0⟩, hx⟩ := el_some hlt
      have HX := Lib.hid hx
      obtain ⟨g, o, us, rfl, hg, hu, hr⟩ := H.out.at_ hx
      obtain ⟨a0, c0, rfl, k_L0⟩ := rd_Job hr
      have e0 : wr.cell? ⟨g, o + k * 9, none⟩ = some (.int .i64 x0) := (hB.cell (p := ⟨g, o + k * 9, none⟩) hg).trans (by simpa [sizeq_JobS, Nat.add_assoc] using hu 0 _ rfl)
      have e1 : wr.cell? ⟨g, o + k * 9 + 1, none⟩ = some (.int .i64 x1) := (hB.cell (p := ⟨g, o + k * 9 + 1, none⟩) hg).trans (by simpa [sizeq_JobS, Nat.add_assoc] using hu 1 _ rfl)
      have e2 : wr.cell? ⟨g, o + k * 9 + 2, none⟩ = some (.int .i64 x2) := (hB.cell (p := ⟨g, o + k * 9 + 2, none⟩) hg).trans (by simpa [sizeq_JobS, Nat.add_assoc] using hu 2 _ rfl)
      have e3 : wr.cell? ⟨g, o + k * 9 + 3, none⟩ = some (.int .i64 x3) := (hB.cell (p := ⟨g, o + k * 9 + 3, none⟩) hg).trans (by simpa [sizeq_JobS, Nat.add_assoc] using hu 3 _ rfl)
      have e4 : wr.cell? ⟨g, o + k * 9 + 4, none⟩ = some (.int .i64 x4) := (hB.cell (p := ⟨g, o + k * 9 + 4, none⟩) hg).trans (by simpa [sizeq_JobS, Nat.add_assoc] using hu 4 _ rfl)
      have e5 : wr.cell? ⟨g, o + k * 9 + 5, none⟩ = some (.int .i64 x5) := (hB.cell (p := ⟨g, o + k * 9 + 5, none⟩) hg).trans (by simpa [sizeq_JobS, Nat.add_assoc] using hu 5 _ rfl)
      have e6 : wr.cell? ⟨g, o + k * 9 + 6, none⟩ = some (.int .i64 x6) := (hB.cell (p := ⟨g, o + k * 9 + 6, none⟩) hg).trans (by simpa [sizeq_JobS, Nat.add_assoc] using hu 6 _ rfl)
      have e7 : wr.cell? ⟨g, o + k * 9 + 7, none⟩ = some (.int .i64 x7) := (hB.cell (p := ⟨g, o + k * 9 + 7, none⟩) hg).trans (by simpa [sizeq_JobS, Nat.add_assoc] using hu 7 _ rfl)
      have e8 : wr.cell? ⟨g, o + k * 9 + 8, none⟩ = some (.slice a0 L0.length c0) := (hB.cell (p := ⟨g, o + k * 9 + 8, none⟩) hg).trans (by simpa [sizeq_JobS, Nat.add_assoc] using hu 8 _ rfl)
      have hi0 : (0 : Int) ≤ (k : Int) := Int.natCast_nonneg _
      have hi1 : (k : Int) < (L.length : Int) := by omega
      have hA : Below wr.heap.size wr (wr.alloc (.cells #[.int .i64 x0, .int .i64 x1, .int .i64 x2, .int .i64 x3, .int .i64 x4, .int .i64 x5, .int .i64 x6, .int .i64 x7, .slice a0 L0.length c0] 45)) := (Below.refl _ _).alloc (Nat.le_refl _) _
      have HB1 := Lib.hid (hB.trans (hA.mono hsz))
      have HP1 := Lib.hid (HP.out.call hA)
      have HJ1 := Lib.hid (Blk.new wr 45 #[.int .i64 x0, .int .i64 x1, .int .i64 x2, .int .i64 x3, .int .i64 x4, .int .i64 x5, .int .i64 x6, .int .i64 x7, .slice a0 L0.length c0])
      have j0 := HJ1.out.at_ 0 rfl
      have j1 := HJ1.out.at_ 1 rfl
      have q0 := HP1.out.at_ 0 rfl
      have q1 := HP1.out.at_ 1 rfl
      have hzw : IntKind.i64.wrap ((z : Int) + 1) = (z : Int) + 1 := IntWalk.i64_in _ (by omega)
      clear hB hx hu hr k_L0 hA
      cases c1 : (x0 == l) with
      | false =>
        have HC := Lib.hid (show z = cnt (L.take (k + 1)) l s from by rw [cnt_miss HX.out (by simp [ofL, c1])]; exact HZ.out)
        go_wp2
        go_roundw
        case rel => exact ⟨k + 1, by omega, by go_num, ⟨z, rfl, HC, by omega⟩, HB1.out, HP1⟩
        case measure => simp [intOf]; omega
      | true =>
        cases c2 : (x1 == s) with
        | false =>
          have HC := Lib.hid (show z = cnt (L.take (k + 1)) l s from by rw [cnt_miss HX.out (by simp [ofL, c2])]; exact HZ.out)
          go_wp2
          go_roundw
          case rel => exact ⟨k + 1, by omega, by go_num, ⟨z, rfl, HC, by omega⟩, HB1.out, HP1⟩
          case measure => simp [intOf]; omega
        | true =>
          have HC := Lib.hid (show z + 1 = cnt (L.take (k + 1)) l s from by rw [cnt_hit HX.out c1 c2, HZ.out])
          go_wp2
          go_roundw
          case rel => exact ⟨k + 1, by omega, by go_num, ⟨z + 1, by go_num, HC, by omega⟩, HB1.out, HP1⟩
          case measure => simp [intOf]; omega
    · have hdl : decide ((k : Int) < (L.length : Int)) = false := decide_eq_false (by omega)
      have HE := Lib.hid (show z = m from by rw [HZ.out, ← HM.out, List.take_of_length_le (by omega)])
      clear hB
      go_wp2
      go_ret
      exact ⟨by rw [HE.out]; rfl, HB.out⟩

/-! ### the work of Submit -/
theorem jobR_new {l s need long prio : Int} : JobR l s 1 need long prio 1 0 [] ↔ LabC.rB l s = true ∧ (isB need 1 6 && (isB long 1 20 && isB prio 0 9)) = true := by
  constructor
  · intro h
    simp only [Bool.and_eq_true]
    exact ⟨h.1, h.2.2.1, h.2.2.2.1, h.2.2.2.2.1⟩
  · intro h
    simp only [Bool.and_eq_true] at h
    exact ⟨h.1, rfl, h.2.1, h.2.2.1, h.2.2.2, rfl, fun h => absurd h (by decide), fun _ => ⟨rfl, rfl⟩⟩

set_option maxRecDepth 100000 in
set_option maxHeartbeats 3200000 in
theorem sub_work {C : List (List D_Label)} {L : List D_Job} {now l s need long prio : Int} {lo g b1 b2 b3 b4 : Nat} {W : World} (hP : PoolR C L now) (h1 : Blk W b1 43 #[.int .i64 l, .int .i64 s]) (h2 : Blk W b2 2 #[.int .i64 need]) (h3 : Blk W b3 2 #[.int .i64 long]) (h4 : Blk W b4 2 #[.int .i64 prio]) (hl : b1 < lo ∧ b2 < lo ∧ b3 < lo ∧ b4 < lo) (hlw : lo ≤ W.heap.size) (h : WP C L now lo g W) :
    Calls Try.prog 114 #[.pointer (some ⟨g, 0, none⟩), .pointer (some ⟨b1, 0, none⟩), .pointer (some ⟨b2, 0, none⟩), .pointer (some ⟨b3, 0, none⟩), .pointer (some ⟨b4, 0, none⟩)] W (WorkO (subD C L now l s need long prio) lo g W) := by
  have HP := Lib.hid hP
  have HW := Lib.hid h
  have hc6 := (poolR_lens hP).1
  have hl96 := (poolR_lens hP).2.1
  have H1 := Lib.hid h1
  have H2 := Lib.hid h2
  have H3 := Lib.hid h3
  have H4 := Lib.hid h4
  obtain ⟨q1, hq1⟩ : ∃ b, LabC.rB l s = b := ⟨_, rfl⟩
  have Q1 := Lib.hid hq1
  obtain ⟨q2, hq2⟩ : ∃ b, (isB need 1 6 && (isB long 1 20 && isB prio 0 9)) = b := ⟨_, rfl⟩
  have Q2 := Lib.hid hq2
  have a0 := h1.at_ 0 rfl
  have a1 := h1.at_ 1 rfl
  have a2 := h2.at_ 0 rfl
  have a3 := h3.at_ 0 rfl
  have a4 := h4.at_ 0 rfl
  clear h hq1 hq2 h1 h2 h3 h4 hP
  go_enter Try.func114, Try.ntmps114
  go_wp2_with fail
  refine (ri_at l s Q1.out _).mono ?_
  rintro e w1 ⟨rfl, hb⟩
  have HB1 := Lib.hid (hb.mono hlw)
  have HW1 := Lib.hid (HW.out.call hb)
  have K1 := Lib.hid (H1.out.call hb)
  have K2 := Lib.hid (H2.out.call hb)
  have K3 := Lib.hid (H3.out.call hb)
  have K4 := Lib.hid (H4.out.call hb)
  have hlw1 : lo ≤ w1.heap.size := Nat.le_trans hlw hb.size
  clear hb H1 H2 H3 H4 HW a0 a1 a2 a3 a4
  have a0 := K1.out.at_ 0 rfl
  have a1 := K1.out.at_ 1 rfl
  have a2 := K2.out.at_ 0 rfl
  have a3 := K3.out.at_ 0 rfl
  have a4 := K4.out.at_ 0 rfl
  cases q1 with
  | false =>
    have HN := Lib.hid (show subD C L now l s need long prio = illD 1 from by unfold subD; rw [if_pos (fun h => by have h2 := (jobR_new.1 h.2).1; rw [Q1.out] at h2; cases h2)])
    go_wp2_with fail
    refine (must_no _ _).mono ?_
    rintro e w9 ⟨rfl, rfl⟩
    go_wp2
    refine ⟨rfl, ?_⟩
    exact ⟨Or.inr ⟨1, HN.out, rfl⟩, HB1.out⟩
  | true =>
  go_wp2_with fail
  refine (wish_impl Q2.out _).mono ?_
  rintro e w9 ⟨rfl, rfl⟩
  cases q2 with
  | false =>
    have HN := Lib.hid (show subD C L now l s need long prio = illD 1 from by unfold subD; rw [if_pos (fun h => by have h2 := (jobR_new.1 h.2).2; rw [Q2.out] at h2; cases h2)])
    go_wp2_with fail
    refine (must_no _ _).mono ?_
    rintro e w9 ⟨rfl, rfl⟩
    go_wp2
    refine ⟨rfl, ?_⟩
    exact ⟨Or.inr ⟨1, HN.out, rfl⟩, HB1.out⟩
  | true =>
  have hPJ : PoolR C L now ∧ JobR l s 1 need long prio 1 0 [] := ⟨HP.out, jobR_new.2 ⟨Q1.out, Q2.out⟩⟩
  have HPJ := Lib.hid hPJ
  have hnd : 1 ≤ need ∧ need ≤ 6 := isB_io.1 hPJ.2.2.2.1
  clear hPJ
  go_wp2_with fail
  refine (must_yes _ _).mono ?_
  rintro e w9 ⟨rfl, rfl⟩
  go_wp2_with fail
  refine (hasnodes_spec (l := l) (s := s) hc6 hnd HW1.out).mono ?_
  intro e w2 h
  obtain ⟨q3, rfl, hq3, hb⟩ := resB_elim h
  have Q3 := Lib.hid hq3
  have HB2 := Lib.hid (HB1.out.trans (hb.mono hlw1))
  have HW2 := Lib.hid (HW1.out.call hb)
  have J1 := Lib.hid (K1.out.call hb)
  have J2 := Lib.hid (K2.out.call hb)
  have J3 := Lib.hid (K3.out.call hb)
  have J4 := Lib.hid (K4.out.call hb)
  have hlw2 : lo ≤ w2.heap.size := Nat.le_trans hlw1 hb.size
  clear h hb hq3 K1 K2 K3 K4 HW1 a0 a1 a2 a3 a4
  cases q3 with
  | false =>
    have HN := Lib.hid (show subD C L now l s need long prio = illD 11 from by unfold subD; rw [if_neg (fun h => h HPJ.out), if_pos (Int.not_le.1 (fun h => by have := Q3.out.2 h; cases this))])
    go_wp2_with fail
    refine (must_no _ _).mono ?_
    rintro e w9 ⟨rfl, rfl⟩
    go_wp2
    refine ⟨rfl, ?_⟩
    exact ⟨Or.inr ⟨11, HN.out, rfl⟩, HB2.out⟩
  | true =>
  have HND := Lib.hid (show ¬ ((cntC C l s : Nat) : Int) < need from by have := Q3.out.1 rfl; omega)
  go_wp2_with fail
  refine (must_yes _ _).mono ?_
  rintro e w9 ⟨rfl, rfl⟩
  obtain ⟨m, hm⟩ : ∃ m, cnt L l s = m := ⟨_, rfl⟩
  have HM := Lib.hid hm
  have hml : m ≤ L.length := hm ▸ cnt_le L l s
  clear hm
  obtain ⟨ja0, jc0, ca0, cc0, hG0, hL0, hC0⟩ := wp_clear HW2.out
  have HG0 := Lib.hid hG0
  have HL0 := Lib.hid hL0
  have hgl0 := hG0.lt
  clear hG0 hL0 hC0
  go_wp2_with fail
  refine wp_region_held_drew (S := (fun V => Below (w2).heap.size (w2) V)) (by kernel_rfl) ((Below.refl _ _).drew) (fun hHeld => ?_)
  (refine wpAnyH_take (i := 0) (v := ?hv9) rfl (by kernel_rfl) (by kernel_rfl) (by kernel_rfl) (fun _ _ _ h => h) (Or.inl ⟨by kernel_rfl, ?hy9⟩) hHeld ?hr9; case hy9 => (intro w hSw; (try dsimp only at hSw); go_simp; try with_reducible rfl))
  simp only [Act.put, List.getElem_toArray, List.getElem_cons_succ, List.getElem_cons_zero, List.setIfInBounds_toArray, List.set_cons_zero, List.set_cons_succ]
  (refine wpAnyH_take (i := 1) (v := ?hv10) rfl (by kernel_rfl) (by kernel_rfl) (by kernel_rfl) (fun _ _ _ h => h) (Or.inl ⟨by kernel_rfl, ?hy10⟩) hHeld ?hr10; case hy10 => (intro w hSw; (try dsimp only at hSw); go_simp; try with_reducible rfl))
  simp only [Act.put, List.getElem_toArray, List.getElem_cons_succ, List.getElem_cons_zero, List.setIfInBounds_toArray, List.set_cons_zero, List.set_cons_succ]
  (refine wpAnyH_take (i := 2) (v := ?hv11) rfl (by kernel_rfl) (by kernel_rfl) (by kernel_rfl) (fun _ _ _ h => h) (Or.inl ⟨by kernel_rfl, ?hy11⟩) hHeld ?hr11; case hy11 => (intro w hSw; (try dsimp only at hSw); go_simp; try with_reducible rfl))
  simp only [Act.put, List.getElem_toArray, List.getElem_cons_succ, List.getElem_cons_zero, List.setIfInBounds_toArray, List.set_cons_zero, List.set_cons_succ]
  (refine wpAnyH_take (i := 3) (v := ?hv12) rfl (by kernel_rfl) (by kernel_rfl) (by kernel_rfl) (fun _ _ _ h => h) (Or.inl ⟨by kernel_rfl, ?hy12⟩) hHeld ?hr12; case hy12 => (intro w hSw; (try dsimp only at hSw); have k0 := (hSw.cell (p := ⟨g, 0, none⟩) hgl0).trans (HG0.out.at_ 0 rfl); clear hSw; go_simp; try with_reducible rfl))
  simp only [Act.put, List.getElem_toArray, List.getElem_cons_succ, List.getElem_cons_zero, List.setIfInBounds_toArray, List.set_cons_zero, List.set_cons_succ]
  (refine wpAnyH_take (i := 4) (v := ?hv13) rfl (by kernel_rfl) (by kernel_rfl) (by kernel_rfl) (fun _ _ _ h => h) (Or.inl ⟨by kernel_rfl, ?hy13⟩) hHeld ?hr13; case hy13 => (intro w hSw; (try dsimp only at hSw); have k0 := (hSw.cell (p := ⟨b1, 0, none⟩) J1.out.lt).trans (J1.out.at_ 0 rfl); have k1 := (hSw.cell (p := ⟨b1, 1, none⟩) J1.out.lt).trans (J1.out.at_ 1 rfl); clear hSw; go_simp; try with_reducible rfl))
  simp only [Act.put, List.getElem_toArray, List.getElem_cons_succ, List.getElem_cons_zero, List.setIfInBounds_toArray, List.set_cons_zero, List.set_cons_succ]
  refine wpAnyH_ready (rs := [5]) (by kernel_rfl) (by simp) ?_
  refine AllReadyH.cons rfl (fun K hK => ?_) AllReadyH.nil
  go_simp
  go_at_call 117
  refine (count_spec HM.out (rd_mv R_Job_ok HL0.out hHeld)).mono ?_
  intro e w3 h
  obtain ⟨rfl, hb⟩ := isI_elim h
  clear h
  refine hK.out _ _ (hHeld.trans (hb.mono hHeld.size)) (fun hHeld => ?_)
  clear hK K hb
  try simp only [Act.put, List.getElem_toArray, List.getElem_cons_succ, List.getElem_cons_zero, List.setIfInBounds_toArray, List.set_cons_zero, List.set_cons_succ]
  (refine wpAnyH_take (i := 6) (v := ?hv14) rfl (by kernel_rfl) (by kernel_rfl) (by kernel_rfl) (fun _ _ _ h => h) (Or.inl ⟨by kernel_rfl, ?hy14⟩) hHeld ?hr14; case hy14 => (intro w hSw; (try dsimp only at hSw); go_simp; try with_reducible rfl))
  simp only [Act.put, List.getElem_toArray, List.getElem_cons_succ, List.getElem_cons_zero, List.setIfInBounds_toArray, List.set_cons_zero, List.set_cons_succ]
  (refine wpAnyH_take (i := 7) (v := ?hv15) rfl (by kernel_rfl) (by kernel_rfl) (by kernel_rfl) (fun _ _ _ h => h) (Or.inl ⟨by kernel_rfl, ?hy15⟩) hHeld ?hr15; case hy15 => (intro w hSw; (try dsimp only at hSw); go_simp; try with_reducible rfl))
  simp only [Act.put, List.getElem_toArray, List.getElem_cons_succ, List.getElem_cons_zero, List.setIfInBounds_toArray, List.set_cons_zero, List.set_cons_succ]
  refine wpAnyH_done (by kernel_rfl) ?_ _
  have HF := Lib.hid hHeld
  clear hHeld
  have HB3 := Lib.hid (HB2.out.trans (HF.out.mono hlw2))
  have HW3 := Lib.hid (HW2.out.call HF.out)
  have I1 := Lib.hid (J1.out.call HF.out)
  have I2 := Lib.hid (J2.out.call HF.out)
  have I3 := Lib.hid (J3.out.call HF.out)
  have I4 := Lib.hid (J4.out.call HF.out)
  have hlw3 : lo ≤ w3.heap.size := Nat.le_trans hlw2 HF.out.size
  clear HF J1 J2 J3 J4 HW2 HG0 HL0
  have hmw : IntKind.i64.wrap ((m : Int) + 1) = (m : Int) + 1 := IntWalk.i64_in _ (by omega)
  by_cases h3 : (m : Int) + 1 ≤ 3
  rotate_left
  · have hd3 : decide ((m : Int) + 1 ≤ 3) = false := decide_eq_false h3
    have HN := Lib.hid (show subD C L now l s need long prio = illD 9 from by unfold subD; rw [if_neg (fun h => h HPJ.out), if_neg (fun h => by have := HND.out; omega), if_pos (by rw [HM.out]; omega)])
    go_wp2_with fail
    refine (must_no _ _).mono ?_
    rintro e w9 ⟨rfl, rfl⟩
    go_wp2
    refine ⟨rfl, ?_⟩
    exact ⟨Or.inr ⟨9, HN.out, rfl⟩, HB3.out⟩
  have hd3 : decide ((m : Int) + 1 ≤ 3) = true := decide_eq_true h3
  have HN := Lib.hid (show subD C L now l s need long prio = (C, L ++ [((l, s), (m : Int) + 1, need, long, prio, 1, 0, [])], now, (m : Int) + 1, 0) from by unfold subD subJ; rw [if_neg (fun h => h HPJ.out), if_neg (fun h => by have := HND.out; omega), if_neg (by rw [HM.out]; omega), HM.out])
  go_wp2_with fail
  refine (must_yes _ _).mono ?_
  rintro e w9 ⟨rfl, rfl⟩
  obtain ⟨ca, cc, ja, jc, l1, g1, l2, g2, xs, Sf, ys, Sg, hG, hA, hC, hr1, hr0, hr2, hr3, hr4, hr5, hdj, hng⟩ := HW3.out
  have HG := Lib.hid hG
  have hle1 := hA.le
  have hle2 := hC.le
  have hgl : g < w3.heap.size := hG.lt
  -- the row of one job, and what append makes of it
  obtain ⟨WA, hWA⟩ : ∃ w, w = (w3.alloc (.cells #[.int .i64 l, .int .i64 s, .int .i64 ((m : Int) + 1), .int .i64 need, .int .i64 long, .int .i64 prio, .int .i64 1, .int .i64 0, .slice none 0 0] 45)).drew := ⟨_, rfl⟩
  have hbd : Below w3.heap.size w3 WA := by rw [hWA]; exact ((Below.refl _ _).alloc (Nat.le_refl _) _).drew
  have hsA : WA.heap.size = w3.heap.size + 1 := by rw [hWA]; simp
  have hrow : Blk WA w3.heap.size 45 #[.int .i64 l, .int .i64 s, .int .i64 ((m : Int) + 1), .int .i64 need, .int .i64 long, .int .i64 prio, .int .i64 1, .int .i64 0, .slice none 0 0] := by rw [hWA]; exact (Blk.new w3 45 #[.int .i64 l, .int .i64 s, .int .i64 ((m : Int) + 1), .int .i64 need, .int .i64 long, .int .i64 prio, .int .i64 1, .int .i64 0, .slice none 0 0]).drew
  obtain ⟨iJ, hiJ, hzJ, hsJ, hbJ⟩ := m_infoJob
  obtain ⟨v', w6, xs', Sf', hr9, hA4, hg4, hob, hsg⟩ := (hA.call R_Job_ok hbd).app2 (P := Try.prog) (t := 138) (ty := 138) (c := 1) R_Job_ok Try.underlying138 hiJ hzJ hsJ hbJ rfl (by decide) (x := ((l, s), (m : Int) + 1, need, long, prio, 1, 0, [])) (us := [.int .i64 l, .int .i64 s, .int .i64 ((m : Int) + 1), .int .i64 need, .int .i64 long, .int .i64 prio, .int .i64 1, .int .i64 0, .slice none 0 0]) (Sx := fun _ => False) (blk := w3.heap.size) (fun p y hp => hrow.at_ p (by simpa using hp)) (mkow_Job (T0 := fun _ => False) (fun k h => h.elim) (own_none I _)) (fun p hp => hp.elim) hr0 (by unfold maxLen; omega) (by omega)
  obtain ⟨a6, c6, n6, hn6, rfl⟩ : ∃ a c n, n = (L ++ [((l, s), (m : Int) + 1, need, long, prio, 1, 0, [])]).length ∧ v' = .slice a n c := by
    obtain ⟨a, c, e⟩ := hA4.isSlice
    exact ⟨a, c, _, rfl, e⟩
  have hs6 := hg4.size
  have hbo : ∀ k, (Value.slice ja L.length jc).ownBlock = some k → lo ≤ k := fun k hk => by have := hA.blk k hk; omega
  have S1 := Lib.hid (hbd.mono hlw3)
  have S2 := Lib.hid ((hbd.mono hlw3).trans (below_own hg4 hbo (by omega)))
  have S3 := Lib.hid (S2.out.setCell (p := ⟨g, 0, none⟩) (by show lo ≤ g; omega) (.slice a6 n6 c6))
  have HGA := Lib.hid (hG.call hbd)
  have HG6 := Lib.hid (show Blk w6 g 140 _ from (hg4.block g (by omega) (fun e => hng (.inl e.symm))).trans HGA.out)
  have HG7 := Lib.hid (show Blk (w6.setCell ⟨g, 0, none⟩ (.slice a6 n6 c6)) g 140 #[.slice a6 n6 c6, .slice ca C.length cc, .int .i64 now] from (HG6.out.set 0 (.slice a6 n6 c6)).as rfl)
  have HA7 := Lib.hid (hA4.mv2 (w' := w6.setCell ⟨g, 0, none⟩ (.slice a6 n6 c6)) R_Job_ok (by simp [World.setCell]) (fun p hp => Below.heap_setCell w6 ⟨g, 0, none⟩ _ p (by show p ≠ g; rcases hob p hp with h | h; exact (fun e => hng (.inl (e ▸ h))); exact (by omega))) (fun i p hp => Below.heap_setCell w6 ⟨g, 0, none⟩ _ p (by show p ≠ g; rcases hsg i p hp with h | h; exact (fun e => hng (.inr ⟨i, e ▸ h⟩)); exact h.elim)))
  have HC7 := Lib.hid (((hC.call (Sl_ok R_Label_ok) hbd).mv (w' := w6) (Sl_ok R_Label_ok) hs6 (fun p hp hp2 => hg4.block p (by omega) (fun e => hdj p (.inl e.symm) ⟨hp, hp2⟩))).mv (w' := w6.setCell ⟨g, 0, none⟩ (.slice a6 n6 c6)) (Sl_ok R_Label_ok) (by simp [World.setCell]) (fun p hp hp2 => Below.heap_setCell w6 ⟨g, 0, none⟩ _ p (by show p ≠ g; omega)))
  have HDJ := Lib.hid (show ∀ k, Bears (.slice a6 n6 c6) Sf' k → ¬ Rg l2 g2 k from fun k hk h2 => by
    rcases hk with hk | ⟨i, hk⟩
    · rcases hob k hk with h | h
      · exact hdj k (.inl h) h2
      · have := h2.2; omega
    · rcases hsg i k hk with h | h
      · exact hdj k (.inr ⟨i, h⟩) h2
      · exact h.elim)
  have HNG := Lib.hid (show ¬ Bears (.slice a6 n6 c6) Sf' g from fun hk => by
    rcases hk with hk | ⟨i, hk⟩
    · rcases hob g hk with h | h
      · exact hng (.inl h)
      · omega
    · rcases hsg i g hk with h | h
      · exact hng (.inr ⟨i, h⟩)
      · exact h.elim)
  have HN6 := Lib.hid hn6
  have HR9 := Lib.hid hr9
  have HBF := Lib.hid (HB3.out.trans S3.out)
  have HLE := Lib.hid (show l1 ≤ w6.heap.size by omega)
  have u0 : w3.cell? ⟨g, 0, none⟩ = some (.slice ja L.length jc) := hG.at_ 0 rfl
  have u1 : WA.cell? ⟨g, 0, none⟩ = some (.slice ja L.length jc) := HGA.out.at_ 0 rfl
  have u6 : w6.cell? ⟨g, 0, none⟩ = some (.slice ja L.length jc) := HG6.out.at_ 0 rfl
  have f6 : w6.frozen? ⟨g, 0, none⟩ = false := HG6.out.soft 0
  rw [hWA] at u1 HR9 S1
  clear hG hA hC hbd hrow hiJ hzJ hsJ hbJ hr9 hA4 hg4 hob hsg hn6 hdj hng hbo hs6 hsA hWA HGA
  go_wp2_with fail
  refine wp_region_held_drew (S := (fun V => Below lo w3 V)) (by kernel_rfl) (((Below.refl lo w3).drew)) (fun hHeld => ?_)
  (refine wpAnyH_take (i := 0) (v := ?hv16) rfl (by kernel_rfl) (by kernel_rfl) (by kernel_rfl) (fun _ _ _ h => h) (Or.inl ⟨by kernel_rfl, ?hy16⟩) hHeld ?hr16; case hy16 => (intro w hSw; (try dsimp only at hSw); go_simp; try with_reducible rfl))
  simp only [Act.put, List.getElem_toArray, List.getElem_cons_succ, List.getElem_cons_zero, List.setIfInBounds_toArray, List.set_cons_zero, List.set_cons_succ]
  (refine wpAnyH_take (i := 1) (v := ?hv17) rfl (by kernel_rfl) (by kernel_rfl) (by kernel_rfl) (fun _ _ _ h => h) (Or.inl ⟨by kernel_rfl, ?hy17⟩) hHeld ?hr17; case hy17 => (intro w hSw; (try dsimp only at hSw); go_simp; try with_reducible rfl))
  simp only [Act.put, List.getElem_toArray, List.getElem_cons_succ, List.getElem_cons_zero, List.setIfInBounds_toArray, List.set_cons_zero, List.set_cons_succ]
  (refine wpAnyH_take (i := 2) (v := ?hv18) rfl (by kernel_rfl) (by kernel_rfl) (by kernel_rfl) (fun _ _ _ h => h) (Or.inl ⟨by kernel_rfl, ?hy18⟩) hHeld ?hr18; case hy18 => (intro w hSw; (try dsimp only at hSw); go_simp; try with_reducible rfl))
  simp only [Act.put, List.getElem_toArray, List.getElem_cons_succ, List.getElem_cons_zero, List.setIfInBounds_toArray, List.set_cons_zero, List.set_cons_succ]
  (refine wpAnyH_take (i := 3) (v := ?hv19) rfl (by kernel_rfl) (by kernel_rfl) (by kernel_rfl) (fun _ _ _ h => h) (Or.inl ⟨by kernel_rfl, ?hy19⟩) hHeld ?hr19; case hy19 => (intro w hSw; (try dsimp only at hSw); go_simp; try with_reducible rfl))
  simp only [Act.put, List.getElem_toArray, List.getElem_cons_succ, List.getElem_cons_zero, List.setIfInBounds_toArray, List.set_cons_zero, List.set_cons_succ]
  (refine wpAnyH_take (i := 5) (v := ?hv20) rfl (by kernel_rfl) (by kernel_rfl) (by kernel_rfl) (fun _ _ _ h => h) (Or.inl ⟨by kernel_rfl, ?hy20⟩) hHeld ?hr20; case hy20 => (intro w hSw; (try dsimp only at hSw); have k0 := (hSw.cell (p := ⟨b1, 0, none⟩) hl.1).trans (I1.out.at_ 0 rfl); have k1 := (hSw.cell (p := ⟨b1, 1, none⟩) hl.1).trans (I1.out.at_ 1 rfl); clear hSw; go_simp; try with_reducible rfl))
  simp only [Act.put, List.getElem_toArray, List.getElem_cons_succ, List.getElem_cons_zero, List.setIfInBounds_toArray, List.set_cons_zero, List.set_cons_succ]
  (refine wpAnyH_take (i := 6) (v := ?hv21) rfl (by kernel_rfl) (by kernel_rfl) (by kernel_rfl) (fun _ _ _ h => h) (Or.inl ⟨by kernel_rfl, ?hy21⟩) hHeld ?hr21; case hy21 => (intro w hSw; (try dsimp only at hSw); go_simp; try with_reducible rfl))
  simp only [Act.put, List.getElem_toArray, List.getElem_cons_succ, List.getElem_cons_zero, List.setIfInBounds_toArray, List.set_cons_zero, List.set_cons_succ]
  (refine wpAnyH_take (i := 7) (v := ?hv22) rfl (by kernel_rfl) (by kernel_rfl) (by kernel_rfl) (fun _ _ _ h => h) (Or.inl ⟨by kernel_rfl, ?hy22⟩) hHeld ?hr22; case hy22 => (intro w hSw; (try dsimp only at hSw); have k0 := (hSw.cell (p := ⟨b2, 0, none⟩) hl.2.1).trans (I2.out.at_ 0 rfl); clear hSw; go_simp; try with_reducible rfl))
  simp only [Act.put, List.getElem_toArray, List.getElem_cons_succ, List.getElem_cons_zero, List.setIfInBounds_toArray, List.set_cons_zero, List.set_cons_succ]
  (refine wpAnyH_take (i := 8) (v := ?hv23) rfl (by kernel_rfl) (by kernel_rfl) (by kernel_rfl) (fun _ _ _ h => h) (Or.inl ⟨by kernel_rfl, ?hy23⟩) hHeld ?hr23; case hy23 => (intro w hSw; (try dsimp only at hSw); have k0 := (hSw.cell (p := ⟨b3, 0, none⟩) hl.2.2.1).trans (I3.out.at_ 0 rfl); clear hSw; go_simp; try with_reducible rfl))
  simp only [Act.put, List.getElem_toArray, List.getElem_cons_succ, List.getElem_cons_zero, List.setIfInBounds_toArray, List.set_cons_zero, List.set_cons_succ]
  (refine wpAnyH_take (i := 9) (v := ?hv24) rfl (by kernel_rfl) (by kernel_rfl) (by kernel_rfl) (fun _ _ _ h => h) (Or.inl ⟨by kernel_rfl, ?hy24⟩) hHeld ?hr24; case hy24 => (intro w hSw; (try dsimp only at hSw); have k0 := (hSw.cell (p := ⟨b4, 0, none⟩) hl.2.2.2).trans (I4.out.at_ 0 rfl); clear hSw; go_simp; try with_reducible rfl))
  simp only [Act.put, List.getElem_toArray, List.getElem_cons_succ, List.getElem_cons_zero, List.setIfInBounds_toArray, List.set_cons_zero, List.set_cons_succ]
  (refine wpAnyH_take (i := 10) (v := ?hv25) rfl (by kernel_rfl) (by kernel_rfl) (by kernel_rfl) (fun _ _ _ h => h) (Or.inl ⟨by kernel_rfl, ?hy25⟩) hHeld ?hr25; case hy25 => (intro w hSw; (try dsimp only at hSw); go_simp; try with_reducible rfl))
  simp only [Act.put, List.getElem_toArray, List.getElem_cons_succ, List.getElem_cons_zero, List.setIfInBounds_toArray, List.set_cons_zero, List.set_cons_succ]
  refine wpAnyH_ready (rs := [4, 11]) (by kernel_rfl) (by simp) ?_
  refine AllReadyH.cons rfl (fun K hK => ?_) (AllReadyH.cons rfl (fun K hK => ?_) (AllReadyH.nil))
  · skip
    go_simp
    refine hK.out _ _ hHeld (fun hHeld => ?_)
    clear hK K
    try simp only [Act.put, List.getElem_toArray, List.getElem_cons_succ, List.getElem_cons_zero, List.setIfInBounds_toArray, List.set_cons_zero, List.set_cons_succ]
    refine wpAnyH_ready (rs := [11]) (by kernel_rfl) (by simp) ?_
    refine AllReadyH.cons rfl (fun K hK => ?_) (AllReadyH.nil)
    go_simp
    refine hK.out _ _ S1.out (fun hHeld => ?_)
    clear hK K
    try simp only [Act.put, List.getElem_toArray, List.getElem_cons_succ, List.getElem_cons_zero, List.setIfInBounds_toArray, List.set_cons_zero, List.set_cons_succ]
    refine wpAnyH_ready (rs := [12]) (by kernel_rfl) (by simp) ?_
    refine AllReadyH.cons rfl (fun K hK => ?_) (AllReadyH.nil)
    refine step_app rfl (.tmp 36) (.tmp 43) 138 rfl rfl rfl HR9.out ?_
    refine hK.out _ _ S2.out (fun hHeld => ?_)
    clear hK K
    try simp only [Act.put, List.getElem_toArray, List.getElem_cons_succ, List.getElem_cons_zero, List.setIfInBounds_toArray, List.set_cons_zero, List.set_cons_succ]
    (refine wpAnyH_take (i := 13) (v := ?hv26) rfl (by kernel_rfl) (by kernel_rfl) (by kernel_rfl) (fun _ _ _ h => h) (Or.inl ⟨by kernel_rfl, ?hy26⟩) hHeld ?hr26; case hy26 => (intro w hSw; (try dsimp only at hSw); go_simp; try with_reducible rfl))
    simp only [Act.put, List.getElem_toArray, List.getElem_cons_succ, List.getElem_cons_zero, List.setIfInBounds_toArray, List.set_cons_zero, List.set_cons_succ]
    (refine wpAnyH_take (i := 14) (v := ?hv27) rfl (by kernel_rfl) (by kernel_rfl) (by kernel_rfl) (fun _ _ _ h => h) (Or.inl ⟨by kernel_rfl, ?hy27⟩) hHeld ?hr27; case hy27 => (intro w hSw; (try dsimp only at hSw); go_simp; try with_reducible rfl))
    simp only [Act.put, List.getElem_toArray, List.getElem_cons_succ, List.getElem_cons_zero, List.setIfInBounds_toArray, List.set_cons_zero, List.set_cons_succ]
    refine wpAnyH_ready (rs := [15]) (by kernel_rfl) (by simp) ?_
    refine AllReadyH.cons rfl (fun K hK => ?_) (AllReadyH.nil)
    go_simp
    refine hK.out _ _ S3.out (fun hHeld => ?_)
    clear hK K
    try simp only [Act.put, List.getElem_toArray, List.getElem_cons_succ, List.getElem_cons_zero, List.setIfInBounds_toArray, List.set_cons_zero, List.set_cons_succ]
    refine wpAnyH_done (by kernel_rfl) ?_ _
    clear u0 u1 u6 f6 hHeld
    go_wp2
    go_ret
    rw [HN.out]
    have hn6 := HN6.out
    clear HN6
    subst hn6
    exact ⟨Or.inl ⟨rfl, rfl, ⟨ca, cc, a6, c6, l1, w6.heap.size, l2, g2, _, _, _, _, HG7.out, HA7.out, HC7.out, by omega, HLE.out, hr2, hr3, by omega, hr5, HDJ.out, HNG.out⟩⟩, HBF.out⟩
  · skip
    go_simp
    refine hK.out _ _ S1.out (fun hHeld => ?_)
    clear hK K
    try simp only [Act.put, List.getElem_toArray, List.getElem_cons_succ, List.getElem_cons_zero, List.setIfInBounds_toArray, List.set_cons_zero, List.set_cons_succ]
    refine wpAnyH_ready (rs := [4]) (by kernel_rfl) (by simp) ?_
    refine AllReadyH.cons rfl (fun K hK => ?_) (AllReadyH.nil)
    go_simp
    refine hK.out _ _ hHeld (fun hHeld => ?_)
    clear hK K
    try simp only [Act.put, List.getElem_toArray, List.getElem_cons_succ, List.getElem_cons_zero, List.setIfInBounds_toArray, List.set_cons_zero, List.set_cons_succ]
    refine wpAnyH_ready (rs := [12]) (by kernel_rfl) (by simp) ?_
    refine AllReadyH.cons rfl (fun K hK => ?_) (AllReadyH.nil)
    refine step_app rfl (.tmp 36) (.tmp 43) 138 rfl rfl rfl HR9.out ?_
    refine hK.out _ _ S2.out (fun hHeld => ?_)
    clear hK K
    try simp only [Act.put, List.getElem_toArray, List.getElem_cons_succ, List.getElem_cons_zero, List.setIfInBounds_toArray, List.set_cons_zero, List.set_cons_succ]
    (refine wpAnyH_take (i := 13) (v := ?hv28) rfl (by kernel_rfl) (by kernel_rfl) (by kernel_rfl) (fun _ _ _ h => h) (Or.inl ⟨by kernel_rfl, ?hy28⟩) hHeld ?hr28; case hy28 => (intro w hSw; (try dsimp only at hSw); go_simp; try with_reducible rfl))
    simp only [Act.put, List.getElem_toArray, List.getElem_cons_succ, List.getElem_cons_zero, List.setIfInBounds_toArray, List.set_cons_zero, List.set_cons_succ]
    (refine wpAnyH_take (i := 14) (v := ?hv29) rfl (by kernel_rfl) (by kernel_rfl) (by kernel_rfl) (fun _ _ _ h => h) (Or.inl ⟨by kernel_rfl, ?hy29⟩) hHeld ?hr29; case hy29 => (intro w hSw; (try dsimp only at hSw); go_simp; try with_reducible rfl))
    simp only [Act.put, List.getElem_toArray, List.getElem_cons_succ, List.getElem_cons_zero, List.setIfInBounds_toArray, List.set_cons_zero, List.set_cons_succ]
    refine wpAnyH_ready (rs := [15]) (by kernel_rfl) (by simp) ?_
    refine AllReadyH.cons rfl (fun K hK => ?_) (AllReadyH.nil)
    go_simp
    refine hK.out _ _ S3.out (fun hHeld => ?_)
    clear hK K
    try simp only [Act.put, List.getElem_toArray, List.getElem_cons_succ, List.getElem_cons_zero, List.setIfInBounds_toArray, List.set_cons_zero, List.set_cons_succ]
    refine wpAnyH_done (by kernel_rfl) ?_ _
    clear u0 u1 u6 f6 hHeld
    go_wp2
    go_ret
    rw [HN.out]
    have hn6 := HN6.out
    clear HN6
    subst hn6
    exact ⟨Or.inl ⟨rfl, rfl, ⟨ca, cc, a6, c6, l1, w6.heap.size, l2, g2, _, _, _, _, HG7.out, HA7.out, HC7.out, by omega, HLE.out, hr2, hr3, by omega, hr5, HDJ.out, HNG.out⟩⟩, HBF.out⟩

theorem wp_le {C : List (List D_Label)} {L : List D_Job} {now : Int} {lo g : Nat} {w : World} (h : WP C L now lo g w) : lo ≤ w.heap.size := by
  obtain ⟨ca, cc, ja, jc, l1, h1, l2, h2, xs, Sf, ys, Sg, hG, hA, hB, r1, r2, _⟩ := h
  have := hA.le
  omega
set_option maxRecDepth 100000 in
set_option maxHeartbeats 3200000 in
theorem submit_impl {C : List (List D_Label)} {L : List D_Job} {now l s need long prio : Int} {ca ja : Option Addr} {cc jc : Nat} {W : World} (hC : RdSl (Sl R_Label) W W.heap.size C ca cc) (hL : RdSl R_Job W W.heap.size L ja jc) :
    Calls Try.prog 53 #[.agg #[.slice ca C.length cc, .slice ja L.length jc, .int .i64 now], .agg #[.int .i64 l, .int .i64 s], .int .i64 need, .int .i64 long, .int .i64 prio] W (PoolG (subD C L now l s need long prio) W) := by
  have hcf : ∀ (args : Array Value) (w : World), (callFunc 114 args).run Try.prog w = .ok (.enter 114 args) w := fun _ _ => rfl
  have hmf : ∀ (fn : Fn) (first cap : Array Value) (w : World), (Instr.makeFunc fn first cap).run Try.prog w = .ok (.func fn first cap) w := fun _ _ _ _ => rfl
  obtain ⟨W0, hW0⟩ : ∃ w, w = ((((((W.alloc (.cells #[.slice ca C.length cc, .slice ja L.length jc, .int .i64 now] 65)).alloc (.cells #[.int .i64 l, .int .i64 s] 43)).alloc (.cells #[.int .i64 need] 2)).alloc (.cells #[.int .i64 long] 2)).alloc (.cells #[.int .i64 prio] 2)).alloc (.cells #[.slice none 0 0, .slice none 0 0, .int .i64 0, .int .i64 0, .int .i64 0] 71)) := ⟨_, rfl⟩
  have hs0 : W0.heap.size = W.heap.size + 6 := by rw [hW0]; simp
  have HA := Lib.hid (show Below W.heap.size W W0 from by rw [hW0]; exact ((((((Below.refl _ _).alloc (Nat.le_refl _) _).alloc (by simp) _).alloc (by simp; omega) _).alloc (by simp; omega) _).alloc (by simp; omega) _).alloc (by simp; omega) _)
  have HK0 := Lib.hid (show Blk W0 W.heap.size 65 #[.slice ca C.length cc, .slice ja L.length jc, .int .i64 now] from by
    rw [hW0]
    have h := ((((((Blk.new W 65 #[.slice ca C.length cc, .slice ja L.length jc, .int .i64 now]).alloc (.cells #[.int .i64 l, .int .i64 s] 43)).alloc (.cells #[.int .i64 need] 2)).alloc (.cells #[.int .i64 long] 2)).alloc (.cells #[.int .i64 prio] 2)).alloc (.cells #[.slice none 0 0, .slice none 0 0, .int .i64 0, .int .i64 0, .int .i64 0] 71))
    skip
    exact h)
  have HK1 := Lib.hid (show Blk W0 (W.heap.size + 1) 43 #[.int .i64 l, .int .i64 s] from by
    rw [hW0]
    have h := (((((Blk.new (W.alloc (.cells #[.slice ca C.length cc, .slice ja L.length jc, .int .i64 now] 65)) 43 #[.int .i64 l, .int .i64 s]).alloc (.cells #[.int .i64 need] 2)).alloc (.cells #[.int .i64 long] 2)).alloc (.cells #[.int .i64 prio] 2)).alloc (.cells #[.slice none 0 0, .slice none 0 0, .int .i64 0, .int .i64 0, .int .i64 0] 71))
    simp only [World.size_alloc] at h
    exact h)
  have HK2 := Lib.hid (show Blk W0 (W.heap.size + 1 + 1) 2 #[.int .i64 need] from by
    rw [hW0]
    have h := ((((Blk.new ((W.alloc (.cells #[.slice ca C.length cc, .slice ja L.length jc, .int .i64 now] 65)).alloc (.cells #[.int .i64 l, .int .i64 s] 43)) 2 #[.int .i64 need]).alloc (.cells #[.int .i64 long] 2)).alloc (.cells #[.int .i64 prio] 2)).alloc (.cells #[.slice none 0 0, .slice none 0 0, .int .i64 0, .int .i64 0, .int .i64 0] 71))
    simp only [World.size_alloc] at h
    exact h)
  have HK3 := Lib.hid (show Blk W0 (W.heap.size + 1 + 1 + 1) 2 #[.int .i64 long] from by
    rw [hW0]
    have h := (((Blk.new (((W.alloc (.cells #[.slice ca C.length cc, .slice ja L.length jc, .int .i64 now] 65)).alloc (.cells #[.int .i64 l, .int .i64 s] 43)).alloc (.cells #[.int .i64 need] 2)) 2 #[.int .i64 long]).alloc (.cells #[.int .i64 prio] 2)).alloc (.cells #[.slice none 0 0, .slice none 0 0, .int .i64 0, .int .i64 0, .int .i64 0] 71))
    simp only [World.size_alloc] at h
    exact h)
  have HK4 := Lib.hid (show Blk W0 (W.heap.size + 1 + 1 + 1 + 1) 2 #[.int .i64 prio] from by
    rw [hW0]
    have h := ((Blk.new ((((W.alloc (.cells #[.slice ca C.length cc, .slice ja L.length jc, .int .i64 now] 65)).alloc (.cells #[.int .i64 l, .int .i64 s] 43)).alloc (.cells #[.int .i64 need] 2)).alloc (.cells #[.int .i64 long] 2)) 2 #[.int .i64 prio]).alloc (.cells #[.slice none 0 0, .slice none 0 0, .int .i64 0, .int .i64 0, .int .i64 0] 71))
    simp only [World.size_alloc] at h
    exact h)
  have HK5 := Lib.hid (show Blk W0 (W.heap.size + 1 + 1 + 1 + 1 + 1) 71 #[.slice none 0 0, .slice none 0 0, .int .i64 0, .int .i64 0, .int .i64 0] from by
    rw [hW0]
    have h := (Blk.new (((((W.alloc (.cells #[.slice ca C.length cc, .slice ja L.length jc, .int .i64 now] 65)).alloc (.cells #[.int .i64 l, .int .i64 s] 43)).alloc (.cells #[.int .i64 need] 2)).alloc (.cells #[.int .i64 long] 2)).alloc (.cells #[.int .i64 prio] 2)) 71 #[.slice none 0 0, .slice none 0 0, .int .i64 0, .int .i64 0, .int .i64 0])
    simp only [World.size_alloc] at h
    exact h)
  have HC := Lib.hid (rd_mv (Sl_ok R_Label_ok) hC HA.out)
  have HL := Lib.hid (rd_mv R_Job_ok hL HA.out)
  clear hC hL
  have k0 := HK0.out.at_ 0 rfl
  have k1 := HK0.out.at_ 1 rfl
  have k2 := HK0.out.at_ 2 rfl
  go_enter Try.func53, Try.ntmps53
  go_wp2_with fail
  rw [← hW0]
  clear hW0
  go_wp2_with fail
  refine (attempt_spec (now := now) HC.out HL.out (f := 114) (caps := #[.pointer (some ⟨W.heap.size + 1, 0, none⟩), .pointer (some ⟨W.heap.size + 1 + 1, 0, none⟩), .pointer (some ⟨W.heap.size + 1 + 1 + 1, 0, none⟩), .pointer (some ⟨W.heap.size + 1 + 1 + 1 + 1, 0, none⟩)]) (r := subD C L now l s need long prio) hcf (fun hp => if_pos (fun h => hp h.1)) (fun hp w lo g hlo hb hwp => sub_work hp (HK1.out.call hb) (HK2.out.call hb) (HK3.out.call hb) (HK4.out.call hb) (by omega) (wp_le hwp) hwp)).mono ?_
  intro e w1 h
  obtain ⟨ca1, cc1, ja1, jc1, T1, T2, rfl, h1, h2, hdj, o1, o2, hb⟩ := poolG_elim h
  have HR1 := Lib.hid (HK5.out.call hb)
  have HB1 := Lib.hid (HA.out.trans (hb.mono HA.out.size))
  have O1 := Lib.hid o1
  have O2 := Lib.hid o2
  have T1H := Lib.hid h1
  have T2H := Lib.hid h2
  have DJ := Lib.hid hdj
  clear h h1 h2 hdj o1 o2 hb k0 k1 k2
  obtain ⟨⟨dC, dL, dn, di, dc⟩, hD⟩ : ∃ d, subD C L now l s need long prio = d := ⟨_, rfl⟩
  have HD := Lib.hid hD
  rw [hD] at O1 O2 ⊢
  clear hD
  simp only at O1 O2 ⊢
  have r0 := HR1.out.at_ 0 rfl
  have f0 := HR1.out.soft 0
  have r1 := HR1.out.at_ 1 rfl
  have f1 := HR1.out.soft 1
  have r2 := HR1.out.at_ 2 rfl
  have f2 := HR1.out.soft 2
  have r3 := HR1.out.at_ 3 rfl
  have f3 := HR1.out.soft 3
  have r4 := HR1.out.at_ 4 rfl
  have f4 := HR1.out.soft 4
  go_wp2
  refine bodyPost_ret (v := .agg #[.slice ca1 dC.length cc1, .slice ja1 dL.length jc1, .int .i64 dn, .int .i64 di, .int .i64 dc]) (by simp [results, Try.results53, go_sem, *]) rfl ?_
  have hoff := ((((((Off.refl (fun x => x = W.heap.size + 1 + 1 + 1 + 1 + 1) w1).setCell (p := ⟨W.heap.size + 1 + 1 + 1 + 1 + 1, 0, none⟩) rfl (.slice ca1 dC.length cc1)).setCell (p := ⟨W.heap.size + 1 + 1 + 1 + 1 + 1, 1, none⟩) rfl (.slice ja1 dL.length jc1)).setCell (p := ⟨W.heap.size + 1 + 1 + 1 + 1 + 1, 2, none⟩) rfl (.int .i64 dn)).setCell (p := ⟨W.heap.size + 1 + 1 + 1 + 1 + 1, 3, none⟩) rfl (.int .i64 di)).setCell (p := ⟨W.heap.size + 1 + 1 + 1 + 1 + 1, 4, none⟩) rfl (.int .i64 dc))
  rw [HD.out]
  exact poolG_box (d := (dC, dL, dn, di, dc)) T1H.out T2H.out DJ.out O1.out O2.out (by omega) HA.out.size hoff (((((HB1.out.setCell (p := ⟨W.heap.size + 1 + 1 + 1 + 1 + 1, 0, none⟩) (by show W.heap.size ≤ W.heap.size + 1 + 1 + 1 + 1 + 1; omega) (.slice ca1 dC.length cc1)).setCell (p := ⟨W.heap.size + 1 + 1 + 1 + 1 + 1, 1, none⟩) (by show W.heap.size ≤ W.heap.size + 1 + 1 + 1 + 1 + 1; omega) (.slice ja1 dL.length jc1)).setCell (p := ⟨W.heap.size + 1 + 1 + 1 + 1 + 1, 2, none⟩) (by show W.heap.size ≤ W.heap.size + 1 + 1 + 1 + 1 + 1; omega) (.int .i64 dn)).setCell (p := ⟨W.heap.size + 1 + 1 + 1 + 1 + 1, 3, none⟩) (by show W.heap.size ≤ W.heap.size + 1 + 1 + 1 + 1 + 1; omega) (.int .i64 di)).setCell (p := ⟨W.heap.size + 1 + 1 + 1 + 1 + 1, 4, none⟩) (by show W.heap.size ≤ W.heap.size + 1 + 1 + 1 + 1 + 1; omega) (.int .i64 dc))
end Go.Proofs.Ytjpkeofpcpaoaaa.RepC
