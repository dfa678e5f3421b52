/- FnSpan's walk. -/
import Derived.Test.YtphklknaagjmpaaTk
import Derived.Test.YtphklknaagjmpaaSpLw
import Derived.Deep.DeepCutAuto
namespace Go.Proofs.Ytphklknaagjmpaa.SpanC
open Go.RowKit KeptC RowC ValC DrawC RepC
set_option linter.unusedVariables false
set_option linter.unusedSimpArgs false
set_option maxRecDepth 100000

theorem fitR_len {N : Nat → Nat} {F : Nat → Nat → Int × Int} {a b : Int} {m : Nat} {need : Int} {L : List Nat} (h : FitR N F a b m need L) : L.length ≤ m := by
  rcases h with ⟨_, rfl⟩ | ⟨_, rfl⟩
  · rw [List.length_take]; have := frs_len (N := N) (F := F) (a := a) (b := b) m; omega
  · simp
theorem fit_at {N : Nat → Nat} {F : Nat → Nat → Int × Int} {a b : Int} {m : Nat} {need : Int} {L : List Nat} (h : FitR N F a b m need L) (h1 : RowsP m N F) (h2 : isB need 1 6 = true) (h3 : spP a b) (h4 : need ≤ (frs N F a b m).length) : (L.length : Int) = need := by
  obtain ⟨q, rfl, hq1, hq2⟩ := need_nat h2
  rcases h with ⟨_, rfl⟩ | ⟨hn, _⟩
  · rw [List.length_take, Int.toNat_natCast]; omega
  · exact absurd ⟨h1, h2, h3, h4⟩ hn
theorem fit_no {N : Nat → Nat} {F : Nat → Nat → Int × Int} {a b : Int} {m : Nat} {need : Int} {L : List Nat} (h : FitR N F a b m need L) (h4 : ¬ need ≤ (frs N F a b m).length) : L = [] := by
  rcases h with ⟨hc, _⟩ | ⟨_, rfl⟩
  · exact absurd hc.2.2.2 h4
  · rfl
theorem firstR_pos {N : Nat → Nat} {F : Nat → Nat → Int × Int} {m : Nat} {need len now t : Int} (h : FirstR N F m need len now t) (ht : 0 ≤ t) : RowsP m N F ∧ isB need 1 6 = true ∧ 1 ≤ len ∧ len ≤ 40 ∧ 0 ≤ now ∧ now ≤ 999900 ∧
    ∃ k0 : Nat, k0 ≤ 40 ∧ t = now + k0 ∧ need ≤ (frs N F t (t + len) m).length ∧ ∀ j : Nat, j < k0 → ¬ need ≤ (frs N F (now + j) (now + j + len) m).length := by
  rcases h with ⟨⟨h1, h2, h3, h4⟩, hq⟩ | ⟨_, rfl⟩
  · obtain ⟨q, rfl, hq1, hq2⟩ := need_nat h2
    have e3 := (isB_iff _ _ _).1 h3
    have e4 := (isB_iff _ _ _).1 h4
    refine ⟨h1, h2, e3.1, e3.2, e4.1, e4.2, ?_⟩
    rcases hq with ⟨k, hk, e, hok, hno⟩ | ⟨e, _⟩
    · refine ⟨k, hk, e, ?_, fun j hj h9 => hno j hj ?_⟩
      · subst e; unfold okT at hok; rw [Int.toNat_natCast] at hok; omega
      · unfold okT; rw [Int.toNat_natCast]; omega
    · omega
  · omega

set_option maxHeartbeats 8000000 in
theorem law_span (ba : Option Addr) (la ca : Nat) (bm : Option Addr) (lm cm : Nat) (W : World) (hC : CodeIn W ba la) (hM : CodeIn W bm lm) :
    Calls Try.prog 3 #[.slice ba la ca, .slice bm lm cm] W fun e w' => e = .returned (.bool true) ∧ Below W.heap.size W w' := by
  have HC := Lib.hid hC
  have HM := Lib.hid hM
  clear hC hM
  go_enter Try.func3, Try.ntmps3
  by_cases hla : la ≤ 1048576
  · by_cases hlm : lm ≤ 1048576
    · have d1 : decide ((1048576 : Int) < (la : Int)) = false := decide_eq_false (by omega)
      have d2 : decide ((1048576 : Int) < (lm : Int)) = false := decide_eq_false (by omega)
      go_wp2_with fail
      have HB := Lib.hid (Below.refl W.heap.size W)
      refine (draw_spanput ba la ca _ hla HC.out).mono ?_
      intro e w1 h
      obtain ⟨v, n, f, x, y, rfl, hn21, hrow, hb⟩ := drawnFree_elim h
      obtain ⟨qa, qc, rfl, hps⟩ := rowO_ps hrow
      have HC := Lib.hid (HC.out.below hb)
      have HM := Lib.hid (HM.out.below hb)
      have HB := Lib.hid (HB.out.trans (hb.mono HB.out.size))
      clear hb
      have HL := Lib.hid hps
      clear h hrow hps
      obtain ⟨W2, hV⟩ : ∃ z9, z9 = w1.alloc (.cells #[.int .i64 x, .int .i64 y] 25) := ⟨_, rfl⟩
      have hb : Below w1.heap.size w1 W2 := by rw [hV]; exact (Below.refl _ _).alloc (Nat.le_refl _) _
      obtain ⟨b6, hn⟩ : ∃ b, b = w1.heap.size := ⟨_, rfl⟩
      have hq : Blk W2 b6 25 #[.int .i64 x, .int .i64 y] := by rw [hV, hn]; exact Blk.new _ _ _
      have HC := Lib.hid (HC.out.below hb)
      have HM := Lib.hid (HM.out.below hb)
      have HL := Lib.hid (HL.out.bel hb)
      have HB := Lib.hid (HB.out.trans (hb.mono HB.out.size))
      clear hb
      have Bb6 := Lib.hid hq
      clear hq
      go_upto_region 4 with fail
      rw [← hV]
      try rw [← hn]
      clear hV hn
      have qb60 := Bb6.out.at_ 0 rfl
      have qb61 := Bb6.out.at_ 1 rfl
      go_wp2_with fail
      refine (put_impl qa n qc f x y _ (by omega) HL.out).mono ?_
      intro e w3 h
      obtain ⟨v, m7, h7, rfl, hq, hrow, hb⟩ := resRow_elim h
      obtain ⟨pa, pcc, rfl, hps⟩ := rowO_ps hrow
      have HC := Lib.hid (HC.out.below hb)
      have HM := Lib.hid (HM.out.below hb)
      have HL := Lib.hid (HL.out.bel hb)
      have Bb6 := Lib.hid (Bb6.out.call hb)
      have HB := Lib.hid (HB.out.trans (hb.mono HB.out.size))
      clear hb
      have HP := Lib.hid hps
      have HQ := Lib.hid hq
      have hm7 : m7 ≤ 22 := by have := putP_len hq; omega
      clear h hq hrow hps qb60 qb61
      go_wp2_with fail
      refine (draw_firstfit bm lm cm _ hlm HM.out).mono ?_
      intro e w4 h
      obtain ⟨v, m, N, F, qA, qC, need, l, now, rfl, hm4, hrow, hb⟩ := drawnFF_elim h
      obtain ⟨ra, rc, rfl, hra⟩ := hrow.ra
      have HC := Lib.hid (HC.out.below hb)
      have HM := Lib.hid (HM.out.below hb)
      have HL := Lib.hid (HL.out.bel hb)
      have Bb6 := Lib.hid (Bb6.out.call hb)
      have HP := Lib.hid (HP.out.bel hb)
      have HB := Lib.hid (HB.out.trans (hb.mono HB.out.size))
      clear hb
      have HR := Lib.hid hra
      have HN := Lib.hid (show ∀ i, i < m → N i ≤ 1048576 from fun i hi => by have := hrow.len i hi; omega)
      clear h hrow hra
      go_wp2_with fail
      refine (firstfit_impl need l now (by omega) HN.out HR.out).mono ?_
      intro e w5 h
      obtain ⟨t, rfl, hq, hb⟩ := resT_elim h
      have HC := Lib.hid (HC.out.below hb)
      have HM := Lib.hid (HM.out.below hb)
      have HL := Lib.hid (HL.out.bel hb)
      have Bb6 := Lib.hid (Bb6.out.call hb)
      have HP := Lib.hid (HP.out.bel hb)
      have HR := Lib.hid (HR.out.below hb)
      have HB := Lib.hid (HB.out.trans (hb.mono HB.out.size))
      clear hb
      have HT := Lib.hid hq
      clear h hq
      go_wp2_with fail
      refine (draw_fitnodes ba la ca _ hla HC.out).mono ?_
      intro e w6 h
      obtain ⟨v, m2, N2, F2, qA2, qC2, need2, x2, y2, rfl, hm42, hrow, hb⟩ := drawnFN_elim h
      obtain ⟨sa, sc, rfl, hra⟩ := hrow.ra
      have HC := Lib.hid (HC.out.below hb)
      have HM := Lib.hid (HM.out.below hb)
      have HL := Lib.hid (HL.out.bel hb)
      have Bb6 := Lib.hid (Bb6.out.call hb)
      have HP := Lib.hid (HP.out.bel hb)
      have HR := Lib.hid (HR.out.below hb)
      have HB := Lib.hid (HB.out.trans (hb.mono HB.out.size))
      clear hb
      have HS := Lib.hid hra
      have HN2 := Lib.hid (show ∀ i, i < m2 → N2 i ≤ 1048576 from fun i hi => by have := hrow.len i hi; omega)
      clear h hrow hra
      obtain ⟨W7, hV⟩ : ∃ z9, z9 = w6.alloc (.cells #[.int .i64 x2, .int .i64 y2] 25) := ⟨_, rfl⟩
      have hb : Below w6.heap.size w6 W7 := by rw [hV]; exact (Below.refl _ _).alloc (Nat.le_refl _) _
      obtain ⟨b15, hn⟩ : ∃ b, b = w6.heap.size := ⟨_, rfl⟩
      have hq : Blk W7 b15 25 #[.int .i64 x2, .int .i64 y2] := by rw [hV, hn]; exact Blk.new _ _ _
      have HC := Lib.hid (HC.out.below hb)
      have HM := Lib.hid (HM.out.below hb)
      have HL := Lib.hid (HL.out.bel hb)
      have Bb6 := Lib.hid (Bb6.out.call hb)
      have HP := Lib.hid (HP.out.bel hb)
      have HR := Lib.hid (HR.out.below hb)
      have HS := Lib.hid (HS.out.below hb)
      have HB := Lib.hid (HB.out.trans (hb.mono HB.out.size))
      clear hb
      have Bb15 := Lib.hid hq
      clear hq
      go_upto_region 8 with fail
      rw [← hV]
      try rw [← hn]
      clear hV hn
      go_wp2_with fail
      refine (draw_isfree bm lm cm _ hlm HM.out).mono ?_
      intro e w8 h
      obtain ⟨v, n3, f3, x3, y3, rfl, hn3, hrow, hb⟩ := drawnFree_elim h
      obtain ⟨ga, gc, rfl, hps⟩ := rowO_ps hrow
      have HC := Lib.hid (HC.out.below hb)
      have HM := Lib.hid (HM.out.below hb)
      have HL := Lib.hid (HL.out.bel hb)
      have Bb6 := Lib.hid (Bb6.out.call hb)
      have HP := Lib.hid (HP.out.bel hb)
      have HR := Lib.hid (HR.out.below hb)
      have HS := Lib.hid (HS.out.below hb)
      have Bb15 := Lib.hid (Bb15.out.call hb)
      have HB := Lib.hid (HB.out.trans (hb.mono HB.out.size))
      clear hb
      have HG := Lib.hid hps
      clear h hrow hps
      obtain ⟨W9, hV⟩ : ∃ z9, z9 = w8.alloc (.cells #[.int .i64 x3, .int .i64 y3] 25) := ⟨_, rfl⟩
      have hb : Below w8.heap.size w8 W9 := by rw [hV]; exact (Below.refl _ _).alloc (Nat.le_refl _) _
      obtain ⟨b17, hn⟩ : ∃ b, b = w8.heap.size := ⟨_, rfl⟩
      have hq : Blk W9 b17 25 #[.int .i64 x3, .int .i64 y3] := by rw [hV, hn]; exact Blk.new _ _ _
      have HC := Lib.hid (HC.out.below hb)
      have HM := Lib.hid (HM.out.below hb)
      have HL := Lib.hid (HL.out.bel hb)
      have Bb6 := Lib.hid (Bb6.out.call hb)
      have HP := Lib.hid (HP.out.bel hb)
      have HR := Lib.hid (HR.out.below hb)
      have HS := Lib.hid (HS.out.below hb)
      have Bb15 := Lib.hid (Bb15.out.call hb)
      have HG := Lib.hid (HG.out.bel hb)
      have HB := Lib.hid (HB.out.trans (hb.mono HB.out.size))
      clear hb
      have Bb17 := Lib.hid hq
      clear hq
      go_upto_region 9 with fail
      rw [← hV]
      try rw [← hn]
      clear hV hn
      go_cut [100] from 58 to 100 (fun s wx => s = .bool false ∧ Hid (Below W9.heap.size W9 wx))
      case first =>
        refine wp_region_held_drew (S := (fun V => Below (W9).heap.size (W9) V)) (by kernel_rfl) ((Below.refl _ _).drew) (fun hHeld => ?_)
        refine tk 0 hHeld ?_
        refine tk 1 hHeld ?_
        refine tk 2 hHeld ?_ (hy := fun w hSw => by (try dsimp only at hSw); have k0 := (hSw.cell (p := ⟨b6, 0, none⟩) Bb6.out.lt).trans (Bb6.out.at_ 0 rfl); have k1 := (hSw.cell (p := ⟨b6, 1, none⟩) Bb6.out.lt).trans (Bb6.out.at_ 1 rfl); clear hSw; go_simp; try with_reducible rfl)
        refine rd1 3 (fun K hK => ?_)
        go_simp
        go_at_call 11
        refine (put_spec qa n qc f x y _ (by omega) (HL.out.bel hHeld)).mono ?_
        intro e V1 h
        obtain ⟨v61, m61, h61, rfl, hq61, hrow61, hb⟩ := resRow_elim h
        obtain ⟨sa61, sc61, rfl, hps61⟩ := rowO_ps hrow61
        obtain ⟨hmm, hff⟩ := putP_one HQ.out hq61
        subst hmm
        have HS61 := Lib.hid hps61
        have HE61 := Lib.hid hff
        clear h hq61 hrow61 hps61 hff
        refine hK.out _ _ (hHeld.trans (hb.mono hHeld.size)) (fun hHeld => ?_)
        clear hK K hb
        refine rd1 4 (fun K hK => ?_)
        go_simp
        go_at_call 10
        refine (lwspans_v (by omega) (HP.out.bel hHeld).pa HS61.out.pa HE61.out).mono ?_
        rintro e V2 ⟨rfl, hb⟩
        refine hK.out _ _ (hHeld.trans (hb.mono hHeld.size)) (fun hHeld => ?_)
        clear hK K hb
        refine tk 5 hHeld ?_
        refine tk 6 hHeld ?_
        refine tk 7 hHeld ?_
        refine tk 8 hHeld ?_
        refine tk 9 hHeld ?_
        refine tk 10 hHeld ?_
        refine tk 11 hHeld ?_
        refine rd1 12 (fun K hK => ?_)
        go_simp
        go_at_call 12
        refine (firstfit_spec need l now (by omega) HN.out (HR.out.below hHeld)).mono ?_
        intro e V3 h
        obtain ⟨t', rfl, hq70, hb⟩ := resT_elim h
        obtain rfl : t = t' := firstR_one HT.out hq70
        clear h hq70
        refine hK.out _ _ (hHeld.trans (hb.mono hHeld.size)) (fun hHeld => ?_)
        clear hK K hb
        refine tk 13 hHeld ?_
        refine tk 14 hHeld ?_
        refine tk 15 hHeld ?_
        refine tk 16 hHeld ?_
        refine tk 17 hHeld ?_
        refine tk 18 hHeld ?_ (hy := fun w hSw => by (try dsimp only at hSw); have k0 := (hSw.cell (p := ⟨b15, 0, none⟩) Bb15.out.lt).trans (Bb15.out.at_ 0 rfl); have k1 := (hSw.cell (p := ⟨b15, 1, none⟩) Bb15.out.lt).trans (Bb15.out.at_ 1 rfl); clear hSw; go_simp; try with_reducible rfl)
        refine tk 20 hHeld ?_
        refine tk 21 hHeld ?_
        refine tk 22 hHeld ?_ (hy := fun w hSw => by (try dsimp only at hSw); have k0 := (hSw.cell (p := ⟨b15, 0, none⟩) Bb15.out.lt).trans (Bb15.out.at_ 0 rfl); have k1 := (hSw.cell (p := ⟨b15, 1, none⟩) Bb15.out.lt).trans (Bb15.out.at_ 1 rfl); clear hSw; go_simp; try with_reducible rfl)
        refine rd1 19 (fun K hK => ?_)
        go_simp
        go_at_call 14
        refine (fitnodes_impl need2 x2 y2 (by omega) HN2.out (HS.out.below hHeld)).mono ?_
        intro e V4 h
        obtain ⟨a77, c77, L77, rfl, hq77, hp77, hb⟩ := resN_pi h
        have HQ77 := Lib.hid hq77
        have HP77 := Lib.hid hp77
        clear h hq77 hp77
        refine hK.out _ _ (hHeld.trans (hb.mono hHeld.size)) (fun hHeld => ?_)
        clear hK K hb
        refine rd1 23 (fun K hK => ?_)
        go_simp
        go_at_call 15
        refine (fitnodes_spec need2 x2 y2 (by omega) HN2.out (HS.out.below hHeld)).mono ?_
        intro e V5 h
        obtain ⟨a81, c81, L81, rfl, hq81, hp81, hb⟩ := resN_pi h
        obtain rfl : L77 = L81 := fitR_one HQ77.out hq81
        have HP77 := Lib.hid (HP77.out.bel hb)
        have HP81 := Lib.hid hp81
        clear h hq81 hp81
        refine hK.out _ _ (hHeld.trans (hb.mono hHeld.size)) (fun hHeld => ?_)
        clear hK K hb
        refine rd1 24 (fun K hK => ?_)
        go_simp
        go_at_call 13
        refine (lwnums_v (Nat.le_trans (fitR_len HQ77.out) (by omega)) HP77.out HP81.out).mono ?_
        rintro e V6 ⟨rfl, hb⟩
        refine hK.out _ _ (hHeld.trans (hb.mono hHeld.size)) (fun hHeld => ?_)
        clear hK K hb
        refine tk 25 hHeld ?_
        refine tk 26 hHeld ?_
        refine tk 27 hHeld ?_
        refine tk 28 hHeld ?_
        refine tk 29 hHeld ?_ (hy := fun w hSw => by (try dsimp only at hSw); have k0 := (hSw.cell (p := ⟨b17, 0, none⟩) Bb17.out.lt).trans (Bb17.out.at_ 0 rfl); have k1 := (hSw.cell (p := ⟨b17, 1, none⟩) Bb17.out.lt).trans (Bb17.out.at_ 1 rfl); clear hSw; go_simp; try with_reducible rfl)
        refine tk 31 hHeld ?_
        refine tk 32 hHeld ?_ (hy := fun w hSw => by (try dsimp only at hSw); have k0 := (hSw.cell (p := ⟨b17, 0, none⟩) Bb17.out.lt).trans (Bb17.out.at_ 0 rfl); have k1 := (hSw.cell (p := ⟨b17, 1, none⟩) Bb17.out.lt).trans (Bb17.out.at_ 1 rfl); clear hSw; go_simp; try with_reducible rfl)
        refine rd1 30 (fun K hK => ?_)
        go_simp
        go_at_call 16
        refine (isfree_impl ga n3 gc f3 x3 y3 _ (by omega) (HG.out.bel hHeld).pa).mono ?_
        intro e V7 h
        obtain ⟨c88, rfl, hc88, hb⟩ := resB_elim h
        have HC88 := Lib.hid hc88
        clear h hc88
        refine hK.out _ _ (hHeld.trans (hb.mono hHeld.size)) (fun hHeld => ?_)
        clear hK K hb
        refine rd1 33 (fun K hK => ?_)
        go_simp
        go_at_call 17
        refine (isfree_spec ga n3 gc f3 x3 y3 _ (by omega) (HG.out.bel hHeld).pa).mono ?_
        intro e V8 h
        obtain ⟨c91, rfl, hc91, hb⟩ := resB_elim h
        obtain rfl : c88 = c91 := Bool.eq_iff_iff.2 (HC88.out.trans hc91.symm)
        clear h hc91
        refine hK.out _ _ (hHeld.trans (hb.mono hHeld.size)) (fun hHeld => ?_)
        clear hK K hb
        refine tk 34 hHeld ?_
        refine tk 35 hHeld ?_
        refine tk 36 hHeld ?_
        refine tk 37 hHeld ?_
        refine tk 39 hHeld ?_
        refine rd1 38 (fun K hK => ?_)
        go_simp
        go_at_call 18
        refine (spans_impl qa n qc f _ (by omega) (HL.out.bel hHeld).pa).mono ?_
        intro e V9 h
        obtain ⟨c96, rfl, hc96, hb⟩ := resB_elim h
        have HC96 := Lib.hid hc96
        clear h hc96
        refine hK.out _ _ (hHeld.trans (hb.mono hHeld.size)) (fun hHeld => ?_)
        clear hK K hb
        refine rd1 40 (fun K hK => ?_)
        go_simp
        go_at_call 19
        refine (spansA_spec qa n qc f _ (by omega) (HL.out.bel hHeld).pa).mono ?_
        intro e V10 h
        obtain ⟨c98, rfl, hc98, hb⟩ := resB_elim h
        obtain rfl : c96 = c98 := Bool.eq_iff_iff.2 (HC96.out.trans hc98.symm)
        clear h hc98
        refine hK.out _ _ (hHeld.trans (hb.mono hHeld.size)) (fun hHeld => ?_)
        clear hK K hb
        refine tk 41 hHeld ?_
        refine tk 42 hHeld ?_
        refine rd0 ?_
        have HF := Lib.hid hHeld
        clear hHeld
        go_wp2_with fail
        go_meet
        exact ⟨rfl, HF⟩
      case rest =>
        obtain ⟨rfl, HF⟩ := hcut
        rename World => v0
        have hb := HF.out
        clear HF
        have HC := Lib.hid (HC.out.below hb)
        have HM := Lib.hid (HM.out.below hb)
        have HL := Lib.hid (HL.out.bel hb)
        have Bb6 := Lib.hid (Bb6.out.call hb)
        have HP := Lib.hid (HP.out.bel hb)
        have HR := Lib.hid (HR.out.below hb)
        have HS := Lib.hid (HS.out.below hb)
        have Bb15 := Lib.hid (Bb15.out.call hb)
        have HG := Lib.hid (HG.out.bel hb)
        have Bb17 := Lib.hid (Bb17.out.call hb)
        have HB := Lib.hid (HB.out.trans (hb.mono HB.out.size))
        clear hb
        have qb60 := Bb6.out.at_ 0 rfl
        have qb61 := Bb6.out.at_ 1 rfl
        go_upto_region 11 with fail
        go_cut [126] from 101 to 126 (fun s wx => s = .bool false ∧ Hid (Below v0.heap.size v0 wx))
        case first =>
          go_wp2_with fail
          refine (isfree_spec qa n qc f x y _ (by omega) HL.out.pa).mono ?_
          intro e v1 h
          obtain ⟨c, rfl, hc, hb⟩ := resB_elim h
          have HB1 := Lib.hid hb
          clear h
          cases c with
          | false =>
            clear hc hb
            go_wp2_with fail
            go_meet
            exact ⟨rfl, HB1⟩
          | true =>
            have HFR := Lib.hid (hc.1 rfl)
            have HP1 := Lib.hid (HP.out.bel hb)
            have B61 := Lib.hid (Bb6.out.call hb)
            have q610 := B61.out.at_ 0 rfl
            have q611 := B61.out.at_ 1 rfl
            clear hc hb
            by_cases h20 : n < 20
            · have hd : decide ((n : Int) < 20) = true := decide_eq_true (by omega)
              obtain ⟨hme, p, hp, hh⟩ : m7 = n + 1 ∧ ∃ p, PlaceP n f x p ∧ ∀ i, i < n + 1 → h7 i = insF f p (x, y) i := by
                rcases HQ.out with ⟨k1, _⟩ | ⟨_, k2, _⟩ | ⟨_, _, _, k4, k5⟩
                · omega
                · exact absurd ⟨HFR.out, h20⟩ k2
                · exact ⟨k4, k5⟩
              have HTK := Lib.hid (ins_taken HFR.out hp hh)
              have HRT := Lib.hid (ins_right HFR.out h20 hp hh)
              clear hp hh
              subst hme
              go_wp2_with fail
              refine (isfree_impl pa (n + 1) pcc h7 x y _ (by omega) HP1.out.pa).mono ?_
              intro e v2 h
              obtain ⟨c, rfl, hc, hb⟩ := resB_elim h
              obtain rfl : c = false := by cases c with | false => rfl | true => exact absurd (hc.1 rfl) HTK.out
              have HB2 := Lib.hid (HB1.out.trans (hb.mono HB1.out.size))
              have HP2 := Lib.hid (HP1.out.bel hb)
              clear h hc hb
              go_wp2_with fail
              refine (spansA_spec pa (n + 1) pcc h7 _ (by omega) HP2.out.pa).mono ?_
              intro e v3 h
              obtain ⟨c, rfl, hc, hb⟩ := resB_elim h
              obtain rfl : c = true := hc.2 HRT.out
              have HB3 := Lib.hid (HB2.out.trans (hb.mono HB2.out.size))
              clear h hc hb
              go_wp2_with fail
              go_meet
              exact ⟨rfl, HB3⟩
            · have hd : decide ((n : Int) < 20) = false := decide_eq_false (by omega)
              go_wp2_with fail
              go_meet
              exact ⟨rfl, HB1⟩
        case rest =>
          obtain ⟨rfl, HF⟩ := hcut
          rename World => u0
          have hb := HF.out
          clear HF HL HP HC HM HG HS Bb6 Bb15 Bb17 qb60 qb61
          have HR := Lib.hid (HR.out.below hb)
          have HB := Lib.hid (HB.out.trans (hb.mono HB.out.size))
          clear hb
          by_cases ht : t < 0
          · have hd : decide (t < 0) = true := decide_eq_true ht
            go_wp2
            go_ret
            exact ⟨rfl, HB.out⟩
          · have hd : decide (t < 0) = false := decide_eq_false ht
            obtain ⟨hRP, hIB, hl0, hl1, hw0, hw1, k0, hk0, htk, hok, hno⟩ := firstR_pos HT.out (by omega)
            have HNO := Lib.hid hno
            have HRP := Lib.hid hRP
            have HIB := Lib.hid hIB
            have HOK := Lib.hid hok
            have HTK := Lib.hid htk
            have ht0 : 0 ≤ t := by omega
            have ht1 : t ≤ 999940 := by omega
            clear hno hRP hIB hok htk hk0
            go_wp2_with fail
            refine (fitnodes_impl need t (t + l) (by omega) HN.out HR.out).mono ?_
            intro e u1 h
            obtain ⟨fa, fc, L, rfl, hq, hp, hb⟩ := resN_pi h
            have hL : (L.length : Int) = need := fit_at hq HRP.out HIB.out ⟨by omega, by omega, by omega⟩ HOK.out
            have HR1 := Lib.hid (HR.out.below hb)
            have HB1 := Lib.hid (HB.out.trans (hb.mono HB.out.size))
            clear h hq hp hb HR HB
            go_wp2_with fail
            clear hL
            go_loopw [18] (fun i wr => ∃ k : Nat, now + (k : Int) ≤ t ∧ i = .int .i64 (now + k) ∧ Hid (Below u1.heap.size u1 wr)) (fun i _ => (t - intOf i).toNat)
            case atStart => exact ⟨0, by have := HTK.out; omega, by simp, Lib.hid (Below.refl _ _)⟩
            case round =>
              obtain ⟨k, hk, rfl, HBW⟩ := hrel
              by_cases hlt : now + (k : Int) < t
              · have hd2 : decide (now + (k : Int) < t) = true := decide_eq_true hlt
                go_wp2_with fail
                refine (fitnodes_impl need (now + k) (now + k + l) (by omega) HN.out (HR1.out.below HBW.out)).mono ?_
                intro e u2 h
                obtain ⟨fa, fc, L, rfl, hq, hp, hb⟩ := resN_pi h
                obtain rfl : L = [] := fit_no hq (by have h9 := HNO.out k (by have := HTK.out; omega); omega)
                have HB2 := Lib.hid (HBW.out.trans (hb.mono HBW.out.size))
                clear h hq hp hb
                go_wp2_with fail
                go_roundw
                case rel => exact ⟨k + 1, by omega, by go_num, HB2⟩
                case measure => simp [intOf]; omega
              · have hd2 : decide (now + (k : Int) < t) = false := decide_eq_false hlt
                go_wp2
                go_ret
                exact ⟨rfl, HB1.out.trans (HBW.out.mono HB1.out.size)⟩
    · have d1 : decide ((1048576 : Int) < (la : Int)) = false := decide_eq_false (by omega)
      have d2 : decide ((1048576 : Int) < (lm : Int)) = true := decide_eq_true (by omega)
      go_wp2
      go_ret
      exact ⟨rfl, Below.refl _ _⟩
  · have d1 : decide ((1048576 : Int) < (la : Int)) = true := decide_eq_true (by omega)
    go_wp2
    go_ret
    exact ⟨rfl, Below.refl _ _⟩
end Go.Proofs.Ytphklknaagjmpaa.SpanC
