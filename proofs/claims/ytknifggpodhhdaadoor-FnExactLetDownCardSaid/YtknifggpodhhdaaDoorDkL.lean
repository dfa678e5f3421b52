/- Reads of the model: a contract. -/
import Derived.Test.YtknifggpodhhdaaDoorDkK
namespace Go.Proofs.YtknifggpodhhdaaDoor.RepC
open Go.RowKit RowC ValC SpanC KeptC
set_option linter.unusedVariables false
set_option linter.unusedSimpArgs false

theorem below2_at (l s m t : Int) {b : Bool} (hb : LabC.bB l s m t = b) (w : World) : Calls Tryd.prog 59 #[.agg #[.int .i64 l, .int .i64 s], .agg #[.int .i64 m, .int .i64 t]] w fun e w' => e = .returned (.bool b) ∧ Below w.heap.size w w' := by
  refine (LabC.below2_spec l s m t w).mono ?_
  unfold LabC.labO
  rintro e w1 ⟨rfl, rfl⟩
  exact ⟨by rw [hb], ((Below.refl _ _).alloc (Nat.le_refl _) _).alloc (by simp) _⟩
theorem to_right {P B A : List D_Letter} {u n : Int} (h : DeskR P B A u n) {k : Nat} {x : D_Letter} (hx : B[k]? = some x) : LabC.rB x.2.1.1 x.2.1.2 = true := by
  obtain ⟨p, hp, _, h2⟩ := (h.2.2.1.2 k x hx).1
  obtain ⟨i, hi⟩ := List.mem_iff_getElem?.1 hp
  have := (h.1.2 i p hi).2.1
  rwa [h2] at this
theorem words_step (q : D_Letter → Bool) {L : List D_Letter} {k : Nat} {x : D_Letter} (hx : L[k]? = some x) : ((L.take (k + 1)).filter q).map (fun x => x.2.2.2) = ((L.take k).filter q).map (fun x => x.2.2.2) ++ (if q x then [x.2.2.2] else []) := by
  rw [filter_step q hx, List.map_append]
  congr 1
  split <;> rfl
set_option maxRecDepth 100000 in
set_option maxHeartbeats 4000000 in
theorem reads_spec {P B A : List D_Letter} {pa ba aa : Option Addr} {pc bc ac : Nat} {u n : Int} {W : World} {l s : Int} (hP : RdSl R_Letter W W.heap.size P pa pc) (hB : RdSl R_Letter W W.heap.size B ba bc) (hA : RdSl R_Letter W W.heap.size A aa ac) :
    Calls Tryd.prog 36 #[.agg #[.slice pa P.length pc, .slice ba B.length bc, .slice aa A.length ac, .int .i64 u, .int .i64 n], .agg #[.int .i64 l, .int .i64 s]] W (NewS I (readD P B A u n l s) W) := by
  have H := Lib.hid hB
  obtain ⟨hb0, hp0, hl0⟩ := bx2 W #[.slice pa P.length pc, .slice ba B.length bc, .slice aa A.length ac, .int .i64 u, .int .i64 n] #[.int .i64 l, .int .i64 s] 42 24
  obtain ⟨w0, hw0⟩ : ∃ w, w = (W.alloc (.cells #[.slice pa P.length pc, .slice ba B.length bc, .slice aa A.length ac, .int .i64 u, .int .i64 n] 42)).alloc (.cells #[.int .i64 l, .int .i64 s] 24) := ⟨_, rfl⟩
  have hs0 : w0.heap.size = W.heap.size + 1 + 1 := by rw [hw0]; simp only [World.size_alloc]
  rw [← hw0] at hb0 hp0 hl0
  have hb1 : Below w0.heap.size w0 (w0.alloc (.cells #[] 2)) := (Below.refl _ _).alloc (Nat.le_refl _) _
  obtain ⟨W0, hW0⟩ : ∃ w, w = w0.alloc (.cells #[] 2) := ⟨_, rfl⟩
  have hO0 := App.made I w0 2
  rw [← hW0] at hO0 hb1
  have hsz0 := hb0.size
  have HO0 := Lib.hid hO0
  have HB0 := Lib.hid (hb0.trans (hb1.mono hsz0))
  have HD0 := Lib.hid (hp0.call hb1)
  have HL0 := Lib.hid (hl0.call hb1)
  have HPw := Lib.hid (gmvS hP HB0.out)
  have HBw := Lib.hid (gmvS hB HB0.out)
  have HAw := Lib.hid (gmvS hA HB0.out)
  have hz0 := HB0.out.size
  rw [hs0] at HO0
  rw [hw0] at hW0
  clear hb0 hp0 hl0 hb1 hO0 hP hB hA hs0 hsz0 hw0 w0
  obtain ⟨q1, Q1⟩ := nameB (DeskR P B A u n)
  obtain ⟨q2, Q2⟩ : ∃ b, Hid (LabC.rB l s = b) := ⟨_, Lib.hid rfl⟩
  go_enter Tryd.func36, Tryd.ntmps36
  go_wp2_with fail
  rw [← hW0]
  clear hW0
  refine ((box_spec HPw.out HBw.out HAw.out).mono (fun _ _ => resB_at Q1.out)).mono ?_
  rintro e w1 ⟨rfl, hb⟩
  have HB1 := Lib.hid (HB0.out.trans (hb.mono hz0))
  have hz1 := HB1.out.size
  have HD1 := Lib.hid (HD0.out.call hb)
  have HL1 := Lib.hid (HL0.out.call hb)
  have HO1 := Lib.hid (HO0.out.call I_ok hb)
  have d1_0 := HD1.out.at_ 0 rfl
  have d1_1 := HD1.out.at_ 1 rfl
  have d1_2 := HD1.out.at_ 2 rfl
  have d1_3 := HD1.out.at_ 3 rfl
  have d1_4 := HD1.out.at_ 4 rfl
  have c1_0 := HL1.out.at_ 0 rfl
  have c1_1 := HL1.out.at_ 1 rfl
  clear hb
  cases q1 with
  | false =>
    have HN := Lib.hid (readD_no (l := l) (s := s) (fun h => by have := Q1.out.2 h.1; cases this))
    go_wp2
    go_ret
    rw [HN.out]
    exact ⟨_, _, rfl, ⟨Nat.le_refl _, Nat.zero_le _, fun h => absurd h (Nat.lt_irrefl _)⟩, HB1.out⟩
  | true =>
    go_wp2_with fail
    refine (rs_at l s Q2.out _).mono ?_
    rintro e w2 ⟨rfl, hb⟩
    have HB2 := Lib.hid (HB1.out.trans (hb.mono hz1))
    have hz2 := HB2.out.size
    have HD2 := Lib.hid (HD1.out.call hb)
    have HL2 := Lib.hid (HL1.out.call hb)
    have HO2 := Lib.hid (HO1.out.call I_ok hb)
    have d2_0 := HD2.out.at_ 0 rfl
    have d2_1 := HD2.out.at_ 1 rfl
    have d2_2 := HD2.out.at_ 2 rfl
    have d2_3 := HD2.out.at_ 3 rfl
    have d2_4 := HD2.out.at_ 4 rfl
    have c2_0 := HL2.out.at_ 0 rfl
    have c2_1 := HL2.out.at_ 1 rfl
    clear hb
    cases q2 with
    | false =>
      have HN := Lib.hid (readD_no (P := P) (B := B) (A := A) (u := u) (n := n) (l := l) (s := s) (fun h => by have h2 := h.2; rw [Q2.out] at h2; cases h2))
      go_wp2
      go_ret
      rw [HN.out]
      exact ⟨_, _, rfl, ⟨Nat.le_refl _, Nat.zero_le _, fun h => absurd h (Nat.lt_irrefl _)⟩, HB2.out⟩
    | true =>
      have HDR := Lib.hid (Q1.out.1 (by first | rfl | trivial))
      have HY := Lib.hid (readD_yes (l := l) (s := s) ⟨HDR.out, Q2.out⟩)
      have hB6 : B.length ≤ 6 := by have h := HDR.out.2.2.1.1; omega
      obtain ⟨q, hq⟩ : ∃ q : D_Letter → Bool, (fun x : D_Letter => LabC.belowB x.2.1.1 x.2.1.2 l s) = q := ⟨_, rfl⟩
      have HQ := Lib.hid hq
      rw [hq] at HY
      clear hq
      go_wp2
      go_loopw [5, 6] (fun o i wr => ∃ k : Nat, k ≤ B.length ∧ i = .int .i64 k ∧ (∃ a c xs Sf hi, o = .slice a (((B.take k).filter q).map fun x => x.2.2.2).length c ∧ W.heap.size + 1 + 1 ≤ hi ∧ App I wr (W.heap.size + 1 + 1) hi 2 (.slice a (((B.take k).filter q).map fun x => x.2.2.2).length c) (((B.take k).filter q).map fun x => x.2.2.2) xs Sf) ∧ Below W.heap.size W wr ∧ Hid (Blk wr W.heap.size 42 #[.slice pa P.length pc, .slice ba B.length bc, .slice aa A.length ac, .int .i64 u, .int .i64 n]) ∧ Hid (Blk wr (W.heap.size + 1) 24 #[.int .i64 l, .int .i64 s])) (fun _ i _ => B.length - (intOf i).toNat)
      case atStart => exact ⟨0, Nat.zero_le _, rfl, ⟨_, _, _, _, _, rfl, by omega, HO2.out⟩, HB2.out, HD2, HL2⟩
      case round =>
        obtain ⟨k, hk, rfl, ⟨oa, oc, xs, Sf, hi, rfl, hlo, hO⟩, hB, HD, HL⟩ := hrel
        have HB := Lib.hid hB
        have HO := Lib.hid hO
        have hsz := hB.size
        have r1 := HD.out.at_ 1 rfl
        by_cases hlt : k < B.length
        · obtain ⟨⟨⟨x0, x1⟩, ⟨x2, x3⟩, x4, x5⟩, hx⟩ := el_some hlt
          have Hhx := Lib.hid hx
          obtain ⟨g, o, us, rfl, hgg, hu, hr⟩ := (H.out.below R_Letter_ok hB).at_ hx
          obtain rfl := rd_Letter hr
          have e0 : wr.cell? ⟨g, o + k * 6, none⟩ = some (.int .i64 x0) := by simpa [size_LetterS, Nat.add_assoc] using hu 0 _ rfl
          have e1 : wr.cell? ⟨g, o + k * 6 + 1, none⟩ = some (.int .i64 x1) := by simpa [size_LetterS, Nat.add_assoc] using hu 1 _ rfl
          have e2 : wr.cell? ⟨g, o + k * 6 + 2, none⟩ = some (.int .i64 x2) := by simpa [size_LetterS, Nat.add_assoc] using hu 2 _ rfl
          have e3 : wr.cell? ⟨g, o + k * 6 + 3, none⟩ = some (.int .i64 x3) := by simpa [size_LetterS, Nat.add_assoc] using hu 3 _ rfl
          have e4 : wr.cell? ⟨g, o + k * 6 + 4, none⟩ = some (.int .i64 x4) := by simpa [size_LetterS, Nat.add_assoc] using hu 4 _ rfl
          have e5 : wr.cell? ⟨g, o + k * 6 + 5, none⟩ = some (.int .i64 x5) := by simpa [size_LetterS, Nat.add_assoc] using hu 5 _ rfl
          have hgl : g < wr.heap.size := Nat.lt_of_lt_of_le hgg hsz
          have hi0 : (0 : Int) ≤ (k : Int) := Int.natCast_nonneg _
          have hi1 : (k : Int) < (B.length : Int) := by omega
          have HST := Lib.hid (words_step q Hhx.out)
          have hfl : (((B.take k).filter q).map fun x => x.2.2.2).length ≤ k := by rw [List.length_map]; exact Nat.le_trans (List.length_filter_le _ _) (by rw [List.length_take]; omega)
          have HQX := Lib.hid (show q ((x0, x1), (x2, x3), x4, x5) = LabC.bB x2 x3 l s from by rw [← HQ.out]; exact LabC.below_yes (to_right HDR.out Hhx.out) Q2.out)
          clear hB hx hu hr hO
          obtain ⟨M, hM⟩ : ∃ M, (((B.take k).filter q).map fun x => x.2.2.2) = M := ⟨_, rfl⟩
          rw [hM] at HO HST hfl ⊢
          clear hM
          obtain ⟨b, hbp⟩ : ∃ b, LabC.bB x2 x3 l s = b := ⟨_, rfl⟩
          have HP := Lib.hid hbp
          clear hbp
          go_wp2_with fail
          refine wp_region_held_drew (S := (fun V => Below (wr).heap.size (wr) V)) (by kernel_rfl) ((Below.refl _ _).drew) (fun hHeld => ?_)
          (refine wpAnyH_take (i := 0) (v := ?hv73) rfl (by kernel_rfl) (by kernel_rfl) (by kernel_rfl) (fun _ _ _ h => h) (Or.inl ⟨by kernel_rfl, ?hy73⟩) hHeld ?hr73; case hy73 => (intro w hSw; (try dsimp only at hSw); go_simp; try with_reducible rfl))
          simp only [Act.put, List.getElem_toArray, List.getElem_cons_succ, List.getElem_cons_zero, List.setIfInBounds_toArray, List.set_cons_zero, List.set_cons_succ]
          (refine wpAnyH_take (i := 1) (v := ?hv74) rfl (by kernel_rfl) (by kernel_rfl) (by kernel_rfl) (fun _ _ _ h => h) (Or.inl ⟨by kernel_rfl, ?hy74⟩) hHeld ?hr74; case hy74 => (intro w hSw; (try dsimp only at hSw); have k0 := (hSw.cell (p := ⟨W.heap.size, 1, none⟩) HD.out.lt).trans (HD.out.at_ 1 rfl); clear hSw; go_simp; try with_reducible rfl))
          simp only [Act.put, List.getElem_toArray, List.getElem_cons_succ, List.getElem_cons_zero, List.setIfInBounds_toArray, List.set_cons_zero, List.set_cons_succ]
          (refine wpAnyH_take (i := 2) (v := ?hv75) rfl (by kernel_rfl) (by kernel_rfl) (by kernel_rfl) (fun _ _ _ h => h) (Or.inl ⟨by kernel_rfl, ?hy75⟩) hHeld ?hr75; case hy75 => (intro w hSw; (try dsimp only at hSw); go_simp; try with_reducible rfl))
          simp only [Act.put, List.getElem_toArray, List.getElem_cons_succ, List.getElem_cons_zero, List.setIfInBounds_toArray, List.set_cons_zero, List.set_cons_succ]
          (refine wpAnyH_take (i := 3) (v := ?hv76) rfl (by kernel_rfl) (by kernel_rfl) (by kernel_rfl) (fun _ _ _ h => h) (Or.inl ⟨by kernel_rfl, ?hy76⟩) hHeld ?hr76; case hy76 => (intro w hSw; (try dsimp only at hSw); go_simp; try with_reducible rfl))
          simp only [Act.put, List.getElem_toArray, List.getElem_cons_succ, List.getElem_cons_zero, List.setIfInBounds_toArray, List.set_cons_zero, List.set_cons_succ]
          (refine wpAnyH_take (i := 4) (v := ?hv77) rfl (by kernel_rfl) (by kernel_rfl) (by kernel_rfl) (fun _ _ _ h => h) (Or.inl ⟨by kernel_rfl, ?hy77⟩) hHeld ?hr77; case hy77 => (intro w hSw; (try dsimp only at hSw); go_simp; try with_reducible rfl))
          simp only [Act.put, List.getElem_toArray, List.getElem_cons_succ, List.getElem_cons_zero, List.setIfInBounds_toArray, List.set_cons_zero, List.set_cons_succ]
          (refine wpAnyH_take (i := 5) (v := ?hv78) rfl (by kernel_rfl) (by kernel_rfl) (by kernel_rfl) (fun _ _ _ h => h) (Or.inl ⟨by kernel_rfl, ?hy78⟩) hHeld ?hr78; case hy78 => (intro w hSw; (try dsimp only at hSw); have k0 := (hSw.cell (p := ⟨g, o + k * 6 + 2, none⟩) hgl).trans e2; have k1 := (hSw.cell (p := ⟨g, o + k * 6 + 3, none⟩) hgl).trans e3; clear hSw; go_simp; try with_reducible rfl))
          simp only [Act.put, List.getElem_toArray, List.getElem_cons_succ, List.getElem_cons_zero, List.setIfInBounds_toArray, List.set_cons_zero, List.set_cons_succ]
          (refine wpAnyH_take (i := 6) (v := ?hv79) rfl (by kernel_rfl) (by kernel_rfl) (by kernel_rfl) (fun _ _ _ h => h) (Or.inl ⟨by kernel_rfl, ?hy79⟩) hHeld ?hr79; case hy79 => (intro w hSw; (try dsimp only at hSw); have k0 := (hSw.cell (p := ⟨W.heap.size + 1, 0, none⟩) HL.out.lt).trans (HL.out.at_ 0 rfl); have k1 := (hSw.cell (p := ⟨W.heap.size + 1, 1, none⟩) HL.out.lt).trans (HL.out.at_ 1 rfl); clear hSw; go_simp; try with_reducible rfl))
          simp only [Act.put, List.getElem_toArray, List.getElem_cons_succ, List.getElem_cons_zero, List.setIfInBounds_toArray, List.set_cons_zero, List.set_cons_succ]
          refine wpAnyH_ready (rs := [7]) (by kernel_rfl) (by simp) ?_
          refine AllReadyH.cons rfl (fun K hK => ?_) AllReadyH.nil
          go_simp
          go_at_call 59
          refine (below2_at x2 x3 l s HP.out _).mono ?_
          rintro e v1 ⟨rfl, hb⟩
          refine hK.out _ _ (hHeld.trans (hb.mono hHeld.size)) (fun hHeld => ?_)
          clear hK K hb
          try simp only [Act.put, List.getElem_toArray, List.getElem_cons_succ, List.getElem_cons_zero, List.setIfInBounds_toArray, List.set_cons_zero, List.set_cons_succ]
          refine wpAnyH_done (by kernel_rfl) ?_ _
          have HF := Lib.hid hHeld
          clear hHeld
          have HB3 := Lib.hid (HB.out.trans (HF.out.mono hsz))
          have hz3 := HB3.out.size
          have HD3 := Lib.hid (HD.out.call HF.out)
          have HL3 := Lib.hid (HL.out.call HF.out)
          have HO3 := Lib.hid (HO.out.call I_ok HF.out)
          have hgl3 := Nat.lt_of_lt_of_le hgl HF.out.size
          have f0 := (HF.out.cell (p := ⟨g, _, none⟩) hgl).trans e0
          have f1 := (HF.out.cell (p := ⟨g, _, none⟩) hgl).trans e1
          have f2 := (HF.out.cell (p := ⟨g, _, none⟩) hgl).trans e2
          have f3 := (HF.out.cell (p := ⟨g, _, none⟩) hgl).trans e3
          have f4 := (HF.out.cell (p := ⟨g, _, none⟩) hgl).trans e4
          have f5 := (HF.out.cell (p := ⟨g, _, none⟩) hgl).trans e5
          have t1 := HD3.out.at_ 1 rfl
          clear HF
          cases b with
          | false =>
            have HE := Lib.hid (show ((B.take (k + 1)).filter q).map (fun x => x.2.2.2) = M from by rw [HST.out, HQX.out, HP.out]; simp)
            go_wp2
            go_roundw
            case rel => exact ⟨k + 1, by omega, by go_num, by rw [HE.out]; exact ⟨oa, oc, xs, Sf, hi, rfl, hlo, HO3.out⟩, HB3.out, HD3, HL3⟩
            case measure => simp [intOf]; omega
          | true =>
            have HE := Lib.hid (show ((B.take (k + 1)).filter q).map (fun x => x.2.2.2) = M ++ [x5] from by rw [HST.out, HQX.out, HP.out]; simp)
            have hle3 := HO3.out.le
            obtain ⟨na, nc, w2', xs2, Sf2, hr, hA2, hb2⟩ := app_int HO3.out x5 hlo (by omega)
            have HR := Lib.hid hr
            have HA2 := Lib.hid hA2
            have HB4 := Lib.hid (HB3.out.trans (hb2.mono (by omega)))
            have hz4 := hb2.size
            have HD4 := Lib.hid (show Blk w2' W.heap.size _ _ from (hb2.block _ (by omega)).trans HD3.out)
            have HL4 := Lib.hid (show Blk w2' (W.heap.size + 1) 24 #[.int .i64 l, .int .i64 s] from (hb2.block _ (by omega)).trans HL3.out)
            clear hr hA2 hb2
            go_wp2_with (at_builtin; refine wpList_app rfl (.tmp 32) (.tmp 39) 54 rfl rfl rfl HR.out ?_)
            go_roundw
            case rel => exact ⟨k + 1, by omega, by go_num, by rw [HE.out]; exact ⟨na, nc, xs2, Sf2, _, by simp, by omega, HA2.out⟩, HB4.out, HD4, HL4⟩
            case measure => simp [intOf]; omega
        · obtain rfl : k = B.length := by omega
          have hd : decide ((B.length : Int) < (B.length : Int)) = false := decide_eq_false (by omega)
          have HE := Lib.hid (show (((B.take B.length).filter q).map fun x => x.2.2.2) = ((B.filter q).map fun x => x.2.2.2) from by rw [List.take_length])
          rw [HE.out] at HO ⊢
          clear hB hO HE
          go_wp2
          go_ret
          rw [HY.out]
          obtain ⟨a', c', e, ho⟩ := HO.out.done
          cases e
          have hle := HO.out.le
          exact ⟨oa, oc, rfl, ho.more fun p hp => ⟨by have := hp.1; omega, Nat.lt_of_lt_of_le hp.2 hle⟩, HB.out⟩
end Go.Proofs.YtknifggpodhhdaaDoor.RepC
