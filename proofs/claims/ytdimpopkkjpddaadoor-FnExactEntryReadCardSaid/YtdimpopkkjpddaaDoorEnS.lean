/- EntryRead of the model: a contract. -/
import Derived.Test.YtdimpopkkjpddaaDoorEnS0
namespace Go.Proofs.YtdimpopkkjpddaaDoor.EnC
open Go.RowKit KeptC LabC RepC EnM PutM GetM GetC SealC RowC ValC
set_option linter.unusedVariables false
set_option linter.unusedSimpArgs false

set_option maxRecDepth 100000 in
set_option maxHeartbeats 4000000 in
theorem entryread_spec (s : ByteArray) (W : World) (hs : s.size ≤ maxLen) :
    Calls Tryd.prog 6 #[.string s] W fun e w' => e = .returned (readE s) ∧ Below W.heap.size W w' := by
  obtain ⟨T, hT⟩ : ∃ T, unsealT s = T := ⟨_, rfl⟩
  obtain ⟨E, hE⟩ : ∃ E, unsealE s = E := ⟨_, rfl⟩
  have HT := Lib.hid hT
  have HE := Lib.hid hE
  have HS := Lib.hid hs
  clear hT hE hs
  have HA0 := Lib.hid (Blk.new W 27 #[.int .i64 0, .int .i64 0, .int .i64 0, .int .i64 0, .int .i64 0, .int .i64 0, .int .i64 0])
  have HB0 := Lib.hid (show Below W.heap.size W (W.alloc (.cells #[.int .i64 0, .int .i64 0, .int .i64 0, .int .i64 0, .int .i64 0, .int .i64 0, .int .i64 0] 27)) from (Below.refl _ _).alloc (Nat.le_refl _) _)
  go_enter Tryd.func6, Tryd.ntmps6
  go_wp2_with fail
  refine (unseal_at HT.out HE.out HS.out _).mono ?_
  rintro e w1 ⟨rfl, hb⟩
  have HA1 := Lib.hid (HA0.out.call hb)
  have HB1 := Lib.hid (HB0.out.trans (hb.mono HB0.out.size))
  have hWt : W.heap.size < w1.heap.size := Nat.lt_of_lt_of_le HA0.out.lt hb.size
  have HSZ : W.heap.size ≤ w1.heap.size := Nat.le_of_lt hWt
  clear hb HA0 HB0
  by_cases h0 : E = 0
  · subst h0
    obtain ⟨g1, g2, g3, g4⟩ := unseal_zero HE.out
    have hTB : bodyOf s = T := by rw [← g4]; exact HT.out
    have hTs : T.size ≤ 8000 := by have := body_size s; rw [hTB] at this; omega
    have HTB := Lib.hid hTB
    clear g1 g2 g3 g4 hTB
    obtain ⟨V, hV⟩ : ∃ V, V = (w1.alloc (.cells #[.string T, .int .i64 0, .int .i64 0] 66)).alloc (.cells #[] 2) := ⟨_, rfl⟩
    have hbV : Below w1.heap.size w1 V := by rw [hV]; exact ((Below.refl _ _).alloc (Nat.le_refl _) _).alloc (by simp) _
    have HA2 := Lib.hid (HA1.out.call hbV)
    have HB2 := Lib.hid (HB1.out.trans (hbV.mono HSZ))
    have HT2 : Hid (Blk V w1.heap.size 66 #[.string T, .int .i64 0, .int .i64 0]) := Lib.hid (by rw [hV]; exact (Blk.new _ _ _).alloc _)
    have HO2 : Hid (App I V (w1.heap.size + 1) (w1.heap.size + 1 + 1) 2 (.slice (some ⟨w1.heap.size + 1, 0, none⟩) 0 0) [] [] (fun _ _ => False)) := Lib.hid (by
      have h := App.made I (w1.alloc (.cells #[.string T, .int .i64 0, .int .i64 0] 66)) 2
      rw [World.size_alloc] at h
      rw [hV]; exact h)
    have hz2 : w1.heap.size + 1 + 1 ≤ V.heap.size := by rw [hV]; simp
    clear hbV
    go_wp2_with fail
    rw [← hV]
    clear hV
    go_loopw [4, 5, 6] (fun o at' i wr => ∃ (k p : Nat) (l : List Int), k ≤ 6 ∧ i = .int .i64 k ∧ at' = .int .i64 p ∧ p ≤ T.size ∧ l.length = k ∧ Hid (rdk T (6 - k) p l = rdk T 6 0 []) ∧ (∃ a c xs Sf hi, o = .slice a l.length c ∧ w1.heap.size + 1 ≤ hi ∧ App I wr (w1.heap.size + 1) hi 2 (.slice a l.length c) l xs Sf) ∧ Below W.heap.size W wr ∧ Hid (Blk wr W.heap.size 27 #[.int .i64 0, .int .i64 0, .int .i64 0, .int .i64 0, .int .i64 0, .int .i64 0, .int .i64 0]) ∧ Hid (Blk wr w1.heap.size 66 #[.string T, .int .i64 0, .int .i64 0]) ∧ w1.heap.size + 1 ≤ wr.heap.size) (fun _ _ i _ => 6 - (intOf i).toNat)
    case atStart => exact ⟨0, 0, [], by omega, rfl, rfl, Nat.zero_le _, rfl, Lib.hid rfl, ⟨_, _, _, _, _, rfl, by omega, HO2.out⟩, HB2.out, HA2, HT2, by omega⟩
    case round =>
      obtain ⟨k, p, l, hk, rfl, rfl, hp, hl, HRD, ⟨oa, oc, xs, Sf, hi, rfl, hlo, hO⟩, hB, HA, HTT, hzw⟩ := hrel
      have HB := Lib.hid hB
      have HO := Lib.hid hO
      have hsz := hB.size
      have HL := Lib.hid hl
      clear hB hO hl
      by_cases hlt : k < 6
      · have d1 : decide ((k : Int) < 6) = true := decide_eq_true (by omega)
        have r0 := HTT.out.at_ 0 rfl
        by_cases hc : (gotOf T p).code = 0
        · obtain ⟨n, hn⟩ : ∃ n, unf (gotOf T p).u = n := ⟨_, rfl⟩
          obtain ⟨q, hq⟩ : ∃ q, p + (gotOf T p).used = q := ⟨_, rfl⟩
          have HN := Lib.hid hn
          have HQ := Lib.hid hq
          have HC := Lib.hid hc
          have hq8 : q ≤ T.size := by rw [← hq]; exact (got_back hp hc).2.1
          have HRD2 : Hid (rdk T (6 - (k + 1)) q (l ++ [n]) = rdk T 6 0 []) := Lib.hid (by
            have h := HRD.out
            rw [show 6 - k = (6 - (k + 1)) + 1 by omega, rdk_step hc, hn, hq] at h
            exact h)
          clear hn hq hc
          go_wp2_with fail
          refine (get_sok hTs (by omega) HC.out HN.out HQ.out _).mono ?_
          rintro e w2 ⟨rfl, hb⟩
          have hz3 := hb.size
          obtain ⟨Wn, hWn⟩ : ∃ x, x = w2.alloc (.cells #[.int .i64 n, .int .i64 q, .int .i64 0] 69) := ⟨_, rfl⟩
          have hbn : Below w2.heap.size w2 Wn := by rw [hWn]; exact (Below.refl _ _).alloc (Nat.le_refl _) _
          have HNB : Hid (Blk Wn w2.heap.size 69 #[.int .i64 n, .int .i64 q, .int .i64 0]) := Lib.hid (by rw [hWn]; exact Blk.new _ _ _)
          have hzn : Wn.heap.size = w2.heap.size + 1 := by rw [hWn]; simp
          have HZN := Lib.hid hzn
          have HO3 := Lib.hid ((HO.out.call I_ok hb).call I_ok hbn)
          have HB3 := Lib.hid ((HB.out.trans (hb.mono hsz)).trans (hbn.mono (Nat.le_trans hsz hb.size)))
          have HA3 := Lib.hid ((HA.out.call hb).call hbn)
          have HT3 := Lib.hid ((HTT.out.call hb).call hbn)
          have hhi : hi ≤ w2.heap.size := Nat.le_trans HO.out.le hb.size
          obtain ⟨na, nc, w3, xs2, Sf2, hr, hA2, hb2, hkeep⟩ := app_int2 HO3.out n hlo (by rw [HL.out]; omega)
          have HR := Lib.hid hr
          have HA2' := Lib.hid hA2
          have HB4 := Lib.hid (HB3.out.trans (hb2.mono (by omega)))
          have HA4 := Lib.hid (show Blk w3 W.heap.size 27 #[.int .i64 0, .int .i64 0, .int .i64 0, .int .i64 0, .int .i64 0, .int .i64 0, .int .i64 0] from (hb2.block _ (by omega)).trans HA3.out)
          have HT4 := Lib.hid (show Blk w3 w1.heap.size 66 #[.string T, .int .i64 0, .int .i64 0] from (hb2.block _ (by omega)).trans HT3.out)
          have HN4 := Lib.hid (show Blk w3 w2.heap.size 69 #[.int .i64 n, .int .i64 q, .int .i64 0] from (hkeep _ hhi (by omega)).trans HNB.out)
          have hz4 : w1.heap.size + 1 ≤ w3.heap.size := by have := hb2.size; omega
          have n0 := HNB.out.at_ 0 rfl
          have n2 := HNB.out.at_ 2 rfl
          have n0' := n0
          have n2' := n2
          rw [hWn] at n0' n2'
          clear hr hA2 hb2 hkeep hb hbn hzn
          go_upto_region 12 with fail
          rw [← hWn]
          clear hWn n0' n2' n2 r0
          have m0 := HN4.out.at_ 0 rfl
          have m1 := HN4.out.at_ 1 rfl
          go_wp2_with (at_builtin; refine wpList_app rfl (.tmp 30) (.tmp 33) 46 rfl rfl rfl HR.out ?_)
          go_roundw
          case rel => exact ⟨k + 1, q, l ++ [n], by omega, by go_num, rfl, hq8, by rw [List.length_append, HL.out]; rfl, HRD2, ⟨na, nc, xs2, Sf2, _, by simp, by omega, HA2'.out⟩, HB4.out, HA4, HT4, hz4⟩
          case measure => simp [intOf]; omega
        · obtain ⟨c, hce⟩ : ∃ c, (gotOf T p).code = c := ⟨_, rfl⟩
          have HCE := Lib.hid hce
          have HCN := Lib.hid hc
          have hcn : (c != 0) = true := by rw [← hce]; simpa using hc
          have HRE : Hid (readE s = entV 0 0 0 0 0 0 3) := Lib.hid (readE_none HE.out (by
            have h := HRD.out
            rw [show 6 - k = (6 - (k + 1)) + 1 by omega, rdk_bad hc] at h
            rw [HTB.out]; exact h.symm))
          clear hc hce
          go_wp2_with fail
          refine (get_sno hTs (by omega) HCN.out HCE.out _).mono ?_
          rintro e w2 ⟨rfl, hb⟩
          have HA3 := Lib.hid (HA.out.call hb)
          have HB3 := Lib.hid (HB.out.trans (hb.mono hsz))
          have hWt2 : W.heap.size < w2.heap.size := by have := hb.size; omega
          have HSZ2 : W.heap.size ≤ w2.heap.size := Nat.le_of_lt hWt2
          clear hb
          have pA0 := HA3.out.at_ 0 rfl
          have sA0 := HA3.out.soft 0
          have pA1 := HA3.out.at_ 1 rfl
          have sA1 := HA3.out.soft 1
          have pA2 := HA3.out.at_ 2 rfl
          have sA2 := HA3.out.soft 2
          have pA3 := HA3.out.at_ 3 rfl
          have sA3 := HA3.out.soft 3
          have pA4 := HA3.out.at_ 4 rfl
          have sA4 := HA3.out.soft 4
          have pA5 := HA3.out.at_ 5 rfl
          have sA5 := HA3.out.soft 5
          have pA6 := HA3.out.at_ 6 rfl
          have sA6 := HA3.out.soft 6
          go_wp2
          obtain ⟨Wf, hWf, hf, hbf⟩ := out_al HA3.out (.int .i64 0) (.int .i64 0) (.int .i64 0) (.int .i64 0) (.int .i64 0) (.int .i64 0) (.int .i64 3) (.cells #[.int .i64 0, .int .i64 0, .int .i64 c] 69)
          have q0 := hf.at_ 0 rfl
          have q1 := hf.at_ 1 rfl
          have q2 := hf.at_ 2 rfl
          have q3 := hf.at_ 3 rfl
          have q4 := hf.at_ 4 rfl
          have q5 := hf.at_ 5 rfl
          have q6 := hf.at_ 6 rfl
          have hB9 := hbf _ _ HB3.out (Nat.le_refl _)
          rw [← hWf]
          clear hWf hf hbf
          exact bodyPost_ret (v := .agg #[.int .i64 0, .int .i64 0, .int .i64 0, .int .i64 0, .int .i64 0, .int .i64 0, .int .i64 3]) (by simp [results, Tryd.results6, go_sem, q0, q1, q2, q3, q4, q5, q6]) rfl ⟨ret_e (by rw [HRE.out]; rfl), hB9⟩
      · obtain rfl : k = 6 := by omega
        have HRA : Hid (rdk T 6 0 [] = some (l, p)) := Lib.hid HRD.out.symm
        obtain ⟨a', c', e, ho⟩ := HO.out.done
        cases e
        have hrd := ho.rd I_ok (B := wr.heap.size) (fun k hk => Nat.lt_of_lt_of_le hk.2 HO.out.le)
        rw [HL.out]
        obtain ⟨x0, x1, x2, x3, x4, x5, rfl⟩ := six HL.out
        clear HRD HO ho hlt hk HL
        obtain ⟨g, o, us0, rfl, hg, hu0, hr0⟩ := hrd.at_ (i := 0) (x := x0) rfl
        obtain rfl : us0 = [_] := hr0
        have k0 : wr.cell? ⟨g, o, none⟩ = some (.int .i64 x0) := by simpa [show I.size = 1 from rfl] using hu0 0 _ rfl
        have k1 : wr.cell? ⟨g, o + 1, none⟩ = some (.int .i64 x1) := by
          obtain ⟨g', o', us1, e', _, hu1, hr1⟩ := hrd.at_ (i := 1) (x := x1) rfl
          cases e'
          obtain rfl : us1 = [_] := hr1
          simpa [show I.size = 1 from rfl] using hu1 0 _ rfl
        have k2 : wr.cell? ⟨g, o + 2, none⟩ = some (.int .i64 x2) := by
          obtain ⟨g', o', us1, e', _, hu1, hr1⟩ := hrd.at_ (i := 2) (x := x2) rfl
          cases e'
          obtain rfl : us1 = [_] := hr1
          simpa [show I.size = 1 from rfl] using hu1 0 _ rfl
        have k3 : wr.cell? ⟨g, o + 3, none⟩ = some (.int .i64 x3) := by
          obtain ⟨g', o', us1, e', _, hu1, hr1⟩ := hrd.at_ (i := 3) (x := x3) rfl
          cases e'
          obtain rfl : us1 = [_] := hr1
          simpa [show I.size = 1 from rfl] using hu1 0 _ rfl
        have k4 : wr.cell? ⟨g, o + 4, none⟩ = some (.int .i64 x4) := by
          obtain ⟨g', o', us1, e', _, hu1, hr1⟩ := hrd.at_ (i := 4) (x := x4) rfl
          cases e'
          obtain rfl : us1 = [_] := hr1
          simpa [show I.size = 1 from rfl] using hu1 0 _ rfl
        have k5 : wr.cell? ⟨g, o + 5, none⟩ = some (.int .i64 x5) := by
          obtain ⟨g', o', us1, e', _, hu1, hr1⟩ := hrd.at_ (i := 5) (x := x5) rfl
          cases e'
          obtain rfl : us1 = [_] := hr1
          simpa [show I.size = 1 from rfl] using hu1 0 _ rfl
        have K0 := Lib.hid k0
        have K1 := Lib.hid k1
        have K2 := Lib.hid k2
        have K3 := Lib.hid k3
        have K4 := Lib.hid k4
        have K5 := Lib.hid k5
        clear k0 k1 k2 k3 k4 k5
        clear hrd hu0
        go_upto_region 14 with fail
        refine wp_region_held_drew (S := (fun V => Below wr.heap.size wr V)) (by kernel_rfl) ((Below.refl _ _).drew) (fun hHeld => ?_)
        (refine wpAnyH_take (i := 0) (v := ?hv1) rfl (by kernel_rfl) (by kernel_rfl) (by kernel_rfl) (fun _ _ _ h => h) (Or.inl ⟨by kernel_rfl, ?hy1⟩) hHeld ?hr1; case hy1 => (intro w hSw; (try dsimp only at hSw); go_simp; try with_reducible rfl))
        simp only [Act.put, List.getElem_toArray, List.getElem_cons_succ, List.getElem_cons_zero, List.setIfInBounds_toArray, List.set_cons_zero, List.set_cons_succ]
        (refine wpAnyH_take (i := 1) (v := ?hv2) rfl (by kernel_rfl) (by kernel_rfl) (by kernel_rfl) (fun _ _ _ h => h) (Or.inl ⟨by kernel_rfl, ?hy2⟩) hHeld ?hr2; case hy2 => (intro w hSw; (try dsimp only at hSw); go_simp; try with_reducible rfl))
        simp only [Act.put, List.getElem_toArray, List.getElem_cons_succ, List.getElem_cons_zero, List.setIfInBounds_toArray, List.set_cons_zero, List.set_cons_succ]
        (refine wpAnyH_take (i := 2) (v := ?hv3) rfl (by kernel_rfl) (by kernel_rfl) (by kernel_rfl) (fun _ _ _ h => h) (Or.inl ⟨by kernel_rfl, ?hy3⟩) hHeld ?hr3; case hy3 => (intro w hSw; (try dsimp only at hSw); have k0 := (hSw.cell (p := ⟨g, o, none⟩) hg).trans K0.out; clear hSw; go_simp; try with_reducible rfl))
        simp only [Act.put, List.getElem_toArray, List.getElem_cons_succ, List.getElem_cons_zero, List.setIfInBounds_toArray, List.set_cons_zero, List.set_cons_succ]
        (refine wpAnyH_take (i := 3) (v := ?hv4) rfl (by kernel_rfl) (by kernel_rfl) (by kernel_rfl) (fun _ _ _ h => h) (Or.inl ⟨by kernel_rfl, ?hy4⟩) hHeld ?hr4; case hy4 => (intro w hSw; (try dsimp only at hSw); go_simp; try with_reducible rfl))
        simp only [Act.put, List.getElem_toArray, List.getElem_cons_succ, List.getElem_cons_zero, List.setIfInBounds_toArray, List.set_cons_zero, List.set_cons_succ]
        (refine wpAnyH_take (i := 4) (v := ?hv5) rfl (by kernel_rfl) (by kernel_rfl) (by kernel_rfl) (fun _ _ _ h => h) (Or.inl ⟨by kernel_rfl, ?hy5⟩) hHeld ?hr5; case hy5 => (intro w hSw; (try dsimp only at hSw); go_simp; try with_reducible rfl))
        simp only [Act.put, List.getElem_toArray, List.getElem_cons_succ, List.getElem_cons_zero, List.setIfInBounds_toArray, List.set_cons_zero, List.set_cons_succ]
        (refine wpAnyH_take (i := 5) (v := ?hv6) rfl (by kernel_rfl) (by kernel_rfl) (by kernel_rfl) (fun _ _ _ h => h) (Or.inl ⟨by kernel_rfl, ?hy6⟩) hHeld ?hr6; case hy6 => (intro w hSw; (try dsimp only at hSw); have k0 := (hSw.cell (p := ⟨g, o + 1, none⟩) hg).trans K1.out; clear hSw; go_simp; try with_reducible rfl))
        simp only [Act.put, List.getElem_toArray, List.getElem_cons_succ, List.getElem_cons_zero, List.setIfInBounds_toArray, List.set_cons_zero, List.set_cons_succ]
        (refine wpAnyH_take (i := 6) (v := ?hv7) rfl (by kernel_rfl) (by kernel_rfl) (by kernel_rfl) (fun _ _ _ h => h) (Or.inl ⟨by kernel_rfl, ?hy7⟩) hHeld ?hr7; case hy7 => (intro w hSw; (try dsimp only at hSw); go_simp; try with_reducible rfl))
        simp only [Act.put, List.getElem_toArray, List.getElem_cons_succ, List.getElem_cons_zero, List.setIfInBounds_toArray, List.set_cons_zero, List.set_cons_succ]
        (refine wpAnyH_take (i := 7) (v := ?hv8) rfl (by kernel_rfl) (by kernel_rfl) (by kernel_rfl) (fun _ _ _ h => h) (Or.inl ⟨by kernel_rfl, ?hy8⟩) hHeld ?hr8; case hy8 => (intro w hSw; (try dsimp only at hSw); go_simp; try with_reducible rfl))
        simp only [Act.put, List.getElem_toArray, List.getElem_cons_succ, List.getElem_cons_zero, List.setIfInBounds_toArray, List.set_cons_zero, List.set_cons_succ]
        (refine wpAnyH_take (i := 8) (v := ?hv9) rfl (by kernel_rfl) (by kernel_rfl) (by kernel_rfl) (fun _ _ _ h => h) (Or.inl ⟨by kernel_rfl, ?hy9⟩) hHeld ?hr9; case hy9 => (intro w hSw; (try dsimp only at hSw); have k0 := (hSw.cell (p := ⟨g, o + 2, none⟩) hg).trans K2.out; clear hSw; go_simp; try with_reducible rfl))
        simp only [Act.put, List.getElem_toArray, List.getElem_cons_succ, List.getElem_cons_zero, List.setIfInBounds_toArray, List.set_cons_zero, List.set_cons_succ]
        (refine wpAnyH_take (i := 9) (v := ?hv10) rfl (by kernel_rfl) (by kernel_rfl) (by kernel_rfl) (fun _ _ _ h => h) (Or.inl ⟨by kernel_rfl, ?hy10⟩) hHeld ?hr10; case hy10 => (intro w hSw; (try dsimp only at hSw); go_simp; try with_reducible rfl))
        simp only [Act.put, List.getElem_toArray, List.getElem_cons_succ, List.getElem_cons_zero, List.setIfInBounds_toArray, List.set_cons_zero, List.set_cons_succ]
        (refine wpAnyH_take (i := 10) (v := ?hv11) rfl (by kernel_rfl) (by kernel_rfl) (by kernel_rfl) (fun _ _ _ h => h) (Or.inl ⟨by kernel_rfl, ?hy11⟩) hHeld ?hr11; case hy11 => (intro w hSw; (try dsimp only at hSw); go_simp; try with_reducible rfl))
        simp only [Act.put, List.getElem_toArray, List.getElem_cons_succ, List.getElem_cons_zero, List.setIfInBounds_toArray, List.set_cons_zero, List.set_cons_succ]
        (refine wpAnyH_take (i := 11) (v := ?hv12) rfl (by kernel_rfl) (by kernel_rfl) (by kernel_rfl) (fun _ _ _ h => h) (Or.inl ⟨by kernel_rfl, ?hy12⟩) hHeld ?hr12; case hy12 => (intro w hSw; (try dsimp only at hSw); go_simp; try with_reducible rfl))
        simp only [Act.put, List.getElem_toArray, List.getElem_cons_succ, List.getElem_cons_zero, List.setIfInBounds_toArray, List.set_cons_zero, List.set_cons_succ]
        (refine wpAnyH_take (i := 12) (v := ?hv13) rfl (by kernel_rfl) (by kernel_rfl) (by kernel_rfl) (fun _ _ _ h => h) (Or.inl ⟨by kernel_rfl, ?hy13⟩) hHeld ?hr13; case hy13 => (intro w hSw; (try dsimp only at hSw); have k0 := (hSw.cell (p := ⟨g, o + 3, none⟩) hg).trans K3.out; clear hSw; go_simp; try with_reducible rfl))
        simp only [Act.put, List.getElem_toArray, List.getElem_cons_succ, List.getElem_cons_zero, List.setIfInBounds_toArray, List.set_cons_zero, List.set_cons_succ]
        (refine wpAnyH_take (i := 13) (v := ?hv14) rfl (by kernel_rfl) (by kernel_rfl) (by kernel_rfl) (fun _ _ _ h => h) (Or.inl ⟨by kernel_rfl, ?hy14⟩) hHeld ?hr14; case hy14 => (intro w hSw; (try dsimp only at hSw); go_simp; try with_reducible rfl))
        simp only [Act.put, List.getElem_toArray, List.getElem_cons_succ, List.getElem_cons_zero, List.setIfInBounds_toArray, List.set_cons_zero, List.set_cons_succ]
        (refine wpAnyH_take (i := 14) (v := ?hv15) rfl (by kernel_rfl) (by kernel_rfl) (by kernel_rfl) (fun _ _ _ h => h) (Or.inl ⟨by kernel_rfl, ?hy15⟩) hHeld ?hr15; case hy15 => (intro w hSw; (try dsimp only at hSw); go_simp; try with_reducible rfl))
        simp only [Act.put, List.getElem_toArray, List.getElem_cons_succ, List.getElem_cons_zero, List.setIfInBounds_toArray, List.set_cons_zero, List.set_cons_succ]
        (refine wpAnyH_take (i := 15) (v := ?hv16) rfl (by kernel_rfl) (by kernel_rfl) (by kernel_rfl) (fun _ _ _ h => h) (Or.inl ⟨by kernel_rfl, ?hy16⟩) hHeld ?hr16; case hy16 => (intro w hSw; (try dsimp only at hSw); have k0 := (hSw.cell (p := ⟨g, o + 4, none⟩) hg).trans K4.out; clear hSw; go_simp; try with_reducible rfl))
        simp only [Act.put, List.getElem_toArray, List.getElem_cons_succ, List.getElem_cons_zero, List.setIfInBounds_toArray, List.set_cons_zero, List.set_cons_succ]
        (refine wpAnyH_take (i := 16) (v := ?hv17) rfl (by kernel_rfl) (by kernel_rfl) (by kernel_rfl) (fun _ _ _ h => h) (Or.inl ⟨by kernel_rfl, ?hy17⟩) hHeld ?hr17; case hy17 => (intro w hSw; (try dsimp only at hSw); go_simp; try with_reducible rfl))
        simp only [Act.put, List.getElem_toArray, List.getElem_cons_succ, List.getElem_cons_zero, List.setIfInBounds_toArray, List.set_cons_zero, List.set_cons_succ]
        (refine wpAnyH_take (i := 17) (v := ?hv18) rfl (by kernel_rfl) (by kernel_rfl) (by kernel_rfl) (fun _ _ _ h => h) (Or.inl ⟨by kernel_rfl, ?hy18⟩) hHeld ?hr18; case hy18 => (intro w hSw; (try dsimp only at hSw); go_simp; try with_reducible rfl))
        simp only [Act.put, List.getElem_toArray, List.getElem_cons_succ, List.getElem_cons_zero, List.setIfInBounds_toArray, List.set_cons_zero, List.set_cons_succ]
        (refine wpAnyH_take (i := 18) (v := ?hv19) rfl (by kernel_rfl) (by kernel_rfl) (by kernel_rfl) (fun _ _ _ h => h) (Or.inl ⟨by kernel_rfl, ?hy19⟩) hHeld ?hr19; case hy19 => (intro w hSw; (try dsimp only at hSw); have k0 := (hSw.cell (p := ⟨g, o + 5, none⟩) hg).trans K5.out; clear hSw; go_simp; try with_reducible rfl))
        simp only [Act.put, List.getElem_toArray, List.getElem_cons_succ, List.getElem_cons_zero, List.setIfInBounds_toArray, List.set_cons_zero, List.set_cons_succ]
        (refine wpAnyH_take (i := 19) (v := ?hv20) rfl (by kernel_rfl) (by kernel_rfl) (by kernel_rfl) (fun _ _ _ h => h) (Or.inl ⟨by kernel_rfl, ?hy20⟩) hHeld ?hr20; case hy20 => (intro w hSw; (try dsimp only at hSw); go_simp; try with_reducible rfl))
        simp only [Act.put, List.getElem_toArray, List.getElem_cons_succ, List.getElem_cons_zero, List.setIfInBounds_toArray, List.set_cons_zero, List.set_cons_succ]
        refine wpAnyH_ready (rs := [20]) (by kernel_rfl) (by simp) ?_
        refine AllReadyH.cons rfl (fun K hK => ?_) (AllReadyH.nil)
        obtain ⟨U, b, hU, hbn, hbU, hXU, hn⟩ := en_new hHeld
        go_simp
        first | rw [← hU, ← hbn] | rw [show (wr.alloc (.cells #[.int .i64 0, .int .i64 0, .int .i64 0, .int .i64 0, .int .i64 0, .int .i64 0] 25)).drew = U from hU.symm, show wr.heap.size = b from hbn.symm]
        have HX := Lib.hid hXU
        refine hK.out _ _ (hHeld.trans (hbU.mono hHeld.size)) (fun hHeld => ?_)
        clear hU hbn hbU hXU
        clear hK K
        try simp only [Act.put, List.getElem_toArray, List.getElem_cons_succ, List.getElem_cons_zero, List.setIfInBounds_toArray, List.set_cons_zero, List.set_cons_succ]
        refine wpAnyH_ready (rs := [21]) (by kernel_rfl) (by simp) ?_
        refine AllReadyH.cons rfl (fun K hK => ?_) (AllReadyH.nil)
        obtain ⟨Z, hZ, hsZ, hXZ⟩ := en_store hHeld HX.out hn x0 x1 x2 x3 x4 x5
        have r0 := HX.out.at_ 0 rfl
        have r1 := HX.out.at_ 1 rfl
        have r2 := HX.out.at_ 2 rfl
        have r3 := HX.out.at_ 3 rfl
        have r4 := HX.out.at_ 4 rfl
        have r5 := HX.out.at_ 5 rfl
        have f0 := HX.out.soft 0
        have f1 := HX.out.soft 1
        have f2 := HX.out.soft 2
        have f3 := HX.out.soft 3
        have f4 := HX.out.soft 4
        have f5 := HX.out.soft 5
        go_simp
        rw [← hZ]
        have HX := Lib.hid hXZ
        clear hZ hXZ r0 r1 r2 r3 r4 r5 f0 f1 f2 f3 f4 f5
        refine hK.out _ _ hsZ (fun hHeld => ?_)
        clear hsZ
        clear hK K
        try simp only [Act.put, List.getElem_toArray, List.getElem_cons_succ, List.getElem_cons_zero, List.setIfInBounds_toArray, List.set_cons_zero, List.set_cons_succ]
        refine wpAnyH_done (by kernel_rfl) ?_ _
        have HF := Lib.hid hHeld
        clear hHeld
        have e0 := HX.out.at_ 0 rfl
        have e1 := HX.out.at_ 1 rfl
        have e2 := HX.out.at_ 2 rfl
        have e3 := HX.out.at_ 3 rfl
        have e4 := HX.out.at_ 4 rfl
        have e5 := HX.out.at_ 5 rfl
        obtain ⟨v, hv⟩ : ∃ v, bytesE x0 x1 x2 x3 x4 x5 = v := ⟨_, rfl⟩
        have HV := Lib.hid hv
        clear hv
        go_wp2_with fail
        refine (bytes_at HV.out _).mono ?_
        rintro e w5 ⟨rfl, hb⟩
        have HX5 := Lib.hid (HX.out.call hb)
        have HA5 := Lib.hid ((HA.out.call HF.out).call hb)
        have HB5 := Lib.hid ((HB.out.trans (HF.out.mono hsz)).trans (hb.mono (Nat.le_trans hsz HF.out.size)))
        clear hb HX HF e0 e1 e2 e3 e4 e5
        have pA0 := HA5.out.at_ 0 rfl
        have sA0 := HA5.out.soft 0
        have pA1 := HA5.out.at_ 1 rfl
        have sA1 := HA5.out.soft 1
        have pA2 := HA5.out.at_ 2 rfl
        have sA2 := HA5.out.soft 2
        have pA3 := HA5.out.at_ 3 rfl
        have sA3 := HA5.out.soft 3
        have pA4 := HA5.out.at_ 4 rfl
        have sA4 := HA5.out.soft 4
        have pA5 := HA5.out.at_ 5 rfl
        have sA5 := HA5.out.soft 5
        have pA6 := HA5.out.at_ 6 rfl
        have sA6 := HA5.out.soft 6
        by_cases hvs : v = s
        · subst hvs
          have HE2 : Hid (readE v = entV x0 x1 x2 x3 x4 x5 0) := Lib.hid (by
            have hB := HTB.out
            by_cases he : entB x0 x1 x2 x3 x4 x5 = true
            · have hp2 := (back_iff HE.out (by rw [hB]; exact HRA.out) he).1 HV.out
              exact readE_yes HE.out (by rw [hB, ← hB, ← hp2, hB]; exact HRA.out) he
            · exact absurd HV.out (bytes_ne HE.out (by simpa using he)))
          have d0 := HX5.out.at_ 0 rfl
          have d1 := HX5.out.at_ 1 rfl
          have d2 := HX5.out.at_ 2 rfl
          have d3 := HX5.out.at_ 3 rfl
          have d4 := HX5.out.at_ 4 rfl
          have d5 := HX5.out.at_ 5 rfl
          go_wp2
          obtain ⟨Wf, hWf, hf, hbf⟩ := out_none HA5.out (.int .i64 x0) (.int .i64 x1) (.int .i64 x2) (.int .i64 x3) (.int .i64 x4) (.int .i64 x5) (.int .i64 0)
          have q0 := hf.at_ 0 rfl
          have q1 := hf.at_ 1 rfl
          have q2 := hf.at_ 2 rfl
          have q3 := hf.at_ 3 rfl
          have q4 := hf.at_ 4 rfl
          have q5 := hf.at_ 5 rfl
          have q6 := hf.at_ 6 rfl
          have hB9 := hbf _ _ HB5.out (Nat.le_refl _)
          rw [← hWf]
          clear hWf hf hbf
          exact bodyPost_ret (v := .agg #[.int .i64 x0, .int .i64 x1, .int .i64 x2, .int .i64 x3, .int .i64 x4, .int .i64 x5, .int .i64 0]) (by simp [results, Tryd.results6, go_sem, q0, q1, q2, q3, q4, q5, q6]) rfl ⟨ret_e (by rw [HE2.out]; rfl), hB9⟩
        · have HE2 : Hid (readE s = entV 0 0 0 0 0 0 3) := Lib.hid (by
            have hB := HTB.out
            refine readE_no HE.out (p := p) (by rw [hB]; exact HRA.out) (fun h => hvs ?_)
            rw [← HV.out]
            exact (back_iff HE.out (by rw [hB]; exact HRA.out) h.2).2 h.1)
          have hne : (!v.toList == s.toList) = true := by simpa using fun h9 => hvs (bytes_inj' h9)
          clear hvs
          go_wp2
          obtain ⟨Wf, hWf, hf, hbf⟩ := out_none HA5.out (.int .i64 0) (.int .i64 0) (.int .i64 0) (.int .i64 0) (.int .i64 0) (.int .i64 0) (.int .i64 3)
          have q0 := hf.at_ 0 rfl
          have q1 := hf.at_ 1 rfl
          have q2 := hf.at_ 2 rfl
          have q3 := hf.at_ 3 rfl
          have q4 := hf.at_ 4 rfl
          have q5 := hf.at_ 5 rfl
          have q6 := hf.at_ 6 rfl
          have hB9 := hbf _ _ HB5.out (Nat.le_refl _)
          rw [← hWf]
          clear hWf hf hbf
          exact bodyPost_ret (v := .agg #[.int .i64 0, .int .i64 0, .int .i64 0, .int .i64 0, .int .i64 0, .int .i64 0, .int .i64 3]) (by simp [results, Tryd.results6, go_sem, q0, q1, q2, q3, q4, q5, q6]) rfl ⟨ret_e (by rw [HE2.out]; rfl), hB9⟩
  · have h0' : (E != 0) = true := by simpa using h0
    have HR := Lib.hid (readE_ill (s := s) (by rw [HE.out]; exact h0))
    clear h0
    have pA0 := HA1.out.at_ 0 rfl
    have sA0 := HA1.out.soft 0
    have pA1 := HA1.out.at_ 1 rfl
    have sA1 := HA1.out.soft 1
    have pA2 := HA1.out.at_ 2 rfl
    have sA2 := HA1.out.soft 2
    have pA3 := HA1.out.at_ 3 rfl
    have sA3 := HA1.out.soft 3
    have pA4 := HA1.out.at_ 4 rfl
    have sA4 := HA1.out.soft 4
    have pA5 := HA1.out.at_ 5 rfl
    have sA5 := HA1.out.soft 5
    have pA6 := HA1.out.at_ 6 rfl
    have sA6 := HA1.out.soft 6
    go_wp2
    obtain ⟨Wf, hWf, hf, hbf⟩ := out_al HA1.out (.int .i64 0) (.int .i64 0) (.int .i64 0) (.int .i64 0) (.int .i64 0) (.int .i64 0) (.int .i64 E) (.cells #[.string T, .int .i64 0, .int .i64 E] 66)
    have q0 := hf.at_ 0 rfl
    have q1 := hf.at_ 1 rfl
    have q2 := hf.at_ 2 rfl
    have q3 := hf.at_ 3 rfl
    have q4 := hf.at_ 4 rfl
    have q5 := hf.at_ 5 rfl
    have q6 := hf.at_ 6 rfl
    have hB9 := hbf _ _ HB1.out (Nat.le_refl _)
    rw [← hWf]
    clear hWf hf hbf
    exact bodyPost_ret (v := .agg #[.int .i64 0, .int .i64 0, .int .i64 0, .int .i64 0, .int .i64 0, .int .i64 0, .int .i64 E]) (by simp [results, Tryd.results6, go_sem, q0, q1, q2, q3, q4, q5, q6]) rfl ⟨ret_e (by rw [HR.out, HE.out]; rfl), hB9⟩
end Go.Proofs.YtdimpopkkjpddaaDoor.EnC
