/- LogRead of the model: a contract. -/
import Derived.Test.YtdedomfocljhaaaDoorTk
import Derived.Test.YtdedomfocljhaaaDoorTk
import Derived.Test.YtdedomfocljhaaaDoorLgI
namespace Go.Proofs.YtdedomfocljhaaaDoor.FrC
open Go.RowKit PutM PutC JoinC SealC SpanC GetM GetC CrcC KeptC RepC ValC RowC
set_option linter.unusedVariables false
set_option linter.unusedSimpArgs false
set_option maxRecDepth 100000

set_option maxHeartbeats 3200000 in
theorem log_s (s : ByteArray) (W : World) (hs : s.size ≤ maxLen) :
    Calls Tryd.prog 11 #[.string s] W (NewV R_LogOut (logR s) W) := by
  have HF := Lib.hid (fun a (ha : a ≤ 9223372036854775807) w => fread_s s a w hs ha)
  obtain ⟨w0, hw0⟩ : ∃ w, w = W.alloc (.cells #[.slice none 0 0, .int .i64 0, .int .i64 0] 31) := ⟨_, rfl⟩
  have HB0 := Lib.hid (show Below W.heap.size W w0 from by rw [hw0]; exact (Below.refl _ _).alloc (Nat.le_refl _) _)
  have X1 := Lib.hid (show Blk w0 W.heap.size 31 #[.slice none 0 0, .int .i64 0, .int .i64 0] from by rw [hw0]; exact Blk.new _ _ _)
  have hz0 : w0.heap.size = W.heap.size + 1 := by rw [hw0]; simp
  obtain ⟨w1, hw1⟩ : ∃ w, w = w0.alloc (.cells #[.slice none 0 0, .int .i64 0, .int .i64 0] 31) := ⟨_, rfl⟩
  have hb1 : Below w0.heap.size w0 w1 := by rw [hw1]; exact (Below.refl _ _).alloc (Nat.le_refl _) _
  have hz1 : w1.heap.size = W.heap.size + 2 := by rw [hw1]; simp [hz0]
  have X2 := Lib.hid (show Blk w1 (W.heap.size + 1) 31 #[.slice none 0 0, .int .i64 0, .int .i64 0] from by rw [hw1, ← hz0]; exact Blk.new _ _ _)
  have HB1 := Lib.hid (HB0.out.trans (hb1.mono HB0.out.size))
  have X1b := Lib.hid (X1.out.call hb1)
  by_cases h8 : s.size ≤ 8000
  rotate_left
  · have hdd : decide ((8000 : Int) < (s.size : Int)) = true := decide_eq_true (by omega)
    have H8 := Lib.hid h8
    have z0 := X1b.out.at_ 0 rfl
    have z1 := X1b.out.at_ 1 rfl
    have z2 := X1b.out.at_ 2 rfl
    have s0 := X1b.out.soft 0
    have s1 := X1b.out.soft 1
    have s2 := X1b.out.soft 2
    clear h8 hb1 hz1 hz0
    go_enter Tryd.func11, Tryd.ntmps11
    go_upto_region 2 with fail
    rw [← hw0, ← hw1]
    clear hw0 hw1
    go_wp2
    refine bodyPost_ret (v := .agg #[.slice none 0 0, .int .i64 0, .int .i64 2]) (by simp [results, Tryd.results11, go_sem, *]) rfl ?_
    exact log_big HB1.out H8.out
  have hdd : decide ((8000 : Int) < (s.size : Int)) = false := decide_eq_false (by omega)
  have H8 := Lib.hid h8
  have HZ1 := Lib.hid (show W.heap.size + 2 = w1.heap.size from hz1.symm)
  go_enter Tryd.func11, Tryd.ntmps11
  go_upto_region 2 with fail
  rw [← hw0, ← hw1]
  clear hw0 hw1
  have hlt0 : w1.cell? ⟨W.heap.size + 1, 1, none⟩ = some (.int .i64 0) := X2.out.at_ 1 rfl
  clear hb1 hz1 hz0 h8 hs
  go_wp2
  go_loopw [4] (fun x wr => ∃ (L : List D_Frame) (va : Option Addr) (vc : Nat) (a : Int) (lo : Nat), Hid (LogAt s L a (lastN L)) ∧ Hid (0 ≤ a ∧ a ≤ s.size) ∧ Hid (W.heap.size + 1 < lo) ∧ Hid (ARow R_Frame wr lo 23 (.slice va L.length vc) L) ∧ Hid (Blk wr (W.heap.size + 1) 31 #[.slice va L.length vc, .int .i64 a, .int .i64 0]) ∧ Hid (Blk wr W.heap.size 31 #[.slice none 0 0, .int .i64 0, .int .i64 0]) ∧ Hid (Below W.heap.size W wr)) (fun x wr => s.size + 1 - (intOf ((wr.cell? ⟨W.heap.size + 1, 1, none⟩).getD undef)).toNat)
  case atStart => exact ⟨[], none, 0, 0, w1.heap.size, Lib.hid (log_start H8.out), Lib.hid ⟨by omega, by omega⟩, Lib.hid (by have := HZ1.out; omega), Lib.hid (ARow.none_ _ _ _), X2, X1b, HB1⟩
  case round =>
    obtain ⟨L, va, vc, a, lo, HL, hab, HLO, HA, HO, HRS, HB⟩ := hrel
    have HOW := HO
    have HLT := Lib.hid (show W.heap.size + 1 < wr.heap.size from HO.out.lt)
    have o0 := HO.out.at_ 0 rfl
    have o1 := HO.out.at_ 1 rfl
    have o2 := HO.out.at_ 2 rfl
    by_cases hend : a < (s.size : Int)
    rotate_left
    · have hde : decide (a < (s.size : Int)) = false := decide_eq_false hend
      have HST := Lib.hid (log_stop HL.out H8.out (rfl : frR s a = ((_, _), _, _)) (fun h => frR_end (by omega) h.1))
      clear hend
      have o0 := HO.out.at_ 0 rfl
      have o1 := HO.out.at_ 1 rfl
      have o2 := HO.out.at_ 2 rfl
      have z0 := HRS.out.at_ 0 rfl
      have z1 := HRS.out.at_ 1 rfl
      have z2 := HRS.out.at_ 2 rfl
      have s0 := HRS.out.soft 0
      have s1 := HRS.out.soft 1
      have s2 := HRS.out.soft 2
      go_wp2
      refine bodyPost_ret (v := .agg #[.slice va L.length vc, .int .i64 a, .int .i64 0]) (by simp [results, Tryd.results11, go_sem, *]) rfl ?_
      exact log_fin HA.out (Nat.lt_of_succ_lt HLO.out) HB.out (HST.out)
    have hde : decide (a < (s.size : Int)) = true := decide_eq_true hend
    clear hend
    have HAB := Lib.hid hab
    have hax : a ≤ 9223372036854775807 := by have := hab.out.2; have h9 := H8.out; omega
    obtain ⟨⟨⟨n, t⟩, q, c⟩, hf⟩ : ∃ x, frR s a = x := ⟨_, rfl⟩
    have HFR := Lib.hid hf
    have hts := frR_size s a
    rw [hf] at hts
    have HTS := Lib.hid (show t.size ≤ maxLen from Nat.le_trans hts (by unfold maxLen; omega))
    have hFF := HF.out a hax
    rw [hf] at hFF
    unfold foV at hFF
    simp only at hFF
    have HFF := Lib.hid hFF
    clear hf hts hFF
    go_wp2_with fail
    refine (HFF.out _).mono ?_
    rintro e w3 ⟨rfl, hb⟩
    obtain ⟨V3, hV3⟩ : ∃ V, V = w3.alloc (.cells #[.int .i64 n, .string t, .int .i64 q, .int .i64 c] 25) := ⟨_, rfl⟩
    have hbV : Below w3.heap.size w3 V3 := by rw [hV3]; exact (Below.refl _ _).alloc (Nat.le_refl _) _
    have HXF := Lib.hid (show Blk V3 w3.heap.size 25 #[.int .i64 n, .string t, .int .i64 q, .int .i64 c] from by rw [hV3]; exact Blk.new _ _ _)
    have hb3 := hb.trans (hbV.mono hb.size)
    have HO := Lib.hid (HO.out.call hb3)
    have HRS := Lib.hid (HRS.out.call hb3)
    have HA0 := HA
    have HA := Lib.hid (HA.out.call R_Frame_ok hb3)
    have HB := Lib.hid (HB.out.trans (hb3.mono HB.out.size))
    have HWR := Lib.hid hb3
    have HW3 := Lib.hid (show wr.heap.size ≤ w3.heap.size from hb.size)
    clear hb hbV hb3 o0 o1 o2
    go_upto_region 6 with fail
    rw [← hV3]
    clear hV3
    have x0 := HXF.out.at_ 0 rfl
    have x1 := HXF.out.at_ 1 rfl
    have x2 := HXF.out.at_ 2 rfl
    have x3 := HXF.out.at_ 3 rfl
    have o0 := HO.out.at_ 0 rfl
    have o1 := HO.out.at_ 1 rfl
    have o2 := HO.out.at_ 2 rfl
    clear o0 o1 o2 x0 x1 x2 x3
    by_cases hc : c = 0
    rotate_left
    · have hcc : (c != 0) = true := by simpa using hc
      have HST := Lib.hid (log_stop HL.out H8.out HFR.out (fun h => hc h.1))
      clear hc
      refine wp_region_held_drew (S := (fun V => Below (V3).heap.size (V3) V)) (by kernel_rfl) ((Below.refl _ _).drew) (fun hHeld => ?_)
      refine tk 0 hHeld ?_
      refine tk 1 hHeld ?_ (hy := fun w hSw => by (try dsimp only at hSw); have k0 := (hSw.cell (p := ⟨w3.heap.size, 3, none⟩) HXF.out.lt).trans (HXF.out.at_ 3 rfl); clear hSw; go_simp; try with_reducible rfl)
      refine tk 2 hHeld ?_
      refine tk 3 hHeld ?_
      refine tn 4 hHeld ?_
      refine tn 5 hHeld ?_
      refine tn 6 hHeld ?_
      refine tn 7 hHeld ?_
      refine tn 8 hHeld ?_
      refine tn 9 hHeld ?_
      refine tn 10 hHeld ?_
      refine tn 11 hHeld ?_
      refine tn 12 hHeld ?_
      refine tn 13 hHeld ?_
      refine tn 14 hHeld ?_
      refine tn 15 hHeld ?_
      refine tn 16 hHeld ?_
      refine tn 17 hHeld ?_
      refine tn 18 hHeld ?_
      refine tn 19 hHeld ?_
      refine tn 20 hHeld ?_
      refine tn 21 hHeld ?_
      refine tn 22 hHeld ?_
      refine tk 23 hHeld ?_
      refine rd0 ?_
      have HF := Lib.hid hHeld
      clear hHeld
      obtain ⟨V4, hV4⟩ : ∃ u, u = V3.drew := ⟨_, rfl⟩
      rw [← hV4] at HF ⊢
      clear hV4
      have hbq := HF.out
      have HO := Lib.hid (HO.out.call hbq)
      have HRS := Lib.hid (HRS.out.call hbq)
      have HA := Lib.hid (HA.out.call R_Frame_ok hbq)
      have HXF := Lib.hid (HXF.out.call hbq)
      have HWR := Lib.hid (HWR.out.trans (hbq.mono HWR.out.size))
      have HB := Lib.hid (HB.out.trans (hbq.mono HB.out.size))
      clear HF hbq
      have o0 := HO.out.at_ 0 rfl
      have o1 := HO.out.at_ 1 rfl
      have o2 := HO.out.at_ 2 rfl
      have z0 := HRS.out.at_ 0 rfl
      have z1 := HRS.out.at_ 1 rfl
      have z2 := HRS.out.at_ 2 rfl
      have s0 := HRS.out.soft 0
      have s1 := HRS.out.soft 1
      have s2 := HRS.out.soft 2
      go_wp2
      refine bodyPost_ret (v := .agg #[.slice va L.length vc, .int .i64 a, .int .i64 0]) (by simp [results, Tryd.results11, go_sem, *]) rfl ?_
      exact log_fin HA.out (Nat.lt_of_succ_lt HLO.out) HB.out (HST.out)
    subst hc
    rcases List.eq_nil_or_concat L with hL | ⟨K, ⟨yn, yt⟩, hL⟩
    · have HN := Lib.hid (show lastN L < n from by
        have h8 := (frR_ok (s := s) (a := a) (by rw [HFR.out])).2.2.2.2
        rw [HFR.out] at h8
        have h9 : 0 ≤ n := (frB_iff.1 h8).1.1
        rw [hL]
        show (-1 : Int) < n
        omega)
      have hlz : decide (0 < (L.length : Int)) = false := by rw [hL]; rfl
      have hlzN : ¬ 0 < L.length := by rw [hL]; decide
      clear hL
      refine wp_region_held_drew (S := (fun V => Below (V3).heap.size (V3) V)) (by kernel_rfl) ((Below.refl _ _).drew) (fun hHeld => ?_)
      refine tk 0 hHeld ?_
      refine tk 1 hHeld ?_ (hy := fun w hSw => by (try dsimp only at hSw); have k0 := (hSw.cell (p := ⟨w3.heap.size, 3, none⟩) HXF.out.lt).trans (HXF.out.at_ 3 rfl); clear hSw; go_simp; try with_reducible rfl)
      refine tk 2 hHeld ?_
      refine tk 3 hHeld ?_
      refine tk 4 hHeld ?_
      refine tk 5 hHeld ?_ (hy := fun w hSw => by (try dsimp only at hSw); have k0 := (hSw.cell (p := ⟨W.heap.size + 1, 0, none⟩) HO.out.lt).trans (HO.out.at_ 0 rfl); clear hSw; go_simp; try with_reducible rfl)
      refine tk 6 hHeld ?_
      refine tk 7 hHeld ?_
      refine tk 8 hHeld ?_
      refine tn 9 hHeld ?_
      refine tn 10 hHeld ?_
      refine tn 11 hHeld ?_
      refine tn 12 hHeld ?_
      refine tn 13 hHeld ?_
      refine tn 14 hHeld ?_
      refine tn 15 hHeld ?_
      refine tn 16 hHeld ?_
      refine tn 17 hHeld ?_
      refine tn 18 hHeld ?_
      refine tn 19 hHeld ?_
      refine tn 20 hHeld ?_
      refine tn 21 hHeld ?_
      refine tk 22 hHeld ?_
      refine tk 23 hHeld ?_
      refine rd0 ?_
      have HF := Lib.hid hHeld
      clear hHeld
      obtain ⟨V4, hV4⟩ : ∃ u, u = V3.drew := ⟨_, rfl⟩
      rw [← hV4] at HF ⊢
      clear hV4
      have hbq := HF.out
      have HO := Lib.hid (HO.out.call hbq)
      have HRS := Lib.hid (HRS.out.call hbq)
      have HA := Lib.hid (HA.out.call R_Frame_ok hbq)
      have HXF := Lib.hid (HXF.out.call hbq)
      have HWR := Lib.hid (HWR.out.trans (hbq.mono HWR.out.size))
      have HB := Lib.hid (HB.out.trans (hbq.mono HB.out.size))
      clear HF hbq
      clear hlz hlzN
      have x0 := HXF.out.at_ 0 rfl
      have x1 := HXF.out.at_ 1 rfl
      have o0 := HO.out.at_ 0 rfl
      obtain ⟨w4, hw4⟩ : ∃ u, u = V4.alloc (.cells #[.int .i64 n, .string t] 23) := ⟨_, rfl⟩
      have hb34 : Below V4.heap.size V4 w4 := by rw [hw4]; exact (Below.refl _ _).alloc (Nat.le_refl _) _
      have hrow4 : Blk w4 V4.heap.size 23 #[.int .i64 n, .string t] := by rw [hw4]; exact Blk.new _ _ _
      have hla := (logAt_small HL.out).1
      obtain ⟨M, hM⟩ : ∃ M, M = L ++ [(n, t)] := ⟨_, rfl⟩
      obtain ⟨a', c', w5, hrun, hA5, hb5, hk5⟩ := frow_app (c := 1) HA0.out (HWR.out.trans (hb34.mono HWR.out.size)) hM hrow4 HTS.out (by omega)
      have hz4 := hb34.size
      have hO4 := HO.out.call hb34
      have hR4 := HRS.out.call hb34
      have hX4 := HXF.out.call hb34
      have HO5 := Lib.hid (show Blk w5 (W.heap.size + 1) 31 #[.slice va L.length vc, .int .i64 a, .int .i64 0] from (hb5.block _ (Nat.lt_of_lt_of_le HLO.out (Nat.le_refl _))).trans hO4)
      have HR5 := Lib.hid (show Blk w5 W.heap.size 31 #[.slice none 0 0, .int .i64 0, .int .i64 0] from (hb5.block _ (by have := HLO.out; omega)).trans hR4)
      have HX5 := Lib.hid (show Blk w5 w3.heap.size 25 #[.int .i64 n, .string t, .int .i64 q, .int .i64 0] from (hk5 _ HW3.out (Nat.lt_of_lt_of_le HXF.out.lt hz4)).trans hX4)
      have HB5 := Lib.hid (HB.out.trans ((hb34.mono HB.out.size).trans (hb5.mono (by have := HLO.out; omega))))
      have HAP := Lib.hid hA5
      have HM := Lib.hid hM
      rw [hw4] at hrun
      have HRUN := Lib.hid hrun
      clear hrun hA5 hb5 hk5 hO4 hR4 hX4 hb34 hrow4 hla hM hz4 hw4 HXF HO HRS HA HB
      have p0 := HO5.out.at_ 0 rfl
      have p1 := HO5.out.at_ 1 rfl
      have r0 := HO5.out.soft 0
      have r1 := HO5.out.soft 1
      have y2 := HX5.out.at_ 2 rfl
      have hne : w3.heap.size ≠ W.heap.size + 1 := by have := HW3.out; have h2 := HLT.out; omega
      have hne2 : W.heap.size + 1 ≠ w3.heap.size := Ne.symm hne
      go_upto_region 7 with fail
      go_wp2_with (at_builtin; refine wpList_app rfl (.tmp 44) (.tmp 47) 29 rfl rfl rfl HRUN.out ?_)
      obtain ⟨w6, hw6⟩ : ∃ u, u = (w5.setCell ⟨W.heap.size + 1, 0, none⟩ (.slice a' M.length c')).setCell ⟨W.heap.size + 1, 1, none⟩ (.int .i64 q) := ⟨_, rfl⟩
      have hof : Off (fun k => k = W.heap.size + 1) w5 w6 := by rw [hw6]; exact ((Off.refl (fun k => k = W.heap.size + 1) w5).setCell (p := ⟨W.heap.size + 1, 0, none⟩) rfl _).setCell (p := ⟨W.heap.size + 1, 1, none⟩) rfl _
      have HO6 := Lib.hid (show Blk w6 (W.heap.size + 1) 31 #[.slice a' M.length c', .int .i64 q, .int .i64 0] from by rw [hw6]; exact blk3 HO5.out)
      have HR6 := Lib.hid (show Blk w6 W.heap.size 31 #[.slice none 0 0, .int .i64 0, .int .i64 0] from (hof.block _ HR5.out.lt (by omega)).trans HR5.out)
      have HX6 := Lib.hid (show Blk w6 w3.heap.size 25 #[.int .i64 n, .string t, .int .i64 q, .int .i64 0] from (hof.block _ HX5.out.lt (by have := HW3.out; have h2 := HLT.out; omega)).trans HX5.out)
      have HB6 := Lib.hid (HB5.out.trans (hof.below HB5.out.size (fun k hk => by omega)))
      have HA6 := Lib.hid (frow_off HAP.out hof (by have := HLO.out; omega))
      rw [← hw6]
      clear hw6 hof p0 p1 r0 r1 y2 hne hne2
      have hok := frR_ok (s := s) (a := a) (by rw [HFR.out])
      rw [HFR.out] at hok
      simp only at hok
      have HQ := Lib.hid (show 0 ≤ q ∧ q ≤ s.size from by omega)
      have hqa : a + 8 ≤ q := hok.2.1
      have hqs : q ≤ s.size := hok.2.2.1
      have ha0 : 0 ≤ a := hok.1
      clear hok
      have HLS := Lib.hid (log_step HL.out HFR.out HN.out HM.out)
      have u1 := HO6.out.at_ 1 rfl
      go_roundw
      case rel => exact ⟨M, a', c', q, lo, HLS, HQ, HLO, HA6, HO6, HR6, HB6⟩
      case measure =>
        simp only [u1]
        have v1 := HOW.out.at_ 1 rfl
        simp only [v1]
        simp [intOf]
        omega
    have hk1 : L.length = K.length + 1 := by rw [hL]; simp
    have hLg : L[K.length]? = some (yn, yt) := by rw [hL]; simp
    have hlast : lastN L = yn := by rw [hL, List.concat_eq_append]; exact lastN_snoc _ _
    obtain ⟨k, hk⟩ : ∃ k, k = K.length := ⟨_, rfl⟩
    rw [← hk] at hk1 hLg
    obtain ⟨ge, rfl, hge, he0, _⟩ := frow_at HA.out hLg
    have HE0 := Lib.hid he0
    have hpos : (0 : Int) < (L.length : Int) := by omega
    have hposN : 0 < L.length := by omega
    have hlen : (L.length : Int) - 1 = (k : Int) := by omega
    have hwr : IntKind.i64.wrap (k : Int) = (k : Int) := IntWalk.i64_in _ (by have := (logAt_small HL.out).1; omega)
    have hk0 : (0 : Int) ≤ (k : Int) := Int.natCast_nonneg _
    have hk2 : (k : Int) < (L.length : Int) := by omega
    clear hk hL he0 hLg hk1
    by_cases hn : lastN L < n
    rotate_left
    · have HST := Lib.hid (log_stop HL.out H8.out HFR.out (fun h => hn h.2))
      have hcc : decide (n ≤ yn) = true := decide_eq_true (by omega)
      clear hn hlast
      refine wp_region_held_drew (S := (fun V => Below (V3).heap.size (V3) V)) (by kernel_rfl) ((Below.refl _ _).drew) (fun hHeld => ?_)
      refine tk 0 hHeld ?_
      refine tk 1 hHeld ?_ (hy := fun w hSw => by (try dsimp only at hSw); have k0 := (hSw.cell (p := ⟨w3.heap.size, 3, none⟩) HXF.out.lt).trans (HXF.out.at_ 3 rfl); clear hSw; go_simp; try with_reducible rfl)
      refine tk 2 hHeld ?_
      refine tk 3 hHeld ?_
      refine tk 4 hHeld ?_
      refine tk 5 hHeld ?_ (hy := fun w hSw => by (try dsimp only at hSw); have k0 := (hSw.cell (p := ⟨W.heap.size + 1, 0, none⟩) HO.out.lt).trans (HO.out.at_ 0 rfl); clear hSw; go_simp; try with_reducible rfl)
      refine tk 6 hHeld ?_
      refine tk 7 hHeld ?_
      refine tk 8 hHeld ?_
      refine tk 9 hHeld ?_
      refine tk 10 hHeld ?_ (hy := fun w hSw => by (try dsimp only at hSw); have k0 := (hSw.cell (p := ⟨W.heap.size + 1, 0, none⟩) HO.out.lt).trans (HO.out.at_ 0 rfl); clear hSw; go_simp; try with_reducible rfl)
      refine tk 11 hHeld ?_
      refine tk 12 hHeld ?_ (hy := fun w hSw => by (try dsimp only at hSw); have k0 := (hSw.cell (p := ⟨W.heap.size + 1, 0, none⟩) HO.out.lt).trans (HO.out.at_ 0 rfl); clear hSw; go_simp; try with_reducible rfl)
      refine tk 13 hHeld ?_
      refine tk 14 hHeld ?_
      refine tk 15 hHeld ?_
      refine tk 16 hHeld ?_
      refine tk 17 hHeld ?_ (hy := fun w hSw => by (try dsimp only at hSw); have k0 := (hSw.cell (p := ⟨ge, k * 2, none⟩) hge).trans HE0.out; clear hSw; go_simp; try with_reducible rfl)
      refine tk 18 hHeld ?_
      refine tk 19 hHeld ?_
      refine tk 20 hHeld ?_ (hy := fun w hSw => by (try dsimp only at hSw); have k0 := (hSw.cell (p := ⟨w3.heap.size, 0, none⟩) HXF.out.lt).trans (HXF.out.at_ 0 rfl); clear hSw; go_simp; try with_reducible rfl)
      refine tk 21 hHeld ?_
      refine tk 22 hHeld ?_
      refine tk 23 hHeld ?_
      refine rd0 ?_
      have HF := Lib.hid hHeld
      clear hHeld
      obtain ⟨V4, hV4⟩ : ∃ u, u = V3.drew := ⟨_, rfl⟩
      rw [← hV4] at HF ⊢
      clear hV4
      have hbq := HF.out
      have HO := Lib.hid (HO.out.call hbq)
      have HRS := Lib.hid (HRS.out.call hbq)
      have HA := Lib.hid (HA.out.call R_Frame_ok hbq)
      have HXF := Lib.hid (HXF.out.call hbq)
      have HWR := Lib.hid (HWR.out.trans (hbq.mono HWR.out.size))
      have HB := Lib.hid (HB.out.trans (hbq.mono HB.out.size))
      clear HF hbq
      clear hpos hposN hlen hwr hk0 hk2
      have o0 := HO.out.at_ 0 rfl
      have o1 := HO.out.at_ 1 rfl
      have o2 := HO.out.at_ 2 rfl
      have z0 := HRS.out.at_ 0 rfl
      have z1 := HRS.out.at_ 1 rfl
      have z2 := HRS.out.at_ 2 rfl
      have s0 := HRS.out.soft 0
      have s1 := HRS.out.soft 1
      have s2 := HRS.out.soft 2
      go_wp2
      refine bodyPost_ret (v := .agg #[.slice (some ⟨ge, 0, none⟩) L.length vc, .int .i64 a, .int .i64 0]) (by simp [results, Tryd.results11, go_sem, *]) rfl ?_
      exact log_fin HA.out (Nat.lt_of_succ_lt HLO.out) HB.out (HST.out)
    have HN := Lib.hid hn
    have hcc : decide (n ≤ yn) = false := decide_eq_false (by omega)
    clear hn hlast
    refine wp_region_held_drew (S := (fun V => Below (V3).heap.size (V3) V)) (by kernel_rfl) ((Below.refl _ _).drew) (fun hHeld => ?_)
    refine tk 0 hHeld ?_
    refine tk 1 hHeld ?_ (hy := fun w hSw => by (try dsimp only at hSw); have k0 := (hSw.cell (p := ⟨w3.heap.size, 3, none⟩) HXF.out.lt).trans (HXF.out.at_ 3 rfl); clear hSw; go_simp; try with_reducible rfl)
    refine tk 2 hHeld ?_
    refine tk 3 hHeld ?_
    refine tk 4 hHeld ?_
    refine tk 5 hHeld ?_ (hy := fun w hSw => by (try dsimp only at hSw); have k0 := (hSw.cell (p := ⟨W.heap.size + 1, 0, none⟩) HO.out.lt).trans (HO.out.at_ 0 rfl); clear hSw; go_simp; try with_reducible rfl)
    refine tk 6 hHeld ?_
    refine tk 7 hHeld ?_
    refine tk 8 hHeld ?_
    refine tk 9 hHeld ?_
    refine tk 10 hHeld ?_ (hy := fun w hSw => by (try dsimp only at hSw); have k0 := (hSw.cell (p := ⟨W.heap.size + 1, 0, none⟩) HO.out.lt).trans (HO.out.at_ 0 rfl); clear hSw; go_simp; try with_reducible rfl)
    refine tk 11 hHeld ?_
    refine tk 12 hHeld ?_ (hy := fun w hSw => by (try dsimp only at hSw); have k0 := (hSw.cell (p := ⟨W.heap.size + 1, 0, none⟩) HO.out.lt).trans (HO.out.at_ 0 rfl); clear hSw; go_simp; try with_reducible rfl)
    refine tk 13 hHeld ?_
    refine tk 14 hHeld ?_
    refine tk 15 hHeld ?_
    refine tk 16 hHeld ?_
    refine tk 17 hHeld ?_ (hy := fun w hSw => by (try dsimp only at hSw); have k0 := (hSw.cell (p := ⟨ge, k * 2, none⟩) hge).trans HE0.out; clear hSw; go_simp; try with_reducible rfl)
    refine tk 18 hHeld ?_
    refine tk 19 hHeld ?_
    refine tk 20 hHeld ?_ (hy := fun w hSw => by (try dsimp only at hSw); have k0 := (hSw.cell (p := ⟨w3.heap.size, 0, none⟩) HXF.out.lt).trans (HXF.out.at_ 0 rfl); clear hSw; go_simp; try with_reducible rfl)
    refine tk 21 hHeld ?_
    refine tk 22 hHeld ?_
    refine tk 23 hHeld ?_
    refine rd0 ?_
    have HF := Lib.hid hHeld
    clear hHeld
    obtain ⟨V4, hV4⟩ : ∃ u, u = V3.drew := ⟨_, rfl⟩
    rw [← hV4] at HF ⊢
    clear hV4
    have hbq := HF.out
    have HO := Lib.hid (HO.out.call hbq)
    have HRS := Lib.hid (HRS.out.call hbq)
    have HA := Lib.hid (HA.out.call R_Frame_ok hbq)
    have HXF := Lib.hid (HXF.out.call hbq)
    have HWR := Lib.hid (HWR.out.trans (hbq.mono HWR.out.size))
    have HB := Lib.hid (HB.out.trans (hbq.mono HB.out.size))
    clear HF hbq
    have HLEN := Lib.hid (show L.length ≤ 1000000 from by have := (logAt_small HL.out).1; omega)
    clear hpos hposN hlen hwr hk0 hk2 hge
    have x0 := HXF.out.at_ 0 rfl
    have x1 := HXF.out.at_ 1 rfl
    have o0 := HO.out.at_ 0 rfl
    obtain ⟨w4, hw4⟩ : ∃ u, u = V4.alloc (.cells #[.int .i64 n, .string t] 23) := ⟨_, rfl⟩
    have hb34 : Below V4.heap.size V4 w4 := by rw [hw4]; exact (Below.refl _ _).alloc (Nat.le_refl _) _
    have hrow4 : Blk w4 V4.heap.size 23 #[.int .i64 n, .string t] := by rw [hw4]; exact Blk.new _ _ _
    have hla := (logAt_small HL.out).1
    obtain ⟨M, hM⟩ : ∃ M, M = L ++ [(n, t)] := ⟨_, rfl⟩
    obtain ⟨a', c', w5, hrun, hA5, hb5, hk5⟩ := frow_app (c := 1) HA0.out (HWR.out.trans (hb34.mono HWR.out.size)) hM hrow4 HTS.out (by omega)
    have hz4 := hb34.size
    have hO4 := HO.out.call hb34
    have hR4 := HRS.out.call hb34
    have hX4 := HXF.out.call hb34
    have HO5 := Lib.hid (show Blk w5 (W.heap.size + 1) 31 #[.slice (some ⟨ge, 0, none⟩) L.length vc, .int .i64 a, .int .i64 0] from (hb5.block _ (Nat.lt_of_lt_of_le HLO.out (Nat.le_refl _))).trans hO4)
    have HR5 := Lib.hid (show Blk w5 W.heap.size 31 #[.slice none 0 0, .int .i64 0, .int .i64 0] from (hb5.block _ (by have := HLO.out; omega)).trans hR4)
    have HX5 := Lib.hid (show Blk w5 w3.heap.size 25 #[.int .i64 n, .string t, .int .i64 q, .int .i64 0] from (hk5 _ HW3.out (Nat.lt_of_lt_of_le HXF.out.lt hz4)).trans hX4)
    have HB5 := Lib.hid (HB.out.trans ((hb34.mono HB.out.size).trans (hb5.mono (by have := HLO.out; omega))))
    have HAP := Lib.hid hA5
    have HM := Lib.hid hM
    rw [hw4] at hrun
    have HRUN := Lib.hid hrun
    clear hrun hA5 hb5 hk5 hO4 hR4 hX4 hb34 hrow4 hla hM hz4 hw4 HXF HO HRS HA HB
    have p0 := HO5.out.at_ 0 rfl
    have p1 := HO5.out.at_ 1 rfl
    have r0 := HO5.out.soft 0
    have r1 := HO5.out.soft 1
    have y2 := HX5.out.at_ 2 rfl
    have hne : w3.heap.size ≠ W.heap.size + 1 := by have := HW3.out; have h2 := HLT.out; omega
    have hne2 : W.heap.size + 1 ≠ w3.heap.size := Ne.symm hne
    go_upto_region 7 with fail
    go_wp2_with (at_builtin; refine wpList_app rfl (.tmp 44) (.tmp 47) 29 rfl rfl rfl HRUN.out ?_)
    obtain ⟨w6, hw6⟩ : ∃ u, u = (w5.setCell ⟨W.heap.size + 1, 0, none⟩ (.slice a' M.length c')).setCell ⟨W.heap.size + 1, 1, none⟩ (.int .i64 q) := ⟨_, rfl⟩
    have hof : Off (fun k => k = W.heap.size + 1) w5 w6 := by rw [hw6]; exact ((Off.refl (fun k => k = W.heap.size + 1) w5).setCell (p := ⟨W.heap.size + 1, 0, none⟩) rfl _).setCell (p := ⟨W.heap.size + 1, 1, none⟩) rfl _
    have HO6 := Lib.hid (show Blk w6 (W.heap.size + 1) 31 #[.slice a' M.length c', .int .i64 q, .int .i64 0] from by rw [hw6]; exact blk3 HO5.out)
    have HR6 := Lib.hid (show Blk w6 W.heap.size 31 #[.slice none 0 0, .int .i64 0, .int .i64 0] from (hof.block _ HR5.out.lt (by omega)).trans HR5.out)
    have HX6 := Lib.hid (show Blk w6 w3.heap.size 25 #[.int .i64 n, .string t, .int .i64 q, .int .i64 0] from (hof.block _ HX5.out.lt (by have := HW3.out; have h2 := HLT.out; omega)).trans HX5.out)
    have HB6 := Lib.hid (HB5.out.trans (hof.below HB5.out.size (fun k hk => by omega)))
    have HA6 := Lib.hid (frow_off HAP.out hof (by have := HLO.out; omega))
    rw [← hw6]
    clear hw6 hof p0 p1 r0 r1 y2 hne hne2
    have hok := frR_ok (s := s) (a := a) (by rw [HFR.out])
    rw [HFR.out] at hok
    simp only at hok
    have HQ := Lib.hid (show 0 ≤ q ∧ q ≤ s.size from by omega)
    have hqa : a + 8 ≤ q := hok.2.1
    have hqs : q ≤ s.size := hok.2.2.1
    have ha0 : 0 ≤ a := hok.1
    clear hok
    have HLS := Lib.hid (log_step HL.out HFR.out HN.out HM.out)
    have u1 := HO6.out.at_ 1 rfl
    go_roundw
    case rel => exact ⟨M, a', c', q, lo, HLS, HQ, HLO, HA6, HO6, HR6, HB6⟩
    case measure =>
      simp only [u1]
      have v1 := HOW.out.at_ 1 rfl
      simp only [v1]
      simp [intOf]
      omega
end Go.Proofs.YtdedomfocljhaaaDoor.FrC
