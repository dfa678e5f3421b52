/- LogRead of the program: a contract. -/
import Derived.Test.YtdedomfocljhaaaDoorLgA
import Derived.Test.YtdedomfocljhaaaDoorKq
namespace Go.Proofs.YtdedomfocljhaaaDoor.FrC
open Go.RowKit PutM PutC JoinC SealC SpanC GetM GetC CrcC KeptC RepC ValC RowC
set_option linter.unusedVariables false
set_option linter.unusedSimpArgs false
set_option maxRecDepth 100000

theorem frow_off {w w' : World} {lo g : Nat} {v : Value} {L : List D_Frame} (h : ARow R_Frame w lo 23 v L) (ho : Off (fun k => k = g) w w') (hg : g < lo) : ARow R_Frame w' lo 23 v L := by
  obtain ⟨S, h⟩ := h
  exact ⟨S, (h.mv R_Frame_ok ho.size fun k hk => ho.block k (h.bnd hk).2 (by have := (h.bnd hk).1; omega)).rise ho.size⟩
set_option maxHeartbeats 3200000 in
theorem log_i (s : ByteArray) (W : World) (hs : s.size ≤ maxLen) (hD : Door W) :
    Calls Tryd.prog 12 #[.string s] W (NewV R_LogOut (logR s) W) := by
  have HF := Lib.hid (fun a (ha : a ≤ 9223372036854775807) w (h : Door w) => fread_i s a w hs ha h)
  obtain ⟨w0, hw0⟩ : ∃ w, w = W.alloc (.cells #[.slice none 0 0, .int .i64 0, .int .i64 0] 31) := ⟨_, rfl⟩
  have HB0 := Lib.hid (show Below W.heap.size W w0 from by rw [hw0]; exact (Below.refl _ _).alloc (Nat.le_refl _) _)
  have X1 := Lib.hid (show Blk w0 W.heap.size 31 #[.slice none 0 0, .int .i64 0, .int .i64 0] from by rw [hw0]; exact Blk.new _ _ _)
  have hz0 : w0.heap.size = W.heap.size + 1 := by rw [hw0]; simp
  obtain ⟨w1, hw1⟩ : ∃ w, w = w0.alloc (.cells #[.slice none 0 0, .int .i64 0, .int .i64 0] 31) := ⟨_, rfl⟩
  have hb1 : Below w0.heap.size w0 w1 := by rw [hw1]; exact (Below.refl _ _).alloc (Nat.le_refl _) _
  have hz1 : w1.heap.size = W.heap.size + 2 := by rw [hw1]; simp [hz0]
  have X2 := Lib.hid (show Blk w1 (W.heap.size + 1) 31 #[.slice none 0 0, .int .i64 0, .int .i64 0] from by rw [hw1, ← hz0]; exact Blk.new _ _ _)
  have HB1 := Lib.hid (HB0.out.trans (hb1.mono HB0.out.size))
  have X1b := Lib.hid (X1.out.call hb1)
  have HD0 := Lib.hid hD
  by_cases h8 : s.size ≤ 8000
  rotate_left
  · have hdd : decide ((8000 : Int) < (s.size : Int)) = true := decide_eq_true (by omega)
    have H8 := Lib.hid h8
    have z0 := X1.out.at_ 0 rfl
    have z1 := X1.out.at_ 1 rfl
    have z2 := X1.out.at_ 2 rfl
    have s0 := X1.out.soft 0
    have s1 := X1.out.soft 1
    have s2 := X1.out.soft 2
    clear h8 hw1 hb1 X2 HB1 X1b hz1 hz0
    go_enter Tryd.func12, Tryd.ntmps12
    go_upto_region 1 with fail
    rw [← hw0]
    clear hw0
    go_wp2
    refine bodyPost_ret (v := .agg #[.slice none 0 0, .int .i64 0, .int .i64 2]) (by simp [results, Tryd.results12, go_sem, *]) rfl ?_
    exact log_big HB0.out H8.out
  have hdd : decide ((8000 : Int) < (s.size : Int)) = false := decide_eq_false (by omega)
  have H8 := Lib.hid h8
  have HZ1 := Lib.hid (show W.heap.size + 2 = w1.heap.size from hz1.symm)
  go_enter Tryd.func12, Tryd.ntmps12
  go_upto_region 4 with fail
  rw [← hw0, ← hw1]
  clear hw0 hw1
  have hlt0 : w1.cell? ⟨W.heap.size + 1, 1, none⟩ = some (.int .i64 0) := X2.out.at_ 1 rfl
  clear hb1 hz1 hz0 h8 hs hD hdd
  go_wp2
  go_loopw [4] (fun l wr => ∃ (L : List D_Frame) (va : Option Addr) (vc : Nat) (a : Int) (lo : Nat), l = .int .i64 (lastN L) ∧ Hid (LogAt s L a (lastN L)) ∧ Hid (0 ≤ a ∧ a ≤ s.size) ∧ Hid (W.heap.size + 1 < lo) ∧ Hid (ARow R_Frame wr lo 23 (.slice va L.length vc) L) ∧ Hid (Blk wr (W.heap.size + 1) 31 #[.slice va L.length vc, .int .i64 a, .int .i64 0]) ∧ Hid (Blk wr W.heap.size 31 #[.slice none 0 0, .int .i64 0, .int .i64 0]) ∧ Hid (Below W.heap.size W wr)) (fun l wr => s.size + 1 - (intOf ((wr.cell? ⟨W.heap.size + 1, 1, none⟩).getD undef)).toNat)
  case atStart => exact ⟨[], none, 0, 0, w1.heap.size, rfl, Lib.hid (log_start H8.out), Lib.hid ⟨by omega, by omega⟩, Lib.hid (by have := HZ1.out; omega), Lib.hid (ARow.none_ _ _ _), X2, X1b, HB1⟩
  case round =>
    obtain ⟨L, va, vc, a, lo, rfl, HL, hab, HLO, HA, HO, HRS, HB⟩ := hrel
    have HDW := Lib.hid (HD0.out.below HB.out HD0.out.lt)
    have HOW := HO
    have HLT := Lib.hid (show W.heap.size + 1 < wr.heap.size from HO.out.lt)
    have HAB := Lib.hid hab
    have hax : a ≤ 9223372036854775807 := by have := hab.out.2; have h9 := H8.out; omega
    obtain ⟨⟨⟨n, t⟩, q, c⟩, hf⟩ : ∃ x, frR s a = x := ⟨_, rfl⟩
    have HFR := Lib.hid hf
    have hts := frR_size s a
    rw [hf] at hts
    have HTS := Lib.hid (show t.size ≤ maxLen from Nat.le_trans hts (by unfold maxLen; omega))
    have hFF := HF.out a hax
    rw [hf] at hFF
    unfold foV at hFF
    simp only at hFF
    have HFF := Lib.hid hFF
    clear hf hts hFF
    have o0 := HO.out.at_ 0 rfl
    have o1 := HO.out.at_ 1 rfl
    have o2 := HO.out.at_ 2 rfl
    go_wp2_with fail
    refine (HFF.out _ HDW.out).mono ?_
    rintro e w3 ⟨rfl, hb⟩
    obtain ⟨V3, hV3⟩ : ∃ V, V = w3.alloc (.cells #[.int .i64 n, .string t, .int .i64 q, .int .i64 c] 25) := ⟨_, rfl⟩
    have hbV : Below w3.heap.size w3 V3 := by rw [hV3]; exact (Below.refl _ _).alloc (Nat.le_refl _) _
    have HXF := Lib.hid (show Blk V3 w3.heap.size 25 #[.int .i64 n, .string t, .int .i64 q, .int .i64 c] from by rw [hV3]; exact Blk.new _ _ _)
    have hb3 := hb.trans (hbV.mono hb.size)
    have HO := Lib.hid (HO.out.call hb3)
    have HRS := Lib.hid (HRS.out.call hb3)
    have HA0 := HA
    have HA := Lib.hid (HA.out.call R_Frame_ok hb3)
    have HB := Lib.hid (HB.out.trans (hb3.mono HB.out.size))
    have HWR := Lib.hid hb3
    have HW3 := Lib.hid (show wr.heap.size ≤ w3.heap.size from hb.size)
    clear hb hbV hb3 o0 o1 o2
    go_upto_region 6 with fail
    rw [← hV3]
    clear hV3
    have x0 := HXF.out.at_ 0 rfl
    have x1 := HXF.out.at_ 1 rfl
    have x2 := HXF.out.at_ 2 rfl
    have x3 := HXF.out.at_ 3 rfl
    have o0 := HO.out.at_ 0 rfl
    have o1 := HO.out.at_ 1 rfl
    have o2 := HO.out.at_ 2 rfl
    by_cases hc : c = 0
    rotate_left
    · have hcc : (c != 0) = true := by simpa using hc
      have HST := Lib.hid (log_stop HL.out H8.out HFR.out (fun h => hc h.1))
      clear hc
      have o0 := HO.out.at_ 0 rfl
      have o1 := HO.out.at_ 1 rfl
      have o2 := HO.out.at_ 2 rfl
      have z0 := HRS.out.at_ 0 rfl
      have z1 := HRS.out.at_ 1 rfl
      have z2 := HRS.out.at_ 2 rfl
      have s0 := HRS.out.soft 0
      have s1 := HRS.out.soft 1
      have s2 := HRS.out.soft 2
      go_wp2
      refine bodyPost_ret (v := .agg #[.slice va L.length vc, .int .i64 a, .int .i64 0]) (by simp [results, Tryd.results12, go_sem, *]) rfl ?_
      exact log_fin HA.out (Nat.lt_of_succ_lt HLO.out) HB.out (HST.out)
    subst hc
    by_cases hn : lastN L < n
    rotate_left
    · have hcc : decide (n ≤ lastN L) = true := decide_eq_true (by omega)
      have HST := Lib.hid (log_stop HL.out H8.out HFR.out (fun h => hn h.2))
      clear hn
      have o0 := HO.out.at_ 0 rfl
      have o1 := HO.out.at_ 1 rfl
      have o2 := HO.out.at_ 2 rfl
      have z0 := HRS.out.at_ 0 rfl
      have z1 := HRS.out.at_ 1 rfl
      have z2 := HRS.out.at_ 2 rfl
      have s0 := HRS.out.soft 0
      have s1 := HRS.out.soft 1
      have s2 := HRS.out.soft 2
      go_wp2
      refine bodyPost_ret (v := .agg #[.slice va L.length vc, .int .i64 a, .int .i64 0]) (by simp [results, Tryd.results12, go_sem, *]) rfl ?_
      exact log_fin HA.out (Nat.lt_of_succ_lt HLO.out) HB.out (HST.out)
    have hcc : decide (n ≤ lastN L) = false := decide_eq_false (by omega)
    have HN := Lib.hid hn
    clear hn
    obtain ⟨wd, hwd⟩ : ∃ u, u = V3.drew := ⟨_, rfl⟩
    obtain ⟨w4, hw4⟩ : ∃ u, u = wd.alloc (.cells #[.int .i64 n, .string t] 23) := ⟨_, rfl⟩
    have hbd : Below V3.heap.size V3 wd := by rw [hwd]; exact (Below.refl _ _).drew
    have hb4 : Below wd.heap.size wd w4 := by rw [hw4]; exact (Below.refl _ _).alloc (Nat.le_refl _) _
    have hb34 := hbd.trans (hb4.mono hbd.size)
    have hrow4 : Blk w4 wd.heap.size 23 #[.int .i64 n, .string t] := by rw [hw4]; exact Blk.new _ _ _
    have hla := (logAt_small HL.out).1
    obtain ⟨M, hM⟩ : ∃ M, M = L ++ [(n, t)] := ⟨_, rfl⟩
    obtain ⟨a', c', w5, hrun, hA5, hb5, hk5⟩ := frow_app (c := 1) HA0.out (HWR.out.trans (hb34.mono HWR.out.size)) hM hrow4 HTS.out (by omega)
    have hz4 := hb34.size
    have HRUN := Lib.hid hrun
    have HAP := Lib.hid hA5
    have hO4 := HO.out.call hb34
    have hR4 := HRS.out.call hb34
    have hX4 := HXF.out.call hb34
    have HO4 := Lib.hid hO4
    have HO5 := Lib.hid (show Blk w5 (W.heap.size + 1) 31 #[.slice va L.length vc, .int .i64 a, .int .i64 0] from (hb5.block _ (Nat.lt_of_lt_of_le HLO.out (Nat.le_refl _))).trans hO4)
    have HR5 := Lib.hid (show Blk w5 W.heap.size 31 #[.slice none 0 0, .int .i64 0, .int .i64 0] from (hb5.block _ (by have := HLO.out; omega)).trans hR4)
    have HX5 := Lib.hid (show Blk w5 w3.heap.size 25 #[.int .i64 n, .string t, .int .i64 q, .int .i64 0] from (hk5 _ HW3.out (Nat.lt_of_lt_of_le HXF.out.lt hz4)).trans hX4)
    have HB5 := Lib.hid (HB.out.trans ((hb34.mono HB.out.size).trans (hb5.mono (by have := HLO.out; omega))))
    have HX4 := Lib.hid hX4
    have HX7 := Lib.hid (HX5.out.far (b := W.heap.size + 1) (o := 0) (by have := HW3.out; have h2 := HLT.out; omega) (.slice a' M.length c'))
    have HM := Lib.hid hM
    have HOd := Lib.hid (HO.out.call hbd)
    have HXd := Lib.hid (HXF.out.call hbd)
    clear hrun hA5 hb5 hk5 hO4 hR4 hX4 hbd hb4 hb34 hrow4 hla hM hz4
    clear o0 o1 o2 x0 x1 x2 x3 HO HRS HA HB HXF
    have x0 := HXd.out.at_ 0 rfl
    have x3 := HXd.out.at_ 3 rfl
    rw [hwd] at x0 x3
    have x0 : V3.cell? ⟨w3.heap.size, 0, none⟩ = some (.int .i64 n) := x0
    have x3 : V3.cell? ⟨w3.heap.size, 3, none⟩ = some (.int .i64 0) := x3
    go_upto_region 8 with fail
    clear x0 x3
    refine kregion2 [9, 11] [11] (S := (fun V => V.cell? ⟨W.heap.size + 1, 0, none⟩ = some (.slice va L.length vc))) (T := (fun V => V.cell? ⟨w3.heap.size, 0, none⟩ = some (.int .i64 n) ∧ V.cell? ⟨w3.heap.size, 1, none⟩ = some (.string t) ∧ V.cell? ⟨w3.heap.size, 2, none⟩ = some (.int .i64 q))) (by kernel_rfl) (by rw [← hwd]; exact HOd.out.at_ 0 rfl) (by rw [← hwd]; exact ⟨HXd.out.at_ 0 rfl, HXd.out.at_ 1 rfl, HXd.out.at_ 2 rfl⟩) (fun hHeld hT => ?_)
    rw [← hwd] at hHeld hT
    rw [← hwd]
    clear hwd
    refine kp2 0 ?_
    refine kk2 1 hHeld ?_ (hy := fun w hSw => by (try dsimp only at hSw); have k0 := hSw; clear hSw; go_simp; try with_reducible rfl)
    refine kp2 2 ?_
    refine kl2 3 hT ?_ (hy := fun w hSw => by (try dsimp only at hSw); have k0 := hSw.1; have k1 := hSw.2.1; clear hSw; go_simp; try with_reducible rfl)
    refine kp2 6 ?_
    refine kl2 7 hT ?_ (hy := fun w hSw => by (try dsimp only at hSw); have k0 := hSw.2.2; clear hSw; go_simp; try with_reducible rfl)
    refine kr2 (rs := [4]) (by kernel_rfl) (by simp) (AllK2.cons rfl (fun K hK => ?_) AllK2.nil)
    go_simp
    rw [← hw4]
    clear hw4
    refine hK.out _ _ (HO4.out.at_ 0 rfl) ⟨HX4.out.at_ 0 rfl, HX4.out.at_ 1 rfl, HX4.out.at_ 2 rfl⟩ (fun hHeld hT => ?_)
    clear hK K
    refine kr2 (rs := [5]) (by kernel_rfl) (by simp) (AllK2.cons rfl (fun K hK => ?_) AllK2.nil)
    refine step_app rfl (.tmp 26) (.tmp 29) 29 rfl rfl rfl HRUN.out ?_
    refine hK.out _ _ (HO5.out.at_ 0 rfl) ⟨HX5.out.at_ 0 rfl, HX5.out.at_ 1 rfl, HX5.out.at_ 2 rfl⟩ (fun hHeld hT => ?_)
    clear hK K
    refine kp2 8 ?_
    refine kr2 (rs := [9]) (by kernel_rfl) (by simp) (AllK2.half (by simp) rfl (fun K hK => ?_) AllK2.nil)
    have f0 := HO5.out.soft 0
    have e0 := HO5.out.at_ 0 rfl
    go_simp
    refine hK.out _ _ ⟨HX7.out.at_ 0 rfl, HX7.out.at_ 1 rfl, HX7.out.at_ 2 rfl⟩ (fun hT => ?_)
    clear hK K f0 e0
    refine kp2 10 ?_
    refine kr2 (rs := [11]) (by kernel_rfl) (by simp) (AllK2.last (by simp) (by simp) rfl (fun K hK => ?_))
    have f1 : (w5.setCell ⟨W.heap.size + 1, 0, none⟩ (.slice a' M.length c')).frozen? ⟨W.heap.size + 1, 1, none⟩ = false := (HO5.out.set 0 _).soft 1
    have e1 : (w5.setCell ⟨W.heap.size + 1, 0, none⟩ (.slice a' M.length c')).cell? ⟨W.heap.size + 1, 1, none⟩ = some (.int .i64 a) := (HO5.out.set 0 (.slice a' M.length c')).at_ 1 rfl
    go_simp
    refine hK.out _ _ ?_
    clear hK K f1 e1
    refine k02 ?_
    clear hT
    obtain ⟨w6, hw6⟩ : ∃ u, u = (w5.setCell ⟨W.heap.size + 1, 0, none⟩ (.slice a' M.length c')).setCell ⟨W.heap.size + 1, 1, none⟩ (.int .i64 q) := ⟨_, rfl⟩
    have hof : Off (fun k => k = W.heap.size + 1) w5 w6 := by rw [hw6]; exact ((Off.refl (fun k => k = W.heap.size + 1) w5).setCell (p := ⟨W.heap.size + 1, 0, none⟩) rfl _).setCell (p := ⟨W.heap.size + 1, 1, none⟩) rfl _
    have HO6 := Lib.hid (show Blk w6 (W.heap.size + 1) 31 #[.slice a' M.length c', .int .i64 q, .int .i64 0] from by rw [hw6]; exact blk3 HO5.out)
    have HR6 := Lib.hid (show Blk w6 W.heap.size 31 #[.slice none 0 0, .int .i64 0, .int .i64 0] from (hof.block _ HR5.out.lt (by omega)).trans HR5.out)
    have HX6 := Lib.hid (show Blk w6 w3.heap.size 25 #[.int .i64 n, .string t, .int .i64 q, .int .i64 0] from (hof.block _ HX5.out.lt (by have := HW3.out; have h2 := HLT.out; omega)).trans HX5.out)
    have HB6 := Lib.hid (HB5.out.trans (hof.below HB5.out.size (fun k hk => by omega)))
    have HA6 := Lib.hid (frow_off HAP.out hof (by have := HLO.out; omega))
    rw [← hw6]
    clear hw6 hof
    have y0 := HX6.out.at_ 0 rfl
    have hok := frR_ok (s := s) (a := a) (by rw [HFR.out])
    rw [HFR.out] at hok
    simp only at hok
    have HQ := Lib.hid (show 0 ≤ q ∧ q ≤ s.size from by omega)
    have hqa : a + 8 ≤ q := hok.2.1
    have hqs : q ≤ s.size := hok.2.2.1
    have ha0 : 0 ≤ a := hok.1
    clear hok
    have HLS := Lib.hid (log_step HL.out HFR.out HN.out HM.out)
    have HLN := Lib.hid (show lastN M = n from by rw [HM.out, lastN_snoc])
    have u1 := HO6.out.at_ 1 rfl
    go_wp2
    go_roundw
    case rel => exact ⟨M, a', c', q, lo, by rw [HLN.out], HLS, HQ, HLO, HA6, HO6, HR6, HB6⟩
    case measure =>
      simp only [u1]
      have v1 := HOW.out.at_ 1 rfl
      simp only [v1]
      simp [intOf]
      omega
end Go.Proofs.YtdedomfocljhaaaDoor.FrC
