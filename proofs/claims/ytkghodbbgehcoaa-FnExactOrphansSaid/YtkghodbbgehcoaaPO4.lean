/- Of this claim's texts the part 4: TaR3 CmpL LbC TaB TaR4. -/
import Derived.Shelf.SlicesG.Cmp
import Derived.Ground.SlgcProg
import Derived.Test.YtkghodbbgehcoaaProg
import Derived.Test.YtkghodbbgehcoaaPO3
section
namespace Go.Proofs.Ytkghodbbgehcoaa.RepC
open Go.RowKit RowC ValC SpanC KeptC NameC
set_option linter.unusedVariables false
set_option linter.unusedSimpArgs false
set_option maxRecDepth 100000 in
set_option maxHeartbeats 3200000 in
theorem tasks_spec {L : List D_Task} {a : Option Addr} {cap : Nat} {W : World} (h : RdSl R_Task W W.heap.size L a cap) :
    Calls Try.prog 29 #[.slice a L.length cap] W (IsB (tasksB L) W) := by
  refine Calls.mono ?_ fun e w' h => resB_is tasksB_iff h
  have hn : L.length ≤ 9223372036854775807 := by have h1 := h.1; have h2 := h.2.1; unfold maxLen at h2; omega
  have H := Lib.hid h
  clear h
  by_cases h96 : L.length ≤ 96
  rotate_left
  · have HN := Lib.hid (show ¬ TasksR L from fun h => h96 h.1)
    have hd : decide ((96 : Int) < (L.length : Int)) = true := decide_eq_true (by omega)
    go_enter Try.func29, Try.ntmps29
    go_wp2
    go_ret
    exact resB_no HN.out (Below.refl _ _)
  have hd : decide ((96 : Int) < (L.length : Int)) = false := decide_eq_false (by omega)
  go_enter Try.func29, Try.ntmps29
  go_wp2
  go_loopw [3] (fun i wr => ∃ k : Nat, k ≤ L.length ∧ i = .int .i64 k ∧ Hid (tasTo L k) ∧ Below W.heap.size W wr) (fun i _ => L.length - (intOf i).toNat)
  case atStart => exact ⟨0, Nat.zero_le _, rfl, Lib.hid tasTo_zero, Below.refl _ _⟩
  case round =>
    obtain ⟨k, hk, rfl, HO, hB⟩ := hrel
    have HB := Lib.hid hB
    have hsz := hB.size
    by_cases hlt : k < L.length
    · skip
      obtain ⟨⟨⟨x0, x1⟩, x2, x3, x4, x5, x6, ⟨x7, x8⟩, x9, x10, x11, x12, M⟩, hx⟩ := el_some hlt
      have HX := Lib.hid hx
      obtain ⟨g, o, us, rfl, hg, hu, hr⟩ := (H.out.below R_Task_ok hB).at_ hx
      have HRX := Lib.hid hr
      obtain ⟨ba, bc, rfl, k_M, b_x3⟩ := rd_Task hr
      have e0 : wr.cell? ⟨g, o + k * 14, none⟩ = some (.int .i64 x0) := by simpa [size_TaskS, Nat.add_assoc] using hu 0 _ rfl
      have e1 : wr.cell? ⟨g, o + k * 14 + 1, none⟩ = some (.int .i64 x1) := by simpa [size_TaskS, Nat.add_assoc] using hu 1 _ rfl
      have e2 : wr.cell? ⟨g, o + k * 14 + 2, none⟩ = some (.int .i64 x2) := by simpa [size_TaskS, Nat.add_assoc] using hu 2 _ rfl
      have e3 : wr.cell? ⟨g, o + k * 14 + 3, none⟩ = some (.string x3) := by simpa [size_TaskS, Nat.add_assoc] using hu 3 _ rfl
      have e4 : wr.cell? ⟨g, o + k * 14 + 4, none⟩ = some (.int .i64 x4) := by simpa [size_TaskS, Nat.add_assoc] using hu 4 _ rfl
      have e5 : wr.cell? ⟨g, o + k * 14 + 5, none⟩ = some (.int .i64 x5) := by simpa [size_TaskS, Nat.add_assoc] using hu 5 _ rfl
      have e6 : wr.cell? ⟨g, o + k * 14 + 6, none⟩ = some (.int .i64 x6) := by simpa [size_TaskS, Nat.add_assoc] using hu 6 _ rfl
      have e7 : wr.cell? ⟨g, o + k * 14 + 7, none⟩ = some (.int .i64 x7) := by simpa [size_TaskS, Nat.add_assoc] using hu 7 _ rfl
      have e8 : wr.cell? ⟨g, o + k * 14 + 8, none⟩ = some (.int .i64 x8) := by simpa [size_TaskS, Nat.add_assoc] using hu 8 _ rfl
      have e9 : wr.cell? ⟨g, o + k * 14 + 9, none⟩ = some (.int .i64 x9) := by simpa [size_TaskS, Nat.add_assoc] using hu 9 _ rfl
      have e10 : wr.cell? ⟨g, o + k * 14 + 10, none⟩ = some (.int .i64 x10) := by simpa [size_TaskS, Nat.add_assoc] using hu 10 _ rfl
      have e11 : wr.cell? ⟨g, o + k * 14 + 11, none⟩ = some (.int .i64 x11) := by simpa [size_TaskS, Nat.add_assoc] using hu 11 _ rfl
      have e12 : wr.cell? ⟨g, o + k * 14 + 12, none⟩ = some (.int .i64 x12) := by simpa [size_TaskS, Nat.add_assoc] using hu 12 _ rfl
      have e13 : wr.cell? ⟨g, o + k * 14 + 13, none⟩ = some (.slice ba M.length bc) := by simpa [size_TaskS, Nat.add_assoc] using hu 13 _ rfl
      have hi0 : (0 : Int) ≤ (k : Int) := Int.natCast_nonneg _
      have hi1 : (k : Int) < (L.length : Int) := by omega
      obtain ⟨w1, hw1⟩ : ∃ w, w = wr.alloc (.cells #[.int .i64 x0, .int .i64 x1, .int .i64 x2, .string x3, .int .i64 x4, .int .i64 x5, .int .i64 x6, .int .i64 x7, .int .i64 x8, .int .i64 x9, .int .i64 x10, .int .i64 x11, .int .i64 x12, .slice ba M.length bc] 43) := ⟨_, rfl⟩
      have hbA : Below wr.heap.size wr w1 := by rw [hw1]; exact (Below.refl _ _).alloc (Nat.le_refl _) _
      have HG := Lib.hid (Nat.lt_of_lt_of_le hg hsz)
      have HP1 := Lib.hid (show Blk w1 wr.heap.size 43 #[.int .i64 x0, .int .i64 x1, .int .i64 x2, .string x3, .int .i64 x4, .int .i64 x5, .int .i64 x6, .int .i64 x7, .int .i64 x8, .int .i64 x9, .int .i64 x10, .int .i64 x11, .int .i64 x12, .slice ba M.length bc] from by rw [hw1]; exact Blk.new _ _ _)
      have HB1 := Lib.hid (HB.out.trans (hbA.mono hsz))
      have HZ1 := Lib.hid hbA.size
      have q0 := HP1.out.at_ 0 rfl
      have q1 := HP1.out.at_ 1 rfl
      have q2 := HP1.out.at_ 2 rfl
      have q3 := HP1.out.at_ 3 rfl
      have q4 := HP1.out.at_ 4 rfl
      have q5 := HP1.out.at_ 5 rfl
      have q6 := HP1.out.at_ 6 rfl
      have q7 := HP1.out.at_ 7 rfl
      have q8 := HP1.out.at_ 8 rfl
      have q9 := HP1.out.at_ 9 rfl
      have q10 := HP1.out.at_ 10 rfl
      have q11 := HP1.out.at_ 11 rfl
      have q12 := HP1.out.at_ 12 rfl
      have q13 := HP1.out.at_ 13 rfl
      have HR1 := Lib.hid ((R_Task_ok.rd_below HRX.out (hbA.mono hsz) |> fun h => R_Task_ok.rd_more h (Nat.le_trans hsz hbA.size)))
      clear hu hr hg hB hx k_M
      go_wp2_with fail
      rw [← hw1]
      clear hw1 hbA e0 e1 e2 e3 e4 e5 e6 e7 e8 e9 e10 e11 e12 e13
      refine (taskS_w HR1.out).mono ?_
      rintro e w2 ⟨rfl, hb⟩
      have HB2 := Lib.hid (HB1.out.trans (hb.mono HB1.out.size))
      have HP2 := Lib.hid (HP1.out.call hb)
      have HG2 := Lib.hid (show g < w2.heap.size from Nat.lt_of_lt_of_le HG.out (Nat.le_trans HZ1.out hb.size))
      have HA2 := Lib.hid ((H.out.below R_Task_ok HB2.out).more R_Task_ok HB2.out.size)
      clear hb q0 q1 q2 q3 q4 q5 q6 q7 q8 q9 q10 q11 q12 q13
      cases hT : taskB ((x0, x1), x2, x3, x4, x5, x6, (x7, x8), x9, x10, x11, x12, M) with
      | false =>
        have HN := Lib.hid (not_tasks HX.out fun h => by have h2 := taskB_iff.2 h.1; rw [hT] at h2; cases h2)
        clear hT
        go_wp2
        go_ret
        exact resB_no HN.out HB2.out
      | true =>
      have HT := Lib.hid (taskB_iff.1 hT)
      have H1 := Lib.hid (show LabC.rB x0 x1 = true from HT.out.1)
      have hTL := Lib.hid (show (L.take k).length = k from by rw [List.length_take]; omega)
      clear hT
      by_cases hk0 : k = 0
      · have hkd : ((k : Int) == 0) = true := by simp [hk0]
        have HK0 := Lib.hid hk0
        clear hk0
        go_wp2_with fail
        refine wp_region_held_drew (S := (fun V => Below (w2).heap.size (w2) V)) (by kernel_rfl) ((Below.refl _ _).drew) (fun hHeld => ?_)
        refine tk 0 hHeld ?_
        refine tk 1 hHeld ?_
        refine tk 2 hHeld ?_
        refine tn 3 hHeld ?_
        refine tn 4 hHeld ?_
        refine tn 5 hHeld ?_
        refine tn 6 hHeld ?_
        refine tn 7 hHeld ?_
        refine tn 8 hHeld ?_
        refine tn 9 hHeld ?_
        refine tn 10 hHeld ?_
        refine tn 11 hHeld ?_
        refine tn 12 hHeld ?_
        refine tn 13 hHeld ?_
        refine tk 14 hHeld ?_
        refine tk 15 hHeld ?_
        refine rd0 ?_
        have HF := Lib.hid hHeld
        clear hHeld
        have HF9 := Lib.hid HF.out
        have HP9 := Lib.hid (HP2.out.call HF.out)
        have HB9x := Lib.hid (HB2.out.trans (HF.out.mono HB2.out.size))
        have HA9 := Lib.hid (((HA2.out.below R_Task_ok HF.out).more R_Task_ok HF.out.size).take k)
        clear HF
        by_cases hid : x2 = 1
        · have hin : (x2 != 1) = false := by simp [hid]
          have HFI := Lib.hid (show k = 0 → tId ((x0, x1), x2, x3, x4, x5, x6, (x7, x8), x9, x10, x11, x12, M) = 1 from fun _ => hid)
          have HNX := Lib.hid (show ∀ y, 0 < k → L[k - 1]? = some y → NextT y ((x0, x1), x2, x3, x4, x5, x6, (x7, x8), x9, x10, x11, x12, M) from fun y h => absurd HK0.out (by omega))
          clear hid
          go_wp2_with fail
          refine wp_region_held_drew (S := (fun V => Below (w2.drew).heap.size (w2.drew) V)) (by kernel_rfl) ((Below.refl _ _).drew) (fun hHeld => ?_)
          refine tk 0 hHeld ?_
          refine tk 1 hHeld ?_
          refine tk 2 hHeld ?_
          refine tk 3 hHeld ?_ (hy := fun w hSw => by (try dsimp only at hSw); have k0 := (hSw.cell (p := ⟨wr.heap.size, 2, none⟩) HP9.out.lt).trans (HP9.out.at_ 2 rfl); clear hSw; go_simp; try with_reducible rfl)
          refine tk 4 hHeld ?_
          refine tk 5 hHeld ?_
          refine tk 6 hHeld ?_
          refine tk 7 hHeld ?_
          refine tk 8 hHeld ?_
          refine tk 9 hHeld ?_
          refine tn 10 hHeld ?_
          refine tn 11 hHeld ?_
          refine tn 12 hHeld ?_
          refine tn 13 hHeld ?_
          refine tn 14 hHeld ?_
          refine tn 15 hHeld ?_
          refine tn 16 hHeld ?_
          refine tn 17 hHeld ?_
          refine tn 18 hHeld ?_
          refine tn 19 hHeld ?_
          refine tn 20 hHeld ?_
          refine tn 21 hHeld ?_
          refine tn 22 hHeld ?_
          refine tn 23 hHeld ?_
          refine tn 24 hHeld ?_
          refine tn 25 hHeld ?_
          refine tn 26 hHeld ?_
          refine tn 27 hHeld ?_
          refine tn 28 hHeld ?_
          refine tn 29 hHeld ?_
          refine tn 30 hHeld ?_
          refine tk 31 hHeld ?_
          refine tk 32 hHeld ?_
          refine rd0 ?_
          have HF := Lib.hid hHeld
          clear hHeld
          have HF10 := Lib.hid HF.out
          clear HF
          have HB10 := Lib.hid (HB9x.out.trans (HF10.out.mono HB9x.out.size))
          have HP10 := Lib.hid (HP9.out.call HF10.out)
          have HA10 := Lib.hid ((HA9.out.below R_Task_ok HF10.out).more R_Task_ok HF10.out.size)
          clear hin
          by_cases h9 : x9 = 0
          · have h9n : (x9 != 0) = false := by simp [h9]
            have HS := Lib.hid (tasTo_step HO.out HX.out ⟨HT.out, HFI.out, HNX.out, fun h => absurd h9 h⟩)
            clear h9
            go_wp2_with fail
            refine wp_region_held_drew (S := (fun V => Below (w2.drew.drew).heap.size (w2.drew.drew) V)) (by kernel_rfl) ((Below.refl _ _).drew) (fun hHeld => ?_)
            refine tk 0 hHeld ?_
            refine tk 1 hHeld ?_ (hy := fun w hSw => by (try dsimp only at hSw); have k0 := (hSw.cell (p := ⟨wr.heap.size, 9, none⟩) HP10.out.lt).trans (HP10.out.at_ 9 rfl); clear hSw; go_simp; try with_reducible rfl)
            refine tk 2 hHeld ?_
            refine tk 3 hHeld ?_
            refine tn 4 hHeld ?_
            refine tn 5 hHeld ?_
            refine tn 6 hHeld ?_
            refine tn 7 hHeld ?_
            refine tn 8 hHeld ?_
            refine tn 9 hHeld ?_
            refine tn 10 hHeld ?_
            refine tn 11 hHeld ?_
            refine tn 12 hHeld ?_
            refine tk 13 hHeld ?_
            refine rd0 ?_
            have HF := Lib.hid hHeld
            clear hHeld
            have HB12 := Lib.hid (HB10.out.trans (HF.out.mono HB10.out.size))
            go_wp2
            go_roundw
            case rel => exact ⟨k + 1, by omega, by go_num, HS, by first | exact HB12.out | exact HB12.out.drew | exact bdrewN HB12.out _⟩
            case measure => simp [intOf]; omega
          · have h9n : (x9 != 0) = true := by simp [h9]
            have H9 := Lib.hid h9
            clear h9
            obtain ⟨b, hb9⟩ : ∃ b, decide (atT (L.take k) ((x7, x8), x9) < 0) = b := ⟨_, rfl⟩
            have HB9 := Lib.hid hb9
            have hkc : k ≤ cap := by have h8 := H.out.1; omega
            go_wp2_with fail
            refine wp_region_held_drew (S := (fun V => Below (w2.drew.drew).heap.size (w2.drew.drew) V)) (by kernel_rfl) ((Below.refl _ _).drew) (fun hHeld => ?_)
            refine tk 0 hHeld ?_
            refine tk 1 hHeld ?_ (hy := fun w hSw => by (try dsimp only at hSw); have k0 := (hSw.cell (p := ⟨wr.heap.size, 9, none⟩) HP10.out.lt).trans (HP10.out.at_ 9 rfl); clear hSw; go_simp; try with_reducible rfl)
            refine tk 2 hHeld ?_
            refine tk 3 hHeld ?_
            refine tk 4 hHeld ?_
            refine tk 5 hHeld ?_
            refine tk 6 hHeld ?_
            refine tk 7 hHeld ?_
            refine tk 8 hHeld ?_ (hy := fun w hSw => by (try dsimp only at hSw); have k0 := (hSw.cell (p := ⟨wr.heap.size, 7, none⟩) HP10.out.lt).trans (HP10.out.at_ 7 rfl); have k1 := (hSw.cell (p := ⟨wr.heap.size, 8, none⟩) HP10.out.lt).trans (HP10.out.at_ 8 rfl); clear hSw; go_simp; try with_reducible rfl)
            refine tk 9 hHeld ?_
            refine tk 10 hHeld ?_ (hy := fun w hSw => by (try dsimp only at hSw); have k0 := (hSw.cell (p := ⟨wr.heap.size, 9, none⟩) HP10.out.lt).trans (HP10.out.at_ 9 rfl); clear hSw; go_simp; try with_reducible rfl)
            refine rd1 11 (fun K hK => ?_)
            go_simp
            go_at_call 83
            refine (at_spec (hTL.out) ((HA10.out.below R_Task_ok hHeld).more R_Task_ok hHeld.size)).mono ?_
            rintro e w12 ⟨rfl, hb⟩
            refine hK.out _ _ (hHeld.trans (hb.mono hHeld.size)) (fun hHeld => ?_)
            clear hK K hb
            refine tk 12 hHeld ?_
            refine tk 13 hHeld ?_
            refine rd0 ?_
            have HF := Lib.hid hHeld
            clear hHeld
            have HB12 := Lib.hid (HB10.out.trans (HF.out.mono HB10.out.size))
            cases b with
            | true =>
              have HN := Lib.hid (not_tasks HX.out fun h => by have h2 := h.2.2.2 H9.out; have h3 := of_decide_eq_true HB9.out; exact absurd h2 (by show ¬ 0 ≤ atT (L.take k) ((x7, x8), x9); omega))
              go_wp2
              go_ret
              exact resB_no HN.out HB12.out
            | false =>
              have HS := Lib.hid (tasTo_step HO.out HX.out ⟨HT.out, HFI.out, HNX.out, fun _ => by have h3 := of_decide_eq_false HB9.out; show 0 ≤ atT (L.take k) ((x7, x8), x9); omega⟩)
              go_wp2
              go_roundw
              case rel => exact ⟨k + 1, by omega, by go_num, HS, by first | exact HB12.out | exact HB12.out.drew | exact bdrewN HB12.out _⟩
              case measure => simp [intOf]; omega
        · have hin : (x2 != 1) = true := by simp [hid]
          have HN := Lib.hid (not_tasks HX.out fun h => hid (h.2.1 HK0.out))
          clear hid
          go_wp2_with fail
          refine wp_region_held_drew (S := (fun V => Below (w2.drew).heap.size (w2.drew) V)) (by kernel_rfl) ((Below.refl _ _).drew) (fun hHeld => ?_)
          refine tk 0 hHeld ?_
          refine tk 1 hHeld ?_
          refine tk 2 hHeld ?_
          refine tk 3 hHeld ?_ (hy := fun w hSw => by (try dsimp only at hSw); have k0 := (hSw.cell (p := ⟨wr.heap.size, 2, none⟩) HP9.out.lt).trans (HP9.out.at_ 2 rfl); clear hSw; go_simp; try with_reducible rfl)
          refine tk 4 hHeld ?_
          refine tk 5 hHeld ?_
          refine tk 6 hHeld ?_
          refine tn 7 hHeld ?_
          refine tn 8 hHeld ?_
          refine tn 9 hHeld ?_
          refine tn 10 hHeld ?_
          refine tn 11 hHeld ?_
          refine tn 12 hHeld ?_
          refine tn 13 hHeld ?_
          refine tn 14 hHeld ?_
          refine tn 15 hHeld ?_
          refine tn 16 hHeld ?_
          refine tn 17 hHeld ?_
          refine tn 18 hHeld ?_
          refine tn 19 hHeld ?_
          refine tn 20 hHeld ?_
          refine tn 21 hHeld ?_
          refine tn 22 hHeld ?_
          refine tn 23 hHeld ?_
          refine tn 24 hHeld ?_
          refine tn 25 hHeld ?_
          refine tn 26 hHeld ?_
          refine tn 27 hHeld ?_
          refine tn 28 hHeld ?_
          refine tn 29 hHeld ?_
          refine tn 30 hHeld ?_
          refine tn 31 hHeld ?_
          refine tk 32 hHeld ?_
          refine rd0 ?_
          have HF := Lib.hid hHeld
          clear hHeld
          have HF10 := Lib.hid HF.out
          clear HF
          have HB10 := Lib.hid (HB9x.out.trans (HF10.out.mono HB9x.out.size))
          go_wp2
          go_ret
          exact resB_no HN.out HB10.out
      · have hkd : ((k : Int) == 0) = false := by simp; omega
        have HK0 := Lib.hid hk0
        obtain ⟨j, hj⟩ : ∃ j, k = j + 1 := ⟨k - 1, by omega⟩
        have HJ := Lib.hid hj
        obtain ⟨⟨⟨y0, y1⟩, y2, y3, y4, y5, y6, ⟨y7, y8⟩, y9, y10, y11, y12, N⟩, hy⟩ := el_some (show j < L.length by omega)
        have HY := Lib.hid (show L[k - 1]? = some ((y0, y1), y2, y3, y4, y5, y6, (y7, y8), y9, y10, y11, y12, N) from by rw [hj, Nat.add_sub_cancel]; exact hy)
        obtain ⟨g', o', us', hgo, hg', hu', hr'⟩ := HA2.out.at_ hy
        obtain ⟨rfl, rfl⟩ : g' = g ∧ o' = o := by cases hgo; exact ⟨rfl, rfl⟩
        obtain ⟨da, dc, rfl, k_N, b_y3⟩ := rd_Task hr'
        have p0 : w2.cell? ⟨g', o' + j * 14, none⟩ = some (.int .i64 y0) := by simpa [size_TaskS, Nat.add_assoc] using hu' 0 _ rfl
        have p1 : w2.cell? ⟨g', o' + j * 14 + 1, none⟩ = some (.int .i64 y1) := by simpa [size_TaskS, Nat.add_assoc] using hu' 1 _ rfl
        have p2 : w2.cell? ⟨g', o' + j * 14 + 2, none⟩ = some (.int .i64 y2) := by simpa [size_TaskS, Nat.add_assoc] using hu' 2 _ rfl
        have hjs : (k : Int) - 1 = (j : Int) := by omega
        have hj0 : (0 : Int) ≤ (j : Int) := Int.natCast_nonneg _
        have hj1 : (j : Int) < (L.length : Int) := by omega
        have hjw : IntKind.i64.wrap (j : Int) = (j : Int) := IntWalk.i64_in _ (by omega)
        have HTY := Lib.hid ((HO.out (k - 1) _ (by omega) HY.out).1)
        have HRY := Lib.hid (show LabC.rB y0 y1 = true from HTY.out.1)
        have hy2 : 1 ≤ y2 ∧ y2 ≤ 12 := HTY.out.id
        have hyw : IntKind.i64.wrap (y2 + 1) = y2 + 1 := IntWalk.i64_in _ (by omega)
        have HFI := Lib.hid (show k = 0 → tId ((x0, x1), x2, x3, x4, x5, x6, (x7, x8), x9, x10, x11, x12, M) = 1 from fun h => absurd h HK0.out)
        have HLB := Lib.hid (show decide (8 * y0 + y1 < 8 * x0 + x1) = true ↔ ltLb (y0, y1) (x0, x1) from by
          have h1 := rB_bd HRY.out; have h2 := rB_bd H1.out
          simp only [decide_eq_true_eq]; unfold ltLb; simp only; omega)
        clear hgo hg' hu' hr' hy hj hk0 k_N
        obtain ⟨f, hf⟩ : ∃ f, decide (8 * y0 + y1 < 8 * x0 + x1) = f := ⟨_, rfl⟩
        rw [hf] at HLB
        go_wp2_with fail
        refine wp_region_held_drew (S := (fun V => Below (w2).heap.size (w2) V)) (by kernel_rfl) ((Below.refl _ _).drew) (fun hHeld => ?_)
        refine tk 0 hHeld ?_
        refine tk 1 hHeld ?_
        refine tk 2 hHeld ?_
        refine tk 3 hHeld ?_
        refine tk 4 hHeld ?_
        refine tk 5 hHeld ?_
        refine tk 6 hHeld ?_
        refine tk 7 hHeld ?_
        refine tk 8 hHeld ?_ (hy := fun w hSw => by (try dsimp only at hSw); have k0 := (hSw.cell (p := ⟨g', o' + j * 14, none⟩) HG2.out).trans p0; have k1 := (hSw.cell (p := ⟨g', o' + j * 14 + 1, none⟩) HG2.out).trans p1; clear hSw; go_simp; try with_reducible rfl)
        refine tk 10 hHeld ?_
        refine tk 11 hHeld ?_ (hy := fun w hSw => by (try dsimp only at hSw); have k0 := (hSw.cell (p := ⟨wr.heap.size, 0, none⟩) HP2.out.lt).trans (HP2.out.at_ 0 rfl); have k1 := (hSw.cell (p := ⟨wr.heap.size, 1, none⟩) HP2.out.lt).trans (HP2.out.at_ 1 rfl); clear hSw; go_simp; try with_reducible rfl)
        refine rd1 9 (fun K hK => ?_)
        go_simp
        go_at_call 82
        refine (ord_w HRY.out _).mono ?_
        rintro e w3 ⟨rfl, hb⟩
        refine hK.out _ _ (hHeld.trans (hb.mono hHeld.size)) (fun hHeld => ?_)
        clear hK K hb
        refine rd1 12 (fun K hK => ?_)
        go_simp
        go_at_call 82
        refine (ord_w H1.out _).mono ?_
        rintro e w4 ⟨rfl, hb⟩
        refine hK.out _ _ (hHeld.trans (hb.mono hHeld.size)) (fun hHeld => ?_)
        clear hK K hb
        refine tk 13 hHeld ?_
        refine tk 14 hHeld ?_
        refine tk 15 hHeld ?_
        refine rd0 ?_
        have HF := Lib.hid hHeld
        clear hHeld
        have HF9 := Lib.hid HF.out
        have HP9 := Lib.hid (HP2.out.call HF.out)
        have HB9x := Lib.hid (HB2.out.trans (HF.out.mono HB2.out.size))
        have HA9 := Lib.hid (((HA2.out.below R_Task_ok HF.out).more R_Task_ok HF.out.size).take k)
        clear HF
        have HU := Lib.hid (fun (y : D_Task) (hy : L[k - 1]? = some y) => (Option.some.inj (HY.out.symm.trans hy)))
        cases f with
        | true =>
          have HLT := Lib.hid (HLB.out.1 rfl)
          by_cases hid : x2 = 1
          · have hin : (x2 != 1) = false := by simp [hid]
            have HNX := Lib.hid (show ∀ y, 0 < k → L[k - 1]? = some y → NextT y ((x0, x1), x2, x3, x4, x5, x6, (x7, x8), x9, x10, x11, x12, M) from fun y _ hy => by rw [← HU.out y hy]; exact .inr ⟨HLT.out, hid⟩)
            clear hid
            go_wp2_with fail
            refine wp_region_held_drew (S := (fun V => Below (w4).heap.size (w4) V)) (by kernel_rfl) ((Below.refl _ _).drew) (fun hHeld => ?_)
            refine tk 0 hHeld ?_
            refine tk 1 hHeld ?_
            refine tk 2 hHeld ?_
            refine tk 3 hHeld ?_ (hy := fun w hSw => by (try dsimp only at hSw); have k0 := (hSw.cell (p := ⟨wr.heap.size, 2, none⟩) HP9.out.lt).trans (HP9.out.at_ 2 rfl); clear hSw; go_simp; try with_reducible rfl)
            refine tk 4 hHeld ?_
            refine tk 5 hHeld ?_
            refine tk 6 hHeld ?_
            refine tk 7 hHeld ?_
            refine tk 8 hHeld ?_
            refine tk 9 hHeld ?_
            refine tn 10 hHeld ?_
            refine tn 11 hHeld ?_
            refine tn 12 hHeld ?_
            refine tn 13 hHeld ?_
            refine tn 14 hHeld ?_
            refine tn 15 hHeld ?_
            refine tn 16 hHeld ?_
            refine tn 17 hHeld ?_
            refine tn 18 hHeld ?_
            refine tn 19 hHeld ?_
            refine tn 20 hHeld ?_
            refine tn 21 hHeld ?_
            refine tn 22 hHeld ?_
            refine tn 23 hHeld ?_
            refine tn 24 hHeld ?_
            refine tn 25 hHeld ?_
            refine tn 26 hHeld ?_
            refine tn 27 hHeld ?_
            refine tn 28 hHeld ?_
            refine tn 29 hHeld ?_
            refine tn 30 hHeld ?_
            refine tk 31 hHeld ?_
            refine tk 32 hHeld ?_
            refine rd0 ?_
            have HF := Lib.hid hHeld
            clear hHeld
            have HF10 := Lib.hid HF.out
            clear HF
            have HB10 := Lib.hid (HB9x.out.trans (HF10.out.mono HB9x.out.size))
            have HP10 := Lib.hid (HP9.out.call HF10.out)
            have HA10 := Lib.hid ((HA9.out.below R_Task_ok HF10.out).more R_Task_ok HF10.out.size)
            clear hin
            by_cases h9 : x9 = 0
            · have h9n : (x9 != 0) = false := by simp [h9]
              have HS := Lib.hid (tasTo_step HO.out HX.out ⟨HT.out, HFI.out, HNX.out, fun h => absurd h9 h⟩)
              clear h9
              go_wp2_with fail
              refine wp_region_held_drew (S := (fun V => Below (w4.drew).heap.size (w4.drew) V)) (by kernel_rfl) ((Below.refl _ _).drew) (fun hHeld => ?_)
              refine tk 0 hHeld ?_
              refine tk 1 hHeld ?_ (hy := fun w hSw => by (try dsimp only at hSw); have k0 := (hSw.cell (p := ⟨wr.heap.size, 9, none⟩) HP10.out.lt).trans (HP10.out.at_ 9 rfl); clear hSw; go_simp; try with_reducible rfl)
              refine tk 2 hHeld ?_
              refine tk 3 hHeld ?_
              refine tn 4 hHeld ?_
              refine tn 5 hHeld ?_
              refine tn 6 hHeld ?_
              refine tn 7 hHeld ?_
              refine tn 8 hHeld ?_
              refine tn 9 hHeld ?_
              refine tn 10 hHeld ?_
              refine tn 11 hHeld ?_
              refine tn 12 hHeld ?_
              refine tk 13 hHeld ?_
              refine rd0 ?_
              have HF := Lib.hid hHeld
              clear hHeld
              have HB12 := Lib.hid (HB10.out.trans (HF.out.mono HB10.out.size))
              go_wp2
              go_roundw
              case rel => exact ⟨k + 1, by omega, by go_num, HS, by first | exact HB12.out | exact HB12.out.drew | exact bdrewN HB12.out _⟩
              case measure => simp [intOf]; omega
            · have h9n : (x9 != 0) = true := by simp [h9]
              have H9 := Lib.hid h9
              clear h9
              obtain ⟨b, hb9⟩ : ∃ b, decide (atT (L.take k) ((x7, x8), x9) < 0) = b := ⟨_, rfl⟩
              have HB9 := Lib.hid hb9
              have hkc : k ≤ cap := by have h8 := H.out.1; omega
              go_wp2_with fail
              refine wp_region_held_drew (S := (fun V => Below (w4.drew).heap.size (w4.drew) V)) (by kernel_rfl) ((Below.refl _ _).drew) (fun hHeld => ?_)
              refine tk 0 hHeld ?_
              refine tk 1 hHeld ?_ (hy := fun w hSw => by (try dsimp only at hSw); have k0 := (hSw.cell (p := ⟨wr.heap.size, 9, none⟩) HP10.out.lt).trans (HP10.out.at_ 9 rfl); clear hSw; go_simp; try with_reducible rfl)
              refine tk 2 hHeld ?_
              refine tk 3 hHeld ?_
              refine tk 4 hHeld ?_
              refine tk 5 hHeld ?_
              refine tk 6 hHeld ?_
              refine tk 7 hHeld ?_
              refine tk 8 hHeld ?_ (hy := fun w hSw => by (try dsimp only at hSw); have k0 := (hSw.cell (p := ⟨wr.heap.size, 7, none⟩) HP10.out.lt).trans (HP10.out.at_ 7 rfl); have k1 := (hSw.cell (p := ⟨wr.heap.size, 8, none⟩) HP10.out.lt).trans (HP10.out.at_ 8 rfl); clear hSw; go_simp; try with_reducible rfl)
              refine tk 9 hHeld ?_
              refine tk 10 hHeld ?_ (hy := fun w hSw => by (try dsimp only at hSw); have k0 := (hSw.cell (p := ⟨wr.heap.size, 9, none⟩) HP10.out.lt).trans (HP10.out.at_ 9 rfl); clear hSw; go_simp; try with_reducible rfl)
              refine rd1 11 (fun K hK => ?_)
              go_simp
              go_at_call 83
              refine (at_spec (hTL.out) ((HA10.out.below R_Task_ok hHeld).more R_Task_ok hHeld.size)).mono ?_
              rintro e w12 ⟨rfl, hb⟩
              refine hK.out _ _ (hHeld.trans (hb.mono hHeld.size)) (fun hHeld => ?_)
              clear hK K hb
              refine tk 12 hHeld ?_
              refine tk 13 hHeld ?_
              refine rd0 ?_
              have HF := Lib.hid hHeld
              clear hHeld
              have HB12 := Lib.hid (HB10.out.trans (HF.out.mono HB10.out.size))
              cases b with
              | true =>
                have HN := Lib.hid (not_tasks HX.out fun h => by have h2 := h.2.2.2 H9.out; have h3 := of_decide_eq_true HB9.out; exact absurd h2 (by show ¬ 0 ≤ atT (L.take k) ((x7, x8), x9); omega))
                go_wp2
                go_ret
                exact resB_no HN.out HB12.out
              | false =>
                have HS := Lib.hid (tasTo_step HO.out HX.out ⟨HT.out, HFI.out, HNX.out, fun _ => by have h3 := of_decide_eq_false HB9.out; show 0 ≤ atT (L.take k) ((x7, x8), x9); omega⟩)
                go_wp2
                go_roundw
                case rel => exact ⟨k + 1, by omega, by go_num, HS, by first | exact HB12.out | exact HB12.out.drew | exact bdrewN HB12.out _⟩
                case measure => simp [intOf]; omega
          · have hin : (x2 != 1) = true := by simp [hid]
            have HN := Lib.hid (not_tasks HX.out fun h => by
              rcases h.2.2.1 _ (by have := HJ.out; omega) HY.out with h2 | h2
              · have h3 : ((y0, y1) : D_Label) = (x0, x1) := h2.1
                have h4 := HLT.out
                rw [h3] at h4
                exact ltLb_irrefl h4
              · exact hid h2.2)
            clear hid
            go_wp2_with fail
            refine wp_region_held_drew (S := (fun V => Below (w4).heap.size (w4) V)) (by kernel_rfl) ((Below.refl _ _).drew) (fun hHeld => ?_)
            refine tk 0 hHeld ?_
            refine tk 1 hHeld ?_
            refine tk 2 hHeld ?_
            refine tk 3 hHeld ?_ (hy := fun w hSw => by (try dsimp only at hSw); have k0 := (hSw.cell (p := ⟨wr.heap.size, 2, none⟩) HP9.out.lt).trans (HP9.out.at_ 2 rfl); clear hSw; go_simp; try with_reducible rfl)
            refine tk 4 hHeld ?_
            refine tk 5 hHeld ?_
            refine tk 6 hHeld ?_
            refine tn 7 hHeld ?_
            refine tn 8 hHeld ?_
            refine tn 9 hHeld ?_
            refine tn 10 hHeld ?_
            refine tn 11 hHeld ?_
            refine tn 12 hHeld ?_
            refine tn 13 hHeld ?_
            refine tn 14 hHeld ?_
            refine tn 15 hHeld ?_
            refine tn 16 hHeld ?_
            refine tn 17 hHeld ?_
            refine tn 18 hHeld ?_
            refine tn 19 hHeld ?_
            refine tn 20 hHeld ?_
            refine tn 21 hHeld ?_
            refine tn 22 hHeld ?_
            refine tn 23 hHeld ?_
            refine tn 24 hHeld ?_
            refine tn 25 hHeld ?_
            refine tn 26 hHeld ?_
            refine tn 27 hHeld ?_
            refine tn 28 hHeld ?_
            refine tn 29 hHeld ?_
            refine tn 30 hHeld ?_
            refine tn 31 hHeld ?_
            refine tk 32 hHeld ?_
            refine rd0 ?_
            have HF := Lib.hid hHeld
            clear hHeld
            have HF10 := Lib.hid HF.out
            clear HF
            have HB10 := Lib.hid (HB9x.out.trans (HF10.out.mono HB9x.out.size))
            go_wp2
            go_ret
            exact resB_no HN.out HB10.out
        | false =>
          have HNL := Lib.hid (show ¬ ltLb (y0, y1) (x0, x1) from fun h => by have := HLB.out.2 h; cases this)
          obtain ⟨b, hb⟩ : ∃ b, decide (((y0, y1) : Int × Int) = (x0, x1)) = b := ⟨_, rfl⟩
          have hq := neq_lab y0 y1 x0 x1 b hb
          have HQ := Lib.hid hb
          clear hb
          cases b with
          | false =>
            have HN := Lib.hid (not_tasks HX.out fun h => by
              rcases h.2.2.1 _ (by have := HJ.out; omega) HY.out with h2 | h2
              · exact of_decide_eq_false HQ.out h2.1
              · exact HNL.out h2.1)
            go_wp2_with fail
            refine wp_region_held_drew (S := (fun V => Below (w4).heap.size (w4) V)) (by kernel_rfl) ((Below.refl _ _).drew) (fun hHeld => ?_)
            refine tk 0 hHeld ?_
            refine tk 1 hHeld ?_
            refine tn 2 hHeld ?_
            refine tn 3 hHeld ?_
            refine tn 4 hHeld ?_
            refine tk 5 hHeld ?_
            refine tk 6 hHeld ?_
            refine tk 7 hHeld ?_
            refine tk 8 hHeld ?_
            refine tk 9 hHeld ?_
            refine tk 10 hHeld ?_
            refine tk 11 hHeld ?_
            refine tk 12 hHeld ?_
            refine tk 13 hHeld ?_
            refine tk 14 hHeld ?_
            refine tk 15 hHeld ?_ (hy := fun w hSw => by (try dsimp only at hSw); have k0 := (hSw.cell (p := ⟨g', o' + j * 14, none⟩) (Nat.lt_of_lt_of_le HG2.out HF9.out.size)).trans ((HF9.out.cell (p := ⟨g', o' + j * 14, none⟩) HG2.out).trans p0); have k1 := (hSw.cell (p := ⟨g', o' + j * 14 + 1, none⟩) (Nat.lt_of_lt_of_le HG2.out HF9.out.size)).trans ((HF9.out.cell (p := ⟨g', o' + j * 14 + 1, none⟩) HG2.out).trans p1); clear hSw; go_simp; try with_reducible rfl)
            refine tk 16 hHeld ?_
            refine tk 17 hHeld ?_ (hy := fun w hSw => by (try dsimp only at hSw); have k0 := (hSw.cell (p := ⟨wr.heap.size, 0, none⟩) HP9.out.lt).trans (HP9.out.at_ 0 rfl); have k1 := (hSw.cell (p := ⟨wr.heap.size, 1, none⟩) HP9.out.lt).trans (HP9.out.at_ 1 rfl); clear hSw; go_simp; try with_reducible rfl)
            refine tk 18 hHeld ?_
            refine tk 19 hHeld ?_
            refine tn 20 hHeld ?_
            refine tn 21 hHeld ?_
            refine tn 22 hHeld ?_
            refine tn 23 hHeld ?_
            refine tn 24 hHeld ?_
            refine tn 25 hHeld ?_
            refine tn 26 hHeld ?_
            refine tn 27 hHeld ?_
            refine tn 28 hHeld ?_
            refine tn 29 hHeld ?_
            refine tk 30 hHeld ?_
            refine tk 31 hHeld ?_
            refine tk 32 hHeld ?_
            refine rd0 ?_
            have HF := Lib.hid hHeld
            clear hHeld
            have HF10 := Lib.hid HF.out
            clear HF
            have HB10 := Lib.hid (HB9x.out.trans (HF10.out.mono HB9x.out.size))
            go_wp2
            go_ret
            exact resB_no HN.out HB10.out
          | true =>
            by_cases hid : y2 + 1 = x2
            · have hin : (y2 + 1 != x2) = false := by simp [hid]
              have HNX := Lib.hid (show ∀ y, 0 < k → L[k - 1]? = some y → NextT y ((x0, x1), x2, x3, x4, x5, x6, (x7, x8), x9, x10, x11, x12, M) from fun y _ hy => by rw [← HU.out y hy]; exact .inl ⟨of_decide_eq_true HQ.out, hid.symm⟩)
              clear hid
              go_wp2_with fail
              refine wp_region_held_drew (S := (fun V => Below (w4).heap.size (w4) V)) (by kernel_rfl) ((Below.refl _ _).drew) (fun hHeld => ?_)
              refine tk 0 hHeld ?_
              refine tk 1 hHeld ?_
              refine tn 2 hHeld ?_
              refine tn 3 hHeld ?_
              refine tn 4 hHeld ?_
              refine tk 5 hHeld ?_
              refine tk 6 hHeld ?_
              refine tk 7 hHeld ?_
              refine tk 8 hHeld ?_
              refine tk 9 hHeld ?_
              refine tk 10 hHeld ?_
              refine tk 11 hHeld ?_
              refine tk 12 hHeld ?_
              refine tk 13 hHeld ?_
              refine tk 14 hHeld ?_
              refine tk 15 hHeld ?_ (hy := fun w hSw => by (try dsimp only at hSw); have k0 := (hSw.cell (p := ⟨g', o' + j * 14, none⟩) (Nat.lt_of_lt_of_le HG2.out HF9.out.size)).trans ((HF9.out.cell (p := ⟨g', o' + j * 14, none⟩) HG2.out).trans p0); have k1 := (hSw.cell (p := ⟨g', o' + j * 14 + 1, none⟩) (Nat.lt_of_lt_of_le HG2.out HF9.out.size)).trans ((HF9.out.cell (p := ⟨g', o' + j * 14 + 1, none⟩) HG2.out).trans p1); clear hSw; go_simp; try with_reducible rfl)
              refine tk 16 hHeld ?_
              refine tk 17 hHeld ?_ (hy := fun w hSw => by (try dsimp only at hSw); have k0 := (hSw.cell (p := ⟨wr.heap.size, 0, none⟩) HP9.out.lt).trans (HP9.out.at_ 0 rfl); have k1 := (hSw.cell (p := ⟨wr.heap.size, 1, none⟩) HP9.out.lt).trans (HP9.out.at_ 1 rfl); clear hSw; go_simp; try with_reducible rfl)
              refine tk 18 hHeld ?_
              refine tk 19 hHeld ?_
              refine tk 20 hHeld ?_
              refine tk 21 hHeld ?_
              refine tk 22 hHeld ?_
              refine tk 23 hHeld ?_
              refine tk 24 hHeld ?_
              refine tk 25 hHeld ?_ (hy := fun w hSw => by (try dsimp only at hSw); have k0 := (hSw.cell (p := ⟨g', o' + j * 14 + 2, none⟩) (Nat.lt_of_lt_of_le HG2.out HF9.out.size)).trans ((HF9.out.cell (p := ⟨g', o' + j * 14 + 2, none⟩) HG2.out).trans p2); clear hSw; go_simp; try with_reducible rfl)
              refine tk 26 hHeld ?_
              refine tk 27 hHeld ?_
              refine tk 28 hHeld ?_ (hy := fun w hSw => by (try dsimp only at hSw); have k0 := (hSw.cell (p := ⟨wr.heap.size, 2, none⟩) HP9.out.lt).trans (HP9.out.at_ 2 rfl); clear hSw; go_simp; try with_reducible rfl)
              refine tk 29 hHeld ?_
              refine tk 30 hHeld ?_
              refine tk 31 hHeld ?_
              refine tk 32 hHeld ?_
              refine rd0 ?_
              have HF := Lib.hid hHeld
              clear hHeld
              have HF10 := Lib.hid HF.out
              clear HF
              have HB10 := Lib.hid (HB9x.out.trans (HF10.out.mono HB9x.out.size))
              have HP10 := Lib.hid (HP9.out.call HF10.out)
              have HA10 := Lib.hid ((HA9.out.below R_Task_ok HF10.out).more R_Task_ok HF10.out.size)
              clear hin
              by_cases h9 : x9 = 0
              · have h9n : (x9 != 0) = false := by simp [h9]
                have HS := Lib.hid (tasTo_step HO.out HX.out ⟨HT.out, HFI.out, HNX.out, fun h => absurd h9 h⟩)
                clear h9
                go_wp2_with fail
                refine wp_region_held_drew (S := (fun V => Below (w4.drew).heap.size (w4.drew) V)) (by kernel_rfl) ((Below.refl _ _).drew) (fun hHeld => ?_)
                refine tk 0 hHeld ?_
                refine tk 1 hHeld ?_ (hy := fun w hSw => by (try dsimp only at hSw); have k0 := (hSw.cell (p := ⟨wr.heap.size, 9, none⟩) HP10.out.lt).trans (HP10.out.at_ 9 rfl); clear hSw; go_simp; try with_reducible rfl)
                refine tk 2 hHeld ?_
                refine tk 3 hHeld ?_
                refine tn 4 hHeld ?_
                refine tn 5 hHeld ?_
                refine tn 6 hHeld ?_
                refine tn 7 hHeld ?_
                refine tn 8 hHeld ?_
                refine tn 9 hHeld ?_
                refine tn 10 hHeld ?_
                refine tn 11 hHeld ?_
                refine tn 12 hHeld ?_
                refine tk 13 hHeld ?_
                refine rd0 ?_
                have HF := Lib.hid hHeld
                clear hHeld
                have HB12 := Lib.hid (HB10.out.trans (HF.out.mono HB10.out.size))
                go_wp2
                go_roundw
                case rel => exact ⟨k + 1, by omega, by go_num, HS, by first | exact HB12.out | exact HB12.out.drew | exact bdrewN HB12.out _⟩
                case measure => simp [intOf]; omega
              · have h9n : (x9 != 0) = true := by simp [h9]
                have H9 := Lib.hid h9
                clear h9
                obtain ⟨b, hb9⟩ : ∃ b, decide (atT (L.take k) ((x7, x8), x9) < 0) = b := ⟨_, rfl⟩
                have HB9 := Lib.hid hb9
                have hkc : k ≤ cap := by have h8 := H.out.1; omega
                go_wp2_with fail
                refine wp_region_held_drew (S := (fun V => Below (w4.drew).heap.size (w4.drew) V)) (by kernel_rfl) ((Below.refl _ _).drew) (fun hHeld => ?_)
                refine tk 0 hHeld ?_
                refine tk 1 hHeld ?_ (hy := fun w hSw => by (try dsimp only at hSw); have k0 := (hSw.cell (p := ⟨wr.heap.size, 9, none⟩) HP10.out.lt).trans (HP10.out.at_ 9 rfl); clear hSw; go_simp; try with_reducible rfl)
                refine tk 2 hHeld ?_
                refine tk 3 hHeld ?_
                refine tk 4 hHeld ?_
                refine tk 5 hHeld ?_
                refine tk 6 hHeld ?_
                refine tk 7 hHeld ?_
                refine tk 8 hHeld ?_ (hy := fun w hSw => by (try dsimp only at hSw); have k0 := (hSw.cell (p := ⟨wr.heap.size, 7, none⟩) HP10.out.lt).trans (HP10.out.at_ 7 rfl); have k1 := (hSw.cell (p := ⟨wr.heap.size, 8, none⟩) HP10.out.lt).trans (HP10.out.at_ 8 rfl); clear hSw; go_simp; try with_reducible rfl)
                refine tk 9 hHeld ?_
                refine tk 10 hHeld ?_ (hy := fun w hSw => by (try dsimp only at hSw); have k0 := (hSw.cell (p := ⟨wr.heap.size, 9, none⟩) HP10.out.lt).trans (HP10.out.at_ 9 rfl); clear hSw; go_simp; try with_reducible rfl)
                refine rd1 11 (fun K hK => ?_)
                go_simp
                go_at_call 83
                refine (at_spec (hTL.out) ((HA10.out.below R_Task_ok hHeld).more R_Task_ok hHeld.size)).mono ?_
                rintro e w12 ⟨rfl, hb⟩
                refine hK.out _ _ (hHeld.trans (hb.mono hHeld.size)) (fun hHeld => ?_)
                clear hK K hb
                refine tk 12 hHeld ?_
                refine tk 13 hHeld ?_
                refine rd0 ?_
                have HF := Lib.hid hHeld
                clear hHeld
                have HB12 := Lib.hid (HB10.out.trans (HF.out.mono HB10.out.size))
                cases b with
                | true =>
                  have HN := Lib.hid (not_tasks HX.out fun h => by have h2 := h.2.2.2 H9.out; have h3 := of_decide_eq_true HB9.out; exact absurd h2 (by show ¬ 0 ≤ atT (L.take k) ((x7, x8), x9); omega))
                  go_wp2
                  go_ret
                  exact resB_no HN.out HB12.out
                | false =>
                  have HS := Lib.hid (tasTo_step HO.out HX.out ⟨HT.out, HFI.out, HNX.out, fun _ => by have h3 := of_decide_eq_false HB9.out; show 0 ≤ atT (L.take k) ((x7, x8), x9); omega⟩)
                  go_wp2
                  go_roundw
                  case rel => exact ⟨k + 1, by omega, by go_num, HS, by first | exact HB12.out | exact HB12.out.drew | exact bdrewN HB12.out _⟩
                  case measure => simp [intOf]; omega
            · have hin : (y2 + 1 != x2) = true := by simp [hid]
              have HN := Lib.hid (not_tasks HX.out fun h => by
                rcases h.2.2.1 _ (by have := HJ.out; omega) HY.out with h2 | h2
                · exact hid h2.2.symm
                · exact HNL.out h2.1)
              clear hid
              go_wp2_with fail
              refine wp_region_held_drew (S := (fun V => Below (w4).heap.size (w4) V)) (by kernel_rfl) ((Below.refl _ _).drew) (fun hHeld => ?_)
              refine tk 0 hHeld ?_
              refine tk 1 hHeld ?_
              refine tn 2 hHeld ?_
              refine tn 3 hHeld ?_
              refine tn 4 hHeld ?_
              refine tk 5 hHeld ?_
              refine tk 6 hHeld ?_
              refine tk 7 hHeld ?_
              refine tk 8 hHeld ?_
              refine tk 9 hHeld ?_
              refine tk 10 hHeld ?_
              refine tk 11 hHeld ?_
              refine tk 12 hHeld ?_
              refine tk 13 hHeld ?_
              refine tk 14 hHeld ?_
              refine tk 15 hHeld ?_ (hy := fun w hSw => by (try dsimp only at hSw); have k0 := (hSw.cell (p := ⟨g', o' + j * 14, none⟩) (Nat.lt_of_lt_of_le HG2.out HF9.out.size)).trans ((HF9.out.cell (p := ⟨g', o' + j * 14, none⟩) HG2.out).trans p0); have k1 := (hSw.cell (p := ⟨g', o' + j * 14 + 1, none⟩) (Nat.lt_of_lt_of_le HG2.out HF9.out.size)).trans ((HF9.out.cell (p := ⟨g', o' + j * 14 + 1, none⟩) HG2.out).trans p1); clear hSw; go_simp; try with_reducible rfl)
              refine tk 16 hHeld ?_
              refine tk 17 hHeld ?_ (hy := fun w hSw => by (try dsimp only at hSw); have k0 := (hSw.cell (p := ⟨wr.heap.size, 0, none⟩) HP9.out.lt).trans (HP9.out.at_ 0 rfl); have k1 := (hSw.cell (p := ⟨wr.heap.size, 1, none⟩) HP9.out.lt).trans (HP9.out.at_ 1 rfl); clear hSw; go_simp; try with_reducible rfl)
              refine tk 18 hHeld ?_
              refine tk 19 hHeld ?_
              refine tk 20 hHeld ?_
              refine tk 21 hHeld ?_
              refine tk 22 hHeld ?_
              refine tk 23 hHeld ?_
              refine tk 24 hHeld ?_
              refine tk 25 hHeld ?_ (hy := fun w hSw => by (try dsimp only at hSw); have k0 := (hSw.cell (p := ⟨g', o' + j * 14 + 2, none⟩) (Nat.lt_of_lt_of_le HG2.out HF9.out.size)).trans ((HF9.out.cell (p := ⟨g', o' + j * 14 + 2, none⟩) HG2.out).trans p2); clear hSw; go_simp; try with_reducible rfl)
              refine tk 26 hHeld ?_
              refine tk 27 hHeld ?_
              refine tk 28 hHeld ?_ (hy := fun w hSw => by (try dsimp only at hSw); have k0 := (hSw.cell (p := ⟨wr.heap.size, 2, none⟩) HP9.out.lt).trans (HP9.out.at_ 2 rfl); clear hSw; go_simp; try with_reducible rfl)
              refine tk 29 hHeld ?_
              refine tk 30 hHeld ?_
              refine tk 31 hHeld ?_
              refine tk 32 hHeld ?_
              refine rd0 ?_
              have HF := Lib.hid hHeld
              clear hHeld
              have HF10 := Lib.hid HF.out
              clear HF
              have HB10 := Lib.hid (HB9x.out.trans (HF10.out.mono HB9x.out.size))
              go_wp2
              go_ret
              exact resB_no HN.out HB10.out
    · have hdl : decide ((k : Int) < (L.length : Int)) = false := decide_eq_false (by omega)
      obtain rfl : k = L.length := by omega
      have HY := Lib.hid (tasksR_all h96 HO.out)
      clear hB
      go_wp2
      go_ret
      exact resB_yes HY.out HB.out
end Go.Proofs.Ytkghodbbgehcoaa.RepC
end
section
namespace Go.Proofs.Ytkghodbbgehcoaa.SortC
open Go.Shelf
def Try.cmpI64_ren : Go.Shelf.Ren := ⟨fun | 5 => 121 | 7 => 138 | n => n, fun | 22 => 2 | 3 => 3 | 4 => 4 | n => n, fun | n => n⟩
theorem Try.cmpI64 : Go.Proofs.SlLaysC2.n5 Try.prog Try.cmpI64_ren := {
  mixed := by kernel_rfl
  f5 := ⟨Try.f121.name, by decide, Try.func121.trans (congrArg some (by kernel_rfl))⟩
  f7 := ⟨Try.f138.name, by decide, Try.func138.trans (congrArg some (by kernel_rfl))⟩
  t3 := Try.underlying3
  a3 := Try.isAgg3
  z3 := Try.sizeOf3
  v3 := Try.zeroValue3
  t4 := Try.underlying4
  a4 := Try.isAgg4
  z4 := Try.sizeOf4
  v4 := Try.zeroValue4
  t22 := Try.underlying2
  a22 := Try.isAgg2
  z22 := Try.sizeOf2
  v22 := Try.zeroValue2 }
end Go.Proofs.Ytkghodbbgehcoaa.SortC
end
section
namespace Go.Proofs.Ytkghodbbgehcoaa.SortC
open Go.Shelf Go.RowKit RepC RowC ValC
set_option linter.unusedVariables false
set_option linter.unusedSimpArgs false
theorem cmp64 (x y : Int) (w : World) : Calls Try.prog 121 #[.int .i64 x, .int .i64 y] w fun e w' => e = .returned (.int .i64 (Lib.compareInt x y)) ∧ w' = w := AnyG.cmp_Compare_int Try.cmpI64 x y w
def orI (l : List Int) : Int := (l.find? (· != 0)).getD 0
set_option maxRecDepth 100000 in
set_option maxHeartbeats 1600000 in
theorem or2_v (g : Nat) (r0 r1 : Int) (w : World) (h : Blk w g 3 #[.int .i64 r0, .int .i64 r1]) :
    Calls Try.prog 110 #[.slice (some ⟨g, 0, none⟩) 2 2] w fun e w' => e = .returned (.int .i64 (orI [r0, r1])) ∧ w' = w := by
  have HB := Lib.hid h
  clear h
  have c0 := HB.out.at_ 0 rfl
  have c1 := HB.out.at_ 1 rfl
  go_enter Try.func110, Try.ntmps110
  go_wp2
  go_loopw [8] (fun i wr => ∃ k : Nat, k ≤ 2 ∧ i = .int .i64 k ∧ wr = w ∧ Hid (∀ j, j < k → [r0, r1].getD j 0 = 0)) (fun i _ => 2 - (intOf i).toNat)
  case atStart => exact ⟨0, by omega, rfl, rfl, Lib.hid fun j h => absurd h (Nat.not_lt_zero _)⟩
  case round =>
    obtain ⟨k, hk, rfl, rfl, HZ⟩ := hrel
    by_cases hk4 : k = 2
    · subst hk4
      have HE := Lib.hid (show orI [r0, r1] = 0 from by
        have e0 := HZ.out 0 (by omega); have e1 := HZ.out 1 (by omega)
        simp at e0 e1; subst e0 e1; rfl)
      go_wp2
      go_ret
      exact ⟨by rw [HE.out]; rfl, rfl⟩
    · obtain ⟨r, hr⟩ : ∃ r, [r0, r1].getD k 0 = r := ⟨_, rfl⟩
      have hc : wr.cell? ⟨g, k, none⟩ = some (.int .i64 r) := by
        have : k = 0 ∨ k = 1 := by omega
        rcases this with rfl | rfl <;> (subst hr; assumption)
      have HRk := Lib.hid hr
      have hi0 : (0 : Int) ≤ (k : Int) := Int.natCast_nonneg _
      have hi1 : (k : Int) < 2 := by omega
      have hd : decide ((k : Int) < 2) = true := decide_eq_true hi1
      clear hr c0 c1
      by_cases h0 : r = 0
      · subst h0
        have HZ2 := Lib.hid (show ∀ j, j < k + 1 → [r0, r1].getD j 0 = 0 from fun j hj => by
          by_cases e : j = k
          · rw [e]; exact HRk.out
          · exact HZ.out j (by omega))
        go_wp2
        go_roundw
        case rel => exact ⟨k + 1, by omega, by go_num, by first | rfl | trivial, HZ2⟩
        case measure => simp [intOf]; omega
      · have HE := Lib.hid (show orI [r0, r1] = r from by
          have hr := HRk.out
          have hz := HZ.out
          have : k = 0 ∨ k = 1 := by omega
          rcases this with rfl | rfl
          · simp at hr; subst hr; simp [orI, h0]
          · have e0 := hz 0 (by omega); simp at e0 hr; subst hr; simp [orI, h0, e0])
        have h0' : (r == 0) = false := by simpa using h0
        go_wp2
        go_ret
        exact ⟨by rw [HE.out]; rfl, rfl⟩
def labI (a0 a1 b0 b1 : Int) : Int := orI [Lib.compareInt a0 b0, Lib.compareInt a1 b1]
set_option maxRecDepth 100000 in
set_option maxHeartbeats 3200000 in
theorem bylab_v (a0 a1 b0 b1 : Int) (W : World) :
    Calls Try.prog 111 #[.agg #[.int .i64 a0, .int .i64 a1], .agg #[.int .i64 b0, .int .i64 b1]] W
      fun e w' => e = .returned (.int .i64 (labI a0 a1 b0 b1)) ∧ w' = (((W.alloc (.cells #[.int .i64 a0, .int .i64 a1] 25)).alloc (.cells #[.int .i64 b0, .int .i64 b1] 25)).drew.alloc (.cells #[.int .i64 (Lib.compareInt a0 b0), .int .i64 (Lib.compareInt a1 b1)] 3)) := by
  obtain ⟨V0, hV0⟩ : ∃ V0, V0 = ((W.alloc (.cells #[.int .i64 a0, .int .i64 a1] 25)).alloc (.cells #[.int .i64 b0, .int .i64 b1] 25)) := ⟨_, rfl⟩
  have BA := Lib.hid (show Blk V0 W.heap.size 25 #[.int .i64 a0, .int .i64 a1] from by rw [hV0]; exact (Blk.new W _ _).alloc _)
  have BB := Lib.hid (show Blk V0 (W.heap.size + 1) 25 #[.int .i64 b0, .int .i64 b1] from by
    have h9 := Blk.new (W.alloc (.cells #[.int .i64 a0, .int .i64 a1] 25)) 25 #[.int .i64 b0, .int .i64 b1]
    simp only [World.size_alloc] at h9
    rw [hV0]; exact h9)
  have HS4 := Lib.hid (Blk.new V0.drew 3 #[.int .i64 (Lib.compareInt a0 b0), .int .i64 (Lib.compareInt a1 b1)])
  rw [← hV0]
  go_enter Try.func111, Try.ntmps111
  go_wp2_with fail
  rw [← hV0]
  clear hV0
  refine wp_region_held_drew (S := (fun V => Below (V0).heap.size (V0) V)) (by kernel_rfl) ((Below.refl _ _).drew) (fun hHeld => ?_)
  refine tk 0 hHeld ?_
  refine tk 1 hHeld ?_ (hy := fun w hSw => by (try dsimp only at hSw); have k0 := (hSw.cell (p := ⟨W.heap.size, 0, none⟩) BA.out.lt).trans (BA.out.at_ 0 rfl); clear hSw; go_simp; try with_reducible rfl)
  refine tk 2 hHeld ?_
  refine tk 3 hHeld ?_ (hy := fun w hSw => by (try dsimp only at hSw); have k0 := (hSw.cell (p := ⟨W.heap.size + 1, 0, none⟩) BB.out.lt).trans (BB.out.at_ 0 rfl); clear hSw; go_simp; try with_reducible rfl)
  refine tk 5 hHeld ?_
  refine tk 6 hHeld ?_ (hy := fun w hSw => by (try dsimp only at hSw); have k0 := (hSw.cell (p := ⟨W.heap.size, 1, none⟩) BA.out.lt).trans (BA.out.at_ 1 rfl); clear hSw; go_simp; try with_reducible rfl)
  refine tk 7 hHeld ?_
  refine tk 8 hHeld ?_ (hy := fun w hSw => by (try dsimp only at hSw); have k0 := (hSw.cell (p := ⟨W.heap.size + 1, 1, none⟩) BB.out.lt).trans (BB.out.at_ 1 rfl); clear hSw; go_simp; try with_reducible rfl)
  refine rd1 4 (fun K hK => ?_)
  go_simp
  go_at_call 121
  refine (cmp64 _ _ _).mono ?_
  rintro e w1 ⟨rfl, rfl⟩
  have hb := Below.refl V0.drew.heap.size V0.drew
  refine hK.out _ _ (hHeld.trans (hb.mono hHeld.size)) (fun hHeld => ?_)
  clear hK K hb
  refine rd1 9 (fun K hK => ?_)
  go_simp
  go_at_call 121
  refine (cmp64 _ _ _).mono ?_
  rintro e w1 ⟨rfl, rfl⟩
  have hb := Below.refl V0.drew.heap.size V0.drew
  refine hK.out _ _ (hHeld.trans (hb.mono hHeld.size)) (fun hHeld => ?_)
  clear hK K hb
  refine rd1 10 (fun K hK => ?_)
  go_simp
  have hb := (Below.refl V0.drew.heap.size V0.drew).alloc (Nat.le_refl _) (.cells #[.int .i64 (Lib.compareInt a0 b0), .int .i64 (Lib.compareInt a1 b1)] 3)
  refine hK.out _ _ (hHeld.trans (hb.mono hHeld.size)) (fun hHeld => ?_)
  clear hK K hb
  refine rd1 11 (fun K hK => ?_)
  go_simp
  go_at_call 110
  refine (or2_v _ _ _ _ HS4.out).mono ?_
  rintro e w1 ⟨rfl, rfl⟩
  have hb := Below.refl (V0.drew.alloc (.cells #[.int .i64 (Lib.compareInt a0 b0), .int .i64 (Lib.compareInt a1 b1)] 3)).heap.size (V0.drew.alloc (.cells #[.int .i64 (Lib.compareInt a0 b0), .int .i64 (Lib.compareInt a1 b1)] 3))
  refine hK.out _ _ (hHeld.trans (hb.mono hHeld.size)) (fun hHeld => ?_)
  clear hK K hb
  refine tk 12 hHeld ?_
  refine rd0 ?_
  have HF := Lib.hid hHeld
  clear hHeld
  go_wp2
  go_ret
  exact ⟨rfl, rfl⟩
theorem cmpI (a b : Int) : (Lib.compareInt a b = -1 ∧ a < b) ∨ (Lib.compareInt a b = 0 ∧ a = b) ∨ (Lib.compareInt a b = 1 ∧ b < a) := by
  unfold Lib.compareInt
  by_cases h1 : a < b
  · left; exact ⟨by simp [h1], h1⟩
  · by_cases h2 : b < a
    · right; right; exact ⟨by simp [h1, h2], h2⟩
    · right; left; exact ⟨by simp [h1, h2], by omega⟩
end Go.Proofs.Ytkghodbbgehcoaa.SortC
end
section
namespace Go.Proofs.Ytkghodbbgehcoaa.RepC
open Go.RowKit RowC ValC SpanC KeptC NameC SortC
set_option linter.unusedVariables false
set_option linter.unusedSimpArgs false
theorem bylab_w (a0 a1 b0 b1 : Int) (V : World) : Calls Try.prog 111 #[.agg #[.int .i64 a0, .int .i64 a1], .agg #[.int .i64 b0, .int .i64 b1]] V fun e w' => e = .returned (.int .i64 (labI a0 a1 b0 b1)) ∧ Below V.heap.size V w' :=
  (bylab_v a0 a1 b0 b1 V).mono fun e w' ⟨h1, h2⟩ => ⟨h1, by rw [h2]; exact (((Below.refl V.heap.size V).alloc (Nat.le_refl _) _).alloc (by simp) _).drew.alloc (by simp; omega) _⟩
theorem labI3 (a0 a1 b0 b1 : Int) : (labI a0 a1 b0 b1 = -1 ∧ ltLb (a0, a1) (b0, b1)) ∨ (labI a0 a1 b0 b1 = 0 ∧ ((a0, a1) : Int × Int) = (b0, b1)) ∨ (labI a0 a1 b0 b1 = 1 ∧ ltLb (b0, b1) (a0, a1)) := by
  unfold labI orI ltLb
  rcases cmpI a0 b0 with ⟨e1, h1⟩ | ⟨e1, h1⟩ | ⟨e1, h1⟩ <;> rcases cmpI a1 b1 with ⟨e2, h2⟩ | ⟨e2, h2⟩ | ⟨e2, h2⟩ <;> rw [e1, e2] <;> simp <;> omega
def cfK (x y : D_Label × Int) : Int := orI [labI x.1.1 x.1.2 y.1.1 y.1.2, Lib.compareInt x.2 y.2]
theorem cfK_cases (x y : D_Label × Int) : (cfK x y = -1 ∧ ltK x y) ∨ (cfK x y = 0 ∧ x = y) ∨ (cfK x y = 1 ∧ ltK y x) := by
  obtain ⟨⟨a0, a1⟩, a2⟩ := x
  obtain ⟨⟨b0, b1⟩, b2⟩ := y
  unfold cfK ltK
  simp only
  rcases labI3 a0 a1 b0 b1 with ⟨e1, h1⟩ | ⟨e1, h1⟩ | ⟨e1, h1⟩
  · left; rw [e1]; exact ⟨rfl, .inl h1⟩
  · obtain ⟨rfl, rfl⟩ : a0 = b0 ∧ a1 = b1 := by simpa using h1
    rcases cmpI a2 b2 with ⟨e2, h2⟩ | ⟨e2, h2⟩ | ⟨e2, h2⟩
    · left; rw [e1, e2]; exact ⟨rfl, .inr ⟨rfl, h2⟩⟩
    · right; left; subst h2; rw [e1, e2]; exact ⟨rfl, rfl⟩
    · right; right; rw [e1, e2]; exact ⟨rfl, .inr ⟨rfl, h2⟩⟩
  · right; right; rw [e1]; exact ⟨rfl, .inl h1⟩
theorem cfK_neg (x y : D_Label × Int) : cfK x y < 0 ↔ ltK x y := by
  rcases cfK_cases x y with ⟨e, h⟩ | ⟨e, h⟩ | ⟨e, h⟩ <;> rw [e]
  · simp [h]
  · subst h; simp [ltK_irrefl]
  · constructor
    · intro h2; omega
    · intro h2; exact absurd (ltK_trans h h2) ltK_irrefl
theorem cfK_zero (x y : D_Label × Int) : cfK x y = 0 ↔ x = y := by
  rcases cfK_cases x y with ⟨e, h⟩ | ⟨e, h⟩ | ⟨e, h⟩ <;> rw [e]
  · constructor
    · intro h2; omega
    · intro h2; subst h2; exact absurd h ltK_irrefl
  · simp [h]
  · constructor
    · intro h2; omega
    · intro h2; subst h2; exact absurd h ltK_irrefl
set_option maxRecDepth 100000 in
set_option maxHeartbeats 3200000 in
theorem cmpT_w {x0 x1 x2 : Int} {x3 : ByteArray} {x4 x5 x6 x7 x8 x9 x10 x11 x12 : Int} {L : List Int} {a : Option Addr} {c : Nat} {y0 y1 y2 : Int} {y3 : ByteArray} {y4 y5 y6 y7 y8 y9 y10 y11 y12 : Int} {M : List Int} {b : Option Addr} {d : Nat} {W : World} :
    Calls Try.prog 120 #[.agg #[.int .i64 x0, .int .i64 x1, .int .i64 x2, .string x3, .int .i64 x4, .int .i64 x5, .int .i64 x6, .int .i64 x7, .int .i64 x8, .int .i64 x9, .int .i64 x10, .int .i64 x11, .int .i64 x12, .slice a L.length c], .agg #[.int .i64 y0, .int .i64 y1, .int .i64 y2, .string y3, .int .i64 y4, .int .i64 y5, .int .i64 y6, .int .i64 y7, .int .i64 y8, .int .i64 y9, .int .i64 y10, .int .i64 y11, .int .i64 y12, .slice b M.length d]] W fun e w' => e = .returned (.int .i64 (cfK ((x0, x1), x2) ((y0, y1), y2))) ∧ Below W.heap.size W w' := by
  obtain ⟨V0, hV0⟩ : ∃ V0, V0 = ((W.alloc (.cells #[.int .i64 x0, .int .i64 x1, .int .i64 x2, .string x3, .int .i64 x4, .int .i64 x5, .int .i64 x6, .int .i64 x7, .int .i64 x8, .int .i64 x9, .int .i64 x10, .int .i64 x11, .int .i64 x12, .slice a L.length c] 43)).alloc (.cells #[.int .i64 y0, .int .i64 y1, .int .i64 y2, .string y3, .int .i64 y4, .int .i64 y5, .int .i64 y6, .int .i64 y7, .int .i64 y8, .int .i64 y9, .int .i64 y10, .int .i64 y11, .int .i64 y12, .slice b M.length d] 43)) := ⟨_, rfl⟩
  have HB0 := Lib.hid (show Below W.heap.size W V0 from by rw [hV0]; exact ((Below.refl _ _).alloc (Nat.le_refl _) _).alloc (by simp) _)
  have BA := Lib.hid (show Blk V0 W.heap.size 43 #[.int .i64 x0, .int .i64 x1, .int .i64 x2, .string x3, .int .i64 x4, .int .i64 x5, .int .i64 x6, .int .i64 x7, .int .i64 x8, .int .i64 x9, .int .i64 x10, .int .i64 x11, .int .i64 x12, .slice a L.length c] from by rw [hV0]; exact (Blk.new W _ _).alloc _)
  have BB := Lib.hid (show Blk V0 (W.heap.size + 1) 43 #[.int .i64 y0, .int .i64 y1, .int .i64 y2, .string y3, .int .i64 y4, .int .i64 y5, .int .i64 y6, .int .i64 y7, .int .i64 y8, .int .i64 y9, .int .i64 y10, .int .i64 y11, .int .i64 y12, .slice b M.length d] from by
    have h9 := Blk.new (W.alloc (.cells #[.int .i64 x0, .int .i64 x1, .int .i64 x2, .string x3, .int .i64 x4, .int .i64 x5, .int .i64 x6, .int .i64 x7, .int .i64 x8, .int .i64 x9, .int .i64 x10, .int .i64 x11, .int .i64 x12, .slice a L.length c] 43)) 43 #[.int .i64 y0, .int .i64 y1, .int .i64 y2, .string y3, .int .i64 y4, .int .i64 y5, .int .i64 y6, .int .i64 y7, .int .i64 y8, .int .i64 y9, .int .i64 y10, .int .i64 y11, .int .i64 y12, .slice b M.length d]
    simp only [World.size_alloc] at h9
    rw [hV0]; exact h9)
  go_enter Try.func120, Try.ntmps120
  go_wp2_with fail
  rw [← hV0]
  clear hV0
  refine wp_region_held_drew (S := (fun V => Below (V0).heap.size (V0) V)) (by kernel_rfl) ((Below.refl _ _).drew) (fun hHeld => ?_)
  refine tk 0 hHeld ?_
  refine tk 1 hHeld ?_ (hy := fun w hSw => by (try dsimp only at hSw); have k0 := (hSw.cell (p := ⟨W.heap.size, 0, none⟩) BA.out.lt).trans (BA.out.at_ 0 rfl); have k1 := (hSw.cell (p := ⟨W.heap.size, 1, none⟩) BA.out.lt).trans (BA.out.at_ 1 rfl); clear hSw; go_simp; try with_reducible rfl)
  refine tk 2 hHeld ?_
  refine tk 3 hHeld ?_ (hy := fun w hSw => by (try dsimp only at hSw); have k0 := (hSw.cell (p := ⟨W.heap.size + 1, 0, none⟩) BB.out.lt).trans (BB.out.at_ 0 rfl); have k1 := (hSw.cell (p := ⟨W.heap.size + 1, 1, none⟩) BB.out.lt).trans (BB.out.at_ 1 rfl); clear hSw; go_simp; try with_reducible rfl)
  refine tk 5 hHeld ?_
  refine tk 6 hHeld ?_ (hy := fun w hSw => by (try dsimp only at hSw); have k0 := (hSw.cell (p := ⟨W.heap.size, 2, none⟩) BA.out.lt).trans (BA.out.at_ 2 rfl); clear hSw; go_simp; try with_reducible rfl)
  refine tk 7 hHeld ?_
  refine tk 8 hHeld ?_ (hy := fun w hSw => by (try dsimp only at hSw); have k0 := (hSw.cell (p := ⟨W.heap.size + 1, 2, none⟩) BB.out.lt).trans (BB.out.at_ 2 rfl); clear hSw; go_simp; try with_reducible rfl)
  refine rd1 4 (fun K hK => ?_)
  go_simp
  go_at_call 111
  refine (bylab_w x0 x1 y0 y1 _).mono ?_
  rintro e w1 ⟨rfl, hb⟩
  refine hK.out _ _ (hHeld.trans (hb.mono hHeld.size)) (fun hHeld => ?_)
  clear hK K hb
  refine rd1 9 (fun K hK => ?_)
  go_simp
  go_at_call 121
  refine (cmp64 x2 y2 _).mono ?_
  rintro e w2 ⟨rfl, rfl⟩
  have hb := Below.refl w2.heap.size w2
  refine hK.out _ _ (hHeld.trans (hb.mono hHeld.size)) (fun hHeld => ?_)
  clear hK K hb
  refine rd1 10 (fun K hK => ?_)
  go_simp
  have hb := (Below.refl w2.heap.size w2).alloc (Nat.le_refl _) (.cells #[.int .i64 (labI x0 x1 y0 y1), .int .i64 (Lib.compareInt x2 y2)] 3)
  have HS4 := Lib.hid (Blk.new w2 3 #[.int .i64 (labI x0 x1 y0 y1), .int .i64 (Lib.compareInt x2 y2)])
  refine hK.out _ _ (hHeld.trans (hb.mono hHeld.size)) (fun hHeld => ?_)
  clear hK K hb
  refine rd1 11 (fun K hK => ?_)
  go_simp
  go_at_call 110
  refine (or2_v _ _ _ _ HS4.out).mono ?_
  rintro e w3 ⟨rfl, rfl⟩
  have hb := Below.refl (w2.alloc (.cells #[.int .i64 (labI x0 x1 y0 y1), .int .i64 (Lib.compareInt x2 y2)] 3)).heap.size (w2.alloc (.cells #[.int .i64 (labI x0 x1 y0 y1), .int .i64 (Lib.compareInt x2 y2)] 3))
  refine hK.out _ _ (hHeld.trans (hb.mono hHeld.size)) (fun hHeld => ?_)
  clear hK K hb
  refine tk 12 hHeld ?_
  refine rd0 ?_
  have HF := Lib.hid hHeld
  clear hHeld
  have HB1 := Lib.hid (HB0.out.trans (HF.out.mono HB0.out.size))
  go_wp2
  go_ret
  exact ⟨rfl, HB1.out⟩
abbrev tgt (y0 y1 y2 : Int) : Value := .agg #[.int .i64 y0, .int .i64 y1, .int .i64 y2, .string ⟨#[]⟩, .int .i64 0, .int .i64 0, .int .i64 0, .int .i64 0, .int .i64 0, .int .i64 0, .int .i64 0, .int .i64 0, .int .i64 0, .slice none 0 0]
def Cut (L : List D_Task) (a : D_Label × Int) (lo hi : Nat) : Prop := (∀ i x, i < lo → L[i]? = some x → ltK (tKey x) a) ∧ (∀ i x, hi ≤ i → L[i]? = some x → ¬ ltK (tKey x) a)
theorem cut_up {L : List D_Task} {a : D_Label × Int} {lo hi m : Nat} {x : D_Task} (h : Cut L a lo hi) (hi' : IncT L L.length) (hx : L[m]? = some x) (hk : ltK (tKey x) a) : Cut L a (m + 1) hi := ⟨fun i y hi1 hy => by
  by_cases e : i = m
  · subst e; rw [hx] at hy; cases hy; exact hk
  · exact ltK_trans (hi' i m y x (by omega) (List.getElem?_eq_some_iff.1 hx).1 hy hx) hk, h.2⟩
theorem cut_dn {L : List D_Task} {a : D_Label × Int} {lo hi m : Nat} {x : D_Task} (h : Cut L a lo hi) (hi' : IncT L L.length) (hx : L[m]? = some x) (hk : ¬ ltK (tKey x) a) : Cut L a lo m := ⟨h.1, fun i y hi1 hy hl => by
  by_cases e : i = m
  · subst e; rw [hx] at hy; cases hy; exact hk hl
  · exact hk (ltK_trans (hi' m i x y (by omega) (List.getElem?_eq_some_iff.1 hy).1 hx hy) hl)⟩
theorem cut_hit {L : List D_Task} {a : D_Label × Int} {k : Nat} {x : D_Task} (h : Cut L a k k) (hx : L[k]? = some x) (hk : tKey x = a) : atT L a = (k : Int) :=
  atT_hit (fun i y hi hy he => by have := h.1 i y hi hy; rw [he] at this; exact ltK_irrefl this) hx hk
theorem cut_miss {L : List D_Task} {a : D_Label × Int} {k : Nat} (h : Cut L a k k) (hi' : IncT L L.length) (hk : ∀ x, L[k]? = some x → tKey x ≠ a) : atT L a = -1 :=
  atT_miss fun i y hi hy he => by
    rcases Nat.lt_trichotomy i k with h1 | h1 | h1
    · have := h.1 i y h1 hy; rw [he] at this; exact ltK_irrefl this
    · subst h1; exact hk y hy he
    · obtain ⟨x, hx⟩ : ∃ x, L[k]? = some x := ⟨L[k], List.getElem?_eq_getElem (by omega)⟩
      have := hi' k i x y h1 hi hx hy
      rw [he] at this
      exact h.2 k x (Nat.le_refl _) hx this
set_option maxRecDepth 100000 in
set_option maxHeartbeats 3200000 in
theorem bsT_w {L : List D_Task} {a : Option Addr} {cap : Nat} {y0 y1 y2 : Int} {W : World} (hn : L.length ≤ 1048576) (hI : IncT L L.length) (h : RdSl R_Task W W.heap.size L a cap) :
    Calls Try.prog 119 #[.slice a L.length cap, tgt y0 y1 y2, .func (.func 120) #[] #[]] W fun e w' => (∃ k : Nat, ∃ b : Bool, e = .returned (.tuple #[.int .i64 k, .bool b]) ∧ (b = true → atT L ((y0, y1), y2) = (k : Int)) ∧ (b = false → atT L ((y0, y1), y2) = -1)) ∧ Below W.heap.size W w' := by
  have H := Lib.hid h
  have HI := Lib.hid hI
  clear h hI
  obtain ⟨wo, hwo⟩ : ∃ w, w = W.alloc (.cells #[.int .i64 y0, .int .i64 y1, .int .i64 y2, .string ⟨#[]⟩, .int .i64 0, .int .i64 0, .int .i64 0, .int .i64 0, .int .i64 0, .int .i64 0, .int .i64 0, .int .i64 0, .int .i64 0, .slice none 0 0] 43) := ⟨_, rfl⟩
  have HB0 := Lib.hid (show Below W.heap.size W wo from by rw [hwo]; exact (Below.refl _ _).alloc (Nat.le_refl _) _)
  have HP0 := Lib.hid (show Blk wo W.heap.size 43 #[.int .i64 y0, .int .i64 y1, .int .i64 y2, .string ⟨#[]⟩, .int .i64 0, .int .i64 0, .int .i64 0, .int .i64 0, .int .i64 0, .int .i64 0, .int .i64 0, .int .i64 0, .int .i64 0, .slice none 0 0] from by rw [hwo]; exact Blk.new _ _ _)
  have eg : ∀ args w, (callFunc 120 args).run Try.prog w = .ok (.enter 120 args) w := fun _ _ => rfl
  have HCT := Lib.hid (⟨fun i x hi => absurd hi (Nat.not_lt_zero _), fun i x hi hx => absurd (List.getElem?_eq_some_iff.1 hx).1 (by omega)⟩ : Cut L ((y0, y1), y2) 0 L.length)
  go_enter Try.func119, Try.ntmps119
  go_wp2_with fail
  rw [← hwo]
  clear hwo
  go_loopw [9, 10] (fun s9 s10 wr => ∃ lo hi : Nat, s9 = .int .i64 lo ∧ s10 = .int .i64 hi ∧ lo ≤ hi ∧ hi ≤ L.length ∧ Hid (Cut L ((y0, y1), y2) lo hi) ∧ Below wo.heap.size wo wr) (fun s9 s10 _ => (intOf s10).toNat - (intOf s9).toNat)
  case atStart => exact ⟨0, L.length, rfl, rfl, Nat.zero_le _, Nat.le_refl _, HCT, Below.refl _ _⟩
  case round =>
    obtain ⟨lo, hi, rfl, rfl, hlh, hin, HC, hB⟩ := hrel
    have HB := Lib.hid (HB0.out.trans (hB.mono HB0.out.size))
    have HP := Lib.hid (HP0.out.call hB)
    have hszW := HB.out.size
    have hB0 := Lib.hid hB
    clear hB
    by_cases hlt : lo < hi
    · obtain ⟨m, hm⟩ : ∃ m, m = (lo + hi) / 2 := ⟨_, rfl⟩
      have hm1 : lo ≤ m := by omega
      have hm2 : m < hi := by omega
      have hmid : ((lo : Int) + (hi : Int)) / 2 = (m : Int) := by omega
      clear hm
      obtain ⟨⟨⟨x0, x1⟩, x2, x3, x4, x5, x6, ⟨x7, x8⟩, x9, x10, x11, x12, M⟩, hx⟩ := el_some (show m < L.length by omega)
      have HX := Lib.hid hx
      obtain ⟨g, o, us, rfl, hg, hu, hr⟩ := (H.out.below R_Task_ok HB.out).at_ hx
      obtain ⟨ba, bc, rfl, k_M, b_x3⟩ := rd_Task hr
      have e0 : wr.cell? ⟨g, o + m * 14, none⟩ = some (.int .i64 x0) := by simpa [size_TaskS, Nat.add_assoc] using hu 0 _ rfl
      have e1 : wr.cell? ⟨g, o + m * 14 + 1, none⟩ = some (.int .i64 x1) := by simpa [size_TaskS, Nat.add_assoc] using hu 1 _ rfl
      have e2 : wr.cell? ⟨g, o + m * 14 + 2, none⟩ = some (.int .i64 x2) := by simpa [size_TaskS, Nat.add_assoc] using hu 2 _ rfl
      have e3 : wr.cell? ⟨g, o + m * 14 + 3, none⟩ = some (.string x3) := by simpa [size_TaskS, Nat.add_assoc] using hu 3 _ rfl
      have e4 : wr.cell? ⟨g, o + m * 14 + 4, none⟩ = some (.int .i64 x4) := by simpa [size_TaskS, Nat.add_assoc] using hu 4 _ rfl
      have e5 : wr.cell? ⟨g, o + m * 14 + 5, none⟩ = some (.int .i64 x5) := by simpa [size_TaskS, Nat.add_assoc] using hu 5 _ rfl
      have e6 : wr.cell? ⟨g, o + m * 14 + 6, none⟩ = some (.int .i64 x6) := by simpa [size_TaskS, Nat.add_assoc] using hu 6 _ rfl
      have e7 : wr.cell? ⟨g, o + m * 14 + 7, none⟩ = some (.int .i64 x7) := by simpa [size_TaskS, Nat.add_assoc] using hu 7 _ rfl
      have e8 : wr.cell? ⟨g, o + m * 14 + 8, none⟩ = some (.int .i64 x8) := by simpa [size_TaskS, Nat.add_assoc] using hu 8 _ rfl
      have e9 : wr.cell? ⟨g, o + m * 14 + 9, none⟩ = some (.int .i64 x9) := by simpa [size_TaskS, Nat.add_assoc] using hu 9 _ rfl
      have e10 : wr.cell? ⟨g, o + m * 14 + 10, none⟩ = some (.int .i64 x10) := by simpa [size_TaskS, Nat.add_assoc] using hu 10 _ rfl
      have e11 : wr.cell? ⟨g, o + m * 14 + 11, none⟩ = some (.int .i64 x11) := by simpa [size_TaskS, Nat.add_assoc] using hu 11 _ rfl
      have e12 : wr.cell? ⟨g, o + m * 14 + 12, none⟩ = some (.int .i64 x12) := by simpa [size_TaskS, Nat.add_assoc] using hu 12 _ rfl
      have e13 : wr.cell? ⟨g, o + m * 14 + 13, none⟩ = some (.slice ba M.length bc) := by simpa [size_TaskS, Nat.add_assoc] using hu 13 _ rfl
      have hi0 : (0 : Int) ≤ (m : Int) := Int.natCast_nonneg _
      have hi1 : (m : Int) < (L.length : Int) := by omega
      have hgl : g < wr.heap.size := Nat.lt_of_lt_of_le hg hszW
      have hC := fun V => cmpT_w (x0 := x0) (x1 := x1) (x2 := x2) (x3 := x3) (x4 := x4) (x5 := x5) (x6 := x6) (x7 := x7) (x8 := x8) (x9 := x9) (x10 := x10) (x11 := x11) (x12 := x12) (L := M) (a := ba) (c := bc) (y0 := y0) (y1 := y1) (y2 := y2) (y3 := ⟨#[]⟩) (y4 := 0) (y5 := 0) (y6 := 0) (y7 := 0) (y8 := 0) (y9 := 0) (y10 := 0) (y11 := 0) (y12 := 0) (M := []) (b := none) (d := 0) (W := V)
      obtain ⟨r, hr9⟩ : ∃ r, cfK ((x0, x1), x2) ((y0, y1), y2) = r := ⟨_, rfl⟩
      rw [hr9] at hC
      clear hu hr hg hx k_M
      by_cases hneg : r < 0
      · have HC2 := Lib.hid (cut_up HC.out HI.out HX.out ((cfK_neg _ _).1 (by show cfK ((x0, x1), x2) _ < 0; rw [hr9]; exact hneg)))
        have hd : decide (r < 0) = true := decide_eq_true hneg
        clear hr9
        go_wp2_with fail
        refine wp_region_held_drew (S := (fun V => Below (wr).heap.size (wr) V)) (by kernel_rfl) ((Below.refl _ _).drew) (fun hHeld => ?_)
        refine tk 0 hHeld ?_
        refine tk 1 hHeld ?_
        refine tk 2 hHeld ?_
        refine tk 3 hHeld ?_
        refine tk 4 hHeld ?_ (hy := fun w hSw => by (try dsimp only at hSw); have k0 := (hSw.cell (p := ⟨g, o + m * 14, none⟩) hgl).trans e0; have k1 := (hSw.cell (p := ⟨g, o + m * 14 + 1, none⟩) hgl).trans e1; have k2 := (hSw.cell (p := ⟨g, o + m * 14 + 2, none⟩) hgl).trans e2; have k3 := (hSw.cell (p := ⟨g, o + m * 14 + 3, none⟩) hgl).trans e3; have k4 := (hSw.cell (p := ⟨g, o + m * 14 + 4, none⟩) hgl).trans e4; have k5 := (hSw.cell (p := ⟨g, o + m * 14 + 5, none⟩) hgl).trans e5; have k6 := (hSw.cell (p := ⟨g, o + m * 14 + 6, none⟩) hgl).trans e6; have k7 := (hSw.cell (p := ⟨g, o + m * 14 + 7, none⟩) hgl).trans e7; have k8 := (hSw.cell (p := ⟨g, o + m * 14 + 8, none⟩) hgl).trans e8; have k9 := (hSw.cell (p := ⟨g, o + m * 14 + 9, none⟩) hgl).trans e9; have k10 := (hSw.cell (p := ⟨g, o + m * 14 + 10, none⟩) hgl).trans e10; have k11 := (hSw.cell (p := ⟨g, o + m * 14 + 11, none⟩) hgl).trans e11; have k12 := (hSw.cell (p := ⟨g, o + m * 14 + 12, none⟩) hgl).trans e12; have k13 := (hSw.cell (p := ⟨g, o + m * 14 + 13, none⟩) hgl).trans e13; clear hSw; go_simp; try with_reducible rfl)
        refine tk 5 hHeld ?_ (hy := fun w hSw => by (try dsimp only at hSw); have k0 := (hSw.cell (p := ⟨W.heap.size, 0, none⟩) HP.out.lt).trans (HP.out.at_ 0 rfl); have k1 := (hSw.cell (p := ⟨W.heap.size, 1, none⟩) HP.out.lt).trans (HP.out.at_ 1 rfl); have k2 := (hSw.cell (p := ⟨W.heap.size, 2, none⟩) HP.out.lt).trans (HP.out.at_ 2 rfl); have k3 := (hSw.cell (p := ⟨W.heap.size, 3, none⟩) HP.out.lt).trans (HP.out.at_ 3 rfl); have k4 := (hSw.cell (p := ⟨W.heap.size, 4, none⟩) HP.out.lt).trans (HP.out.at_ 4 rfl); have k5 := (hSw.cell (p := ⟨W.heap.size, 5, none⟩) HP.out.lt).trans (HP.out.at_ 5 rfl); have k6 := (hSw.cell (p := ⟨W.heap.size, 6, none⟩) HP.out.lt).trans (HP.out.at_ 6 rfl); have k7 := (hSw.cell (p := ⟨W.heap.size, 7, none⟩) HP.out.lt).trans (HP.out.at_ 7 rfl); have k8 := (hSw.cell (p := ⟨W.heap.size, 8, none⟩) HP.out.lt).trans (HP.out.at_ 8 rfl); have k9 := (hSw.cell (p := ⟨W.heap.size, 9, none⟩) HP.out.lt).trans (HP.out.at_ 9 rfl); have k10 := (hSw.cell (p := ⟨W.heap.size, 10, none⟩) HP.out.lt).trans (HP.out.at_ 10 rfl); have k11 := (hSw.cell (p := ⟨W.heap.size, 11, none⟩) HP.out.lt).trans (HP.out.at_ 11 rfl); have k12 := (hSw.cell (p := ⟨W.heap.size, 12, none⟩) HP.out.lt).trans (HP.out.at_ 12 rfl); have k13 := (hSw.cell (p := ⟨W.heap.size, 13, none⟩) HP.out.lt).trans (HP.out.at_ 13 rfl); clear hSw; go_simp; try with_reducible rfl)
        refine rd1 6 (fun K hK => ?_)
        go_simp
        go_at_fn 120
        refine (hC _).mono ?_
        rintro e w9 ⟨rfl, hb⟩
        refine hK.out _ _ (hHeld.trans (hb.mono hHeld.size)) (fun hHeld => ?_)
        clear hK K hb
        refine tk 7 hHeld ?_
        refine rd0 ?_
        have HF := Lib.hid hHeld
        clear hHeld
        have HB2 := Lib.hid (HB.out.trans (HF.out.mono hszW))
        have HB3 := Lib.hid (hB0.out.trans (HF.out.mono hB0.out.size))
        go_wp2
        go_roundw
        case rel => exact ⟨m + 1, hi, by go_num, rfl, by omega, hin, HC2, HB3.out⟩
        case measure => simp [intOf]; omega
      · have HC2 := Lib.hid (cut_dn HC.out HI.out HX.out (fun h => hneg (by have := (cfK_neg _ _).2 h; rw [← hr9]; exact this)))
        have hd : decide (r < 0) = false := decide_eq_false hneg
        clear hr9
        go_wp2_with fail
        refine wp_region_held_drew (S := (fun V => Below (wr).heap.size (wr) V)) (by kernel_rfl) ((Below.refl _ _).drew) (fun hHeld => ?_)
        refine tk 0 hHeld ?_
        refine tk 1 hHeld ?_
        refine tk 2 hHeld ?_
        refine tk 3 hHeld ?_
        refine tk 4 hHeld ?_ (hy := fun w hSw => by (try dsimp only at hSw); have k0 := (hSw.cell (p := ⟨g, o + m * 14, none⟩) hgl).trans e0; have k1 := (hSw.cell (p := ⟨g, o + m * 14 + 1, none⟩) hgl).trans e1; have k2 := (hSw.cell (p := ⟨g, o + m * 14 + 2, none⟩) hgl).trans e2; have k3 := (hSw.cell (p := ⟨g, o + m * 14 + 3, none⟩) hgl).trans e3; have k4 := (hSw.cell (p := ⟨g, o + m * 14 + 4, none⟩) hgl).trans e4; have k5 := (hSw.cell (p := ⟨g, o + m * 14 + 5, none⟩) hgl).trans e5; have k6 := (hSw.cell (p := ⟨g, o + m * 14 + 6, none⟩) hgl).trans e6; have k7 := (hSw.cell (p := ⟨g, o + m * 14 + 7, none⟩) hgl).trans e7; have k8 := (hSw.cell (p := ⟨g, o + m * 14 + 8, none⟩) hgl).trans e8; have k9 := (hSw.cell (p := ⟨g, o + m * 14 + 9, none⟩) hgl).trans e9; have k10 := (hSw.cell (p := ⟨g, o + m * 14 + 10, none⟩) hgl).trans e10; have k11 := (hSw.cell (p := ⟨g, o + m * 14 + 11, none⟩) hgl).trans e11; have k12 := (hSw.cell (p := ⟨g, o + m * 14 + 12, none⟩) hgl).trans e12; have k13 := (hSw.cell (p := ⟨g, o + m * 14 + 13, none⟩) hgl).trans e13; clear hSw; go_simp; try with_reducible rfl)
        refine tk 5 hHeld ?_ (hy := fun w hSw => by (try dsimp only at hSw); have k0 := (hSw.cell (p := ⟨W.heap.size, 0, none⟩) HP.out.lt).trans (HP.out.at_ 0 rfl); have k1 := (hSw.cell (p := ⟨W.heap.size, 1, none⟩) HP.out.lt).trans (HP.out.at_ 1 rfl); have k2 := (hSw.cell (p := ⟨W.heap.size, 2, none⟩) HP.out.lt).trans (HP.out.at_ 2 rfl); have k3 := (hSw.cell (p := ⟨W.heap.size, 3, none⟩) HP.out.lt).trans (HP.out.at_ 3 rfl); have k4 := (hSw.cell (p := ⟨W.heap.size, 4, none⟩) HP.out.lt).trans (HP.out.at_ 4 rfl); have k5 := (hSw.cell (p := ⟨W.heap.size, 5, none⟩) HP.out.lt).trans (HP.out.at_ 5 rfl); have k6 := (hSw.cell (p := ⟨W.heap.size, 6, none⟩) HP.out.lt).trans (HP.out.at_ 6 rfl); have k7 := (hSw.cell (p := ⟨W.heap.size, 7, none⟩) HP.out.lt).trans (HP.out.at_ 7 rfl); have k8 := (hSw.cell (p := ⟨W.heap.size, 8, none⟩) HP.out.lt).trans (HP.out.at_ 8 rfl); have k9 := (hSw.cell (p := ⟨W.heap.size, 9, none⟩) HP.out.lt).trans (HP.out.at_ 9 rfl); have k10 := (hSw.cell (p := ⟨W.heap.size, 10, none⟩) HP.out.lt).trans (HP.out.at_ 10 rfl); have k11 := (hSw.cell (p := ⟨W.heap.size, 11, none⟩) HP.out.lt).trans (HP.out.at_ 11 rfl); have k12 := (hSw.cell (p := ⟨W.heap.size, 12, none⟩) HP.out.lt).trans (HP.out.at_ 12 rfl); have k13 := (hSw.cell (p := ⟨W.heap.size, 13, none⟩) HP.out.lt).trans (HP.out.at_ 13 rfl); clear hSw; go_simp; try with_reducible rfl)
        refine rd1 6 (fun K hK => ?_)
        go_simp
        go_at_fn 120
        refine (hC _).mono ?_
        rintro e w9 ⟨rfl, hb⟩
        refine hK.out _ _ (hHeld.trans (hb.mono hHeld.size)) (fun hHeld => ?_)
        clear hK K hb
        refine tk 7 hHeld ?_
        refine rd0 ?_
        have HF := Lib.hid hHeld
        clear hHeld
        have HB2 := Lib.hid (HB.out.trans (HF.out.mono hszW))
        have HB3 := Lib.hid (hB0.out.trans (HF.out.mono hB0.out.size))
        go_wp2
        go_roundw
        case rel => exact ⟨lo, m, rfl, by go_num, by omega, by omega, HC2, HB3.out⟩
        case measure => simp [intOf]; omega
    · obtain rfl : lo = hi := by omega
      have hdl : decide ((lo : Int) < (lo : Int)) = false := by simp
      by_cases hlen : lo < L.length
      · obtain ⟨⟨⟨x0, x1⟩, x2, x3, x4, x5, x6, ⟨x7, x8⟩, x9, x10, x11, x12, M⟩, hx⟩ := el_some hlen
        have HX := Lib.hid hx
        obtain ⟨g, o, us, rfl, hg, hu, hr⟩ := (H.out.below R_Task_ok HB.out).at_ hx
        obtain ⟨ba, bc, rfl, k_M, b_x3⟩ := rd_Task hr
        have e0 : wr.cell? ⟨g, o + lo * 14, none⟩ = some (.int .i64 x0) := by simpa [size_TaskS, Nat.add_assoc] using hu 0 _ rfl
        have e1 : wr.cell? ⟨g, o + lo * 14 + 1, none⟩ = some (.int .i64 x1) := by simpa [size_TaskS, Nat.add_assoc] using hu 1 _ rfl
        have e2 : wr.cell? ⟨g, o + lo * 14 + 2, none⟩ = some (.int .i64 x2) := by simpa [size_TaskS, Nat.add_assoc] using hu 2 _ rfl
        have e3 : wr.cell? ⟨g, o + lo * 14 + 3, none⟩ = some (.string x3) := by simpa [size_TaskS, Nat.add_assoc] using hu 3 _ rfl
        have e4 : wr.cell? ⟨g, o + lo * 14 + 4, none⟩ = some (.int .i64 x4) := by simpa [size_TaskS, Nat.add_assoc] using hu 4 _ rfl
        have e5 : wr.cell? ⟨g, o + lo * 14 + 5, none⟩ = some (.int .i64 x5) := by simpa [size_TaskS, Nat.add_assoc] using hu 5 _ rfl
        have e6 : wr.cell? ⟨g, o + lo * 14 + 6, none⟩ = some (.int .i64 x6) := by simpa [size_TaskS, Nat.add_assoc] using hu 6 _ rfl
        have e7 : wr.cell? ⟨g, o + lo * 14 + 7, none⟩ = some (.int .i64 x7) := by simpa [size_TaskS, Nat.add_assoc] using hu 7 _ rfl
        have e8 : wr.cell? ⟨g, o + lo * 14 + 8, none⟩ = some (.int .i64 x8) := by simpa [size_TaskS, Nat.add_assoc] using hu 8 _ rfl
        have e9 : wr.cell? ⟨g, o + lo * 14 + 9, none⟩ = some (.int .i64 x9) := by simpa [size_TaskS, Nat.add_assoc] using hu 9 _ rfl
        have e10 : wr.cell? ⟨g, o + lo * 14 + 10, none⟩ = some (.int .i64 x10) := by simpa [size_TaskS, Nat.add_assoc] using hu 10 _ rfl
        have e11 : wr.cell? ⟨g, o + lo * 14 + 11, none⟩ = some (.int .i64 x11) := by simpa [size_TaskS, Nat.add_assoc] using hu 11 _ rfl
        have e12 : wr.cell? ⟨g, o + lo * 14 + 12, none⟩ = some (.int .i64 x12) := by simpa [size_TaskS, Nat.add_assoc] using hu 12 _ rfl
        have e13 : wr.cell? ⟨g, o + lo * 14 + 13, none⟩ = some (.slice ba M.length bc) := by simpa [size_TaskS, Nat.add_assoc] using hu 13 _ rfl
        have hi0 : (0 : Int) ≤ (lo : Int) := Int.natCast_nonneg _
        have hi1 : (lo : Int) < (L.length : Int) := by omega
        have hdn : decide ((lo : Int) < (L.length : Int)) = true := decide_eq_true hi1
        have hgl : g < wr.heap.size := Nat.lt_of_lt_of_le hg hszW
        have hC := fun V => cmpT_w (x0 := x0) (x1 := x1) (x2 := x2) (x3 := x3) (x4 := x4) (x5 := x5) (x6 := x6) (x7 := x7) (x8 := x8) (x9 := x9) (x10 := x10) (x11 := x11) (x12 := x12) (L := M) (a := ba) (c := bc) (y0 := y0) (y1 := y1) (y2 := y2) (y3 := ⟨#[]⟩) (y4 := 0) (y5 := 0) (y6 := 0) (y7 := 0) (y8 := 0) (y9 := 0) (y10 := 0) (y11 := 0) (y12 := 0) (M := []) (b := none) (d := 0) (W := V)
        obtain ⟨r, hr9⟩ : ∃ r, cfK ((x0, x1), x2) ((y0, y1), y2) = r := ⟨_, rfl⟩
        rw [hr9] at hC
        have HR9 := Lib.hid hr9
        clear hu hr hg hx k_M hr9
        obtain ⟨q, hq⟩ : ∃ q, (r == 0) = q := ⟨_, rfl⟩
        have HT := Lib.hid (show q = true → atT L ((y0, y1), y2) = (lo : Int) from fun h => cut_hit HC.out HX.out ((cfK_zero _ _).1 (HR9.out.trans (eq_of_beq (hq.trans h)))))
        have HM := Lib.hid (show q = false → atT L ((y0, y1), y2) = -1 from fun h => cut_miss HC.out HI.out fun x hx he => by
          obtain rfl := Option.some.inj (HX.out.symm.trans hx)
          have h2 : cfK ((x0, x1), x2) ((y0, y1), y2) = 0 := (cfK_zero _ _).2 he
          have h3 : r = 0 := HR9.out.symm.trans h2
          rw [← hq, h3] at h
          cases h)
        go_wp2_with fail
        refine wp_region_held_drew (S := (fun V => Below (wr).heap.size (wr) V)) (by kernel_rfl) ((Below.refl _ _).drew) (fun hHeld => ?_)
        refine tk 0 hHeld ?_
        refine tk 1 hHeld ?_
        refine tk 2 hHeld ?_
        refine tk 3 hHeld ?_
        refine tk 4 hHeld ?_
        refine tk 5 hHeld ?_
        refine tk 6 hHeld ?_
        refine tk 7 hHeld ?_
        refine tk 8 hHeld ?_
        refine tk 9 hHeld ?_ (hy := fun w hSw => by (try dsimp only at hSw); have k0 := (hSw.cell (p := ⟨g, o + lo * 14, none⟩) hgl).trans e0; have k1 := (hSw.cell (p := ⟨g, o + lo * 14 + 1, none⟩) hgl).trans e1; have k2 := (hSw.cell (p := ⟨g, o + lo * 14 + 2, none⟩) hgl).trans e2; have k3 := (hSw.cell (p := ⟨g, o + lo * 14 + 3, none⟩) hgl).trans e3; have k4 := (hSw.cell (p := ⟨g, o + lo * 14 + 4, none⟩) hgl).trans e4; have k5 := (hSw.cell (p := ⟨g, o + lo * 14 + 5, none⟩) hgl).trans e5; have k6 := (hSw.cell (p := ⟨g, o + lo * 14 + 6, none⟩) hgl).trans e6; have k7 := (hSw.cell (p := ⟨g, o + lo * 14 + 7, none⟩) hgl).trans e7; have k8 := (hSw.cell (p := ⟨g, o + lo * 14 + 8, none⟩) hgl).trans e8; have k9 := (hSw.cell (p := ⟨g, o + lo * 14 + 9, none⟩) hgl).trans e9; have k10 := (hSw.cell (p := ⟨g, o + lo * 14 + 10, none⟩) hgl).trans e10; have k11 := (hSw.cell (p := ⟨g, o + lo * 14 + 11, none⟩) hgl).trans e11; have k12 := (hSw.cell (p := ⟨g, o + lo * 14 + 12, none⟩) hgl).trans e12; have k13 := (hSw.cell (p := ⟨g, o + lo * 14 + 13, none⟩) hgl).trans e13; clear hSw; go_simp; try with_reducible rfl)
        refine tk 10 hHeld ?_ (hy := fun w hSw => by (try dsimp only at hSw); have k0 := (hSw.cell (p := ⟨W.heap.size, 0, none⟩) HP.out.lt).trans (HP.out.at_ 0 rfl); have k1 := (hSw.cell (p := ⟨W.heap.size, 1, none⟩) HP.out.lt).trans (HP.out.at_ 1 rfl); have k2 := (hSw.cell (p := ⟨W.heap.size, 2, none⟩) HP.out.lt).trans (HP.out.at_ 2 rfl); have k3 := (hSw.cell (p := ⟨W.heap.size, 3, none⟩) HP.out.lt).trans (HP.out.at_ 3 rfl); have k4 := (hSw.cell (p := ⟨W.heap.size, 4, none⟩) HP.out.lt).trans (HP.out.at_ 4 rfl); have k5 := (hSw.cell (p := ⟨W.heap.size, 5, none⟩) HP.out.lt).trans (HP.out.at_ 5 rfl); have k6 := (hSw.cell (p := ⟨W.heap.size, 6, none⟩) HP.out.lt).trans (HP.out.at_ 6 rfl); have k7 := (hSw.cell (p := ⟨W.heap.size, 7, none⟩) HP.out.lt).trans (HP.out.at_ 7 rfl); have k8 := (hSw.cell (p := ⟨W.heap.size, 8, none⟩) HP.out.lt).trans (HP.out.at_ 8 rfl); have k9 := (hSw.cell (p := ⟨W.heap.size, 9, none⟩) HP.out.lt).trans (HP.out.at_ 9 rfl); have k10 := (hSw.cell (p := ⟨W.heap.size, 10, none⟩) HP.out.lt).trans (HP.out.at_ 10 rfl); have k11 := (hSw.cell (p := ⟨W.heap.size, 11, none⟩) HP.out.lt).trans (HP.out.at_ 11 rfl); have k12 := (hSw.cell (p := ⟨W.heap.size, 12, none⟩) HP.out.lt).trans (HP.out.at_ 12 rfl); have k13 := (hSw.cell (p := ⟨W.heap.size, 13, none⟩) HP.out.lt).trans (HP.out.at_ 13 rfl); clear hSw; go_simp; try with_reducible rfl)
        refine rd1 11 (fun K hK => ?_)
        go_simp
        go_at_fn 120
        refine (hC _).mono ?_
        rintro e w9 ⟨rfl, hb⟩
        refine hK.out _ _ (hHeld.trans (hb.mono hHeld.size)) (fun hHeld => ?_)
        clear hK K hb
        refine tk 12 hHeld ?_
        refine tk 13 hHeld ?_
        refine tk 14 hHeld ?_
        refine tk 15 hHeld ?_
        refine rd0 ?_
        have HF := Lib.hid hHeld
        clear hHeld
        have HB2 := Lib.hid (HB.out.trans (HF.out.mono hszW))
        go_wp2
        go_ret2
        exact ⟨⟨lo, q, rfl, HT.out, HM.out⟩, HB2.out⟩
      · have hdn : decide ((lo : Int) < (L.length : Int)) = false := decide_eq_false (by omega)
        have HM := Lib.hid (cut_miss HC.out HI.out fun x hx => absurd (List.getElem?_eq_some_iff.1 hx).1 hlen)
        go_wp2_with fail
        go_quiet (fail)
        all_goals
          go_wp2
          go_ret2
          exact ⟨⟨lo, false, rfl, fun h => (by cases h), fun _ => HM.out⟩, by first | exact HB.out | exact HB.out.drew | exact bdrewN HB.out _⟩
set_option maxRecDepth 100000 in
set_option maxHeartbeats 1600000 in
theorem taskat_impl {L : List D_Task} {a : Option Addr} {cap : Nat} {y0 y1 y2 : Int} {W : World} (hn : L.length ≤ 1048576) (hI : IncT L L.length) (h : RdSl R_Task W W.heap.size L a cap) :
    Calls Try.prog 85 #[.slice a L.length cap, .agg #[.int .i64 y0, .int .i64 y1], .int .i64 y2] W fun e w' => e = .returned (.int .i64 (atT L ((y0, y1), y2))) ∧ Below W.heap.size W w' := by
  have H := Lib.hid h
  have HI := Lib.hid hI
  clear h hI
  obtain ⟨wo, hwo⟩ : ∃ w, w = W.alloc (.cells #[.int .i64 y0, .int .i64 y1] 25) := ⟨_, rfl⟩
  have HB0 := Lib.hid (show Below W.heap.size W wo from by rw [hwo]; exact (Below.refl _ _).alloc (Nat.le_refl _) _)
  have HA := Lib.hid ((H.out.below R_Task_ok HB0.out).more R_Task_ok HB0.out.size)
  go_enter Try.func85, Try.ntmps85
  go_wp2_with fail
  rw [← hwo]
  clear hwo
  refine (bsT_w hn HI.out HA.out).mono ?_
  rintro e w1 ⟨⟨k, b, rfl, h1, h2⟩, hb⟩
  have HB := Lib.hid (HB0.out.trans (hb.mono HB0.out.size))
  have H1 := Lib.hid h1
  have H2 := Lib.hid h2
  clear hb h1 h2
  cases b with
  | true =>
    have HE := Lib.hid (H1.out rfl)
    go_wp2
    go_ret
    exact ⟨by rw [HE.out]; rfl, HB.out⟩
  | false =>
    have HE := Lib.hid (H2.out rfl)
    go_wp2
    go_ret
    exact ⟨by rw [HE.out]; rfl, HB.out⟩
end Go.Proofs.Ytkghodbbgehcoaa.RepC
end
section
namespace Go.Proofs.Ytkghodbbgehcoaa.RepC
open Go.RowKit RowC ValC SpanC KeptC NameC SortC
set_option linter.unusedVariables false
set_option linter.unusedSimpArgs false
def NextP (L : List D_Task) (x : D_Task) : Prop := (L.length = 0 → tId x = 1) ∧ ∀ y, 0 < L.length → L[L.length - 1]? = some y → NextT y x
open Classical in
noncomputable def nextB (L : List D_Task) (x : D_Task) : Bool := decide (NextP L x)
open Classical in
theorem nextB_iff {L : List D_Task} {x : D_Task} : nextB L x = true ↔ NextP L x := by unfold nextB; simp
theorem next_is {L : List D_Task} {x : D_Task} {b : Bool} (h : b = true ↔ NextP L x) : nextB L x = b := by
  cases b <;> cases hn : nextB L x
  · rfl
  · exact absurd (h.2 (nextB_iff.1 hn)) (by decide)
  · exact absurd (nextB_iff.2 (h.1 rfl)) (by rw [hn]; decide)
  · rfl
set_option maxRecDepth 100000 in
set_option maxHeartbeats 3200000 in
theorem comes_impl {L : List D_Task} {n : Nat} {a : Option Addr} {cap : Nat} {x0 x1 x2 : Int} {x3 : ByteArray} {x4 x5 x6 x7 x8 x9 x10 x11 x12 : Int} {M : List Int} {ba : Option Addr} {bc : Nat} {W : World} (hLn : L.length = n) (hid : ∀ y, L[L.length - 1]? = some y → 1 ≤ tId y ∧ tId y ≤ 12) (h : RdSl R_Task W W.heap.size L a cap) :
    Calls Try.prog 84 #[.slice a n cap, .agg #[.int .i64 x0, .int .i64 x1, .int .i64 x2, .string x3, .int .i64 x4, .int .i64 x5, .int .i64 x6, .int .i64 x7, .int .i64 x8, .int .i64 x9, .int .i64 x10, .int .i64 x11, .int .i64 x12, .slice ba M.length bc]] W fun e w' => e = .returned (.bool (nextB L ((x0, x1), x2, x3, x4, x5, x6, (x7, x8), x9, x10, x11, x12, M))) ∧ Below W.heap.size W w' := by
  subst hLn
  have hn : L.length ≤ 9223372036854775807 := by have h1 := h.1; have h2 := h.2.1; unfold maxLen at h2; omega
  have H := Lib.hid h
  have HID := Lib.hid hid
  clear h hid
  obtain ⟨wo, hwo⟩ : ∃ w, w = W.alloc (.cells #[.int .i64 x0, .int .i64 x1, .int .i64 x2, .string x3, .int .i64 x4, .int .i64 x5, .int .i64 x6, .int .i64 x7, .int .i64 x8, .int .i64 x9, .int .i64 x10, .int .i64 x11, .int .i64 x12, .slice ba M.length bc] 43) := ⟨_, rfl⟩
  have HB0 := Lib.hid (show Below W.heap.size W wo from by rw [hwo]; exact (Below.refl _ _).alloc (Nat.le_refl _) _)
  have HP0 := Lib.hid (show Blk wo W.heap.size 43 #[.int .i64 x0, .int .i64 x1, .int .i64 x2, .string x3, .int .i64 x4, .int .i64 x5, .int .i64 x6, .int .i64 x7, .int .i64 x8, .int .i64 x9, .int .i64 x10, .int .i64 x11, .int .i64 x12, .slice ba M.length bc] from by rw [hwo]; exact Blk.new _ _ _)
  have HA0 := Lib.hid ((H.out.below R_Task_ok HB0.out).more R_Task_ok HB0.out.size)
  by_cases h0 : L.length = 0
  · have hd : ((L.length : Int) == 0) = true := by simp [h0]
    obtain ⟨b, hb⟩ : ∃ b, (x2 == 1) = b := ⟨_, rfl⟩
    have HE := Lib.hid (show nextB L ((x0, x1), x2, x3, x4, x5, x6, (x7, x8), x9, x10, x11, x12, M) = b from next_is (by
      rw [← hb, beq_iff_eq]
      exact ⟨fun h => ⟨fun _ => h, fun y h2 => by omega⟩, fun h => h.1 h0⟩))
    rw [hwo] at HB0
    clear hwo h0 HP0 HA0
    go_enter Try.func84, Try.ntmps84
    go_wp2
    go_ret
    exact ⟨by rw [HE.out]; rfl, HB0.out⟩
  · have hd : ((L.length : Int) == 0) = false := by simp; exact fun h => h0 (by simp [h])
    obtain ⟨j, hj⟩ : ∃ j, L.length = j + 1 := ⟨L.length - 1, by omega⟩
    obtain ⟨⟨⟨y0, y1⟩, y2, y3, y4, y5, y6, ⟨y7, y8⟩, y9, y10, y11, y12, N⟩, hy⟩ := el_some (show j < L.length by omega)
    have HY := Lib.hid (show L[L.length - 1]? = some ((y0, y1), y2, y3, y4, y5, y6, (y7, y8), y9, y10, y11, y12, N) from by rw [hj, Nat.add_sub_cancel]; exact hy)
    have hjs : (L.length : Int) - 1 = (j : Int) := by omega
    have hj0 : (0 : Int) ≤ (j : Int) := Int.natCast_nonneg _
    have hj1 : (j : Int) < (L.length : Int) := by omega
    have hjw : IntKind.i64.wrap (j : Int) = (j : Int) := IntWalk.i64_in _ (by omega)
    obtain ⟨g, o, us, rfl, hg, hu, hr⟩ := HA0.out.at_ hy
    obtain ⟨da, dc, rfl, k_N, b_y3⟩ := rd_Task hr
    have e0 : wo.cell? ⟨g, o + j * 14, none⟩ = some (.int .i64 y0) := by simpa [size_TaskS, Nat.add_assoc] using hu 0 _ rfl
    have e1 : wo.cell? ⟨g, o + j * 14 + 1, none⟩ = some (.int .i64 y1) := by simpa [size_TaskS, Nat.add_assoc] using hu 1 _ rfl
    have e2 : wo.cell? ⟨g, o + j * 14 + 2, none⟩ = some (.int .i64 y2) := by simpa [size_TaskS, Nat.add_assoc] using hu 2 _ rfl
    have e3 : wo.cell? ⟨g, o + j * 14 + 3, none⟩ = some (.string y3) := by simpa [size_TaskS, Nat.add_assoc] using hu 3 _ rfl
    have e4 : wo.cell? ⟨g, o + j * 14 + 4, none⟩ = some (.int .i64 y4) := by simpa [size_TaskS, Nat.add_assoc] using hu 4 _ rfl
    have e5 : wo.cell? ⟨g, o + j * 14 + 5, none⟩ = some (.int .i64 y5) := by simpa [size_TaskS, Nat.add_assoc] using hu 5 _ rfl
    have e6 : wo.cell? ⟨g, o + j * 14 + 6, none⟩ = some (.int .i64 y6) := by simpa [size_TaskS, Nat.add_assoc] using hu 6 _ rfl
    have e7 : wo.cell? ⟨g, o + j * 14 + 7, none⟩ = some (.int .i64 y7) := by simpa [size_TaskS, Nat.add_assoc] using hu 7 _ rfl
    have e8 : wo.cell? ⟨g, o + j * 14 + 8, none⟩ = some (.int .i64 y8) := by simpa [size_TaskS, Nat.add_assoc] using hu 8 _ rfl
    have e9 : wo.cell? ⟨g, o + j * 14 + 9, none⟩ = some (.int .i64 y9) := by simpa [size_TaskS, Nat.add_assoc] using hu 9 _ rfl
    have e10 : wo.cell? ⟨g, o + j * 14 + 10, none⟩ = some (.int .i64 y10) := by simpa [size_TaskS, Nat.add_assoc] using hu 10 _ rfl
    have e11 : wo.cell? ⟨g, o + j * 14 + 11, none⟩ = some (.int .i64 y11) := by simpa [size_TaskS, Nat.add_assoc] using hu 11 _ rfl
    have e12 : wo.cell? ⟨g, o + j * 14 + 12, none⟩ = some (.int .i64 y12) := by simpa [size_TaskS, Nat.add_assoc] using hu 12 _ rfl
    have e13 : wo.cell? ⟨g, o + j * 14 + 13, none⟩ = some (.slice da N.length dc) := by simpa [size_TaskS, Nat.add_assoc] using hu 13 _ rfl
    have hy2 : 1 ≤ y2 ∧ y2 ≤ 12 := HID.out _ HY.out
    have hyw : IntKind.i64.wrap (y2 + 1) = y2 + 1 := IntWalk.i64_in _ (by omega)
    have HL0 := Lib.hid h0
    have HU := Lib.hid (fun (y : D_Task) (hy : L[L.length - 1]? = some y) => (Option.some.inj (HY.out.symm.trans hy)))
    obtain ⟨w1, hw1⟩ : ∃ w, w = wo.alloc (.cells #[.int .i64 y0, .int .i64 y1, .int .i64 y2, .string y3, .int .i64 y4, .int .i64 y5, .int .i64 y6, .int .i64 y7, .int .i64 y8, .int .i64 y9, .int .i64 y10, .int .i64 y11, .int .i64 y12, .slice da N.length dc] 43) := ⟨_, rfl⟩
    have hb1 : Below wo.heap.size wo w1 := by rw [hw1]; exact (Below.refl _ _).alloc (Nat.le_refl _) _
    have HB1 := Lib.hid (HB0.out.trans (hb1.mono HB0.out.size))
    have HPX := Lib.hid (HP0.out.call hb1)
    have HPY := Lib.hid (show Blk w1 wo.heap.size 43 #[.int .i64 y0, .int .i64 y1, .int .i64 y2, .string y3, .int .i64 y4, .int .i64 y5, .int .i64 y6, .int .i64 y7, .int .i64 y8, .int .i64 y9, .int .i64 y10, .int .i64 y11, .int .i64 y12, .slice da N.length dc] from by rw [hw1]; exact Blk.new _ _ _)
    have a0 := HPX.out.at_ 0 rfl
    have a1 := HPX.out.at_ 1 rfl
    have a2 := HPX.out.at_ 2 rfl
    have c0 := HPY.out.at_ 0 rfl
    have c1 := HPY.out.at_ 1 rfl
    have c2 := HPY.out.at_ 2 rfl
    obtain ⟨b, hb⟩ : ∃ b, decide (((x0, x1) : Int × Int) = (y0, y1)) = b := ⟨_, rfl⟩
    have hq := eql_lab x0 x1 y0 y1 b hb
    have HQ := Lib.hid hb
    clear hb hy hg hu hr k_N hb1 h0 hj
    cases b with
    | true =>
      obtain ⟨c, hc⟩ : ∃ c, (x2 == y2 + 1) = c := ⟨_, rfl⟩
      have HE := Lib.hid (show nextB L ((x0, x1), x2, x3, x4, x5, x6, (x7, x8), x9, x10, x11, x12, M) = c from next_is (by
        rw [← hc, beq_iff_eq]
        have e : ((x0, x1) : D_Label) = (y0, y1) := of_decide_eq_true HQ.out
        refine ⟨fun h => ⟨fun h2 => absurd h2 HL0.out, fun y _ hy => by rw [← HU.out y hy]; exact .inl ⟨e.symm, h⟩⟩, fun h => ?_⟩
        rcases h.2 _ (by have := HL0.out; omega) HY.out with h2 | h2
        · exact h2.2
        · have h3 : ltLb (y0, y1) (x0, x1) := h2.1
          rw [e] at h3
          exact absurd h3 ltLb_irrefl))
      go_enter Try.func84, Try.ntmps84
      go_upto_region 1 with fail
      rw [← hwo]
      clear hwo
      go_upto_region 4 with fail
      rw [← hw1]
      clear hw1 e0 e1 e2 e3 e4 e5 e6 e7 e8 e9 e10 e11 e12 e13
      go_wp2
      go_ret
      exact ⟨by rw [HE.out]; rfl, HB1.out⟩
    | false =>
      obtain ⟨r, hr9⟩ : ∃ r, labI y0 y1 x0 x1 = r := ⟨_, rfl⟩
      have hC := fun V => bylab_w y0 y1 x0 x1 V
      rw [hr9] at hC
      have HRL := Lib.hid (show r < 0 ↔ ltLb (y0, y1) (x0, x1) from by
        rcases labI3 y0 y1 x0 x1 with ⟨e1, h1⟩ | ⟨e1, h1⟩ | ⟨e1, h1⟩
        · rw [← hr9, e1]; simp [h1]
        · exact absurd h1.symm (of_decide_eq_false HQ.out)
        · rw [← hr9, e1]
          exact ⟨fun h => by omega, fun h => absurd (ltLb_trans h h1) ltLb_irrefl⟩)
      obtain ⟨f, hf⟩ : ∃ f, decide (r < 0) = f := ⟨_, rfl⟩
      obtain ⟨c, hc⟩ : ∃ c, (x2 == 1) = c := ⟨_, rfl⟩
      have HE := Lib.hid (show nextB L ((x0, x1), x2, x3, x4, x5, x6, (x7, x8), x9, x10, x11, x12, M) = (f && c) from next_is (by
        rw [← hf, ← hc]
        simp only [Bool.and_eq_true, decide_eq_true_eq, beq_iff_eq]
        refine ⟨fun h => ⟨fun h2 => absurd h2 HL0.out, fun y _ hy => by rw [← HU.out y hy]; exact .inr ⟨HRL.out.1 h.1, h.2⟩⟩, fun h => ?_⟩
        rcases h.2 _ (by have := HL0.out; omega) HY.out with h2 | h2
        · exact absurd h2.1.symm (of_decide_eq_false HQ.out)
        · exact ⟨HRL.out.2 h2.1, h2.2⟩))
      clear hr9
      go_enter Try.func84, Try.ntmps84
      go_upto_region 1 with fail
      rw [← hwo]
      clear hwo
      go_upto_region 4 with fail
      rw [← hw1]
      clear hw1 e0 e1 e2 e3 e4 e5 e6 e7 e8 e9 e10 e11 e12 e13
      go_wp2_with fail
      refine (hC _).mono ?_
      rintro e w2 ⟨rfl, hb⟩
      have HB2 := Lib.hid (HB1.out.trans (hb.mono HB1.out.size))
      have HPX2 := Lib.hid (HPX.out.call hb)
      clear hb a0 a1 a2 c0 c1 c2
      have a2 := HPX2.out.at_ 2 rfl
      cases f with
      | false =>
        go_wp2
        go_ret
        exact ⟨by rw [HE.out]; rfl, HB2.out⟩
      | true =>
        go_wp2
        go_ret
        exact ⟨by rw [HE.out]; rfl, HB2.out⟩
theorem taskat_n {L : List D_Task} {n : Nat} {a : Option Addr} {cap : Nat} {y0 y1 y2 : Int} {W : World} (hLn : L.length = n) (hn : L.length ≤ 1048576) (hI : IncT L L.length) (h : RdSl R_Task W W.heap.size L a cap) :
    Calls Try.prog 85 #[.slice a n cap, .agg #[.int .i64 y0, .int .i64 y1], .int .i64 y2] W fun e w' => e = .returned (.int .i64 (atT L ((y0, y1), y2))) ∧ Below W.heap.size W w' := by
  subst hLn
  exact taskat_impl hn hI h
set_option maxRecDepth 100000 in
set_option maxHeartbeats 3200000 in
theorem tasks_impl {L : List D_Task} {a : Option Addr} {cap : Nat} {W : World} (h : RdSl R_Task W W.heap.size L a cap) :
    Calls Try.prog 31 #[.slice a L.length cap] W (IsB (tasksB L) W) := by
  refine Calls.mono ?_ fun e w' h => resB_is tasksB_iff h
  have hn : L.length ≤ 9223372036854775807 := by have h1 := h.1; have h2 := h.2.1; unfold maxLen at h2; omega
  have H := Lib.hid h
  clear h
  by_cases h96 : L.length ≤ 96
  rotate_left
  · have HN := Lib.hid (show ¬ TasksR L from fun h => h96 h.1)
    have hd : decide ((96 : Int) < (L.length : Int)) = true := decide_eq_true (by omega)
    go_enter Try.func31, Try.ntmps31
    go_wp2
    go_ret
    exact resB_no HN.out (Below.refl _ _)
  have hd : decide ((96 : Int) < (L.length : Int)) = false := decide_eq_false (by omega)
  go_enter Try.func31, Try.ntmps31
  go_wp2
  go_loopw [10] (fun i wr => ∃ k : Nat, k ≤ L.length ∧ i = .int .i64 k ∧ Hid (tasTo L k) ∧ Below W.heap.size W wr) (fun i _ => L.length - (intOf i).toNat)
  case atStart => exact ⟨0, Nat.zero_le _, rfl, Lib.hid tasTo_zero, Below.refl _ _⟩
  case round =>
    obtain ⟨k, hk, rfl, HO, hB⟩ := hrel
    have HB := Lib.hid hB
    have hsz := hB.size
    by_cases hlt : k < L.length
    · skip
      obtain ⟨⟨⟨x0, x1⟩, x2, x3, x4, x5, x6, ⟨x7, x8⟩, x9, x10, x11, x12, M⟩, hx⟩ := el_some hlt
      have HX := Lib.hid hx
      obtain ⟨g, o, us, rfl, hg, hu, hr⟩ := (H.out.below R_Task_ok hB).at_ hx
      have HRX := Lib.hid hr
      obtain ⟨ba, bc, rfl, k_M, b_x3⟩ := rd_Task hr
      have e0 : wr.cell? ⟨g, o + k * 14, none⟩ = some (.int .i64 x0) := by simpa [size_TaskS, Nat.add_assoc] using hu 0 _ rfl
      have e1 : wr.cell? ⟨g, o + k * 14 + 1, none⟩ = some (.int .i64 x1) := by simpa [size_TaskS, Nat.add_assoc] using hu 1 _ rfl
      have e2 : wr.cell? ⟨g, o + k * 14 + 2, none⟩ = some (.int .i64 x2) := by simpa [size_TaskS, Nat.add_assoc] using hu 2 _ rfl
      have e3 : wr.cell? ⟨g, o + k * 14 + 3, none⟩ = some (.string x3) := by simpa [size_TaskS, Nat.add_assoc] using hu 3 _ rfl
      have e4 : wr.cell? ⟨g, o + k * 14 + 4, none⟩ = some (.int .i64 x4) := by simpa [size_TaskS, Nat.add_assoc] using hu 4 _ rfl
      have e5 : wr.cell? ⟨g, o + k * 14 + 5, none⟩ = some (.int .i64 x5) := by simpa [size_TaskS, Nat.add_assoc] using hu 5 _ rfl
      have e6 : wr.cell? ⟨g, o + k * 14 + 6, none⟩ = some (.int .i64 x6) := by simpa [size_TaskS, Nat.add_assoc] using hu 6 _ rfl
      have e7 : wr.cell? ⟨g, o + k * 14 + 7, none⟩ = some (.int .i64 x7) := by simpa [size_TaskS, Nat.add_assoc] using hu 7 _ rfl
      have e8 : wr.cell? ⟨g, o + k * 14 + 8, none⟩ = some (.int .i64 x8) := by simpa [size_TaskS, Nat.add_assoc] using hu 8 _ rfl
      have e9 : wr.cell? ⟨g, o + k * 14 + 9, none⟩ = some (.int .i64 x9) := by simpa [size_TaskS, Nat.add_assoc] using hu 9 _ rfl
      have e10 : wr.cell? ⟨g, o + k * 14 + 10, none⟩ = some (.int .i64 x10) := by simpa [size_TaskS, Nat.add_assoc] using hu 10 _ rfl
      have e11 : wr.cell? ⟨g, o + k * 14 + 11, none⟩ = some (.int .i64 x11) := by simpa [size_TaskS, Nat.add_assoc] using hu 11 _ rfl
      have e12 : wr.cell? ⟨g, o + k * 14 + 12, none⟩ = some (.int .i64 x12) := by simpa [size_TaskS, Nat.add_assoc] using hu 12 _ rfl
      have e13 : wr.cell? ⟨g, o + k * 14 + 13, none⟩ = some (.slice ba M.length bc) := by simpa [size_TaskS, Nat.add_assoc] using hu 13 _ rfl
      have hi0 : (0 : Int) ≤ (k : Int) := Int.natCast_nonneg _
      have hi1 : (k : Int) < (L.length : Int) := by omega
      obtain ⟨w1, hw1⟩ : ∃ w, w = wr.alloc (.cells #[.int .i64 x0, .int .i64 x1, .int .i64 x2, .string x3, .int .i64 x4, .int .i64 x5, .int .i64 x6, .int .i64 x7, .int .i64 x8, .int .i64 x9, .int .i64 x10, .int .i64 x11, .int .i64 x12, .slice ba M.length bc] 43) := ⟨_, rfl⟩
      have hbA : Below wr.heap.size wr w1 := by rw [hw1]; exact (Below.refl _ _).alloc (Nat.le_refl _) _
      have HP1 := Lib.hid (show Blk w1 wr.heap.size 43 #[.int .i64 x0, .int .i64 x1, .int .i64 x2, .string x3, .int .i64 x4, .int .i64 x5, .int .i64 x6, .int .i64 x7, .int .i64 x8, .int .i64 x9, .int .i64 x10, .int .i64 x11, .int .i64 x12, .slice ba M.length bc] from by rw [hw1]; exact Blk.new _ _ _)
      have HB1 := Lib.hid (HB.out.trans (hbA.mono hsz))
      have HR1 := Lib.hid ((R_Task_ok.rd_below HRX.out (hbA.mono hsz) |> fun h => R_Task_ok.rd_more h (Nat.le_trans hsz hbA.size)))
      have HA1 := Lib.hid (((H.out.below R_Task_ok HB1.out).more R_Task_ok HB1.out.size).take k)
      have hTL := Lib.hid (show (L.take k).length = k from by rw [List.length_take]; omega)
      have hkc : k ≤ cap := by have h8 := H.out.1; omega
      have hTN : (L.take k).length ≤ 1048576 := by rw [hTL.out]; omega
      have HLY := Lib.hid (show ∀ y, (L.take k)[(L.take k).length - 1]? = some y → 1 ≤ tId y ∧ tId y ≤ 12 from fun y hy => by
        rw [List.getElem?_take] at hy
        split at hy
        · rename_i h5
          exact (HO.out _ y h5 hy).1.id
        · cases hy)
      have HIN := Lib.hid ((tasTo_inc HO.out hk).take (Nat.le_refl _) hk)
      have HNP := Lib.hid (show NextP (L.take k) ((x0, x1), x2, x3, x4, x5, x6, (x7, x8), x9, x10, x11, x12, M) ↔ ((k = 0 → tId ((x0, x1), x2, x3, x4, x5, x6, (x7, x8), x9, x10, x11, x12, M) = 1) ∧ ∀ y, 0 < k → L[k - 1]? = some y → NextT y ((x0, x1), x2, x3, x4, x5, x6, (x7, x8), x9, x10, x11, x12, M)) from by
        unfold NextP
        rw [hTL.out]
        refine and_congr Iff.rfl (forall_congr' fun y => ?_)
        constructor
        · intro h h1 h2; exact h h1 (by rw [List.getElem?_take, if_pos (by omega)]; exact h2)
        · intro h h1 h2; rw [List.getElem?_take, if_pos (by omega)] at h2; exact h h1 h2)
      clear hu hr hg hB hx k_M
      go_upto_region 6 with fail
      rw [← hw1]
      clear hw1 hbA e0 e1 e2 e3 e4 e5 e6 e7 e8 e9 e10 e11 e12 e13
      cases hT : taskB ((x0, x1), x2, x3, x4, x5, x6, (x7, x8), x9, x10, x11, x12, M) with
      | false =>
        have HN := Lib.hid (not_tasks HX.out fun h => by have h2 := taskB_iff.2 h.1; rw [hT] at h2; cases h2)
        have hTI := fun V (h : R_Task.rd V V.heap.size ((x0, x1), x2, x3, x4, x5, x6, (x7, x8), x9, x10, x11, x12, M) [.int .i64 x0, .int .i64 x1, .int .i64 x2, .string x3, .int .i64 x4, .int .i64 x5, .int .i64 x6, .int .i64 x7, .int .i64 x8, .int .i64 x9, .int .i64 x10, .int .i64 x11, .int .i64 x12, .slice ba M.length bc]) => taskI_w h
        rw [hT] at hTI
        clear hT
        refine wp_region_held_drew (S := (fun V => Below (w1).heap.size (w1) V)) (by kernel_rfl) ((Below.refl _ _).drew) (fun hHeld => ?_)
        refine tk 0 hHeld ?_ (hy := fun w hSw => by (try dsimp only at hSw); have k0 := (hSw.cell (p := ⟨wr.heap.size, 0, none⟩) HP1.out.lt).trans (HP1.out.at_ 0 rfl); have k1 := (hSw.cell (p := ⟨wr.heap.size, 1, none⟩) HP1.out.lt).trans (HP1.out.at_ 1 rfl); have k2 := (hSw.cell (p := ⟨wr.heap.size, 2, none⟩) HP1.out.lt).trans (HP1.out.at_ 2 rfl); have k3 := (hSw.cell (p := ⟨wr.heap.size, 3, none⟩) HP1.out.lt).trans (HP1.out.at_ 3 rfl); have k4 := (hSw.cell (p := ⟨wr.heap.size, 4, none⟩) HP1.out.lt).trans (HP1.out.at_ 4 rfl); have k5 := (hSw.cell (p := ⟨wr.heap.size, 5, none⟩) HP1.out.lt).trans (HP1.out.at_ 5 rfl); have k6 := (hSw.cell (p := ⟨wr.heap.size, 6, none⟩) HP1.out.lt).trans (HP1.out.at_ 6 rfl); have k7 := (hSw.cell (p := ⟨wr.heap.size, 7, none⟩) HP1.out.lt).trans (HP1.out.at_ 7 rfl); have k8 := (hSw.cell (p := ⟨wr.heap.size, 8, none⟩) HP1.out.lt).trans (HP1.out.at_ 8 rfl); have k9 := (hSw.cell (p := ⟨wr.heap.size, 9, none⟩) HP1.out.lt).trans (HP1.out.at_ 9 rfl); have k10 := (hSw.cell (p := ⟨wr.heap.size, 10, none⟩) HP1.out.lt).trans (HP1.out.at_ 10 rfl); have k11 := (hSw.cell (p := ⟨wr.heap.size, 11, none⟩) HP1.out.lt).trans (HP1.out.at_ 11 rfl); have k12 := (hSw.cell (p := ⟨wr.heap.size, 12, none⟩) HP1.out.lt).trans (HP1.out.at_ 12 rfl); have k13 := (hSw.cell (p := ⟨wr.heap.size, 13, none⟩) HP1.out.lt).trans (HP1.out.at_ 13 rfl); clear hSw; go_simp; try with_reducible rfl)
        refine rd1 1 (fun K hK => ?_)
        go_simp
        go_at_call 26
        refine (hTI _ (R_Task_ok.rd_more (R_Task_ok.rd_below HR1.out hHeld) hHeld.size)).mono ?_
        rintro e w2 ⟨rfl, hb⟩
        refine hK.out _ _ (hHeld.trans (hb.mono hHeld.size)) (fun hHeld => ?_)
        clear hK K hb
        refine tk 2 hHeld ?_
        refine tk 3 hHeld ?_
        refine tn 4 hHeld ?_
        refine tn 5 hHeld ?_
        refine tn 6 hHeld ?_
        refine tn 7 hHeld ?_
        refine tn 8 hHeld ?_
        refine tn 9 hHeld ?_
        refine tk 10 hHeld ?_
        refine rd0 ?_
        have HF := Lib.hid hHeld
        clear hHeld
        have HB2 := Lib.hid (HB1.out.trans (HF.out.mono HB1.out.size))
        go_wp2
        go_ret
        exact resB_no HN.out HB2.out
      | true =>
      have HT := Lib.hid (taskB_iff.1 hT)
      have hTI := fun V (h : R_Task.rd V V.heap.size ((x0, x1), x2, x3, x4, x5, x6, (x7, x8), x9, x10, x11, x12, M) [.int .i64 x0, .int .i64 x1, .int .i64 x2, .string x3, .int .i64 x4, .int .i64 x5, .int .i64 x6, .int .i64 x7, .int .i64 x8, .int .i64 x9, .int .i64 x10, .int .i64 x11, .int .i64 x12, .slice ba M.length bc]) => taskI_w h
      rw [hT] at hTI
      clear hT
      have hCM := fun V h => comes_impl (W := V) (a := some ⟨g, o, none⟩) (cap := cap) (x0 := x0) (x1 := x1) (x2 := x2) (x3 := x3) (x4 := x4) (x5 := x5) (x6 := x6) (x7 := x7) (x8 := x8) (x9 := x9) (x10 := x10) (x11 := x11) (x12 := x12) (M := M) (ba := ba) (bc := bc) hTL.out HLY.out h
      cases hN : nextB (L.take k) ((x0, x1), x2, x3, x4, x5, x6, (x7, x8), x9, x10, x11, x12, M) with
      | false =>
        have HN := Lib.hid (not_tasks HX.out fun h => by have h2 := nextB_iff.2 (HNP.out.2 ⟨h.2.1, h.2.2.1⟩); rw [hN] at h2; cases h2)
        rw [hN] at hCM
        clear hN
        refine wp_region_held_drew (S := (fun V => Below (w1).heap.size (w1) V)) (by kernel_rfl) ((Below.refl _ _).drew) (fun hHeld => ?_)
        refine tk 0 hHeld ?_ (hy := fun w hSw => by (try dsimp only at hSw); have k0 := (hSw.cell (p := ⟨wr.heap.size, 0, none⟩) HP1.out.lt).trans (HP1.out.at_ 0 rfl); have k1 := (hSw.cell (p := ⟨wr.heap.size, 1, none⟩) HP1.out.lt).trans (HP1.out.at_ 1 rfl); have k2 := (hSw.cell (p := ⟨wr.heap.size, 2, none⟩) HP1.out.lt).trans (HP1.out.at_ 2 rfl); have k3 := (hSw.cell (p := ⟨wr.heap.size, 3, none⟩) HP1.out.lt).trans (HP1.out.at_ 3 rfl); have k4 := (hSw.cell (p := ⟨wr.heap.size, 4, none⟩) HP1.out.lt).trans (HP1.out.at_ 4 rfl); have k5 := (hSw.cell (p := ⟨wr.heap.size, 5, none⟩) HP1.out.lt).trans (HP1.out.at_ 5 rfl); have k6 := (hSw.cell (p := ⟨wr.heap.size, 6, none⟩) HP1.out.lt).trans (HP1.out.at_ 6 rfl); have k7 := (hSw.cell (p := ⟨wr.heap.size, 7, none⟩) HP1.out.lt).trans (HP1.out.at_ 7 rfl); have k8 := (hSw.cell (p := ⟨wr.heap.size, 8, none⟩) HP1.out.lt).trans (HP1.out.at_ 8 rfl); have k9 := (hSw.cell (p := ⟨wr.heap.size, 9, none⟩) HP1.out.lt).trans (HP1.out.at_ 9 rfl); have k10 := (hSw.cell (p := ⟨wr.heap.size, 10, none⟩) HP1.out.lt).trans (HP1.out.at_ 10 rfl); have k11 := (hSw.cell (p := ⟨wr.heap.size, 11, none⟩) HP1.out.lt).trans (HP1.out.at_ 11 rfl); have k12 := (hSw.cell (p := ⟨wr.heap.size, 12, none⟩) HP1.out.lt).trans (HP1.out.at_ 12 rfl); have k13 := (hSw.cell (p := ⟨wr.heap.size, 13, none⟩) HP1.out.lt).trans (HP1.out.at_ 13 rfl); clear hSw; go_simp; try with_reducible rfl)
        refine rd1 1 (fun K hK => ?_)
        go_simp
        go_at_call 26
        refine (hTI _ (R_Task_ok.rd_more (R_Task_ok.rd_below HR1.out hHeld) hHeld.size)).mono ?_
        rintro e w2 ⟨rfl, hb⟩
        refine hK.out _ _ (hHeld.trans (hb.mono hHeld.size)) (fun hHeld => ?_)
        clear hK K hb
        refine tk 2 hHeld ?_
        refine tk 3 hHeld ?_
        refine tk 4 hHeld ?_
        refine tk 5 hHeld ?_
        refine tk 6 hHeld ?_
        refine tk 7 hHeld ?_ (hy := fun w hSw => by (try dsimp only at hSw); have k0 := (hSw.cell (p := ⟨wr.heap.size, 0, none⟩) HP1.out.lt).trans (HP1.out.at_ 0 rfl); have k1 := (hSw.cell (p := ⟨wr.heap.size, 1, none⟩) HP1.out.lt).trans (HP1.out.at_ 1 rfl); have k2 := (hSw.cell (p := ⟨wr.heap.size, 2, none⟩) HP1.out.lt).trans (HP1.out.at_ 2 rfl); have k3 := (hSw.cell (p := ⟨wr.heap.size, 3, none⟩) HP1.out.lt).trans (HP1.out.at_ 3 rfl); have k4 := (hSw.cell (p := ⟨wr.heap.size, 4, none⟩) HP1.out.lt).trans (HP1.out.at_ 4 rfl); have k5 := (hSw.cell (p := ⟨wr.heap.size, 5, none⟩) HP1.out.lt).trans (HP1.out.at_ 5 rfl); have k6 := (hSw.cell (p := ⟨wr.heap.size, 6, none⟩) HP1.out.lt).trans (HP1.out.at_ 6 rfl); have k7 := (hSw.cell (p := ⟨wr.heap.size, 7, none⟩) HP1.out.lt).trans (HP1.out.at_ 7 rfl); have k8 := (hSw.cell (p := ⟨wr.heap.size, 8, none⟩) HP1.out.lt).trans (HP1.out.at_ 8 rfl); have k9 := (hSw.cell (p := ⟨wr.heap.size, 9, none⟩) HP1.out.lt).trans (HP1.out.at_ 9 rfl); have k10 := (hSw.cell (p := ⟨wr.heap.size, 10, none⟩) HP1.out.lt).trans (HP1.out.at_ 10 rfl); have k11 := (hSw.cell (p := ⟨wr.heap.size, 11, none⟩) HP1.out.lt).trans (HP1.out.at_ 11 rfl); have k12 := (hSw.cell (p := ⟨wr.heap.size, 12, none⟩) HP1.out.lt).trans (HP1.out.at_ 12 rfl); have k13 := (hSw.cell (p := ⟨wr.heap.size, 13, none⟩) HP1.out.lt).trans (HP1.out.at_ 13 rfl); clear hSw; go_simp; try with_reducible rfl)
        refine rd1 8 (fun K hK => ?_)
        go_simp
        go_at_call 84
        refine (hCM _ ((HA1.out.below R_Task_ok hHeld).more R_Task_ok hHeld.size)).mono ?_
        rintro e w3 ⟨rfl, hb⟩
        refine hK.out _ _ (hHeld.trans (hb.mono hHeld.size)) (fun hHeld => ?_)
        clear hK K hb
        refine tk 9 hHeld ?_
        refine tk 10 hHeld ?_
        refine rd0 ?_
        have HF := Lib.hid hHeld
        clear hHeld
        have HB2 := Lib.hid (HB1.out.trans (HF.out.mono HB1.out.size))
        go_wp2
        go_ret
        exact resB_no HN.out HB2.out
      | true =>
      have HNX := Lib.hid (HNP.out.1 (nextB_iff.1 hN))
      rw [hN] at hCM
      clear hN
      refine wp_region_held_drew (S := (fun V => Below (w1).heap.size (w1) V)) (by kernel_rfl) ((Below.refl _ _).drew) (fun hHeld => ?_)
      refine tk 0 hHeld ?_ (hy := fun w hSw => by (try dsimp only at hSw); have k0 := (hSw.cell (p := ⟨wr.heap.size, 0, none⟩) HP1.out.lt).trans (HP1.out.at_ 0 rfl); have k1 := (hSw.cell (p := ⟨wr.heap.size, 1, none⟩) HP1.out.lt).trans (HP1.out.at_ 1 rfl); have k2 := (hSw.cell (p := ⟨wr.heap.size, 2, none⟩) HP1.out.lt).trans (HP1.out.at_ 2 rfl); have k3 := (hSw.cell (p := ⟨wr.heap.size, 3, none⟩) HP1.out.lt).trans (HP1.out.at_ 3 rfl); have k4 := (hSw.cell (p := ⟨wr.heap.size, 4, none⟩) HP1.out.lt).trans (HP1.out.at_ 4 rfl); have k5 := (hSw.cell (p := ⟨wr.heap.size, 5, none⟩) HP1.out.lt).trans (HP1.out.at_ 5 rfl); have k6 := (hSw.cell (p := ⟨wr.heap.size, 6, none⟩) HP1.out.lt).trans (HP1.out.at_ 6 rfl); have k7 := (hSw.cell (p := ⟨wr.heap.size, 7, none⟩) HP1.out.lt).trans (HP1.out.at_ 7 rfl); have k8 := (hSw.cell (p := ⟨wr.heap.size, 8, none⟩) HP1.out.lt).trans (HP1.out.at_ 8 rfl); have k9 := (hSw.cell (p := ⟨wr.heap.size, 9, none⟩) HP1.out.lt).trans (HP1.out.at_ 9 rfl); have k10 := (hSw.cell (p := ⟨wr.heap.size, 10, none⟩) HP1.out.lt).trans (HP1.out.at_ 10 rfl); have k11 := (hSw.cell (p := ⟨wr.heap.size, 11, none⟩) HP1.out.lt).trans (HP1.out.at_ 11 rfl); have k12 := (hSw.cell (p := ⟨wr.heap.size, 12, none⟩) HP1.out.lt).trans (HP1.out.at_ 12 rfl); have k13 := (hSw.cell (p := ⟨wr.heap.size, 13, none⟩) HP1.out.lt).trans (HP1.out.at_ 13 rfl); clear hSw; go_simp; try with_reducible rfl)
      refine rd1 1 (fun K hK => ?_)
      go_simp
      go_at_call 26
      refine (hTI _ (R_Task_ok.rd_more (R_Task_ok.rd_below HR1.out hHeld) hHeld.size)).mono ?_
      rintro e w2 ⟨rfl, hb⟩
      refine hK.out _ _ (hHeld.trans (hb.mono hHeld.size)) (fun hHeld => ?_)
      clear hK K hb
      refine tk 2 hHeld ?_
      refine tk 3 hHeld ?_
      refine tk 4 hHeld ?_
      refine tk 5 hHeld ?_
      refine tk 6 hHeld ?_
      refine tk 7 hHeld ?_ (hy := fun w hSw => by (try dsimp only at hSw); have k0 := (hSw.cell (p := ⟨wr.heap.size, 0, none⟩) HP1.out.lt).trans (HP1.out.at_ 0 rfl); have k1 := (hSw.cell (p := ⟨wr.heap.size, 1, none⟩) HP1.out.lt).trans (HP1.out.at_ 1 rfl); have k2 := (hSw.cell (p := ⟨wr.heap.size, 2, none⟩) HP1.out.lt).trans (HP1.out.at_ 2 rfl); have k3 := (hSw.cell (p := ⟨wr.heap.size, 3, none⟩) HP1.out.lt).trans (HP1.out.at_ 3 rfl); have k4 := (hSw.cell (p := ⟨wr.heap.size, 4, none⟩) HP1.out.lt).trans (HP1.out.at_ 4 rfl); have k5 := (hSw.cell (p := ⟨wr.heap.size, 5, none⟩) HP1.out.lt).trans (HP1.out.at_ 5 rfl); have k6 := (hSw.cell (p := ⟨wr.heap.size, 6, none⟩) HP1.out.lt).trans (HP1.out.at_ 6 rfl); have k7 := (hSw.cell (p := ⟨wr.heap.size, 7, none⟩) HP1.out.lt).trans (HP1.out.at_ 7 rfl); have k8 := (hSw.cell (p := ⟨wr.heap.size, 8, none⟩) HP1.out.lt).trans (HP1.out.at_ 8 rfl); have k9 := (hSw.cell (p := ⟨wr.heap.size, 9, none⟩) HP1.out.lt).trans (HP1.out.at_ 9 rfl); have k10 := (hSw.cell (p := ⟨wr.heap.size, 10, none⟩) HP1.out.lt).trans (HP1.out.at_ 10 rfl); have k11 := (hSw.cell (p := ⟨wr.heap.size, 11, none⟩) HP1.out.lt).trans (HP1.out.at_ 11 rfl); have k12 := (hSw.cell (p := ⟨wr.heap.size, 12, none⟩) HP1.out.lt).trans (HP1.out.at_ 12 rfl); have k13 := (hSw.cell (p := ⟨wr.heap.size, 13, none⟩) HP1.out.lt).trans (HP1.out.at_ 13 rfl); clear hSw; go_simp; try with_reducible rfl)
      refine rd1 8 (fun K hK => ?_)
      go_simp
      go_at_call 84
      refine (hCM _ ((HA1.out.below R_Task_ok hHeld).more R_Task_ok hHeld.size)).mono ?_
      rintro e w3 ⟨rfl, hb⟩
      refine hK.out _ _ (hHeld.trans (hb.mono hHeld.size)) (fun hHeld => ?_)
      clear hK K hb
      refine tk 9 hHeld ?_
      refine tk 10 hHeld ?_
      refine rd0 ?_
      have HF := Lib.hid hHeld
      clear hHeld
      have HB2 := Lib.hid (HB1.out.trans (HF.out.mono HB1.out.size))
      have HP2 := Lib.hid (HP1.out.call HF.out)
      have HA2 := Lib.hid ((HA1.out.below R_Task_ok HF.out).more R_Task_ok HF.out.size)
      clear HF
      by_cases h9 : x9 = 0
      · have h9n : (x9 != 0) = false := by simp [h9]
        have HS := Lib.hid (tasTo_step HO.out HX.out ⟨HT.out, HNX.out.1, HNX.out.2, fun h => absurd h9 h⟩)
        clear h9
        go_wp2_with fail
        refine wp_region_held_drew (S := (fun V => Below (w3).heap.size (w3) V)) (by kernel_rfl) ((Below.refl _ _).drew) (fun hHeld => ?_)
        refine tk 0 hHeld ?_
        refine tk 1 hHeld ?_ (hy := fun w hSw => by (try dsimp only at hSw); have k0 := (hSw.cell (p := ⟨wr.heap.size, 9, none⟩) HP2.out.lt).trans (HP2.out.at_ 9 rfl); clear hSw; go_simp; try with_reducible rfl)
        refine tk 2 hHeld ?_
        refine tk 3 hHeld ?_
        refine tn 4 hHeld ?_
        refine tn 5 hHeld ?_
        refine tn 6 hHeld ?_
        refine tn 7 hHeld ?_
        refine tn 8 hHeld ?_
        refine tn 9 hHeld ?_
        refine tn 10 hHeld ?_
        refine tn 11 hHeld ?_
        refine tn 12 hHeld ?_
        refine tk 13 hHeld ?_
        refine rd0 ?_
        have HF := Lib.hid hHeld
        clear hHeld
        have HB12 := Lib.hid (HB2.out.trans (HF.out.mono HB2.out.size))
        go_wp2
        go_roundw
        case rel => exact ⟨k + 1, by omega, by go_num, HS, by first | exact HB12.out | exact HB12.out.drew | exact bdrewN HB12.out _⟩
        case measure => simp [intOf]; omega
      · have h9n : (x9 != 0) = true := by simp [h9]
        have H9 := Lib.hid h9
        clear h9
        obtain ⟨b, hb9⟩ : ∃ b, decide (atT (L.take k) ((x7, x8), x9) < 0) = b := ⟨_, rfl⟩
        have HB9 := Lib.hid hb9
        go_wp2_with fail
        refine wp_region_held_drew (S := (fun V => Below (w3).heap.size (w3) V)) (by kernel_rfl) ((Below.refl _ _).drew) (fun hHeld => ?_)
        refine tk 0 hHeld ?_
        refine tk 1 hHeld ?_ (hy := fun w hSw => by (try dsimp only at hSw); have k0 := (hSw.cell (p := ⟨wr.heap.size, 9, none⟩) HP2.out.lt).trans (HP2.out.at_ 9 rfl); clear hSw; go_simp; try with_reducible rfl)
        refine tk 2 hHeld ?_
        refine tk 3 hHeld ?_
        refine tk 4 hHeld ?_
        refine tk 5 hHeld ?_
        refine tk 6 hHeld ?_
        refine tk 7 hHeld ?_
        refine tk 8 hHeld ?_ (hy := fun w hSw => by (try dsimp only at hSw); have k0 := (hSw.cell (p := ⟨wr.heap.size, 7, none⟩) HP2.out.lt).trans (HP2.out.at_ 7 rfl); have k1 := (hSw.cell (p := ⟨wr.heap.size, 8, none⟩) HP2.out.lt).trans (HP2.out.at_ 8 rfl); clear hSw; go_simp; try with_reducible rfl)
        refine tk 9 hHeld ?_
        refine tk 10 hHeld ?_ (hy := fun w hSw => by (try dsimp only at hSw); have k0 := (hSw.cell (p := ⟨wr.heap.size, 9, none⟩) HP2.out.lt).trans (HP2.out.at_ 9 rfl); clear hSw; go_simp; try with_reducible rfl)
        refine rd1 11 (fun K hK => ?_)
        go_simp
        go_at_call 85
        refine (taskat_n hTL.out hTN HIN.out ((HA2.out.below R_Task_ok hHeld).more R_Task_ok hHeld.size)).mono ?_
        rintro e w12 ⟨rfl, hb⟩
        refine hK.out _ _ (hHeld.trans (hb.mono hHeld.size)) (fun hHeld => ?_)
        clear hK K hb
        refine tk 12 hHeld ?_
        refine tk 13 hHeld ?_
        refine rd0 ?_
        have HF := Lib.hid hHeld
        clear hHeld
        have HB12 := Lib.hid (HB2.out.trans (HF.out.mono HB2.out.size))
        cases b with
        | true =>
          have HN := Lib.hid (not_tasks HX.out fun h => by have h2 := h.2.2.2 H9.out; have h3 := of_decide_eq_true HB9.out; exact absurd h2 (by show ¬ 0 ≤ atT (L.take k) ((x7, x8), x9); omega))
          go_wp2
          go_ret
          exact resB_no HN.out HB12.out
        | false =>
          have HS := Lib.hid (tasTo_step HO.out HX.out ⟨HT.out, HNX.out.1, HNX.out.2, fun _ => by have h3 := of_decide_eq_false HB9.out; show 0 ≤ atT (L.take k) ((x7, x8), x9); omega⟩)
          go_wp2
          go_roundw
          case rel => exact ⟨k + 1, by omega, by go_num, HS, by first | exact HB12.out | exact HB12.out.drew | exact bdrewN HB12.out _⟩
          case measure => simp [intOf]; omega
    · have hdl : decide ((k : Int) < (L.length : Int)) = false := decide_eq_false (by omega)
      obtain rfl : k = L.length := by omega
      have HY := Lib.hid (tasksR_all h96 HO.out)
      clear hB
      go_wp2
      go_ret
      exact resB_yes HY.out HB.out
end Go.Proofs.Ytkghodbbgehcoaa.RepC
end
