/- TasksRight of the model: a contract. -/
import Derived.Test.YtmmnkdilnlhbfaaTk
import Derived.Test.YtmmnkdilnlhbfaaTk
import Derived.Test.YtmmnkdilnlhbfaaTaA1
namespace Go.Proofs.Ytmmnkdilnlhbfaa.RepC
open Go.RowKit RowC ValC SpanC KeptC NameC
set_option linter.unusedVariables false
set_option linter.unusedSimpArgs false

theorem nextT_first {y x : D_Task} (h : ltLb (tLab y) (tLab x)) (h1 : tId x = 1) : NextT y x := .inr ⟨h, h1⟩
set_option maxRecDepth 100000 in
set_option maxHeartbeats 3200000 in
theorem tasks_spec {L : List D_Task} {a : Option Addr} {cap : Nat} {W : World} (h : RdSl R_Task W W.heap.size L a cap) :
    Calls Try.prog 22 #[.slice a L.length cap] W (IsB (tasksB L) W) := by
  refine Calls.mono ?_ fun e w' h => resB_is tasksB_iff h
  have hn : L.length ≤ 9223372036854775807 := by have h1 := h.1; have h2 := h.2.1; unfold maxLen at h2; omega
  have H := Lib.hid h
  clear h
  by_cases h96 : L.length ≤ 96
  rotate_left
  · have HN := Lib.hid (show ¬ TasksR L from fun h => h96 h.1)
    have hd : decide ((96 : Int) < (L.length : Int)) = true := decide_eq_true (by omega)
    go_enter Try.func22, Try.ntmps22
    go_wp2
    go_ret
    exact resB_no HN.out (Below.refl _ _)
  have hd : decide ((96 : Int) < (L.length : Int)) = false := decide_eq_false (by omega)
  go_enter Try.func22, Try.ntmps22
  go_wp2
  go_loopw [3] (fun i wr => ∃ k : Nat, k ≤ L.length ∧ i = .int .i64 k ∧ Hid (tasTo L k) ∧ Below W.heap.size W wr) (fun i _ => L.length - (intOf i).toNat)
  case atStart => exact ⟨0, Nat.zero_le _, rfl, Lib.hid tasTo_zero, Below.refl _ _⟩
  case round =>
    obtain ⟨k, hk, rfl, HO, hB⟩ := hrel
    have HB := Lib.hid hB
    have hsz := hB.size
    by_cases hlt : k < L.length
    · skip
      obtain ⟨⟨⟨x0, x1⟩, x2, x3, x4, x5, x6, ⟨x7, x8⟩, x9, x10, x11, x12, M⟩, hx⟩ := el_some hlt
      have HX := Lib.hid hx
      obtain ⟨g, o, us, rfl, hg, hu, hr⟩ := (H.out.below R_Task_ok hB).at_ hx
      have HRX := Lib.hid hr
      obtain ⟨ba, bc, rfl, k_M, b_x3⟩ := rd_Task hr
      have e0 : wr.cell? ⟨g, o + k * 14, none⟩ = some (.int .i64 x0) := by simpa [size_TaskS, Nat.add_assoc] using hu 0 _ rfl
      have e1 : wr.cell? ⟨g, o + k * 14 + 1, none⟩ = some (.int .i64 x1) := by simpa [size_TaskS, Nat.add_assoc] using hu 1 _ rfl
      have e2 : wr.cell? ⟨g, o + k * 14 + 2, none⟩ = some (.int .i64 x2) := by simpa [size_TaskS, Nat.add_assoc] using hu 2 _ rfl
      have e3 : wr.cell? ⟨g, o + k * 14 + 3, none⟩ = some (.string x3) := by simpa [size_TaskS, Nat.add_assoc] using hu 3 _ rfl
      have e4 : wr.cell? ⟨g, o + k * 14 + 4, none⟩ = some (.int .i64 x4) := by simpa [size_TaskS, Nat.add_assoc] using hu 4 _ rfl
      have e5 : wr.cell? ⟨g, o + k * 14 + 5, none⟩ = some (.int .i64 x5) := by simpa [size_TaskS, Nat.add_assoc] using hu 5 _ rfl
      have e6 : wr.cell? ⟨g, o + k * 14 + 6, none⟩ = some (.int .i64 x6) := by simpa [size_TaskS, Nat.add_assoc] using hu 6 _ rfl
      have e7 : wr.cell? ⟨g, o + k * 14 + 7, none⟩ = some (.int .i64 x7) := by simpa [size_TaskS, Nat.add_assoc] using hu 7 _ rfl
      have e8 : wr.cell? ⟨g, o + k * 14 + 8, none⟩ = some (.int .i64 x8) := by simpa [size_TaskS, Nat.add_assoc] using hu 8 _ rfl
      have e9 : wr.cell? ⟨g, o + k * 14 + 9, none⟩ = some (.int .i64 x9) := by simpa [size_TaskS, Nat.add_assoc] using hu 9 _ rfl
      have e10 : wr.cell? ⟨g, o + k * 14 + 10, none⟩ = some (.int .i64 x10) := by simpa [size_TaskS, Nat.add_assoc] using hu 10 _ rfl
      have e11 : wr.cell? ⟨g, o + k * 14 + 11, none⟩ = some (.int .i64 x11) := by simpa [size_TaskS, Nat.add_assoc] using hu 11 _ rfl
      have e12 : wr.cell? ⟨g, o + k * 14 + 12, none⟩ = some (.int .i64 x12) := by simpa [size_TaskS, Nat.add_assoc] using hu 12 _ rfl
      have e13 : wr.cell? ⟨g, o + k * 14 + 13, none⟩ = some (.slice ba M.length bc) := by simpa [size_TaskS, Nat.add_assoc] using hu 13 _ rfl
      have hi0 : (0 : Int) ≤ (k : Int) := Int.natCast_nonneg _
      have hi1 : (k : Int) < (L.length : Int) := by omega
      obtain ⟨w1, hw1⟩ : ∃ w, w = wr.alloc (.cells #[.int .i64 x0, .int .i64 x1, .int .i64 x2, .string x3, .int .i64 x4, .int .i64 x5, .int .i64 x6, .int .i64 x7, .int .i64 x8, .int .i64 x9, .int .i64 x10, .int .i64 x11, .int .i64 x12, .slice ba M.length bc] 54) := ⟨_, rfl⟩
      have hbA : Below wr.heap.size wr w1 := by rw [hw1]; exact (Below.refl _ _).alloc (Nat.le_refl _) _
      have HG := Lib.hid (Nat.lt_of_lt_of_le hg hsz)
      have HP1 := Lib.hid (show Blk w1 wr.heap.size 54 #[.int .i64 x0, .int .i64 x1, .int .i64 x2, .string x3, .int .i64 x4, .int .i64 x5, .int .i64 x6, .int .i64 x7, .int .i64 x8, .int .i64 x9, .int .i64 x10, .int .i64 x11, .int .i64 x12, .slice ba M.length bc] from by rw [hw1]; exact Blk.new _ _ _)
      have HB1 := Lib.hid (HB.out.trans (hbA.mono hsz))
      have HZ1 := Lib.hid hbA.size
      have q0 := HP1.out.at_ 0 rfl
      have q1 := HP1.out.at_ 1 rfl
      have q2 := HP1.out.at_ 2 rfl
      have q3 := HP1.out.at_ 3 rfl
      have q4 := HP1.out.at_ 4 rfl
      have q5 := HP1.out.at_ 5 rfl
      have q6 := HP1.out.at_ 6 rfl
      have q7 := HP1.out.at_ 7 rfl
      have q8 := HP1.out.at_ 8 rfl
      have q9 := HP1.out.at_ 9 rfl
      have q10 := HP1.out.at_ 10 rfl
      have q11 := HP1.out.at_ 11 rfl
      have q12 := HP1.out.at_ 12 rfl
      have q13 := HP1.out.at_ 13 rfl
      have HR1 := Lib.hid ((R_Task_ok.rd_below HRX.out (hbA.mono hsz) |> fun h => R_Task_ok.rd_more h (Nat.le_trans hsz hbA.size)))
      clear hu hr hg hB hx k_M
      go_wp2_with fail
      rw [← hw1]
      clear hw1 hbA e0 e1 e2 e3 e4 e5 e6 e7 e8 e9 e10 e11 e12 e13
      refine (taskS_w HR1.out).mono ?_
      rintro e w2 ⟨rfl, hb⟩
      have HB2 := Lib.hid (HB1.out.trans (hb.mono HB1.out.size))
      have HP2 := Lib.hid (HP1.out.call hb)
      have HG2 := Lib.hid (show g < w2.heap.size from Nat.lt_of_lt_of_le HG.out (Nat.le_trans HZ1.out hb.size))
      have HA2 := Lib.hid ((H.out.below R_Task_ok HB2.out).more R_Task_ok HB2.out.size)
      clear hb q0 q1 q2 q3 q4 q5 q6 q7 q8 q9 q10 q11 q12 q13
      cases hT : taskB ((x0, x1), x2, x3, x4, x5, x6, (x7, x8), x9, x10, x11, x12, M) with
      | false =>
        have HN := Lib.hid (not_tasks HX.out fun h => by have h2 := taskB_iff.2 h.1; rw [hT] at h2; cases h2)
        clear hT
        go_wp2
        go_ret
        exact resB_no HN.out HB2.out
      | true =>
      have HT := Lib.hid (taskB_iff.1 hT)
      have H1 := Lib.hid (show LabC.rB x0 x1 = true from HT.out.1)
      have hTL := Lib.hid (show (L.take k).length = k from by rw [List.length_take]; omega)
      clear hT
      by_cases hk0 : k = 0
      · have hkd : ((k : Int) == 0) = true := by simp [hk0]
        have HK0 := Lib.hid hk0
        clear hk0
        go_wp2_with fail
        refine wp_region_held_drew (S := (fun V => Below (w2).heap.size (w2) V)) (by kernel_rfl) ((Below.refl _ _).drew) (fun hHeld => ?_)
        refine tk 0 hHeld ?_
        refine tk 1 hHeld ?_
        refine tk 2 hHeld ?_
        refine tn 3 hHeld ?_
        refine tn 4 hHeld ?_
        refine tn 5 hHeld ?_
        refine tn 6 hHeld ?_
        refine tn 7 hHeld ?_
        refine tn 8 hHeld ?_
        refine tn 9 hHeld ?_
        refine tn 10 hHeld ?_
        refine tn 11 hHeld ?_
        refine tn 12 hHeld ?_
        refine tn 13 hHeld ?_
        refine tk 14 hHeld ?_
        refine tk 15 hHeld ?_
        refine rd0 ?_
        have HF := Lib.hid hHeld
        clear hHeld
        have HF9 := Lib.hid HF.out
        have HP9 := Lib.hid (HP2.out.call HF.out)
        have HB9x := Lib.hid (HB2.out.trans (HF.out.mono HB2.out.size))
        have HA9 := Lib.hid (((HA2.out.below R_Task_ok HF.out).more R_Task_ok HF.out.size).take k)
        clear HF
        by_cases hid : x2 = 1
        · have hin : (x2 != 1) = false := by simp [hid]
          have HFI := Lib.hid (show k = 0 → tId ((x0, x1), x2, x3, x4, x5, x6, (x7, x8), x9, x10, x11, x12, M) = 1 from fun _ => hid)
          have HNX := Lib.hid (show ∀ y, 0 < k → L[k - 1]? = some y → NextT y ((x0, x1), x2, x3, x4, x5, x6, (x7, x8), x9, x10, x11, x12, M) from fun y h => absurd HK0.out (by omega))
          clear hid
          go_wp2_with fail
          refine wp_region_held_drew (S := (fun V => Below (w2.drew).heap.size (w2.drew) V)) (by kernel_rfl) ((Below.refl _ _).drew) (fun hHeld => ?_)
          refine tk 0 hHeld ?_
          refine tk 1 hHeld ?_
          refine tk 2 hHeld ?_
          refine tk 3 hHeld ?_ (hy := fun w hSw => by (try dsimp only at hSw); have k0 := (hSw.cell (p := ⟨wr.heap.size, 2, none⟩) HP9.out.lt).trans (HP9.out.at_ 2 rfl); clear hSw; go_simp; try with_reducible rfl)
          refine tk 4 hHeld ?_
          refine tk 5 hHeld ?_
          refine tk 6 hHeld ?_
          refine tk 7 hHeld ?_
          refine tk 8 hHeld ?_
          refine tk 9 hHeld ?_
          refine tn 10 hHeld ?_
          refine tn 11 hHeld ?_
          refine tn 12 hHeld ?_
          refine tn 13 hHeld ?_
          refine tn 14 hHeld ?_
          refine tn 15 hHeld ?_
          refine tn 16 hHeld ?_
          refine tn 17 hHeld ?_
          refine tn 18 hHeld ?_
          refine tn 19 hHeld ?_
          refine tn 20 hHeld ?_
          refine tn 21 hHeld ?_
          refine tn 22 hHeld ?_
          refine tn 23 hHeld ?_
          refine tn 24 hHeld ?_
          refine tn 25 hHeld ?_
          refine tn 26 hHeld ?_
          refine tn 27 hHeld ?_
          refine tn 28 hHeld ?_
          refine tn 29 hHeld ?_
          refine tn 30 hHeld ?_
          refine tk 31 hHeld ?_
          refine tk 32 hHeld ?_
          refine rd0 ?_
          have HF := Lib.hid hHeld
          clear hHeld
          have HF10 := Lib.hid HF.out
          clear HF
          have HB10 := Lib.hid (HB9x.out.trans (HF10.out.mono HB9x.out.size))
          have HP10 := Lib.hid (HP9.out.call HF10.out)
          have HA10 := Lib.hid ((HA9.out.below R_Task_ok HF10.out).more R_Task_ok HF10.out.size)
          clear hin
          by_cases h9 : x9 = 0
          · have h9n : (x9 != 0) = false := by simp [h9]
            have HS := Lib.hid (tasTo_step HO.out HX.out ⟨HT.out, HFI.out, HNX.out, fun h => absurd h9 h⟩)
            clear h9
            go_wp2_with fail
            refine wp_region_held_drew (S := (fun V => Below (w2.drew.drew).heap.size (w2.drew.drew) V)) (by kernel_rfl) ((Below.refl _ _).drew) (fun hHeld => ?_)
            refine tk 0 hHeld ?_
            refine tk 1 hHeld ?_ (hy := fun w hSw => by (try dsimp only at hSw); have k0 := (hSw.cell (p := ⟨wr.heap.size, 9, none⟩) HP10.out.lt).trans (HP10.out.at_ 9 rfl); clear hSw; go_simp; try with_reducible rfl)
            refine tk 2 hHeld ?_
            refine tk 3 hHeld ?_
            refine tn 4 hHeld ?_
            refine tn 5 hHeld ?_
            refine tn 6 hHeld ?_
            refine tn 7 hHeld ?_
            refine tn 8 hHeld ?_
            refine tn 9 hHeld ?_
            refine tn 10 hHeld ?_
            refine tn 11 hHeld ?_
            refine tn 12 hHeld ?_
            refine tk 13 hHeld ?_
            refine rd0 ?_
            have HF := Lib.hid hHeld
            clear hHeld
            have HB12 := Lib.hid (HB10.out.trans (HF.out.mono HB10.out.size))
            go_wp2
            go_roundw
            case rel => exact ⟨k + 1, by omega, by go_num, HS, by first | exact HB12.out | exact HB12.out.drew | exact bdrewN HB12.out _⟩
            case measure => simp [intOf]; omega
          · have h9n : (x9 != 0) = true := by simp [h9]
            have H9 := Lib.hid h9
            clear h9
            obtain ⟨b, hb9⟩ : ∃ b, decide (atT (L.take k) ((x7, x8), x9) < 0) = b := ⟨_, rfl⟩
            have HB9 := Lib.hid hb9
            have hkc : k ≤ cap := by have h8 := H.out.1; omega
            go_wp2_with fail
            refine wp_region_held_drew (S := (fun V => Below (w2.drew.drew).heap.size (w2.drew.drew) V)) (by kernel_rfl) ((Below.refl _ _).drew) (fun hHeld => ?_)
            refine tk 0 hHeld ?_
            refine tk 1 hHeld ?_ (hy := fun w hSw => by (try dsimp only at hSw); have k0 := (hSw.cell (p := ⟨wr.heap.size, 9, none⟩) HP10.out.lt).trans (HP10.out.at_ 9 rfl); clear hSw; go_simp; try with_reducible rfl)
            refine tk 2 hHeld ?_
            refine tk 3 hHeld ?_
            refine tk 4 hHeld ?_
            refine tk 5 hHeld ?_
            refine tk 6 hHeld ?_
            refine tk 7 hHeld ?_
            refine tk 8 hHeld ?_ (hy := fun w hSw => by (try dsimp only at hSw); have k0 := (hSw.cell (p := ⟨wr.heap.size, 7, none⟩) HP10.out.lt).trans (HP10.out.at_ 7 rfl); have k1 := (hSw.cell (p := ⟨wr.heap.size, 8, none⟩) HP10.out.lt).trans (HP10.out.at_ 8 rfl); clear hSw; go_simp; try with_reducible rfl)
            refine tk 9 hHeld ?_
            refine tk 10 hHeld ?_ (hy := fun w hSw => by (try dsimp only at hSw); have k0 := (hSw.cell (p := ⟨wr.heap.size, 9, none⟩) HP10.out.lt).trans (HP10.out.at_ 9 rfl); clear hSw; go_simp; try with_reducible rfl)
            refine rd1 11 (fun K hK => ?_)
            go_simp
            go_at_call 60
            refine (at_spec (hTL.out) ((HA10.out.below R_Task_ok hHeld).more R_Task_ok hHeld.size)).mono ?_
            rintro e w12 ⟨rfl, hb⟩
            refine hK.out _ _ (hHeld.trans (hb.mono hHeld.size)) (fun hHeld => ?_)
            clear hK K hb
            refine tk 12 hHeld ?_
            refine tk 13 hHeld ?_
            refine rd0 ?_
            have HF := Lib.hid hHeld
            clear hHeld
            have HB12 := Lib.hid (HB10.out.trans (HF.out.mono HB10.out.size))
            cases b with
            | true =>
              have HN := Lib.hid (not_tasks HX.out fun h => by have h2 := h.2.2.2 H9.out; have h3 := of_decide_eq_true HB9.out; exact absurd h2 (by show ¬ 0 ≤ atT (L.take k) ((x7, x8), x9); omega))
              go_wp2
              go_ret
              exact resB_no HN.out HB12.out
            | false =>
              have HS := Lib.hid (tasTo_step HO.out HX.out ⟨HT.out, HFI.out, HNX.out, fun _ => by have h3 := of_decide_eq_false HB9.out; show 0 ≤ atT (L.take k) ((x7, x8), x9); omega⟩)
              go_wp2
              go_roundw
              case rel => exact ⟨k + 1, by omega, by go_num, HS, by first | exact HB12.out | exact HB12.out.drew | exact bdrewN HB12.out _⟩
              case measure => simp [intOf]; omega
        · have hin : (x2 != 1) = true := by simp [hid]
          have HN := Lib.hid (not_tasks HX.out fun h => hid (h.2.1 HK0.out))
          clear hid
          go_wp2_with fail
          refine wp_region_held_drew (S := (fun V => Below (w2.drew).heap.size (w2.drew) V)) (by kernel_rfl) ((Below.refl _ _).drew) (fun hHeld => ?_)
          refine tk 0 hHeld ?_
          refine tk 1 hHeld ?_
          refine tk 2 hHeld ?_
          refine tk 3 hHeld ?_ (hy := fun w hSw => by (try dsimp only at hSw); have k0 := (hSw.cell (p := ⟨wr.heap.size, 2, none⟩) HP9.out.lt).trans (HP9.out.at_ 2 rfl); clear hSw; go_simp; try with_reducible rfl)
          refine tk 4 hHeld ?_
          refine tk 5 hHeld ?_
          refine tk 6 hHeld ?_
          refine tn 7 hHeld ?_
          refine tn 8 hHeld ?_
          refine tn 9 hHeld ?_
          refine tn 10 hHeld ?_
          refine tn 11 hHeld ?_
          refine tn 12 hHeld ?_
          refine tn 13 hHeld ?_
          refine tn 14 hHeld ?_
          refine tn 15 hHeld ?_
          refine tn 16 hHeld ?_
          refine tn 17 hHeld ?_
          refine tn 18 hHeld ?_
          refine tn 19 hHeld ?_
          refine tn 20 hHeld ?_
          refine tn 21 hHeld ?_
          refine tn 22 hHeld ?_
          refine tn 23 hHeld ?_
          refine tn 24 hHeld ?_
          refine tn 25 hHeld ?_
          refine tn 26 hHeld ?_
          refine tn 27 hHeld ?_
          refine tn 28 hHeld ?_
          refine tn 29 hHeld ?_
          refine tn 30 hHeld ?_
          refine tn 31 hHeld ?_
          refine tk 32 hHeld ?_
          refine rd0 ?_
          have HF := Lib.hid hHeld
          clear hHeld
          have HF10 := Lib.hid HF.out
          clear HF
          have HB10 := Lib.hid (HB9x.out.trans (HF10.out.mono HB9x.out.size))
          go_wp2
          go_ret
          exact resB_no HN.out HB10.out
      · have hkd : ((k : Int) == 0) = false := by simp; omega
        have HK0 := Lib.hid hk0
        obtain ⟨j, hj⟩ : ∃ j, k = j + 1 := ⟨k - 1, by omega⟩
        have HJ := Lib.hid hj
        obtain ⟨⟨⟨y0, y1⟩, y2, y3, y4, y5, y6, ⟨y7, y8⟩, y9, y10, y11, y12, N⟩, hy⟩ := el_some (show j < L.length by omega)
        have HY := Lib.hid (show L[k - 1]? = some ((y0, y1), y2, y3, y4, y5, y6, (y7, y8), y9, y10, y11, y12, N) from by rw [hj, Nat.add_sub_cancel]; exact hy)
        obtain ⟨g', o', us', hgo, hg', hu', hr'⟩ := HA2.out.at_ hy
        obtain ⟨rfl, rfl⟩ : g' = g ∧ o' = o := by cases hgo; exact ⟨rfl, rfl⟩
        obtain ⟨da, dc, rfl, k_N, b_y3⟩ := rd_Task hr'
        have p0 : w2.cell? ⟨g', o' + j * 14, none⟩ = some (.int .i64 y0) := by simpa [size_TaskS, Nat.add_assoc] using hu' 0 _ rfl
        have p1 : w2.cell? ⟨g', o' + j * 14 + 1, none⟩ = some (.int .i64 y1) := by simpa [size_TaskS, Nat.add_assoc] using hu' 1 _ rfl
        have p2 : w2.cell? ⟨g', o' + j * 14 + 2, none⟩ = some (.int .i64 y2) := by simpa [size_TaskS, Nat.add_assoc] using hu' 2 _ rfl
        have hjs : (k : Int) - 1 = (j : Int) := by omega
        have hj0 : (0 : Int) ≤ (j : Int) := Int.natCast_nonneg _
        have hj1 : (j : Int) < (L.length : Int) := by omega
        have hjw : IntKind.i64.wrap (j : Int) = (j : Int) := IntWalk.i64_in _ (by omega)
        have HTY := Lib.hid ((HO.out (k - 1) _ (by omega) HY.out).1)
        have HRY := Lib.hid (show LabC.rB y0 y1 = true from HTY.out.1)
        have hy2 : 1 ≤ y2 ∧ y2 ≤ 12 := HTY.out.id
        have hyw : IntKind.i64.wrap (y2 + 1) = y2 + 1 := IntWalk.i64_in _ (by omega)
        have HFI := Lib.hid (show k = 0 → tId ((x0, x1), x2, x3, x4, x5, x6, (x7, x8), x9, x10, x11, x12, M) = 1 from fun h => absurd h HK0.out)
        have HLB := Lib.hid (show decide (8 * y0 + y1 < 8 * x0 + x1) = true ↔ ltLb (y0, y1) (x0, x1) from by
          have h1 := rB_bd HRY.out; have h2 := rB_bd H1.out
          simp only [decide_eq_true_eq]; unfold ltLb; simp only; omega)
        clear hgo hg' hu' hr' hy hj hk0 k_N
        obtain ⟨f, hf⟩ : ∃ f, decide (8 * y0 + y1 < 8 * x0 + x1) = f := ⟨_, rfl⟩
        rw [hf] at HLB
        go_wp2_with fail
        refine wp_region_held_drew (S := (fun V => Below (w2).heap.size (w2) V)) (by kernel_rfl) ((Below.refl _ _).drew) (fun hHeld => ?_)
        refine tk 0 hHeld ?_
        refine tk 1 hHeld ?_
        refine tk 2 hHeld ?_
        refine tk 3 hHeld ?_
        refine tk 4 hHeld ?_
        refine tk 5 hHeld ?_
        refine tk 6 hHeld ?_
        refine tk 7 hHeld ?_
        refine tk 8 hHeld ?_ (hy := fun w hSw => by (try dsimp only at hSw); have k0 := (hSw.cell (p := ⟨g', o' + j * 14, none⟩) HG2.out).trans p0; have k1 := (hSw.cell (p := ⟨g', o' + j * 14 + 1, none⟩) HG2.out).trans p1; clear hSw; go_simp; try with_reducible rfl)
        refine tk 10 hHeld ?_
        refine tk 11 hHeld ?_ (hy := fun w hSw => by (try dsimp only at hSw); have k0 := (hSw.cell (p := ⟨wr.heap.size, 0, none⟩) HP2.out.lt).trans (HP2.out.at_ 0 rfl); have k1 := (hSw.cell (p := ⟨wr.heap.size, 1, none⟩) HP2.out.lt).trans (HP2.out.at_ 1 rfl); clear hSw; go_simp; try with_reducible rfl)
        refine rd1 9 (fun K hK => ?_)
        go_simp
        go_at_call 59
        refine (ord_w HRY.out _).mono ?_
        rintro e w3 ⟨rfl, hb⟩
        refine hK.out _ _ (hHeld.trans (hb.mono hHeld.size)) (fun hHeld => ?_)
        clear hK K hb
        refine rd1 12 (fun K hK => ?_)
        go_simp
        go_at_call 59
        refine (ord_w H1.out _).mono ?_
        rintro e w4 ⟨rfl, hb⟩
        refine hK.out _ _ (hHeld.trans (hb.mono hHeld.size)) (fun hHeld => ?_)
        clear hK K hb
        refine tk 13 hHeld ?_
        refine tk 14 hHeld ?_
        refine tk 15 hHeld ?_
        refine rd0 ?_
        have HF := Lib.hid hHeld
        clear hHeld
        have HF9 := Lib.hid HF.out
        have HP9 := Lib.hid (HP2.out.call HF.out)
        have HB9x := Lib.hid (HB2.out.trans (HF.out.mono HB2.out.size))
        have HA9 := Lib.hid (((HA2.out.below R_Task_ok HF.out).more R_Task_ok HF.out.size).take k)
        clear HF
        have HU := Lib.hid (fun (y : D_Task) (hy : L[k - 1]? = some y) => (Option.some.inj (HY.out.symm.trans hy)))
        cases f with
        | true =>
          have HLT := Lib.hid (HLB.out.1 rfl)
          by_cases hid : x2 = 1
          · have hin : (x2 != 1) = false := by simp [hid]
            have HNX := Lib.hid (show ∀ y, 0 < k → L[k - 1]? = some y → NextT y ((x0, x1), x2, x3, x4, x5, x6, (x7, x8), x9, x10, x11, x12, M) from fun y _ hy => by rw [← HU.out y hy]; exact .inr ⟨HLT.out, hid⟩)
            clear hid
            go_wp2_with fail
            refine wp_region_held_drew (S := (fun V => Below (w4).heap.size (w4) V)) (by kernel_rfl) ((Below.refl _ _).drew) (fun hHeld => ?_)
            refine tk 0 hHeld ?_
            refine tk 1 hHeld ?_
            refine tk 2 hHeld ?_
            refine tk 3 hHeld ?_ (hy := fun w hSw => by (try dsimp only at hSw); have k0 := (hSw.cell (p := ⟨wr.heap.size, 2, none⟩) HP9.out.lt).trans (HP9.out.at_ 2 rfl); clear hSw; go_simp; try with_reducible rfl)
            refine tk 4 hHeld ?_
            refine tk 5 hHeld ?_
            refine tk 6 hHeld ?_
            refine tk 7 hHeld ?_
            refine tk 8 hHeld ?_
            refine tk 9 hHeld ?_
            refine tn 10 hHeld ?_
            refine tn 11 hHeld ?_
            refine tn 12 hHeld ?_
            refine tn 13 hHeld ?_
            refine tn 14 hHeld ?_
            refine tn 15 hHeld ?_
            refine tn 16 hHeld ?_
            refine tn 17 hHeld ?_
            refine tn 18 hHeld ?_
            refine tn 19 hHeld ?_
            refine tn 20 hHeld ?_
            refine tn 21 hHeld ?_
            refine tn 22 hHeld ?_
            refine tn 23 hHeld ?_
            refine tn 24 hHeld ?_
            refine tn 25 hHeld ?_
            refine tn 26 hHeld ?_
            refine tn 27 hHeld ?_
            refine tn 28 hHeld ?_
            refine tn 29 hHeld ?_
            refine tn 30 hHeld ?_
            refine tk 31 hHeld ?_
            refine tk 32 hHeld ?_
            refine rd0 ?_
            have HF := Lib.hid hHeld
            clear hHeld
            have HF10 := Lib.hid HF.out
            clear HF
            have HB10 := Lib.hid (HB9x.out.trans (HF10.out.mono HB9x.out.size))
            have HP10 := Lib.hid (HP9.out.call HF10.out)
            have HA10 := Lib.hid ((HA9.out.below R_Task_ok HF10.out).more R_Task_ok HF10.out.size)
            clear hin
            by_cases h9 : x9 = 0
            · have h9n : (x9 != 0) = false := by simp [h9]
              have HS := Lib.hid (tasTo_step HO.out HX.out ⟨HT.out, HFI.out, HNX.out, fun h => absurd h9 h⟩)
              clear h9
              go_wp2_with fail
              refine wp_region_held_drew (S := (fun V => Below (w4.drew).heap.size (w4.drew) V)) (by kernel_rfl) ((Below.refl _ _).drew) (fun hHeld => ?_)
              refine tk 0 hHeld ?_
              refine tk 1 hHeld ?_ (hy := fun w hSw => by (try dsimp only at hSw); have k0 := (hSw.cell (p := ⟨wr.heap.size, 9, none⟩) HP10.out.lt).trans (HP10.out.at_ 9 rfl); clear hSw; go_simp; try with_reducible rfl)
              refine tk 2 hHeld ?_
              refine tk 3 hHeld ?_
              refine tn 4 hHeld ?_
              refine tn 5 hHeld ?_
              refine tn 6 hHeld ?_
              refine tn 7 hHeld ?_
              refine tn 8 hHeld ?_
              refine tn 9 hHeld ?_
              refine tn 10 hHeld ?_
              refine tn 11 hHeld ?_
              refine tn 12 hHeld ?_
              refine tk 13 hHeld ?_
              refine rd0 ?_
              have HF := Lib.hid hHeld
              clear hHeld
              have HB12 := Lib.hid (HB10.out.trans (HF.out.mono HB10.out.size))
              go_wp2
              go_roundw
              case rel => exact ⟨k + 1, by omega, by go_num, HS, by first | exact HB12.out | exact HB12.out.drew | exact bdrewN HB12.out _⟩
              case measure => simp [intOf]; omega
            · have h9n : (x9 != 0) = true := by simp [h9]
              have H9 := Lib.hid h9
              clear h9
              obtain ⟨b, hb9⟩ : ∃ b, decide (atT (L.take k) ((x7, x8), x9) < 0) = b := ⟨_, rfl⟩
              have HB9 := Lib.hid hb9
              have hkc : k ≤ cap := by have h8 := H.out.1; omega
              go_wp2_with fail
              refine wp_region_held_drew (S := (fun V => Below (w4.drew).heap.size (w4.drew) V)) (by kernel_rfl) ((Below.refl _ _).drew) (fun hHeld => ?_)
              refine tk 0 hHeld ?_
              refine tk 1 hHeld ?_ (hy := fun w hSw => by (try dsimp only at hSw); have k0 := (hSw.cell (p := ⟨wr.heap.size, 9, none⟩) HP10.out.lt).trans (HP10.out.at_ 9 rfl); clear hSw; go_simp; try with_reducible rfl)
              refine tk 2 hHeld ?_
              refine tk 3 hHeld ?_
              refine tk 4 hHeld ?_
              refine tk 5 hHeld ?_
              refine tk 6 hHeld ?_
              refine tk 7 hHeld ?_
              refine tk 8 hHeld ?_ (hy := fun w hSw => by (try dsimp only at hSw); have k0 := (hSw.cell (p := ⟨wr.heap.size, 7, none⟩) HP10.out.lt).trans (HP10.out.at_ 7 rfl); have k1 := (hSw.cell (p := ⟨wr.heap.size, 8, none⟩) HP10.out.lt).trans (HP10.out.at_ 8 rfl); clear hSw; go_simp; try with_reducible rfl)
              refine tk 9 hHeld ?_
              refine tk 10 hHeld ?_ (hy := fun w hSw => by (try dsimp only at hSw); have k0 := (hSw.cell (p := ⟨wr.heap.size, 9, none⟩) HP10.out.lt).trans (HP10.out.at_ 9 rfl); clear hSw; go_simp; try with_reducible rfl)
              refine rd1 11 (fun K hK => ?_)
              go_simp
              go_at_call 60
              refine (at_spec (hTL.out) ((HA10.out.below R_Task_ok hHeld).more R_Task_ok hHeld.size)).mono ?_
              rintro e w12 ⟨rfl, hb⟩
              refine hK.out _ _ (hHeld.trans (hb.mono hHeld.size)) (fun hHeld => ?_)
              clear hK K hb
              refine tk 12 hHeld ?_
              refine tk 13 hHeld ?_
              refine rd0 ?_
              have HF := Lib.hid hHeld
              clear hHeld
              have HB12 := Lib.hid (HB10.out.trans (HF.out.mono HB10.out.size))
              cases b with
              | true =>
                have HN := Lib.hid (not_tasks HX.out fun h => by have h2 := h.2.2.2 H9.out; have h3 := of_decide_eq_true HB9.out; exact absurd h2 (by show ¬ 0 ≤ atT (L.take k) ((x7, x8), x9); omega))
                go_wp2
                go_ret
                exact resB_no HN.out HB12.out
              | false =>
                have HS := Lib.hid (tasTo_step HO.out HX.out ⟨HT.out, HFI.out, HNX.out, fun _ => by have h3 := of_decide_eq_false HB9.out; show 0 ≤ atT (L.take k) ((x7, x8), x9); omega⟩)
                go_wp2
                go_roundw
                case rel => exact ⟨k + 1, by omega, by go_num, HS, by first | exact HB12.out | exact HB12.out.drew | exact bdrewN HB12.out _⟩
                case measure => simp [intOf]; omega
          · have hin : (x2 != 1) = true := by simp [hid]
            have HN := Lib.hid (not_tasks HX.out fun h => by
              rcases h.2.2.1 _ (by have := HJ.out; omega) HY.out with h2 | h2
              · have h3 : ((y0, y1) : D_Label) = (x0, x1) := h2.1
                have h4 := HLT.out
                rw [h3] at h4
                exact ltLb_irrefl h4
              · exact hid h2.2)
            clear hid
            go_wp2_with fail
            refine wp_region_held_drew (S := (fun V => Below (w4).heap.size (w4) V)) (by kernel_rfl) ((Below.refl _ _).drew) (fun hHeld => ?_)
            refine tk 0 hHeld ?_
            refine tk 1 hHeld ?_
            refine tk 2 hHeld ?_
            refine tk 3 hHeld ?_ (hy := fun w hSw => by (try dsimp only at hSw); have k0 := (hSw.cell (p := ⟨wr.heap.size, 2, none⟩) HP9.out.lt).trans (HP9.out.at_ 2 rfl); clear hSw; go_simp; try with_reducible rfl)
            refine tk 4 hHeld ?_
            refine tk 5 hHeld ?_
            refine tk 6 hHeld ?_
            refine tn 7 hHeld ?_
            refine tn 8 hHeld ?_
            refine tn 9 hHeld ?_
            refine tn 10 hHeld ?_
            refine tn 11 hHeld ?_
            refine tn 12 hHeld ?_
            refine tn 13 hHeld ?_
            refine tn 14 hHeld ?_
            refine tn 15 hHeld ?_
            refine tn 16 hHeld ?_
            refine tn 17 hHeld ?_
            refine tn 18 hHeld ?_
            refine tn 19 hHeld ?_
            refine tn 20 hHeld ?_
            refine tn 21 hHeld ?_
            refine tn 22 hHeld ?_
            refine tn 23 hHeld ?_
            refine tn 24 hHeld ?_
            refine tn 25 hHeld ?_
            refine tn 26 hHeld ?_
            refine tn 27 hHeld ?_
            refine tn 28 hHeld ?_
            refine tn 29 hHeld ?_
            refine tn 30 hHeld ?_
            refine tn 31 hHeld ?_
            refine tk 32 hHeld ?_
            refine rd0 ?_
            have HF := Lib.hid hHeld
            clear hHeld
            have HF10 := Lib.hid HF.out
            clear HF
            have HB10 := Lib.hid (HB9x.out.trans (HF10.out.mono HB9x.out.size))
            go_wp2
            go_ret
            exact resB_no HN.out HB10.out
        | false =>
          have HNL := Lib.hid (show ¬ ltLb (y0, y1) (x0, x1) from fun h => by have := HLB.out.2 h; cases this)
          obtain ⟨b, hb⟩ : ∃ b, decide (((y0, y1) : Int × Int) = (x0, x1)) = b := ⟨_, rfl⟩
          have hq := neq_lab y0 y1 x0 x1 b hb
          have HQ := Lib.hid hb
          clear hb
          cases b with
          | false =>
            have HN := Lib.hid (not_tasks HX.out fun h => by
              rcases h.2.2.1 _ (by have := HJ.out; omega) HY.out with h2 | h2
              · exact of_decide_eq_false HQ.out h2.1
              · exact HNL.out h2.1)
            go_wp2_with fail
            refine wp_region_held_drew (S := (fun V => Below (w4).heap.size (w4) V)) (by kernel_rfl) ((Below.refl _ _).drew) (fun hHeld => ?_)
            refine tk 0 hHeld ?_
            refine tk 1 hHeld ?_
            refine tn 2 hHeld ?_
            refine tn 3 hHeld ?_
            refine tn 4 hHeld ?_
            refine tk 5 hHeld ?_
            refine tk 6 hHeld ?_
            refine tk 7 hHeld ?_
            refine tk 8 hHeld ?_
            refine tk 9 hHeld ?_
            refine tk 10 hHeld ?_
            refine tk 11 hHeld ?_
            refine tk 12 hHeld ?_
            refine tk 13 hHeld ?_
            refine tk 14 hHeld ?_
            refine tk 15 hHeld ?_ (hy := fun w hSw => by (try dsimp only at hSw); have k0 := (hSw.cell (p := ⟨g', o' + j * 14, none⟩) (Nat.lt_of_lt_of_le HG2.out HF9.out.size)).trans ((HF9.out.cell (p := ⟨g', o' + j * 14, none⟩) HG2.out).trans p0); have k1 := (hSw.cell (p := ⟨g', o' + j * 14 + 1, none⟩) (Nat.lt_of_lt_of_le HG2.out HF9.out.size)).trans ((HF9.out.cell (p := ⟨g', o' + j * 14 + 1, none⟩) HG2.out).trans p1); clear hSw; go_simp; try with_reducible rfl)
            refine tk 16 hHeld ?_
            refine tk 17 hHeld ?_ (hy := fun w hSw => by (try dsimp only at hSw); have k0 := (hSw.cell (p := ⟨wr.heap.size, 0, none⟩) HP9.out.lt).trans (HP9.out.at_ 0 rfl); have k1 := (hSw.cell (p := ⟨wr.heap.size, 1, none⟩) HP9.out.lt).trans (HP9.out.at_ 1 rfl); clear hSw; go_simp; try with_reducible rfl)
            refine tk 18 hHeld ?_
            refine tk 19 hHeld ?_
            refine tn 20 hHeld ?_
            refine tn 21 hHeld ?_
            refine tn 22 hHeld ?_
            refine tn 23 hHeld ?_
            refine tn 24 hHeld ?_
            refine tn 25 hHeld ?_
            refine tn 26 hHeld ?_
            refine tn 27 hHeld ?_
            refine tn 28 hHeld ?_
            refine tn 29 hHeld ?_
            refine tk 30 hHeld ?_
            refine tk 31 hHeld ?_
            refine tk 32 hHeld ?_
            refine rd0 ?_
            have HF := Lib.hid hHeld
            clear hHeld
            have HF10 := Lib.hid HF.out
            clear HF
            have HB10 := Lib.hid (HB9x.out.trans (HF10.out.mono HB9x.out.size))
            go_wp2
            go_ret
            exact resB_no HN.out HB10.out
          | true =>
            by_cases hid : y2 + 1 = x2
            · have hin : (y2 + 1 != x2) = false := by simp [hid]
              have HNX := Lib.hid (show ∀ y, 0 < k → L[k - 1]? = some y → NextT y ((x0, x1), x2, x3, x4, x5, x6, (x7, x8), x9, x10, x11, x12, M) from fun y _ hy => by rw [← HU.out y hy]; exact .inl ⟨of_decide_eq_true HQ.out, hid.symm⟩)
              clear hid
              go_wp2_with fail
              refine wp_region_held_drew (S := (fun V => Below (w4).heap.size (w4) V)) (by kernel_rfl) ((Below.refl _ _).drew) (fun hHeld => ?_)
              refine tk 0 hHeld ?_
              refine tk 1 hHeld ?_
              refine tn 2 hHeld ?_
              refine tn 3 hHeld ?_
              refine tn 4 hHeld ?_
              refine tk 5 hHeld ?_
              refine tk 6 hHeld ?_
              refine tk 7 hHeld ?_
              refine tk 8 hHeld ?_
              refine tk 9 hHeld ?_
              refine tk 10 hHeld ?_
              refine tk 11 hHeld ?_
              refine tk 12 hHeld ?_
              refine tk 13 hHeld ?_
              refine tk 14 hHeld ?_
              refine tk 15 hHeld ?_ (hy := fun w hSw => by (try dsimp only at hSw); have k0 := (hSw.cell (p := ⟨g', o' + j * 14, none⟩) (Nat.lt_of_lt_of_le HG2.out HF9.out.size)).trans ((HF9.out.cell (p := ⟨g', o' + j * 14, none⟩) HG2.out).trans p0); have k1 := (hSw.cell (p := ⟨g', o' + j * 14 + 1, none⟩) (Nat.lt_of_lt_of_le HG2.out HF9.out.size)).trans ((HF9.out.cell (p := ⟨g', o' + j * 14 + 1, none⟩) HG2.out).trans p1); clear hSw; go_simp; try with_reducible rfl)
              refine tk 16 hHeld ?_
              refine tk 17 hHeld ?_ (hy := fun w hSw => by (try dsimp only at hSw); have k0 := (hSw.cell (p := ⟨wr.heap.size, 0, none⟩) HP9.out.lt).trans (HP9.out.at_ 0 rfl); have k1 := (hSw.cell (p := ⟨wr.heap.size, 1, none⟩) HP9.out.lt).trans (HP9.out.at_ 1 rfl); clear hSw; go_simp; try with_reducible rfl)
              refine tk 18 hHeld ?_
              refine tk 19 hHeld ?_
              refine tk 20 hHeld ?_
              refine tk 21 hHeld ?_
              refine tk 22 hHeld ?_
              refine tk 23 hHeld ?_
              refine tk 24 hHeld ?_
              refine tk 25 hHeld ?_ (hy := fun w hSw => by (try dsimp only at hSw); have k0 := (hSw.cell (p := ⟨g', o' + j * 14 + 2, none⟩) (Nat.lt_of_lt_of_le HG2.out HF9.out.size)).trans ((HF9.out.cell (p := ⟨g', o' + j * 14 + 2, none⟩) HG2.out).trans p2); clear hSw; go_simp; try with_reducible rfl)
              refine tk 26 hHeld ?_
              refine tk 27 hHeld ?_
              refine tk 28 hHeld ?_ (hy := fun w hSw => by (try dsimp only at hSw); have k0 := (hSw.cell (p := ⟨wr.heap.size, 2, none⟩) HP9.out.lt).trans (HP9.out.at_ 2 rfl); clear hSw; go_simp; try with_reducible rfl)
              refine tk 29 hHeld ?_
              refine tk 30 hHeld ?_
              refine tk 31 hHeld ?_
              refine tk 32 hHeld ?_
              refine rd0 ?_
              have HF := Lib.hid hHeld
              clear hHeld
              have HF10 := Lib.hid HF.out
              clear HF
              have HB10 := Lib.hid (HB9x.out.trans (HF10.out.mono HB9x.out.size))
              have HP10 := Lib.hid (HP9.out.call HF10.out)
              have HA10 := Lib.hid ((HA9.out.below R_Task_ok HF10.out).more R_Task_ok HF10.out.size)
              clear hin
              by_cases h9 : x9 = 0
              · have h9n : (x9 != 0) = false := by simp [h9]
                have HS := Lib.hid (tasTo_step HO.out HX.out ⟨HT.out, HFI.out, HNX.out, fun h => absurd h9 h⟩)
                clear h9
                go_wp2_with fail
                refine wp_region_held_drew (S := (fun V => Below (w4.drew).heap.size (w4.drew) V)) (by kernel_rfl) ((Below.refl _ _).drew) (fun hHeld => ?_)
                refine tk 0 hHeld ?_
                refine tk 1 hHeld ?_ (hy := fun w hSw => by (try dsimp only at hSw); have k0 := (hSw.cell (p := ⟨wr.heap.size, 9, none⟩) HP10.out.lt).trans (HP10.out.at_ 9 rfl); clear hSw; go_simp; try with_reducible rfl)
                refine tk 2 hHeld ?_
                refine tk 3 hHeld ?_
                refine tn 4 hHeld ?_
                refine tn 5 hHeld ?_
                refine tn 6 hHeld ?_
                refine tn 7 hHeld ?_
                refine tn 8 hHeld ?_
                refine tn 9 hHeld ?_
                refine tn 10 hHeld ?_
                refine tn 11 hHeld ?_
                refine tn 12 hHeld ?_
                refine tk 13 hHeld ?_
                refine rd0 ?_
                have HF := Lib.hid hHeld
                clear hHeld
                have HB12 := Lib.hid (HB10.out.trans (HF.out.mono HB10.out.size))
                go_wp2
                go_roundw
                case rel => exact ⟨k + 1, by omega, by go_num, HS, by first | exact HB12.out | exact HB12.out.drew | exact bdrewN HB12.out _⟩
                case measure => simp [intOf]; omega
              · have h9n : (x9 != 0) = true := by simp [h9]
                have H9 := Lib.hid h9
                clear h9
                obtain ⟨b, hb9⟩ : ∃ b, decide (atT (L.take k) ((x7, x8), x9) < 0) = b := ⟨_, rfl⟩
                have HB9 := Lib.hid hb9
                have hkc : k ≤ cap := by have h8 := H.out.1; omega
                go_wp2_with fail
                refine wp_region_held_drew (S := (fun V => Below (w4.drew).heap.size (w4.drew) V)) (by kernel_rfl) ((Below.refl _ _).drew) (fun hHeld => ?_)
                refine tk 0 hHeld ?_
                refine tk 1 hHeld ?_ (hy := fun w hSw => by (try dsimp only at hSw); have k0 := (hSw.cell (p := ⟨wr.heap.size, 9, none⟩) HP10.out.lt).trans (HP10.out.at_ 9 rfl); clear hSw; go_simp; try with_reducible rfl)
                refine tk 2 hHeld ?_
                refine tk 3 hHeld ?_
                refine tk 4 hHeld ?_
                refine tk 5 hHeld ?_
                refine tk 6 hHeld ?_
                refine tk 7 hHeld ?_
                refine tk 8 hHeld ?_ (hy := fun w hSw => by (try dsimp only at hSw); have k0 := (hSw.cell (p := ⟨wr.heap.size, 7, none⟩) HP10.out.lt).trans (HP10.out.at_ 7 rfl); have k1 := (hSw.cell (p := ⟨wr.heap.size, 8, none⟩) HP10.out.lt).trans (HP10.out.at_ 8 rfl); clear hSw; go_simp; try with_reducible rfl)
                refine tk 9 hHeld ?_
                refine tk 10 hHeld ?_ (hy := fun w hSw => by (try dsimp only at hSw); have k0 := (hSw.cell (p := ⟨wr.heap.size, 9, none⟩) HP10.out.lt).trans (HP10.out.at_ 9 rfl); clear hSw; go_simp; try with_reducible rfl)
                refine rd1 11 (fun K hK => ?_)
                go_simp
                go_at_call 60
                refine (at_spec (hTL.out) ((HA10.out.below R_Task_ok hHeld).more R_Task_ok hHeld.size)).mono ?_
                rintro e w12 ⟨rfl, hb⟩
                refine hK.out _ _ (hHeld.trans (hb.mono hHeld.size)) (fun hHeld => ?_)
                clear hK K hb
                refine tk 12 hHeld ?_
                refine tk 13 hHeld ?_
                refine rd0 ?_
                have HF := Lib.hid hHeld
                clear hHeld
                have HB12 := Lib.hid (HB10.out.trans (HF.out.mono HB10.out.size))
                cases b with
                | true =>
                  have HN := Lib.hid (not_tasks HX.out fun h => by have h2 := h.2.2.2 H9.out; have h3 := of_decide_eq_true HB9.out; exact absurd h2 (by show ¬ 0 ≤ atT (L.take k) ((x7, x8), x9); omega))
                  go_wp2
                  go_ret
                  exact resB_no HN.out HB12.out
                | false =>
                  have HS := Lib.hid (tasTo_step HO.out HX.out ⟨HT.out, HFI.out, HNX.out, fun _ => by have h3 := of_decide_eq_false HB9.out; show 0 ≤ atT (L.take k) ((x7, x8), x9); omega⟩)
                  go_wp2
                  go_roundw
                  case rel => exact ⟨k + 1, by omega, by go_num, HS, by first | exact HB12.out | exact HB12.out.drew | exact bdrewN HB12.out _⟩
                  case measure => simp [intOf]; omega
            · have hin : (y2 + 1 != x2) = true := by simp [hid]
              have HN := Lib.hid (not_tasks HX.out fun h => by
                rcases h.2.2.1 _ (by have := HJ.out; omega) HY.out with h2 | h2
                · exact hid h2.2.symm
                · exact HNL.out h2.1)
              clear hid
              go_wp2_with fail
              refine wp_region_held_drew (S := (fun V => Below (w4).heap.size (w4) V)) (by kernel_rfl) ((Below.refl _ _).drew) (fun hHeld => ?_)
              refine tk 0 hHeld ?_
              refine tk 1 hHeld ?_
              refine tn 2 hHeld ?_
              refine tn 3 hHeld ?_
              refine tn 4 hHeld ?_
              refine tk 5 hHeld ?_
              refine tk 6 hHeld ?_
              refine tk 7 hHeld ?_
              refine tk 8 hHeld ?_
              refine tk 9 hHeld ?_
              refine tk 10 hHeld ?_
              refine tk 11 hHeld ?_
              refine tk 12 hHeld ?_
              refine tk 13 hHeld ?_
              refine tk 14 hHeld ?_
              refine tk 15 hHeld ?_ (hy := fun w hSw => by (try dsimp only at hSw); have k0 := (hSw.cell (p := ⟨g', o' + j * 14, none⟩) (Nat.lt_of_lt_of_le HG2.out HF9.out.size)).trans ((HF9.out.cell (p := ⟨g', o' + j * 14, none⟩) HG2.out).trans p0); have k1 := (hSw.cell (p := ⟨g', o' + j * 14 + 1, none⟩) (Nat.lt_of_lt_of_le HG2.out HF9.out.size)).trans ((HF9.out.cell (p := ⟨g', o' + j * 14 + 1, none⟩) HG2.out).trans p1); clear hSw; go_simp; try with_reducible rfl)
              refine tk 16 hHeld ?_
              refine tk 17 hHeld ?_ (hy := fun w hSw => by (try dsimp only at hSw); have k0 := (hSw.cell (p := ⟨wr.heap.size, 0, none⟩) HP9.out.lt).trans (HP9.out.at_ 0 rfl); have k1 := (hSw.cell (p := ⟨wr.heap.size, 1, none⟩) HP9.out.lt).trans (HP9.out.at_ 1 rfl); clear hSw; go_simp; try with_reducible rfl)
              refine tk 18 hHeld ?_
              refine tk 19 hHeld ?_
              refine tk 20 hHeld ?_
              refine tk 21 hHeld ?_
              refine tk 22 hHeld ?_
              refine tk 23 hHeld ?_
              refine tk 24 hHeld ?_
              refine tk 25 hHeld ?_ (hy := fun w hSw => by (try dsimp only at hSw); have k0 := (hSw.cell (p := ⟨g', o' + j * 14 + 2, none⟩) (Nat.lt_of_lt_of_le HG2.out HF9.out.size)).trans ((HF9.out.cell (p := ⟨g', o' + j * 14 + 2, none⟩) HG2.out).trans p2); clear hSw; go_simp; try with_reducible rfl)
              refine tk 26 hHeld ?_
              refine tk 27 hHeld ?_
              refine tk 28 hHeld ?_ (hy := fun w hSw => by (try dsimp only at hSw); have k0 := (hSw.cell (p := ⟨wr.heap.size, 2, none⟩) HP9.out.lt).trans (HP9.out.at_ 2 rfl); clear hSw; go_simp; try with_reducible rfl)
              refine tk 29 hHeld ?_
              refine tk 30 hHeld ?_
              refine tk 31 hHeld ?_
              refine tk 32 hHeld ?_
              refine rd0 ?_
              have HF := Lib.hid hHeld
              clear hHeld
              have HF10 := Lib.hid HF.out
              clear HF
              have HB10 := Lib.hid (HB9x.out.trans (HF10.out.mono HB9x.out.size))
              go_wp2
              go_ret
              exact resB_no HN.out HB10.out
    · have hdl : decide ((k : Int) < (L.length : Int)) = false := decide_eq_false (by omega)
      obtain rfl : k = L.length := by omega
      have HY := Lib.hid (tasksR_all h96 HO.out)
      clear hB
      go_wp2
      go_ret
      exact resB_yes HY.out HB.out
end Go.Proofs.Ytmmnkdilnlhbfaa.RepC
