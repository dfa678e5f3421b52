/- TasksRight of the program: a contract. -/
import Derived.Test.YtmmnkdilnlhbfaaTk
import Derived.Test.YtmmnkdilnlhbfaaTk
import Derived.Test.YtmmnkdilnlhbfaaTaGv
import Derived.Test.YtmmnkdilnlhbfaaTaR3
import Derived.Test.YtmmnkdilnlhbfaaTaB
namespace Go.Proofs.Ytmmnkdilnlhbfaa.RepC
open Go.RowKit RowC ValC SpanC KeptC NameC SortC
set_option linter.unusedVariables false
set_option linter.unusedSimpArgs false

def NextP (L : List D_Task) (x : D_Task) : Prop := (L.length = 0 → tId x = 1) ∧ ∀ y, 0 < L.length → L[L.length - 1]? = some y → NextT y x
open Classical in
noncomputable def nextB (L : List D_Task) (x : D_Task) : Bool := decide (NextP L x)
open Classical in
theorem nextB_iff {L : List D_Task} {x : D_Task} : nextB L x = true ↔ NextP L x := by unfold nextB; simp
theorem next_is {L : List D_Task} {x : D_Task} {b : Bool} (h : b = true ↔ NextP L x) : nextB L x = b := by
  cases b <;> cases hn : nextB L x
  · rfl
  · exact absurd (h.2 (nextB_iff.1 hn)) (by decide)
  · exact absurd (nextB_iff.2 (h.1 rfl)) (by rw [hn]; decide)
  · rfl
set_option maxRecDepth 100000 in
set_option maxHeartbeats 3200000 in
theorem comes_impl {L : List D_Task} {n : Nat} {a : Option Addr} {cap : Nat} {x0 x1 x2 : Int} {x3 : ByteArray} {x4 x5 x6 x7 x8 x9 x10 x11 x12 : Int} {M : List Int} {ba : Option Addr} {bc : Nat} {W : World} (hLn : L.length = n) (hid : ∀ y, L[L.length - 1]? = some y → 1 ≤ tId y ∧ tId y ≤ 12) (h : RdSl R_Task W W.heap.size L a cap) :
    Calls Try.prog 62 #[.slice a n cap, .agg #[.int .i64 x0, .int .i64 x1, .int .i64 x2, .string x3, .int .i64 x4, .int .i64 x5, .int .i64 x6, .int .i64 x7, .int .i64 x8, .int .i64 x9, .int .i64 x10, .int .i64 x11, .int .i64 x12, .slice ba M.length bc]] W fun e w' => e = .returned (.bool (nextB L ((x0, x1), x2, x3, x4, x5, x6, (x7, x8), x9, x10, x11, x12, M))) ∧ Below W.heap.size W w' := by
  subst hLn
  have hn : L.length ≤ 9223372036854775807 := by have h1 := h.1; have h2 := h.2.1; unfold maxLen at h2; omega
  have H := Lib.hid h
  have HID := Lib.hid hid
  clear h hid
  obtain ⟨wo, hwo⟩ : ∃ w, w = W.alloc (.cells #[.int .i64 x0, .int .i64 x1, .int .i64 x2, .string x3, .int .i64 x4, .int .i64 x5, .int .i64 x6, .int .i64 x7, .int .i64 x8, .int .i64 x9, .int .i64 x10, .int .i64 x11, .int .i64 x12, .slice ba M.length bc] 54) := ⟨_, rfl⟩
  have HB0 := Lib.hid (show Below W.heap.size W wo from by rw [hwo]; exact (Below.refl _ _).alloc (Nat.le_refl _) _)
  have HP0 := Lib.hid (show Blk wo W.heap.size 54 #[.int .i64 x0, .int .i64 x1, .int .i64 x2, .string x3, .int .i64 x4, .int .i64 x5, .int .i64 x6, .int .i64 x7, .int .i64 x8, .int .i64 x9, .int .i64 x10, .int .i64 x11, .int .i64 x12, .slice ba M.length bc] from by rw [hwo]; exact Blk.new _ _ _)
  have HA0 := Lib.hid ((H.out.below R_Task_ok HB0.out).more R_Task_ok HB0.out.size)
  by_cases h0 : L.length = 0
  · have hd : ((L.length : Int) == 0) = true := by simp [h0]
    obtain ⟨b, hb⟩ : ∃ b, (x2 == 1) = b := ⟨_, rfl⟩
    have HE := Lib.hid (show nextB L ((x0, x1), x2, x3, x4, x5, x6, (x7, x8), x9, x10, x11, x12, M) = b from next_is (by
      rw [← hb, beq_iff_eq]
      exact ⟨fun h => ⟨fun _ => h, fun y h2 => by omega⟩, fun h => h.1 h0⟩))
    rw [hwo] at HB0
    clear hwo h0 HP0 HA0
    go_enter Try.func62, Try.ntmps62
    go_wp2
    go_ret
    exact ⟨by rw [HE.out]; rfl, HB0.out⟩
  · have hd : ((L.length : Int) == 0) = false := by simp; exact fun h => h0 (by simp [h])
    obtain ⟨j, hj⟩ : ∃ j, L.length = j + 1 := ⟨L.length - 1, by omega⟩
    obtain ⟨⟨⟨y0, y1⟩, y2, y3, y4, y5, y6, ⟨y7, y8⟩, y9, y10, y11, y12, N⟩, hy⟩ := el_some (show j < L.length by omega)
    have HY := Lib.hid (show L[L.length - 1]? = some ((y0, y1), y2, y3, y4, y5, y6, (y7, y8), y9, y10, y11, y12, N) from by rw [hj, Nat.add_sub_cancel]; exact hy)
    have hjs : (L.length : Int) - 1 = (j : Int) := by omega
    have hj0 : (0 : Int) ≤ (j : Int) := Int.natCast_nonneg _
    have hj1 : (j : Int) < (L.length : Int) := by omega
    have hjw : IntKind.i64.wrap (j : Int) = (j : Int) := IntWalk.i64_in _ (by omega)
    obtain ⟨g, o, us, rfl, hg, hu, hr⟩ := HA0.out.at_ hy
    obtain ⟨da, dc, rfl, k_N, b_y3⟩ := rd_Task hr
    have e0 : wo.cell? ⟨g, o + j * 14, none⟩ = some (.int .i64 y0) := by simpa [size_TaskS, Nat.add_assoc] using hu 0 _ rfl
    have e1 : wo.cell? ⟨g, o + j * 14 + 1, none⟩ = some (.int .i64 y1) := by simpa [size_TaskS, Nat.add_assoc] using hu 1 _ rfl
    have e2 : wo.cell? ⟨g, o + j * 14 + 2, none⟩ = some (.int .i64 y2) := by simpa [size_TaskS, Nat.add_assoc] using hu 2 _ rfl
    have e3 : wo.cell? ⟨g, o + j * 14 + 3, none⟩ = some (.string y3) := by simpa [size_TaskS, Nat.add_assoc] using hu 3 _ rfl
    have e4 : wo.cell? ⟨g, o + j * 14 + 4, none⟩ = some (.int .i64 y4) := by simpa [size_TaskS, Nat.add_assoc] using hu 4 _ rfl
    have e5 : wo.cell? ⟨g, o + j * 14 + 5, none⟩ = some (.int .i64 y5) := by simpa [size_TaskS, Nat.add_assoc] using hu 5 _ rfl
    have e6 : wo.cell? ⟨g, o + j * 14 + 6, none⟩ = some (.int .i64 y6) := by simpa [size_TaskS, Nat.add_assoc] using hu 6 _ rfl
    have e7 : wo.cell? ⟨g, o + j * 14 + 7, none⟩ = some (.int .i64 y7) := by simpa [size_TaskS, Nat.add_assoc] using hu 7 _ rfl
    have e8 : wo.cell? ⟨g, o + j * 14 + 8, none⟩ = some (.int .i64 y8) := by simpa [size_TaskS, Nat.add_assoc] using hu 8 _ rfl
    have e9 : wo.cell? ⟨g, o + j * 14 + 9, none⟩ = some (.int .i64 y9) := by simpa [size_TaskS, Nat.add_assoc] using hu 9 _ rfl
    have e10 : wo.cell? ⟨g, o + j * 14 + 10, none⟩ = some (.int .i64 y10) := by simpa [size_TaskS, Nat.add_assoc] using hu 10 _ rfl
    have e11 : wo.cell? ⟨g, o + j * 14 + 11, none⟩ = some (.int .i64 y11) := by simpa [size_TaskS, Nat.add_assoc] using hu 11 _ rfl
    have e12 : wo.cell? ⟨g, o + j * 14 + 12, none⟩ = some (.int .i64 y12) := by simpa [size_TaskS, Nat.add_assoc] using hu 12 _ rfl
    have e13 : wo.cell? ⟨g, o + j * 14 + 13, none⟩ = some (.slice da N.length dc) := by simpa [size_TaskS, Nat.add_assoc] using hu 13 _ rfl
    have hy2 : 1 ≤ y2 ∧ y2 ≤ 12 := HID.out _ HY.out
    have hyw : IntKind.i64.wrap (y2 + 1) = y2 + 1 := IntWalk.i64_in _ (by omega)
    have HL0 := Lib.hid h0
    have HU := Lib.hid (fun (y : D_Task) (hy : L[L.length - 1]? = some y) => (Option.some.inj (HY.out.symm.trans hy)))
    obtain ⟨w1, hw1⟩ : ∃ w, w = wo.alloc (.cells #[.int .i64 y0, .int .i64 y1, .int .i64 y2, .string y3, .int .i64 y4, .int .i64 y5, .int .i64 y6, .int .i64 y7, .int .i64 y8, .int .i64 y9, .int .i64 y10, .int .i64 y11, .int .i64 y12, .slice da N.length dc] 54) := ⟨_, rfl⟩
    have hb1 : Below wo.heap.size wo w1 := by rw [hw1]; exact (Below.refl _ _).alloc (Nat.le_refl _) _
    have HB1 := Lib.hid (HB0.out.trans (hb1.mono HB0.out.size))
    have HPX := Lib.hid (HP0.out.call hb1)
    have HPY := Lib.hid (show Blk w1 wo.heap.size 54 #[.int .i64 y0, .int .i64 y1, .int .i64 y2, .string y3, .int .i64 y4, .int .i64 y5, .int .i64 y6, .int .i64 y7, .int .i64 y8, .int .i64 y9, .int .i64 y10, .int .i64 y11, .int .i64 y12, .slice da N.length dc] from by rw [hw1]; exact Blk.new _ _ _)
    have a0 := HPX.out.at_ 0 rfl
    have a1 := HPX.out.at_ 1 rfl
    have a2 := HPX.out.at_ 2 rfl
    have c0 := HPY.out.at_ 0 rfl
    have c1 := HPY.out.at_ 1 rfl
    have c2 := HPY.out.at_ 2 rfl
    obtain ⟨b, hb⟩ : ∃ b, decide (((x0, x1) : Int × Int) = (y0, y1)) = b := ⟨_, rfl⟩
    have hq := eql_lab x0 x1 y0 y1 b hb
    have HQ := Lib.hid hb
    clear hb hy hg hu hr k_N hb1 h0 hj
    cases b with
    | true =>
      obtain ⟨c, hc⟩ : ∃ c, (x2 == y2 + 1) = c := ⟨_, rfl⟩
      have HE := Lib.hid (show nextB L ((x0, x1), x2, x3, x4, x5, x6, (x7, x8), x9, x10, x11, x12, M) = c from next_is (by
        rw [← hc, beq_iff_eq]
        have e : ((x0, x1) : D_Label) = (y0, y1) := of_decide_eq_true HQ.out
        refine ⟨fun h => ⟨fun h2 => absurd h2 HL0.out, fun y _ hy => by rw [← HU.out y hy]; exact .inl ⟨e.symm, h⟩⟩, fun h => ?_⟩
        rcases h.2 _ (by have := HL0.out; omega) HY.out with h2 | h2
        · exact h2.2
        · have h3 : ltLb (y0, y1) (x0, x1) := h2.1
          rw [e] at h3
          exact absurd h3 ltLb_irrefl))
      go_enter Try.func62, Try.ntmps62
      go_upto_region 1 with fail
      rw [← hwo]
      clear hwo
      go_upto_region 4 with fail
      rw [← hw1]
      clear hw1 e0 e1 e2 e3 e4 e5 e6 e7 e8 e9 e10 e11 e12 e13
      go_wp2
      go_ret
      exact ⟨by rw [HE.out]; rfl, HB1.out⟩
    | false =>
      obtain ⟨r, hr9⟩ : ∃ r, labI y0 y1 x0 x1 = r := ⟨_, rfl⟩
      have hC := fun V => bylab_w y0 y1 x0 x1 V
      rw [hr9] at hC
      have HRL := Lib.hid (show r < 0 ↔ ltLb (y0, y1) (x0, x1) from by
        rcases labI3 y0 y1 x0 x1 with ⟨e1, h1⟩ | ⟨e1, h1⟩ | ⟨e1, h1⟩
        · rw [← hr9, e1]; simp [h1]
        · exact absurd h1.symm (of_decide_eq_false HQ.out)
        · rw [← hr9, e1]
          exact ⟨fun h => by omega, fun h => absurd (ltLb_trans h h1) ltLb_irrefl⟩)
      obtain ⟨f, hf⟩ : ∃ f, decide (r < 0) = f := ⟨_, rfl⟩
      obtain ⟨c, hc⟩ : ∃ c, (x2 == 1) = c := ⟨_, rfl⟩
      have HE := Lib.hid (show nextB L ((x0, x1), x2, x3, x4, x5, x6, (x7, x8), x9, x10, x11, x12, M) = (f && c) from next_is (by
        rw [← hf, ← hc]
        simp only [Bool.and_eq_true, decide_eq_true_eq, beq_iff_eq]
        refine ⟨fun h => ⟨fun h2 => absurd h2 HL0.out, fun y _ hy => by rw [← HU.out y hy]; exact .inr ⟨HRL.out.1 h.1, h.2⟩⟩, fun h => ?_⟩
        rcases h.2 _ (by have := HL0.out; omega) HY.out with h2 | h2
        · exact absurd h2.1.symm (of_decide_eq_false HQ.out)
        · exact ⟨HRL.out.2 h2.1, h2.2⟩))
      clear hr9
      go_enter Try.func62, Try.ntmps62
      go_upto_region 1 with fail
      rw [← hwo]
      clear hwo
      go_upto_region 4 with fail
      rw [← hw1]
      clear hw1 e0 e1 e2 e3 e4 e5 e6 e7 e8 e9 e10 e11 e12 e13
      go_wp2_with fail
      refine (hC _).mono ?_
      rintro e w2 ⟨rfl, hb⟩
      have HB2 := Lib.hid (HB1.out.trans (hb.mono HB1.out.size))
      have HPX2 := Lib.hid (HPX.out.call hb)
      clear hb a0 a1 a2 c0 c1 c2
      have a2 := HPX2.out.at_ 2 rfl
      cases f with
      | false =>
        go_wp2
        go_ret
        exact ⟨by rw [HE.out]; rfl, HB2.out⟩
      | true =>
        go_wp2
        go_ret
        exact ⟨by rw [HE.out]; rfl, HB2.out⟩
theorem taskat_n {L : List D_Task} {n : Nat} {a : Option Addr} {cap : Nat} {y0 y1 y2 : Int} {W : World} (hLn : L.length = n) (hn : L.length ≤ 1048576) (hI : IncT L L.length) (h : RdSl R_Task W W.heap.size L a cap) :
    Calls Try.prog 63 #[.slice a n cap, .agg #[.int .i64 y0, .int .i64 y1], .int .i64 y2] W fun e w' => e = .returned (.int .i64 (atT L ((y0, y1), y2))) ∧ Below W.heap.size W w' := by
  subst hLn
  exact taskat_impl hn hI h
set_option maxRecDepth 100000 in
set_option maxHeartbeats 3200000 in
theorem tasks_impl {L : List D_Task} {a : Option Addr} {cap : Nat} {W : World} (h : RdSl R_Task W W.heap.size L a cap) :
    Calls Try.prog 24 #[.slice a L.length cap] W (IsB (tasksB L) W) := by
  refine Calls.mono ?_ fun e w' h => resB_is tasksB_iff h
  have hn : L.length ≤ 9223372036854775807 := by have h1 := h.1; have h2 := h.2.1; unfold maxLen at h2; omega
  have H := Lib.hid h
  clear h
  by_cases h96 : L.length ≤ 96
  rotate_left
  · have HN := Lib.hid (show ¬ TasksR L from fun h => h96 h.1)
    have hd : decide ((96 : Int) < (L.length : Int)) = true := decide_eq_true (by omega)
    go_enter Try.func24, Try.ntmps24
    go_wp2
    go_ret
    exact resB_no HN.out (Below.refl _ _)
  have hd : decide ((96 : Int) < (L.length : Int)) = false := decide_eq_false (by omega)
  go_enter Try.func24, Try.ntmps24
  go_wp2
  go_loopw [10] (fun i wr => ∃ k : Nat, k ≤ L.length ∧ i = .int .i64 k ∧ Hid (tasTo L k) ∧ Below W.heap.size W wr) (fun i _ => L.length - (intOf i).toNat)
  case atStart => exact ⟨0, Nat.zero_le _, rfl, Lib.hid tasTo_zero, Below.refl _ _⟩
  case round =>
    obtain ⟨k, hk, rfl, HO, hB⟩ := hrel
    have HB := Lib.hid hB
    have hsz := hB.size
    by_cases hlt : k < L.length
    · skip
      obtain ⟨⟨⟨x0, x1⟩, x2, x3, x4, x5, x6, ⟨x7, x8⟩, x9, x10, x11, x12, M⟩, hx⟩ := el_some hlt
      have HX := Lib.hid hx
      obtain ⟨g, o, us, rfl, hg, hu, hr⟩ := (H.out.below R_Task_ok hB).at_ hx
      have HRX := Lib.hid hr
      obtain ⟨ba, bc, rfl, k_M, b_x3⟩ := rd_Task hr
      have e0 : wr.cell? ⟨g, o + k * 14, none⟩ = some (.int .i64 x0) := by simpa [size_TaskS, Nat.add_assoc] using hu 0 _ rfl
      have e1 : wr.cell? ⟨g, o + k * 14 + 1, none⟩ = some (.int .i64 x1) := by simpa [size_TaskS, Nat.add_assoc] using hu 1 _ rfl
      have e2 : wr.cell? ⟨g, o + k * 14 + 2, none⟩ = some (.int .i64 x2) := by simpa [size_TaskS, Nat.add_assoc] using hu 2 _ rfl
      have e3 : wr.cell? ⟨g, o + k * 14 + 3, none⟩ = some (.string x3) := by simpa [size_TaskS, Nat.add_assoc] using hu 3 _ rfl
      have e4 : wr.cell? ⟨g, o + k * 14 + 4, none⟩ = some (.int .i64 x4) := by simpa [size_TaskS, Nat.add_assoc] using hu 4 _ rfl
      have e5 : wr.cell? ⟨g, o + k * 14 + 5, none⟩ = some (.int .i64 x5) := by simpa [size_TaskS, Nat.add_assoc] using hu 5 _ rfl
      have e6 : wr.cell? ⟨g, o + k * 14 + 6, none⟩ = some (.int .i64 x6) := by simpa [size_TaskS, Nat.add_assoc] using hu 6 _ rfl
      have e7 : wr.cell? ⟨g, o + k * 14 + 7, none⟩ = some (.int .i64 x7) := by simpa [size_TaskS, Nat.add_assoc] using hu 7 _ rfl
      have e8 : wr.cell? ⟨g, o + k * 14 + 8, none⟩ = some (.int .i64 x8) := by simpa [size_TaskS, Nat.add_assoc] using hu 8 _ rfl
      have e9 : wr.cell? ⟨g, o + k * 14 + 9, none⟩ = some (.int .i64 x9) := by simpa [size_TaskS, Nat.add_assoc] using hu 9 _ rfl
      have e10 : wr.cell? ⟨g, o + k * 14 + 10, none⟩ = some (.int .i64 x10) := by simpa [size_TaskS, Nat.add_assoc] using hu 10 _ rfl
      have e11 : wr.cell? ⟨g, o + k * 14 + 11, none⟩ = some (.int .i64 x11) := by simpa [size_TaskS, Nat.add_assoc] using hu 11 _ rfl
      have e12 : wr.cell? ⟨g, o + k * 14 + 12, none⟩ = some (.int .i64 x12) := by simpa [size_TaskS, Nat.add_assoc] using hu 12 _ rfl
      have e13 : wr.cell? ⟨g, o + k * 14 + 13, none⟩ = some (.slice ba M.length bc) := by simpa [size_TaskS, Nat.add_assoc] using hu 13 _ rfl
      have hi0 : (0 : Int) ≤ (k : Int) := Int.natCast_nonneg _
      have hi1 : (k : Int) < (L.length : Int) := by omega
      obtain ⟨w1, hw1⟩ : ∃ w, w = wr.alloc (.cells #[.int .i64 x0, .int .i64 x1, .int .i64 x2, .string x3, .int .i64 x4, .int .i64 x5, .int .i64 x6, .int .i64 x7, .int .i64 x8, .int .i64 x9, .int .i64 x10, .int .i64 x11, .int .i64 x12, .slice ba M.length bc] 54) := ⟨_, rfl⟩
      have hbA : Below wr.heap.size wr w1 := by rw [hw1]; exact (Below.refl _ _).alloc (Nat.le_refl _) _
      have HP1 := Lib.hid (show Blk w1 wr.heap.size 54 #[.int .i64 x0, .int .i64 x1, .int .i64 x2, .string x3, .int .i64 x4, .int .i64 x5, .int .i64 x6, .int .i64 x7, .int .i64 x8, .int .i64 x9, .int .i64 x10, .int .i64 x11, .int .i64 x12, .slice ba M.length bc] from by rw [hw1]; exact Blk.new _ _ _)
      have HB1 := Lib.hid (HB.out.trans (hbA.mono hsz))
      have HR1 := Lib.hid ((R_Task_ok.rd_below HRX.out (hbA.mono hsz) |> fun h => R_Task_ok.rd_more h (Nat.le_trans hsz hbA.size)))
      have HA1 := Lib.hid (((H.out.below R_Task_ok HB1.out).more R_Task_ok HB1.out.size).take k)
      have hTL := Lib.hid (show (L.take k).length = k from by rw [List.length_take]; omega)
      have hkc : k ≤ cap := by have h8 := H.out.1; omega
      have hTN : (L.take k).length ≤ 1048576 := by rw [hTL.out]; omega
      have HLY := Lib.hid (show ∀ y, (L.take k)[(L.take k).length - 1]? = some y → 1 ≤ tId y ∧ tId y ≤ 12 from fun y hy => by
        rw [List.getElem?_take] at hy
        split at hy
        · rename_i h5
          exact (HO.out _ y h5 hy).1.id
        · cases hy)
      have HIN := Lib.hid ((tasTo_inc HO.out hk).take (Nat.le_refl _) hk)
      have HNP := Lib.hid (show NextP (L.take k) ((x0, x1), x2, x3, x4, x5, x6, (x7, x8), x9, x10, x11, x12, M) ↔ ((k = 0 → tId ((x0, x1), x2, x3, x4, x5, x6, (x7, x8), x9, x10, x11, x12, M) = 1) ∧ ∀ y, 0 < k → L[k - 1]? = some y → NextT y ((x0, x1), x2, x3, x4, x5, x6, (x7, x8), x9, x10, x11, x12, M)) from by
        unfold NextP
        rw [hTL.out]
        refine and_congr Iff.rfl (forall_congr' fun y => ?_)
        constructor
        · intro h h1 h2; exact h h1 (by rw [List.getElem?_take, if_pos (by omega)]; exact h2)
        · intro h h1 h2; rw [List.getElem?_take, if_pos (by omega)] at h2; exact h h1 h2)
      clear hu hr hg hB hx k_M
      go_upto_region 6 with fail
      rw [← hw1]
      clear hw1 hbA e0 e1 e2 e3 e4 e5 e6 e7 e8 e9 e10 e11 e12 e13
      cases hT : taskB ((x0, x1), x2, x3, x4, x5, x6, (x7, x8), x9, x10, x11, x12, M) with
      | false =>
        have HN := Lib.hid (not_tasks HX.out fun h => by have h2 := taskB_iff.2 h.1; rw [hT] at h2; cases h2)
        have hTI := fun V (h : R_Task.rd V V.heap.size ((x0, x1), x2, x3, x4, x5, x6, (x7, x8), x9, x10, x11, x12, M) [.int .i64 x0, .int .i64 x1, .int .i64 x2, .string x3, .int .i64 x4, .int .i64 x5, .int .i64 x6, .int .i64 x7, .int .i64 x8, .int .i64 x9, .int .i64 x10, .int .i64 x11, .int .i64 x12, .slice ba M.length bc]) => taskI_w h
        rw [hT] at hTI
        clear hT
        refine wp_region_held_drew (S := (fun V => Below (w1).heap.size (w1) V)) (by kernel_rfl) ((Below.refl _ _).drew) (fun hHeld => ?_)
        refine tk 0 hHeld ?_ (hy := fun w hSw => by (try dsimp only at hSw); have k0 := (hSw.cell (p := ⟨wr.heap.size, 0, none⟩) HP1.out.lt).trans (HP1.out.at_ 0 rfl); have k1 := (hSw.cell (p := ⟨wr.heap.size, 1, none⟩) HP1.out.lt).trans (HP1.out.at_ 1 rfl); have k2 := (hSw.cell (p := ⟨wr.heap.size, 2, none⟩) HP1.out.lt).trans (HP1.out.at_ 2 rfl); have k3 := (hSw.cell (p := ⟨wr.heap.size, 3, none⟩) HP1.out.lt).trans (HP1.out.at_ 3 rfl); have k4 := (hSw.cell (p := ⟨wr.heap.size, 4, none⟩) HP1.out.lt).trans (HP1.out.at_ 4 rfl); have k5 := (hSw.cell (p := ⟨wr.heap.size, 5, none⟩) HP1.out.lt).trans (HP1.out.at_ 5 rfl); have k6 := (hSw.cell (p := ⟨wr.heap.size, 6, none⟩) HP1.out.lt).trans (HP1.out.at_ 6 rfl); have k7 := (hSw.cell (p := ⟨wr.heap.size, 7, none⟩) HP1.out.lt).trans (HP1.out.at_ 7 rfl); have k8 := (hSw.cell (p := ⟨wr.heap.size, 8, none⟩) HP1.out.lt).trans (HP1.out.at_ 8 rfl); have k9 := (hSw.cell (p := ⟨wr.heap.size, 9, none⟩) HP1.out.lt).trans (HP1.out.at_ 9 rfl); have k10 := (hSw.cell (p := ⟨wr.heap.size, 10, none⟩) HP1.out.lt).trans (HP1.out.at_ 10 rfl); have k11 := (hSw.cell (p := ⟨wr.heap.size, 11, none⟩) HP1.out.lt).trans (HP1.out.at_ 11 rfl); have k12 := (hSw.cell (p := ⟨wr.heap.size, 12, none⟩) HP1.out.lt).trans (HP1.out.at_ 12 rfl); have k13 := (hSw.cell (p := ⟨wr.heap.size, 13, none⟩) HP1.out.lt).trans (HP1.out.at_ 13 rfl); clear hSw; go_simp; try with_reducible rfl)
        refine rd1 1 (fun K hK => ?_)
        go_simp
        go_at_call 61
        refine (hTI _ (R_Task_ok.rd_more (R_Task_ok.rd_below HR1.out hHeld) hHeld.size)).mono ?_
        rintro e w2 ⟨rfl, hb⟩
        refine hK.out _ _ (hHeld.trans (hb.mono hHeld.size)) (fun hHeld => ?_)
        clear hK K hb
        refine tk 2 hHeld ?_
        refine tk 3 hHeld ?_
        refine tn 4 hHeld ?_
        refine tn 5 hHeld ?_
        refine tn 6 hHeld ?_
        refine tn 7 hHeld ?_
        refine tn 8 hHeld ?_
        refine tn 9 hHeld ?_
        refine tk 10 hHeld ?_
        refine rd0 ?_
        have HF := Lib.hid hHeld
        clear hHeld
        have HB2 := Lib.hid (HB1.out.trans (HF.out.mono HB1.out.size))
        go_wp2
        go_ret
        exact resB_no HN.out HB2.out
      | true =>
      have HT := Lib.hid (taskB_iff.1 hT)
      have hTI := fun V (h : R_Task.rd V V.heap.size ((x0, x1), x2, x3, x4, x5, x6, (x7, x8), x9, x10, x11, x12, M) [.int .i64 x0, .int .i64 x1, .int .i64 x2, .string x3, .int .i64 x4, .int .i64 x5, .int .i64 x6, .int .i64 x7, .int .i64 x8, .int .i64 x9, .int .i64 x10, .int .i64 x11, .int .i64 x12, .slice ba M.length bc]) => taskI_w h
      rw [hT] at hTI
      clear hT
      have hCM := fun V h => comes_impl (W := V) (a := some ⟨g, o, none⟩) (cap := cap) (x0 := x0) (x1 := x1) (x2 := x2) (x3 := x3) (x4 := x4) (x5 := x5) (x6 := x6) (x7 := x7) (x8 := x8) (x9 := x9) (x10 := x10) (x11 := x11) (x12 := x12) (M := M) (ba := ba) (bc := bc) hTL.out HLY.out h
      cases hN : nextB (L.take k) ((x0, x1), x2, x3, x4, x5, x6, (x7, x8), x9, x10, x11, x12, M) with
      | false =>
        have HN := Lib.hid (not_tasks HX.out fun h => by have h2 := nextB_iff.2 (HNP.out.2 ⟨h.2.1, h.2.2.1⟩); rw [hN] at h2; cases h2)
        rw [hN] at hCM
        clear hN
        refine wp_region_held_drew (S := (fun V => Below (w1).heap.size (w1) V)) (by kernel_rfl) ((Below.refl _ _).drew) (fun hHeld => ?_)
        refine tk 0 hHeld ?_ (hy := fun w hSw => by (try dsimp only at hSw); have k0 := (hSw.cell (p := ⟨wr.heap.size, 0, none⟩) HP1.out.lt).trans (HP1.out.at_ 0 rfl); have k1 := (hSw.cell (p := ⟨wr.heap.size, 1, none⟩) HP1.out.lt).trans (HP1.out.at_ 1 rfl); have k2 := (hSw.cell (p := ⟨wr.heap.size, 2, none⟩) HP1.out.lt).trans (HP1.out.at_ 2 rfl); have k3 := (hSw.cell (p := ⟨wr.heap.size, 3, none⟩) HP1.out.lt).trans (HP1.out.at_ 3 rfl); have k4 := (hSw.cell (p := ⟨wr.heap.size, 4, none⟩) HP1.out.lt).trans (HP1.out.at_ 4 rfl); have k5 := (hSw.cell (p := ⟨wr.heap.size, 5, none⟩) HP1.out.lt).trans (HP1.out.at_ 5 rfl); have k6 := (hSw.cell (p := ⟨wr.heap.size, 6, none⟩) HP1.out.lt).trans (HP1.out.at_ 6 rfl); have k7 := (hSw.cell (p := ⟨wr.heap.size, 7, none⟩) HP1.out.lt).trans (HP1.out.at_ 7 rfl); have k8 := (hSw.cell (p := ⟨wr.heap.size, 8, none⟩) HP1.out.lt).trans (HP1.out.at_ 8 rfl); have k9 := (hSw.cell (p := ⟨wr.heap.size, 9, none⟩) HP1.out.lt).trans (HP1.out.at_ 9 rfl); have k10 := (hSw.cell (p := ⟨wr.heap.size, 10, none⟩) HP1.out.lt).trans (HP1.out.at_ 10 rfl); have k11 := (hSw.cell (p := ⟨wr.heap.size, 11, none⟩) HP1.out.lt).trans (HP1.out.at_ 11 rfl); have k12 := (hSw.cell (p := ⟨wr.heap.size, 12, none⟩) HP1.out.lt).trans (HP1.out.at_ 12 rfl); have k13 := (hSw.cell (p := ⟨wr.heap.size, 13, none⟩) HP1.out.lt).trans (HP1.out.at_ 13 rfl); clear hSw; go_simp; try with_reducible rfl)
        refine rd1 1 (fun K hK => ?_)
        go_simp
        go_at_call 61
        refine (hTI _ (R_Task_ok.rd_more (R_Task_ok.rd_below HR1.out hHeld) hHeld.size)).mono ?_
        rintro e w2 ⟨rfl, hb⟩
        refine hK.out _ _ (hHeld.trans (hb.mono hHeld.size)) (fun hHeld => ?_)
        clear hK K hb
        refine tk 2 hHeld ?_
        refine tk 3 hHeld ?_
        refine tk 4 hHeld ?_
        refine tk 5 hHeld ?_
        refine tk 6 hHeld ?_
        refine tk 7 hHeld ?_ (hy := fun w hSw => by (try dsimp only at hSw); have k0 := (hSw.cell (p := ⟨wr.heap.size, 0, none⟩) HP1.out.lt).trans (HP1.out.at_ 0 rfl); have k1 := (hSw.cell (p := ⟨wr.heap.size, 1, none⟩) HP1.out.lt).trans (HP1.out.at_ 1 rfl); have k2 := (hSw.cell (p := ⟨wr.heap.size, 2, none⟩) HP1.out.lt).trans (HP1.out.at_ 2 rfl); have k3 := (hSw.cell (p := ⟨wr.heap.size, 3, none⟩) HP1.out.lt).trans (HP1.out.at_ 3 rfl); have k4 := (hSw.cell (p := ⟨wr.heap.size, 4, none⟩) HP1.out.lt).trans (HP1.out.at_ 4 rfl); have k5 := (hSw.cell (p := ⟨wr.heap.size, 5, none⟩) HP1.out.lt).trans (HP1.out.at_ 5 rfl); have k6 := (hSw.cell (p := ⟨wr.heap.size, 6, none⟩) HP1.out.lt).trans (HP1.out.at_ 6 rfl); have k7 := (hSw.cell (p := ⟨wr.heap.size, 7, none⟩) HP1.out.lt).trans (HP1.out.at_ 7 rfl); have k8 := (hSw.cell (p := ⟨wr.heap.size, 8, none⟩) HP1.out.lt).trans (HP1.out.at_ 8 rfl); have k9 := (hSw.cell (p := ⟨wr.heap.size, 9, none⟩) HP1.out.lt).trans (HP1.out.at_ 9 rfl); have k10 := (hSw.cell (p := ⟨wr.heap.size, 10, none⟩) HP1.out.lt).trans (HP1.out.at_ 10 rfl); have k11 := (hSw.cell (p := ⟨wr.heap.size, 11, none⟩) HP1.out.lt).trans (HP1.out.at_ 11 rfl); have k12 := (hSw.cell (p := ⟨wr.heap.size, 12, none⟩) HP1.out.lt).trans (HP1.out.at_ 12 rfl); have k13 := (hSw.cell (p := ⟨wr.heap.size, 13, none⟩) HP1.out.lt).trans (HP1.out.at_ 13 rfl); clear hSw; go_simp; try with_reducible rfl)
        refine rd1 8 (fun K hK => ?_)
        go_simp
        go_at_call 62
        refine (hCM _ ((HA1.out.below R_Task_ok hHeld).more R_Task_ok hHeld.size)).mono ?_
        rintro e w3 ⟨rfl, hb⟩
        refine hK.out _ _ (hHeld.trans (hb.mono hHeld.size)) (fun hHeld => ?_)
        clear hK K hb
        refine tk 9 hHeld ?_
        refine tk 10 hHeld ?_
        refine rd0 ?_
        have HF := Lib.hid hHeld
        clear hHeld
        have HB2 := Lib.hid (HB1.out.trans (HF.out.mono HB1.out.size))
        go_wp2
        go_ret
        exact resB_no HN.out HB2.out
      | true =>
      have HNX := Lib.hid (HNP.out.1 (nextB_iff.1 hN))
      rw [hN] at hCM
      clear hN
      refine wp_region_held_drew (S := (fun V => Below (w1).heap.size (w1) V)) (by kernel_rfl) ((Below.refl _ _).drew) (fun hHeld => ?_)
      refine tk 0 hHeld ?_ (hy := fun w hSw => by (try dsimp only at hSw); have k0 := (hSw.cell (p := ⟨wr.heap.size, 0, none⟩) HP1.out.lt).trans (HP1.out.at_ 0 rfl); have k1 := (hSw.cell (p := ⟨wr.heap.size, 1, none⟩) HP1.out.lt).trans (HP1.out.at_ 1 rfl); have k2 := (hSw.cell (p := ⟨wr.heap.size, 2, none⟩) HP1.out.lt).trans (HP1.out.at_ 2 rfl); have k3 := (hSw.cell (p := ⟨wr.heap.size, 3, none⟩) HP1.out.lt).trans (HP1.out.at_ 3 rfl); have k4 := (hSw.cell (p := ⟨wr.heap.size, 4, none⟩) HP1.out.lt).trans (HP1.out.at_ 4 rfl); have k5 := (hSw.cell (p := ⟨wr.heap.size, 5, none⟩) HP1.out.lt).trans (HP1.out.at_ 5 rfl); have k6 := (hSw.cell (p := ⟨wr.heap.size, 6, none⟩) HP1.out.lt).trans (HP1.out.at_ 6 rfl); have k7 := (hSw.cell (p := ⟨wr.heap.size, 7, none⟩) HP1.out.lt).trans (HP1.out.at_ 7 rfl); have k8 := (hSw.cell (p := ⟨wr.heap.size, 8, none⟩) HP1.out.lt).trans (HP1.out.at_ 8 rfl); have k9 := (hSw.cell (p := ⟨wr.heap.size, 9, none⟩) HP1.out.lt).trans (HP1.out.at_ 9 rfl); have k10 := (hSw.cell (p := ⟨wr.heap.size, 10, none⟩) HP1.out.lt).trans (HP1.out.at_ 10 rfl); have k11 := (hSw.cell (p := ⟨wr.heap.size, 11, none⟩) HP1.out.lt).trans (HP1.out.at_ 11 rfl); have k12 := (hSw.cell (p := ⟨wr.heap.size, 12, none⟩) HP1.out.lt).trans (HP1.out.at_ 12 rfl); have k13 := (hSw.cell (p := ⟨wr.heap.size, 13, none⟩) HP1.out.lt).trans (HP1.out.at_ 13 rfl); clear hSw; go_simp; try with_reducible rfl)
      refine rd1 1 (fun K hK => ?_)
      go_simp
      go_at_call 61
      refine (hTI _ (R_Task_ok.rd_more (R_Task_ok.rd_below HR1.out hHeld) hHeld.size)).mono ?_
      rintro e w2 ⟨rfl, hb⟩
      refine hK.out _ _ (hHeld.trans (hb.mono hHeld.size)) (fun hHeld => ?_)
      clear hK K hb
      refine tk 2 hHeld ?_
      refine tk 3 hHeld ?_
      refine tk 4 hHeld ?_
      refine tk 5 hHeld ?_
      refine tk 6 hHeld ?_
      refine tk 7 hHeld ?_ (hy := fun w hSw => by (try dsimp only at hSw); have k0 := (hSw.cell (p := ⟨wr.heap.size, 0, none⟩) HP1.out.lt).trans (HP1.out.at_ 0 rfl); have k1 := (hSw.cell (p := ⟨wr.heap.size, 1, none⟩) HP1.out.lt).trans (HP1.out.at_ 1 rfl); have k2 := (hSw.cell (p := ⟨wr.heap.size, 2, none⟩) HP1.out.lt).trans (HP1.out.at_ 2 rfl); have k3 := (hSw.cell (p := ⟨wr.heap.size, 3, none⟩) HP1.out.lt).trans (HP1.out.at_ 3 rfl); have k4 := (hSw.cell (p := ⟨wr.heap.size, 4, none⟩) HP1.out.lt).trans (HP1.out.at_ 4 rfl); have k5 := (hSw.cell (p := ⟨wr.heap.size, 5, none⟩) HP1.out.lt).trans (HP1.out.at_ 5 rfl); have k6 := (hSw.cell (p := ⟨wr.heap.size, 6, none⟩) HP1.out.lt).trans (HP1.out.at_ 6 rfl); have k7 := (hSw.cell (p := ⟨wr.heap.size, 7, none⟩) HP1.out.lt).trans (HP1.out.at_ 7 rfl); have k8 := (hSw.cell (p := ⟨wr.heap.size, 8, none⟩) HP1.out.lt).trans (HP1.out.at_ 8 rfl); have k9 := (hSw.cell (p := ⟨wr.heap.size, 9, none⟩) HP1.out.lt).trans (HP1.out.at_ 9 rfl); have k10 := (hSw.cell (p := ⟨wr.heap.size, 10, none⟩) HP1.out.lt).trans (HP1.out.at_ 10 rfl); have k11 := (hSw.cell (p := ⟨wr.heap.size, 11, none⟩) HP1.out.lt).trans (HP1.out.at_ 11 rfl); have k12 := (hSw.cell (p := ⟨wr.heap.size, 12, none⟩) HP1.out.lt).trans (HP1.out.at_ 12 rfl); have k13 := (hSw.cell (p := ⟨wr.heap.size, 13, none⟩) HP1.out.lt).trans (HP1.out.at_ 13 rfl); clear hSw; go_simp; try with_reducible rfl)
      refine rd1 8 (fun K hK => ?_)
      go_simp
      go_at_call 62
      refine (hCM _ ((HA1.out.below R_Task_ok hHeld).more R_Task_ok hHeld.size)).mono ?_
      rintro e w3 ⟨rfl, hb⟩
      refine hK.out _ _ (hHeld.trans (hb.mono hHeld.size)) (fun hHeld => ?_)
      clear hK K hb
      refine tk 9 hHeld ?_
      refine tk 10 hHeld ?_
      refine rd0 ?_
      have HF := Lib.hid hHeld
      clear hHeld
      have HB2 := Lib.hid (HB1.out.trans (HF.out.mono HB1.out.size))
      have HP2 := Lib.hid (HP1.out.call HF.out)
      have HA2 := Lib.hid ((HA1.out.below R_Task_ok HF.out).more R_Task_ok HF.out.size)
      clear HF
      by_cases h9 : x9 = 0
      · have h9n : (x9 != 0) = false := by simp [h9]
        have HS := Lib.hid (tasTo_step HO.out HX.out ⟨HT.out, HNX.out.1, HNX.out.2, fun h => absurd h9 h⟩)
        clear h9
        go_wp2_with fail
        refine wp_region_held_drew (S := (fun V => Below (w3).heap.size (w3) V)) (by kernel_rfl) ((Below.refl _ _).drew) (fun hHeld => ?_)
        refine tk 0 hHeld ?_
        refine tk 1 hHeld ?_ (hy := fun w hSw => by (try dsimp only at hSw); have k0 := (hSw.cell (p := ⟨wr.heap.size, 9, none⟩) HP2.out.lt).trans (HP2.out.at_ 9 rfl); clear hSw; go_simp; try with_reducible rfl)
        refine tk 2 hHeld ?_
        refine tk 3 hHeld ?_
        refine tn 4 hHeld ?_
        refine tn 5 hHeld ?_
        refine tn 6 hHeld ?_
        refine tn 7 hHeld ?_
        refine tn 8 hHeld ?_
        refine tn 9 hHeld ?_
        refine tn 10 hHeld ?_
        refine tn 11 hHeld ?_
        refine tn 12 hHeld ?_
        refine tk 13 hHeld ?_
        refine rd0 ?_
        have HF := Lib.hid hHeld
        clear hHeld
        have HB12 := Lib.hid (HB2.out.trans (HF.out.mono HB2.out.size))
        go_wp2
        go_roundw
        case rel => exact ⟨k + 1, by omega, by go_num, HS, by first | exact HB12.out | exact HB12.out.drew | exact bdrewN HB12.out _⟩
        case measure => simp [intOf]; omega
      · have h9n : (x9 != 0) = true := by simp [h9]
        have H9 := Lib.hid h9
        clear h9
        obtain ⟨b, hb9⟩ : ∃ b, decide (atT (L.take k) ((x7, x8), x9) < 0) = b := ⟨_, rfl⟩
        have HB9 := Lib.hid hb9
        go_wp2_with fail
        refine wp_region_held_drew (S := (fun V => Below (w3).heap.size (w3) V)) (by kernel_rfl) ((Below.refl _ _).drew) (fun hHeld => ?_)
        refine tk 0 hHeld ?_
        refine tk 1 hHeld ?_ (hy := fun w hSw => by (try dsimp only at hSw); have k0 := (hSw.cell (p := ⟨wr.heap.size, 9, none⟩) HP2.out.lt).trans (HP2.out.at_ 9 rfl); clear hSw; go_simp; try with_reducible rfl)
        refine tk 2 hHeld ?_
        refine tk 3 hHeld ?_
        refine tk 4 hHeld ?_
        refine tk 5 hHeld ?_
        refine tk 6 hHeld ?_
        refine tk 7 hHeld ?_
        refine tk 8 hHeld ?_ (hy := fun w hSw => by (try dsimp only at hSw); have k0 := (hSw.cell (p := ⟨wr.heap.size, 7, none⟩) HP2.out.lt).trans (HP2.out.at_ 7 rfl); have k1 := (hSw.cell (p := ⟨wr.heap.size, 8, none⟩) HP2.out.lt).trans (HP2.out.at_ 8 rfl); clear hSw; go_simp; try with_reducible rfl)
        refine tk 9 hHeld ?_
        refine tk 10 hHeld ?_ (hy := fun w hSw => by (try dsimp only at hSw); have k0 := (hSw.cell (p := ⟨wr.heap.size, 9, none⟩) HP2.out.lt).trans (HP2.out.at_ 9 rfl); clear hSw; go_simp; try with_reducible rfl)
        refine rd1 11 (fun K hK => ?_)
        go_simp
        go_at_call 63
        refine (taskat_n hTL.out hTN HIN.out ((HA2.out.below R_Task_ok hHeld).more R_Task_ok hHeld.size)).mono ?_
        rintro e w12 ⟨rfl, hb⟩
        refine hK.out _ _ (hHeld.trans (hb.mono hHeld.size)) (fun hHeld => ?_)
        clear hK K hb
        refine tk 12 hHeld ?_
        refine tk 13 hHeld ?_
        refine rd0 ?_
        have HF := Lib.hid hHeld
        clear hHeld
        have HB12 := Lib.hid (HB2.out.trans (HF.out.mono HB2.out.size))
        cases b with
        | true =>
          have HN := Lib.hid (not_tasks HX.out fun h => by have h2 := h.2.2.2 H9.out; have h3 := of_decide_eq_true HB9.out; exact absurd h2 (by show ¬ 0 ≤ atT (L.take k) ((x7, x8), x9); omega))
          go_wp2
          go_ret
          exact resB_no HN.out HB12.out
        | false =>
          have HS := Lib.hid (tasTo_step HO.out HX.out ⟨HT.out, HNX.out.1, HNX.out.2, fun _ => by have h3 := of_decide_eq_false HB9.out; show 0 ≤ atT (L.take k) ((x7, x8), x9); omega⟩)
          go_wp2
          go_roundw
          case rel => exact ⟨k + 1, by omega, by go_num, HS, by first | exact HB12.out | exact HB12.out.drew | exact bdrewN HB12.out _⟩
          case measure => simp [intOf]; omega
    · have hdl : decide ((k : Int) < (L.length : Int)) = false := decide_eq_false (by omega)
      obtain rfl : k = L.length := by omega
      have HY := Lib.hid (tasksR_all h96 HO.out)
      clear hB
      go_wp2
      go_ret
      exact resB_yes HY.out HB.out
end Go.Proofs.Ytmmnkdilnlhbfaa.RepC
