/- TaskReady of both sides: contracts. -/
import Derived.Test.YtmmnkdilnlhbfaaTaR4
import Derived.Test.YtmmnkdilnlhbfaaTaLi
namespace Go.Proofs.Ytmmnkdilnlhbfaa.RepC
open Go.RowKit RowC ValC SpanC KeptC NameC
set_option linter.unusedVariables false
set_option linter.unusedSimpArgs false

/-- the state of the task with that key, or 0 -/
def stU (L : List D_Task) (a : D_Label × Int) : Int := if 0 ≤ atT L a then ((L[(atT L a).toNat]?).map tState).getD 0 else 0
theorem stU_none {L : List D_Task} {a : D_Label × Int} (h : atT L a = -1) : stU L a = 0 := if_neg (by omega)
theorem stU_hit {L : List D_Task} {a : D_Label × Int} {k : Nat} {x : D_Task} (hk : atT L a = (k : Int)) (hx : L[k]? = some x) : stU L a = tState x := by
  unfold stU
  rw [if_pos (by omega), hk, Int.toNat_natCast, hx]
  rfl
def rdyB (L : List D_Task) (x : D_Task) : Bool := (tState x == 1) && ((tAfter x == 0) || (stU L (tUnder x, tAfter x) == 4))
noncomputable def readyB (L : List D_Task) (x : D_Task) : Bool := tasksB L && (taskB x && rdyB L x)
set_option maxRecDepth 100000 in
set_option maxHeartbeats 1600000 in
theorem rdyS_w {L : List D_Task} {a : Option Addr} {cap : Nat} {x0 x1 x2 : Int} {x3 : ByteArray} {x4 x5 x6 x7 x8 x9 x10 x11 x12 : Int} {M : List Int} {ba : Option Addr} {bc : Nat} {W : World} (h : RdSl R_Task W W.heap.size L a cap) :
    Calls Try.prog 71 #[.slice a L.length cap, .agg #[.int .i64 x0, .int .i64 x1, .int .i64 x2, .string x3, .int .i64 x4, .int .i64 x5, .int .i64 x6, .int .i64 x7, .int .i64 x8, .int .i64 x9, .int .i64 x10, .int .i64 x11, .int .i64 x12, .slice ba M.length bc]] W fun e w' => e = .returned (.bool (rdyB L ((x0, x1), x2, x3, x4, x5, x6, (x7, x8), x9, x10, x11, x12, M))) ∧ Below W.heap.size W w' := by
  have hn : L.length ≤ 9223372036854775807 := by have h1 := h.1; have h2 := h.2.1; unfold maxLen at h2; omega
  have H := Lib.hid h
  clear h
  obtain ⟨wo, hwo⟩ : ∃ w, w = W.alloc (.cells #[.int .i64 x0, .int .i64 x1, .int .i64 x2, .string x3, .int .i64 x4, .int .i64 x5, .int .i64 x6, .int .i64 x7, .int .i64 x8, .int .i64 x9, .int .i64 x10, .int .i64 x11, .int .i64 x12, .slice ba M.length bc] 54) := ⟨_, rfl⟩
  have HB0 := Lib.hid (show Below W.heap.size W wo from by rw [hwo]; exact (Below.refl _ _).alloc (Nat.le_refl _) _)
  have HP0 := Lib.hid (show Blk wo W.heap.size 54 #[.int .i64 x0, .int .i64 x1, .int .i64 x2, .string x3, .int .i64 x4, .int .i64 x5, .int .i64 x6, .int .i64 x7, .int .i64 x8, .int .i64 x9, .int .i64 x10, .int .i64 x11, .int .i64 x12, .slice ba M.length bc] from by rw [hwo]; exact Blk.new _ _ _)
  have HA0 := Lib.hid ((H.out.below R_Task_ok HB0.out).more R_Task_ok HB0.out.size)
  have q0 := HP0.out.at_ 0 rfl
  have q1 := HP0.out.at_ 1 rfl
  have q2 := HP0.out.at_ 2 rfl
  have q3 := HP0.out.at_ 3 rfl
  have q4 := HP0.out.at_ 4 rfl
  have q5 := HP0.out.at_ 5 rfl
  have q6 := HP0.out.at_ 6 rfl
  have q7 := HP0.out.at_ 7 rfl
  have q8 := HP0.out.at_ 8 rfl
  have q9 := HP0.out.at_ 9 rfl
  have q10 := HP0.out.at_ 10 rfl
  have q11 := HP0.out.at_ 11 rfl
  have q12 := HP0.out.at_ 12 rfl
  have q13 := HP0.out.at_ 13 rfl
  by_cases h1 : x11 = 1
  rotate_left
  · have h1' : (x11 == 1) = false := beq_eq_false_iff_ne.2 h1
    have h1n : (x11 != 1) = true := by simp [h1]
    have HE := Lib.hid (show rdyB L ((x0, x1), x2, x3, x4, x5, x6, (x7, x8), x9, x10, x11, x12, M) = false from by unfold rdyB; rw [show (tState ((x0, x1), x2, x3, x4, x5, x6, (x7, x8), x9, x10, x11, x12, M) == 1) = false from h1']; rfl)
    clear h1
    go_enter Try.func71, Try.ntmps71
    go_upto_region 1 with fail
    rw [← hwo]
    clear hwo
    go_wp2
    go_ret
    exact ⟨by rw [HE.out]; rfl, HB0.out⟩
  have h1' : (x11 == 1) = true := beq_iff_eq.2 h1
  have h1n : (x11 != 1) = false := by simp [h1]
  have H1 := Lib.hid h1'
  clear h1
  by_cases h9 : x9 = 0
  · have h9' : (x9 == 0) = true := beq_iff_eq.2 h9
    have HE := Lib.hid (show rdyB L ((x0, x1), x2, x3, x4, x5, x6, (x7, x8), x9, x10, x11, x12, M) = true from by unfold rdyB; rw [show (tState ((x0, x1), x2, x3, x4, x5, x6, (x7, x8), x9, x10, x11, x12, M) == 1) = true from H1.out, show (tAfter ((x0, x1), x2, x3, x4, x5, x6, (x7, x8), x9, x10, x11, x12, M) == 0) = true from h9']; rfl)
    clear h9
    go_enter Try.func71, Try.ntmps71
    go_upto_region 1 with fail
    rw [← hwo]
    clear hwo
    go_wp2
    go_ret
    exact ⟨by rw [HE.out]; rfl, HB0.out⟩
  have h9' : (x9 == 0) = false := beq_eq_false_iff_ne.2 h9
  have HE := Lib.hid (show rdyB L ((x0, x1), x2, x3, x4, x5, x6, (x7, x8), x9, x10, x11, x12, M) = (stU L ((x7, x8), x9) == 4) from by unfold rdyB; rw [show (tState ((x0, x1), x2, x3, x4, x5, x6, (x7, x8), x9, x10, x11, x12, M) == 1) = true from H1.out, show (tAfter ((x0, x1), x2, x3, x4, x5, x6, (x7, x8), x9, x10, x11, x12, M) == 0) = false from h9']; rfl)
  clear h9
  go_enter Try.func71, Try.ntmps71
  go_upto_region 1 with fail
  rw [← hwo]
  clear hwo
  go_wp2_with fail
  refine (at_spec rfl HA0.out).mono ?_
  rintro e w1 ⟨rfl, hb⟩
  have HB1 := Lib.hid (HB0.out.trans (hb.mono HB0.out.size))
  have HA1 := Lib.hid ((HA0.out.below R_Task_ok hb).more R_Task_ok hb.size)
  clear q0 q1 q2 q3 q4 q5 q6 q7 q8 q9 q10 q11 q12 q13 hb
  rcases atT_cases L ((x7, x8), x9) with ⟨hc, _⟩ | ⟨k, y, hc, hx, _, _⟩
  · rw [hc]
    have HZ := Lib.hid (show (stU L ((x7, x8), x9) == 4) = false from by rw [stU_none hc]; rfl)
    have hng : decide ((0 : Int) ≤ -1) = false := rfl
    clear hc
    go_wp2
    go_ret
    exact ⟨by rw [HE.out, HZ.out]; rfl, HB1.out⟩
  · rw [hc]
    have hng : decide ((0 : Int) ≤ (k : Int)) = true := decide_eq_true (by omega)
    have hil := (List.getElem?_eq_some_iff.1 hx).1
    have HI := Lib.hid hx
    obtain ⟨⟨y0, y1⟩, y2, y3, y4, y5, y6, ⟨y7, y8⟩, y9, y10, y11, y12, N⟩ := y
    have HZ := Lib.hid (show stU L ((x7, x8), x9) = y11 from stU_hit hc hx)
    obtain ⟨g, o, us, rfl, hg, hu, hr⟩ := HA1.out.at_ hx
    obtain ⟨da, dc, rfl, k_N, b_y3⟩ := rd_Task hr
    have e11 : w1.cell? ⟨g, o + k * 14 + 11, none⟩ = some (.int .i64 y11) := by simpa [size_TaskS, Nat.add_assoc] using hu 11 _ rfl
    have hi0 : (0 : Int) ≤ (k : Int) := Int.natCast_nonneg _
    have hi1 : (k : Int) < (L.length : Int) := by omega
    clear hu hr hg hx hc k_N
    go_wp2
    go_ret
    exact ⟨by rw [HE.out, HZ.out]; rfl, HB1.out⟩
set_option maxRecDepth 100000 in
set_option maxHeartbeats 1600000 in
theorem under_w {L : List D_Task} {n : Nat} {a : Option Addr} {cap : Nat} {x0 x1 x2 : Int} {x3 : ByteArray} {x4 x5 x6 x7 x8 x9 x10 x11 x12 : Int} {M : List Int} {ba : Option Addr} {bc : Nat} {W : World} (hLn : L.length = n) (hn : L.length ≤ 1048576) (hI : IncT L L.length) (h : RdSl R_Task W W.heap.size L a cap) :
    Calls Try.prog 113 #[.slice a n cap, .agg #[.int .i64 x0, .int .i64 x1, .int .i64 x2, .string x3, .int .i64 x4, .int .i64 x5, .int .i64 x6, .int .i64 x7, .int .i64 x8, .int .i64 x9, .int .i64 x10, .int .i64 x11, .int .i64 x12, .slice ba M.length bc]] W fun e w' => e = .returned (.int .i64 (stU L ((x7, x8), x9))) ∧ Below W.heap.size W w' := by
  subst hLn
  have H := Lib.hid h
  have HI9 := Lib.hid hI
  clear h hI
  obtain ⟨wo, hwo⟩ : ∃ w, w = W.alloc (.cells #[.int .i64 x0, .int .i64 x1, .int .i64 x2, .string x3, .int .i64 x4, .int .i64 x5, .int .i64 x6, .int .i64 x7, .int .i64 x8, .int .i64 x9, .int .i64 x10, .int .i64 x11, .int .i64 x12, .slice ba M.length bc] 54) := ⟨_, rfl⟩
  have HB0 := Lib.hid (show Below W.heap.size W wo from by rw [hwo]; exact (Below.refl _ _).alloc (Nat.le_refl _) _)
  have HP0 := Lib.hid (show Blk wo W.heap.size 54 #[.int .i64 x0, .int .i64 x1, .int .i64 x2, .string x3, .int .i64 x4, .int .i64 x5, .int .i64 x6, .int .i64 x7, .int .i64 x8, .int .i64 x9, .int .i64 x10, .int .i64 x11, .int .i64 x12, .slice ba M.length bc] from by rw [hwo]; exact Blk.new _ _ _)
  have HA0 := Lib.hid ((H.out.below R_Task_ok HB0.out).more R_Task_ok HB0.out.size)
  have q0 := HP0.out.at_ 0 rfl
  have q1 := HP0.out.at_ 1 rfl
  have q2 := HP0.out.at_ 2 rfl
  have q3 := HP0.out.at_ 3 rfl
  have q4 := HP0.out.at_ 4 rfl
  have q5 := HP0.out.at_ 5 rfl
  have q6 := HP0.out.at_ 6 rfl
  have q7 := HP0.out.at_ 7 rfl
  have q8 := HP0.out.at_ 8 rfl
  have q9 := HP0.out.at_ 9 rfl
  have q10 := HP0.out.at_ 10 rfl
  have q11 := HP0.out.at_ 11 rfl
  have q12 := HP0.out.at_ 12 rfl
  have q13 := HP0.out.at_ 13 rfl
  go_enter Try.func113, Try.ntmps113
  go_upto_region 1 with fail
  rw [← hwo]
  clear hwo
  go_wp2_with fail
  refine (taskat_n rfl hn HI9.out HA0.out).mono ?_
  rintro e w1 ⟨rfl, hb⟩
  have HB1 := Lib.hid (HB0.out.trans (hb.mono HB0.out.size))
  have HA1 := Lib.hid ((HA0.out.below R_Task_ok hb).more R_Task_ok hb.size)
  clear q0 q1 q2 q3 q4 q5 q6 q7 q8 q9 q10 q11 q12 q13 hb
  rcases atT_cases L ((x7, x8), x9) with ⟨hc, _⟩ | ⟨k, y, hc, hx, _, _⟩
  · rw [hc]
    have HZ := Lib.hid (stU_none hc)
    have hng : decide ((-1 : Int) < 0) = true := rfl
    clear hc
    go_wp2
    go_ret
    exact ⟨by rw [HZ.out]; rfl, HB1.out⟩
  · rw [hc]
    have hng : decide ((k : Int) < 0) = false := decide_eq_false (by omega)
    have hil := (List.getElem?_eq_some_iff.1 hx).1
    obtain ⟨⟨y0, y1⟩, y2, y3, y4, y5, y6, ⟨y7, y8⟩, y9, y10, y11, y12, N⟩ := y
    have HZ := Lib.hid (show stU L ((x7, x8), x9) = y11 from stU_hit hc hx)
    obtain ⟨g, o, us, rfl, hg, hu, hr⟩ := HA1.out.at_ hx
    obtain ⟨da, dc, rfl, k_N, b_y3⟩ := rd_Task hr
    have e11 : w1.cell? ⟨g, o + k * 14 + 11, none⟩ = some (.int .i64 y11) := by simpa [size_TaskS, Nat.add_assoc] using hu 11 _ rfl
    have hi0 : (0 : Int) ≤ (k : Int) := Int.natCast_nonneg _
    have hi1 : (k : Int) < (L.length : Int) := by omega
    clear hu hr hg hx hc k_N
    go_wp2
    go_ret
    exact ⟨by rw [HZ.out]; rfl, HB1.out⟩
set_option maxRecDepth 100000 in
set_option maxHeartbeats 1600000 in
theorem rdyI_w {L : List D_Task} {a : Option Addr} {cap : Nat} {x0 x1 x2 : Int} {x3 : ByteArray} {x4 x5 x6 x7 x8 x9 x10 x11 x12 : Int} {M : List Int} {ba : Option Addr} {bc : Nat} {W : World} (hn : L.length ≤ 1048576) (hI : IncT L L.length) (h : RdSl R_Task W W.heap.size L a cap) :
    Calls Try.prog 73 #[.slice a L.length cap, .agg #[.int .i64 x0, .int .i64 x1, .int .i64 x2, .string x3, .int .i64 x4, .int .i64 x5, .int .i64 x6, .int .i64 x7, .int .i64 x8, .int .i64 x9, .int .i64 x10, .int .i64 x11, .int .i64 x12, .slice ba M.length bc]] W fun e w' => e = .returned (.bool (rdyB L ((x0, x1), x2, x3, x4, x5, x6, (x7, x8), x9, x10, x11, x12, M))) ∧ Below W.heap.size W w' := by
  have H := Lib.hid h
  have HI9 := Lib.hid hI
  clear h hI
  obtain ⟨wo, hwo⟩ : ∃ w, w = W.alloc (.cells #[.int .i64 x0, .int .i64 x1, .int .i64 x2, .string x3, .int .i64 x4, .int .i64 x5, .int .i64 x6, .int .i64 x7, .int .i64 x8, .int .i64 x9, .int .i64 x10, .int .i64 x11, .int .i64 x12, .slice ba M.length bc] 54) := ⟨_, rfl⟩
  have HB0 := Lib.hid (show Below W.heap.size W wo from by rw [hwo]; exact (Below.refl _ _).alloc (Nat.le_refl _) _)
  have HP0 := Lib.hid (show Blk wo W.heap.size 54 #[.int .i64 x0, .int .i64 x1, .int .i64 x2, .string x3, .int .i64 x4, .int .i64 x5, .int .i64 x6, .int .i64 x7, .int .i64 x8, .int .i64 x9, .int .i64 x10, .int .i64 x11, .int .i64 x12, .slice ba M.length bc] from by rw [hwo]; exact Blk.new _ _ _)
  have HA0 := Lib.hid ((H.out.below R_Task_ok HB0.out).more R_Task_ok HB0.out.size)
  have q0 := HP0.out.at_ 0 rfl
  have q1 := HP0.out.at_ 1 rfl
  have q2 := HP0.out.at_ 2 rfl
  have q3 := HP0.out.at_ 3 rfl
  have q4 := HP0.out.at_ 4 rfl
  have q5 := HP0.out.at_ 5 rfl
  have q6 := HP0.out.at_ 6 rfl
  have q7 := HP0.out.at_ 7 rfl
  have q8 := HP0.out.at_ 8 rfl
  have q9 := HP0.out.at_ 9 rfl
  have q10 := HP0.out.at_ 10 rfl
  have q11 := HP0.out.at_ 11 rfl
  have q12 := HP0.out.at_ 12 rfl
  have q13 := HP0.out.at_ 13 rfl
  by_cases h1 : x11 = 1
  rotate_left
  · have h1' : (x11 == 1) = false := beq_eq_false_iff_ne.2 h1
    have HE := Lib.hid (show rdyB L ((x0, x1), x2, x3, x4, x5, x6, (x7, x8), x9, x10, x11, x12, M) = false from by unfold rdyB; rw [show (tState ((x0, x1), x2, x3, x4, x5, x6, (x7, x8), x9, x10, x11, x12, M) == 1) = false from h1']; rfl)
    clear h1
    go_enter Try.func73, Try.ntmps73
    go_upto_region 1 with fail
    rw [← hwo]
    clear hwo
    go_wp2_with fail
    refine (waitsI_at h1' _).mono ?_
    rintro e w5 ⟨rfl, hb5⟩
    have HB5 := Lib.hid (HB0.out.trans (hb5.mono HB0.out.size))
    clear hb5
    go_wp2
    go_ret
    exact ⟨by rw [HE.out]; rfl, HB5.out⟩
  have h1' : (x11 == 1) = true := beq_iff_eq.2 h1
  have H1 := Lib.hid h1'
  clear h1
  by_cases h9 : x9 = 0
  · have h9' : (x9 == 0) = true := beq_iff_eq.2 h9
    have HE := Lib.hid (show rdyB L ((x0, x1), x2, x3, x4, x5, x6, (x7, x8), x9, x10, x11, x12, M) = true from by unfold rdyB; rw [show (tState ((x0, x1), x2, x3, x4, x5, x6, (x7, x8), x9, x10, x11, x12, M) == 1) = true from H1.out, show (tAfter ((x0, x1), x2, x3, x4, x5, x6, (x7, x8), x9, x10, x11, x12, M) == 0) = true from h9']; rfl)
    clear h9
    go_enter Try.func73, Try.ntmps73
    go_upto_region 1 with fail
    rw [← hwo]
    clear hwo
    go_wp2_with fail
    refine (waitsI_at H1.out _).mono ?_
    rintro e w5 ⟨rfl, hb5⟩
    have HB5 := Lib.hid (HB0.out.trans (hb5.mono HB0.out.size))
    have HP5 := Lib.hid (HP0.out.call hb5)
    have HA5 := Lib.hid ((HA0.out.below R_Task_ok hb5).more R_Task_ok hb5.size)
    clear hb5 q0 q1 q2 q3 q4 q5 q6 q7 q8 q9 q10 q11 q12 q13
    have q0 := HP5.out.at_ 0 rfl
    have q1 := HP5.out.at_ 1 rfl
    have q2 := HP5.out.at_ 2 rfl
    have q3 := HP5.out.at_ 3 rfl
    have q4 := HP5.out.at_ 4 rfl
    have q5 := HP5.out.at_ 5 rfl
    have q6 := HP5.out.at_ 6 rfl
    have q7 := HP5.out.at_ 7 rfl
    have q8 := HP5.out.at_ 8 rfl
    have q9 := HP5.out.at_ 9 rfl
    have q10 := HP5.out.at_ 10 rfl
    have q11 := HP5.out.at_ 11 rfl
    have q12 := HP5.out.at_ 12 rfl
    have q13 := HP5.out.at_ 13 rfl
    go_wp2
    go_ret
    exact ⟨by rw [HE.out]; rfl, HB5.out⟩
  have h9' : (x9 == 0) = false := beq_eq_false_iff_ne.2 h9
  have HE := Lib.hid (show rdyB L ((x0, x1), x2, x3, x4, x5, x6, (x7, x8), x9, x10, x11, x12, M) = (stU L ((x7, x8), x9) == 4) from by unfold rdyB; rw [show (tState ((x0, x1), x2, x3, x4, x5, x6, (x7, x8), x9, x10, x11, x12, M) == 1) = true from H1.out, show (tAfter ((x0, x1), x2, x3, x4, x5, x6, (x7, x8), x9, x10, x11, x12, M) == 0) = false from h9']; rfl)
  clear h9
  go_enter Try.func73, Try.ntmps73
  go_upto_region 1 with fail
  rw [← hwo]
  clear hwo
  go_wp2_with fail
  refine (waitsI_at H1.out _).mono ?_
  rintro e w5 ⟨rfl, hb5⟩
  have HB5 := Lib.hid (HB0.out.trans (hb5.mono HB0.out.size))
  have HP5 := Lib.hid (HP0.out.call hb5)
  have HA5 := Lib.hid ((HA0.out.below R_Task_ok hb5).more R_Task_ok hb5.size)
  clear hb5 q0 q1 q2 q3 q4 q5 q6 q7 q8 q9 q10 q11 q12 q13
  have q0 := HP5.out.at_ 0 rfl
  have q1 := HP5.out.at_ 1 rfl
  have q2 := HP5.out.at_ 2 rfl
  have q3 := HP5.out.at_ 3 rfl
  have q4 := HP5.out.at_ 4 rfl
  have q5 := HP5.out.at_ 5 rfl
  have q6 := HP5.out.at_ 6 rfl
  have q7 := HP5.out.at_ 7 rfl
  have q8 := HP5.out.at_ 8 rfl
  have q9 := HP5.out.at_ 9 rfl
  have q10 := HP5.out.at_ 10 rfl
  have q11 := HP5.out.at_ 11 rfl
  have q12 := HP5.out.at_ 12 rfl
  have q13 := HP5.out.at_ 13 rfl
  go_wp2_with fail
  refine (under_w (x7 := x7) (x8 := x8) (x9 := x9) rfl hn HI9.out HA5.out).mono ?_
  rintro e w1 ⟨rfl, hb⟩
  have HB1 := Lib.hid (HB5.out.trans (hb.mono HB5.out.size))
  obtain ⟨s, hs⟩ : ∃ s, stU L ((x7, x8), x9) = s := ⟨_, rfl⟩
  have HS := Lib.hid hs
  rw [hs]
  clear q0 q1 q2 q3 q4 q5 q6 q7 q8 q9 q10 q11 q12 q13 hb hs
  go_wp2
  go_ret
  exact ⟨by rw [HE.out, HS.out]; rfl, HB1.out⟩
def bIs (b : Bool) (w : World) (e : Ending) (w' : World) : Prop := e = .returned (.bool b) ∧ Below w.heap.size w w'
set_option maxRecDepth 100000 in
set_option maxHeartbeats 1600000 in
theorem ready_spec {L : List D_Task} {a : Option Addr} {cap : Nat} {x0 x1 x2 : Int} {x3 : ByteArray} {x4 x5 x6 x7 x8 x9 x10 x11 x12 : Int} {M : List Int} {ba : Option Addr} {bc : Nat} {W : World} (h : RdSl R_Task W W.heap.size L a cap) (hx : R_Task.rd W W.heap.size ((x0, x1), x2, x3, x4, x5, x6, (x7, x8), x9, x10, x11, x12, M) [.int .i64 x0, .int .i64 x1, .int .i64 x2, .string x3, .int .i64 x4, .int .i64 x5, .int .i64 x6, .int .i64 x7, .int .i64 x8, .int .i64 x9, .int .i64 x10, .int .i64 x11, .int .i64 x12, .slice ba M.length bc]) :
    Calls Try.prog 35 #[.slice a L.length cap, .agg #[.int .i64 x0, .int .i64 x1, .int .i64 x2, .string x3, .int .i64 x4, .int .i64 x5, .int .i64 x6, .int .i64 x7, .int .i64 x8, .int .i64 x9, .int .i64 x10, .int .i64 x11, .int .i64 x12, .slice ba M.length bc]] W (IsB (readyB L ((x0, x1), x2, x3, x4, x5, x6, (x7, x8), x9, x10, x11, x12, M)) W) := by
  have H := Lib.hid h
  have HX := Lib.hid hx
  clear h hx
  obtain ⟨wo, hwo⟩ : ∃ w, w = W.alloc (.cells #[.int .i64 x0, .int .i64 x1, .int .i64 x2, .string x3, .int .i64 x4, .int .i64 x5, .int .i64 x6, .int .i64 x7, .int .i64 x8, .int .i64 x9, .int .i64 x10, .int .i64 x11, .int .i64 x12, .slice ba M.length bc] 54) := ⟨_, rfl⟩
  have HB0 := Lib.hid (show Below W.heap.size W wo from by rw [hwo]; exact (Below.refl _ _).alloc (Nat.le_refl _) _)
  have HP0 := Lib.hid (show Blk wo W.heap.size 54 #[.int .i64 x0, .int .i64 x1, .int .i64 x2, .string x3, .int .i64 x4, .int .i64 x5, .int .i64 x6, .int .i64 x7, .int .i64 x8, .int .i64 x9, .int .i64 x10, .int .i64 x11, .int .i64 x12, .slice ba M.length bc] from by rw [hwo]; exact Blk.new _ _ _)
  have HA0 := Lib.hid ((H.out.below R_Task_ok HB0.out).more R_Task_ok HB0.out.size)
  have HX0 := Lib.hid (R_Task_ok.rd_more (R_Task_ok.rd_below HX.out HB0.out) HB0.out.size)
  go_enter Try.func35, Try.ntmps35
  go_upto_region 1 with fail
  rw [← hwo]
  clear hwo
  go_wp2_with fail
  refine (tasks_spec HA0.out).mono ?_
  intro e w1 h
  obtain ⟨rfl, hb⟩ := isB_elim h
  have HB1 := Lib.hid (HB0.out.trans (hb.mono HB0.out.size))
  have HA1 := Lib.hid ((HA0.out.below R_Task_ok hb).more R_Task_ok hb.size)
  have HX1 := Lib.hid (R_Task_ok.rd_more (R_Task_ok.rd_below HX0.out hb) hb.size)
  have HP1 := Lib.hid (HP0.out.call hb)
  clear h hb
  cases hq : tasksB L with
  | false =>
    have HE := Lib.hid (show readyB L ((x0, x1), x2, x3, x4, x5, x6, (x7, x8), x9, x10, x11, x12, M) = false from by unfold readyB; rw [hq]; rfl)
    clear hq
    go_wp2
    go_ret
    exact ⟨by rw [HE.out]; rfl, HB1.out⟩
  | true =>
  have HTR := Lib.hid (tasksB_iff.1 hq)
  have HE0 := Lib.hid (show readyB L ((x0, x1), x2, x3, x4, x5, x6, (x7, x8), x9, x10, x11, x12, M) = (taskB ((x0, x1), x2, x3, x4, x5, x6, (x7, x8), x9, x10, x11, x12, M) && rdyB L ((x0, x1), x2, x3, x4, x5, x6, (x7, x8), x9, x10, x11, x12, M)) from by unfold readyB; rw [hq]; rfl)
  clear hq
  have q0 := HP1.out.at_ 0 rfl
  have q1 := HP1.out.at_ 1 rfl
  have q2 := HP1.out.at_ 2 rfl
  have q3 := HP1.out.at_ 3 rfl
  have q4 := HP1.out.at_ 4 rfl
  have q5 := HP1.out.at_ 5 rfl
  have q6 := HP1.out.at_ 6 rfl
  have q7 := HP1.out.at_ 7 rfl
  have q8 := HP1.out.at_ 8 rfl
  have q9 := HP1.out.at_ 9 rfl
  have q10 := HP1.out.at_ 10 rfl
  have q11 := HP1.out.at_ 11 rfl
  have q12 := HP1.out.at_ 12 rfl
  have q13 := HP1.out.at_ 13 rfl
  go_wp2_with fail
  refine (taskS_w HX1.out).mono ?_
  rintro e w2 ⟨rfl, hb⟩
  have HB2 := Lib.hid (HB1.out.trans (hb.mono HB1.out.size))
  have HA2 := Lib.hid ((HA1.out.below R_Task_ok hb).more R_Task_ok hb.size)
  have HP2 := Lib.hid (HP1.out.call hb)
  clear q0 q1 q2 q3 q4 q5 q6 q7 q8 q9 q10 q11 q12 q13 hb
  cases hq : taskB ((x0, x1), x2, x3, x4, x5, x6, (x7, x8), x9, x10, x11, x12, M) with
  | false =>
    have HE := Lib.hid (show readyB L ((x0, x1), x2, x3, x4, x5, x6, (x7, x8), x9, x10, x11, x12, M) = false from by rw [HE0.out, hq]; rfl)
    clear hq
    go_wp2
    go_ret
    exact ⟨by rw [HE.out]; rfl, HB2.out⟩
  | true =>
  have HE := Lib.hid (show readyB L ((x0, x1), x2, x3, x4, x5, x6, (x7, x8), x9, x10, x11, x12, M) = rdyB L ((x0, x1), x2, x3, x4, x5, x6, (x7, x8), x9, x10, x11, x12, M) from by rw [HE0.out, hq]; rfl)
  clear hq
  have q0 := HP2.out.at_ 0 rfl
  have q1 := HP2.out.at_ 1 rfl
  have q2 := HP2.out.at_ 2 rfl
  have q3 := HP2.out.at_ 3 rfl
  have q4 := HP2.out.at_ 4 rfl
  have q5 := HP2.out.at_ 5 rfl
  have q6 := HP2.out.at_ 6 rfl
  have q7 := HP2.out.at_ 7 rfl
  have q8 := HP2.out.at_ 8 rfl
  have q9 := HP2.out.at_ 9 rfl
  have q10 := HP2.out.at_ 10 rfl
  have q11 := HP2.out.at_ 11 rfl
  have q12 := HP2.out.at_ 12 rfl
  have q13 := HP2.out.at_ 13 rfl
  go_wp2_with fail
  refine (rdyS_w (x0 := x0) (x1 := x1) (x2 := x2) (x3 := x3) (x4 := x4) (x5 := x5) (x6 := x6) (x7 := x7) (x8 := x8) (x9 := x9) (x10 := x10) (x11 := x11) (x12 := x12) (M := M) HA2.out).mono ?_
  rintro e w3 ⟨rfl, hb⟩
  have HB3 := Lib.hid (HB2.out.trans (hb.mono HB2.out.size))
  clear q0 q1 q2 q3 q4 q5 q6 q7 q8 q9 q10 q11 q12 q13 hb
  obtain ⟨b, hbb⟩ : ∃ b, rdyB L ((x0, x1), x2, x3, x4, x5, x6, (x7, x8), x9, x10, x11, x12, M) = b := ⟨_, rfl⟩
  have HBB := Lib.hid hbb
  rw [hbb]
  clear hbb
  go_wp2
  go_ret
  exact ⟨by rw [HE.out, HBB.out]; rfl, HB3.out⟩
set_option maxRecDepth 100000 in
set_option maxHeartbeats 1600000 in
theorem ready_impl {L : List D_Task} {a : Option Addr} {cap : Nat} {x0 x1 x2 : Int} {x3 : ByteArray} {x4 x5 x6 x7 x8 x9 x10 x11 x12 : Int} {M : List Int} {ba : Option Addr} {bc : Nat} {W : World} (h : RdSl R_Task W W.heap.size L a cap) (hx : R_Task.rd W W.heap.size ((x0, x1), x2, x3, x4, x5, x6, (x7, x8), x9, x10, x11, x12, M) [.int .i64 x0, .int .i64 x1, .int .i64 x2, .string x3, .int .i64 x4, .int .i64 x5, .int .i64 x6, .int .i64 x7, .int .i64 x8, .int .i64 x9, .int .i64 x10, .int .i64 x11, .int .i64 x12, .slice ba M.length bc]) :
    Calls Try.prog 37 #[.slice a L.length cap, .agg #[.int .i64 x0, .int .i64 x1, .int .i64 x2, .string x3, .int .i64 x4, .int .i64 x5, .int .i64 x6, .int .i64 x7, .int .i64 x8, .int .i64 x9, .int .i64 x10, .int .i64 x11, .int .i64 x12, .slice ba M.length bc]] W (IsB (readyB L ((x0, x1), x2, x3, x4, x5, x6, (x7, x8), x9, x10, x11, x12, M)) W) := by
  have H := Lib.hid h
  have HX := Lib.hid hx
  clear h hx
  obtain ⟨wo, hwo⟩ : ∃ w, w = W.alloc (.cells #[.int .i64 x0, .int .i64 x1, .int .i64 x2, .string x3, .int .i64 x4, .int .i64 x5, .int .i64 x6, .int .i64 x7, .int .i64 x8, .int .i64 x9, .int .i64 x10, .int .i64 x11, .int .i64 x12, .slice ba M.length bc] 54) := ⟨_, rfl⟩
  have HB0 := Lib.hid (show Below W.heap.size W wo from by rw [hwo]; exact (Below.refl _ _).alloc (Nat.le_refl _) _)
  have HP0 := Lib.hid (show Blk wo W.heap.size 54 #[.int .i64 x0, .int .i64 x1, .int .i64 x2, .string x3, .int .i64 x4, .int .i64 x5, .int .i64 x6, .int .i64 x7, .int .i64 x8, .int .i64 x9, .int .i64 x10, .int .i64 x11, .int .i64 x12, .slice ba M.length bc] from by rw [hwo]; exact Blk.new _ _ _)
  have HA0 := Lib.hid ((H.out.below R_Task_ok HB0.out).more R_Task_ok HB0.out.size)
  have HX0 := Lib.hid (R_Task_ok.rd_more (R_Task_ok.rd_below HX.out HB0.out) HB0.out.size)
  go_enter Try.func37, Try.ntmps37
  go_upto_region 1 with fail
  rw [← hwo]
  clear hwo
  go_wp2_with fail
  refine (tasks_impl HA0.out).mono ?_
  intro e w1 h
  obtain ⟨rfl, hb⟩ := isB_elim h
  have HB1 := Lib.hid (HB0.out.trans (hb.mono HB0.out.size))
  have HA1 := Lib.hid ((HA0.out.below R_Task_ok hb).more R_Task_ok hb.size)
  have HX1 := Lib.hid (R_Task_ok.rd_more (R_Task_ok.rd_below HX0.out hb) hb.size)
  have HP1 := Lib.hid (HP0.out.call hb)
  clear h hb
  cases hq : tasksB L with
  | false =>
    have HE := Lib.hid (show readyB L ((x0, x1), x2, x3, x4, x5, x6, (x7, x8), x9, x10, x11, x12, M) = false from by unfold readyB; rw [hq]; rfl)
    clear hq
    go_wp2
    go_ret
    exact ⟨by rw [HE.out]; rfl, HB1.out⟩
  | true =>
  have HTR := Lib.hid (tasksB_iff.1 hq)
  have HE0 := Lib.hid (show readyB L ((x0, x1), x2, x3, x4, x5, x6, (x7, x8), x9, x10, x11, x12, M) = (taskB ((x0, x1), x2, x3, x4, x5, x6, (x7, x8), x9, x10, x11, x12, M) && rdyB L ((x0, x1), x2, x3, x4, x5, x6, (x7, x8), x9, x10, x11, x12, M)) from by unfold readyB; rw [hq]; rfl)
  clear hq
  have q0 := HP1.out.at_ 0 rfl
  have q1 := HP1.out.at_ 1 rfl
  have q2 := HP1.out.at_ 2 rfl
  have q3 := HP1.out.at_ 3 rfl
  have q4 := HP1.out.at_ 4 rfl
  have q5 := HP1.out.at_ 5 rfl
  have q6 := HP1.out.at_ 6 rfl
  have q7 := HP1.out.at_ 7 rfl
  have q8 := HP1.out.at_ 8 rfl
  have q9 := HP1.out.at_ 9 rfl
  have q10 := HP1.out.at_ 10 rfl
  have q11 := HP1.out.at_ 11 rfl
  have q12 := HP1.out.at_ 12 rfl
  have q13 := HP1.out.at_ 13 rfl
  go_wp2_with fail
  refine (taskI_w HX1.out).mono ?_
  rintro e w2 ⟨rfl, hb⟩
  have HB2 := Lib.hid (HB1.out.trans (hb.mono HB1.out.size))
  have HA2 := Lib.hid ((HA1.out.below R_Task_ok hb).more R_Task_ok hb.size)
  have HP2 := Lib.hid (HP1.out.call hb)
  clear q0 q1 q2 q3 q4 q5 q6 q7 q8 q9 q10 q11 q12 q13 hb
  cases hq : taskB ((x0, x1), x2, x3, x4, x5, x6, (x7, x8), x9, x10, x11, x12, M) with
  | false =>
    have HE := Lib.hid (show readyB L ((x0, x1), x2, x3, x4, x5, x6, (x7, x8), x9, x10, x11, x12, M) = false from by rw [HE0.out, hq]; rfl)
    clear hq
    go_wp2
    go_ret
    exact ⟨by rw [HE.out]; rfl, HB2.out⟩
  | true =>
  have HE := Lib.hid (show readyB L ((x0, x1), x2, x3, x4, x5, x6, (x7, x8), x9, x10, x11, x12, M) = rdyB L ((x0, x1), x2, x3, x4, x5, x6, (x7, x8), x9, x10, x11, x12, M) from by rw [HE0.out, hq]; rfl)
  clear hq
  have q0 := HP2.out.at_ 0 rfl
  have q1 := HP2.out.at_ 1 rfl
  have q2 := HP2.out.at_ 2 rfl
  have q3 := HP2.out.at_ 3 rfl
  have q4 := HP2.out.at_ 4 rfl
  have q5 := HP2.out.at_ 5 rfl
  have q6 := HP2.out.at_ 6 rfl
  have q7 := HP2.out.at_ 7 rfl
  have q8 := HP2.out.at_ 8 rfl
  have q9 := HP2.out.at_ 9 rfl
  have q10 := HP2.out.at_ 10 rfl
  have q11 := HP2.out.at_ 11 rfl
  have q12 := HP2.out.at_ 12 rfl
  have q13 := HP2.out.at_ 13 rfl
  go_wp2_with fail
  refine (rdyI_w (x0 := x0) (x1 := x1) (x2 := x2) (x3 := x3) (x4 := x4) (x5 := x5) (x6 := x6) (x7 := x7) (x8 := x8) (x9 := x9) (x10 := x10) (x11 := x11) (x12 := x12) (M := M) (by have h9 := HTR.out.1; omega) (tasksR_inc HTR.out) HA2.out).mono ?_
  rintro e w3 ⟨rfl, hb⟩
  have HB3 := Lib.hid (HB2.out.trans (hb.mono HB2.out.size))
  clear q0 q1 q2 q3 q4 q5 q6 q7 q8 q9 q10 q11 q12 q13 hb
  obtain ⟨b, hbb⟩ : ∃ b, rdyB L ((x0, x1), x2, x3, x4, x5, x6, (x7, x8), x9, x10, x11, x12, M) = b := ⟨_, rfl⟩
  have HBB := Lib.hid hbb
  rw [hbb]
  clear hbb
  go_wp2
  go_ret
  exact ⟨by rw [HE.out, HBB.out]; rfl, HB3.out⟩
end Go.Proofs.Ytmmnkdilnlhbfaa.RepC
