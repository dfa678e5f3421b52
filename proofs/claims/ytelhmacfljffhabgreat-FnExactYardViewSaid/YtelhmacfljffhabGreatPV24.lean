/- Of this claim's texts the part 24: TaE2. -/
import Derived.Test.YtelhmacfljffhabGreatPV0
import Derived.Test.YtelhmacfljffhabGreatPV1
import Derived.Test.YtelhmacfljffhabGreatPV4
import Derived.Test.YtelhmacfljffhabGreatPV5
import Derived.Test.YtelhmacfljffhabGreatPV6
import Derived.Test.YtelhmacfljffhabGreatPV7
import Derived.Test.YtelhmacfljffhabGreatPV8
import Derived.Test.YtelhmacfljffhabGreatPV9
import Derived.Test.YtelhmacfljffhabGreatPV10
import Derived.Test.YtelhmacfljffhabGreatPV12
import Derived.Test.YtelhmacfljffhabGreatPV16
import Derived.Test.YtelhmacfljffhabGreatPV17
import Derived.Test.YtelhmacfljffhabGreatPV18
import Derived.Test.YtelhmacfljffhabGreatPV19
import Derived.Test.YtelhmacfljffhabGreatPV20
import Derived.Test.YtelhmacfljffhabGreatPV21
import Derived.Test.YtelhmacfljffhabGreatPV23
section
namespace Go.Proofs.YtelhmacfljffhabGreat.RepC
open Go.RowKit RowC ValC SpanC KeptC NameC
set_option linter.unusedVariables false
set_option linter.unusedSimpArgs false
def preT (x0 x1 x2 : Int) (x3 : ByteArray) (x4 x5 x6 x7 x8 x9 x10 x11 x12 : Int) (M : List Int) : ByteArray := (((((((((((((PutM.encB x0 ++ PutM.encB x1) ++ PutM.encB x2) ++ JoinC.putT x3) ++ PutM.encB x4) ++ PutM.encB x5) ++ PutM.encB x6) ++ PutM.encB x7) ++ PutM.encB x8) ++ PutM.encB x9) ++ PutM.encB x10) ++ PutM.encB x11) ++ PutM.encB x12) ++ PutM.encB (M.length : Int))
def encT : D_Task → ByteArray
  | ((x0, x1), x2, x3, x4, x5, x6, (x7, x8), x9, x10, x11, x12, M) => preT x0 x1 x2 x3 x4 x5 x6 x7 x8 x9 x10 x11 x12 M ++ catL M
noncomputable def bytesT (x : D_Task) : ByteArray := if taskB x = true then encT x else ⟨#[]⟩
theorem bytesT_yes {x : D_Task} (h : taskB x = true) : bytesT x = encT x := if_pos h
theorem bytesT_no {x : D_Task} (h : taskB x = false) : bytesT x = ⟨#[]⟩ := if_neg (by rw [h]; decide)
theorem taskR_small {x0 x1 x2 : Int} {x3 : ByteArray} {x4 x5 x6 x7 x8 x9 x10 x11 x12 : Int} {M : List Int} (h : TaskR ((x0, x1), x2, x3, x4, x5, x6, (x7, x8), x9, x10, x11, x12, M)) : (0 ≤ x0 ∧ x0 ≤ 2000000) ∧ (0 ≤ x1 ∧ x1 ≤ 2000000) ∧ (0 ≤ x2 ∧ x2 ≤ 2000000) ∧ (0 ≤ x4 ∧ x4 ≤ 2000000) ∧ (0 ≤ x5 ∧ x5 ≤ 2000000) ∧ (0 ≤ x6 ∧ x6 ≤ 2000000) ∧ (0 ≤ x7 ∧ x7 ≤ 2000000) ∧ (0 ≤ x8 ∧ x8 ≤ 2000000) ∧ (0 ≤ x9 ∧ x9 ≤ 2000000) ∧ (0 ≤ x10 ∧ x10 ≤ 2000000) ∧ (0 ≤ x11 ∧ x11 ≤ 2000000) ∧ (0 ≤ x12 ∧ x12 ≤ 2000000) ∧ M.length ≤ 6 ∧ x3.size ≤ 20 ∧ ∀ n ∈ M, 0 ≤ n ∧ n ≤ 2000000 := by
  obtain ⟨h0, h1, h2, h3, h4, h5, h6, h7, hd, hp, hn⟩ := h
  have r0 := rB_bd h0
  have r1 := (isB_iff _ _ _).1 h1
  have r3 := (isB_iff _ _ _).1 h3
  have r4 := (isB_iff _ _ _).1 h4
  have r5 := (isB_iff _ _ _).1 h5
  have r6 := (isB_iff _ _ _).1 h6
  have r7 := (isB_iff _ _ _).1 h7
  have rN := (nameB_iff.1 h2).2.1
  have rD : (0 ≤ x7 ∧ x7 ≤ 3) ∧ (0 ≤ x8 ∧ x8 ≤ 7) ∧ (0 ≤ x9 ∧ x9 ≤ 12) := by
    by_cases e : x9 = 0
    · obtain ⟨e1, e2⟩ := hd.1 e
      omega
    · obtain ⟨e1, e2, _⟩ := hd.2 e
      have e3 := (isB_iff _ _ _).1 e1
      have e4 : LabC.rB x7 x8 = true := by
        cases hr : LabC.rB x7 x8 with
        | true => rfl
        | false => rw [LabC.below_no1 hr] at e2; cases e2
      have e5 := rB_bd e4
      omega
  have rS : (0 ≤ x12 ∧ x12 ≤ 1000000) ∧ M.length ≤ 6 ∧ ∀ n ∈ M, 0 ≤ n ∧ n ≤ 5 := by
    by_cases hs : Has x11 M
    · obtain ⟨e1, e2, e3⟩ := hp hs
      have e4 := (isB_iff _ _ _).1 e1
      refine ⟨by omega, nodesR_len e3, fun n hm => ?_⟩
      obtain ⟨i, hi, rfl⟩ := List.mem_iff_getElem.1 hm
      have := (isB_iff _ _ _).1 (e3 i hi _ (List.getElem?_eq_getElem hi)).1
      exact ⟨by omega, by omega⟩
    · obtain ⟨e1, e2⟩ := hn hs
      have : M = [] := List.eq_nil_of_length_eq_zero e2
      subst this
      exact ⟨by omega, by simp, fun n hm => by cases hm⟩
  refine ⟨by omega, by omega, by omega, by omega, by omega, by omega, by omega, by omega, by omega, by omega, by omega, by omega, rS.2.1, by simpa using rN, fun n hm => by have := rS.2.2 n hm; omega⟩
theorem enc10 {n : Int} (h : 0 ≤ n ∧ n ≤ 2000000) : (PutM.encB n).size ≤ 10 := (PutM.encB_size (by omega) (by omega)).2
theorem putT30 {s : ByteArray} (h : s.size ≤ 20) : (JoinC.putT s).size ≤ 30 := by
  rw [JoinC.putT_in (by omega), ByteArray.size_append]
  have := (PutM.encB_size (n := (s.size : Int)) (by omega) (by omega)).2
  omega
theorem r64 {n : Int} (h : 0 ≤ n ∧ n ≤ 2000000) : i64R n := ⟨by omega, by omega⟩
theorem textS_at (s : ByteArray) {b : ByteArray} (hb : JoinC.putT s = b) (hs : s.size ≤ maxLen) (w : World) : Calls Tryz.prog 19 #[.string s] w fun e w' => e = .returned (.string b) ∧ Below w.heap.size w w' := by
  subst hb
  exact JoinC.text_spec s w hs
theorem textI_at (s : ByteArray) {b : ByteArray} (hb : JoinC.putT s = b) (hs : s.size ≤ maxLen) (w : World) : Calls Tryz.prog 74 #[.string s] w fun e w' => e = .returned (.string b) ∧ Below w.heap.size w w' := by
  subst hb
  exact JoinC.text_impl s w hs
set_option maxRecDepth 100000 in
set_option maxHeartbeats 3200000 in
theorem bytes_spec {x0 x1 x2 : Int} {x3 : ByteArray} {x4 x5 x6 x7 x8 x9 x10 x11 x12 : Int} {M : List Int} {ba : Option Addr} {bc : Nat} {W : World} (hx : R_Task.rd W W.heap.size ((x0, x1), x2, x3, x4, x5, x6, (x7, x8), x9, x10, x11, x12, M) [.int .i64 x0, .int .i64 x1, .int .i64 x2, .string x3, .int .i64 x4, .int .i64 x5, .int .i64 x6, .int .i64 x7, .int .i64 x8, .int .i64 x9, .int .i64 x10, .int .i64 x11, .int .i64 x12, .slice ba M.length bc]) :
    Calls Tryz.prog 18 #[.agg #[.int .i64 x0, .int .i64 x1, .int .i64 x2, .string x3, .int .i64 x4, .int .i64 x5, .int .i64 x6, .int .i64 x7, .int .i64 x8, .int .i64 x9, .int .i64 x10, .int .i64 x11, .int .i64 x12, .slice ba M.length bc]] W fun e w' => e = .returned (.string (bytesT ((x0, x1), x2, x3, x4, x5, x6, (x7, x8), x9, x10, x11, x12, M))) ∧ Below W.heap.size W w' := by
  have HX := Lib.hid hx
  obtain ⟨_, _, he, hk, b_x3⟩ := rd_Task hx
  cases he
  have HK := Lib.hid hk
  have HX3 := Lib.hid b_x3
  have hn : M.length ≤ 9223372036854775807 := by have h1 := hk.1; have h2 := hk.2.1; unfold maxLen at h2; omega
  clear hx hk b_x3
  obtain ⟨wo, hwo⟩ : ∃ w, w = W.alloc (.cells #[.int .i64 x0, .int .i64 x1, .int .i64 x2, .string x3, .int .i64 x4, .int .i64 x5, .int .i64 x6, .int .i64 x7, .int .i64 x8, .int .i64 x9, .int .i64 x10, .int .i64 x11, .int .i64 x12, .slice ba M.length bc] 66) := ⟨_, rfl⟩
  have HB0 := Lib.hid (show Below W.heap.size W wo from by rw [hwo]; exact (Below.refl _ _).alloc (Nat.le_refl _) _)
  have HP0 := Lib.hid (show Blk wo W.heap.size 66 #[.int .i64 x0, .int .i64 x1, .int .i64 x2, .string x3, .int .i64 x4, .int .i64 x5, .int .i64 x6, .int .i64 x7, .int .i64 x8, .int .i64 x9, .int .i64 x10, .int .i64 x11, .int .i64 x12, .slice ba M.length bc] from by rw [hwo]; exact Blk.new _ _ _)
  have HX0 := Lib.hid (R_Task_ok.rd_more (R_Task_ok.rd_below HX.out HB0.out) HB0.out.size)
  have q0 := HP0.out.at_ 0 rfl
  have q1 := HP0.out.at_ 1 rfl
  have q2 := HP0.out.at_ 2 rfl
  have q3 := HP0.out.at_ 3 rfl
  have q4 := HP0.out.at_ 4 rfl
  have q5 := HP0.out.at_ 5 rfl
  have q6 := HP0.out.at_ 6 rfl
  have q7 := HP0.out.at_ 7 rfl
  have q8 := HP0.out.at_ 8 rfl
  have q9 := HP0.out.at_ 9 rfl
  have q10 := HP0.out.at_ 10 rfl
  have q11 := HP0.out.at_ 11 rfl
  have q12 := HP0.out.at_ 12 rfl
  have q13 := HP0.out.at_ 13 rfl
  go_enter Tryz.func18, Tryz.ntmps18
  go_upto_region 1 with fail
  rw [← hwo]
  clear hwo
  go_wp2_with fail
  refine (taskS_w HX0.out).mono ?_
  rintro e w1 ⟨rfl, hb⟩
  have HB1 := Lib.hid (HB0.out.trans (hb.mono HB0.out.size))
  have HP1 := Lib.hid (HP0.out.call hb)
  clear q0 q1 q2 q3 q4 q5 q6 q7 q8 q9 q10 q11 q12 q13 hb
  cases hT : taskB ((x0, x1), x2, x3, x4, x5, x6, (x7, x8), x9, x10, x11, x12, M) with
  | false =>
    have HE := Lib.hid (bytesT_no hT)
    clear hT
    go_wp2
    go_ret
    exact ⟨by rw [HE.out]; rfl, HB1.out⟩
  | true =>
    have HT := Lib.hid (taskB_iff.1 hT)
    have HE := Lib.hid (show bytesT ((x0, x1), x2, x3, x4, x5, x6, (x7, x8), x9, x10, x11, x12, M) = preT x0 x1 x2 x3 x4 x5 x6 x7 x8 x9 x10 x11 x12 M ++ catL M from bytesT_yes hT)
    clear hT
    obtain ⟨r0, r1, r2, r4, r5, r6, r7, r8, r9, r10, r11, r12, rM, rO, rN⟩ := taskR_small HT.out
    have r13 : (0 : Int) ≤ (M.length : Int) ∧ (M.length : Int) ≤ 2000000 := ⟨by omega, by omega⟩
    have HRN := Lib.hid rN
    obtain ⟨b0, g0⟩ : ∃ b, PutM.encB x0 = b := ⟨_, rfl⟩
    have s0 : b0.size ≤ 10 := by rw [← g0]; exact enc10 r0
    have G0 := Lib.hid g0
    obtain ⟨b1, g1⟩ : ∃ b, PutM.encB x1 = b := ⟨_, rfl⟩
    have s1 : b1.size ≤ 10 := by rw [← g1]; exact enc10 r1
    have G1 := Lib.hid g1
    obtain ⟨b2, g2⟩ : ∃ b, PutM.encB x2 = b := ⟨_, rfl⟩
    have s2 : b2.size ≤ 10 := by rw [← g2]; exact enc10 r2
    have G2 := Lib.hid g2
    obtain ⟨b3, g3⟩ : ∃ b, JoinC.putT x3 = b := ⟨_, rfl⟩
    have s3 : b3.size ≤ 30 := by rw [← g3]; exact putT30 rO
    have G3 := Lib.hid g3
    obtain ⟨b4, g4⟩ : ∃ b, PutM.encB x4 = b := ⟨_, rfl⟩
    have s4 : b4.size ≤ 10 := by rw [← g4]; exact enc10 r4
    have G4 := Lib.hid g4
    obtain ⟨b5, g5⟩ : ∃ b, PutM.encB x5 = b := ⟨_, rfl⟩
    have s5 : b5.size ≤ 10 := by rw [← g5]; exact enc10 r5
    have G5 := Lib.hid g5
    obtain ⟨b6, g6⟩ : ∃ b, PutM.encB x6 = b := ⟨_, rfl⟩
    have s6 : b6.size ≤ 10 := by rw [← g6]; exact enc10 r6
    have G6 := Lib.hid g6
    obtain ⟨b7, g7⟩ : ∃ b, PutM.encB x7 = b := ⟨_, rfl⟩
    have s7 : b7.size ≤ 10 := by rw [← g7]; exact enc10 r7
    have G7 := Lib.hid g7
    obtain ⟨b8, g8⟩ : ∃ b, PutM.encB x8 = b := ⟨_, rfl⟩
    have s8 : b8.size ≤ 10 := by rw [← g8]; exact enc10 r8
    have G8 := Lib.hid g8
    obtain ⟨b9, g9⟩ : ∃ b, PutM.encB x9 = b := ⟨_, rfl⟩
    have s9 : b9.size ≤ 10 := by rw [← g9]; exact enc10 r9
    have G9 := Lib.hid g9
    obtain ⟨b10, g10⟩ : ∃ b, PutM.encB x10 = b := ⟨_, rfl⟩
    have s10 : b10.size ≤ 10 := by rw [← g10]; exact enc10 r10
    have G10 := Lib.hid g10
    obtain ⟨b11, g11⟩ : ∃ b, PutM.encB x11 = b := ⟨_, rfl⟩
    have s11 : b11.size ≤ 10 := by rw [← g11]; exact enc10 r11
    have G11 := Lib.hid g11
    obtain ⟨b12, g12⟩ : ∃ b, PutM.encB x12 = b := ⟨_, rfl⟩
    have s12 : b12.size ≤ 10 := by rw [← g12]; exact enc10 r12
    have G12 := Lib.hid g12
    obtain ⟨b13, g13⟩ : ∃ b, PutM.encB (M.length : Int) = b := ⟨_, rfl⟩
    have s13 : b13.size ≤ 10 := by rw [← g13]; exact enc10 r13
    have G13 := Lib.hid g13
    have HPRE := Lib.hid (show preT x0 x1 x2 x3 x4 x5 x6 x7 x8 x9 x10 x11 x12 M = (((((((((((((b0 ++ b1) ++ b2) ++ b3) ++ b4) ++ b5) ++ b6) ++ b7) ++ b8) ++ b9) ++ b10) ++ b11) ++ b12) ++ b13) from by unfold preT; rw [g0, g1, g2, g3, g4, g5, g6, g7, g8, g9, g10, g11, g12, g13])
    clear rN g0 g1 g2 g3 g4 g5 g6 g7 g8 g9 g10 g11 g12 g13
    have R0 := Lib.hid (r64 r0)
    have R1 := Lib.hid (r64 r1)
    have R2 := Lib.hid (r64 r2)
    have R4 := Lib.hid (r64 r4)
    have R5 := Lib.hid (r64 r5)
    have R6 := Lib.hid (r64 r6)
    have R7 := Lib.hid (r64 r7)
    have R8 := Lib.hid (r64 r8)
    have R9 := Lib.hid (r64 r9)
    have R10 := Lib.hid (r64 r10)
    have R11 := Lib.hid (r64 r11)
    have R12 := Lib.hid (r64 r12)
    have R13 := Lib.hid (r64 r13)
    clear rO r0 r1 r2 r4 r5 r6 r7 r8 r9 r10 r11 r12 r13
    have z0 := s0
    have z1 : (b0 ++ b1).size ≤ 20 := by rw [ByteArray.size_append]; omega
    have hadd1 := fun w : World => run_string_add_sum (P := Tryz.prog) w b0 b1 (by omega)
    have z2 : ((b0 ++ b1) ++ b2).size ≤ 30 := by rw [ByteArray.size_append]; omega
    have hadd2 := fun w : World => run_string_add_sum (P := Tryz.prog) w (b0 ++ b1) b2 (by omega)
    have z3 : (((b0 ++ b1) ++ b2) ++ b3).size ≤ 60 := by rw [ByteArray.size_append]; omega
    have hadd3 := fun w : World => run_string_add_sum (P := Tryz.prog) w ((b0 ++ b1) ++ b2) b3 (by omega)
    have z4 : ((((b0 ++ b1) ++ b2) ++ b3) ++ b4).size ≤ 70 := by rw [ByteArray.size_append]; omega
    have hadd4 := fun w : World => run_string_add_sum (P := Tryz.prog) w (((b0 ++ b1) ++ b2) ++ b3) b4 (by omega)
    have z5 : (((((b0 ++ b1) ++ b2) ++ b3) ++ b4) ++ b5).size ≤ 80 := by rw [ByteArray.size_append]; omega
    have hadd5 := fun w : World => run_string_add_sum (P := Tryz.prog) w ((((b0 ++ b1) ++ b2) ++ b3) ++ b4) b5 (by omega)
    have z6 : ((((((b0 ++ b1) ++ b2) ++ b3) ++ b4) ++ b5) ++ b6).size ≤ 90 := by rw [ByteArray.size_append]; omega
    have hadd6 := fun w : World => run_string_add_sum (P := Tryz.prog) w (((((b0 ++ b1) ++ b2) ++ b3) ++ b4) ++ b5) b6 (by omega)
    have z7 : (((((((b0 ++ b1) ++ b2) ++ b3) ++ b4) ++ b5) ++ b6) ++ b7).size ≤ 100 := by rw [ByteArray.size_append]; omega
    have hadd7 := fun w : World => run_string_add_sum (P := Tryz.prog) w ((((((b0 ++ b1) ++ b2) ++ b3) ++ b4) ++ b5) ++ b6) b7 (by omega)
    have z8 : ((((((((b0 ++ b1) ++ b2) ++ b3) ++ b4) ++ b5) ++ b6) ++ b7) ++ b8).size ≤ 110 := by rw [ByteArray.size_append]; omega
    have hadd8 := fun w : World => run_string_add_sum (P := Tryz.prog) w (((((((b0 ++ b1) ++ b2) ++ b3) ++ b4) ++ b5) ++ b6) ++ b7) b8 (by omega)
    have z9 : (((((((((b0 ++ b1) ++ b2) ++ b3) ++ b4) ++ b5) ++ b6) ++ b7) ++ b8) ++ b9).size ≤ 120 := by rw [ByteArray.size_append]; omega
    have hadd9 := fun w : World => run_string_add_sum (P := Tryz.prog) w ((((((((b0 ++ b1) ++ b2) ++ b3) ++ b4) ++ b5) ++ b6) ++ b7) ++ b8) b9 (by omega)
    have z10 : ((((((((((b0 ++ b1) ++ b2) ++ b3) ++ b4) ++ b5) ++ b6) ++ b7) ++ b8) ++ b9) ++ b10).size ≤ 130 := by rw [ByteArray.size_append]; omega
    have hadd10 := fun w : World => run_string_add_sum (P := Tryz.prog) w (((((((((b0 ++ b1) ++ b2) ++ b3) ++ b4) ++ b5) ++ b6) ++ b7) ++ b8) ++ b9) b10 (by omega)
    have z11 : (((((((((((b0 ++ b1) ++ b2) ++ b3) ++ b4) ++ b5) ++ b6) ++ b7) ++ b8) ++ b9) ++ b10) ++ b11).size ≤ 140 := by rw [ByteArray.size_append]; omega
    have hadd11 := fun w : World => run_string_add_sum (P := Tryz.prog) w ((((((((((b0 ++ b1) ++ b2) ++ b3) ++ b4) ++ b5) ++ b6) ++ b7) ++ b8) ++ b9) ++ b10) b11 (by omega)
    have z12 : ((((((((((((b0 ++ b1) ++ b2) ++ b3) ++ b4) ++ b5) ++ b6) ++ b7) ++ b8) ++ b9) ++ b10) ++ b11) ++ b12).size ≤ 150 := by rw [ByteArray.size_append]; omega
    have hadd12 := fun w : World => run_string_add_sum (P := Tryz.prog) w (((((((((((b0 ++ b1) ++ b2) ++ b3) ++ b4) ++ b5) ++ b6) ++ b7) ++ b8) ++ b9) ++ b10) ++ b11) b12 (by omega)
    have z13 : (((((((((((((b0 ++ b1) ++ b2) ++ b3) ++ b4) ++ b5) ++ b6) ++ b7) ++ b8) ++ b9) ++ b10) ++ b11) ++ b12) ++ b13).size ≤ 160 := by rw [ByteArray.size_append]; omega
    have hadd13 := fun w : World => run_string_add_sum (P := Tryz.prog) w ((((((((((((b0 ++ b1) ++ b2) ++ b3) ++ b4) ++ b5) ++ b6) ++ b7) ++ b8) ++ b9) ++ b10) ++ b11) ++ b12) b13 (by omega)
    go_wp2_with fail
    refine wp_region_held_drew (S := (fun V => Below (w1).heap.size (w1) V)) (by kernel_rfl) ((Below.refl _ _).drew) (fun hHeld => ?_)
    refine tk 0 hHeld ?_
    refine tk 1 hHeld ?_
    refine tk 2 hHeld ?_ (hy := fun w hSw => by (try dsimp only at hSw); have k0 := (hSw.cell (p := ⟨W.heap.size, 0, none⟩) HP1.out.lt).trans (HP1.out.at_ 0 rfl); clear hSw; go_simp; try with_reducible rfl)
    refine tk 4 hHeld ?_
    refine tk 5 hHeld ?_
    refine tk 6 hHeld ?_ (hy := fun w hSw => by (try dsimp only at hSw); have k0 := (hSw.cell (p := ⟨W.heap.size, 1, none⟩) HP1.out.lt).trans (HP1.out.at_ 1 rfl); clear hSw; go_simp; try with_reducible rfl)
    refine tk 9 hHeld ?_
    refine tk 10 hHeld ?_ (hy := fun w hSw => by (try dsimp only at hSw); have k0 := (hSw.cell (p := ⟨W.heap.size, 2, none⟩) HP1.out.lt).trans (HP1.out.at_ 2 rfl); clear hSw; go_simp; try with_reducible rfl)
    refine tk 13 hHeld ?_
    refine tk 14 hHeld ?_ (hy := fun w hSw => by (try dsimp only at hSw); have k0 := (hSw.cell (p := ⟨W.heap.size, 3, none⟩) HP1.out.lt).trans (HP1.out.at_ 3 rfl); clear hSw; go_simp; try with_reducible rfl)
    refine tk 17 hHeld ?_
    refine tk 18 hHeld ?_ (hy := fun w hSw => by (try dsimp only at hSw); have k0 := (hSw.cell (p := ⟨W.heap.size, 4, none⟩) HP1.out.lt).trans (HP1.out.at_ 4 rfl); clear hSw; go_simp; try with_reducible rfl)
    refine tk 21 hHeld ?_
    refine tk 22 hHeld ?_ (hy := fun w hSw => by (try dsimp only at hSw); have k0 := (hSw.cell (p := ⟨W.heap.size, 5, none⟩) HP1.out.lt).trans (HP1.out.at_ 5 rfl); clear hSw; go_simp; try with_reducible rfl)
    refine tk 25 hHeld ?_
    refine tk 26 hHeld ?_ (hy := fun w hSw => by (try dsimp only at hSw); have k0 := (hSw.cell (p := ⟨W.heap.size, 6, none⟩) HP1.out.lt).trans (HP1.out.at_ 6 rfl); clear hSw; go_simp; try with_reducible rfl)
    refine tk 29 hHeld ?_
    refine tk 30 hHeld ?_
    refine tk 31 hHeld ?_ (hy := fun w hSw => by (try dsimp only at hSw); have k0 := (hSw.cell (p := ⟨W.heap.size, 7, none⟩) HP1.out.lt).trans (HP1.out.at_ 7 rfl); clear hSw; go_simp; try with_reducible rfl)
    refine tk 34 hHeld ?_
    refine tk 35 hHeld ?_
    refine tk 36 hHeld ?_ (hy := fun w hSw => by (try dsimp only at hSw); have k0 := (hSw.cell (p := ⟨W.heap.size, 8, none⟩) HP1.out.lt).trans (HP1.out.at_ 8 rfl); clear hSw; go_simp; try with_reducible rfl)
    refine tk 39 hHeld ?_
    refine tk 40 hHeld ?_ (hy := fun w hSw => by (try dsimp only at hSw); have k0 := (hSw.cell (p := ⟨W.heap.size, 9, none⟩) HP1.out.lt).trans (HP1.out.at_ 9 rfl); clear hSw; go_simp; try with_reducible rfl)
    refine tk 43 hHeld ?_
    refine tk 44 hHeld ?_ (hy := fun w hSw => by (try dsimp only at hSw); have k0 := (hSw.cell (p := ⟨W.heap.size, 10, none⟩) HP1.out.lt).trans (HP1.out.at_ 10 rfl); clear hSw; go_simp; try with_reducible rfl)
    refine tk 47 hHeld ?_
    refine tk 48 hHeld ?_ (hy := fun w hSw => by (try dsimp only at hSw); have k0 := (hSw.cell (p := ⟨W.heap.size, 11, none⟩) HP1.out.lt).trans (HP1.out.at_ 11 rfl); clear hSw; go_simp; try with_reducible rfl)
    refine tk 51 hHeld ?_
    refine tk 52 hHeld ?_ (hy := fun w hSw => by (try dsimp only at hSw); have k0 := (hSw.cell (p := ⟨W.heap.size, 12, none⟩) HP1.out.lt).trans (HP1.out.at_ 12 rfl); clear hSw; go_simp; try with_reducible rfl)
    refine tk 55 hHeld ?_
    refine tk 56 hHeld ?_ (hy := fun w hSw => by (try dsimp only at hSw); have k0 := (hSw.cell (p := ⟨W.heap.size, 13, none⟩) HP1.out.lt).trans (HP1.out.at_ 13 rfl); clear hSw; go_simp; try with_reducible rfl)
    refine tk 57 hHeld ?_
    refine rd1 3 (fun K hK => ?_)
    go_simp
    go_at_call 16
    refine (putS_at x0 G0.out R0.out _).mono ?_
    rintro e v0 ⟨rfl, hb⟩
    refine hK.out _ _ (hHeld.trans (hb.mono hHeld.size)) (fun hHeld => ?_)
    clear hK K hb
    refine rd1 7 (fun K hK => ?_)
    go_simp
    go_at_call 16
    refine (putS_at x1 G1.out R1.out _).mono ?_
    rintro e v1 ⟨rfl, hb⟩
    refine hK.out _ _ (hHeld.trans (hb.mono hHeld.size)) (fun hHeld => ?_)
    clear hK K hb
    refine tk 8 hHeld ?_
    refine rd1 11 (fun K hK => ?_)
    go_simp
    go_at_call 16
    refine (putS_at x2 G2.out R2.out _).mono ?_
    rintro e v2 ⟨rfl, hb⟩
    refine hK.out _ _ (hHeld.trans (hb.mono hHeld.size)) (fun hHeld => ?_)
    clear hK K hb
    refine tk 12 hHeld ?_
    refine rd1 15 (fun K hK => ?_)
    go_simp
    go_at_call 19
    refine (textS_at x3 G3.out HX3.out _).mono ?_
    rintro e v3 ⟨rfl, hb⟩
    refine hK.out _ _ (hHeld.trans (hb.mono hHeld.size)) (fun hHeld => ?_)
    clear hK K hb
    refine tk 16 hHeld ?_
    refine rd1 19 (fun K hK => ?_)
    go_simp
    go_at_call 16
    refine (putS_at x4 G4.out R4.out _).mono ?_
    rintro e v4 ⟨rfl, hb⟩
    refine hK.out _ _ (hHeld.trans (hb.mono hHeld.size)) (fun hHeld => ?_)
    clear hK K hb
    refine tk 20 hHeld ?_
    refine rd1 23 (fun K hK => ?_)
    go_simp
    go_at_call 16
    refine (putS_at x5 G5.out R5.out _).mono ?_
    rintro e v5 ⟨rfl, hb⟩
    refine hK.out _ _ (hHeld.trans (hb.mono hHeld.size)) (fun hHeld => ?_)
    clear hK K hb
    refine tk 24 hHeld ?_
    refine rd1 27 (fun K hK => ?_)
    go_simp
    go_at_call 16
    refine (putS_at x6 G6.out R6.out _).mono ?_
    rintro e v6 ⟨rfl, hb⟩
    refine hK.out _ _ (hHeld.trans (hb.mono hHeld.size)) (fun hHeld => ?_)
    clear hK K hb
    refine tk 28 hHeld ?_
    refine rd1 32 (fun K hK => ?_)
    go_simp
    go_at_call 16
    refine (putS_at x7 G7.out R7.out _).mono ?_
    rintro e v7 ⟨rfl, hb⟩
    refine hK.out _ _ (hHeld.trans (hb.mono hHeld.size)) (fun hHeld => ?_)
    clear hK K hb
    refine tk 33 hHeld ?_
    refine rd1 37 (fun K hK => ?_)
    go_simp
    go_at_call 16
    refine (putS_at x8 G8.out R8.out _).mono ?_
    rintro e v8 ⟨rfl, hb⟩
    refine hK.out _ _ (hHeld.trans (hb.mono hHeld.size)) (fun hHeld => ?_)
    clear hK K hb
    refine tk 38 hHeld ?_
    refine rd1 41 (fun K hK => ?_)
    go_simp
    go_at_call 16
    refine (putS_at x9 G9.out R9.out _).mono ?_
    rintro e v9 ⟨rfl, hb⟩
    refine hK.out _ _ (hHeld.trans (hb.mono hHeld.size)) (fun hHeld => ?_)
    clear hK K hb
    refine tk 42 hHeld ?_
    refine rd1 45 (fun K hK => ?_)
    go_simp
    go_at_call 16
    refine (putS_at x10 G10.out R10.out _).mono ?_
    rintro e v10 ⟨rfl, hb⟩
    refine hK.out _ _ (hHeld.trans (hb.mono hHeld.size)) (fun hHeld => ?_)
    clear hK K hb
    refine tk 46 hHeld ?_
    refine rd1 49 (fun K hK => ?_)
    go_simp
    go_at_call 16
    refine (putS_at x11 G11.out R11.out _).mono ?_
    rintro e v11 ⟨rfl, hb⟩
    refine hK.out _ _ (hHeld.trans (hb.mono hHeld.size)) (fun hHeld => ?_)
    clear hK K hb
    refine tk 50 hHeld ?_
    refine rd1 53 (fun K hK => ?_)
    go_simp
    go_at_call 16
    refine (putS_at x12 G12.out R12.out _).mono ?_
    rintro e v12 ⟨rfl, hb⟩
    refine hK.out _ _ (hHeld.trans (hb.mono hHeld.size)) (fun hHeld => ?_)
    clear hK K hb
    refine tk 54 hHeld ?_
    refine rd1 58 (fun K hK => ?_)
    go_simp
    go_at_call 16
    refine (putS_at (M.length : Int) G13.out R13.out _).mono ?_
    rintro e v13 ⟨rfl, hb⟩
    refine hK.out _ _ (hHeld.trans (hb.mono hHeld.size)) (fun hHeld => ?_)
    clear hK K hb
    refine tk 59 hHeld ?_
    refine tk 60 hHeld ?_
    refine rd0 ?_
    have HF := Lib.hid hHeld
    clear hHeld
    have HB2 := Lib.hid (HB1.out.trans (HF.out.mono HB1.out.size))
    have HP2 := Lib.hid (HP1.out.call HF.out)
    clear HF hadd1 z1 hadd2 z2 hadd3 z3 hadd4 z4 hadd5 z5 hadd6 z6 hadd7 z7 hadd8 z8 hadd9 z9 hadd10 z10 hadd11 z11 hadd12 z12 s0 s1 s2 s3 s4 s5 s6 s7 s8 s9 s10 s11 s12 s13 hadd13 z0
    obtain ⟨P, hP⟩ : ∃ P, (((((((((((((b0 ++ b1) ++ b2) ++ b3) ++ b4) ++ b5) ++ b6) ++ b7) ++ b8) ++ b9) ++ b10) ++ b11) ++ b12) ++ b13) = P := ⟨_, rfl⟩
    rw [hP] at HPRE z13
    rw [hP]
    clear hP
    go_wp2_with fail
    go_loopw [4, 3] (fun i q wr => ∃ k : Nat, k ≤ M.length ∧ i = .int .i64 k ∧ q = .string (P ++ catL (M.take k)) ∧ Below v13.heap.size v13 wr) (fun i _ _ => M.length - (intOf i).toNat)
    case atStart => exact ⟨0, Nat.zero_le _, rfl, by rw [List.take_zero]; simp only [catL, ba_nil], Below.refl _ _⟩
    case round =>
      obtain ⟨k, hk, rfl, rfl, hB⟩ := hrel
      have HB := Lib.hid (HB2.out.trans (hB.mono HB2.out.size))
      have hszW := HB.out.size
      have HPR := Lib.hid (HP2.out.call hB)
      have q13 := HPR.out.at_ 13 rfl
      have HBl := Lib.hid hB
      by_cases hlt : k < M.length
      · obtain ⟨x, hx⟩ := el_some hlt
        have HST := Lib.hid (catL_step hx)
        have HRX := Lib.hid (r64 (HRN.out x (List.mem_of_getElem? hx)))
        have hcs : (catL (M.take k)).size ≤ 10 * M.length := Nat.le_trans (catL_size fun n hn => r64 (HRN.out n (List.mem_of_mem_take hn))) (by have := List.length_take_le' k M; omega)
        obtain ⟨g, o, us, rfl, hg, hu, hr⟩ := (HK.out.below I_ok HB.out).at_ hx
        obtain rfl : us = [_] := hr
        have hc0 : wr.cell? ⟨g, o + k, none⟩ = some (.int .i64 x) := by simpa [show I.size = 1 from rfl] using hu 0 _ rfl
        have hi0 : (0 : Int) ≤ (k : Int) := Int.natCast_nonneg _
        have hi1 : (k : Int) < (M.length : Int) := by omega
        obtain ⟨b, hb0⟩ : ∃ b, PutM.encB x = b := ⟨_, rfl⟩
        have hbs : b.size ≤ 10 := by rw [← hb0]; exact (PutM.encB_size HRX.out.1 HRX.out.2).2
        have HBb := Lib.hid hb0
        rw [hb0] at HST
        obtain ⟨C, hC⟩ : ∃ C, catL (M.take k) = C := ⟨_, rfl⟩
        rw [hC] at HST hcs
        rw [hC]
        have hPC : (P ++ C).size ≤ 1000 := by rw [ByteArray.size_append]; omega
        have haddL := fun w : World => run_string_add_sum (P := Tryz.prog) w (P ++ C) b (by omega)
        clear hB hx hu hb0 hC
        go_wp2_with fail
        refine (putS_at x HBb.out HRX.out _).mono ?_
        rintro e w9 ⟨rfl, hb⟩
        have HB9 := Lib.hid (HBl.out.trans (hb.mono HBl.out.size))
        clear hb hc0
        go_wp2
        go_roundw
        case rel => exact ⟨k + 1, by omega, by go_num, by rw [HST.out, ← ByteArray.append_assoc], HB9.out⟩
        case measure => simp [intOf]; omega
      · have hdl : decide ((k : Int) < (M.length : Int)) = false := decide_eq_false (by omega)
        obtain rfl : k = M.length := by omega
        have HL := Lib.hid (show P ++ catL (M.take M.length) = bytesT ((x0, x1), x2, x3, x4, x5, x6, (x7, x8), x9, x10, x11, x12, M) from by rw [HE.out, HPRE.out, List.take_length])
        clear hB
        rw [HL.out]
        go_wp2
        go_ret
        exact ⟨rfl, HB.out⟩
end Go.Proofs.YtelhmacfljffhabGreat.RepC
end
