/- The program: a task's state, live tasks: contracts (YaD1 without the yard). -/
import Derived.Test.YtmmnkdilnlhbfaaTk
import Derived.Test.YtmmnkdilnlhbfaaTaR2
import Derived.Test.YtmmnkdilnlhbfaaTaL0
namespace Go.Proofs.Ytmmnkdilnlhbfaa.RepC
open Go.RowKit RowC ValC SpanC KeptC NameC
set_option linter.unusedVariables false
set_option linter.unusedSimpArgs false

set_option maxRecDepth 100000 in
set_option maxHeartbeats 1600000 in
theorem waitsI_at {x0 x1 x2 : Int} {x3 : ByteArray} {x4 x5 x6 x7 x8 x9 x10 x11 x12 : Int} {M : List Int} {ma : Option Addr} {mc : Nat} {b : Bool} (hb : (x11 == 1) = b) (W : World) : Calls Try.prog 112 #[.agg #[.int .i64 x0, .int .i64 x1, .int .i64 x2, .string x3, .int .i64 x4, .int .i64 x5, .int .i64 x6, .int .i64 x7, .int .i64 x8, .int .i64 x9, .int .i64 x10, .int .i64 x11, .int .i64 x12, .slice ma M.length mc]] W fun e w' => e = .returned (.bool b) ∧ Below W.heap.size W w' := by
  have HB0 := Lib.hid (show Below W.heap.size W (W.alloc (.cells #[.int .i64 x0, .int .i64 x1, .int .i64 x2, .string x3, .int .i64 x4, .int .i64 x5, .int .i64 x6, .int .i64 x7, .int .i64 x8, .int .i64 x9, .int .i64 x10, .int .i64 x11, .int .i64 x12, .slice ma M.length mc] 54)) from (Below.refl _ _).alloc (Nat.le_refl _) _)
  go_enter Try.func112, Try.ntmps112
  go_wp2
  go_ret
  exact ⟨by first | rfl | (rw [← hb]; rfl) | simp [hb], HB0.out⟩
set_option maxRecDepth 100000 in
set_option maxHeartbeats 1600000 in
theorem runsI_at {x0 x1 x2 : Int} {x3 : ByteArray} {x4 x5 x6 x7 x8 x9 x10 x11 x12 : Int} {M : List Int} {ma : Option Addr} {mc : Nat} {b : Bool} (hb : (x11 == 2) = b) (W : World) : Calls Try.prog 131 #[.agg #[.int .i64 x0, .int .i64 x1, .int .i64 x2, .string x3, .int .i64 x4, .int .i64 x5, .int .i64 x6, .int .i64 x7, .int .i64 x8, .int .i64 x9, .int .i64 x10, .int .i64 x11, .int .i64 x12, .slice ma M.length mc]] W fun e w' => e = .returned (.bool b) ∧ Below W.heap.size W w' := by
  have HB0 := Lib.hid (show Below W.heap.size W (W.alloc (.cells #[.int .i64 x0, .int .i64 x1, .int .i64 x2, .string x3, .int .i64 x4, .int .i64 x5, .int .i64 x6, .int .i64 x7, .int .i64 x8, .int .i64 x9, .int .i64 x10, .int .i64 x11, .int .i64 x12, .slice ma M.length mc] 54)) from (Below.refl _ _).alloc (Nat.le_refl _) _)
  go_enter Try.func131, Try.ntmps131
  go_wp2
  go_ret
  exact ⟨by first | rfl | (rw [← hb]; rfl) | simp [hb], HB0.out⟩
set_option maxRecDepth 100000 in
set_option maxHeartbeats 1600000 in
theorem heldI_at {x0 x1 x2 : Int} {x3 : ByteArray} {x4 x5 x6 x7 x8 x9 x10 x11 x12 : Int} {M : List Int} {ma : Option Addr} {mc : Nat} {b : Bool} (hb : (x11 == 3) = b) (W : World) : Calls Try.prog 132 #[.agg #[.int .i64 x0, .int .i64 x1, .int .i64 x2, .string x3, .int .i64 x4, .int .i64 x5, .int .i64 x6, .int .i64 x7, .int .i64 x8, .int .i64 x9, .int .i64 x10, .int .i64 x11, .int .i64 x12, .slice ma M.length mc]] W fun e w' => e = .returned (.bool b) ∧ Below W.heap.size W w' := by
  have HB0 := Lib.hid (show Below W.heap.size W (W.alloc (.cells #[.int .i64 x0, .int .i64 x1, .int .i64 x2, .string x3, .int .i64 x4, .int .i64 x5, .int .i64 x6, .int .i64 x7, .int .i64 x8, .int .i64 x9, .int .i64 x10, .int .i64 x11, .int .i64 x12, .slice ma M.length mc] 54)) from (Below.refl _ _).alloc (Nat.le_refl _) _)
  go_enter Try.func132, Try.ntmps132
  go_wp2
  go_ret
  exact ⟨by first | rfl | (rw [← hb]; rfl) | simp [hb], HB0.out⟩
set_option maxRecDepth 100000 in
set_option maxHeartbeats 1600000 in
theorem liveI_at {x0 x1 x2 : Int} {x3 : ByteArray} {x4 x5 x6 x7 x8 x9 x10 x11 x12 : Int} {M : List Int} {ma : Option Addr} {mc : Nat} {W : World} : Calls Try.prog 111 #[.agg #[.int .i64 x0, .int .i64 x1, .int .i64 x2, .string x3, .int .i64 x4, .int .i64 x5, .int .i64 x6, .int .i64 x7, .int .i64 x8, .int .i64 x9, .int .i64 x10, .int .i64 x11, .int .i64 x12, .slice ma M.length mc]] W fun e w' => e = .returned (.bool (isB x11 1 3)) ∧ Below W.heap.size W w' := by
  obtain ⟨w0, hw0⟩ : ∃ w, w = W.alloc (.cells #[.int .i64 x0, .int .i64 x1, .int .i64 x2, .string x3, .int .i64 x4, .int .i64 x5, .int .i64 x6, .int .i64 x7, .int .i64 x8, .int .i64 x9, .int .i64 x10, .int .i64 x11, .int .i64 x12, .slice ma M.length mc] 54) := ⟨_, rfl⟩
  have HB0 := Lib.hid (show Below W.heap.size W w0 from by rw [hw0]; exact (Below.refl _ _).alloc (Nat.le_refl _) _)
  have X0 := Lib.hid (show Blk w0 W.heap.size 54 #[.int .i64 x0, .int .i64 x1, .int .i64 x2, .string x3, .int .i64 x4, .int .i64 x5, .int .i64 x6, .int .i64 x7, .int .i64 x8, .int .i64 x9, .int .i64 x10, .int .i64 x11, .int .i64 x12, .slice ma M.length mc] from by rw [hw0]; exact Blk.new _ _ _)
  go_enter Try.func111, Try.ntmps111
  go_wp2_with fail
  rw [← hw0]
  clear hw0
  obtain ⟨b0, hb0⟩ : ∃ b, (x11 == 1) = b := ⟨_, rfl⟩
  refine (waitsI_at hb0 _).mono ?_
  rintro e w1 ⟨rfl, hb⟩
  have HB1 := Lib.hid (HB0.out.trans (hb.mono HB0.out.size))
  have X1 := Lib.hid (X0.out.call hb)
  clear hb
  have HE0 := Lib.hid hb0
  clear hb0
  cases b0 with
  | true =>
    have HV := Lib.hid (show (isB x11 1 3) = true from by have h0 := HE0.out; simp only [beq_iff_eq, beq_eq_false_iff_ne, ne_eq] at *; rw [isB_iff]; omega)
    go_wp2
    go_ret
    exact ⟨by first | (rw [HV.out]; done) | (rw [HV.out]; rfl), HB1.out⟩
  | false =>
    have p0 := X1.out.at_ 0 rfl
    have p1 := X1.out.at_ 1 rfl
    have p2 := X1.out.at_ 2 rfl
    have p3 := X1.out.at_ 3 rfl
    have p4 := X1.out.at_ 4 rfl
    have p5 := X1.out.at_ 5 rfl
    have p6 := X1.out.at_ 6 rfl
    have p7 := X1.out.at_ 7 rfl
    have p8 := X1.out.at_ 8 rfl
    have p9 := X1.out.at_ 9 rfl
    have p10 := X1.out.at_ 10 rfl
    have p11 := X1.out.at_ 11 rfl
    have p12 := X1.out.at_ 12 rfl
    have p13 := X1.out.at_ 13 rfl
    obtain ⟨b1, hb1⟩ : ∃ b, (x11 == 2) = b := ⟨_, rfl⟩
    go_wp2_with fail
    refine (runsI_at hb1 _).mono ?_
    rintro e w2 ⟨rfl, hb⟩
    have HB2 := Lib.hid (HB1.out.trans (hb.mono HB1.out.size))
    have X2 := Lib.hid (X1.out.call hb)
    clear hb
    clear p0 p1 p2 p3 p4 p5 p6 p7 p8 p9 p10 p11 p12 p13
    have HE1 := Lib.hid hb1
    clear hb1
    cases b1 with
    | true =>
      have HV := Lib.hid (show (isB x11 1 3) = true from by have h0 := HE0.out; have h1 := HE1.out; simp only [beq_iff_eq, beq_eq_false_iff_ne, ne_eq] at *; rw [isB_iff]; omega)
      go_wp2
      go_ret
      exact ⟨by first | (rw [HV.out]; done) | (rw [HV.out]; rfl), HB2.out⟩
    | false =>
      have p0 := X2.out.at_ 0 rfl
      have p1 := X2.out.at_ 1 rfl
      have p2 := X2.out.at_ 2 rfl
      have p3 := X2.out.at_ 3 rfl
      have p4 := X2.out.at_ 4 rfl
      have p5 := X2.out.at_ 5 rfl
      have p6 := X2.out.at_ 6 rfl
      have p7 := X2.out.at_ 7 rfl
      have p8 := X2.out.at_ 8 rfl
      have p9 := X2.out.at_ 9 rfl
      have p10 := X2.out.at_ 10 rfl
      have p11 := X2.out.at_ 11 rfl
      have p12 := X2.out.at_ 12 rfl
      have p13 := X2.out.at_ 13 rfl
      obtain ⟨b2, hb2⟩ : ∃ b, (x11 == 3) = b := ⟨_, rfl⟩
      go_wp2_with fail
      refine (heldI_at hb2 _).mono ?_
      rintro e w3 ⟨rfl, hb⟩
      have HB3 := Lib.hid (HB2.out.trans (hb.mono HB2.out.size))
      have X3 := Lib.hid (X2.out.call hb)
      clear hb
      clear p0 p1 p2 p3 p4 p5 p6 p7 p8 p9 p10 p11 p12 p13
      have HE2 := Lib.hid hb2
      clear hb2
      cases b2 with
      | true =>
        have HV := Lib.hid (show (isB x11 1 3) = true from by have h0 := HE0.out; have h1 := HE1.out; have h2 := HE2.out; simp only [beq_iff_eq, beq_eq_false_iff_ne, ne_eq] at *; rw [isB_iff]; omega)
        go_wp2
        go_ret
        exact ⟨by first | (rw [HV.out]; done) | (rw [HV.out]; rfl), HB3.out⟩
      | false =>
        have HV := Lib.hid (show (isB x11 1 3) = false from by have h0 := HE0.out; have h1 := HE1.out; have h2 := HE2.out; simp only [beq_iff_eq, beq_eq_false_iff_ne, ne_eq] at *; rw [Bool.eq_false_iff, ne_eq, isB_iff]; omega)
        go_wp2
        go_ret
        exact ⟨by first | (rw [HV.out]; done) | (rw [HV.out]; rfl), HB3.out⟩
set_option maxRecDepth 100000 in
set_option maxHeartbeats 3200000 in
theorem livein_impl {L : List D_Task} {a : Option Addr} {cap : Nat} {l0 l1 : Int} {W : World} (hn96 : L.length ≤ 96) (h : RdSl R_Task W W.heap.size L a cap) :
    Calls Try.prog 69 #[.slice a L.length cap, .agg #[.int .i64 l0, .int .i64 l1]] W (fun e w' => e = .returned (.int .i64 (liveTo L (l0, l1) L.length : Nat)) ∧ Below W.heap.size W w') := by
  have H := Lib.hid h
  clear h
  obtain ⟨wa, hwa⟩ : ∃ w, w = W.alloc (.cells #[.int .i64 l0, .int .i64 l1] 38) := ⟨_, rfl⟩
  have HBA := Lib.hid (show Below W.heap.size W wa from by rw [hwa]; exact (Below.refl _ _).alloc (Nat.le_refl _) _)
  have HPA := Lib.hid (show Blk wa W.heap.size 38 #[.int .i64 l0, .int .i64 l1] from by rw [hwa]; exact Blk.new _ _ _)
  have HA := Lib.hid ((H.out.below R_Task_ok HBA.out).more R_Task_ok HBA.out.size)
  go_enter Try.func69, Try.ntmps69
  go_wp2_with fail
  rw [← hwa]
  clear hwa
  go_loopw [5, 10] (fun q i wr => ∃ k : Nat, k ≤ L.length ∧ i = .int .i64 k ∧ q = .int .i64 (liveTo L (l0, l1) k) ∧ Below wa.heap.size wa wr) (fun _ i _ => L.length - (intOf i).toNat)
  case atStart => exact ⟨0, Nat.zero_le _, rfl, by rw [liveTo_zero]; rfl, Below.refl _ _⟩
  case round =>
      obtain ⟨k, hk, rfl, rfl, hB⟩ := hrel
      have HB := Lib.hid hB
      have HBW := Lib.hid (HBA.out.trans (hB.mono HBA.out.size))
      have hsz := hB.size
      by_cases hlt : k < L.length
      · have hdl : decide ((k : Int) < (L.length : Int)) = true := decide_eq_true (by omega)
        obtain ⟨⟨⟨x0, x1⟩, x2, x3, x4, x5, x6, ⟨x7, x8⟩, x9, x10, x11, x12, M⟩, hx⟩ := el_some hlt
        have HX := Lib.hid hx
        obtain ⟨g, o, us, rfl, hg, hu, hr⟩ := (HA.out.below R_Task_ok hB).at_ hx
        obtain ⟨ma, mc, rfl, k_M, b_x3⟩ := rd_Task hr
        have e0 : wr.cell? ⟨g, o + k * 14, none⟩ = some (.int .i64 x0) := by simpa [size_TaskS, Nat.add_assoc] using hu 0 _ rfl
        have e1 : wr.cell? ⟨g, o + k * 14 + 1, none⟩ = some (.int .i64 x1) := by simpa [size_TaskS, Nat.add_assoc] using hu 1 _ rfl
        have e2 : wr.cell? ⟨g, o + k * 14 + 2, none⟩ = some (.int .i64 x2) := by simpa [size_TaskS, Nat.add_assoc] using hu 2 _ rfl
        have e3 : wr.cell? ⟨g, o + k * 14 + 3, none⟩ = some (.string x3) := by simpa [size_TaskS, Nat.add_assoc] using hu 3 _ rfl
        have e4 : wr.cell? ⟨g, o + k * 14 + 4, none⟩ = some (.int .i64 x4) := by simpa [size_TaskS, Nat.add_assoc] using hu 4 _ rfl
        have e5 : wr.cell? ⟨g, o + k * 14 + 5, none⟩ = some (.int .i64 x5) := by simpa [size_TaskS, Nat.add_assoc] using hu 5 _ rfl
        have e6 : wr.cell? ⟨g, o + k * 14 + 6, none⟩ = some (.int .i64 x6) := by simpa [size_TaskS, Nat.add_assoc] using hu 6 _ rfl
        have e7 : wr.cell? ⟨g, o + k * 14 + 7, none⟩ = some (.int .i64 x7) := by simpa [size_TaskS, Nat.add_assoc] using hu 7 _ rfl
        have e8 : wr.cell? ⟨g, o + k * 14 + 8, none⟩ = some (.int .i64 x8) := by simpa [size_TaskS, Nat.add_assoc] using hu 8 _ rfl
        have e9 : wr.cell? ⟨g, o + k * 14 + 9, none⟩ = some (.int .i64 x9) := by simpa [size_TaskS, Nat.add_assoc] using hu 9 _ rfl
        have e10 : wr.cell? ⟨g, o + k * 14 + 10, none⟩ = some (.int .i64 x10) := by simpa [size_TaskS, Nat.add_assoc] using hu 10 _ rfl
        have e11 : wr.cell? ⟨g, o + k * 14 + 11, none⟩ = some (.int .i64 x11) := by simpa [size_TaskS, Nat.add_assoc] using hu 11 _ rfl
        have e12 : wr.cell? ⟨g, o + k * 14 + 12, none⟩ = some (.int .i64 x12) := by simpa [size_TaskS, Nat.add_assoc] using hu 12 _ rfl
        have e13 : wr.cell? ⟨g, o + k * 14 + 13, none⟩ = some (.slice ma M.length mc) := by simpa [size_TaskS, Nat.add_assoc] using hu 13 _ rfl
        have HPR := Lib.hid (HPA.out.call hB)
        have hi0 : (0 : Int) ≤ (k : Int) := Int.natCast_nonneg _
        have hi1 : (k : Int) < (L.length : Int) := by omega
        have hle := liveTo_le (L := L) (a := (l0, l1)) k
        obtain ⟨n, hnn⟩ : ∃ n, liveTo L (l0, l1) k = n := ⟨_, rfl⟩
        have HNN := Lib.hid hnn
        rw [hnn] at hle
        rw [hnn]
        have hnw : IntKind.i64.wrap ((n : Int) + 1) = (n : Int) + 1 := IntWalk.i64_in _ (by omega)
        clear hnn
        obtain ⟨b, hb⟩ : ∃ b, decide (((x0, x1) : Int × Int) = (l0, l1)) = b := ⟨_, rfl⟩
        have hq := eql_lab x0 x1 l0 l1 b hb
        obtain ⟨c, hc⟩ : ∃ c, isB x11 1 3 = c := ⟨_, rfl⟩
        have HLV := Lib.hid (show liveB ((x0, x1), x2, x3, x4, x5, x6, (x7, x8), x9, x10, x11, x12, M) (l0, l1) = (b && c) from by rw [← hb, ← hc]; rfl)
        have HC := Lib.hid hc
        clear hu hr hg hB hx k_M hb hc
        obtain ⟨w2, hw2⟩ : ∃ w, w = wr.alloc (.cells #[.int .i64 x0, .int .i64 x1, .int .i64 x2, .string x3, .int .i64 x4, .int .i64 x5, .int .i64 x6, .int .i64 x7, .int .i64 x8, .int .i64 x9, .int .i64 x10, .int .i64 x11, .int .i64 x12, .slice ma M.length mc] 54) := ⟨_, rfl⟩
        have hb2 : Below wr.heap.size wr w2 := by rw [hw2]; exact (Below.refl _ _).alloc (Nat.le_refl _) _
        have HB2 := Lib.hid (HB.out.trans (hb2.mono hsz))
        have HP2 := Lib.hid (show Blk w2 wr.heap.size 54 #[.int .i64 x0, .int .i64 x1, .int .i64 x2, .string x3, .int .i64 x4, .int .i64 x5, .int .i64 x6, .int .i64 x7, .int .i64 x8, .int .i64 x9, .int .i64 x10, .int .i64 x11, .int .i64 x12, .slice ma M.length mc] from by rw [hw2]; exact Blk.new _ _ _)
        have HQ2 := Lib.hid (HPR.out.call hb2)
        go_upto_region 5 with fail
        rw [← hw2]
        clear hw2 hb2 e0 e1 e2 e3 e4 e5 e6 e7 e8 e9 e10 e11 e12 e13
        have a0 := HQ2.out.at_ 0 rfl
        have a1 := HQ2.out.at_ 1 rfl
        have q0 := HP2.out.at_ 0 rfl
        have q1 := HP2.out.at_ 1 rfl
        have q2 := HP2.out.at_ 2 rfl
        have q3 := HP2.out.at_ 3 rfl
        have q4 := HP2.out.at_ 4 rfl
        have q5 := HP2.out.at_ 5 rfl
        have q6 := HP2.out.at_ 6 rfl
        have q7 := HP2.out.at_ 7 rfl
        have q8 := HP2.out.at_ 8 rfl
        have q9 := HP2.out.at_ 9 rfl
        have q10 := HP2.out.at_ 10 rfl
        have q11 := HP2.out.at_ 11 rfl
        have q12 := HP2.out.at_ 12 rfl
        have q13 := HP2.out.at_ 13 rfl
        cases b with
        | false =>
          have HT := Lib.hid (liveTo_no HX.out (by rw [HLV.out]; rfl))
          have HB9 := HB2
          go_wp2
          go_roundw
          case rel => exact ⟨k + 1, by omega, by go_num, by first | (rw [HT.out, HNN.out]; done) | (rw [HT.out, HNN.out]; rfl) | (rw [HT.out, HNN.out]; go_num), HB9.out⟩
          case measure => simp [intOf]; omega
        | true =>
          go_wp2_with fail
          refine (liveI_at (x11 := x11)).mono ?_
          rintro e w3 ⟨rfl, hb⟩
          rw [HC.out]
          have HB9 := Lib.hid (HB2.out.trans (hb.mono HB2.out.size))
          clear hb
          cases c with
          | false =>
            have HT := Lib.hid (liveTo_no HX.out (by rw [HLV.out]; rfl))
            go_wp2
            go_roundw
            case rel => exact ⟨k + 1, by omega, by go_num, by first | (rw [HT.out, HNN.out]; done) | (rw [HT.out, HNN.out]; rfl) | (rw [HT.out, HNN.out]; go_num), HB9.out⟩
            case measure => simp [intOf]; omega
          | true =>
            have HT := Lib.hid (liveTo_yes HX.out (by rw [HLV.out]; rfl))
            go_wp2
            go_roundw
            case rel => exact ⟨k + 1, by omega, by go_num, by first | (rw [HT.out, HNN.out]; done) | (rw [HT.out, HNN.out]; rfl) | (rw [HT.out, HNN.out]; go_num), HB9.out⟩
            case measure => simp [intOf]; omega
      · have hdl : decide ((k : Int) < (L.length : Int)) = false := decide_eq_false (by omega)
        obtain rfl : k = L.length := by omega
        clear hB
        go_wp2
        go_ret
        exact ⟨rfl, HBW.out⟩
end Go.Proofs.Ytmmnkdilnlhbfaa.RepC
