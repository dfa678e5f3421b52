/- The laws' data: contracts. -/
import Derived.Test.YtmmnkdilnlhbfaaTk
import Derived.Test.YtmmnkdilnlhbfaaTk
import Derived.Test.YtmmnkdilnlhbfaaTaT
import Derived.Test.YtmmnkdilnlhbfaaHeld
import Derived.Test.YtmmnkdilnlhbfaaTk
namespace Go.Proofs.Ytmmnkdilnlhbfaa.RepC
open Go.RowKit RowC ValC
set_option linter.unusedVariables false
set_option linter.unusedSimpArgs false

theorem mmk_Task {k kk0 : Int} {L0 : List (Int)} (m_L0 : mmL I L0 (k + 1 + 1 + 1 + 1 + 1 + 1 + 1 + 1 + 1 + 1 + 1 + 1 + 1) kk0) : R_Task.mm ((k, k + 1), k + 1 + 1, (mtI (k + 1 + 1 + 1)), k + 1 + 1 + 1 + 1, k + 1 + 1 + 1 + 1 + 1, k + 1 + 1 + 1 + 1 + 1 + 1, (k + 1 + 1 + 1 + 1 + 1 + 1 + 1, k + 1 + 1 + 1 + 1 + 1 + 1 + 1 + 1), k + 1 + 1 + 1 + 1 + 1 + 1 + 1 + 1 + 1, k + 1 + 1 + 1 + 1 + 1 + 1 + 1 + 1 + 1 + 1, k + 1 + 1 + 1 + 1 + 1 + 1 + 1 + 1 + 1 + 1 + 1, k + 1 + 1 + 1 + 1 + 1 + 1 + 1 + 1 + 1 + 1 + 1 + 1, L0) k (kk0) := by
  dsimp only [R_Task, R_Label, St, Pr, I, atom, Sl]
  exact ⟨k + 1 + 1, ⟨k + 1, ⟨by omega, by omega⟩, ⟨by omega, by omega⟩⟩, ⟨k + 1 + 1 + 1, ⟨by omega, by omega⟩, ⟨k + 1 + 1 + 1 + 1, ⟨rfl, by omega⟩, ⟨k + 1 + 1 + 1 + 1 + 1, ⟨by omega, by omega⟩, ⟨k + 1 + 1 + 1 + 1 + 1 + 1, ⟨by omega, by omega⟩, ⟨k + 1 + 1 + 1 + 1 + 1 + 1 + 1, ⟨by omega, by omega⟩, ⟨k + 1 + 1 + 1 + 1 + 1 + 1 + 1 + 1 + 1, ⟨k + 1 + 1 + 1 + 1 + 1 + 1 + 1 + 1, ⟨by omega, by omega⟩, ⟨by omega, by omega⟩⟩, ⟨k + 1 + 1 + 1 + 1 + 1 + 1 + 1 + 1 + 1 + 1, ⟨by omega, by omega⟩, ⟨k + 1 + 1 + 1 + 1 + 1 + 1 + 1 + 1 + 1 + 1 + 1, ⟨by omega, by omega⟩, ⟨k + 1 + 1 + 1 + 1 + 1 + 1 + 1 + 1 + 1 + 1 + 1 + 1, ⟨by omega, by omega⟩, ⟨k + 1 + 1 + 1 + 1 + 1 + 1 + 1 + 1 + 1 + 1 + 1 + 1 + 1, ⟨by omega, by omega⟩, m_L0⟩⟩⟩⟩⟩⟩⟩⟩⟩⟩⟩
theorem mme_Task {k k' : Int} {x0 : Int} {x1 : Int} {x2 : Int} {x3 : ByteArray} {x4 : Int} {x5 : Int} {x6 : Int} {x7 : Int} {x8 : Int} {x9 : Int} {x10 : Int} {x11 : Int} {x12 : Int} {L0 : List (Int)} (h : R_Task.mm ((x0, x1), x2, x3, x4, x5, x6, (x7, x8), x9, x10, x11, x12, L0) k k') : ∃ kk0, x0 = k ∧ x1 = k + 1 ∧ x2 = k + 1 + 1 ∧ x3 = mtI (k + 1 + 1 + 1) ∧ x4 = k + 1 + 1 + 1 + 1 ∧ x5 = k + 1 + 1 + 1 + 1 + 1 ∧ x6 = k + 1 + 1 + 1 + 1 + 1 + 1 ∧ x7 = k + 1 + 1 + 1 + 1 + 1 + 1 + 1 ∧ x8 = k + 1 + 1 + 1 + 1 + 1 + 1 + 1 + 1 ∧ x9 = k + 1 + 1 + 1 + 1 + 1 + 1 + 1 + 1 + 1 ∧ x10 = k + 1 + 1 + 1 + 1 + 1 + 1 + 1 + 1 + 1 + 1 ∧ x11 = k + 1 + 1 + 1 + 1 + 1 + 1 + 1 + 1 + 1 + 1 + 1 ∧ x12 = k + 1 + 1 + 1 + 1 + 1 + 1 + 1 + 1 + 1 + 1 + 1 + 1 ∧ mmL I L0 (k + 1 + 1 + 1 + 1 + 1 + 1 + 1 + 1 + 1 + 1 + 1 + 1 + 1) kk0 ∧ k' = kk0 := by
  dsimp only [R_Task, R_Label, St, Pr, I, atom, Sl] at h
  obtain ⟨z1, h1, g1⟩ := h
  obtain ⟨z2, h2, g2⟩ := h1
  obtain ⟨e0, f0⟩ := h2
  have e0 : x0 = _ := e0
  obtain ⟨e1, f1⟩ := g2
  have e1 : x1 = _ := e1
  obtain ⟨z3, h3, g3⟩ := g1
  obtain ⟨e2, f2⟩ := h3
  have e2 : x2 = _ := e2
  obtain ⟨z4, h4, g4⟩ := g3
  obtain ⟨e3, f3⟩ := h4
  have e3 : x3 = _ := e3
  obtain ⟨z5, h5, g5⟩ := g4
  obtain ⟨e4, f4⟩ := h5
  have e4 : x4 = _ := e4
  obtain ⟨z6, h6, g6⟩ := g5
  obtain ⟨e5, f5⟩ := h6
  have e5 : x5 = _ := e5
  obtain ⟨z7, h7, g7⟩ := g6
  obtain ⟨e6, f6⟩ := h7
  have e6 : x6 = _ := e6
  obtain ⟨z8, h8, g8⟩ := g7
  obtain ⟨z9, h9, g9⟩ := h8
  obtain ⟨e7, f7⟩ := h9
  have e7 : x7 = _ := e7
  obtain ⟨e8, f8⟩ := g9
  have e8 : x8 = _ := e8
  obtain ⟨z10, h10, g10⟩ := g8
  obtain ⟨e9, f9⟩ := h10
  have e9 : x9 = _ := e9
  obtain ⟨z11, h11, g11⟩ := g10
  obtain ⟨e10, f10⟩ := h11
  have e10 : x10 = _ := e10
  obtain ⟨z12, h12, g12⟩ := g11
  obtain ⟨e11, f11⟩ := h12
  have e11 : x11 = _ := e11
  obtain ⟨z13, h13, g13⟩ := g12
  obtain ⟨e12, f12⟩ := h13
  have e12 : x12 = _ := e12
  have m_L0 : mmL I L0 _ _ := g13
  exact ⟨_, by omega, by omega, by omega, by rw [e3]; exact congrArg mtI (by omega), by omega, by omega, by omega, by omega, by omega, by omega, by omega, by omega, by omega, cast_mm m_L0 (by omega) rfl, by omega⟩
theorem R_Task_mn : Mn R_Task := (Pr_mn R_Label_mn (Pr_mn I_mn (Pr_mn St_mn (Pr_mn I_mn (Pr_mn I_mn (Pr_mn I_mn (Pr_mn R_Label_mn (Pr_mn I_mn (Pr_mn I_mn (Pr_mn I_mn (Pr_mn I_mn (Sl_mn I_mn))))))))))))


theorem sizm_TaskS : (R_Task).size = 14 := rfl
set_option maxRecDepth 100000 in
set_option maxHeartbeats 3200000 in
theorem mark_TaskS {L : List (D_Task)} {a : Option Addr} {cap : Nat} {W : World} {S : Nat → Prop} {k : Int} (h0 : 0 ≤ k) (h1 : k + (sumL (R_Task).cm L : Nat) ≤ 4611686018427387904) (hS : ∀ i, S i → i < W.heap.size) (h : OwSl R_Task W S L a cap) : Calls Try.prog 29 #[.slice a L.length cap, .int .i64 k] W (MarkR R_Task S L a cap k W) := by
  have hcap := h.1
  have hmax := h.2.1
  have hn : L.length ≤ 9223372036854775807 := by have h2 := h.2.1; unfold maxLen at h2; omega
  have H := Lib.hid h
  have HCAP := Lib.hid hcap
  have HMAX := Lib.hid hmax
  clear h hcap hmax
  rcases Nat.eq_zero_or_pos L.length with hz | hpos
  · have HR := Lib.hid (MarkR.none_ (k := k) H.out hz)
    have HZ := Lib.hid hz
    rw [hz]
    clear hz
    go_enter Try.func29, Try.ntmps29
    go_wp2
    go_loopw [5, 1] (fun i q wr => i = .int .i64 0 ∧ q = .int .i64 k ∧ wr = W) (fun i _ _ => 0)
    case atStart => exact ⟨rfl, rfl, rfl⟩
    case round =>
      obtain ⟨rfl, rfl, rfl⟩ := hrel
      go_wp2
      go_ret
      exact HR.out
  · obtain ⟨g, Sf, rfl, hrow⟩ := H.out.row hpos
    have HM := Lib.hid (Mkd.start (k := k) hrow)
    clear hrow
    go_enter Try.func29, Try.ntmps29
    go_wp2
    go_loopw [5, 1] (fun i q wr => ∃ j : Nat, j ≤ L.length ∧ i = .int .i64 j ∧ ∃ (M : List (D_Task)) (z : Int), q = .int .i64 z ∧ Mkd R_Task W wr S L g Sf k z j M) (fun i _ _ => L.length - (intOf i).toNat)
    case atStart => exact ⟨0, Nat.zero_le _, rfl, _, _, rfl, HM.out⟩
    case round =>
      obtain ⟨j, hj, rfl, M, z, rfl, hM⟩ := hrel
      have HM2 := Lib.hid hM
      have hSw : ∀ i, S i → i < wr.heap.size := fun i hi => Nat.lt_of_lt_of_le (hS i hi) hM.off.size
      have HSW := Lib.hid hSw
      by_cases hlt : j < L.length
      · obtain ⟨⟨⟨x0, x1⟩, x2, x3, x4, x5, x6, ⟨x7, x8⟩, x9, x10, x11, x12, L0⟩, hx⟩ := el_some hlt
        have HX := Lib.hid hx
        have hcm := sumL_take (R_Task).cm hx
        have hle := sumL_take_le (R_Task).cm L (j + 1)
        have hnum := hM.num
        obtain ⟨us, hu, hr⟩ := hM.el hx
        obtain ⟨a0, c0, T0, rfl, ts0, k_L0, b_x3⟩ := ow_Task hr
        have hgl : g < wr.heap.size := hSw g hM.row.own
        have hi0 : (0 : Int) ≤ (j : Int) := Int.natCast_nonneg _
        have hi1 : (j : Int) < (L.length : Int) := by omega
        have hz0 : 0 ≤ z := by omega
        have e0 : wr.cell? ⟨g, j * 14, none⟩ = some (.int .i64 x0) := by simpa [sizm_TaskS, Nat.add_assoc] using hu 0 _ rfl
        have e1 : wr.cell? ⟨g, j * 14 + 1, none⟩ = some (.int .i64 x1) := by simpa [sizm_TaskS, Nat.add_assoc] using hu 1 _ rfl
        have e2 : wr.cell? ⟨g, j * 14 + 2, none⟩ = some (.int .i64 x2) := by simpa [sizm_TaskS, Nat.add_assoc] using hu 2 _ rfl
        have e3 : wr.cell? ⟨g, j * 14 + 3, none⟩ = some (.string x3) := by simpa [sizm_TaskS, Nat.add_assoc] using hu 3 _ rfl
        have e4 : wr.cell? ⟨g, j * 14 + 4, none⟩ = some (.int .i64 x4) := by simpa [sizm_TaskS, Nat.add_assoc] using hu 4 _ rfl
        have e5 : wr.cell? ⟨g, j * 14 + 5, none⟩ = some (.int .i64 x5) := by simpa [sizm_TaskS, Nat.add_assoc] using hu 5 _ rfl
        have e6 : wr.cell? ⟨g, j * 14 + 6, none⟩ = some (.int .i64 x6) := by simpa [sizm_TaskS, Nat.add_assoc] using hu 6 _ rfl
        have e7 : wr.cell? ⟨g, j * 14 + 7, none⟩ = some (.int .i64 x7) := by simpa [sizm_TaskS, Nat.add_assoc] using hu 7 _ rfl
        have e8 : wr.cell? ⟨g, j * 14 + 8, none⟩ = some (.int .i64 x8) := by simpa [sizm_TaskS, Nat.add_assoc] using hu 8 _ rfl
        have e9 : wr.cell? ⟨g, j * 14 + 9, none⟩ = some (.int .i64 x9) := by simpa [sizm_TaskS, Nat.add_assoc] using hu 9 _ rfl
        have e10 : wr.cell? ⟨g, j * 14 + 10, none⟩ = some (.int .i64 x10) := by simpa [sizm_TaskS, Nat.add_assoc] using hu 10 _ rfl
        have e11 : wr.cell? ⟨g, j * 14 + 11, none⟩ = some (.int .i64 x11) := by simpa [sizm_TaskS, Nat.add_assoc] using hu 11 _ rfl
        have e12 : wr.cell? ⟨g, j * 14 + 12, none⟩ = some (.int .i64 x12) := by simpa [sizm_TaskS, Nat.add_assoc] using hu 12 _ rfl
        have e13 : wr.cell? ⟨g, j * 14 + 13, none⟩ = some (.slice a0 L0.length c0) := by simpa [sizm_TaskS, Nat.add_assoc] using hu 13 _ rfl
        have s0 := hM.row.soft (j * 14)
        have s1 := hM.row.soft (j * 14 + 1)
        have s2 := hM.row.soft (j * 14 + 2)
        have s3 := hM.row.soft (j * 14 + 3)
        have s4 := hM.row.soft (j * 14 + 4)
        have s5 := hM.row.soft (j * 14 + 5)
        have s6 := hM.row.soft (j * 14 + 6)
        have s7 := hM.row.soft (j * 14 + 7)
        have s8 := hM.row.soft (j * 14 + 8)
        have s9 := hM.row.soft (j * 14 + 9)
        have s10 := hM.row.soft (j * 14 + 10)
        have s11 := hM.row.soft (j * 14 + 11)
        have s12 := hM.row.soft (j * 14 + 12)
        have s13 := hM.row.soft (j * 14 + 13)
        have hcx : R_Task.cm ((x0, x1), x2, x3, x4, x5, x6, (x7, x8), x9, x10, x11, x12, L0) = 13 + sumL (I).cm L0 := by first | (simp only [R_Task, R_Label, R_Label, Pr, I, St, atom, Sl]; done) | (simp only [R_Task, R_Label, R_Label, Pr, I, St, atom, Sl]; omega)
        rw [hcm, hcx] at hle
        have hb1 : z + ((13 + sumL (I).cm L0 : Nat) : Int) ≤ 4611686018427387904 := by omega
        have hne : ¬ Sf j g := fun hg => (HM2.out.row.sub j g hg).2 rfl
        have K_L0 := Lib.hid k_L0
        have TS0 := Lib.hid ts0
        have HU0 := Lib.hid (Upd.refl wr g (j * 14) ((j + 1) * 14) (Sf j))
        have HF0 := Lib.hid (Off.refl S wr)
        clear hM hSw hx hu hcm hle hnum k_L0 ts0
        have hc := putCells_cells g [.int .i64 (z), .int .i64 (z + 1), .int .i64 (z + 1 + 1)] wr (j * 14) (fun p hp => by
          match p, hp with
          | 0, _ => exact ⟨_, by simpa [Nat.add_assoc] using e0⟩
          | 1, _ => exact ⟨_, by simpa [Nat.add_assoc] using e1⟩
          | 2, _ => exact ⟨_, by simpa [Nat.add_assoc] using e2⟩
          | _ + 3, hp => simp at hp; omega)
        have d0 : (putCells wr g (j * 14) [.int .i64 (z), .int .i64 (z + 1), .int .i64 (z + 1 + 1)]).cell? ⟨g, j * 14, none⟩ = some (.int .i64 (z)) := by simpa [Nat.add_assoc] using hc 0 _ rfl
        have d1 : (putCells wr g (j * 14) [.int .i64 (z), .int .i64 (z + 1), .int .i64 (z + 1 + 1)]).cell? ⟨g, j * 14 + 1, none⟩ = some (.int .i64 (z + 1)) := by simpa [Nat.add_assoc] using hc 1 _ rfl
        have d2 : (putCells wr g (j * 14) [.int .i64 (z), .int .i64 (z + 1), .int .i64 (z + 1 + 1)]).cell? ⟨g, j * 14 + 2, none⟩ = some (.int .i64 (z + 1 + 1)) := by simpa [Nat.add_assoc] using hc 2 _ rfl
        have d3 : (putCells wr g (j * 14) [.int .i64 (z), .int .i64 (z + 1), .int .i64 (z + 1 + 1)]).cell? ⟨g, j * 14 + 3, none⟩ = some (.string x3) := (putCells_other g _ wr _ (by first | (simp; done) | (simp; omega))).trans e3
        have d4 : (putCells wr g (j * 14) [.int .i64 (z), .int .i64 (z + 1), .int .i64 (z + 1 + 1)]).cell? ⟨g, j * 14 + 4, none⟩ = some (.int .i64 x4) := (putCells_other g _ wr _ (by first | (simp; done) | (simp; omega))).trans e4
        have d5 : (putCells wr g (j * 14) [.int .i64 (z), .int .i64 (z + 1), .int .i64 (z + 1 + 1)]).cell? ⟨g, j * 14 + 5, none⟩ = some (.int .i64 x5) := (putCells_other g _ wr _ (by first | (simp; done) | (simp; omega))).trans e5
        have d6 : (putCells wr g (j * 14) [.int .i64 (z), .int .i64 (z + 1), .int .i64 (z + 1 + 1)]).cell? ⟨g, j * 14 + 6, none⟩ = some (.int .i64 x6) := (putCells_other g _ wr _ (by first | (simp; done) | (simp; omega))).trans e6
        have d7 : (putCells wr g (j * 14) [.int .i64 (z), .int .i64 (z + 1), .int .i64 (z + 1 + 1)]).cell? ⟨g, j * 14 + 7, none⟩ = some (.int .i64 x7) := (putCells_other g _ wr _ (by first | (simp; done) | (simp; omega))).trans e7
        have d8 : (putCells wr g (j * 14) [.int .i64 (z), .int .i64 (z + 1), .int .i64 (z + 1 + 1)]).cell? ⟨g, j * 14 + 8, none⟩ = some (.int .i64 x8) := (putCells_other g _ wr _ (by first | (simp; done) | (simp; omega))).trans e8
        have d9 : (putCells wr g (j * 14) [.int .i64 (z), .int .i64 (z + 1), .int .i64 (z + 1 + 1)]).cell? ⟨g, j * 14 + 9, none⟩ = some (.int .i64 x9) := (putCells_other g _ wr _ (by first | (simp; done) | (simp; omega))).trans e9
        have d10 : (putCells wr g (j * 14) [.int .i64 (z), .int .i64 (z + 1), .int .i64 (z + 1 + 1)]).cell? ⟨g, j * 14 + 10, none⟩ = some (.int .i64 x10) := (putCells_other g _ wr _ (by first | (simp; done) | (simp; omega))).trans e10
        have d11 : (putCells wr g (j * 14) [.int .i64 (z), .int .i64 (z + 1), .int .i64 (z + 1 + 1)]).cell? ⟨g, j * 14 + 11, none⟩ = some (.int .i64 x11) := (putCells_other g _ wr _ (by first | (simp; done) | (simp; omega))).trans e11
        have d12 : (putCells wr g (j * 14) [.int .i64 (z), .int .i64 (z + 1), .int .i64 (z + 1 + 1)]).cell? ⟨g, j * 14 + 12, none⟩ = some (.int .i64 x12) := (putCells_other g _ wr _ (by first | (simp; done) | (simp; omega))).trans e12
        have d13 : (putCells wr g (j * 14) [.int .i64 (z), .int .i64 (z + 1), .int .i64 (z + 1 + 1)]).cell? ⟨g, j * 14 + 13, none⟩ = some (.slice a0 L0.length c0) := (putCells_other g _ wr _ (by first | (simp; done) | (simp; omega))).trans e13
        have t0 : (putCells wr g (j * 14) [.int .i64 (z), .int .i64 (z + 1), .int .i64 (z + 1 + 1)]).frozen? ⟨g, j * 14, none⟩ = false := (putCells_frozen g _ _ wr _).trans s0
        have t1 : (putCells wr g (j * 14) [.int .i64 (z), .int .i64 (z + 1), .int .i64 (z + 1 + 1)]).frozen? ⟨g, j * 14 + 1, none⟩ = false := (putCells_frozen g _ _ wr _).trans s1
        have t2 : (putCells wr g (j * 14) [.int .i64 (z), .int .i64 (z + 1), .int .i64 (z + 1 + 1)]).frozen? ⟨g, j * 14 + 2, none⟩ = false := (putCells_frozen g _ _ wr _).trans s2
        have t3 : (putCells wr g (j * 14) [.int .i64 (z), .int .i64 (z + 1), .int .i64 (z + 1 + 1)]).frozen? ⟨g, j * 14 + 3, none⟩ = false := (putCells_frozen g _ _ wr _).trans s3
        have t4 : (putCells wr g (j * 14) [.int .i64 (z), .int .i64 (z + 1), .int .i64 (z + 1 + 1)]).frozen? ⟨g, j * 14 + 4, none⟩ = false := (putCells_frozen g _ _ wr _).trans s4
        have t5 : (putCells wr g (j * 14) [.int .i64 (z), .int .i64 (z + 1), .int .i64 (z + 1 + 1)]).frozen? ⟨g, j * 14 + 5, none⟩ = false := (putCells_frozen g _ _ wr _).trans s5
        have t6 : (putCells wr g (j * 14) [.int .i64 (z), .int .i64 (z + 1), .int .i64 (z + 1 + 1)]).frozen? ⟨g, j * 14 + 6, none⟩ = false := (putCells_frozen g _ _ wr _).trans s6
        have t7 : (putCells wr g (j * 14) [.int .i64 (z), .int .i64 (z + 1), .int .i64 (z + 1 + 1)]).frozen? ⟨g, j * 14 + 7, none⟩ = false := (putCells_frozen g _ _ wr _).trans s7
        have t8 : (putCells wr g (j * 14) [.int .i64 (z), .int .i64 (z + 1), .int .i64 (z + 1 + 1)]).frozen? ⟨g, j * 14 + 8, none⟩ = false := (putCells_frozen g _ _ wr _).trans s8
        have t9 : (putCells wr g (j * 14) [.int .i64 (z), .int .i64 (z + 1), .int .i64 (z + 1 + 1)]).frozen? ⟨g, j * 14 + 9, none⟩ = false := (putCells_frozen g _ _ wr _).trans s9
        have t10 : (putCells wr g (j * 14) [.int .i64 (z), .int .i64 (z + 1), .int .i64 (z + 1 + 1)]).frozen? ⟨g, j * 14 + 10, none⟩ = false := (putCells_frozen g _ _ wr _).trans s10
        have t11 : (putCells wr g (j * 14) [.int .i64 (z), .int .i64 (z + 1), .int .i64 (z + 1 + 1)]).frozen? ⟨g, j * 14 + 11, none⟩ = false := (putCells_frozen g _ _ wr _).trans s11
        have t12 : (putCells wr g (j * 14) [.int .i64 (z), .int .i64 (z + 1), .int .i64 (z + 1 + 1)]).frozen? ⟨g, j * 14 + 12, none⟩ = false := (putCells_frozen g _ _ wr _).trans s12
        have t13 : (putCells wr g (j * 14) [.int .i64 (z), .int .i64 (z + 1), .int .i64 (z + 1 + 1)]).frozen? ⟨g, j * 14 + 13, none⟩ = false := (putCells_frozen g _ _ wr _).trans s13
        have HU1 := Lib.hid (HU0.out.trans (Upd.put wr (Sf j) (g := g) (o := j * 14) (cs := [.int .i64 (z), .int .i64 (z + 1), .int .i64 (z + 1 + 1)]) ⟨by omega, by first | (simp; done) | (simp; omega)⟩))
        have HF1 := Lib.hid (HF0.out.trans ((putCells_off g [.int .i64 (z), .int .i64 (z + 1), .int .i64 (z + 1 + 1)] wr (j * 14)).more (fun x e => by rw [e]; exact HM2.out.row.own)))
        have K_L0 := Lib.hid (OwSl.keep I_ok (W' := (putCells wr g (j * 14) [.int .i64 (z), .int .i64 (z + 1), .int .i64 (z + 1 + 1)])) K_L0.out (fun q hq => putCells_block g (HM2.out.row.sub j q (TS0.out q hq)).2 _ _ _))
        clear hc
        have hbz : 0 ≤ z + 1 + 1 + 1 ∧ z + 1 + 1 + 1 ≤ 4611686018427387904 := by omega
        have D0 := Lib.hid d0
        have F0 := Lib.hid t0
        have D1 := Lib.hid d1
        have F1 := Lib.hid t1
        have D2 := Lib.hid d2
        have F2 := Lib.hid t2
        have D3 := Lib.hid d3
        have F3 := Lib.hid t3
        have D4 := Lib.hid d4
        have F4 := Lib.hid t4
        have D5 := Lib.hid d5
        have F5 := Lib.hid t5
        have D6 := Lib.hid d6
        have F6 := Lib.hid t6
        have D7 := Lib.hid d7
        have F7 := Lib.hid t7
        have D8 := Lib.hid d8
        have F8 := Lib.hid t8
        have D9 := Lib.hid d9
        have F9 := Lib.hid t9
        have D10 := Lib.hid d10
        have F10 := Lib.hid t10
        have D11 := Lib.hid d11
        have F11 := Lib.hid t11
        have D12 := Lib.hid d12
        have F12 := Lib.hid t12
        have D13 := Lib.hid d13
        have F13 := Lib.hid t13
        clear d0 t0 d1 t1 d2 t2 d3 t3 d4 t4 d5 t5 d6 t6 d7 t7 d8 t8 d9 t9 d10 t10 d11 t11 d12 t12 d13 t13
        go_wp2_with fail
        refine (marktext_v (z + 1 + 1 + 1) ((putCells wr g (j * 14) [.int .i64 (z), .int .i64 (z + 1), .int .i64 (z + 1 + 1)])) hbz.1 hbz.2).mono ?_
        intro e wt1 h
        obtain ⟨rfl, hms, hb⟩ := mkT_elim h
        have HMS1 := Lib.hid hms
        have hgg : g < (putCells wr g (j * 14) [.int .i64 (z), .int .i64 (z + 1), .int .i64 (z + 1 + 1)]).heap.size := Nat.lt_of_lt_of_le hgl HF1.out.size
        have n0 : wt1.cell? ⟨g, j * 14, none⟩ = some (.int .i64 (z)) := (hb.cell (p := ⟨g, j * 14, none⟩) hgg).trans D0.out
        have n1 : wt1.cell? ⟨g, j * 14 + 1, none⟩ = some (.int .i64 (z + 1)) := (hb.cell (p := ⟨g, j * 14 + 1, none⟩) hgg).trans D1.out
        have n2 : wt1.cell? ⟨g, j * 14 + 2, none⟩ = some (.int .i64 (z + 1 + 1)) := (hb.cell (p := ⟨g, j * 14 + 2, none⟩) hgg).trans D2.out
        have n3 : wt1.cell? ⟨g, j * 14 + 3, none⟩ = some (.string x3) := (hb.cell (p := ⟨g, j * 14 + 3, none⟩) hgg).trans D3.out
        have n4 : wt1.cell? ⟨g, j * 14 + 4, none⟩ = some (.int .i64 x4) := (hb.cell (p := ⟨g, j * 14 + 4, none⟩) hgg).trans D4.out
        have n5 : wt1.cell? ⟨g, j * 14 + 5, none⟩ = some (.int .i64 x5) := (hb.cell (p := ⟨g, j * 14 + 5, none⟩) hgg).trans D5.out
        have n6 : wt1.cell? ⟨g, j * 14 + 6, none⟩ = some (.int .i64 x6) := (hb.cell (p := ⟨g, j * 14 + 6, none⟩) hgg).trans D6.out
        have n7 : wt1.cell? ⟨g, j * 14 + 7, none⟩ = some (.int .i64 x7) := (hb.cell (p := ⟨g, j * 14 + 7, none⟩) hgg).trans D7.out
        have n8 : wt1.cell? ⟨g, j * 14 + 8, none⟩ = some (.int .i64 x8) := (hb.cell (p := ⟨g, j * 14 + 8, none⟩) hgg).trans D8.out
        have n9 : wt1.cell? ⟨g, j * 14 + 9, none⟩ = some (.int .i64 x9) := (hb.cell (p := ⟨g, j * 14 + 9, none⟩) hgg).trans D9.out
        have n10 : wt1.cell? ⟨g, j * 14 + 10, none⟩ = some (.int .i64 x10) := (hb.cell (p := ⟨g, j * 14 + 10, none⟩) hgg).trans D10.out
        have n11 : wt1.cell? ⟨g, j * 14 + 11, none⟩ = some (.int .i64 x11) := (hb.cell (p := ⟨g, j * 14 + 11, none⟩) hgg).trans D11.out
        have n12 : wt1.cell? ⟨g, j * 14 + 12, none⟩ = some (.int .i64 x12) := (hb.cell (p := ⟨g, j * 14 + 12, none⟩) hgg).trans D12.out
        have n13 : wt1.cell? ⟨g, j * 14 + 13, none⟩ = some (.slice a0 L0.length c0) := (hb.cell (p := ⟨g, j * 14 + 13, none⟩) hgg).trans D13.out
        have m0 : wt1.frozen? ⟨g, j * 14, none⟩ = false := (hb.frozen (p := ⟨g, j * 14, none⟩) hgg).trans F0.out
        have m1 : wt1.frozen? ⟨g, j * 14 + 1, none⟩ = false := (hb.frozen (p := ⟨g, j * 14 + 1, none⟩) hgg).trans F1.out
        have m2 : wt1.frozen? ⟨g, j * 14 + 2, none⟩ = false := (hb.frozen (p := ⟨g, j * 14 + 2, none⟩) hgg).trans F2.out
        have m3 : wt1.frozen? ⟨g, j * 14 + 3, none⟩ = false := (hb.frozen (p := ⟨g, j * 14 + 3, none⟩) hgg).trans F3.out
        have m4 : wt1.frozen? ⟨g, j * 14 + 4, none⟩ = false := (hb.frozen (p := ⟨g, j * 14 + 4, none⟩) hgg).trans F4.out
        have m5 : wt1.frozen? ⟨g, j * 14 + 5, none⟩ = false := (hb.frozen (p := ⟨g, j * 14 + 5, none⟩) hgg).trans F5.out
        have m6 : wt1.frozen? ⟨g, j * 14 + 6, none⟩ = false := (hb.frozen (p := ⟨g, j * 14 + 6, none⟩) hgg).trans F6.out
        have m7 : wt1.frozen? ⟨g, j * 14 + 7, none⟩ = false := (hb.frozen (p := ⟨g, j * 14 + 7, none⟩) hgg).trans F7.out
        have m8 : wt1.frozen? ⟨g, j * 14 + 8, none⟩ = false := (hb.frozen (p := ⟨g, j * 14 + 8, none⟩) hgg).trans F8.out
        have m9 : wt1.frozen? ⟨g, j * 14 + 9, none⟩ = false := (hb.frozen (p := ⟨g, j * 14 + 9, none⟩) hgg).trans F9.out
        have m10 : wt1.frozen? ⟨g, j * 14 + 10, none⟩ = false := (hb.frozen (p := ⟨g, j * 14 + 10, none⟩) hgg).trans F10.out
        have m11 : wt1.frozen? ⟨g, j * 14 + 11, none⟩ = false := (hb.frozen (p := ⟨g, j * 14 + 11, none⟩) hgg).trans F11.out
        have m12 : wt1.frozen? ⟨g, j * 14 + 12, none⟩ = false := (hb.frozen (p := ⟨g, j * 14 + 12, none⟩) hgg).trans F12.out
        have m13 : wt1.frozen? ⟨g, j * 14 + 13, none⟩ = false := (hb.frozen (p := ⟨g, j * 14 + 13, none⟩) hgg).trans F13.out
        have HU2 := Lib.hid (HU1.out.trans (Upd.below hb hgg))
        have HF2 := Lib.hid (HF1.out.of_below hb)
        have K_L0 := Lib.hid (K_L0.out.keep I_ok (fun q hq => hb.block q (Nat.lt_of_lt_of_le (HSW.out q (HM2.out.row.sub j q (TS0.out q hq)).1) HF1.out.size)))
        clear h hb hgg hbz hms D0 F0 D1 F1 D2 F2 D3 F3 D4 F4 D5 F5 D6 F6 D7 F7 D8 F8 D9 F9 D10 F10 D11 F11 D12 F12 D13 F13
        have e0 := n0
        have s0 := m0
        have e1 := n1
        have s1 := m1
        have e2 := n2
        have s2 := m2
        have e3 := n3
        have s3 := m3
        have e4 := n4
        have s4 := m4
        have e5 := n5
        have s5 := m5
        have e6 := n6
        have s6 := m6
        have e7 := n7
        have s7 := m7
        have e8 := n8
        have s8 := m8
        have e9 := n9
        have s9 := m9
        have e10 := n10
        have s10 := m10
        have e11 := n11
        have s11 := m11
        have e12 := n12
        have s12 := m12
        have e13 := n13
        have s13 := m13
        clear n0 m0 n1 m1 n2 m2 n3 m3 n4 m4 n5 m5 n6 m6 n7 m7 n8 m8 n9 m9 n10 m10 n11 m11 n12 m12 n13 m13
        have hc := putCells_cells g [.string (mtI (z + 1 + 1 + 1)), .int .i64 (z + 1 + 1 + 1 + 1), .int .i64 (z + 1 + 1 + 1 + 1 + 1), .int .i64 (z + 1 + 1 + 1 + 1 + 1 + 1), .int .i64 (z + 1 + 1 + 1 + 1 + 1 + 1 + 1), .int .i64 (z + 1 + 1 + 1 + 1 + 1 + 1 + 1 + 1), .int .i64 (z + 1 + 1 + 1 + 1 + 1 + 1 + 1 + 1 + 1), .int .i64 (z + 1 + 1 + 1 + 1 + 1 + 1 + 1 + 1 + 1 + 1), .int .i64 (z + 1 + 1 + 1 + 1 + 1 + 1 + 1 + 1 + 1 + 1 + 1), .int .i64 (z + 1 + 1 + 1 + 1 + 1 + 1 + 1 + 1 + 1 + 1 + 1 + 1)] wt1 (j * 14 + 3) (fun p hp => by
          match p, hp with
          | 0, _ => exact ⟨_, by simpa [Nat.add_assoc] using e3⟩
          | 1, _ => exact ⟨_, by simpa [Nat.add_assoc] using e4⟩
          | 2, _ => exact ⟨_, by simpa [Nat.add_assoc] using e5⟩
          | 3, _ => exact ⟨_, by simpa [Nat.add_assoc] using e6⟩
          | 4, _ => exact ⟨_, by simpa [Nat.add_assoc] using e7⟩
          | 5, _ => exact ⟨_, by simpa [Nat.add_assoc] using e8⟩
          | 6, _ => exact ⟨_, by simpa [Nat.add_assoc] using e9⟩
          | 7, _ => exact ⟨_, by simpa [Nat.add_assoc] using e10⟩
          | 8, _ => exact ⟨_, by simpa [Nat.add_assoc] using e11⟩
          | 9, _ => exact ⟨_, by simpa [Nat.add_assoc] using e12⟩
          | _ + 10, hp => simp at hp; omega)
        have d3 : (putCells wt1 g (j * 14 + 3) [.string (mtI (z + 1 + 1 + 1)), .int .i64 (z + 1 + 1 + 1 + 1), .int .i64 (z + 1 + 1 + 1 + 1 + 1), .int .i64 (z + 1 + 1 + 1 + 1 + 1 + 1), .int .i64 (z + 1 + 1 + 1 + 1 + 1 + 1 + 1), .int .i64 (z + 1 + 1 + 1 + 1 + 1 + 1 + 1 + 1), .int .i64 (z + 1 + 1 + 1 + 1 + 1 + 1 + 1 + 1 + 1), .int .i64 (z + 1 + 1 + 1 + 1 + 1 + 1 + 1 + 1 + 1 + 1), .int .i64 (z + 1 + 1 + 1 + 1 + 1 + 1 + 1 + 1 + 1 + 1 + 1), .int .i64 (z + 1 + 1 + 1 + 1 + 1 + 1 + 1 + 1 + 1 + 1 + 1 + 1)]).cell? ⟨g, j * 14 + 3, none⟩ = some (.string (mtI (z + 1 + 1 + 1))) := by simpa [Nat.add_assoc] using hc 0 _ rfl
        have d4 : (putCells wt1 g (j * 14 + 3) [.string (mtI (z + 1 + 1 + 1)), .int .i64 (z + 1 + 1 + 1 + 1), .int .i64 (z + 1 + 1 + 1 + 1 + 1), .int .i64 (z + 1 + 1 + 1 + 1 + 1 + 1), .int .i64 (z + 1 + 1 + 1 + 1 + 1 + 1 + 1), .int .i64 (z + 1 + 1 + 1 + 1 + 1 + 1 + 1 + 1), .int .i64 (z + 1 + 1 + 1 + 1 + 1 + 1 + 1 + 1 + 1), .int .i64 (z + 1 + 1 + 1 + 1 + 1 + 1 + 1 + 1 + 1 + 1), .int .i64 (z + 1 + 1 + 1 + 1 + 1 + 1 + 1 + 1 + 1 + 1 + 1), .int .i64 (z + 1 + 1 + 1 + 1 + 1 + 1 + 1 + 1 + 1 + 1 + 1 + 1)]).cell? ⟨g, j * 14 + 4, none⟩ = some (.int .i64 (z + 1 + 1 + 1 + 1)) := by simpa [Nat.add_assoc] using hc 1 _ rfl
        have d5 : (putCells wt1 g (j * 14 + 3) [.string (mtI (z + 1 + 1 + 1)), .int .i64 (z + 1 + 1 + 1 + 1), .int .i64 (z + 1 + 1 + 1 + 1 + 1), .int .i64 (z + 1 + 1 + 1 + 1 + 1 + 1), .int .i64 (z + 1 + 1 + 1 + 1 + 1 + 1 + 1), .int .i64 (z + 1 + 1 + 1 + 1 + 1 + 1 + 1 + 1), .int .i64 (z + 1 + 1 + 1 + 1 + 1 + 1 + 1 + 1 + 1), .int .i64 (z + 1 + 1 + 1 + 1 + 1 + 1 + 1 + 1 + 1 + 1), .int .i64 (z + 1 + 1 + 1 + 1 + 1 + 1 + 1 + 1 + 1 + 1 + 1), .int .i64 (z + 1 + 1 + 1 + 1 + 1 + 1 + 1 + 1 + 1 + 1 + 1 + 1)]).cell? ⟨g, j * 14 + 5, none⟩ = some (.int .i64 (z + 1 + 1 + 1 + 1 + 1)) := by simpa [Nat.add_assoc] using hc 2 _ rfl
        have d6 : (putCells wt1 g (j * 14 + 3) [.string (mtI (z + 1 + 1 + 1)), .int .i64 (z + 1 + 1 + 1 + 1), .int .i64 (z + 1 + 1 + 1 + 1 + 1), .int .i64 (z + 1 + 1 + 1 + 1 + 1 + 1), .int .i64 (z + 1 + 1 + 1 + 1 + 1 + 1 + 1), .int .i64 (z + 1 + 1 + 1 + 1 + 1 + 1 + 1 + 1), .int .i64 (z + 1 + 1 + 1 + 1 + 1 + 1 + 1 + 1 + 1), .int .i64 (z + 1 + 1 + 1 + 1 + 1 + 1 + 1 + 1 + 1 + 1), .int .i64 (z + 1 + 1 + 1 + 1 + 1 + 1 + 1 + 1 + 1 + 1 + 1), .int .i64 (z + 1 + 1 + 1 + 1 + 1 + 1 + 1 + 1 + 1 + 1 + 1 + 1)]).cell? ⟨g, j * 14 + 6, none⟩ = some (.int .i64 (z + 1 + 1 + 1 + 1 + 1 + 1)) := by simpa [Nat.add_assoc] using hc 3 _ rfl
        have d7 : (putCells wt1 g (j * 14 + 3) [.string (mtI (z + 1 + 1 + 1)), .int .i64 (z + 1 + 1 + 1 + 1), .int .i64 (z + 1 + 1 + 1 + 1 + 1), .int .i64 (z + 1 + 1 + 1 + 1 + 1 + 1), .int .i64 (z + 1 + 1 + 1 + 1 + 1 + 1 + 1), .int .i64 (z + 1 + 1 + 1 + 1 + 1 + 1 + 1 + 1), .int .i64 (z + 1 + 1 + 1 + 1 + 1 + 1 + 1 + 1 + 1), .int .i64 (z + 1 + 1 + 1 + 1 + 1 + 1 + 1 + 1 + 1 + 1), .int .i64 (z + 1 + 1 + 1 + 1 + 1 + 1 + 1 + 1 + 1 + 1 + 1), .int .i64 (z + 1 + 1 + 1 + 1 + 1 + 1 + 1 + 1 + 1 + 1 + 1 + 1)]).cell? ⟨g, j * 14 + 7, none⟩ = some (.int .i64 (z + 1 + 1 + 1 + 1 + 1 + 1 + 1)) := by simpa [Nat.add_assoc] using hc 4 _ rfl
        have d8 : (putCells wt1 g (j * 14 + 3) [.string (mtI (z + 1 + 1 + 1)), .int .i64 (z + 1 + 1 + 1 + 1), .int .i64 (z + 1 + 1 + 1 + 1 + 1), .int .i64 (z + 1 + 1 + 1 + 1 + 1 + 1), .int .i64 (z + 1 + 1 + 1 + 1 + 1 + 1 + 1), .int .i64 (z + 1 + 1 + 1 + 1 + 1 + 1 + 1 + 1), .int .i64 (z + 1 + 1 + 1 + 1 + 1 + 1 + 1 + 1 + 1), .int .i64 (z + 1 + 1 + 1 + 1 + 1 + 1 + 1 + 1 + 1 + 1), .int .i64 (z + 1 + 1 + 1 + 1 + 1 + 1 + 1 + 1 + 1 + 1 + 1), .int .i64 (z + 1 + 1 + 1 + 1 + 1 + 1 + 1 + 1 + 1 + 1 + 1 + 1)]).cell? ⟨g, j * 14 + 8, none⟩ = some (.int .i64 (z + 1 + 1 + 1 + 1 + 1 + 1 + 1 + 1)) := by simpa [Nat.add_assoc] using hc 5 _ rfl
        have d9 : (putCells wt1 g (j * 14 + 3) [.string (mtI (z + 1 + 1 + 1)), .int .i64 (z + 1 + 1 + 1 + 1), .int .i64 (z + 1 + 1 + 1 + 1 + 1), .int .i64 (z + 1 + 1 + 1 + 1 + 1 + 1), .int .i64 (z + 1 + 1 + 1 + 1 + 1 + 1 + 1), .int .i64 (z + 1 + 1 + 1 + 1 + 1 + 1 + 1 + 1), .int .i64 (z + 1 + 1 + 1 + 1 + 1 + 1 + 1 + 1 + 1), .int .i64 (z + 1 + 1 + 1 + 1 + 1 + 1 + 1 + 1 + 1 + 1), .int .i64 (z + 1 + 1 + 1 + 1 + 1 + 1 + 1 + 1 + 1 + 1 + 1), .int .i64 (z + 1 + 1 + 1 + 1 + 1 + 1 + 1 + 1 + 1 + 1 + 1 + 1)]).cell? ⟨g, j * 14 + 9, none⟩ = some (.int .i64 (z + 1 + 1 + 1 + 1 + 1 + 1 + 1 + 1 + 1)) := by simpa [Nat.add_assoc] using hc 6 _ rfl
        have d10 : (putCells wt1 g (j * 14 + 3) [.string (mtI (z + 1 + 1 + 1)), .int .i64 (z + 1 + 1 + 1 + 1), .int .i64 (z + 1 + 1 + 1 + 1 + 1), .int .i64 (z + 1 + 1 + 1 + 1 + 1 + 1), .int .i64 (z + 1 + 1 + 1 + 1 + 1 + 1 + 1), .int .i64 (z + 1 + 1 + 1 + 1 + 1 + 1 + 1 + 1), .int .i64 (z + 1 + 1 + 1 + 1 + 1 + 1 + 1 + 1 + 1), .int .i64 (z + 1 + 1 + 1 + 1 + 1 + 1 + 1 + 1 + 1 + 1), .int .i64 (z + 1 + 1 + 1 + 1 + 1 + 1 + 1 + 1 + 1 + 1 + 1), .int .i64 (z + 1 + 1 + 1 + 1 + 1 + 1 + 1 + 1 + 1 + 1 + 1 + 1)]).cell? ⟨g, j * 14 + 10, none⟩ = some (.int .i64 (z + 1 + 1 + 1 + 1 + 1 + 1 + 1 + 1 + 1 + 1)) := by simpa [Nat.add_assoc] using hc 7 _ rfl
        have d11 : (putCells wt1 g (j * 14 + 3) [.string (mtI (z + 1 + 1 + 1)), .int .i64 (z + 1 + 1 + 1 + 1), .int .i64 (z + 1 + 1 + 1 + 1 + 1), .int .i64 (z + 1 + 1 + 1 + 1 + 1 + 1), .int .i64 (z + 1 + 1 + 1 + 1 + 1 + 1 + 1), .int .i64 (z + 1 + 1 + 1 + 1 + 1 + 1 + 1 + 1), .int .i64 (z + 1 + 1 + 1 + 1 + 1 + 1 + 1 + 1 + 1), .int .i64 (z + 1 + 1 + 1 + 1 + 1 + 1 + 1 + 1 + 1 + 1), .int .i64 (z + 1 + 1 + 1 + 1 + 1 + 1 + 1 + 1 + 1 + 1 + 1), .int .i64 (z + 1 + 1 + 1 + 1 + 1 + 1 + 1 + 1 + 1 + 1 + 1 + 1)]).cell? ⟨g, j * 14 + 11, none⟩ = some (.int .i64 (z + 1 + 1 + 1 + 1 + 1 + 1 + 1 + 1 + 1 + 1 + 1)) := by simpa [Nat.add_assoc] using hc 8 _ rfl
        have d12 : (putCells wt1 g (j * 14 + 3) [.string (mtI (z + 1 + 1 + 1)), .int .i64 (z + 1 + 1 + 1 + 1), .int .i64 (z + 1 + 1 + 1 + 1 + 1), .int .i64 (z + 1 + 1 + 1 + 1 + 1 + 1), .int .i64 (z + 1 + 1 + 1 + 1 + 1 + 1 + 1), .int .i64 (z + 1 + 1 + 1 + 1 + 1 + 1 + 1 + 1), .int .i64 (z + 1 + 1 + 1 + 1 + 1 + 1 + 1 + 1 + 1), .int .i64 (z + 1 + 1 + 1 + 1 + 1 + 1 + 1 + 1 + 1 + 1), .int .i64 (z + 1 + 1 + 1 + 1 + 1 + 1 + 1 + 1 + 1 + 1 + 1), .int .i64 (z + 1 + 1 + 1 + 1 + 1 + 1 + 1 + 1 + 1 + 1 + 1 + 1)]).cell? ⟨g, j * 14 + 12, none⟩ = some (.int .i64 (z + 1 + 1 + 1 + 1 + 1 + 1 + 1 + 1 + 1 + 1 + 1 + 1)) := by simpa [Nat.add_assoc] using hc 9 _ rfl
        have d0 : (putCells wt1 g (j * 14 + 3) [.string (mtI (z + 1 + 1 + 1)), .int .i64 (z + 1 + 1 + 1 + 1), .int .i64 (z + 1 + 1 + 1 + 1 + 1), .int .i64 (z + 1 + 1 + 1 + 1 + 1 + 1), .int .i64 (z + 1 + 1 + 1 + 1 + 1 + 1 + 1), .int .i64 (z + 1 + 1 + 1 + 1 + 1 + 1 + 1 + 1), .int .i64 (z + 1 + 1 + 1 + 1 + 1 + 1 + 1 + 1 + 1), .int .i64 (z + 1 + 1 + 1 + 1 + 1 + 1 + 1 + 1 + 1 + 1), .int .i64 (z + 1 + 1 + 1 + 1 + 1 + 1 + 1 + 1 + 1 + 1 + 1), .int .i64 (z + 1 + 1 + 1 + 1 + 1 + 1 + 1 + 1 + 1 + 1 + 1 + 1)]).cell? ⟨g, j * 14, none⟩ = some (.int .i64 (z)) := (putCells_other g _ wt1 _ (by first | (simp; done) | (simp; omega))).trans e0
        have d1 : (putCells wt1 g (j * 14 + 3) [.string (mtI (z + 1 + 1 + 1)), .int .i64 (z + 1 + 1 + 1 + 1), .int .i64 (z + 1 + 1 + 1 + 1 + 1), .int .i64 (z + 1 + 1 + 1 + 1 + 1 + 1), .int .i64 (z + 1 + 1 + 1 + 1 + 1 + 1 + 1), .int .i64 (z + 1 + 1 + 1 + 1 + 1 + 1 + 1 + 1), .int .i64 (z + 1 + 1 + 1 + 1 + 1 + 1 + 1 + 1 + 1), .int .i64 (z + 1 + 1 + 1 + 1 + 1 + 1 + 1 + 1 + 1 + 1), .int .i64 (z + 1 + 1 + 1 + 1 + 1 + 1 + 1 + 1 + 1 + 1 + 1), .int .i64 (z + 1 + 1 + 1 + 1 + 1 + 1 + 1 + 1 + 1 + 1 + 1 + 1)]).cell? ⟨g, j * 14 + 1, none⟩ = some (.int .i64 (z + 1)) := (putCells_other g _ wt1 _ (by first | (simp; done) | (simp; omega))).trans e1
        have d2 : (putCells wt1 g (j * 14 + 3) [.string (mtI (z + 1 + 1 + 1)), .int .i64 (z + 1 + 1 + 1 + 1), .int .i64 (z + 1 + 1 + 1 + 1 + 1), .int .i64 (z + 1 + 1 + 1 + 1 + 1 + 1), .int .i64 (z + 1 + 1 + 1 + 1 + 1 + 1 + 1), .int .i64 (z + 1 + 1 + 1 + 1 + 1 + 1 + 1 + 1), .int .i64 (z + 1 + 1 + 1 + 1 + 1 + 1 + 1 + 1 + 1), .int .i64 (z + 1 + 1 + 1 + 1 + 1 + 1 + 1 + 1 + 1 + 1), .int .i64 (z + 1 + 1 + 1 + 1 + 1 + 1 + 1 + 1 + 1 + 1 + 1), .int .i64 (z + 1 + 1 + 1 + 1 + 1 + 1 + 1 + 1 + 1 + 1 + 1 + 1)]).cell? ⟨g, j * 14 + 2, none⟩ = some (.int .i64 (z + 1 + 1)) := (putCells_other g _ wt1 _ (by first | (simp; done) | (simp; omega))).trans e2
        have d13 : (putCells wt1 g (j * 14 + 3) [.string (mtI (z + 1 + 1 + 1)), .int .i64 (z + 1 + 1 + 1 + 1), .int .i64 (z + 1 + 1 + 1 + 1 + 1), .int .i64 (z + 1 + 1 + 1 + 1 + 1 + 1), .int .i64 (z + 1 + 1 + 1 + 1 + 1 + 1 + 1), .int .i64 (z + 1 + 1 + 1 + 1 + 1 + 1 + 1 + 1), .int .i64 (z + 1 + 1 + 1 + 1 + 1 + 1 + 1 + 1 + 1), .int .i64 (z + 1 + 1 + 1 + 1 + 1 + 1 + 1 + 1 + 1 + 1), .int .i64 (z + 1 + 1 + 1 + 1 + 1 + 1 + 1 + 1 + 1 + 1 + 1), .int .i64 (z + 1 + 1 + 1 + 1 + 1 + 1 + 1 + 1 + 1 + 1 + 1 + 1)]).cell? ⟨g, j * 14 + 13, none⟩ = some (.slice a0 L0.length c0) := (putCells_other g _ wt1 _ (by first | (simp; done) | (simp; omega))).trans e13
        have t0 : (putCells wt1 g (j * 14 + 3) [.string (mtI (z + 1 + 1 + 1)), .int .i64 (z + 1 + 1 + 1 + 1), .int .i64 (z + 1 + 1 + 1 + 1 + 1), .int .i64 (z + 1 + 1 + 1 + 1 + 1 + 1), .int .i64 (z + 1 + 1 + 1 + 1 + 1 + 1 + 1), .int .i64 (z + 1 + 1 + 1 + 1 + 1 + 1 + 1 + 1), .int .i64 (z + 1 + 1 + 1 + 1 + 1 + 1 + 1 + 1 + 1), .int .i64 (z + 1 + 1 + 1 + 1 + 1 + 1 + 1 + 1 + 1 + 1), .int .i64 (z + 1 + 1 + 1 + 1 + 1 + 1 + 1 + 1 + 1 + 1 + 1), .int .i64 (z + 1 + 1 + 1 + 1 + 1 + 1 + 1 + 1 + 1 + 1 + 1 + 1)]).frozen? ⟨g, j * 14, none⟩ = false := (putCells_frozen g _ _ wt1 _).trans s0
        have t1 : (putCells wt1 g (j * 14 + 3) [.string (mtI (z + 1 + 1 + 1)), .int .i64 (z + 1 + 1 + 1 + 1), .int .i64 (z + 1 + 1 + 1 + 1 + 1), .int .i64 (z + 1 + 1 + 1 + 1 + 1 + 1), .int .i64 (z + 1 + 1 + 1 + 1 + 1 + 1 + 1), .int .i64 (z + 1 + 1 + 1 + 1 + 1 + 1 + 1 + 1), .int .i64 (z + 1 + 1 + 1 + 1 + 1 + 1 + 1 + 1 + 1), .int .i64 (z + 1 + 1 + 1 + 1 + 1 + 1 + 1 + 1 + 1 + 1), .int .i64 (z + 1 + 1 + 1 + 1 + 1 + 1 + 1 + 1 + 1 + 1 + 1), .int .i64 (z + 1 + 1 + 1 + 1 + 1 + 1 + 1 + 1 + 1 + 1 + 1 + 1)]).frozen? ⟨g, j * 14 + 1, none⟩ = false := (putCells_frozen g _ _ wt1 _).trans s1
        have t2 : (putCells wt1 g (j * 14 + 3) [.string (mtI (z + 1 + 1 + 1)), .int .i64 (z + 1 + 1 + 1 + 1), .int .i64 (z + 1 + 1 + 1 + 1 + 1), .int .i64 (z + 1 + 1 + 1 + 1 + 1 + 1), .int .i64 (z + 1 + 1 + 1 + 1 + 1 + 1 + 1), .int .i64 (z + 1 + 1 + 1 + 1 + 1 + 1 + 1 + 1), .int .i64 (z + 1 + 1 + 1 + 1 + 1 + 1 + 1 + 1 + 1), .int .i64 (z + 1 + 1 + 1 + 1 + 1 + 1 + 1 + 1 + 1 + 1), .int .i64 (z + 1 + 1 + 1 + 1 + 1 + 1 + 1 + 1 + 1 + 1 + 1), .int .i64 (z + 1 + 1 + 1 + 1 + 1 + 1 + 1 + 1 + 1 + 1 + 1 + 1)]).frozen? ⟨g, j * 14 + 2, none⟩ = false := (putCells_frozen g _ _ wt1 _).trans s2
        have t3 : (putCells wt1 g (j * 14 + 3) [.string (mtI (z + 1 + 1 + 1)), .int .i64 (z + 1 + 1 + 1 + 1), .int .i64 (z + 1 + 1 + 1 + 1 + 1), .int .i64 (z + 1 + 1 + 1 + 1 + 1 + 1), .int .i64 (z + 1 + 1 + 1 + 1 + 1 + 1 + 1), .int .i64 (z + 1 + 1 + 1 + 1 + 1 + 1 + 1 + 1), .int .i64 (z + 1 + 1 + 1 + 1 + 1 + 1 + 1 + 1 + 1), .int .i64 (z + 1 + 1 + 1 + 1 + 1 + 1 + 1 + 1 + 1 + 1), .int .i64 (z + 1 + 1 + 1 + 1 + 1 + 1 + 1 + 1 + 1 + 1 + 1), .int .i64 (z + 1 + 1 + 1 + 1 + 1 + 1 + 1 + 1 + 1 + 1 + 1 + 1)]).frozen? ⟨g, j * 14 + 3, none⟩ = false := (putCells_frozen g _ _ wt1 _).trans s3
        have t4 : (putCells wt1 g (j * 14 + 3) [.string (mtI (z + 1 + 1 + 1)), .int .i64 (z + 1 + 1 + 1 + 1), .int .i64 (z + 1 + 1 + 1 + 1 + 1), .int .i64 (z + 1 + 1 + 1 + 1 + 1 + 1), .int .i64 (z + 1 + 1 + 1 + 1 + 1 + 1 + 1), .int .i64 (z + 1 + 1 + 1 + 1 + 1 + 1 + 1 + 1), .int .i64 (z + 1 + 1 + 1 + 1 + 1 + 1 + 1 + 1 + 1), .int .i64 (z + 1 + 1 + 1 + 1 + 1 + 1 + 1 + 1 + 1 + 1), .int .i64 (z + 1 + 1 + 1 + 1 + 1 + 1 + 1 + 1 + 1 + 1 + 1), .int .i64 (z + 1 + 1 + 1 + 1 + 1 + 1 + 1 + 1 + 1 + 1 + 1 + 1)]).frozen? ⟨g, j * 14 + 4, none⟩ = false := (putCells_frozen g _ _ wt1 _).trans s4
        have t5 : (putCells wt1 g (j * 14 + 3) [.string (mtI (z + 1 + 1 + 1)), .int .i64 (z + 1 + 1 + 1 + 1), .int .i64 (z + 1 + 1 + 1 + 1 + 1), .int .i64 (z + 1 + 1 + 1 + 1 + 1 + 1), .int .i64 (z + 1 + 1 + 1 + 1 + 1 + 1 + 1), .int .i64 (z + 1 + 1 + 1 + 1 + 1 + 1 + 1 + 1), .int .i64 (z + 1 + 1 + 1 + 1 + 1 + 1 + 1 + 1 + 1), .int .i64 (z + 1 + 1 + 1 + 1 + 1 + 1 + 1 + 1 + 1 + 1), .int .i64 (z + 1 + 1 + 1 + 1 + 1 + 1 + 1 + 1 + 1 + 1 + 1), .int .i64 (z + 1 + 1 + 1 + 1 + 1 + 1 + 1 + 1 + 1 + 1 + 1 + 1)]).frozen? ⟨g, j * 14 + 5, none⟩ = false := (putCells_frozen g _ _ wt1 _).trans s5
        have t6 : (putCells wt1 g (j * 14 + 3) [.string (mtI (z + 1 + 1 + 1)), .int .i64 (z + 1 + 1 + 1 + 1), .int .i64 (z + 1 + 1 + 1 + 1 + 1), .int .i64 (z + 1 + 1 + 1 + 1 + 1 + 1), .int .i64 (z + 1 + 1 + 1 + 1 + 1 + 1 + 1), .int .i64 (z + 1 + 1 + 1 + 1 + 1 + 1 + 1 + 1), .int .i64 (z + 1 + 1 + 1 + 1 + 1 + 1 + 1 + 1 + 1), .int .i64 (z + 1 + 1 + 1 + 1 + 1 + 1 + 1 + 1 + 1 + 1), .int .i64 (z + 1 + 1 + 1 + 1 + 1 + 1 + 1 + 1 + 1 + 1 + 1), .int .i64 (z + 1 + 1 + 1 + 1 + 1 + 1 + 1 + 1 + 1 + 1 + 1 + 1)]).frozen? ⟨g, j * 14 + 6, none⟩ = false := (putCells_frozen g _ _ wt1 _).trans s6
        have t7 : (putCells wt1 g (j * 14 + 3) [.string (mtI (z + 1 + 1 + 1)), .int .i64 (z + 1 + 1 + 1 + 1), .int .i64 (z + 1 + 1 + 1 + 1 + 1), .int .i64 (z + 1 + 1 + 1 + 1 + 1 + 1), .int .i64 (z + 1 + 1 + 1 + 1 + 1 + 1 + 1), .int .i64 (z + 1 + 1 + 1 + 1 + 1 + 1 + 1 + 1), .int .i64 (z + 1 + 1 + 1 + 1 + 1 + 1 + 1 + 1 + 1), .int .i64 (z + 1 + 1 + 1 + 1 + 1 + 1 + 1 + 1 + 1 + 1), .int .i64 (z + 1 + 1 + 1 + 1 + 1 + 1 + 1 + 1 + 1 + 1 + 1), .int .i64 (z + 1 + 1 + 1 + 1 + 1 + 1 + 1 + 1 + 1 + 1 + 1 + 1)]).frozen? ⟨g, j * 14 + 7, none⟩ = false := (putCells_frozen g _ _ wt1 _).trans s7
        have t8 : (putCells wt1 g (j * 14 + 3) [.string (mtI (z + 1 + 1 + 1)), .int .i64 (z + 1 + 1 + 1 + 1), .int .i64 (z + 1 + 1 + 1 + 1 + 1), .int .i64 (z + 1 + 1 + 1 + 1 + 1 + 1), .int .i64 (z + 1 + 1 + 1 + 1 + 1 + 1 + 1), .int .i64 (z + 1 + 1 + 1 + 1 + 1 + 1 + 1 + 1), .int .i64 (z + 1 + 1 + 1 + 1 + 1 + 1 + 1 + 1 + 1), .int .i64 (z + 1 + 1 + 1 + 1 + 1 + 1 + 1 + 1 + 1 + 1), .int .i64 (z + 1 + 1 + 1 + 1 + 1 + 1 + 1 + 1 + 1 + 1 + 1), .int .i64 (z + 1 + 1 + 1 + 1 + 1 + 1 + 1 + 1 + 1 + 1 + 1 + 1)]).frozen? ⟨g, j * 14 + 8, none⟩ = false := (putCells_frozen g _ _ wt1 _).trans s8
        have t9 : (putCells wt1 g (j * 14 + 3) [.string (mtI (z + 1 + 1 + 1)), .int .i64 (z + 1 + 1 + 1 + 1), .int .i64 (z + 1 + 1 + 1 + 1 + 1), .int .i64 (z + 1 + 1 + 1 + 1 + 1 + 1), .int .i64 (z + 1 + 1 + 1 + 1 + 1 + 1 + 1), .int .i64 (z + 1 + 1 + 1 + 1 + 1 + 1 + 1 + 1), .int .i64 (z + 1 + 1 + 1 + 1 + 1 + 1 + 1 + 1 + 1), .int .i64 (z + 1 + 1 + 1 + 1 + 1 + 1 + 1 + 1 + 1 + 1), .int .i64 (z + 1 + 1 + 1 + 1 + 1 + 1 + 1 + 1 + 1 + 1 + 1), .int .i64 (z + 1 + 1 + 1 + 1 + 1 + 1 + 1 + 1 + 1 + 1 + 1 + 1)]).frozen? ⟨g, j * 14 + 9, none⟩ = false := (putCells_frozen g _ _ wt1 _).trans s9
        have t10 : (putCells wt1 g (j * 14 + 3) [.string (mtI (z + 1 + 1 + 1)), .int .i64 (z + 1 + 1 + 1 + 1), .int .i64 (z + 1 + 1 + 1 + 1 + 1), .int .i64 (z + 1 + 1 + 1 + 1 + 1 + 1), .int .i64 (z + 1 + 1 + 1 + 1 + 1 + 1 + 1), .int .i64 (z + 1 + 1 + 1 + 1 + 1 + 1 + 1 + 1), .int .i64 (z + 1 + 1 + 1 + 1 + 1 + 1 + 1 + 1 + 1), .int .i64 (z + 1 + 1 + 1 + 1 + 1 + 1 + 1 + 1 + 1 + 1), .int .i64 (z + 1 + 1 + 1 + 1 + 1 + 1 + 1 + 1 + 1 + 1 + 1), .int .i64 (z + 1 + 1 + 1 + 1 + 1 + 1 + 1 + 1 + 1 + 1 + 1 + 1)]).frozen? ⟨g, j * 14 + 10, none⟩ = false := (putCells_frozen g _ _ wt1 _).trans s10
        have t11 : (putCells wt1 g (j * 14 + 3) [.string (mtI (z + 1 + 1 + 1)), .int .i64 (z + 1 + 1 + 1 + 1), .int .i64 (z + 1 + 1 + 1 + 1 + 1), .int .i64 (z + 1 + 1 + 1 + 1 + 1 + 1), .int .i64 (z + 1 + 1 + 1 + 1 + 1 + 1 + 1), .int .i64 (z + 1 + 1 + 1 + 1 + 1 + 1 + 1 + 1), .int .i64 (z + 1 + 1 + 1 + 1 + 1 + 1 + 1 + 1 + 1), .int .i64 (z + 1 + 1 + 1 + 1 + 1 + 1 + 1 + 1 + 1 + 1), .int .i64 (z + 1 + 1 + 1 + 1 + 1 + 1 + 1 + 1 + 1 + 1 + 1), .int .i64 (z + 1 + 1 + 1 + 1 + 1 + 1 + 1 + 1 + 1 + 1 + 1 + 1)]).frozen? ⟨g, j * 14 + 11, none⟩ = false := (putCells_frozen g _ _ wt1 _).trans s11
        have t12 : (putCells wt1 g (j * 14 + 3) [.string (mtI (z + 1 + 1 + 1)), .int .i64 (z + 1 + 1 + 1 + 1), .int .i64 (z + 1 + 1 + 1 + 1 + 1), .int .i64 (z + 1 + 1 + 1 + 1 + 1 + 1), .int .i64 (z + 1 + 1 + 1 + 1 + 1 + 1 + 1), .int .i64 (z + 1 + 1 + 1 + 1 + 1 + 1 + 1 + 1), .int .i64 (z + 1 + 1 + 1 + 1 + 1 + 1 + 1 + 1 + 1), .int .i64 (z + 1 + 1 + 1 + 1 + 1 + 1 + 1 + 1 + 1 + 1), .int .i64 (z + 1 + 1 + 1 + 1 + 1 + 1 + 1 + 1 + 1 + 1 + 1), .int .i64 (z + 1 + 1 + 1 + 1 + 1 + 1 + 1 + 1 + 1 + 1 + 1 + 1)]).frozen? ⟨g, j * 14 + 12, none⟩ = false := (putCells_frozen g _ _ wt1 _).trans s12
        have t13 : (putCells wt1 g (j * 14 + 3) [.string (mtI (z + 1 + 1 + 1)), .int .i64 (z + 1 + 1 + 1 + 1), .int .i64 (z + 1 + 1 + 1 + 1 + 1), .int .i64 (z + 1 + 1 + 1 + 1 + 1 + 1), .int .i64 (z + 1 + 1 + 1 + 1 + 1 + 1 + 1), .int .i64 (z + 1 + 1 + 1 + 1 + 1 + 1 + 1 + 1), .int .i64 (z + 1 + 1 + 1 + 1 + 1 + 1 + 1 + 1 + 1), .int .i64 (z + 1 + 1 + 1 + 1 + 1 + 1 + 1 + 1 + 1 + 1), .int .i64 (z + 1 + 1 + 1 + 1 + 1 + 1 + 1 + 1 + 1 + 1 + 1), .int .i64 (z + 1 + 1 + 1 + 1 + 1 + 1 + 1 + 1 + 1 + 1 + 1 + 1)]).frozen? ⟨g, j * 14 + 13, none⟩ = false := (putCells_frozen g _ _ wt1 _).trans s13
        have HU3 := Lib.hid (HU2.out.trans (Upd.put wt1 (Sf j) (g := g) (o := j * 14 + 3) (cs := [.string (mtI (z + 1 + 1 + 1)), .int .i64 (z + 1 + 1 + 1 + 1), .int .i64 (z + 1 + 1 + 1 + 1 + 1), .int .i64 (z + 1 + 1 + 1 + 1 + 1 + 1), .int .i64 (z + 1 + 1 + 1 + 1 + 1 + 1 + 1), .int .i64 (z + 1 + 1 + 1 + 1 + 1 + 1 + 1 + 1), .int .i64 (z + 1 + 1 + 1 + 1 + 1 + 1 + 1 + 1 + 1), .int .i64 (z + 1 + 1 + 1 + 1 + 1 + 1 + 1 + 1 + 1 + 1), .int .i64 (z + 1 + 1 + 1 + 1 + 1 + 1 + 1 + 1 + 1 + 1 + 1), .int .i64 (z + 1 + 1 + 1 + 1 + 1 + 1 + 1 + 1 + 1 + 1 + 1 + 1)]) ⟨by omega, by first | (simp; done) | (simp; omega)⟩))
        have HF3 := Lib.hid (HF2.out.trans ((putCells_off g [.string (mtI (z + 1 + 1 + 1)), .int .i64 (z + 1 + 1 + 1 + 1), .int .i64 (z + 1 + 1 + 1 + 1 + 1), .int .i64 (z + 1 + 1 + 1 + 1 + 1 + 1), .int .i64 (z + 1 + 1 + 1 + 1 + 1 + 1 + 1), .int .i64 (z + 1 + 1 + 1 + 1 + 1 + 1 + 1 + 1), .int .i64 (z + 1 + 1 + 1 + 1 + 1 + 1 + 1 + 1 + 1), .int .i64 (z + 1 + 1 + 1 + 1 + 1 + 1 + 1 + 1 + 1 + 1), .int .i64 (z + 1 + 1 + 1 + 1 + 1 + 1 + 1 + 1 + 1 + 1 + 1), .int .i64 (z + 1 + 1 + 1 + 1 + 1 + 1 + 1 + 1 + 1 + 1 + 1 + 1)] wt1 (j * 14 + 3)).more (fun x e => by rw [e]; exact HM2.out.row.own)))
        have K_L0 := Lib.hid (OwSl.keep I_ok (W' := (putCells wt1 g (j * 14 + 3) [.string (mtI (z + 1 + 1 + 1)), .int .i64 (z + 1 + 1 + 1 + 1), .int .i64 (z + 1 + 1 + 1 + 1 + 1), .int .i64 (z + 1 + 1 + 1 + 1 + 1 + 1), .int .i64 (z + 1 + 1 + 1 + 1 + 1 + 1 + 1), .int .i64 (z + 1 + 1 + 1 + 1 + 1 + 1 + 1 + 1), .int .i64 (z + 1 + 1 + 1 + 1 + 1 + 1 + 1 + 1 + 1), .int .i64 (z + 1 + 1 + 1 + 1 + 1 + 1 + 1 + 1 + 1 + 1), .int .i64 (z + 1 + 1 + 1 + 1 + 1 + 1 + 1 + 1 + 1 + 1 + 1), .int .i64 (z + 1 + 1 + 1 + 1 + 1 + 1 + 1 + 1 + 1 + 1 + 1 + 1)])) K_L0.out (fun q hq => putCells_block g (HM2.out.row.sub j q (TS0.out q hq)).2 _ _ _))
        clear hc
        have hbz : 0 ≤ z + 1 + 1 + 1 + 1 + 1 + 1 + 1 + 1 + 1 + 1 + 1 + 1 + 1 ∧ z + 1 + 1 + 1 + 1 + 1 + 1 + 1 + 1 + 1 + 1 + 1 + 1 + 1 + (sumL (I).cm L0 : Nat) ≤ 4611686018427387904 := by omega
        have D0 := Lib.hid d0
        have F0 := Lib.hid t0
        have D1 := Lib.hid d1
        have F1 := Lib.hid t1
        have D2 := Lib.hid d2
        have F2 := Lib.hid t2
        have D3 := Lib.hid d3
        have F3 := Lib.hid t3
        have D4 := Lib.hid d4
        have F4 := Lib.hid t4
        have D5 := Lib.hid d5
        have F5 := Lib.hid t5
        have D6 := Lib.hid d6
        have F6 := Lib.hid t6
        have D7 := Lib.hid d7
        have F7 := Lib.hid t7
        have D8 := Lib.hid d8
        have F8 := Lib.hid t8
        have D9 := Lib.hid d9
        have F9 := Lib.hid t9
        have D10 := Lib.hid d10
        have F10 := Lib.hid t10
        have D11 := Lib.hid d11
        have F11 := Lib.hid t11
        have D12 := Lib.hid d12
        have F12 := Lib.hid t12
        have D13 := Lib.hid d13
        have F13 := Lib.hid t13
        clear d0 t0 d1 t1 d2 t2 d3 t3 d4 t4 d5 t5 d6 t6 d7 t7 d8 t8 d9 t9 d10 t10 d11 t11 d12 t12 d13 t13
        go_wp2_with fail
        have HSi := Lib.hid (fun q (hq : T0 q) => Nat.lt_of_lt_of_le (HSW.out q (HM2.out.row.sub j q (TS0.out q hq)).1) HF3.out.size)
        refine (mark_Int64S (W := (putCells wt1 g (j * 14 + 3) [.string (mtI (z + 1 + 1 + 1)), .int .i64 (z + 1 + 1 + 1 + 1), .int .i64 (z + 1 + 1 + 1 + 1 + 1), .int .i64 (z + 1 + 1 + 1 + 1 + 1 + 1), .int .i64 (z + 1 + 1 + 1 + 1 + 1 + 1 + 1), .int .i64 (z + 1 + 1 + 1 + 1 + 1 + 1 + 1 + 1), .int .i64 (z + 1 + 1 + 1 + 1 + 1 + 1 + 1 + 1 + 1), .int .i64 (z + 1 + 1 + 1 + 1 + 1 + 1 + 1 + 1 + 1 + 1), .int .i64 (z + 1 + 1 + 1 + 1 + 1 + 1 + 1 + 1 + 1 + 1 + 1), .int .i64 (z + 1 + 1 + 1 + 1 + 1 + 1 + 1 + 1 + 1 + 1 + 1 + 1)])) hbz.1 hbz.2 HSi.out K_L0.out).mono ?_
        intro e w1 h
        obtain ⟨y0, z0, rfl, hyl, hmm, hzz, how, hoff⟩ := markR_elim h
        have hgg : g < (putCells wt1 g (j * 14 + 3) [.string (mtI (z + 1 + 1 + 1)), .int .i64 (z + 1 + 1 + 1 + 1), .int .i64 (z + 1 + 1 + 1 + 1 + 1), .int .i64 (z + 1 + 1 + 1 + 1 + 1 + 1), .int .i64 (z + 1 + 1 + 1 + 1 + 1 + 1 + 1), .int .i64 (z + 1 + 1 + 1 + 1 + 1 + 1 + 1 + 1), .int .i64 (z + 1 + 1 + 1 + 1 + 1 + 1 + 1 + 1 + 1), .int .i64 (z + 1 + 1 + 1 + 1 + 1 + 1 + 1 + 1 + 1 + 1), .int .i64 (z + 1 + 1 + 1 + 1 + 1 + 1 + 1 + 1 + 1 + 1 + 1), .int .i64 (z + 1 + 1 + 1 + 1 + 1 + 1 + 1 + 1 + 1 + 1 + 1 + 1)]).heap.size := Nat.lt_of_lt_of_le hgl HF3.out.size
        have hnT : ¬ T0 g := fun hg => hne (TS0.out g hg)
        have n0 : w1.cell? ⟨g, j * 14, none⟩ = some (.int .i64 (z)) := (World.cell?_of_block (a := ⟨g, j * 14, none⟩) (hoff.block g hgg hnT)).trans D0.out
        have n1 : w1.cell? ⟨g, j * 14 + 1, none⟩ = some (.int .i64 (z + 1)) := (World.cell?_of_block (a := ⟨g, j * 14 + 1, none⟩) (hoff.block g hgg hnT)).trans D1.out
        have n2 : w1.cell? ⟨g, j * 14 + 2, none⟩ = some (.int .i64 (z + 1 + 1)) := (World.cell?_of_block (a := ⟨g, j * 14 + 2, none⟩) (hoff.block g hgg hnT)).trans D2.out
        have n3 : w1.cell? ⟨g, j * 14 + 3, none⟩ = some (.string (mtI (z + 1 + 1 + 1))) := (World.cell?_of_block (a := ⟨g, j * 14 + 3, none⟩) (hoff.block g hgg hnT)).trans D3.out
        have n4 : w1.cell? ⟨g, j * 14 + 4, none⟩ = some (.int .i64 (z + 1 + 1 + 1 + 1)) := (World.cell?_of_block (a := ⟨g, j * 14 + 4, none⟩) (hoff.block g hgg hnT)).trans D4.out
        have n5 : w1.cell? ⟨g, j * 14 + 5, none⟩ = some (.int .i64 (z + 1 + 1 + 1 + 1 + 1)) := (World.cell?_of_block (a := ⟨g, j * 14 + 5, none⟩) (hoff.block g hgg hnT)).trans D5.out
        have n6 : w1.cell? ⟨g, j * 14 + 6, none⟩ = some (.int .i64 (z + 1 + 1 + 1 + 1 + 1 + 1)) := (World.cell?_of_block (a := ⟨g, j * 14 + 6, none⟩) (hoff.block g hgg hnT)).trans D6.out
        have n7 : w1.cell? ⟨g, j * 14 + 7, none⟩ = some (.int .i64 (z + 1 + 1 + 1 + 1 + 1 + 1 + 1)) := (World.cell?_of_block (a := ⟨g, j * 14 + 7, none⟩) (hoff.block g hgg hnT)).trans D7.out
        have n8 : w1.cell? ⟨g, j * 14 + 8, none⟩ = some (.int .i64 (z + 1 + 1 + 1 + 1 + 1 + 1 + 1 + 1)) := (World.cell?_of_block (a := ⟨g, j * 14 + 8, none⟩) (hoff.block g hgg hnT)).trans D8.out
        have n9 : w1.cell? ⟨g, j * 14 + 9, none⟩ = some (.int .i64 (z + 1 + 1 + 1 + 1 + 1 + 1 + 1 + 1 + 1)) := (World.cell?_of_block (a := ⟨g, j * 14 + 9, none⟩) (hoff.block g hgg hnT)).trans D9.out
        have n10 : w1.cell? ⟨g, j * 14 + 10, none⟩ = some (.int .i64 (z + 1 + 1 + 1 + 1 + 1 + 1 + 1 + 1 + 1 + 1)) := (World.cell?_of_block (a := ⟨g, j * 14 + 10, none⟩) (hoff.block g hgg hnT)).trans D10.out
        have n11 : w1.cell? ⟨g, j * 14 + 11, none⟩ = some (.int .i64 (z + 1 + 1 + 1 + 1 + 1 + 1 + 1 + 1 + 1 + 1 + 1)) := (World.cell?_of_block (a := ⟨g, j * 14 + 11, none⟩) (hoff.block g hgg hnT)).trans D11.out
        have n12 : w1.cell? ⟨g, j * 14 + 12, none⟩ = some (.int .i64 (z + 1 + 1 + 1 + 1 + 1 + 1 + 1 + 1 + 1 + 1 + 1 + 1)) := (World.cell?_of_block (a := ⟨g, j * 14 + 12, none⟩) (hoff.block g hgg hnT)).trans D12.out
        have n13 : w1.cell? ⟨g, j * 14 + 13, none⟩ = some (.slice a0 L0.length c0) := (World.cell?_of_block (a := ⟨g, j * 14 + 13, none⟩) (hoff.block g hgg hnT)).trans D13.out
        have m0 : w1.frozen? ⟨g, j * 14, none⟩ = false := (World.frozen?_of_block (a := ⟨g, j * 14, none⟩) (hoff.block g hgg hnT)).trans F0.out
        have m1 : w1.frozen? ⟨g, j * 14 + 1, none⟩ = false := (World.frozen?_of_block (a := ⟨g, j * 14 + 1, none⟩) (hoff.block g hgg hnT)).trans F1.out
        have m2 : w1.frozen? ⟨g, j * 14 + 2, none⟩ = false := (World.frozen?_of_block (a := ⟨g, j * 14 + 2, none⟩) (hoff.block g hgg hnT)).trans F2.out
        have m3 : w1.frozen? ⟨g, j * 14 + 3, none⟩ = false := (World.frozen?_of_block (a := ⟨g, j * 14 + 3, none⟩) (hoff.block g hgg hnT)).trans F3.out
        have m4 : w1.frozen? ⟨g, j * 14 + 4, none⟩ = false := (World.frozen?_of_block (a := ⟨g, j * 14 + 4, none⟩) (hoff.block g hgg hnT)).trans F4.out
        have m5 : w1.frozen? ⟨g, j * 14 + 5, none⟩ = false := (World.frozen?_of_block (a := ⟨g, j * 14 + 5, none⟩) (hoff.block g hgg hnT)).trans F5.out
        have m6 : w1.frozen? ⟨g, j * 14 + 6, none⟩ = false := (World.frozen?_of_block (a := ⟨g, j * 14 + 6, none⟩) (hoff.block g hgg hnT)).trans F6.out
        have m7 : w1.frozen? ⟨g, j * 14 + 7, none⟩ = false := (World.frozen?_of_block (a := ⟨g, j * 14 + 7, none⟩) (hoff.block g hgg hnT)).trans F7.out
        have m8 : w1.frozen? ⟨g, j * 14 + 8, none⟩ = false := (World.frozen?_of_block (a := ⟨g, j * 14 + 8, none⟩) (hoff.block g hgg hnT)).trans F8.out
        have m9 : w1.frozen? ⟨g, j * 14 + 9, none⟩ = false := (World.frozen?_of_block (a := ⟨g, j * 14 + 9, none⟩) (hoff.block g hgg hnT)).trans F9.out
        have m10 : w1.frozen? ⟨g, j * 14 + 10, none⟩ = false := (World.frozen?_of_block (a := ⟨g, j * 14 + 10, none⟩) (hoff.block g hgg hnT)).trans F10.out
        have m11 : w1.frozen? ⟨g, j * 14 + 11, none⟩ = false := (World.frozen?_of_block (a := ⟨g, j * 14 + 11, none⟩) (hoff.block g hgg hnT)).trans F11.out
        have m12 : w1.frozen? ⟨g, j * 14 + 12, none⟩ = false := (World.frozen?_of_block (a := ⟨g, j * 14 + 12, none⟩) (hoff.block g hgg hnT)).trans F12.out
        have m13 : w1.frozen? ⟨g, j * 14 + 13, none⟩ = false := (World.frozen?_of_block (a := ⟨g, j * 14 + 13, none⟩) (hoff.block g hgg hnT)).trans F13.out
        have HU4 := Lib.hid (HU3.out.trans (Upd.off (hoff.more TS0.out) hgg hne))
        have HF4 := Lib.hid (HF3.out.trans (hoff.more (fun q hq => (HM2.out.row.sub j q (TS0.out q hq)).1)))
        have K_L0 := Lib.hid how
        have HMM0 := Lib.hid hmm
        have HYL0 := Lib.hid hyl
        have HZZ0 := Lib.hid hzz
        have hzn0 : 0 ≤ z0 ∧ z0 ≤ 4611686018427387904 := by omega
        clear h hyl hmm how hoff hgg hnT hbz hzz HSi D0 F0 D1 F1 D2 F2 D3 F3 D4 F4 D5 F5 D6 F6 D7 F7 D8 F8 D9 F9 D10 F10 D11 F11 D12 F12 D13 F13
        have e0 := n0
        have s0 := m0
        have e1 := n1
        have s1 := m1
        have e2 := n2
        have s2 := m2
        have e3 := n3
        have s3 := m3
        have e4 := n4
        have s4 := m4
        have e5 := n5
        have s5 := m5
        have e6 := n6
        have s6 := m6
        have e7 := n7
        have s7 := m7
        have e8 := n8
        have s8 := m8
        have e9 := n9
        have s9 := m9
        have e10 := n10
        have s10 := m10
        have e11 := n11
        have s11 := m11
        have e12 := n12
        have s12 := m12
        have e13 := n13
        have s13 := m13
        clear n0 m0 n1 m1 n2 m2 n3 m3 n4 m4 n5 m5 n6 m6 n7 m7 n8 m8 n9 m9 n10 m10 n11 m11 n12 m12 n13 m13
        have hcf : CellsAt w1 g (j * 14) [.int .i64 (z), .int .i64 (z + 1), .int .i64 (z + 1 + 1), .string (mtI (z + 1 + 1 + 1)), .int .i64 (z + 1 + 1 + 1 + 1), .int .i64 (z + 1 + 1 + 1 + 1 + 1), .int .i64 (z + 1 + 1 + 1 + 1 + 1 + 1), .int .i64 (z + 1 + 1 + 1 + 1 + 1 + 1 + 1), .int .i64 (z + 1 + 1 + 1 + 1 + 1 + 1 + 1 + 1), .int .i64 (z + 1 + 1 + 1 + 1 + 1 + 1 + 1 + 1 + 1), .int .i64 (z + 1 + 1 + 1 + 1 + 1 + 1 + 1 + 1 + 1 + 1), .int .i64 (z + 1 + 1 + 1 + 1 + 1 + 1 + 1 + 1 + 1 + 1 + 1), .int .i64 (z + 1 + 1 + 1 + 1 + 1 + 1 + 1 + 1 + 1 + 1 + 1 + 1), .slice a0 y0.length c0] := CellsAt.cons.2 ⟨e0, CellsAt.cons.2 ⟨e1, CellsAt.cons.2 ⟨e2, CellsAt.cons.2 ⟨e3, CellsAt.cons.2 ⟨e4, CellsAt.cons.2 ⟨e5, CellsAt.cons.2 ⟨e6, CellsAt.cons.2 ⟨e7, CellsAt.cons.2 ⟨e8, CellsAt.cons.2 ⟨e9, CellsAt.cons.2 ⟨e10, CellsAt.cons.2 ⟨e11, CellsAt.cons.2 ⟨e12, CellsAt.cons.2 ⟨by rw [HYL0.out]; exact e13, CellsAt.nil⟩⟩⟩⟩⟩⟩⟩⟩⟩⟩⟩⟩⟩⟩
        have HSTEP := Lib.hid (HM2.out.step R_Task_ok (w' := w1) (y := ((z, z + 1), z + 1 + 1, (mtI (z + 1 + 1 + 1)), z + 1 + 1 + 1 + 1, z + 1 + 1 + 1 + 1 + 1, z + 1 + 1 + 1 + 1 + 1 + 1, (z + 1 + 1 + 1 + 1 + 1 + 1 + 1, z + 1 + 1 + 1 + 1 + 1 + 1 + 1 + 1), z + 1 + 1 + 1 + 1 + 1 + 1 + 1 + 1 + 1, z + 1 + 1 + 1 + 1 + 1 + 1 + 1 + 1 + 1 + 1, z + 1 + 1 + 1 + 1 + 1 + 1 + 1 + 1 + 1 + 1 + 1, z + 1 + 1 + 1 + 1 + 1 + 1 + 1 + 1 + 1 + 1 + 1 + 1, y0)) (q' := z0) HSW.out HX.out HU4.out HF4.out hcf (mkow_Task TS0.out K_L0.out HMS1.out) (mmk_Task HMM0.out) (by rw [hcx]; have q0 := HZZ0.out; omega))
        have hzb : 0 ≤ z0 ∧ z0 ≤ 4611686018427387904 := by have q0 := HZZ0.out; omega
        clear hcf hcx
        go_wp2
        go_roundw
        case rel => exact ⟨j + 1, by omega, by go_num, _, _, rfl, by first | exact HSTEP.out | simpa [putCells, Nat.add_assoc, Int.add_assoc] using HSTEP.out⟩
        case measure => simp [intOf]; omega
      · obtain rfl : j = L.length := by omega
        have HR := Lib.hid (HM2.out.done HCAP.out HMAX.out)
        clear hM hSw
        go_wp2
        go_ret
        exact HR.out

/-- a struct by value, marked in its slices -/
def MarkV_Task (x0 : Int) (x1 : Int) (x2 : Int) (x3 : ByteArray) (x4 : Int) (x5 : Int) (x6 : Int) (x7 : Int) (x8 : Int) (x9 : Int) (x10 : Int) (x11 : Int) (x12 : Int) (L0 : List (Int)) (a0 : Option Addr) (c0 : Nat) (T0 : Nat → Prop) (k : Int) (W : World) (e : Ending) (w' : World) : Prop := ∃ z0 : Int, ∃ (y0 : List (Int)), e = .returned (.int .i64 z0) ∧ (y0.length = L0.length ∧ mmL I y0 k z0 ∧ z0 = k + (sumL (I).cm L0 : Nat) ∧ OwSl I w' T0 y0 a0 c0) ∧ Off (fun q => T0 q) W w'
set_option maxRecDepth 100000 in
set_option maxHeartbeats 1600000 in
theorem mark_Task {x0 : Int} {x1 : Int} {x2 : Int} {x3 : ByteArray} {x4 : Int} {x5 : Int} {x6 : Int} {x7 : Int} {x8 : Int} {x9 : Int} {x10 : Int} {x11 : Int} {x12 : Int} {L0 : List (Int)} {a0 : Option Addr} {c0 : Nat} {W : World} {T0 : Nat → Prop} {k : Int} (h0 : 0 ≤ k) (h1 : k + (sumL (I).cm L0 : Nat) ≤ 4611686018427387904) (hS0 : ∀ q, T0 q → q < W.heap.size) (h_L0 : OwSl I W T0 L0 a0 c0) : Calls Try.prog 30 #[.agg #[.int .i64 x0, .int .i64 x1, .int .i64 x2, .string x3, .int .i64 x4, .int .i64 x5, .int .i64 x6, .int .i64 x7, .int .i64 x8, .int .i64 x9, .int .i64 x10, .int .i64 x11, .int .i64 x12, .slice a0 L0.length c0], .int .i64 k] W (MarkV_Task x0 x1 x2 x3 x4 x5 x6 x7 x8 x9 x10 x11 x12 L0 a0 c0 T0 k W) := by
  have HOFF0 := Lib.hid (show Off (fun q => T0 q) W (W.alloc (.cells #[.int .i64 x0, .int .i64 x1, .int .i64 x2, .string x3, .int .i64 x4, .int .i64 x5, .int .i64 x6, .int .i64 x7, .int .i64 x8, .int .i64 x9, .int .i64 x10, .int .i64 x11, .int .i64 x12, .slice a0 L0.length c0] 54)) from (Off.refl _ _).alloc _)
  have hP := Blk.new W 54 #[.int .i64 x0, .int .i64 x1, .int .i64 x2, .string x3, .int .i64 x4, .int .i64 x5, .int .i64 x6, .int .i64 x7, .int .i64 x8, .int .i64 x9, .int .i64 x10, .int .i64 x11, .int .i64 x12, .slice a0 L0.length c0]
  have HP0 := Lib.hid hP
  have hz0 : W.heap.size < (W.alloc (.cells #[.int .i64 x0, .int .i64 x1, .int .i64 x2, .string x3, .int .i64 x4, .int .i64 x5, .int .i64 x6, .int .i64 x7, .int .i64 x8, .int .i64 x9, .int .i64 x10, .int .i64 x11, .int .i64 x12, .slice a0 L0.length c0] 54)).heap.size := by simp
  clear hP
  have K_L0 := Lib.hid (OwSl.keep I_ok (W' := W.alloc (.cells #[.int .i64 x0, .int .i64 x1, .int .i64 x2, .string x3, .int .i64 x4, .int .i64 x5, .int .i64 x6, .int .i64 x7, .int .i64 x8, .int .i64 x9, .int .i64 x10, .int .i64 x11, .int .i64 x12, .slice a0 L0.length c0] 54)) h_L0 (fun q hq => Below.heap_alloc _ _ _ (hS0 q hq)))
  have HS0 := Lib.hid hS0
  clear h_L0 hS0 
  go_enter Try.func30, Try.ntmps30
  have hbz : 0 ≤ k ∧ k + (sumL (I).cm L0 : Nat) ≤ 4611686018427387904 := by omega
  go_wp2_with fail
  refine (mark_Int64S (W := W.alloc (.cells #[.int .i64 x0, .int .i64 x1, .int .i64 x2, .string x3, .int .i64 x4, .int .i64 x5, .int .i64 x6, .int .i64 x7, .int .i64 x8, .int .i64 x9, .int .i64 x10, .int .i64 x11, .int .i64 x12, .slice a0 L0.length c0] 54)) hbz.1 hbz.2 (fun q hq => Nat.lt_trans (HS0.out q hq) hz0) K_L0.out).mono ?_
  intro e w1 h
  obtain ⟨y0, z0, rfl, hyl, hmm, hzz, how, hoff⟩ := markR_elim h
  have HP1 := Lib.hid (Blk.off HP0.out hoff hz0 (fun hg => Nat.lt_irrefl _ (HS0.out _ hg)))
  have HOFF1 := Lib.hid (HOFF0.out.trans (hoff.more (fun q hq => hq)))
  have hz1 : W.heap.size < w1.heap.size := Nat.lt_of_lt_of_le hz0 hoff.size
  have K_L0 := Lib.hid how
  have HMM0 := Lib.hid hmm
  have HYL0 := Lib.hid hyl
  have HZZ0 := Lib.hid hzz
  have hzn0 : 0 ≤ z0 ∧ z0 ≤ 4611686018427387904 := by omega
  clear h hyl hmm how hoff hzz hbz
  have p1_13 := HP1.out.at_ 13 rfl
  go_wp2
  go_ret
  exact ⟨z0, y0, rfl, ⟨HYL0.out, HMM0.out, HZZ0.out, K_L0.out⟩, HOFF1.out⟩

theorem sizh_TaskS : (R_Task).size = 14 := rfl
set_option maxRecDepth 100000 in
set_option maxHeartbeats 1600000 in
theorem held_Task {x0 : Int} {x1 : Int} {x2 : Int} {x3 : ByteArray} {x4 : Int} {x5 : Int} {x6 : Int} {x7 : Int} {x8 : Int} {x9 : Int} {x10 : Int} {x11 : Int} {x12 : Int} {L0 : List (Int)} {a0 : Option Addr} {c0 : Nat} {W : World} {k : Int} {z0 : Int} (h0 : 0 ≤ k) (h1 : z0 ≤ 4611686018427387904) (hm0 : mmL I L0 k z0) (h_L0 : RdSl I W W.heap.size L0 a0 c0) : Calls Try.prog 31 #[.agg #[.int .i64 x0, .int .i64 x1, .int .i64 x2, .string x3, .int .i64 x4, .int .i64 x5, .int .i64 x6, .int .i64 x7, .int .i64 x8, .int .i64 x9, .int .i64 x10, .int .i64 x11, .int .i64 x12, .slice a0 L0.length c0], .int .i64 k] W (HeldC z0 W) := by
  have H_L0 := Lib.hid h_L0
  have HM0 := Lib.hid hm0
  have hl0 := mmL_le I_mn hm0
  clear h_L0 hm0
  have HB0 := Lib.hid (show Below W.heap.size W (W.alloc (.cells #[.int .i64 x0, .int .i64 x1, .int .i64 x2, .string x3, .int .i64 x4, .int .i64 x5, .int .i64 x6, .int .i64 x7, .int .i64 x8, .int .i64 x9, .int .i64 x10, .int .i64 x11, .int .i64 x12, .slice a0 L0.length c0] 54)) from (Below.refl _ _).alloc (Nat.le_refl _) _)
  have hP := Blk.new W 54 #[.int .i64 x0, .int .i64 x1, .int .i64 x2, .string x3, .int .i64 x4, .int .i64 x5, .int .i64 x6, .int .i64 x7, .int .i64 x8, .int .i64 x9, .int .i64 x10, .int .i64 x11, .int .i64 x12, .slice a0 L0.length c0]
  have HP0 := Lib.hid hP
  have hz0 : W.heap.size ≤ (W.alloc (.cells #[.int .i64 x0, .int .i64 x1, .int .i64 x2, .string x3, .int .i64 x4, .int .i64 x5, .int .i64 x6, .int .i64 x7, .int .i64 x8, .int .i64 x9, .int .i64 x10, .int .i64 x11, .int .i64 x12, .slice a0 L0.length c0] 54)).heap.size := HB0.out.size
  clear hP
  go_enter Try.func31, Try.ntmps31
  go_wp2_with fail
  refine (held_Int64S (k := k) (k' := z0) (by omega) (by omega) HM0.out ((H_L0.out.below I_ok HB0.out).more I_ok hz0)).mono ?_
  intro e w1 h
  obtain ⟨rfl, hb⟩ := heldC_elim h
  have HP1 := Lib.hid (HP0.out.call hb)
  have HB1 := Lib.hid (HB0.out.trans (hb.mono hz0))
  have hz1 : W.heap.size ≤ w1.heap.size := HB1.out.size
  clear h hb
  have p1_13 := HP1.out.at_ 13 rfl
  have hpos0 : (0 : Int) ≤ z0 := by omega
  go_wp2
  go_ret
  exact ⟨rfl, HB1.out⟩

end Go.Proofs.Ytmmnkdilnlhbfaa.RepC
