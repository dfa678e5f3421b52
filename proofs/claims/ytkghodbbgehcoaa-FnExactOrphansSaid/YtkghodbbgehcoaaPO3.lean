/- Of this claim's texts the part 3: TaM TaS Gen TaG TaO TaGv TaA1. -/
import Derived.Test.YtkghodbbgehcoaaPO2
section
namespace Go.Proofs.Ytkghodbbgehcoaa.RepC
open Go.RowKit RowC ValC
set_option linter.unusedVariables false
set_option linter.unusedSimpArgs false
theorem mmk_Task {k kk0 : Int} {L0 : List (Int)} (m_L0 : mmL I L0 (k + 1 + 1 + 1 + 1 + 1 + 1 + 1 + 1 + 1 + 1 + 1 + 1 + 1) kk0) : R_Task.mm ((k, k + 1), k + 1 + 1, (mtI (k + 1 + 1 + 1)), k + 1 + 1 + 1 + 1, k + 1 + 1 + 1 + 1 + 1, k + 1 + 1 + 1 + 1 + 1 + 1, (k + 1 + 1 + 1 + 1 + 1 + 1 + 1, k + 1 + 1 + 1 + 1 + 1 + 1 + 1 + 1), k + 1 + 1 + 1 + 1 + 1 + 1 + 1 + 1 + 1, k + 1 + 1 + 1 + 1 + 1 + 1 + 1 + 1 + 1 + 1, k + 1 + 1 + 1 + 1 + 1 + 1 + 1 + 1 + 1 + 1 + 1, k + 1 + 1 + 1 + 1 + 1 + 1 + 1 + 1 + 1 + 1 + 1 + 1, L0) k (kk0) := by
  dsimp only [R_Task, R_Label, St, Pr, I, atom, Sl]
  exact ⟨k + 1 + 1, ⟨k + 1, ⟨by omega, by omega⟩, ⟨by omega, by omega⟩⟩, ⟨k + 1 + 1 + 1, ⟨by omega, by omega⟩, ⟨k + 1 + 1 + 1 + 1, ⟨rfl, by omega⟩, ⟨k + 1 + 1 + 1 + 1 + 1, ⟨by omega, by omega⟩, ⟨k + 1 + 1 + 1 + 1 + 1 + 1, ⟨by omega, by omega⟩, ⟨k + 1 + 1 + 1 + 1 + 1 + 1 + 1, ⟨by omega, by omega⟩, ⟨k + 1 + 1 + 1 + 1 + 1 + 1 + 1 + 1 + 1, ⟨k + 1 + 1 + 1 + 1 + 1 + 1 + 1 + 1, ⟨by omega, by omega⟩, ⟨by omega, by omega⟩⟩, ⟨k + 1 + 1 + 1 + 1 + 1 + 1 + 1 + 1 + 1 + 1, ⟨by omega, by omega⟩, ⟨k + 1 + 1 + 1 + 1 + 1 + 1 + 1 + 1 + 1 + 1 + 1, ⟨by omega, by omega⟩, ⟨k + 1 + 1 + 1 + 1 + 1 + 1 + 1 + 1 + 1 + 1 + 1 + 1, ⟨by omega, by omega⟩, ⟨k + 1 + 1 + 1 + 1 + 1 + 1 + 1 + 1 + 1 + 1 + 1 + 1 + 1, ⟨by omega, by omega⟩, m_L0⟩⟩⟩⟩⟩⟩⟩⟩⟩⟩⟩
theorem mme_Task {k k' : Int} {x0 : Int} {x1 : Int} {x2 : Int} {x3 : ByteArray} {x4 : Int} {x5 : Int} {x6 : Int} {x7 : Int} {x8 : Int} {x9 : Int} {x10 : Int} {x11 : Int} {x12 : Int} {L0 : List (Int)} (h : R_Task.mm ((x0, x1), x2, x3, x4, x5, x6, (x7, x8), x9, x10, x11, x12, L0) k k') : ∃ kk0, x0 = k ∧ x1 = k + 1 ∧ x2 = k + 1 + 1 ∧ x3 = mtI (k + 1 + 1 + 1) ∧ x4 = k + 1 + 1 + 1 + 1 ∧ x5 = k + 1 + 1 + 1 + 1 + 1 ∧ x6 = k + 1 + 1 + 1 + 1 + 1 + 1 ∧ x7 = k + 1 + 1 + 1 + 1 + 1 + 1 + 1 ∧ x8 = k + 1 + 1 + 1 + 1 + 1 + 1 + 1 + 1 ∧ x9 = k + 1 + 1 + 1 + 1 + 1 + 1 + 1 + 1 + 1 ∧ x10 = k + 1 + 1 + 1 + 1 + 1 + 1 + 1 + 1 + 1 + 1 ∧ x11 = k + 1 + 1 + 1 + 1 + 1 + 1 + 1 + 1 + 1 + 1 + 1 ∧ x12 = k + 1 + 1 + 1 + 1 + 1 + 1 + 1 + 1 + 1 + 1 + 1 + 1 ∧ mmL I L0 (k + 1 + 1 + 1 + 1 + 1 + 1 + 1 + 1 + 1 + 1 + 1 + 1 + 1) kk0 ∧ k' = kk0 := by
  dsimp only [R_Task, R_Label, St, Pr, I, atom, Sl] at h
  obtain ⟨z1, h1, g1⟩ := h
  obtain ⟨z2, h2, g2⟩ := h1
  obtain ⟨e0, f0⟩ := h2
  have e0 : x0 = _ := e0
  obtain ⟨e1, f1⟩ := g2
  have e1 : x1 = _ := e1
  obtain ⟨z3, h3, g3⟩ := g1
  obtain ⟨e2, f2⟩ := h3
  have e2 : x2 = _ := e2
  obtain ⟨z4, h4, g4⟩ := g3
  obtain ⟨e3, f3⟩ := h4
  have e3 : x3 = _ := e3
  obtain ⟨z5, h5, g5⟩ := g4
  obtain ⟨e4, f4⟩ := h5
  have e4 : x4 = _ := e4
  obtain ⟨z6, h6, g6⟩ := g5
  obtain ⟨e5, f5⟩ := h6
  have e5 : x5 = _ := e5
  obtain ⟨z7, h7, g7⟩ := g6
  obtain ⟨e6, f6⟩ := h7
  have e6 : x6 = _ := e6
  obtain ⟨z8, h8, g8⟩ := g7
  obtain ⟨z9, h9, g9⟩ := h8
  obtain ⟨e7, f7⟩ := h9
  have e7 : x7 = _ := e7
  obtain ⟨e8, f8⟩ := g9
  have e8 : x8 = _ := e8
  obtain ⟨z10, h10, g10⟩ := g8
  obtain ⟨e9, f9⟩ := h10
  have e9 : x9 = _ := e9
  obtain ⟨z11, h11, g11⟩ := g10
  obtain ⟨e10, f10⟩ := h11
  have e10 : x10 = _ := e10
  obtain ⟨z12, h12, g12⟩ := g11
  obtain ⟨e11, f11⟩ := h12
  have e11 : x11 = _ := e11
  obtain ⟨z13, h13, g13⟩ := g12
  obtain ⟨e12, f12⟩ := h13
  have e12 : x12 = _ := e12
  have m_L0 : mmL I L0 _ _ := g13
  exact ⟨_, by omega, by omega, by omega, by rw [e3]; exact congrArg mtI (by omega), by omega, by omega, by omega, by omega, by omega, by omega, by omega, by omega, by omega, cast_mm m_L0 (by omega) rfl, by omega⟩
theorem R_Task_mn : Mn R_Task := (Pr_mn R_Label_mn (Pr_mn I_mn (Pr_mn St_mn (Pr_mn I_mn (Pr_mn I_mn (Pr_mn I_mn (Pr_mn R_Label_mn (Pr_mn I_mn (Pr_mn I_mn (Pr_mn I_mn (Pr_mn I_mn (Sl_mn I_mn))))))))))))
theorem sizm_TaskS : (R_Task).size = 14 := rfl
set_option maxRecDepth 100000 in
set_option maxHeartbeats 3200000 in
theorem mark_TaskS {L : List (D_Task)} {a : Option Addr} {cap : Nat} {W : World} {S : Nat → Prop} {k : Int} (h0 : 0 ≤ k) (h1 : k + (sumL (R_Task).cm L : Nat) ≤ 4611686018427387904) (hS : ∀ i, S i → i < W.heap.size) (h : OwSl R_Task W S L a cap) : Calls Try.prog 36 #[.slice a L.length cap, .int .i64 k] W (MarkR R_Task S L a cap k W) := by
  have hcap := h.1
  have hmax := h.2.1
  have hn : L.length ≤ 9223372036854775807 := by have h2 := h.2.1; unfold maxLen at h2; omega
  have H := Lib.hid h
  have HCAP := Lib.hid hcap
  have HMAX := Lib.hid hmax
  clear h hcap hmax
  rcases Nat.eq_zero_or_pos L.length with hz | hpos
  · have HR := Lib.hid (MarkR.none_ (k := k) H.out hz)
    have HZ := Lib.hid hz
    rw [hz]
    clear hz
    go_enter Try.func36, Try.ntmps36
    go_wp2
    go_loopw [5, 1] (fun i q wr => i = .int .i64 0 ∧ q = .int .i64 k ∧ wr = W) (fun i _ _ => 0)
    case atStart => exact ⟨rfl, rfl, rfl⟩
    case round =>
      obtain ⟨rfl, rfl, rfl⟩ := hrel
      go_wp2
      go_ret
      exact HR.out
  · obtain ⟨g, Sf, rfl, hrow⟩ := H.out.row hpos
    have HM := Lib.hid (Mkd.start (k := k) hrow)
    clear hrow
    go_enter Try.func36, Try.ntmps36
    go_wp2
    go_loopw [5, 1] (fun i q wr => ∃ j : Nat, j ≤ L.length ∧ i = .int .i64 j ∧ ∃ (M : List (D_Task)) (z : Int), q = .int .i64 z ∧ Mkd R_Task W wr S L g Sf k z j M) (fun i _ _ => L.length - (intOf i).toNat)
    case atStart => exact ⟨0, Nat.zero_le _, rfl, _, _, rfl, HM.out⟩
    case round =>
      obtain ⟨j, hj, rfl, M, z, rfl, hM⟩ := hrel
      have HM2 := Lib.hid hM
      have hSw : ∀ i, S i → i < wr.heap.size := fun i hi => Nat.lt_of_lt_of_le (hS i hi) hM.off.size
      have HSW := Lib.hid hSw
      by_cases hlt : j < L.length
      · obtain ⟨⟨⟨x0, x1⟩, x2, x3, x4, x5, x6, ⟨x7, x8⟩, x9, x10, x11, x12, L0⟩, hx⟩ := el_some hlt
        have HX := Lib.hid hx
        have hcm := sumL_take (R_Task).cm hx
        have hle := sumL_take_le (R_Task).cm L (j + 1)
        have hnum := hM.num
        obtain ⟨us, hu, hr⟩ := hM.el hx
        obtain ⟨a0, c0, T0, rfl, ts0, k_L0, b_x3⟩ := ow_Task hr
        have hgl : g < wr.heap.size := hSw g hM.row.own
        have hi0 : (0 : Int) ≤ (j : Int) := Int.natCast_nonneg _
        have hi1 : (j : Int) < (L.length : Int) := by omega
        have hz0 : 0 ≤ z := by omega
        have e0 : wr.cell? ⟨g, j * 14, none⟩ = some (.int .i64 x0) := by simpa [sizm_TaskS, Nat.add_assoc] using hu 0 _ rfl
        have e1 : wr.cell? ⟨g, j * 14 + 1, none⟩ = some (.int .i64 x1) := by simpa [sizm_TaskS, Nat.add_assoc] using hu 1 _ rfl
        have e2 : wr.cell? ⟨g, j * 14 + 2, none⟩ = some (.int .i64 x2) := by simpa [sizm_TaskS, Nat.add_assoc] using hu 2 _ rfl
        have e3 : wr.cell? ⟨g, j * 14 + 3, none⟩ = some (.string x3) := by simpa [sizm_TaskS, Nat.add_assoc] using hu 3 _ rfl
        have e4 : wr.cell? ⟨g, j * 14 + 4, none⟩ = some (.int .i64 x4) := by simpa [sizm_TaskS, Nat.add_assoc] using hu 4 _ rfl
        have e5 : wr.cell? ⟨g, j * 14 + 5, none⟩ = some (.int .i64 x5) := by simpa [sizm_TaskS, Nat.add_assoc] using hu 5 _ rfl
        have e6 : wr.cell? ⟨g, j * 14 + 6, none⟩ = some (.int .i64 x6) := by simpa [sizm_TaskS, Nat.add_assoc] using hu 6 _ rfl
        have e7 : wr.cell? ⟨g, j * 14 + 7, none⟩ = some (.int .i64 x7) := by simpa [sizm_TaskS, Nat.add_assoc] using hu 7 _ rfl
        have e8 : wr.cell? ⟨g, j * 14 + 8, none⟩ = some (.int .i64 x8) := by simpa [sizm_TaskS, Nat.add_assoc] using hu 8 _ rfl
        have e9 : wr.cell? ⟨g, j * 14 + 9, none⟩ = some (.int .i64 x9) := by simpa [sizm_TaskS, Nat.add_assoc] using hu 9 _ rfl
        have e10 : wr.cell? ⟨g, j * 14 + 10, none⟩ = some (.int .i64 x10) := by simpa [sizm_TaskS, Nat.add_assoc] using hu 10 _ rfl
        have e11 : wr.cell? ⟨g, j * 14 + 11, none⟩ = some (.int .i64 x11) := by simpa [sizm_TaskS, Nat.add_assoc] using hu 11 _ rfl
        have e12 : wr.cell? ⟨g, j * 14 + 12, none⟩ = some (.int .i64 x12) := by simpa [sizm_TaskS, Nat.add_assoc] using hu 12 _ rfl
        have e13 : wr.cell? ⟨g, j * 14 + 13, none⟩ = some (.slice a0 L0.length c0) := by simpa [sizm_TaskS, Nat.add_assoc] using hu 13 _ rfl
        have s0 := hM.row.soft (j * 14)
        have s1 := hM.row.soft (j * 14 + 1)
        have s2 := hM.row.soft (j * 14 + 2)
        have s3 := hM.row.soft (j * 14 + 3)
        have s4 := hM.row.soft (j * 14 + 4)
        have s5 := hM.row.soft (j * 14 + 5)
        have s6 := hM.row.soft (j * 14 + 6)
        have s7 := hM.row.soft (j * 14 + 7)
        have s8 := hM.row.soft (j * 14 + 8)
        have s9 := hM.row.soft (j * 14 + 9)
        have s10 := hM.row.soft (j * 14 + 10)
        have s11 := hM.row.soft (j * 14 + 11)
        have s12 := hM.row.soft (j * 14 + 12)
        have s13 := hM.row.soft (j * 14 + 13)
        have hcx : R_Task.cm ((x0, x1), x2, x3, x4, x5, x6, (x7, x8), x9, x10, x11, x12, L0) = 13 + sumL (I).cm L0 := by first | (simp only [R_Task, R_Label, R_Label, Pr, I, St, atom, Sl]; done) | (simp only [R_Task, R_Label, R_Label, Pr, I, St, atom, Sl]; omega)
        rw [hcm, hcx] at hle
        have hb1 : z + ((13 + sumL (I).cm L0 : Nat) : Int) ≤ 4611686018427387904 := by omega
        have hne : ¬ Sf j g := fun hg => (HM2.out.row.sub j g hg).2 rfl
        have K_L0 := Lib.hid k_L0
        have TS0 := Lib.hid ts0
        have HU0 := Lib.hid (Upd.refl wr g (j * 14) ((j + 1) * 14) (Sf j))
        have HF0 := Lib.hid (Off.refl S wr)
        clear hM hSw hx hu hcm hle hnum k_L0 ts0
        have hc := putCells_cells g [.int .i64 (z), .int .i64 (z + 1), .int .i64 (z + 1 + 1)] wr (j * 14) (fun p hp => by
          match p, hp with
          | 0, _ => exact ⟨_, by simpa [Nat.add_assoc] using e0⟩
          | 1, _ => exact ⟨_, by simpa [Nat.add_assoc] using e1⟩
          | 2, _ => exact ⟨_, by simpa [Nat.add_assoc] using e2⟩
          | _ + 3, hp => simp at hp; omega)
        have d0 : (putCells wr g (j * 14) [.int .i64 (z), .int .i64 (z + 1), .int .i64 (z + 1 + 1)]).cell? ⟨g, j * 14, none⟩ = some (.int .i64 (z)) := by simpa [Nat.add_assoc] using hc 0 _ rfl
        have d1 : (putCells wr g (j * 14) [.int .i64 (z), .int .i64 (z + 1), .int .i64 (z + 1 + 1)]).cell? ⟨g, j * 14 + 1, none⟩ = some (.int .i64 (z + 1)) := by simpa [Nat.add_assoc] using hc 1 _ rfl
        have d2 : (putCells wr g (j * 14) [.int .i64 (z), .int .i64 (z + 1), .int .i64 (z + 1 + 1)]).cell? ⟨g, j * 14 + 2, none⟩ = some (.int .i64 (z + 1 + 1)) := by simpa [Nat.add_assoc] using hc 2 _ rfl
        have d3 : (putCells wr g (j * 14) [.int .i64 (z), .int .i64 (z + 1), .int .i64 (z + 1 + 1)]).cell? ⟨g, j * 14 + 3, none⟩ = some (.string x3) := (putCells_other g _ wr _ (by first | (simp; done) | (simp; omega))).trans e3
        have d4 : (putCells wr g (j * 14) [.int .i64 (z), .int .i64 (z + 1), .int .i64 (z + 1 + 1)]).cell? ⟨g, j * 14 + 4, none⟩ = some (.int .i64 x4) := (putCells_other g _ wr _ (by first | (simp; done) | (simp; omega))).trans e4
        have d5 : (putCells wr g (j * 14) [.int .i64 (z), .int .i64 (z + 1), .int .i64 (z + 1 + 1)]).cell? ⟨g, j * 14 + 5, none⟩ = some (.int .i64 x5) := (putCells_other g _ wr _ (by first | (simp; done) | (simp; omega))).trans e5
        have d6 : (putCells wr g (j * 14) [.int .i64 (z), .int .i64 (z + 1), .int .i64 (z + 1 + 1)]).cell? ⟨g, j * 14 + 6, none⟩ = some (.int .i64 x6) := (putCells_other g _ wr _ (by first | (simp; done) | (simp; omega))).trans e6
        have d7 : (putCells wr g (j * 14) [.int .i64 (z), .int .i64 (z + 1), .int .i64 (z + 1 + 1)]).cell? ⟨g, j * 14 + 7, none⟩ = some (.int .i64 x7) := (putCells_other g _ wr _ (by first | (simp; done) | (simp; omega))).trans e7
        have d8 : (putCells wr g (j * 14) [.int .i64 (z), .int .i64 (z + 1), .int .i64 (z + 1 + 1)]).cell? ⟨g, j * 14 + 8, none⟩ = some (.int .i64 x8) := (putCells_other g _ wr _ (by first | (simp; done) | (simp; omega))).trans e8
        have d9 : (putCells wr g (j * 14) [.int .i64 (z), .int .i64 (z + 1), .int .i64 (z + 1 + 1)]).cell? ⟨g, j * 14 + 9, none⟩ = some (.int .i64 x9) := (putCells_other g _ wr _ (by first | (simp; done) | (simp; omega))).trans e9
        have d10 : (putCells wr g (j * 14) [.int .i64 (z), .int .i64 (z + 1), .int .i64 (z + 1 + 1)]).cell? ⟨g, j * 14 + 10, none⟩ = some (.int .i64 x10) := (putCells_other g _ wr _ (by first | (simp; done) | (simp; omega))).trans e10
        have d11 : (putCells wr g (j * 14) [.int .i64 (z), .int .i64 (z + 1), .int .i64 (z + 1 + 1)]).cell? ⟨g, j * 14 + 11, none⟩ = some (.int .i64 x11) := (putCells_other g _ wr _ (by first | (simp; done) | (simp; omega))).trans e11
        have d12 : (putCells wr g (j * 14) [.int .i64 (z), .int .i64 (z + 1), .int .i64 (z + 1 + 1)]).cell? ⟨g, j * 14 + 12, none⟩ = some (.int .i64 x12) := (putCells_other g _ wr _ (by first | (simp; done) | (simp; omega))).trans e12
        have d13 : (putCells wr g (j * 14) [.int .i64 (z), .int .i64 (z + 1), .int .i64 (z + 1 + 1)]).cell? ⟨g, j * 14 + 13, none⟩ = some (.slice a0 L0.length c0) := (putCells_other g _ wr _ (by first | (simp; done) | (simp; omega))).trans e13
        have t0 : (putCells wr g (j * 14) [.int .i64 (z), .int .i64 (z + 1), .int .i64 (z + 1 + 1)]).frozen? ⟨g, j * 14, none⟩ = false := (putCells_frozen g _ _ wr _).trans s0
        have t1 : (putCells wr g (j * 14) [.int .i64 (z), .int .i64 (z + 1), .int .i64 (z + 1 + 1)]).frozen? ⟨g, j * 14 + 1, none⟩ = false := (putCells_frozen g _ _ wr _).trans s1
        have t2 : (putCells wr g (j * 14) [.int .i64 (z), .int .i64 (z + 1), .int .i64 (z + 1 + 1)]).frozen? ⟨g, j * 14 + 2, none⟩ = false := (putCells_frozen g _ _ wr _).trans s2
        have t3 : (putCells wr g (j * 14) [.int .i64 (z), .int .i64 (z + 1), .int .i64 (z + 1 + 1)]).frozen? ⟨g, j * 14 + 3, none⟩ = false := (putCells_frozen g _ _ wr _).trans s3
        have t4 : (putCells wr g (j * 14) [.int .i64 (z), .int .i64 (z + 1), .int .i64 (z + 1 + 1)]).frozen? ⟨g, j * 14 + 4, none⟩ = false := (putCells_frozen g _ _ wr _).trans s4
        have t5 : (putCells wr g (j * 14) [.int .i64 (z), .int .i64 (z + 1), .int .i64 (z + 1 + 1)]).frozen? ⟨g, j * 14 + 5, none⟩ = false := (putCells_frozen g _ _ wr _).trans s5
        have t6 : (putCells wr g (j * 14) [.int .i64 (z), .int .i64 (z + 1), .int .i64 (z + 1 + 1)]).frozen? ⟨g, j * 14 + 6, none⟩ = false := (putCells_frozen g _ _ wr _).trans s6
        have t7 : (putCells wr g (j * 14) [.int .i64 (z), .int .i64 (z + 1), .int .i64 (z + 1 + 1)]).frozen? ⟨g, j * 14 + 7, none⟩ = false := (putCells_frozen g _ _ wr _).trans s7
        have t8 : (putCells wr g (j * 14) [.int .i64 (z), .int .i64 (z + 1), .int .i64 (z + 1 + 1)]).frozen? ⟨g, j * 14 + 8, none⟩ = false := (putCells_frozen g _ _ wr _).trans s8
        have t9 : (putCells wr g (j * 14) [.int .i64 (z), .int .i64 (z + 1), .int .i64 (z + 1 + 1)]).frozen? ⟨g, j * 14 + 9, none⟩ = false := (putCells_frozen g _ _ wr _).trans s9
        have t10 : (putCells wr g (j * 14) [.int .i64 (z), .int .i64 (z + 1), .int .i64 (z + 1 + 1)]).frozen? ⟨g, j * 14 + 10, none⟩ = false := (putCells_frozen g _ _ wr _).trans s10
        have t11 : (putCells wr g (j * 14) [.int .i64 (z), .int .i64 (z + 1), .int .i64 (z + 1 + 1)]).frozen? ⟨g, j * 14 + 11, none⟩ = false := (putCells_frozen g _ _ wr _).trans s11
        have t12 : (putCells wr g (j * 14) [.int .i64 (z), .int .i64 (z + 1), .int .i64 (z + 1 + 1)]).frozen? ⟨g, j * 14 + 12, none⟩ = false := (putCells_frozen g _ _ wr _).trans s12
        have t13 : (putCells wr g (j * 14) [.int .i64 (z), .int .i64 (z + 1), .int .i64 (z + 1 + 1)]).frozen? ⟨g, j * 14 + 13, none⟩ = false := (putCells_frozen g _ _ wr _).trans s13
        have HU1 := Lib.hid (HU0.out.trans (Upd.put wr (Sf j) (g := g) (o := j * 14) (cs := [.int .i64 (z), .int .i64 (z + 1), .int .i64 (z + 1 + 1)]) ⟨by omega, by first | (simp; done) | (simp; omega)⟩))
        have HF1 := Lib.hid (HF0.out.trans ((putCells_off g [.int .i64 (z), .int .i64 (z + 1), .int .i64 (z + 1 + 1)] wr (j * 14)).more (fun x e => by rw [e]; exact HM2.out.row.own)))
        have K_L0 := Lib.hid (OwSl.keep I_ok (W' := (putCells wr g (j * 14) [.int .i64 (z), .int .i64 (z + 1), .int .i64 (z + 1 + 1)])) K_L0.out (fun q hq => putCells_block g (HM2.out.row.sub j q (TS0.out q hq)).2 _ _ _))
        clear hc
        have hbz : 0 ≤ z + 1 + 1 + 1 ∧ z + 1 + 1 + 1 ≤ 4611686018427387904 := by omega
        have D0 := Lib.hid d0
        have F0 := Lib.hid t0
        have D1 := Lib.hid d1
        have F1 := Lib.hid t1
        have D2 := Lib.hid d2
        have F2 := Lib.hid t2
        have D3 := Lib.hid d3
        have F3 := Lib.hid t3
        have D4 := Lib.hid d4
        have F4 := Lib.hid t4
        have D5 := Lib.hid d5
        have F5 := Lib.hid t5
        have D6 := Lib.hid d6
        have F6 := Lib.hid t6
        have D7 := Lib.hid d7
        have F7 := Lib.hid t7
        have D8 := Lib.hid d8
        have F8 := Lib.hid t8
        have D9 := Lib.hid d9
        have F9 := Lib.hid t9
        have D10 := Lib.hid d10
        have F10 := Lib.hid t10
        have D11 := Lib.hid d11
        have F11 := Lib.hid t11
        have D12 := Lib.hid d12
        have F12 := Lib.hid t12
        have D13 := Lib.hid d13
        have F13 := Lib.hid t13
        clear d0 t0 d1 t1 d2 t2 d3 t3 d4 t4 d5 t5 d6 t6 d7 t7 d8 t8 d9 t9 d10 t10 d11 t11 d12 t12 d13 t13
        go_wp2_with fail
        refine (marktext_v (z + 1 + 1 + 1) ((putCells wr g (j * 14) [.int .i64 (z), .int .i64 (z + 1), .int .i64 (z + 1 + 1)])) hbz.1 hbz.2).mono ?_
        intro e wt1 h
        obtain ⟨rfl, hms, hb⟩ := mkT_elim h
        have HMS1 := Lib.hid hms
        have hgg : g < (putCells wr g (j * 14) [.int .i64 (z), .int .i64 (z + 1), .int .i64 (z + 1 + 1)]).heap.size := Nat.lt_of_lt_of_le hgl HF1.out.size
        have n0 : wt1.cell? ⟨g, j * 14, none⟩ = some (.int .i64 (z)) := (hb.cell (p := ⟨g, j * 14, none⟩) hgg).trans D0.out
        have n1 : wt1.cell? ⟨g, j * 14 + 1, none⟩ = some (.int .i64 (z + 1)) := (hb.cell (p := ⟨g, j * 14 + 1, none⟩) hgg).trans D1.out
        have n2 : wt1.cell? ⟨g, j * 14 + 2, none⟩ = some (.int .i64 (z + 1 + 1)) := (hb.cell (p := ⟨g, j * 14 + 2, none⟩) hgg).trans D2.out
        have n3 : wt1.cell? ⟨g, j * 14 + 3, none⟩ = some (.string x3) := (hb.cell (p := ⟨g, j * 14 + 3, none⟩) hgg).trans D3.out
        have n4 : wt1.cell? ⟨g, j * 14 + 4, none⟩ = some (.int .i64 x4) := (hb.cell (p := ⟨g, j * 14 + 4, none⟩) hgg).trans D4.out
        have n5 : wt1.cell? ⟨g, j * 14 + 5, none⟩ = some (.int .i64 x5) := (hb.cell (p := ⟨g, j * 14 + 5, none⟩) hgg).trans D5.out
        have n6 : wt1.cell? ⟨g, j * 14 + 6, none⟩ = some (.int .i64 x6) := (hb.cell (p := ⟨g, j * 14 + 6, none⟩) hgg).trans D6.out
        have n7 : wt1.cell? ⟨g, j * 14 + 7, none⟩ = some (.int .i64 x7) := (hb.cell (p := ⟨g, j * 14 + 7, none⟩) hgg).trans D7.out
        have n8 : wt1.cell? ⟨g, j * 14 + 8, none⟩ = some (.int .i64 x8) := (hb.cell (p := ⟨g, j * 14 + 8, none⟩) hgg).trans D8.out
        have n9 : wt1.cell? ⟨g, j * 14 + 9, none⟩ = some (.int .i64 x9) := (hb.cell (p := ⟨g, j * 14 + 9, none⟩) hgg).trans D9.out
        have n10 : wt1.cell? ⟨g, j * 14 + 10, none⟩ = some (.int .i64 x10) := (hb.cell (p := ⟨g, j * 14 + 10, none⟩) hgg).trans D10.out
        have n11 : wt1.cell? ⟨g, j * 14 + 11, none⟩ = some (.int .i64 x11) := (hb.cell (p := ⟨g, j * 14 + 11, none⟩) hgg).trans D11.out
        have n12 : wt1.cell? ⟨g, j * 14 + 12, none⟩ = some (.int .i64 x12) := (hb.cell (p := ⟨g, j * 14 + 12, none⟩) hgg).trans D12.out
        have n13 : wt1.cell? ⟨g, j * 14 + 13, none⟩ = some (.slice a0 L0.length c0) := (hb.cell (p := ⟨g, j * 14 + 13, none⟩) hgg).trans D13.out
        have m0 : wt1.frozen? ⟨g, j * 14, none⟩ = false := (hb.frozen (p := ⟨g, j * 14, none⟩) hgg).trans F0.out
        have m1 : wt1.frozen? ⟨g, j * 14 + 1, none⟩ = false := (hb.frozen (p := ⟨g, j * 14 + 1, none⟩) hgg).trans F1.out
        have m2 : wt1.frozen? ⟨g, j * 14 + 2, none⟩ = false := (hb.frozen (p := ⟨g, j * 14 + 2, none⟩) hgg).trans F2.out
        have m3 : wt1.frozen? ⟨g, j * 14 + 3, none⟩ = false := (hb.frozen (p := ⟨g, j * 14 + 3, none⟩) hgg).trans F3.out
        have m4 : wt1.frozen? ⟨g, j * 14 + 4, none⟩ = false := (hb.frozen (p := ⟨g, j * 14 + 4, none⟩) hgg).trans F4.out
        have m5 : wt1.frozen? ⟨g, j * 14 + 5, none⟩ = false := (hb.frozen (p := ⟨g, j * 14 + 5, none⟩) hgg).trans F5.out
        have m6 : wt1.frozen? ⟨g, j * 14 + 6, none⟩ = false := (hb.frozen (p := ⟨g, j * 14 + 6, none⟩) hgg).trans F6.out
        have m7 : wt1.frozen? ⟨g, j * 14 + 7, none⟩ = false := (hb.frozen (p := ⟨g, j * 14 + 7, none⟩) hgg).trans F7.out
        have m8 : wt1.frozen? ⟨g, j * 14 + 8, none⟩ = false := (hb.frozen (p := ⟨g, j * 14 + 8, none⟩) hgg).trans F8.out
        have m9 : wt1.frozen? ⟨g, j * 14 + 9, none⟩ = false := (hb.frozen (p := ⟨g, j * 14 + 9, none⟩) hgg).trans F9.out
        have m10 : wt1.frozen? ⟨g, j * 14 + 10, none⟩ = false := (hb.frozen (p := ⟨g, j * 14 + 10, none⟩) hgg).trans F10.out
        have m11 : wt1.frozen? ⟨g, j * 14 + 11, none⟩ = false := (hb.frozen (p := ⟨g, j * 14 + 11, none⟩) hgg).trans F11.out
        have m12 : wt1.frozen? ⟨g, j * 14 + 12, none⟩ = false := (hb.frozen (p := ⟨g, j * 14 + 12, none⟩) hgg).trans F12.out
        have m13 : wt1.frozen? ⟨g, j * 14 + 13, none⟩ = false := (hb.frozen (p := ⟨g, j * 14 + 13, none⟩) hgg).trans F13.out
        have HU2 := Lib.hid (HU1.out.trans (Upd.below hb hgg))
        have HF2 := Lib.hid (HF1.out.of_below hb)
        have K_L0 := Lib.hid (K_L0.out.keep I_ok (fun q hq => hb.block q (Nat.lt_of_lt_of_le (HSW.out q (HM2.out.row.sub j q (TS0.out q hq)).1) HF1.out.size)))
        clear h hb hgg hbz hms D0 F0 D1 F1 D2 F2 D3 F3 D4 F4 D5 F5 D6 F6 D7 F7 D8 F8 D9 F9 D10 F10 D11 F11 D12 F12 D13 F13
        have e0 := n0
        have s0 := m0
        have e1 := n1
        have s1 := m1
        have e2 := n2
        have s2 := m2
        have e3 := n3
        have s3 := m3
        have e4 := n4
        have s4 := m4
        have e5 := n5
        have s5 := m5
        have e6 := n6
        have s6 := m6
        have e7 := n7
        have s7 := m7
        have e8 := n8
        have s8 := m8
        have e9 := n9
        have s9 := m9
        have e10 := n10
        have s10 := m10
        have e11 := n11
        have s11 := m11
        have e12 := n12
        have s12 := m12
        have e13 := n13
        have s13 := m13
        clear n0 m0 n1 m1 n2 m2 n3 m3 n4 m4 n5 m5 n6 m6 n7 m7 n8 m8 n9 m9 n10 m10 n11 m11 n12 m12 n13 m13
        have hc := putCells_cells g [.string (mtI (z + 1 + 1 + 1)), .int .i64 (z + 1 + 1 + 1 + 1), .int .i64 (z + 1 + 1 + 1 + 1 + 1), .int .i64 (z + 1 + 1 + 1 + 1 + 1 + 1), .int .i64 (z + 1 + 1 + 1 + 1 + 1 + 1 + 1), .int .i64 (z + 1 + 1 + 1 + 1 + 1 + 1 + 1 + 1), .int .i64 (z + 1 + 1 + 1 + 1 + 1 + 1 + 1 + 1 + 1), .int .i64 (z + 1 + 1 + 1 + 1 + 1 + 1 + 1 + 1 + 1 + 1), .int .i64 (z + 1 + 1 + 1 + 1 + 1 + 1 + 1 + 1 + 1 + 1 + 1), .int .i64 (z + 1 + 1 + 1 + 1 + 1 + 1 + 1 + 1 + 1 + 1 + 1 + 1)] wt1 (j * 14 + 3) (fun p hp => by
          match p, hp with
          | 0, _ => exact ⟨_, by simpa [Nat.add_assoc] using e3⟩
          | 1, _ => exact ⟨_, by simpa [Nat.add_assoc] using e4⟩
          | 2, _ => exact ⟨_, by simpa [Nat.add_assoc] using e5⟩
          | 3, _ => exact ⟨_, by simpa [Nat.add_assoc] using e6⟩
          | 4, _ => exact ⟨_, by simpa [Nat.add_assoc] using e7⟩
          | 5, _ => exact ⟨_, by simpa [Nat.add_assoc] using e8⟩
          | 6, _ => exact ⟨_, by simpa [Nat.add_assoc] using e9⟩
          | 7, _ => exact ⟨_, by simpa [Nat.add_assoc] using e10⟩
          | 8, _ => exact ⟨_, by simpa [Nat.add_assoc] using e11⟩
          | 9, _ => exact ⟨_, by simpa [Nat.add_assoc] using e12⟩
          | _ + 10, hp => simp at hp; omega)
        have d3 : (putCells wt1 g (j * 14 + 3) [.string (mtI (z + 1 + 1 + 1)), .int .i64 (z + 1 + 1 + 1 + 1), .int .i64 (z + 1 + 1 + 1 + 1 + 1), .int .i64 (z + 1 + 1 + 1 + 1 + 1 + 1), .int .i64 (z + 1 + 1 + 1 + 1 + 1 + 1 + 1), .int .i64 (z + 1 + 1 + 1 + 1 + 1 + 1 + 1 + 1), .int .i64 (z + 1 + 1 + 1 + 1 + 1 + 1 + 1 + 1 + 1), .int .i64 (z + 1 + 1 + 1 + 1 + 1 + 1 + 1 + 1 + 1 + 1), .int .i64 (z + 1 + 1 + 1 + 1 + 1 + 1 + 1 + 1 + 1 + 1 + 1), .int .i64 (z + 1 + 1 + 1 + 1 + 1 + 1 + 1 + 1 + 1 + 1 + 1 + 1)]).cell? ⟨g, j * 14 + 3, none⟩ = some (.string (mtI (z + 1 + 1 + 1))) := by simpa [Nat.add_assoc] using hc 0 _ rfl
        have d4 : (putCells wt1 g (j * 14 + 3) [.string (mtI (z + 1 + 1 + 1)), .int .i64 (z + 1 + 1 + 1 + 1), .int .i64 (z + 1 + 1 + 1 + 1 + 1), .int .i64 (z + 1 + 1 + 1 + 1 + 1 + 1), .int .i64 (z + 1 + 1 + 1 + 1 + 1 + 1 + 1), .int .i64 (z + 1 + 1 + 1 + 1 + 1 + 1 + 1 + 1), .int .i64 (z + 1 + 1 + 1 + 1 + 1 + 1 + 1 + 1 + 1), .int .i64 (z + 1 + 1 + 1 + 1 + 1 + 1 + 1 + 1 + 1 + 1), .int .i64 (z + 1 + 1 + 1 + 1 + 1 + 1 + 1 + 1 + 1 + 1 + 1), .int .i64 (z + 1 + 1 + 1 + 1 + 1 + 1 + 1 + 1 + 1 + 1 + 1 + 1)]).cell? ⟨g, j * 14 + 4, none⟩ = some (.int .i64 (z + 1 + 1 + 1 + 1)) := by simpa [Nat.add_assoc] using hc 1 _ rfl
        have d5 : (putCells wt1 g (j * 14 + 3) [.string (mtI (z + 1 + 1 + 1)), .int .i64 (z + 1 + 1 + 1 + 1), .int .i64 (z + 1 + 1 + 1 + 1 + 1), .int .i64 (z + 1 + 1 + 1 + 1 + 1 + 1), .int .i64 (z + 1 + 1 + 1 + 1 + 1 + 1 + 1), .int .i64 (z + 1 + 1 + 1 + 1 + 1 + 1 + 1 + 1), .int .i64 (z + 1 + 1 + 1 + 1 + 1 + 1 + 1 + 1 + 1), .int .i64 (z + 1 + 1 + 1 + 1 + 1 + 1 + 1 + 1 + 1 + 1), .int .i64 (z + 1 + 1 + 1 + 1 + 1 + 1 + 1 + 1 + 1 + 1 + 1), .int .i64 (z + 1 + 1 + 1 + 1 + 1 + 1 + 1 + 1 + 1 + 1 + 1 + 1)]).cell? ⟨g, j * 14 + 5, none⟩ = some (.int .i64 (z + 1 + 1 + 1 + 1 + 1)) := by simpa [Nat.add_assoc] using hc 2 _ rfl
        have d6 : (putCells wt1 g (j * 14 + 3) [.string (mtI (z + 1 + 1 + 1)), .int .i64 (z + 1 + 1 + 1 + 1), .int .i64 (z + 1 + 1 + 1 + 1 + 1), .int .i64 (z + 1 + 1 + 1 + 1 + 1 + 1), .int .i64 (z + 1 + 1 + 1 + 1 + 1 + 1 + 1), .int .i64 (z + 1 + 1 + 1 + 1 + 1 + 1 + 1 + 1), .int .i64 (z + 1 + 1 + 1 + 1 + 1 + 1 + 1 + 1 + 1), .int .i64 (z + 1 + 1 + 1 + 1 + 1 + 1 + 1 + 1 + 1 + 1), .int .i64 (z + 1 + 1 + 1 + 1 + 1 + 1 + 1 + 1 + 1 + 1 + 1), .int .i64 (z + 1 + 1 + 1 + 1 + 1 + 1 + 1 + 1 + 1 + 1 + 1 + 1)]).cell? ⟨g, j * 14 + 6, none⟩ = some (.int .i64 (z + 1 + 1 + 1 + 1 + 1 + 1)) := by simpa [Nat.add_assoc] using hc 3 _ rfl
        have d7 : (putCells wt1 g (j * 14 + 3) [.string (mtI (z + 1 + 1 + 1)), .int .i64 (z + 1 + 1 + 1 + 1), .int .i64 (z + 1 + 1 + 1 + 1 + 1), .int .i64 (z + 1 + 1 + 1 + 1 + 1 + 1), .int .i64 (z + 1 + 1 + 1 + 1 + 1 + 1 + 1), .int .i64 (z + 1 + 1 + 1 + 1 + 1 + 1 + 1 + 1), .int .i64 (z + 1 + 1 + 1 + 1 + 1 + 1 + 1 + 1 + 1), .int .i64 (z + 1 + 1 + 1 + 1 + 1 + 1 + 1 + 1 + 1 + 1), .int .i64 (z + 1 + 1 + 1 + 1 + 1 + 1 + 1 + 1 + 1 + 1 + 1), .int .i64 (z + 1 + 1 + 1 + 1 + 1 + 1 + 1 + 1 + 1 + 1 + 1 + 1)]).cell? ⟨g, j * 14 + 7, none⟩ = some (.int .i64 (z + 1 + 1 + 1 + 1 + 1 + 1 + 1)) := by simpa [Nat.add_assoc] using hc 4 _ rfl
        have d8 : (putCells wt1 g (j * 14 + 3) [.string (mtI (z + 1 + 1 + 1)), .int .i64 (z + 1 + 1 + 1 + 1), .int .i64 (z + 1 + 1 + 1 + 1 + 1), .int .i64 (z + 1 + 1 + 1 + 1 + 1 + 1), .int .i64 (z + 1 + 1 + 1 + 1 + 1 + 1 + 1), .int .i64 (z + 1 + 1 + 1 + 1 + 1 + 1 + 1 + 1), .int .i64 (z + 1 + 1 + 1 + 1 + 1 + 1 + 1 + 1 + 1), .int .i64 (z + 1 + 1 + 1 + 1 + 1 + 1 + 1 + 1 + 1 + 1), .int .i64 (z + 1 + 1 + 1 + 1 + 1 + 1 + 1 + 1 + 1 + 1 + 1), .int .i64 (z + 1 + 1 + 1 + 1 + 1 + 1 + 1 + 1 + 1 + 1 + 1 + 1)]).cell? ⟨g, j * 14 + 8, none⟩ = some (.int .i64 (z + 1 + 1 + 1 + 1 + 1 + 1 + 1 + 1)) := by simpa [Nat.add_assoc] using hc 5 _ rfl
        have d9 : (putCells wt1 g (j * 14 + 3) [.string (mtI (z + 1 + 1 + 1)), .int .i64 (z + 1 + 1 + 1 + 1), .int .i64 (z + 1 + 1 + 1 + 1 + 1), .int .i64 (z + 1 + 1 + 1 + 1 + 1 + 1), .int .i64 (z + 1 + 1 + 1 + 1 + 1 + 1 + 1), .int .i64 (z + 1 + 1 + 1 + 1 + 1 + 1 + 1 + 1), .int .i64 (z + 1 + 1 + 1 + 1 + 1 + 1 + 1 + 1 + 1), .int .i64 (z + 1 + 1 + 1 + 1 + 1 + 1 + 1 + 1 + 1 + 1), .int .i64 (z + 1 + 1 + 1 + 1 + 1 + 1 + 1 + 1 + 1 + 1 + 1), .int .i64 (z + 1 + 1 + 1 + 1 + 1 + 1 + 1 + 1 + 1 + 1 + 1 + 1)]).cell? ⟨g, j * 14 + 9, none⟩ = some (.int .i64 (z + 1 + 1 + 1 + 1 + 1 + 1 + 1 + 1 + 1)) := by simpa [Nat.add_assoc] using hc 6 _ rfl
        have d10 : (putCells wt1 g (j * 14 + 3) [.string (mtI (z + 1 + 1 + 1)), .int .i64 (z + 1 + 1 + 1 + 1), .int .i64 (z + 1 + 1 + 1 + 1 + 1), .int .i64 (z + 1 + 1 + 1 + 1 + 1 + 1), .int .i64 (z + 1 + 1 + 1 + 1 + 1 + 1 + 1), .int .i64 (z + 1 + 1 + 1 + 1 + 1 + 1 + 1 + 1), .int .i64 (z + 1 + 1 + 1 + 1 + 1 + 1 + 1 + 1 + 1), .int .i64 (z + 1 + 1 + 1 + 1 + 1 + 1 + 1 + 1 + 1 + 1), .int .i64 (z + 1 + 1 + 1 + 1 + 1 + 1 + 1 + 1 + 1 + 1 + 1), .int .i64 (z + 1 + 1 + 1 + 1 + 1 + 1 + 1 + 1 + 1 + 1 + 1 + 1)]).cell? ⟨g, j * 14 + 10, none⟩ = some (.int .i64 (z + 1 + 1 + 1 + 1 + 1 + 1 + 1 + 1 + 1 + 1)) := by simpa [Nat.add_assoc] using hc 7 _ rfl
        have d11 : (putCells wt1 g (j * 14 + 3) [.string (mtI (z + 1 + 1 + 1)), .int .i64 (z + 1 + 1 + 1 + 1), .int .i64 (z + 1 + 1 + 1 + 1 + 1), .int .i64 (z + 1 + 1 + 1 + 1 + 1 + 1), .int .i64 (z + 1 + 1 + 1 + 1 + 1 + 1 + 1), .int .i64 (z + 1 + 1 + 1 + 1 + 1 + 1 + 1 + 1), .int .i64 (z + 1 + 1 + 1 + 1 + 1 + 1 + 1 + 1 + 1), .int .i64 (z + 1 + 1 + 1 + 1 + 1 + 1 + 1 + 1 + 1 + 1), .int .i64 (z + 1 + 1 + 1 + 1 + 1 + 1 + 1 + 1 + 1 + 1 + 1), .int .i64 (z + 1 + 1 + 1 + 1 + 1 + 1 + 1 + 1 + 1 + 1 + 1 + 1)]).cell? ⟨g, j * 14 + 11, none⟩ = some (.int .i64 (z + 1 + 1 + 1 + 1 + 1 + 1 + 1 + 1 + 1 + 1 + 1)) := by simpa [Nat.add_assoc] using hc 8 _ rfl
        have d12 : (putCells wt1 g (j * 14 + 3) [.string (mtI (z + 1 + 1 + 1)), .int .i64 (z + 1 + 1 + 1 + 1), .int .i64 (z + 1 + 1 + 1 + 1 + 1), .int .i64 (z + 1 + 1 + 1 + 1 + 1 + 1), .int .i64 (z + 1 + 1 + 1 + 1 + 1 + 1 + 1), .int .i64 (z + 1 + 1 + 1 + 1 + 1 + 1 + 1 + 1), .int .i64 (z + 1 + 1 + 1 + 1 + 1 + 1 + 1 + 1 + 1), .int .i64 (z + 1 + 1 + 1 + 1 + 1 + 1 + 1 + 1 + 1 + 1), .int .i64 (z + 1 + 1 + 1 + 1 + 1 + 1 + 1 + 1 + 1 + 1 + 1), .int .i64 (z + 1 + 1 + 1 + 1 + 1 + 1 + 1 + 1 + 1 + 1 + 1 + 1)]).cell? ⟨g, j * 14 + 12, none⟩ = some (.int .i64 (z + 1 + 1 + 1 + 1 + 1 + 1 + 1 + 1 + 1 + 1 + 1 + 1)) := by simpa [Nat.add_assoc] using hc 9 _ rfl
        have d0 : (putCells wt1 g (j * 14 + 3) [.string (mtI (z + 1 + 1 + 1)), .int .i64 (z + 1 + 1 + 1 + 1), .int .i64 (z + 1 + 1 + 1 + 1 + 1), .int .i64 (z + 1 + 1 + 1 + 1 + 1 + 1), .int .i64 (z + 1 + 1 + 1 + 1 + 1 + 1 + 1), .int .i64 (z + 1 + 1 + 1 + 1 + 1 + 1 + 1 + 1), .int .i64 (z + 1 + 1 + 1 + 1 + 1 + 1 + 1 + 1 + 1), .int .i64 (z + 1 + 1 + 1 + 1 + 1 + 1 + 1 + 1 + 1 + 1), .int .i64 (z + 1 + 1 + 1 + 1 + 1 + 1 + 1 + 1 + 1 + 1 + 1), .int .i64 (z + 1 + 1 + 1 + 1 + 1 + 1 + 1 + 1 + 1 + 1 + 1 + 1)]).cell? ⟨g, j * 14, none⟩ = some (.int .i64 (z)) := (putCells_other g _ wt1 _ (by first | (simp; done) | (simp; omega))).trans e0
        have d1 : (putCells wt1 g (j * 14 + 3) [.string (mtI (z + 1 + 1 + 1)), .int .i64 (z + 1 + 1 + 1 + 1), .int .i64 (z + 1 + 1 + 1 + 1 + 1), .int .i64 (z + 1 + 1 + 1 + 1 + 1 + 1), .int .i64 (z + 1 + 1 + 1 + 1 + 1 + 1 + 1), .int .i64 (z + 1 + 1 + 1 + 1 + 1 + 1 + 1 + 1), .int .i64 (z + 1 + 1 + 1 + 1 + 1 + 1 + 1 + 1 + 1), .int .i64 (z + 1 + 1 + 1 + 1 + 1 + 1 + 1 + 1 + 1 + 1), .int .i64 (z + 1 + 1 + 1 + 1 + 1 + 1 + 1 + 1 + 1 + 1 + 1), .int .i64 (z + 1 + 1 + 1 + 1 + 1 + 1 + 1 + 1 + 1 + 1 + 1 + 1)]).cell? ⟨g, j * 14 + 1, none⟩ = some (.int .i64 (z + 1)) := (putCells_other g _ wt1 _ (by first | (simp; done) | (simp; omega))).trans e1
        have d2 : (putCells wt1 g (j * 14 + 3) [.string (mtI (z + 1 + 1 + 1)), .int .i64 (z + 1 + 1 + 1 + 1), .int .i64 (z + 1 + 1 + 1 + 1 + 1), .int .i64 (z + 1 + 1 + 1 + 1 + 1 + 1), .int .i64 (z + 1 + 1 + 1 + 1 + 1 + 1 + 1), .int .i64 (z + 1 + 1 + 1 + 1 + 1 + 1 + 1 + 1), .int .i64 (z + 1 + 1 + 1 + 1 + 1 + 1 + 1 + 1 + 1), .int .i64 (z + 1 + 1 + 1 + 1 + 1 + 1 + 1 + 1 + 1 + 1), .int .i64 (z + 1 + 1 + 1 + 1 + 1 + 1 + 1 + 1 + 1 + 1 + 1), .int .i64 (z + 1 + 1 + 1 + 1 + 1 + 1 + 1 + 1 + 1 + 1 + 1 + 1)]).cell? ⟨g, j * 14 + 2, none⟩ = some (.int .i64 (z + 1 + 1)) := (putCells_other g _ wt1 _ (by first | (simp; done) | (simp; omega))).trans e2
        have d13 : (putCells wt1 g (j * 14 + 3) [.string (mtI (z + 1 + 1 + 1)), .int .i64 (z + 1 + 1 + 1 + 1), .int .i64 (z + 1 + 1 + 1 + 1 + 1), .int .i64 (z + 1 + 1 + 1 + 1 + 1 + 1), .int .i64 (z + 1 + 1 + 1 + 1 + 1 + 1 + 1), .int .i64 (z + 1 + 1 + 1 + 1 + 1 + 1 + 1 + 1), .int .i64 (z + 1 + 1 + 1 + 1 + 1 + 1 + 1 + 1 + 1), .int .i64 (z + 1 + 1 + 1 + 1 + 1 + 1 + 1 + 1 + 1 + 1), .int .i64 (z + 1 + 1 + 1 + 1 + 1 + 1 + 1 + 1 + 1 + 1 + 1), .int .i64 (z + 1 + 1 + 1 + 1 + 1 + 1 + 1 + 1 + 1 + 1 + 1 + 1)]).cell? ⟨g, j * 14 + 13, none⟩ = some (.slice a0 L0.length c0) := (putCells_other g _ wt1 _ (by first | (simp; done) | (simp; omega))).trans e13
        have t0 : (putCells wt1 g (j * 14 + 3) [.string (mtI (z + 1 + 1 + 1)), .int .i64 (z + 1 + 1 + 1 + 1), .int .i64 (z + 1 + 1 + 1 + 1 + 1), .int .i64 (z + 1 + 1 + 1 + 1 + 1 + 1), .int .i64 (z + 1 + 1 + 1 + 1 + 1 + 1 + 1), .int .i64 (z + 1 + 1 + 1 + 1 + 1 + 1 + 1 + 1), .int .i64 (z + 1 + 1 + 1 + 1 + 1 + 1 + 1 + 1 + 1), .int .i64 (z + 1 + 1 + 1 + 1 + 1 + 1 + 1 + 1 + 1 + 1), .int .i64 (z + 1 + 1 + 1 + 1 + 1 + 1 + 1 + 1 + 1 + 1 + 1), .int .i64 (z + 1 + 1 + 1 + 1 + 1 + 1 + 1 + 1 + 1 + 1 + 1 + 1)]).frozen? ⟨g, j * 14, none⟩ = false := (putCells_frozen g _ _ wt1 _).trans s0
        have t1 : (putCells wt1 g (j * 14 + 3) [.string (mtI (z + 1 + 1 + 1)), .int .i64 (z + 1 + 1 + 1 + 1), .int .i64 (z + 1 + 1 + 1 + 1 + 1), .int .i64 (z + 1 + 1 + 1 + 1 + 1 + 1), .int .i64 (z + 1 + 1 + 1 + 1 + 1 + 1 + 1), .int .i64 (z + 1 + 1 + 1 + 1 + 1 + 1 + 1 + 1), .int .i64 (z + 1 + 1 + 1 + 1 + 1 + 1 + 1 + 1 + 1), .int .i64 (z + 1 + 1 + 1 + 1 + 1 + 1 + 1 + 1 + 1 + 1), .int .i64 (z + 1 + 1 + 1 + 1 + 1 + 1 + 1 + 1 + 1 + 1 + 1), .int .i64 (z + 1 + 1 + 1 + 1 + 1 + 1 + 1 + 1 + 1 + 1 + 1 + 1)]).frozen? ⟨g, j * 14 + 1, none⟩ = false := (putCells_frozen g _ _ wt1 _).trans s1
        have t2 : (putCells wt1 g (j * 14 + 3) [.string (mtI (z + 1 + 1 + 1)), .int .i64 (z + 1 + 1 + 1 + 1), .int .i64 (z + 1 + 1 + 1 + 1 + 1), .int .i64 (z + 1 + 1 + 1 + 1 + 1 + 1), .int .i64 (z + 1 + 1 + 1 + 1 + 1 + 1 + 1), .int .i64 (z + 1 + 1 + 1 + 1 + 1 + 1 + 1 + 1), .int .i64 (z + 1 + 1 + 1 + 1 + 1 + 1 + 1 + 1 + 1), .int .i64 (z + 1 + 1 + 1 + 1 + 1 + 1 + 1 + 1 + 1 + 1), .int .i64 (z + 1 + 1 + 1 + 1 + 1 + 1 + 1 + 1 + 1 + 1 + 1), .int .i64 (z + 1 + 1 + 1 + 1 + 1 + 1 + 1 + 1 + 1 + 1 + 1 + 1)]).frozen? ⟨g, j * 14 + 2, none⟩ = false := (putCells_frozen g _ _ wt1 _).trans s2
        have t3 : (putCells wt1 g (j * 14 + 3) [.string (mtI (z + 1 + 1 + 1)), .int .i64 (z + 1 + 1 + 1 + 1), .int .i64 (z + 1 + 1 + 1 + 1 + 1), .int .i64 (z + 1 + 1 + 1 + 1 + 1 + 1), .int .i64 (z + 1 + 1 + 1 + 1 + 1 + 1 + 1), .int .i64 (z + 1 + 1 + 1 + 1 + 1 + 1 + 1 + 1), .int .i64 (z + 1 + 1 + 1 + 1 + 1 + 1 + 1 + 1 + 1), .int .i64 (z + 1 + 1 + 1 + 1 + 1 + 1 + 1 + 1 + 1 + 1), .int .i64 (z + 1 + 1 + 1 + 1 + 1 + 1 + 1 + 1 + 1 + 1 + 1), .int .i64 (z + 1 + 1 + 1 + 1 + 1 + 1 + 1 + 1 + 1 + 1 + 1 + 1)]).frozen? ⟨g, j * 14 + 3, none⟩ = false := (putCells_frozen g _ _ wt1 _).trans s3
        have t4 : (putCells wt1 g (j * 14 + 3) [.string (mtI (z + 1 + 1 + 1)), .int .i64 (z + 1 + 1 + 1 + 1), .int .i64 (z + 1 + 1 + 1 + 1 + 1), .int .i64 (z + 1 + 1 + 1 + 1 + 1 + 1), .int .i64 (z + 1 + 1 + 1 + 1 + 1 + 1 + 1), .int .i64 (z + 1 + 1 + 1 + 1 + 1 + 1 + 1 + 1), .int .i64 (z + 1 + 1 + 1 + 1 + 1 + 1 + 1 + 1 + 1), .int .i64 (z + 1 + 1 + 1 + 1 + 1 + 1 + 1 + 1 + 1 + 1), .int .i64 (z + 1 + 1 + 1 + 1 + 1 + 1 + 1 + 1 + 1 + 1 + 1), .int .i64 (z + 1 + 1 + 1 + 1 + 1 + 1 + 1 + 1 + 1 + 1 + 1 + 1)]).frozen? ⟨g, j * 14 + 4, none⟩ = false := (putCells_frozen g _ _ wt1 _).trans s4
        have t5 : (putCells wt1 g (j * 14 + 3) [.string (mtI (z + 1 + 1 + 1)), .int .i64 (z + 1 + 1 + 1 + 1), .int .i64 (z + 1 + 1 + 1 + 1 + 1), .int .i64 (z + 1 + 1 + 1 + 1 + 1 + 1), .int .i64 (z + 1 + 1 + 1 + 1 + 1 + 1 + 1), .int .i64 (z + 1 + 1 + 1 + 1 + 1 + 1 + 1 + 1), .int .i64 (z + 1 + 1 + 1 + 1 + 1 + 1 + 1 + 1 + 1), .int .i64 (z + 1 + 1 + 1 + 1 + 1 + 1 + 1 + 1 + 1 + 1), .int .i64 (z + 1 + 1 + 1 + 1 + 1 + 1 + 1 + 1 + 1 + 1 + 1), .int .i64 (z + 1 + 1 + 1 + 1 + 1 + 1 + 1 + 1 + 1 + 1 + 1 + 1)]).frozen? ⟨g, j * 14 + 5, none⟩ = false := (putCells_frozen g _ _ wt1 _).trans s5
        have t6 : (putCells wt1 g (j * 14 + 3) [.string (mtI (z + 1 + 1 + 1)), .int .i64 (z + 1 + 1 + 1 + 1), .int .i64 (z + 1 + 1 + 1 + 1 + 1), .int .i64 (z + 1 + 1 + 1 + 1 + 1 + 1), .int .i64 (z + 1 + 1 + 1 + 1 + 1 + 1 + 1), .int .i64 (z + 1 + 1 + 1 + 1 + 1 + 1 + 1 + 1), .int .i64 (z + 1 + 1 + 1 + 1 + 1 + 1 + 1 + 1 + 1), .int .i64 (z + 1 + 1 + 1 + 1 + 1 + 1 + 1 + 1 + 1 + 1), .int .i64 (z + 1 + 1 + 1 + 1 + 1 + 1 + 1 + 1 + 1 + 1 + 1), .int .i64 (z + 1 + 1 + 1 + 1 + 1 + 1 + 1 + 1 + 1 + 1 + 1 + 1)]).frozen? ⟨g, j * 14 + 6, none⟩ = false := (putCells_frozen g _ _ wt1 _).trans s6
        have t7 : (putCells wt1 g (j * 14 + 3) [.string (mtI (z + 1 + 1 + 1)), .int .i64 (z + 1 + 1 + 1 + 1), .int .i64 (z + 1 + 1 + 1 + 1 + 1), .int .i64 (z + 1 + 1 + 1 + 1 + 1 + 1), .int .i64 (z + 1 + 1 + 1 + 1 + 1 + 1 + 1), .int .i64 (z + 1 + 1 + 1 + 1 + 1 + 1 + 1 + 1), .int .i64 (z + 1 + 1 + 1 + 1 + 1 + 1 + 1 + 1 + 1), .int .i64 (z + 1 + 1 + 1 + 1 + 1 + 1 + 1 + 1 + 1 + 1), .int .i64 (z + 1 + 1 + 1 + 1 + 1 + 1 + 1 + 1 + 1 + 1 + 1), .int .i64 (z + 1 + 1 + 1 + 1 + 1 + 1 + 1 + 1 + 1 + 1 + 1 + 1)]).frozen? ⟨g, j * 14 + 7, none⟩ = false := (putCells_frozen g _ _ wt1 _).trans s7
        have t8 : (putCells wt1 g (j * 14 + 3) [.string (mtI (z + 1 + 1 + 1)), .int .i64 (z + 1 + 1 + 1 + 1), .int .i64 (z + 1 + 1 + 1 + 1 + 1), .int .i64 (z + 1 + 1 + 1 + 1 + 1 + 1), .int .i64 (z + 1 + 1 + 1 + 1 + 1 + 1 + 1), .int .i64 (z + 1 + 1 + 1 + 1 + 1 + 1 + 1 + 1), .int .i64 (z + 1 + 1 + 1 + 1 + 1 + 1 + 1 + 1 + 1), .int .i64 (z + 1 + 1 + 1 + 1 + 1 + 1 + 1 + 1 + 1 + 1), .int .i64 (z + 1 + 1 + 1 + 1 + 1 + 1 + 1 + 1 + 1 + 1 + 1), .int .i64 (z + 1 + 1 + 1 + 1 + 1 + 1 + 1 + 1 + 1 + 1 + 1 + 1)]).frozen? ⟨g, j * 14 + 8, none⟩ = false := (putCells_frozen g _ _ wt1 _).trans s8
        have t9 : (putCells wt1 g (j * 14 + 3) [.string (mtI (z + 1 + 1 + 1)), .int .i64 (z + 1 + 1 + 1 + 1), .int .i64 (z + 1 + 1 + 1 + 1 + 1), .int .i64 (z + 1 + 1 + 1 + 1 + 1 + 1), .int .i64 (z + 1 + 1 + 1 + 1 + 1 + 1 + 1), .int .i64 (z + 1 + 1 + 1 + 1 + 1 + 1 + 1 + 1), .int .i64 (z + 1 + 1 + 1 + 1 + 1 + 1 + 1 + 1 + 1), .int .i64 (z + 1 + 1 + 1 + 1 + 1 + 1 + 1 + 1 + 1 + 1), .int .i64 (z + 1 + 1 + 1 + 1 + 1 + 1 + 1 + 1 + 1 + 1 + 1), .int .i64 (z + 1 + 1 + 1 + 1 + 1 + 1 + 1 + 1 + 1 + 1 + 1 + 1)]).frozen? ⟨g, j * 14 + 9, none⟩ = false := (putCells_frozen g _ _ wt1 _).trans s9
        have t10 : (putCells wt1 g (j * 14 + 3) [.string (mtI (z + 1 + 1 + 1)), .int .i64 (z + 1 + 1 + 1 + 1), .int .i64 (z + 1 + 1 + 1 + 1 + 1), .int .i64 (z + 1 + 1 + 1 + 1 + 1 + 1), .int .i64 (z + 1 + 1 + 1 + 1 + 1 + 1 + 1), .int .i64 (z + 1 + 1 + 1 + 1 + 1 + 1 + 1 + 1), .int .i64 (z + 1 + 1 + 1 + 1 + 1 + 1 + 1 + 1 + 1), .int .i64 (z + 1 + 1 + 1 + 1 + 1 + 1 + 1 + 1 + 1 + 1), .int .i64 (z + 1 + 1 + 1 + 1 + 1 + 1 + 1 + 1 + 1 + 1 + 1), .int .i64 (z + 1 + 1 + 1 + 1 + 1 + 1 + 1 + 1 + 1 + 1 + 1 + 1)]).frozen? ⟨g, j * 14 + 10, none⟩ = false := (putCells_frozen g _ _ wt1 _).trans s10
        have t11 : (putCells wt1 g (j * 14 + 3) [.string (mtI (z + 1 + 1 + 1)), .int .i64 (z + 1 + 1 + 1 + 1), .int .i64 (z + 1 + 1 + 1 + 1 + 1), .int .i64 (z + 1 + 1 + 1 + 1 + 1 + 1), .int .i64 (z + 1 + 1 + 1 + 1 + 1 + 1 + 1), .int .i64 (z + 1 + 1 + 1 + 1 + 1 + 1 + 1 + 1), .int .i64 (z + 1 + 1 + 1 + 1 + 1 + 1 + 1 + 1 + 1), .int .i64 (z + 1 + 1 + 1 + 1 + 1 + 1 + 1 + 1 + 1 + 1), .int .i64 (z + 1 + 1 + 1 + 1 + 1 + 1 + 1 + 1 + 1 + 1 + 1), .int .i64 (z + 1 + 1 + 1 + 1 + 1 + 1 + 1 + 1 + 1 + 1 + 1 + 1)]).frozen? ⟨g, j * 14 + 11, none⟩ = false := (putCells_frozen g _ _ wt1 _).trans s11
        have t12 : (putCells wt1 g (j * 14 + 3) [.string (mtI (z + 1 + 1 + 1)), .int .i64 (z + 1 + 1 + 1 + 1), .int .i64 (z + 1 + 1 + 1 + 1 + 1), .int .i64 (z + 1 + 1 + 1 + 1 + 1 + 1), .int .i64 (z + 1 + 1 + 1 + 1 + 1 + 1 + 1), .int .i64 (z + 1 + 1 + 1 + 1 + 1 + 1 + 1 + 1), .int .i64 (z + 1 + 1 + 1 + 1 + 1 + 1 + 1 + 1 + 1), .int .i64 (z + 1 + 1 + 1 + 1 + 1 + 1 + 1 + 1 + 1 + 1), .int .i64 (z + 1 + 1 + 1 + 1 + 1 + 1 + 1 + 1 + 1 + 1 + 1), .int .i64 (z + 1 + 1 + 1 + 1 + 1 + 1 + 1 + 1 + 1 + 1 + 1 + 1)]).frozen? ⟨g, j * 14 + 12, none⟩ = false := (putCells_frozen g _ _ wt1 _).trans s12
        have t13 : (putCells wt1 g (j * 14 + 3) [.string (mtI (z + 1 + 1 + 1)), .int .i64 (z + 1 + 1 + 1 + 1), .int .i64 (z + 1 + 1 + 1 + 1 + 1), .int .i64 (z + 1 + 1 + 1 + 1 + 1 + 1), .int .i64 (z + 1 + 1 + 1 + 1 + 1 + 1 + 1), .int .i64 (z + 1 + 1 + 1 + 1 + 1 + 1 + 1 + 1), .int .i64 (z + 1 + 1 + 1 + 1 + 1 + 1 + 1 + 1 + 1), .int .i64 (z + 1 + 1 + 1 + 1 + 1 + 1 + 1 + 1 + 1 + 1), .int .i64 (z + 1 + 1 + 1 + 1 + 1 + 1 + 1 + 1 + 1 + 1 + 1), .int .i64 (z + 1 + 1 + 1 + 1 + 1 + 1 + 1 + 1 + 1 + 1 + 1 + 1)]).frozen? ⟨g, j * 14 + 13, none⟩ = false := (putCells_frozen g _ _ wt1 _).trans s13
        have HU3 := Lib.hid (HU2.out.trans (Upd.put wt1 (Sf j) (g := g) (o := j * 14 + 3) (cs := [.string (mtI (z + 1 + 1 + 1)), .int .i64 (z + 1 + 1 + 1 + 1), .int .i64 (z + 1 + 1 + 1 + 1 + 1), .int .i64 (z + 1 + 1 + 1 + 1 + 1 + 1), .int .i64 (z + 1 + 1 + 1 + 1 + 1 + 1 + 1), .int .i64 (z + 1 + 1 + 1 + 1 + 1 + 1 + 1 + 1), .int .i64 (z + 1 + 1 + 1 + 1 + 1 + 1 + 1 + 1 + 1), .int .i64 (z + 1 + 1 + 1 + 1 + 1 + 1 + 1 + 1 + 1 + 1), .int .i64 (z + 1 + 1 + 1 + 1 + 1 + 1 + 1 + 1 + 1 + 1 + 1), .int .i64 (z + 1 + 1 + 1 + 1 + 1 + 1 + 1 + 1 + 1 + 1 + 1 + 1)]) ⟨by omega, by first | (simp; done) | (simp; omega)⟩))
        have HF3 := Lib.hid (HF2.out.trans ((putCells_off g [.string (mtI (z + 1 + 1 + 1)), .int .i64 (z + 1 + 1 + 1 + 1), .int .i64 (z + 1 + 1 + 1 + 1 + 1), .int .i64 (z + 1 + 1 + 1 + 1 + 1 + 1), .int .i64 (z + 1 + 1 + 1 + 1 + 1 + 1 + 1), .int .i64 (z + 1 + 1 + 1 + 1 + 1 + 1 + 1 + 1), .int .i64 (z + 1 + 1 + 1 + 1 + 1 + 1 + 1 + 1 + 1), .int .i64 (z + 1 + 1 + 1 + 1 + 1 + 1 + 1 + 1 + 1 + 1), .int .i64 (z + 1 + 1 + 1 + 1 + 1 + 1 + 1 + 1 + 1 + 1 + 1), .int .i64 (z + 1 + 1 + 1 + 1 + 1 + 1 + 1 + 1 + 1 + 1 + 1 + 1)] wt1 (j * 14 + 3)).more (fun x e => by rw [e]; exact HM2.out.row.own)))
        have K_L0 := Lib.hid (OwSl.keep I_ok (W' := (putCells wt1 g (j * 14 + 3) [.string (mtI (z + 1 + 1 + 1)), .int .i64 (z + 1 + 1 + 1 + 1), .int .i64 (z + 1 + 1 + 1 + 1 + 1), .int .i64 (z + 1 + 1 + 1 + 1 + 1 + 1), .int .i64 (z + 1 + 1 + 1 + 1 + 1 + 1 + 1), .int .i64 (z + 1 + 1 + 1 + 1 + 1 + 1 + 1 + 1), .int .i64 (z + 1 + 1 + 1 + 1 + 1 + 1 + 1 + 1 + 1), .int .i64 (z + 1 + 1 + 1 + 1 + 1 + 1 + 1 + 1 + 1 + 1), .int .i64 (z + 1 + 1 + 1 + 1 + 1 + 1 + 1 + 1 + 1 + 1 + 1), .int .i64 (z + 1 + 1 + 1 + 1 + 1 + 1 + 1 + 1 + 1 + 1 + 1 + 1)])) K_L0.out (fun q hq => putCells_block g (HM2.out.row.sub j q (TS0.out q hq)).2 _ _ _))
        clear hc
        have hbz : 0 ≤ z + 1 + 1 + 1 + 1 + 1 + 1 + 1 + 1 + 1 + 1 + 1 + 1 + 1 ∧ z + 1 + 1 + 1 + 1 + 1 + 1 + 1 + 1 + 1 + 1 + 1 + 1 + 1 + (sumL (I).cm L0 : Nat) ≤ 4611686018427387904 := by omega
        have D0 := Lib.hid d0
        have F0 := Lib.hid t0
        have D1 := Lib.hid d1
        have F1 := Lib.hid t1
        have D2 := Lib.hid d2
        have F2 := Lib.hid t2
        have D3 := Lib.hid d3
        have F3 := Lib.hid t3
        have D4 := Lib.hid d4
        have F4 := Lib.hid t4
        have D5 := Lib.hid d5
        have F5 := Lib.hid t5
        have D6 := Lib.hid d6
        have F6 := Lib.hid t6
        have D7 := Lib.hid d7
        have F7 := Lib.hid t7
        have D8 := Lib.hid d8
        have F8 := Lib.hid t8
        have D9 := Lib.hid d9
        have F9 := Lib.hid t9
        have D10 := Lib.hid d10
        have F10 := Lib.hid t10
        have D11 := Lib.hid d11
        have F11 := Lib.hid t11
        have D12 := Lib.hid d12
        have F12 := Lib.hid t12
        have D13 := Lib.hid d13
        have F13 := Lib.hid t13
        clear d0 t0 d1 t1 d2 t2 d3 t3 d4 t4 d5 t5 d6 t6 d7 t7 d8 t8 d9 t9 d10 t10 d11 t11 d12 t12 d13 t13
        go_wp2_with fail
        have HSi := Lib.hid (fun q (hq : T0 q) => Nat.lt_of_lt_of_le (HSW.out q (HM2.out.row.sub j q (TS0.out q hq)).1) HF3.out.size)
        refine (mark_Int64S (W := (putCells wt1 g (j * 14 + 3) [.string (mtI (z + 1 + 1 + 1)), .int .i64 (z + 1 + 1 + 1 + 1), .int .i64 (z + 1 + 1 + 1 + 1 + 1), .int .i64 (z + 1 + 1 + 1 + 1 + 1 + 1), .int .i64 (z + 1 + 1 + 1 + 1 + 1 + 1 + 1), .int .i64 (z + 1 + 1 + 1 + 1 + 1 + 1 + 1 + 1), .int .i64 (z + 1 + 1 + 1 + 1 + 1 + 1 + 1 + 1 + 1), .int .i64 (z + 1 + 1 + 1 + 1 + 1 + 1 + 1 + 1 + 1 + 1), .int .i64 (z + 1 + 1 + 1 + 1 + 1 + 1 + 1 + 1 + 1 + 1 + 1), .int .i64 (z + 1 + 1 + 1 + 1 + 1 + 1 + 1 + 1 + 1 + 1 + 1 + 1)])) hbz.1 hbz.2 HSi.out K_L0.out).mono ?_
        intro e w1 h
        obtain ⟨y0, z0, rfl, hyl, hmm, hzz, how, hoff⟩ := markR_elim h
        have hgg : g < (putCells wt1 g (j * 14 + 3) [.string (mtI (z + 1 + 1 + 1)), .int .i64 (z + 1 + 1 + 1 + 1), .int .i64 (z + 1 + 1 + 1 + 1 + 1), .int .i64 (z + 1 + 1 + 1 + 1 + 1 + 1), .int .i64 (z + 1 + 1 + 1 + 1 + 1 + 1 + 1), .int .i64 (z + 1 + 1 + 1 + 1 + 1 + 1 + 1 + 1), .int .i64 (z + 1 + 1 + 1 + 1 + 1 + 1 + 1 + 1 + 1), .int .i64 (z + 1 + 1 + 1 + 1 + 1 + 1 + 1 + 1 + 1 + 1), .int .i64 (z + 1 + 1 + 1 + 1 + 1 + 1 + 1 + 1 + 1 + 1 + 1), .int .i64 (z + 1 + 1 + 1 + 1 + 1 + 1 + 1 + 1 + 1 + 1 + 1 + 1)]).heap.size := Nat.lt_of_lt_of_le hgl HF3.out.size
        have hnT : ¬ T0 g := fun hg => hne (TS0.out g hg)
        have n0 : w1.cell? ⟨g, j * 14, none⟩ = some (.int .i64 (z)) := (World.cell?_of_block (a := ⟨g, j * 14, none⟩) (hoff.block g hgg hnT)).trans D0.out
        have n1 : w1.cell? ⟨g, j * 14 + 1, none⟩ = some (.int .i64 (z + 1)) := (World.cell?_of_block (a := ⟨g, j * 14 + 1, none⟩) (hoff.block g hgg hnT)).trans D1.out
        have n2 : w1.cell? ⟨g, j * 14 + 2, none⟩ = some (.int .i64 (z + 1 + 1)) := (World.cell?_of_block (a := ⟨g, j * 14 + 2, none⟩) (hoff.block g hgg hnT)).trans D2.out
        have n3 : w1.cell? ⟨g, j * 14 + 3, none⟩ = some (.string (mtI (z + 1 + 1 + 1))) := (World.cell?_of_block (a := ⟨g, j * 14 + 3, none⟩) (hoff.block g hgg hnT)).trans D3.out
        have n4 : w1.cell? ⟨g, j * 14 + 4, none⟩ = some (.int .i64 (z + 1 + 1 + 1 + 1)) := (World.cell?_of_block (a := ⟨g, j * 14 + 4, none⟩) (hoff.block g hgg hnT)).trans D4.out
        have n5 : w1.cell? ⟨g, j * 14 + 5, none⟩ = some (.int .i64 (z + 1 + 1 + 1 + 1 + 1)) := (World.cell?_of_block (a := ⟨g, j * 14 + 5, none⟩) (hoff.block g hgg hnT)).trans D5.out
        have n6 : w1.cell? ⟨g, j * 14 + 6, none⟩ = some (.int .i64 (z + 1 + 1 + 1 + 1 + 1 + 1)) := (World.cell?_of_block (a := ⟨g, j * 14 + 6, none⟩) (hoff.block g hgg hnT)).trans D6.out
        have n7 : w1.cell? ⟨g, j * 14 + 7, none⟩ = some (.int .i64 (z + 1 + 1 + 1 + 1 + 1 + 1 + 1)) := (World.cell?_of_block (a := ⟨g, j * 14 + 7, none⟩) (hoff.block g hgg hnT)).trans D7.out
        have n8 : w1.cell? ⟨g, j * 14 + 8, none⟩ = some (.int .i64 (z + 1 + 1 + 1 + 1 + 1 + 1 + 1 + 1)) := (World.cell?_of_block (a := ⟨g, j * 14 + 8, none⟩) (hoff.block g hgg hnT)).trans D8.out
        have n9 : w1.cell? ⟨g, j * 14 + 9, none⟩ = some (.int .i64 (z + 1 + 1 + 1 + 1 + 1 + 1 + 1 + 1 + 1)) := (World.cell?_of_block (a := ⟨g, j * 14 + 9, none⟩) (hoff.block g hgg hnT)).trans D9.out
        have n10 : w1.cell? ⟨g, j * 14 + 10, none⟩ = some (.int .i64 (z + 1 + 1 + 1 + 1 + 1 + 1 + 1 + 1 + 1 + 1)) := (World.cell?_of_block (a := ⟨g, j * 14 + 10, none⟩) (hoff.block g hgg hnT)).trans D10.out
        have n11 : w1.cell? ⟨g, j * 14 + 11, none⟩ = some (.int .i64 (z + 1 + 1 + 1 + 1 + 1 + 1 + 1 + 1 + 1 + 1 + 1)) := (World.cell?_of_block (a := ⟨g, j * 14 + 11, none⟩) (hoff.block g hgg hnT)).trans D11.out
        have n12 : w1.cell? ⟨g, j * 14 + 12, none⟩ = some (.int .i64 (z + 1 + 1 + 1 + 1 + 1 + 1 + 1 + 1 + 1 + 1 + 1 + 1)) := (World.cell?_of_block (a := ⟨g, j * 14 + 12, none⟩) (hoff.block g hgg hnT)).trans D12.out
        have n13 : w1.cell? ⟨g, j * 14 + 13, none⟩ = some (.slice a0 L0.length c0) := (World.cell?_of_block (a := ⟨g, j * 14 + 13, none⟩) (hoff.block g hgg hnT)).trans D13.out
        have m0 : w1.frozen? ⟨g, j * 14, none⟩ = false := (World.frozen?_of_block (a := ⟨g, j * 14, none⟩) (hoff.block g hgg hnT)).trans F0.out
        have m1 : w1.frozen? ⟨g, j * 14 + 1, none⟩ = false := (World.frozen?_of_block (a := ⟨g, j * 14 + 1, none⟩) (hoff.block g hgg hnT)).trans F1.out
        have m2 : w1.frozen? ⟨g, j * 14 + 2, none⟩ = false := (World.frozen?_of_block (a := ⟨g, j * 14 + 2, none⟩) (hoff.block g hgg hnT)).trans F2.out
        have m3 : w1.frozen? ⟨g, j * 14 + 3, none⟩ = false := (World.frozen?_of_block (a := ⟨g, j * 14 + 3, none⟩) (hoff.block g hgg hnT)).trans F3.out
        have m4 : w1.frozen? ⟨g, j * 14 + 4, none⟩ = false := (World.frozen?_of_block (a := ⟨g, j * 14 + 4, none⟩) (hoff.block g hgg hnT)).trans F4.out
        have m5 : w1.frozen? ⟨g, j * 14 + 5, none⟩ = false := (World.frozen?_of_block (a := ⟨g, j * 14 + 5, none⟩) (hoff.block g hgg hnT)).trans F5.out
        have m6 : w1.frozen? ⟨g, j * 14 + 6, none⟩ = false := (World.frozen?_of_block (a := ⟨g, j * 14 + 6, none⟩) (hoff.block g hgg hnT)).trans F6.out
        have m7 : w1.frozen? ⟨g, j * 14 + 7, none⟩ = false := (World.frozen?_of_block (a := ⟨g, j * 14 + 7, none⟩) (hoff.block g hgg hnT)).trans F7.out
        have m8 : w1.frozen? ⟨g, j * 14 + 8, none⟩ = false := (World.frozen?_of_block (a := ⟨g, j * 14 + 8, none⟩) (hoff.block g hgg hnT)).trans F8.out
        have m9 : w1.frozen? ⟨g, j * 14 + 9, none⟩ = false := (World.frozen?_of_block (a := ⟨g, j * 14 + 9, none⟩) (hoff.block g hgg hnT)).trans F9.out
        have m10 : w1.frozen? ⟨g, j * 14 + 10, none⟩ = false := (World.frozen?_of_block (a := ⟨g, j * 14 + 10, none⟩) (hoff.block g hgg hnT)).trans F10.out
        have m11 : w1.frozen? ⟨g, j * 14 + 11, none⟩ = false := (World.frozen?_of_block (a := ⟨g, j * 14 + 11, none⟩) (hoff.block g hgg hnT)).trans F11.out
        have m12 : w1.frozen? ⟨g, j * 14 + 12, none⟩ = false := (World.frozen?_of_block (a := ⟨g, j * 14 + 12, none⟩) (hoff.block g hgg hnT)).trans F12.out
        have m13 : w1.frozen? ⟨g, j * 14 + 13, none⟩ = false := (World.frozen?_of_block (a := ⟨g, j * 14 + 13, none⟩) (hoff.block g hgg hnT)).trans F13.out
        have HU4 := Lib.hid (HU3.out.trans (Upd.off (hoff.more TS0.out) hgg hne))
        have HF4 := Lib.hid (HF3.out.trans (hoff.more (fun q hq => (HM2.out.row.sub j q (TS0.out q hq)).1)))
        have K_L0 := Lib.hid how
        have HMM0 := Lib.hid hmm
        have HYL0 := Lib.hid hyl
        have HZZ0 := Lib.hid hzz
        have hzn0 : 0 ≤ z0 ∧ z0 ≤ 4611686018427387904 := by omega
        clear h hyl hmm how hoff hgg hnT hbz hzz HSi D0 F0 D1 F1 D2 F2 D3 F3 D4 F4 D5 F5 D6 F6 D7 F7 D8 F8 D9 F9 D10 F10 D11 F11 D12 F12 D13 F13
        have e0 := n0
        have s0 := m0
        have e1 := n1
        have s1 := m1
        have e2 := n2
        have s2 := m2
        have e3 := n3
        have s3 := m3
        have e4 := n4
        have s4 := m4
        have e5 := n5
        have s5 := m5
        have e6 := n6
        have s6 := m6
        have e7 := n7
        have s7 := m7
        have e8 := n8
        have s8 := m8
        have e9 := n9
        have s9 := m9
        have e10 := n10
        have s10 := m10
        have e11 := n11
        have s11 := m11
        have e12 := n12
        have s12 := m12
        have e13 := n13
        have s13 := m13
        clear n0 m0 n1 m1 n2 m2 n3 m3 n4 m4 n5 m5 n6 m6 n7 m7 n8 m8 n9 m9 n10 m10 n11 m11 n12 m12 n13 m13
        have hcf : CellsAt w1 g (j * 14) [.int .i64 (z), .int .i64 (z + 1), .int .i64 (z + 1 + 1), .string (mtI (z + 1 + 1 + 1)), .int .i64 (z + 1 + 1 + 1 + 1), .int .i64 (z + 1 + 1 + 1 + 1 + 1), .int .i64 (z + 1 + 1 + 1 + 1 + 1 + 1), .int .i64 (z + 1 + 1 + 1 + 1 + 1 + 1 + 1), .int .i64 (z + 1 + 1 + 1 + 1 + 1 + 1 + 1 + 1), .int .i64 (z + 1 + 1 + 1 + 1 + 1 + 1 + 1 + 1 + 1), .int .i64 (z + 1 + 1 + 1 + 1 + 1 + 1 + 1 + 1 + 1 + 1), .int .i64 (z + 1 + 1 + 1 + 1 + 1 + 1 + 1 + 1 + 1 + 1 + 1), .int .i64 (z + 1 + 1 + 1 + 1 + 1 + 1 + 1 + 1 + 1 + 1 + 1 + 1), .slice a0 y0.length c0] := CellsAt.cons.2 ⟨e0, CellsAt.cons.2 ⟨e1, CellsAt.cons.2 ⟨e2, CellsAt.cons.2 ⟨e3, CellsAt.cons.2 ⟨e4, CellsAt.cons.2 ⟨e5, CellsAt.cons.2 ⟨e6, CellsAt.cons.2 ⟨e7, CellsAt.cons.2 ⟨e8, CellsAt.cons.2 ⟨e9, CellsAt.cons.2 ⟨e10, CellsAt.cons.2 ⟨e11, CellsAt.cons.2 ⟨e12, CellsAt.cons.2 ⟨by rw [HYL0.out]; exact e13, CellsAt.nil⟩⟩⟩⟩⟩⟩⟩⟩⟩⟩⟩⟩⟩⟩
        have HSTEP := Lib.hid (HM2.out.step R_Task_ok (w' := w1) (y := ((z, z + 1), z + 1 + 1, (mtI (z + 1 + 1 + 1)), z + 1 + 1 + 1 + 1, z + 1 + 1 + 1 + 1 + 1, z + 1 + 1 + 1 + 1 + 1 + 1, (z + 1 + 1 + 1 + 1 + 1 + 1 + 1, z + 1 + 1 + 1 + 1 + 1 + 1 + 1 + 1), z + 1 + 1 + 1 + 1 + 1 + 1 + 1 + 1 + 1, z + 1 + 1 + 1 + 1 + 1 + 1 + 1 + 1 + 1 + 1, z + 1 + 1 + 1 + 1 + 1 + 1 + 1 + 1 + 1 + 1 + 1, z + 1 + 1 + 1 + 1 + 1 + 1 + 1 + 1 + 1 + 1 + 1 + 1, y0)) (q' := z0) HSW.out HX.out HU4.out HF4.out hcf (mkow_Task TS0.out K_L0.out HMS1.out) (mmk_Task HMM0.out) (by rw [hcx]; have q0 := HZZ0.out; omega))
        have hzb : 0 ≤ z0 ∧ z0 ≤ 4611686018427387904 := by have q0 := HZZ0.out; omega
        clear hcf hcx
        go_wp2
        go_roundw
        case rel => exact ⟨j + 1, by omega, by go_num, _, _, rfl, by first | exact HSTEP.out | simpa [putCells, Nat.add_assoc, Int.add_assoc] using HSTEP.out⟩
        case measure => simp [intOf]; omega
      · obtain rfl : j = L.length := by omega
        have HR := Lib.hid (HM2.out.done HCAP.out HMAX.out)
        clear hM hSw
        go_wp2
        go_ret
        exact HR.out
theorem sizh_TaskS : (R_Task).size = 14 := rfl
set_option maxRecDepth 100000 in
set_option maxHeartbeats 1600000 in
theorem held_TaskS {L : List (D_Task)} {a : Option Addr} {cap : Nat} {W : World} {k k' : Int} (h0 : 0 ≤ k) (h1 : k' ≤ 4611686018427387904) (hm : mmL R_Task L k k') (h : RdSl R_Task W W.heap.size L a cap) : Calls Try.prog 45 #[.slice a L.length cap, .int .i64 k] W (HeldC k' W) := by
  have hn : L.length ≤ 9223372036854775807 := by have h1 := h.1; have h2 := h.2.1; unfold maxLen at h2; omega
  have H := Lib.hid h
  have HM := Lib.hid hm
  clear h hm
  go_enter Try.func45, Try.ntmps45
  go_wp2
  go_loopw [5, 1] (fun i q wr => ∃ j : Nat, j ≤ L.length ∧ i = .int .i64 j ∧ (∃ z : Int, q = .int .i64 z ∧ 0 ≤ z ∧ mmL R_Task (L.drop j) z k') ∧ Below W.heap.size W wr) (fun i _ _ => L.length - (intOf i).toNat)
  case atStart => exact ⟨0, Nat.zero_le _, rfl, ⟨k, rfl, h0, HM.out⟩, Below.refl _ _⟩
  case round =>
    obtain ⟨j, hj, rfl, ⟨z, rfl, hz, hmz⟩, hB⟩ := hrel
    have HB := Lib.hid hB
    have hsz := hB.size
    by_cases hlt : j < L.length
    · obtain ⟨⟨⟨x0, x1⟩, x2, x3, x4, x5, x6, ⟨x7, x8⟩, x9, x10, x11, x12, L0⟩, hx⟩ := el_some hlt
      obtain ⟨k1, hxm, hmn⟩ := mmL_drop hx hmz
      have hzb := mmL_le R_Task_mn hmn
      have hxb := R_Task_mn _ _ _ hxm
      obtain ⟨g, o, us, rfl, hg, hu, hr⟩ := (H.out.below R_Task_ok hB).at_ hx
      have HMN := Lib.hid hmn
      have hi0 : (0 : Int) ≤ (j : Int) := Int.natCast_nonneg _
      have hi1 : (j : Int) < (L.length : Int) := by omega
      obtain ⟨a0, c0, rfl, k_L0, b_x3⟩ := rd_Task hr
      obtain ⟨z0, rfl, rfl, rfl, rfl, rfl, rfl, rfl, rfl, rfl, rfl, rfl, rfl, rfl, m_0, hk1⟩ := mme_Task hxm
      have e0 := cells_at hu 0 rfl
      have e1 := cells_at hu 1 rfl
      have e2 := cells_at hu 2 rfl
      have e3 := cells_at hu 3 rfl
      have e4 := cells_at hu 4 rfl
      have e5 := cells_at hu 5 rfl
      have e6 := cells_at hu 6 rfl
      have e7 := cells_at hu 7 rfl
      have e8 := cells_at hu 8 rfl
      have e9 := cells_at hu 9 rfl
      have e10 := cells_at hu 10 rfl
      have e11 := cells_at hu 11 rfl
      have e12 := cells_at hu 12 rfl
      have e13 := cells_at hu 13 rfl
      simp only [sizh_TaskS] at e0 e1 e2 e3 e4 e5 e6 e7 e8 e9 e10 e11 e12 e13
      simp only [← Nat.add_assoc, Nat.add_zero] at e0 e1 e2 e3 e4 e5 e6 e7 e8 e9 e10 e11 e12 e13
      have HXM0 := Lib.hid m_0
      have hle0 := mmL_le I_mn m_0
      have K_L0 := Lib.hid (k_L0.more I_ok hsz)
      have hfin : k1 ≤ 4611686018427387904 := by omega
      have HK1 := Lib.hid hk1
      clear hB hx hu hmz hmn hxm k_L0 m_0
      have hgl : g < wr.heap.size := Nat.lt_of_lt_of_le hg hsz
      go_wp2_with fail
      refine wp_region_held_drew (S := (fun V => Below (wr).heap.size (wr) V)) (by kernel_rfl) ((Below.refl _ _).drew) (fun hHeld => ?_)
      refine tk 0 hHeld ?_
      refine tk 1 hHeld ?_
      refine tk 2 hHeld ?_
      refine tk 3 hHeld ?_
      refine tk 4 hHeld ?_ (hy := fun w hSw => by (try dsimp only at hSw); have k0 := (hSw.cell (p := ⟨g, o + j * 14 + 3, none⟩) hgl).trans e3; clear hSw; go_simp; try with_reducible rfl)
      refine tk 5 hHeld ?_
      refine rd1 6 (fun K hK => ?_)
      go_simp
      go_at_call 88
      refine (marktext_v (x0 + 1 + 1 + 1) _ (by omega) (by omega)).mono ?_
      intro e w1 h
      obtain ⟨rfl, hms, hb⟩ := mkT_elim h
      clear h hms
      refine hK.out _ _ (hHeld.trans (hb.mono hHeld.size)) (fun hHeld => ?_)
      clear hK K hb
      refine tk 7 hHeld ?_
      refine rd0 ?_
      have HF := Lib.hid hHeld
      clear hHeld
      replace e4 := (HF.out.cell (p := ⟨g, _, none⟩) hgl).trans e4
      replace e5 := (HF.out.cell (p := ⟨g, _, none⟩) hgl).trans e5
      replace e6 := (HF.out.cell (p := ⟨g, _, none⟩) hgl).trans e6
      replace e7 := (HF.out.cell (p := ⟨g, _, none⟩) hgl).trans e7
      replace e8 := (HF.out.cell (p := ⟨g, _, none⟩) hgl).trans e8
      replace e9 := (HF.out.cell (p := ⟨g, _, none⟩) hgl).trans e9
      replace e10 := (HF.out.cell (p := ⟨g, _, none⟩) hgl).trans e10
      replace e11 := (HF.out.cell (p := ⟨g, _, none⟩) hgl).trans e11
      replace e12 := (HF.out.cell (p := ⟨g, _, none⟩) hgl).trans e12
      replace e13 := (HF.out.cell (p := ⟨g, _, none⟩) hgl).trans e13
      have K_L0 := Lib.hid ((K_L0.out.below I_ok HF.out).more I_ok HF.out.size)
      go_wp2_with fail
      refine (held_Int64S (k := x0 + 1 + 1 + 1 + 1 + 1 + 1 + 1 + 1 + 1 + 1 + 1 + 1 + 1) (k' := z0) (by omega) (by omega) HXM0.out K_L0.out).mono ?_
      intro e w1 h
      obtain ⟨rfl, hb⟩ := heldC_elim h
      have HBc0 := Lib.hid (HF.out.trans (hb.mono HF.out.size))
      have hpos0 : 0 ≤ z0 := by omega
      clear h hb
      have HB2 := Lib.hid (HB.out.trans (HBc0.out.mono hsz))
      go_wp2
      go_roundw
      case rel => exact ⟨j + 1, by omega, by go_num, ⟨_, rfl, by omega, by rw [← HK1.out]; exact HMN.out⟩, HB2.out⟩
      case measure => simp [intOf]; omega
    · obtain rfl : j = L.length := by omega
      have HE := Lib.hid (mmL_end hmz)
      clear hmz hB
      go_wp2
      go_ret
      exact ⟨by rw [HE.out]; rfl, HB.out⟩
end Go.Proofs.Ytkghodbbgehcoaa.RepC
end
section
namespace Go.Proofs.Ytkghodbbgehcoaa.RepC
open Go.RowKit RowC ValC
set_option linter.unusedVariables false
set_option linter.unusedSimpArgs false
theorem szd_Task {x0 : Int} {x1 : Int} {x2 : Int} {x3 : ByteArray} {x4 : Int} {x5 : Int} {x6 : Int} {x7 : Int} {x8 : Int} {x9 : Int} {x10 : Int} {x11 : Int} {x12 : Int} {L0 : List (Int)} : R_Task.sz ((x0, x1), x2, x3, x4, x5, x6, (x7, x8), x9, x10, x11, x12, L0) = x3.size + ((Sl I)).sz L0 := by
  simp only [R_Task, Pr, I, Bo, St, atom, R_Label]; omega
set_option maxRecDepth 100000 in
set_option maxHeartbeats 1600000 in
theorem sz_Task {x0 : Int} {x1 : Int} {x2 : Int} {x3 : ByteArray} {x4 : Int} {x5 : Int} {x6 : Int} {x7 : Int} {x8 : Int} {x9 : Int} {x10 : Int} {x11 : Int} {x12 : Int} {L0 : List (Int)} {a0 : Option Addr} {c0 : Nat} {W : World} {l : Int} (h0 : 0 ≤ l) (h1 : l ≤ 1048576) (h_L0 : RdSl I W W.heap.size L0 a0 c0) (b_x3 : x3.size ≤ maxLen) : Calls Try.prog 23 #[.agg #[.int .i64 x0, .int .i64 x1, .int .i64 x2, .string x3, .int .i64 x4, .int .i64 x5, .int .i64 x6, .int .i64 x7, .int .i64 x8, .int .i64 x9, .int .i64 x10, .int .i64 x11, .int .i64 x12, .slice a0 L0.length c0], .int .i64 l] W (SzC l (R_Task.sz ((x0, x1), x2, x3, x4, x5, x6, (x7, x8), x9, x10, x11, x12, L0)) W) := by
  unfold maxLen at b_x3
  have H_L0 := Lib.hid h_L0
  clear h_L0
  have HD := Lib.hid (szd_Task (x0 := x0) (x1 := x1) (x2 := x2) (x3 := x3) (x4 := x4) (x5 := x5) (x6 := x6) (x7 := x7) (x8 := x8) (x9 := x9) (x10 := x10) (x11 := x11) (x12 := x12) (L0 := L0))
  have HB0 := Lib.hid (show Below W.heap.size W (W.alloc (.cells #[.int .i64 x0, .int .i64 x1, .int .i64 x2, .string x3, .int .i64 x4, .int .i64 x5, .int .i64 x6, .int .i64 x7, .int .i64 x8, .int .i64 x9, .int .i64 x10, .int .i64 x11, .int .i64 x12, .slice a0 L0.length c0] 39)) from (Below.refl _ _).alloc (Nat.le_refl _) _)
  have hP := Blk.new W 39 #[.int .i64 x0, .int .i64 x1, .int .i64 x2, .string x3, .int .i64 x4, .int .i64 x5, .int .i64 x6, .int .i64 x7, .int .i64 x8, .int .i64 x9, .int .i64 x10, .int .i64 x11, .int .i64 x12, .slice a0 L0.length c0]
  have HP0 := Lib.hid hP
  have hz0 : W.heap.size ≤ (W.alloc (.cells #[.int .i64 x0, .int .i64 x1, .int .i64 x2, .string x3, .int .i64 x4, .int .i64 x5, .int .i64 x6, .int .i64 x7, .int .i64 x8, .int .i64 x9, .int .i64 x10, .int .i64 x11, .int .i64 x12, .slice a0 L0.length c0] 39)).heap.size := HB0.out.size
  clear hP
  by_cases hf : (x3.size : Int) ≤ l
  rotate_left
  · have HR := Lib.hid (szR_no (l := l) (s := R_Task.sz ((x0, x1), x2, x3, x4, x5, x6, (x7, x8), x9, x10, x11, x12, L0)) (by rw [HD.out]; omega))
    have hd : decide (l - (x3.size : Int) < 0) = true := decide_eq_true (by omega)
    go_enter Try.func23, Try.ntmps23
    go_wp2
    go_ret
    exact ⟨by rw [HR.out]; rfl, HB0.out⟩
  have hd : decide (l - (x3.size : Int) < 0) = false := decide_eq_false (by omega)
  obtain ⟨s0, hs0⟩ : ∃ s, s = (((Sl I)).sz L0) := ⟨_, rfl⟩
  have HS0 := Lib.hid hs0
  rw [← hs0] at HD
  clear hs0
  go_enter Try.func23, Try.ntmps23
  go_wp2_with fail
  refine (sz_Int64S (l := l - (x3.size : Int)) (by omega) (by omega) ((H_L0.out.below I_ok HB0.out).more I_ok hz0)).mono ?_
  intro e w1 h
  obtain ⟨rfl, hb⟩ := szC_elim h
  rw [← HS0.out]
  have HP1 := Lib.hid (HP0.out.call hb)
  have HB1 := Lib.hid (HB0.out.trans (hb.mono hz0))
  clear h hb
  by_cases hf0 : (s0 : Int) ≤ l - (x3.size : Int)
  rotate_left
  · rw [szR_no hf0]
    have HR := Lib.hid (szR_no (l := l) (s := R_Task.sz ((x0, x1), x2, x3, x4, x5, x6, (x7, x8), x9, x10, x11, x12, L0)) (by rw [HD.out]; omega))
    go_wp2
    go_ret
    exact ⟨by first | (rw [HR.out]; done) | (rw [HR.out]; rfl), HB1.out⟩
  rw [szR_yes hf0]
  have hpos0 : (0 : Int) ≤ l - (x3.size : Int) - (s0 : Nat) := by omega
  have HR := Lib.hid (szR_yes (l := l) (s := R_Task.sz ((x0, x1), x2, x3, x4, x5, x6, (x7, x8), x9, x10, x11, x12, L0)) (by rw [HD.out]; omega))
  go_wp2
  go_ret
  exact ⟨by rw [HR.out, HD.out]; first | rfl | (simp; done) | (simp; omega), HB1.out⟩
theorem sizz_TaskS : (R_Task).size = 14 := rfl
theorem szd_TaskS (L : List (D_Task)) : (Sl R_Task).sz L = L.length + sumL (R_Task).sz L := rfl
set_option maxRecDepth 100000 in
set_option maxHeartbeats 1600000 in
theorem sz_TaskS {L : List (D_Task)} {a : Option Addr} {cap : Nat} {W : World} {l : Int} (h0 : 0 ≤ l) (h1 : l ≤ 1048576) (h : RdSl R_Task W W.heap.size L a cap) : Calls Try.prog 28 #[.slice a L.length cap, .int .i64 l] W (SzC l ((Sl R_Task).sz L) W) := by
  have hn : L.length ≤ 9223372036854775807 := by have h1 := h.1; have h2 := h.2.1; unfold maxLen at h2; omega
  have H := Lib.hid h
  have HD := Lib.hid (szd_TaskS L)
  clear h
  by_cases hlen : (L.length : Int) ≤ l
  · go_enter Try.func28, Try.ntmps28
    go_wp2
    go_loopw [5, 1] (fun i q wr => ∃ k : Nat, k ≤ L.length ∧ i = .int .i64 k ∧ (L.length : Int) + (sumL (R_Task).sz (L.take k) : Nat) ≤ l ∧ q = .int .i64 (l - L.length - (sumL (R_Task).sz (L.take k) : Nat)) ∧ Below W.heap.size W wr) (fun i _ _ => L.length - (intOf i).toNat)
    case atStart => exact ⟨0, Nat.zero_le _, rfl, by simpa [sumL] using hlen, by simp [sumL], Below.refl _ _⟩
    case round =>
      obtain ⟨k, hk, rfl, hfit, rfl, hB⟩ := hrel
      have HB := Lib.hid hB
      have hsz := hB.size
      have hle := sumL_take_le (R_Task).sz L k
      by_cases hlt : k < L.length
      · obtain ⟨⟨⟨x0, x1⟩, x2, x3, x4, x5, x6, ⟨x7, x8⟩, x9, x10, x11, x12, L0⟩, hx⟩ := el_some hlt
        have HS := Lib.hid (sumL_take (R_Task).sz hx)
        have hle2 := sumL_take_le (R_Task).sz L (k + 1)
        obtain ⟨g, o, us, rfl, hg, hu, hr⟩ := (H.out.below R_Task_ok hB).at_ hx
        obtain ⟨a0, c0, rfl, k_L0, b_x3⟩ := rd_Task hr
        have e0 : wr.cell? ⟨g, o + k * 14, none⟩ = some (.int .i64 x0) := by simpa [sizz_TaskS, Nat.add_assoc] using hu 0 _ rfl
        have e1 : wr.cell? ⟨g, o + k * 14 + 1, none⟩ = some (.int .i64 x1) := by simpa [sizz_TaskS, Nat.add_assoc] using hu 1 _ rfl
        have e2 : wr.cell? ⟨g, o + k * 14 + 2, none⟩ = some (.int .i64 x2) := by simpa [sizz_TaskS, Nat.add_assoc] using hu 2 _ rfl
        have e3 : wr.cell? ⟨g, o + k * 14 + 3, none⟩ = some (.string x3) := by simpa [sizz_TaskS, Nat.add_assoc] using hu 3 _ rfl
        have e4 : wr.cell? ⟨g, o + k * 14 + 4, none⟩ = some (.int .i64 x4) := by simpa [sizz_TaskS, Nat.add_assoc] using hu 4 _ rfl
        have e5 : wr.cell? ⟨g, o + k * 14 + 5, none⟩ = some (.int .i64 x5) := by simpa [sizz_TaskS, Nat.add_assoc] using hu 5 _ rfl
        have e6 : wr.cell? ⟨g, o + k * 14 + 6, none⟩ = some (.int .i64 x6) := by simpa [sizz_TaskS, Nat.add_assoc] using hu 6 _ rfl
        have e7 : wr.cell? ⟨g, o + k * 14 + 7, none⟩ = some (.int .i64 x7) := by simpa [sizz_TaskS, Nat.add_assoc] using hu 7 _ rfl
        have e8 : wr.cell? ⟨g, o + k * 14 + 8, none⟩ = some (.int .i64 x8) := by simpa [sizz_TaskS, Nat.add_assoc] using hu 8 _ rfl
        have e9 : wr.cell? ⟨g, o + k * 14 + 9, none⟩ = some (.int .i64 x9) := by simpa [sizz_TaskS, Nat.add_assoc] using hu 9 _ rfl
        have e10 : wr.cell? ⟨g, o + k * 14 + 10, none⟩ = some (.int .i64 x10) := by simpa [sizz_TaskS, Nat.add_assoc] using hu 10 _ rfl
        have e11 : wr.cell? ⟨g, o + k * 14 + 11, none⟩ = some (.int .i64 x11) := by simpa [sizz_TaskS, Nat.add_assoc] using hu 11 _ rfl
        have e12 : wr.cell? ⟨g, o + k * 14 + 12, none⟩ = some (.int .i64 x12) := by simpa [sizz_TaskS, Nat.add_assoc] using hu 12 _ rfl
        have e13 : wr.cell? ⟨g, o + k * 14 + 13, none⟩ = some (.slice a0 L0.length c0) := by simpa [sizz_TaskS, Nat.add_assoc] using hu 13 _ rfl
        have K_L0 := Lib.hid (k_L0.more I_ok hsz)
        obtain ⟨q, hq⟩ : ∃ q, q = sumL (R_Task).sz (L.take k) := ⟨_, rfl⟩
        obtain ⟨p, hp⟩ : ∃ p, p = (R_Task).sz ((x0, x1), x2, x3, x4, x5, x6, (x7, x8), x9, x10, x11, x12, L0) := ⟨_, rfl⟩
        rw [← hq] at hfit hle HS
        rw [← hp] at HS
        have HQ := Lib.hid hq
        have HP := Lib.hid hp
        have hi0 : (0 : Int) ≤ (k : Int) := Int.natCast_nonneg _
        have hi1 : (k : Int) < (L.length : Int) := by omega
        have hgl : g < wr.heap.size := Nat.lt_of_lt_of_le hg hsz
        have hle3 : q + p ≤ sumL (R_Task).sz L := by rw [← HS.out]; exact hle2
        rw [← hq]
        clear hB hx hu k_L0 hq hp hle2
        go_wp2_with fail
        refine (sz_Task (by omega) (by omega) K_L0.out b_x3).mono ?_
        intro e w1 h
        obtain ⟨rfl, hb⟩ := szC_elim h
        rw [← HP.out]
        have HB2 := Lib.hid (HB.out.trans (hb.mono hsz))
        clear h hb
        by_cases hf : (p : Int) ≤ l - L.length - (q : Nat)
        · rw [szR_yes hf]
          have hpos : (0 : Int) ≤ l - L.length - (q : Nat) - (p : Nat) := by omega
          go_wp2
          go_roundw
          case rel => exact ⟨k + 1, by omega, by go_num, by rw [HS.out]; omega, by rw [HS.out]; congr 1; omega, HB2.out⟩
          case measure => simp [intOf]; omega
        · rw [szR_no hf]
          have HR := Lib.hid (szR_no (l := l) (s := (Sl R_Task).sz L) (by rw [HD.out]; omega))
          go_wp2
          go_ret
          exact ⟨by first | (rw [HR.out]; done) | (rw [HR.out]; rfl), HB2.out⟩
      · obtain rfl : k = L.length := by omega
        have HR := Lib.hid (szR_yes (l := l) (s := (Sl R_Task).sz L) (by rw [HD.out]; rw [List.take_length] at hfit; omega))
        have HT := Lib.hid (show L.take L.length = L from List.take_length)
        clear hB
        go_wp2
        go_ret
        exact ⟨by rw [HR.out, HD.out, ← HT.out]; first | rfl | (simp; done) | (simp; omega), HB.out⟩
  · have HR := Lib.hid (szR_no (l := l) (s := (Sl R_Task).sz L) (by rw [HD.out]; omega))
    go_enter Try.func28, Try.ntmps28
    go_wp2
    go_ret
    exact ⟨by first | (rw [HR.out]; done) | (rw [HR.out]; rfl), Below.refl _ _⟩
end Go.Proofs.Ytkghodbbgehcoaa.RepC
end
section
namespace Go.Proofs.Ytkghodbbgehcoaa.RepC
open Go.RowKit RowC ValC
set_option linter.unusedVariables false
theorem gmv {α : Type} {E : Rp α} (hE : Ok E) {d : α} {cs : List Value} {w w' : World} (h : E.rd w w.heap.size d cs) (hb : Below w.heap.size w w') : E.rd w' w'.heap.size d cs := hE.rd_more (hE.rd_below h hb) hb.size
def OwG {α : Type} (E : Rp α) (w : World) (S : Nat → Prop) (d : α) (cs : List Value) : Prop := E.ow w S d cs ∧ ∀ k, S k → k < w.heap.size
theorem OwG.mv {α : Type} {E : Rp α} (hE : Ok E) {w w' : World} {S : Nat → Prop} {d : α} {cs : List Value} (h : OwG E w S d cs) (hb : Below w.heap.size w w') : OwG E w' S d cs :=
  ⟨hE.ow_keep h.1 fun k hk => hb.block k (h.2 k hk), fun k hk => Nat.lt_of_lt_of_le (h.2 k hk) hb.size⟩
theorem OwG.off {α : Type} {E : Rp α} (hE : Ok E) {w w' : World} {S T : Nat → Prop} {d : α} {cs : List Value} (h : OwG E w S d cs) (ho : Off T w w') (hd : ∀ k, S k → ¬ T k) : OwG E w' S d cs :=
  ⟨hE.ow_keep h.1 fun k hk => ho.block k (h.2 k hk) (hd k hk), fun k hk => Nat.lt_of_lt_of_le (h.2 k hk) ho.size⟩
theorem OwG.rd {α : Type} {E : Rp α} (hE : Ok E) {w : World} {S : Nat → Prop} {d : α} {cs : List Value} (h : OwG E w S d cs) : E.rd w w.heap.size d cs := hE.ow_rd h.1 h.2
theorem owG_new {α : Type} {E : Rp α} {w : World} {m : Nat} {d : α} {cs : List Value} (h : E.ow w (Rg m w.heap.size) d cs) : OwG E w (Rg m w.heap.size) d cs := ⟨h, fun k hk => hk.2⟩
def MarkG {α : Type} (E : Rp α) (d : α) (cs : List Value) (S : Nat → Prop) (k : Int) (W : World) (e : Ending) (w' : World) : Prop :=
  ∃ d' z, e = .returned (.int .i64 z) ∧ E.mv d' k z ∧ z = k + (E.cv d : Nat) ∧ E.ow w' S d' cs ∧ Off S W w'
theorem markG_elim {α : Type} {E : Rp α} {d : α} {cs : List Value} {S : Nat → Prop} {k : Int} {W : World} {e : Ending} {w' : World} (h : MarkG E d cs S k W e w') :
    ∃ d' z, e = .returned (.int .i64 z) ∧ E.mv d' k z ∧ z = k + (E.cv d : Nat) ∧ E.ow w' S d' cs ∧ Off S W w' := h
theorem newS_elim2 {α : Type} {E : Rp α} {L : List α} {w : World} {e : Ending} {w' : World} (h : NewS E L w e w') : ∃ a cap, e = .returned (.slice a L.length cap) ∧ (Sl E).ow w' (Rg w.heap.size w'.heap.size) L [.slice a L.length cap] ∧ Below w.heap.size w w' := by
  obtain ⟨a, cap, rfl, ho, hb⟩ := h
  exact ⟨a, cap, rfl, ⟨a, cap, rfl, ho⟩, hb⟩
end Go.Proofs.Ytkghodbbgehcoaa.RepC
end
section
namespace Go.Proofs.Ytkghodbbgehcoaa.RepC
open Go.RowKit RowC ValC
set_option linter.unusedVariables false
set_option linter.unusedSimpArgs false
theorem gsz_TaskS {L : List (D_Task)} {v : Value} {W : World} {l : Int} (h0 : 0 ≤ l) (h1 : l ≤ 1048576) (h : (Sl R_Task).rd W W.heap.size L [v]) : Calls Try.prog 28 #[v, .int .i64 l] W (SzC l ((Sl R_Task).sz L) W) := by
  obtain ⟨a, cap, he, k⟩ := h; cases he
  exact sz_TaskS h0 h1 k
theorem gto_TaskS {L : List (D_Task)} {v : Value} {W : World} (hsz : (Sl R_Task).sz L ≤ 1048576) (h : (Sl R_Task).rd W W.heap.size L [v]) : Calls Try.prog 30 #[v] W (NewS R_Task L W) := by
  obtain ⟨a, cap, he, k⟩ := h; cases he
  exact to_TaskS hsz k
theorem geq_TaskS {L : List (D_Task)} {v v' : Value} {W : World} (h : (Sl R_Task).rd W W.heap.size L [v]) (h' : (Sl R_Task).rd W W.heap.size L [v']) : Calls Try.prog 32 #[v, v'] W (IsB true W) := by
  obtain ⟨a, cap, he, k⟩ := h; cases he
  obtain ⟨a', cap', he, k'⟩ := h'; cases he
  exact eq_TaskS k k'
theorem gmark_TaskS {L : List (D_Task)} {v : Value} {W : World} {S : Nat → Prop} {k : Int} (h0 : 0 ≤ k) (h1 : k + ((Sl R_Task).cv L : Nat) ≤ 4611686018427387904) (hS : ∀ q, S q → q < W.heap.size) (h : (Sl R_Task).ow W S L [v]) : Calls Try.prog 36 #[v, .int .i64 k] W (MarkG (Sl R_Task) L [v] S k W) := by
  obtain ⟨a, cap, he, ho⟩ := h; cases he
  refine (mark_TaskS h0 h1 hS ho).mono fun e w' hh => ?_
  obtain ⟨y, z, rfl, hl, hm, hz, ho', hoff⟩ := markR_elim hh
  exact ⟨y, z, rfl, hm, hz, ⟨a, cap, by rw [hl], ho'⟩, hoff⟩
theorem gheld_TaskS {L : List (D_Task)} {v : Value} {W : World} {k z : Int} (h0 : 0 ≤ k) (h1 : z ≤ 4611686018427387904) (hm : (Sl R_Task).mv L k z) (h : (Sl R_Task).rd W W.heap.size L [v]) : Calls Try.prog 45 #[v, .int .i64 k] W (HeldC z W) := by
  obtain ⟨a, cap, he, q⟩ := h; cases he
  exact held_TaskS h0 h1 hm q
end Go.Proofs.Ytkghodbbgehcoaa.RepC
end
section
namespace Go.Proofs.Ytkghodbbgehcoaa.RepC
open Go.ChangeShapes Go.WideShapes Go.ChangeAt Go.RowKit Go.Joins Go.Deep RowC ValC
set_option maxRecDepth 100000
set_option linter.unusedVariables false
set_option linter.unusedSimpArgs false
theorem c_Task : Try.prog.cellsOf 39 = 14 := by kernel_rfl
theorem opn_Task : Opn R_Task 39 := fun enc W fuel cs y h => by
  obtain ⟨xs, n, _, _, hl, hlen, hf⟩ := DataW.trod_struct Try.underlying39 h
  rw [c_Task] at hl
  match cs, hl with
  | [c0, c1, c2, c3, c4, c5, c6, c7, c8, c9, c10, c11, c12, c13], _ =>
    have e2 : xs.length = 12 := hlen
    match xs, e2 with
    | [y0, y1, y2, y3, y4, y5, y6, y7, y8, y9, y10, y11], _ =>
      have g0 := fld hf 0 36 0 2 rfl c_Label
      have g1 := fld hf 1 2 2 1 rfl c_int64
      have g2 := fld hf 2 9 3 1 rfl c_String
      have g3 := fld hf 3 2 4 1 rfl c_int64
      have g4 := fld hf 4 2 5 1 rfl c_int64
      have g5 := fld hf 5 2 6 1 rfl c_int64
      have g6 := fld hf 6 36 7 2 rfl c_Label
      have g7 := fld hf 7 2 9 1 rfl c_int64
      have g8 := fld hf 8 2 10 1 rfl c_int64
      have g9 := fld hf 9 2 11 1 rfl c_int64
      have g10 := fld hf 10 2 12 1 rfl c_int64
      have g11 := fld hf 11 37 13 1 rfl c_i64s
      obtain ⟨d0, h0⟩ := opn_Label enc W n [c0, c1] y0 g0
      obtain ⟨d1, h1⟩ := opn_i64 enc W n [c2] y1 g1
      obtain ⟨d2, h2⟩ := opn_String enc W n [c3] y2 g2
      obtain ⟨d3, h3⟩ := opn_i64 enc W n [c4] y3 g3
      obtain ⟨d4, h4⟩ := opn_i64 enc W n [c5] y4 g4
      obtain ⟨d5, h5⟩ := opn_i64 enc W n [c6] y5 g5
      obtain ⟨d6, h6⟩ := opn_Label enc W n [c7, c8] y6 g6
      obtain ⟨d7, h7⟩ := opn_i64 enc W n [c9] y7 g7
      obtain ⟨d8, h8⟩ := opn_i64 enc W n [c10] y8 g8
      obtain ⟨d9, h9⟩ := opn_i64 enc W n [c11] y9 g9
      obtain ⟨d10, h10⟩ := opn_i64 enc W n [c12] y10 g10
      obtain ⟨d11, h11⟩ := opn_i64s enc W n [c13] y11 g11
      exact ⟨(d0, d1, d2, d3, d4, d5, d6, d7, d8, d9, d10, d11), ⟨[c0, c1], [c2, c3, c4, c5, c6, c7, c8, c9, c10, c11, c12, c13], rfl, h0, ⟨[c2], [c3, c4, c5, c6, c7, c8, c9, c10, c11, c12, c13], rfl, h1, ⟨[c3], [c4, c5, c6, c7, c8, c9, c10, c11, c12, c13], rfl, h2, ⟨[c4], [c5, c6, c7, c8, c9, c10, c11, c12, c13], rfl, h3, ⟨[c5], [c6, c7, c8, c9, c10, c11, c12, c13], rfl, h4, ⟨[c6], [c7, c8, c9, c10, c11, c12, c13], rfl, h5, ⟨[c7, c8], [c9, c10, c11, c12, c13], rfl, h6, ⟨[c9], [c10, c11, c12, c13], rfl, h7, ⟨[c10], [c11, c12, c13], rfl, h8, ⟨[c11], [c12, c13], rfl, h9, ⟨[c12], [c13], rfl, h10, h11⟩⟩⟩⟩⟩⟩⟩⟩⟩⟩⟩⟩
theorem opn_TaskS : Opn (Sl R_Task) 47 := opn_sl opn_Task (by decide) Try.underlying47 c_Task
theorem open_tasks {H : Type} {enc : TypeId × Value → H} {W : World} {base : Nat} {v : Value} {d : DataW H} {p : List MemPlace} (o : Value.okWide Try.prog W .any base 47 v) (h : DataW.Trod enc Try.prog W 0 (fun _ => true) true 47 v d p) : ∃ (L : List D_Task) (a : Option Addr) (cap : Nat), v = .slice a L.length cap ∧ RdSl R_Task W W.heap.size L a cap := open_sl opn_TaskS Try.underlying47 o h
end Go.Proofs.Ytkghodbbgehcoaa.RepC
end
section
namespace Go.Proofs.Ytkghodbbgehcoaa.RepC
open Go.RowKit RowC ValC SpanC KeptC
set_option linter.unusedVariables false
set_option linter.unusedSimpArgs false
theorem sumL_cmI : ∀ L : List Int, sumL I.cm L = L.length
  | [] => rfl
  | x :: xs => by simp only [sumL, sumL_cmI xs, List.length_cons]; show 1 + _ = _; omega
theorem cm_task (x : D_Task) : R_Task.cm x = 13 + (tNodes x).length := by
  obtain ⟨⟨x0, x1⟩, x2, x3, x4, x5, x6, ⟨x7, x8⟩, x9, x10, x11, x12, M⟩ := x
  show 1 + 1 + (1 + (1 + (1 + (1 + (1 + (1 + 1 + (1 + (1 + (1 + (1 + sumL I.cm M))))))))))  = _
  rw [sumL_cmI]
  show _ = 13 + M.length
  omega
theorem sz_task (x : D_Task) : R_Task.sz x = (tOwner x).size + (tNodes x).length := by
  obtain ⟨⟨x0, x1⟩, x2, x3, x4, x5, x6, ⟨x7, x8⟩, x9, x10, x11, x12, M⟩ := x
  rw [szd_Task]
  have h0 : sumL I.sz M = 0 := sumL_zero (fun _ => rfl) M
  show x3.size + (M.length + sumL I.sz M) = x3.size + M.length
  omega
theorem cm_tasks : ∀ L : List D_Task, sumL R_Task.cm L ≤ 13 * L.length + sumL R_Task.sz L
  | [] => Nat.le_refl _
  | x :: xs => by
    have h := cm_tasks xs
    have h1 := cm_task x
    have h2 := sz_task x
    simp only [sumL, List.length_cons]
    omega
theorem cvs_TaskS {L : List D_Task} (h : (Sl R_Task).sz L ≤ 1048576) : (Sl R_Task).cv L ≤ 33554432 := by
  have e := cm_tasks L
  have e2 : (Sl R_Task).sz L = L.length + sumL R_Task.sz L := rfl
  show sumL R_Task.cm L ≤ _
  omega
theorem taskI_w {x : D_Task} {cs : List Value} {W : World} (h : R_Task.rd W W.heap.size x cs) : Calls Try.prog 26 #[.agg cs.toArray] W fun e w' => e = .returned (.bool (taskB x)) ∧ Below W.heap.size W w' := by
  obtain ⟨⟨x0, x1⟩, x2, x3, x4, x5, x6, ⟨x7, x8⟩, x9, x10, x11, x12, M⟩ := x
  obtain ⟨ba, bc, rfl, k, b⟩ := rd_Task h
  exact (taskP_impl b k).mono fun e w' h => resB_is taskB_iff h
end Go.Proofs.Ytkghodbbgehcoaa.RepC
end
section
namespace Go.Proofs.Ytkghodbbgehcoaa.RepC
open Go.RowKit RowC ValC SpanC KeptC NameC
set_option linter.unusedVariables false
set_option linter.unusedSimpArgs false
theorem RdSl.take {α : Type} {E : Rp α} {W : World} {B : Nat} {L : List α} {a : Option Addr} {cap : Nat} (h : RdSl E W B L a cap) (k : Nat) : RdSl E W B (L.take k) a cap := by
  obtain ⟨h1, h2, h3⟩ := h
  refine ⟨Nat.le_trans (List.length_take_le' _ _) h1, h2, fun hn => ?_⟩
  have hl : 0 < L.length := Nat.lt_of_lt_of_le hn (List.length_take_le' _ _)
  obtain ⟨g, o, ha, hg, hc⟩ := h3 hl
  refine ⟨g, o, ha, hg, fun i x hx => ?_⟩
  rw [List.getElem?_take] at hx
  split at hx
  · exact hc i x hx
  · cases hx
theorem key_iff {x0 x1 x2 l0 l1 n : Int} : (((x0, x1), x2) : D_Label × Int) = ((l0, l1), n) ↔ decide (((x0, x1) : Int × Int) = (l0, l1)) = true ∧ (x2 == n) = true := by
  simp only [Prod.mk.injEq, decide_eq_true_eq, beq_iff_eq]
theorem nkT_step {L : List D_Task} {k : Nat} {x : D_Task} {a : D_Label × Int} (h : ∀ (i : Nat) (y : D_Task), i < k → L[i]? = some y → tKey y ≠ a) (hx : L[k]? = some x) (hk : tKey x ≠ a) : ∀ (i : Nat) (y : D_Task), i < k + 1 → L[i]? = some y → tKey y ≠ a := fun i y hi hy => by
  rcases Nat.lt_succ_iff_lt_or_eq.1 hi with h1 | h1
  · exact h i y h1 hy
  · subst h1; rw [hx] at hy; cases hy; exact hk
set_option maxRecDepth 100000 in
set_option maxHeartbeats 3200000 in
theorem at_spec {L : List D_Task} {n : Nat} {a : Option Addr} {cap : Nat} {l0 l1 id : Int} {W : World} (hLn : L.length = n) (h : RdSl R_Task W W.heap.size L a cap) :
    Calls Try.prog 83 #[.slice a n cap, .agg #[.int .i64 l0, .int .i64 l1], .int .i64 id] W fun e w' => e = .returned (.int .i64 (atT L ((l0, l1), id))) ∧ Below W.heap.size W w' := by
  subst hLn
  have hn : L.length ≤ 9223372036854775807 := by have h1 := h.1; have h2 := h.2.1; unfold maxLen at h2; omega
  have H := Lib.hid h
  clear h
  obtain ⟨wa, hwa⟩ : ∃ w, w = W.alloc (.cells #[.int .i64 l0, .int .i64 l1] 25) := ⟨_, rfl⟩
  have HBA := Lib.hid (show Below W.heap.size W wa from by rw [hwa]; exact (Below.refl _ _).alloc (Nat.le_refl _) _)
  have HP1 := Lib.hid (show Blk wa W.heap.size 25 #[.int .i64 l0, .int .i64 l1] from by rw [hwa]; exact Blk.new _ _ _)
  have HA1 := Lib.hid ((H.out.below R_Task_ok HBA.out).more R_Task_ok HBA.out.size)
  go_enter Try.func83, Try.ntmps83
  go_wp2_with fail
  rw [← hwa]
  clear hwa
  go_loopw [7] (fun i wr => ∃ k : Nat, k ≤ L.length ∧ i = .int .i64 k ∧ Hid (∀ (i : Nat) (y : D_Task), i < k → L[i]? = some y → tKey y ≠ ((l0, l1), id)) ∧ Below wa.heap.size wa wr) (fun i _ => L.length - (intOf i).toNat)
  case atStart => exact ⟨0, Nat.zero_le _, rfl, Lib.hid fun i y h => absurd h (Nat.not_lt_zero _), Below.refl _ _⟩
  case round =>
    obtain ⟨k, hk, rfl, HN, hB⟩ := hrel
    have HB := Lib.hid hB
    have HBW := Lib.hid (HBA.out.trans (hB.mono HBA.out.size))
    have hsz := hB.size
    by_cases hlt : k < L.length
    · skip
      obtain ⟨⟨⟨x0, x1⟩, x2, x3, x4, x5, x6, ⟨x7, x8⟩, x9, x10, x11, x12, M⟩, hx⟩ := el_some hlt
      have HX := Lib.hid hx
      obtain ⟨g, o, us, rfl, hg, hu, hr⟩ := (HA1.out.below R_Task_ok hB).at_ hx
      obtain ⟨ba, bc, rfl, k_M, b_x3⟩ := rd_Task hr
      have e0 : wr.cell? ⟨g, o + k * 14, none⟩ = some (.int .i64 x0) := by simpa [size_TaskS, Nat.add_assoc] using hu 0 _ rfl
      have e1 : wr.cell? ⟨g, o + k * 14 + 1, none⟩ = some (.int .i64 x1) := by simpa [size_TaskS, Nat.add_assoc] using hu 1 _ rfl
      have e2 : wr.cell? ⟨g, o + k * 14 + 2, none⟩ = some (.int .i64 x2) := by simpa [size_TaskS, Nat.add_assoc] using hu 2 _ rfl
      have HPR := Lib.hid (HP1.out.call hB)
      have q0 : wr.cell? ⟨W.heap.size, 0, none⟩ = some (.int .i64 l0) := HPR.out.at_ 0 rfl
      have q1 : wr.cell? ⟨W.heap.size, 1, none⟩ = some (.int .i64 l1) := HPR.out.at_ 1 rfl
      have hi0 : (0 : Int) ≤ (k : Int) := Int.natCast_nonneg _
      have hi1 : (k : Int) < (L.length : Int) := by omega
      obtain ⟨b, hb⟩ : ∃ b, decide (((x0, x1) : Int × Int) = (l0, l1)) = b := ⟨_, rfl⟩
      have hq := eql_lab x0 x1 l0 l1 b hb
      clear hu hr hg hB hx k_M
      cases b with
      | false =>
        have HN2 := Lib.hid (nkT_step HN.out HX.out (fun he => by have := (key_iff.1 he).1; rw [hb] at this; cases this))
        clear hb
        go_wp2_with fail
        go_quiet (fail)
        all_goals
          go_wp2
          go_roundw
          case rel => exact ⟨k + 1, by omega, by go_num, Lib.hid HN2.out, by first | exact HB.out | exact HB.out.drew | exact bdrewN HB.out _⟩
          case measure => simp [intOf]; omega
      | true =>
        obtain ⟨c, hc⟩ : ∃ c, (x2 == id) = c := ⟨_, rfl⟩
        cases c with
        | false =>
          have HN2 := Lib.hid (nkT_step HN.out HX.out (fun he => by have := (key_iff.1 he).2; rw [hc] at this; cases this))
          clear hb
          go_wp2_with fail
          go_quiet (fail)
          all_goals
            go_wp2
            go_roundw
            case rel => exact ⟨k + 1, by omega, by go_num, Lib.hid HN2.out, by first | exact HB.out | exact HB.out.drew | exact bdrewN HB.out _⟩
            case measure => simp [intOf]; omega
        | true =>
          have HF := Lib.hid (show atT L ((l0, l1), id) = (k : Int) from atT_hit HN.out HX.out (key_iff.2 ⟨hb, hc⟩))
          clear hb
          go_wp2_with fail
          go_quiet (fail)
          all_goals
            go_wp2
            go_ret
            exact ⟨by rw [HF.out]; rfl, by first | exact HBW.out | exact HBW.out.drew | exact bdrewN HBW.out _⟩
    · have hdl : decide ((k : Int) < (L.length : Int)) = false := decide_eq_false (by omega)
      obtain rfl : k = L.length := by omega
      have HF := Lib.hid (show atT L ((l0, l1), id) = -1 from atT_miss HN.out)
      clear hB
      go_wp2
      go_ret
      exact ⟨by rw [HF.out]; rfl, HBW.out⟩
theorem taskS_w {x : D_Task} {cs : List Value} {W : World} (h : R_Task.rd W W.heap.size x cs) : Calls Try.prog 24 #[.agg cs.toArray] W fun e w' => e = .returned (.bool (taskB x)) ∧ Below W.heap.size W w' := by
  obtain ⟨⟨x0, x1⟩, x2, x3, x4, x5, x6, ⟨x7, x8⟩, x9, x10, x11, x12, M⟩ := x
  obtain ⟨ba, bc, rfl, k, b⟩ := rd_Task h
  exact (taskP_spec b k).mono fun e w' h => resB_is taskB_iff h
end Go.Proofs.Ytkghodbbgehcoaa.RepC
end
