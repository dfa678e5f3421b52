/- The laws' data: contracts. -/
import Derived.Test.YtknifggpodhhdaaDoorDeskT
namespace Go.Proofs.YtknifggpodhhdaaDoor.RepC
open Go.RowKit RowC ValC
set_option linter.unusedVariables false
set_option linter.unusedSimpArgs false


theorem sizm_LetterS : (R_Letter).size = 6 := rfl
set_option maxRecDepth 100000 in
set_option maxHeartbeats 3200000 in
theorem mark_LetterS {L : List (D_Letter)} {a : Option Addr} {cap : Nat} {W : World} {S : Nat → Prop} {k : Int} (h0 : 0 ≤ k) (h1 : k + (sumL (R_Letter).cm L : Nat) ≤ 4611686018427387904) (hS : ∀ i, S i → i < W.heap.size) (h : OwSl R_Letter W S L a cap) : Calls Tryd.prog 80 #[.slice a L.length cap, .int .i64 k] W (MarkR R_Letter S L a cap k W) := by
  have hcap := h.1
  have hmax := h.2.1
  have hn : L.length ≤ 9223372036854775807 := by have h2 := h.2.1; unfold maxLen at h2; omega
  have H := Lib.hid h
  have HCAP := Lib.hid hcap
  have HMAX := Lib.hid hmax
  clear h hcap hmax
  rcases Nat.eq_zero_or_pos L.length with hz | hpos
  · have HR := Lib.hid (MarkR.none_ (k := k) H.out hz)
    have HZ := Lib.hid hz
    rw [hz]
    clear hz
    go_enter Tryd.func80, Tryd.ntmps80
    go_wp2
    go_loopw [5, 1] (fun i q wr => i = .int .i64 0 ∧ q = .int .i64 k ∧ wr = W) (fun i _ _ => 0)
    case atStart => exact ⟨rfl, rfl, rfl⟩
    case round =>
      obtain ⟨rfl, rfl, rfl⟩ := hrel
      go_wp2
      go_ret
      exact HR.out
  · obtain ⟨g, Sf, rfl, hrow⟩ := H.out.row hpos
    have HM := Lib.hid (Mkd.start (k := k) hrow)
    clear hrow
    go_enter Tryd.func80, Tryd.ntmps80
    go_wp2
    go_loopw [5, 1] (fun i q wr => ∃ j : Nat, j ≤ L.length ∧ i = .int .i64 j ∧ ∃ (M : List (D_Letter)) (z : Int), q = .int .i64 z ∧ Mkd R_Letter W wr S L g Sf k z j M) (fun i _ _ => L.length - (intOf i).toNat)
    case atStart => exact ⟨0, Nat.zero_le _, rfl, _, _, rfl, HM.out⟩
    case round =>
      obtain ⟨j, hj, rfl, M, z, rfl, hM⟩ := hrel
      have HM2 := Lib.hid hM
      have hSw : ∀ i, S i → i < wr.heap.size := fun i hi => Nat.lt_of_lt_of_le (hS i hi) hM.off.size
      have HSW := Lib.hid hSw
      by_cases hlt : j < L.length
      · obtain ⟨⟨⟨x0, x1⟩, ⟨x2, x3⟩, x4, x5⟩, hx⟩ := el_some hlt
        have HX := Lib.hid hx
        have hcm := sumL_take (R_Letter).cm hx
        have hle := sumL_take_le (R_Letter).cm L (j + 1)
        have hnum := hM.num
        obtain ⟨us, hu, hr⟩ := hM.el hx
        obtain rfl := ow0_Letter hr
        have hgl : g < wr.heap.size := hSw g hM.row.own
        have hi0 : (0 : Int) ≤ (j : Int) := Int.natCast_nonneg _
        have hi1 : (j : Int) < (L.length : Int) := by omega
        have hz0 : 0 ≤ z := by omega
        have e0 : wr.cell? ⟨g, j * 6, none⟩ = some (.int .i64 x0) := by simpa [sizm_LetterS, Nat.add_assoc] using hu 0 _ rfl
        have e1 : wr.cell? ⟨g, j * 6 + 1, none⟩ = some (.int .i64 x1) := by simpa [sizm_LetterS, Nat.add_assoc] using hu 1 _ rfl
        have e2 : wr.cell? ⟨g, j * 6 + 2, none⟩ = some (.int .i64 x2) := by simpa [sizm_LetterS, Nat.add_assoc] using hu 2 _ rfl
        have e3 : wr.cell? ⟨g, j * 6 + 3, none⟩ = some (.int .i64 x3) := by simpa [sizm_LetterS, Nat.add_assoc] using hu 3 _ rfl
        have e4 : wr.cell? ⟨g, j * 6 + 4, none⟩ = some (.int .i64 x4) := by simpa [sizm_LetterS, Nat.add_assoc] using hu 4 _ rfl
        have e5 : wr.cell? ⟨g, j * 6 + 5, none⟩ = some (.int .i64 x5) := by simpa [sizm_LetterS, Nat.add_assoc] using hu 5 _ rfl
        have s0 := hM.row.soft (j * 6)
        have s1 := hM.row.soft (j * 6 + 1)
        have s2 := hM.row.soft (j * 6 + 2)
        have s3 := hM.row.soft (j * 6 + 3)
        have s4 := hM.row.soft (j * 6 + 4)
        have s5 := hM.row.soft (j * 6 + 5)
        have hcx : R_Letter.cm ((x0, x1), (x2, x3), x4, x5) = 6 := by first | (simp only [R_Letter, R_Label, R_Label, Pr, I, atom, Sl]; done) | (simp only [R_Letter, R_Label, R_Label, Pr, I, atom, Sl]; omega)
        rw [hcm, hcx] at hle
        have hb1 : z + ((6 : Nat) : Int) ≤ 4611686018427387904 := by omega
        have hne : ¬ Sf j g := fun hg => (HM2.out.row.sub j g hg).2 rfl
        have HU0 := Lib.hid (Upd.refl wr g (j * 6) ((j + 1) * 6) (Sf j))
        have HF0 := Lib.hid (Off.refl S wr)
        clear hM hSw hx hu hcm hle hnum
        have hc := putCells_cells g [.int .i64 (z), .int .i64 (z + 1), .int .i64 (z + 1 + 1), .int .i64 (z + 1 + 1 + 1), .int .i64 (z + 1 + 1 + 1 + 1), .int .i64 (z + 1 + 1 + 1 + 1 + 1)] wr (j * 6) (fun p hp => by
          match p, hp with
          | 0, _ => exact ⟨_, by simpa [Nat.add_assoc] using e0⟩
          | 1, _ => exact ⟨_, by simpa [Nat.add_assoc] using e1⟩
          | 2, _ => exact ⟨_, by simpa [Nat.add_assoc] using e2⟩
          | 3, _ => exact ⟨_, by simpa [Nat.add_assoc] using e3⟩
          | 4, _ => exact ⟨_, by simpa [Nat.add_assoc] using e4⟩
          | 5, _ => exact ⟨_, by simpa [Nat.add_assoc] using e5⟩
          | _ + 6, hp => simp at hp; omega)
        have d0 : (putCells wr g (j * 6) [.int .i64 (z), .int .i64 (z + 1), .int .i64 (z + 1 + 1), .int .i64 (z + 1 + 1 + 1), .int .i64 (z + 1 + 1 + 1 + 1), .int .i64 (z + 1 + 1 + 1 + 1 + 1)]).cell? ⟨g, j * 6, none⟩ = some (.int .i64 (z)) := by simpa [Nat.add_assoc] using hc 0 _ rfl
        have d1 : (putCells wr g (j * 6) [.int .i64 (z), .int .i64 (z + 1), .int .i64 (z + 1 + 1), .int .i64 (z + 1 + 1 + 1), .int .i64 (z + 1 + 1 + 1 + 1), .int .i64 (z + 1 + 1 + 1 + 1 + 1)]).cell? ⟨g, j * 6 + 1, none⟩ = some (.int .i64 (z + 1)) := by simpa [Nat.add_assoc] using hc 1 _ rfl
        have d2 : (putCells wr g (j * 6) [.int .i64 (z), .int .i64 (z + 1), .int .i64 (z + 1 + 1), .int .i64 (z + 1 + 1 + 1), .int .i64 (z + 1 + 1 + 1 + 1), .int .i64 (z + 1 + 1 + 1 + 1 + 1)]).cell? ⟨g, j * 6 + 2, none⟩ = some (.int .i64 (z + 1 + 1)) := by simpa [Nat.add_assoc] using hc 2 _ rfl
        have d3 : (putCells wr g (j * 6) [.int .i64 (z), .int .i64 (z + 1), .int .i64 (z + 1 + 1), .int .i64 (z + 1 + 1 + 1), .int .i64 (z + 1 + 1 + 1 + 1), .int .i64 (z + 1 + 1 + 1 + 1 + 1)]).cell? ⟨g, j * 6 + 3, none⟩ = some (.int .i64 (z + 1 + 1 + 1)) := by simpa [Nat.add_assoc] using hc 3 _ rfl
        have d4 : (putCells wr g (j * 6) [.int .i64 (z), .int .i64 (z + 1), .int .i64 (z + 1 + 1), .int .i64 (z + 1 + 1 + 1), .int .i64 (z + 1 + 1 + 1 + 1), .int .i64 (z + 1 + 1 + 1 + 1 + 1)]).cell? ⟨g, j * 6 + 4, none⟩ = some (.int .i64 (z + 1 + 1 + 1 + 1)) := by simpa [Nat.add_assoc] using hc 4 _ rfl
        have d5 : (putCells wr g (j * 6) [.int .i64 (z), .int .i64 (z + 1), .int .i64 (z + 1 + 1), .int .i64 (z + 1 + 1 + 1), .int .i64 (z + 1 + 1 + 1 + 1), .int .i64 (z + 1 + 1 + 1 + 1 + 1)]).cell? ⟨g, j * 6 + 5, none⟩ = some (.int .i64 (z + 1 + 1 + 1 + 1 + 1)) := by simpa [Nat.add_assoc] using hc 5 _ rfl
        have t0 : (putCells wr g (j * 6) [.int .i64 (z), .int .i64 (z + 1), .int .i64 (z + 1 + 1), .int .i64 (z + 1 + 1 + 1), .int .i64 (z + 1 + 1 + 1 + 1), .int .i64 (z + 1 + 1 + 1 + 1 + 1)]).frozen? ⟨g, j * 6, none⟩ = false := (putCells_frozen g _ _ wr _).trans s0
        have t1 : (putCells wr g (j * 6) [.int .i64 (z), .int .i64 (z + 1), .int .i64 (z + 1 + 1), .int .i64 (z + 1 + 1 + 1), .int .i64 (z + 1 + 1 + 1 + 1), .int .i64 (z + 1 + 1 + 1 + 1 + 1)]).frozen? ⟨g, j * 6 + 1, none⟩ = false := (putCells_frozen g _ _ wr _).trans s1
        have t2 : (putCells wr g (j * 6) [.int .i64 (z), .int .i64 (z + 1), .int .i64 (z + 1 + 1), .int .i64 (z + 1 + 1 + 1), .int .i64 (z + 1 + 1 + 1 + 1), .int .i64 (z + 1 + 1 + 1 + 1 + 1)]).frozen? ⟨g, j * 6 + 2, none⟩ = false := (putCells_frozen g _ _ wr _).trans s2
        have t3 : (putCells wr g (j * 6) [.int .i64 (z), .int .i64 (z + 1), .int .i64 (z + 1 + 1), .int .i64 (z + 1 + 1 + 1), .int .i64 (z + 1 + 1 + 1 + 1), .int .i64 (z + 1 + 1 + 1 + 1 + 1)]).frozen? ⟨g, j * 6 + 3, none⟩ = false := (putCells_frozen g _ _ wr _).trans s3
        have t4 : (putCells wr g (j * 6) [.int .i64 (z), .int .i64 (z + 1), .int .i64 (z + 1 + 1), .int .i64 (z + 1 + 1 + 1), .int .i64 (z + 1 + 1 + 1 + 1), .int .i64 (z + 1 + 1 + 1 + 1 + 1)]).frozen? ⟨g, j * 6 + 4, none⟩ = false := (putCells_frozen g _ _ wr _).trans s4
        have t5 : (putCells wr g (j * 6) [.int .i64 (z), .int .i64 (z + 1), .int .i64 (z + 1 + 1), .int .i64 (z + 1 + 1 + 1), .int .i64 (z + 1 + 1 + 1 + 1), .int .i64 (z + 1 + 1 + 1 + 1 + 1)]).frozen? ⟨g, j * 6 + 5, none⟩ = false := (putCells_frozen g _ _ wr _).trans s5
        have HU1 := Lib.hid (HU0.out.trans (Upd.put wr (Sf j) (g := g) (o := j * 6) (cs := [.int .i64 (z), .int .i64 (z + 1), .int .i64 (z + 1 + 1), .int .i64 (z + 1 + 1 + 1), .int .i64 (z + 1 + 1 + 1 + 1), .int .i64 (z + 1 + 1 + 1 + 1 + 1)]) ⟨by omega, by first | (simp; done) | (simp; omega)⟩))
        have HF1 := Lib.hid (HF0.out.trans ((putCells_off g [.int .i64 (z), .int .i64 (z + 1), .int .i64 (z + 1 + 1), .int .i64 (z + 1 + 1 + 1), .int .i64 (z + 1 + 1 + 1 + 1), .int .i64 (z + 1 + 1 + 1 + 1 + 1)] wr (j * 6)).more (fun x e => by rw [e]; exact HM2.out.row.own)))
        clear hc
        have hcf : CellsAt (putCells wr g (j * 6) [.int .i64 (z), .int .i64 (z + 1), .int .i64 (z + 1 + 1), .int .i64 (z + 1 + 1 + 1), .int .i64 (z + 1 + 1 + 1 + 1), .int .i64 (z + 1 + 1 + 1 + 1 + 1)]) g (j * 6) [.int .i64 (z), .int .i64 (z + 1), .int .i64 (z + 1 + 1), .int .i64 (z + 1 + 1 + 1), .int .i64 (z + 1 + 1 + 1 + 1), .int .i64 (z + 1 + 1 + 1 + 1 + 1)] := CellsAt.cons.2 ⟨d0, CellsAt.cons.2 ⟨d1, CellsAt.cons.2 ⟨d2, CellsAt.cons.2 ⟨d3, CellsAt.cons.2 ⟨d4, CellsAt.cons.2 ⟨d5, CellsAt.nil⟩⟩⟩⟩⟩⟩
        have HSTEP := Lib.hid (HM2.out.step R_Letter_ok (w' := (putCells wr g (j * 6) [.int .i64 (z), .int .i64 (z + 1), .int .i64 (z + 1 + 1), .int .i64 (z + 1 + 1 + 1), .int .i64 (z + 1 + 1 + 1 + 1), .int .i64 (z + 1 + 1 + 1 + 1 + 1)])) (y := ((z, z + 1), (z + 1 + 1, z + 1 + 1 + 1), z + 1 + 1 + 1 + 1, z + 1 + 1 + 1 + 1 + 1)) (q' := z + 1 + 1 + 1 + 1 + 1 + 1) HSW.out HX.out HU1.out HF1.out hcf (mkow_Letter) (mmk_Letter) (by rw [hcx]; omega))
        clear d0 t0 d1 t1 d2 t2 d3 t3 d4 t4 d5 t5
        have hzb : 0 ≤ z + 1 + 1 + 1 + 1 + 1 + 1 ∧ z + 1 + 1 + 1 + 1 + 1 + 1 ≤ 4611686018427387904 := by omega
        clear hcf hcx
        go_wp2
        go_roundw
        case rel => exact ⟨j + 1, by omega, by go_num, _, _, rfl, by first | exact HSTEP.out | simpa [putCells, Nat.add_assoc, Int.add_assoc] using HSTEP.out⟩
        case measure => simp [intOf]; omega
      · obtain rfl : j = L.length := by omega
        have HR := Lib.hid (HM2.out.done HCAP.out HMAX.out)
        clear hM hSw
        go_wp2
        go_ret
        exact HR.out

/-- a struct by value, marked in its slices -/
def MarkV_Desk (L0 : List (D_Letter)) (L1 : List (D_Letter)) (L2 : List (D_Letter)) (x3 : Int) (x4 : Int) (a0 : Option Addr) (c0 : Nat) (a1 : Option Addr) (c1 : Nat) (a2 : Option Addr) (c2 : Nat) (T0 : Nat → Prop) (T1 : Nat → Prop) (T2 : Nat → Prop) (k : Int) (W : World) (e : Ending) (w' : World) : Prop := ∃ z0 z1 z2 : Int, ∃ (y0 : List (D_Letter)) (y1 : List (D_Letter)) (y2 : List (D_Letter)), e = .returned (.int .i64 z2) ∧ (y0.length = L0.length ∧ mmL R_Letter y0 k z0 ∧ z0 = k + (sumL (R_Letter).cm L0 : Nat) ∧ OwSl R_Letter w' T0 y0 a0 c0) ∧ (y1.length = L1.length ∧ mmL R_Letter y1 z0 z1 ∧ z1 = z0 + (sumL (R_Letter).cm L1 : Nat) ∧ OwSl R_Letter w' T1 y1 a1 c1) ∧ (y2.length = L2.length ∧ mmL R_Letter y2 z1 z2 ∧ z2 = z1 + (sumL (R_Letter).cm L2 : Nat) ∧ OwSl R_Letter w' T2 y2 a2 c2) ∧ Off (fun q => T0 q ∨ T1 q ∨ T2 q) W w'
set_option maxRecDepth 100000 in
set_option maxHeartbeats 1600000 in
theorem mark_Desk {L0 : List (D_Letter)} {L1 : List (D_Letter)} {L2 : List (D_Letter)} {x3 : Int} {x4 : Int} {a0 : Option Addr} {c0 : Nat} {a1 : Option Addr} {c1 : Nat} {a2 : Option Addr} {c2 : Nat} {W : World} {T0 : Nat → Prop} {T1 : Nat → Prop} {T2 : Nat → Prop} {k : Int} (h0 : 0 ≤ k) (h1 : k + (sumL (R_Letter).cm L0 : Nat) + (sumL (R_Letter).cm L1 : Nat) + (sumL (R_Letter).cm L2 : Nat) ≤ 4611686018427387904) (hS0 : ∀ q, T0 q → q < W.heap.size) (hS1 : ∀ q, T1 q → q < W.heap.size) (hS2 : ∀ q, T2 q → q < W.heap.size) (hd0_1 : ∀ q, T0 q → T1 q → False) (hd0_2 : ∀ q, T0 q → T2 q → False) (hd1_2 : ∀ q, T1 q → T2 q → False) (h_L0 : OwSl R_Letter W T0 L0 a0 c0) (h_L1 : OwSl R_Letter W T1 L1 a1 c1) (h_L2 : OwSl R_Letter W T2 L2 a2 c2) : Calls Tryd.prog 45 #[.agg #[.slice a0 L0.length c0, .slice a1 L1.length c1, .slice a2 L2.length c2, .int .i64 x3, .int .i64 x4], .int .i64 k] W (MarkV_Desk L0 L1 L2 x3 x4 a0 c0 a1 c1 a2 c2 T0 T1 T2 k W) := by
  have HOFF0 := Lib.hid (show Off (fun q => T0 q ∨ T1 q ∨ T2 q) W (W.alloc (.cells #[.slice a0 L0.length c0, .slice a1 L1.length c1, .slice a2 L2.length c2, .int .i64 x3, .int .i64 x4] 42)) from (Off.refl _ _).alloc _)
  have hP := Blk.new W 42 #[.slice a0 L0.length c0, .slice a1 L1.length c1, .slice a2 L2.length c2, .int .i64 x3, .int .i64 x4]
  have HP0 := Lib.hid hP
  have hz0 : W.heap.size < (W.alloc (.cells #[.slice a0 L0.length c0, .slice a1 L1.length c1, .slice a2 L2.length c2, .int .i64 x3, .int .i64 x4] 42)).heap.size := by simp
  clear hP
  have K_L0 := Lib.hid (OwSl.keep R_Letter_ok (W' := W.alloc (.cells #[.slice a0 L0.length c0, .slice a1 L1.length c1, .slice a2 L2.length c2, .int .i64 x3, .int .i64 x4] 42)) h_L0 (fun q hq => Below.heap_alloc _ _ _ (hS0 q hq)))
  have HS0 := Lib.hid hS0
  have K_L1 := Lib.hid (OwSl.keep R_Letter_ok (W' := W.alloc (.cells #[.slice a0 L0.length c0, .slice a1 L1.length c1, .slice a2 L2.length c2, .int .i64 x3, .int .i64 x4] 42)) h_L1 (fun q hq => Below.heap_alloc _ _ _ (hS1 q hq)))
  have HS1 := Lib.hid hS1
  have K_L2 := Lib.hid (OwSl.keep R_Letter_ok (W' := W.alloc (.cells #[.slice a0 L0.length c0, .slice a1 L1.length c1, .slice a2 L2.length c2, .int .i64 x3, .int .i64 x4] 42)) h_L2 (fun q hq => Below.heap_alloc _ _ _ (hS2 q hq)))
  have HS2 := Lib.hid hS2
  have HD0_1 := Lib.hid hd0_1
  have HD0_2 := Lib.hid hd0_2
  have HD1_2 := Lib.hid hd1_2
  clear h_L0 h_L1 h_L2 hS0 hS1 hS2 hd0_1 hd0_2 hd1_2
  go_enter Tryd.func45, Tryd.ntmps45
  have hbz : 0 ≤ k ∧ k + (sumL (R_Letter).cm L0 : Nat) ≤ 4611686018427387904 := by omega
  go_wp2_with fail
  refine (mark_LetterS (W := W.alloc (.cells #[.slice a0 L0.length c0, .slice a1 L1.length c1, .slice a2 L2.length c2, .int .i64 x3, .int .i64 x4] 42)) hbz.1 hbz.2 (fun q hq => Nat.lt_trans (HS0.out q hq) hz0) K_L0.out).mono ?_
  intro e w1 h
  obtain ⟨y0, z0, rfl, hyl, hmm, hzz, how, hoff⟩ := markR_elim h
  have HP1 := Lib.hid (Blk.off HP0.out hoff hz0 (fun hg => Nat.lt_irrefl _ (HS0.out _ hg)))
  have HOFF1 := Lib.hid (HOFF0.out.trans (hoff.more (fun q hq => Or.inl hq)))
  have hz1 : W.heap.size < w1.heap.size := Nat.lt_of_lt_of_le hz0 hoff.size
  have K_L1 := Lib.hid (K_L1.out.keep R_Letter_ok (fun q hq => hoff.block q (Nat.lt_trans (HS1.out q hq) hz0) (fun hi => HD0_1.out q hi hq)))
  have K_L2 := Lib.hid (K_L2.out.keep R_Letter_ok (fun q hq => hoff.block q (Nat.lt_trans (HS2.out q hq) hz0) (fun hi => HD0_2.out q hi hq)))
  have K_L0 := Lib.hid how
  have HMM0 := Lib.hid hmm
  have HYL0 := Lib.hid hyl
  have HZZ0 := Lib.hid hzz
  have hzn0 : 0 ≤ z0 ∧ z0 ≤ 4611686018427387904 := by omega
  clear h hyl hmm how hoff hzz hbz
  have p1_0 := HP1.out.at_ 0 rfl
  have p1_1 := HP1.out.at_ 1 rfl
  have p1_2 := HP1.out.at_ 2 rfl
  have hbz : 0 ≤ z0 ∧ z0 + (sumL (R_Letter).cm L1 : Nat) ≤ 4611686018427387904 := by have q0 := HZZ0.out; omega
  go_wp2_with fail
  refine (mark_LetterS (W := w1) hbz.1 hbz.2 (fun q hq => Nat.lt_trans (HS1.out q hq) hz1) K_L1.out).mono ?_
  intro e w2 h
  obtain ⟨y1, z1, rfl, hyl, hmm, hzz, how, hoff⟩ := markR_elim h
  have HP2 := Lib.hid (Blk.off HP1.out hoff hz1 (fun hg => Nat.lt_irrefl _ (HS1.out _ hg)))
  have HOFF2 := Lib.hid (HOFF1.out.trans (hoff.more (fun q hq => Or.inr (Or.inl hq))))
  have hz2 : W.heap.size < w2.heap.size := Nat.lt_of_lt_of_le hz1 hoff.size
  have K_L0 := Lib.hid (K_L0.out.keep R_Letter_ok (fun q hq => hoff.block q (Nat.lt_trans (HS0.out q hq) hz1) (fun hi => HD0_1.out q hq hi)))
  have K_L2 := Lib.hid (K_L2.out.keep R_Letter_ok (fun q hq => hoff.block q (Nat.lt_trans (HS2.out q hq) hz1) (fun hi => HD1_2.out q hi hq)))
  have K_L1 := Lib.hid how
  have HMM1 := Lib.hid hmm
  have HYL1 := Lib.hid hyl
  have HZZ1 := Lib.hid hzz
  have hzn1 : 0 ≤ z1 ∧ z1 ≤ 4611686018427387904 := by omega
  clear h hyl hmm how hoff hzz hbz
  have p2_0 := HP2.out.at_ 0 rfl
  have p2_1 := HP2.out.at_ 1 rfl
  have p2_2 := HP2.out.at_ 2 rfl
  have hbz : 0 ≤ z1 ∧ z1 + (sumL (R_Letter).cm L2 : Nat) ≤ 4611686018427387904 := by have q0 := HZZ0.out; have q1 := HZZ1.out; omega
  go_wp2_with fail
  refine (mark_LetterS (W := w2) hbz.1 hbz.2 (fun q hq => Nat.lt_trans (HS2.out q hq) hz2) K_L2.out).mono ?_
  intro e w3 h
  obtain ⟨y2, z2, rfl, hyl, hmm, hzz, how, hoff⟩ := markR_elim h
  have HP3 := Lib.hid (Blk.off HP2.out hoff hz2 (fun hg => Nat.lt_irrefl _ (HS2.out _ hg)))
  have HOFF3 := Lib.hid (HOFF2.out.trans (hoff.more (fun q hq => Or.inr (Or.inr (hq)))))
  have hz3 : W.heap.size < w3.heap.size := Nat.lt_of_lt_of_le hz2 hoff.size
  have K_L0 := Lib.hid (K_L0.out.keep R_Letter_ok (fun q hq => hoff.block q (Nat.lt_trans (HS0.out q hq) hz2) (fun hi => HD0_2.out q hq hi)))
  have K_L1 := Lib.hid (K_L1.out.keep R_Letter_ok (fun q hq => hoff.block q (Nat.lt_trans (HS1.out q hq) hz2) (fun hi => HD1_2.out q hq hi)))
  have K_L2 := Lib.hid how
  have HMM2 := Lib.hid hmm
  have HYL2 := Lib.hid hyl
  have HZZ2 := Lib.hid hzz
  have hzn2 : 0 ≤ z2 ∧ z2 ≤ 4611686018427387904 := by omega
  clear h hyl hmm how hoff hzz hbz
  have p3_0 := HP3.out.at_ 0 rfl
  have p3_1 := HP3.out.at_ 1 rfl
  have p3_2 := HP3.out.at_ 2 rfl
  go_wp2
  go_ret
  exact ⟨z0, z1, z2, y0, y1, y2, rfl, ⟨HYL0.out, HMM0.out, HZZ0.out, K_L0.out⟩, ⟨HYL1.out, HMM1.out, HZZ1.out, K_L1.out⟩, ⟨HYL2.out, HMM2.out, HZZ2.out, K_L2.out⟩, HOFF3.out⟩


theorem sizh_LetterS : (R_Letter).size = 6 := rfl
set_option maxRecDepth 100000 in
set_option maxHeartbeats 1600000 in
theorem held_LetterS {L : List (D_Letter)} {a : Option Addr} {cap : Nat} {W : World} {k k' : Int} (h0 : 0 ≤ k) (h1 : k' ≤ 4611686018427387904) (hm : mmL R_Letter L k k') (h : RdSl R_Letter W W.heap.size L a cap) : Calls Tryd.prog 94 #[.slice a L.length cap, .int .i64 k] W (HeldC k' W) := by
  have hn : L.length ≤ 9223372036854775807 := by have h1 := h.1; have h2 := h.2.1; unfold maxLen at h2; omega
  have H := Lib.hid h
  have HM := Lib.hid hm
  clear h hm
  go_enter Tryd.func94, Tryd.ntmps94
  go_wp2
  go_loopw [5, 1] (fun i q wr => ∃ j : Nat, j ≤ L.length ∧ i = .int .i64 j ∧ (∃ z : Int, q = .int .i64 z ∧ 0 ≤ z ∧ mmL R_Letter (L.drop j) z k') ∧ Below W.heap.size W wr) (fun i _ _ => L.length - (intOf i).toNat)
  case atStart => exact ⟨0, Nat.zero_le _, rfl, ⟨k, rfl, h0, HM.out⟩, Below.refl _ _⟩
  case round =>
    obtain ⟨j, hj, rfl, ⟨z, rfl, hz, hmz⟩, hB⟩ := hrel
    have HB := Lib.hid hB
    have hsz := hB.size
    by_cases hlt : j < L.length
    · obtain ⟨⟨⟨x0, x1⟩, ⟨x2, x3⟩, x4, x5⟩, hx⟩ := el_some hlt
      obtain ⟨k1, hxm, hmn⟩ := mmL_drop hx hmz
      have hzb := mmL_le R_Letter_mn hmn
      have hxb := R_Letter_mn _ _ _ hxm
      obtain ⟨g, o, us, rfl, hg, hu, hr⟩ := (H.out.below R_Letter_ok hB).at_ hx
      have HMN := Lib.hid hmn
      have hi0 : (0 : Int) ≤ (j : Int) := Int.natCast_nonneg _
      have hi1 : (j : Int) < (L.length : Int) := by omega
      obtain rfl := rd_Letter hr
      obtain ⟨rfl, rfl, rfl, rfl, rfl, rfl, hk1⟩ := mme_Letter hxm
      have e0 := cells_at hu 0 rfl
      have e1 := cells_at hu 1 rfl
      have e2 := cells_at hu 2 rfl
      have e3 := cells_at hu 3 rfl
      have e4 := cells_at hu 4 rfl
      have e5 := cells_at hu 5 rfl
      simp only [sizh_LetterS] at e0 e1 e2 e3 e4 e5
      simp only [← Nat.add_assoc, Nat.add_zero] at e0 e1 e2 e3 e4 e5
      have hfin : k1 ≤ 4611686018427387904 := by omega
      have HK1 := Lib.hid hk1
      clear hB hx hu hmz hmn hxm
      have HB2 := Lib.hid HB.out
      go_wp2
      go_roundw
      case rel => exact ⟨j + 1, by omega, by go_num, ⟨_, rfl, by omega, by rw [← HK1.out]; exact HMN.out⟩, HB2.out⟩
      case measure => simp [intOf]; omega
    · obtain rfl : j = L.length := by omega
      have HE := Lib.hid (mmL_end hmz)
      clear hmz hB
      go_wp2
      go_ret
      exact ⟨by rw [HE.out]; rfl, HB.out⟩

set_option maxRecDepth 100000 in
set_option maxHeartbeats 1600000 in
theorem held_Desk {L0 : List (D_Letter)} {L1 : List (D_Letter)} {L2 : List (D_Letter)} {x3 : Int} {x4 : Int} {a0 : Option Addr} {c0 : Nat} {a1 : Option Addr} {c1 : Nat} {a2 : Option Addr} {c2 : Nat} {W : World} {k : Int} {z0 : Int} {z1 : Int} {z2 : Int} (h0 : 0 ≤ k) (h1 : z2 ≤ 4611686018427387904) (hm0 : mmL R_Letter L0 k z0) (hm1 : mmL R_Letter L1 z0 z1) (hm2 : mmL R_Letter L2 z1 z2) (h_L0 : RdSl R_Letter W W.heap.size L0 a0 c0) (h_L1 : RdSl R_Letter W W.heap.size L1 a1 c1) (h_L2 : RdSl R_Letter W W.heap.size L2 a2 c2) : Calls Tryd.prog 81 #[.agg #[.slice a0 L0.length c0, .slice a1 L1.length c1, .slice a2 L2.length c2, .int .i64 x3, .int .i64 x4], .int .i64 k] W (HeldC z2 W) := by
  have H_L0 := Lib.hid h_L0
  have H_L1 := Lib.hid h_L1
  have H_L2 := Lib.hid h_L2
  have HM0 := Lib.hid hm0
  have hl0 := mmL_le R_Letter_mn hm0
  have HM1 := Lib.hid hm1
  have hl1 := mmL_le R_Letter_mn hm1
  have HM2 := Lib.hid hm2
  have hl2 := mmL_le R_Letter_mn hm2
  clear h_L0 h_L1 h_L2 hm0 hm1 hm2
  have HB0 := Lib.hid (show Below W.heap.size W (W.alloc (.cells #[.slice a0 L0.length c0, .slice a1 L1.length c1, .slice a2 L2.length c2, .int .i64 x3, .int .i64 x4] 42)) from (Below.refl _ _).alloc (Nat.le_refl _) _)
  have hP := Blk.new W 42 #[.slice a0 L0.length c0, .slice a1 L1.length c1, .slice a2 L2.length c2, .int .i64 x3, .int .i64 x4]
  have HP0 := Lib.hid hP
  have hz0 : W.heap.size ≤ (W.alloc (.cells #[.slice a0 L0.length c0, .slice a1 L1.length c1, .slice a2 L2.length c2, .int .i64 x3, .int .i64 x4] 42)).heap.size := HB0.out.size
  clear hP
  go_enter Tryd.func81, Tryd.ntmps81
  go_wp2_with fail
  refine (held_LetterS (k := k) (k' := z0) (by omega) (by omega) HM0.out ((H_L0.out.below R_Letter_ok HB0.out).more R_Letter_ok hz0)).mono ?_
  intro e w1 h
  obtain ⟨rfl, hb⟩ := heldC_elim h
  have HP1 := Lib.hid (HP0.out.call hb)
  have HB1 := Lib.hid (HB0.out.trans (hb.mono hz0))
  have hz1 : W.heap.size ≤ w1.heap.size := HB1.out.size
  clear h hb
  have p1_0 := HP1.out.at_ 0 rfl
  have p1_1 := HP1.out.at_ 1 rfl
  have p1_2 := HP1.out.at_ 2 rfl
  have hpos0 : (0 : Int) ≤ z0 := by omega
  go_wp2_with fail
  refine (held_LetterS (k := z0) (k' := z1) (by omega) (by omega) HM1.out ((H_L1.out.below R_Letter_ok HB1.out).more R_Letter_ok hz1)).mono ?_
  intro e w2 h
  obtain ⟨rfl, hb⟩ := heldC_elim h
  have HP2 := Lib.hid (HP1.out.call hb)
  have HB2 := Lib.hid (HB1.out.trans (hb.mono hz1))
  have hz2 : W.heap.size ≤ w2.heap.size := HB2.out.size
  clear h hb
  have p2_0 := HP2.out.at_ 0 rfl
  have p2_1 := HP2.out.at_ 1 rfl
  have p2_2 := HP2.out.at_ 2 rfl
  have hpos1 : (0 : Int) ≤ z1 := by omega
  go_wp2_with fail
  refine (held_LetterS (k := z1) (k' := z2) (by omega) (by omega) HM2.out ((H_L2.out.below R_Letter_ok HB2.out).more R_Letter_ok hz2)).mono ?_
  intro e w3 h
  obtain ⟨rfl, hb⟩ := heldC_elim h
  have HP3 := Lib.hid (HP2.out.call hb)
  have HB3 := Lib.hid (HB2.out.trans (hb.mono hz2))
  have hz3 : W.heap.size ≤ w3.heap.size := HB3.out.size
  clear h hb
  have p3_0 := HP3.out.at_ 0 rfl
  have p3_1 := HP3.out.at_ 1 rfl
  have p3_2 := HP3.out.at_ 2 rfl
  have hpos2 : (0 : Int) ≤ z2 := by omega
  go_wp2
  go_ret
  exact ⟨rfl, HB3.out⟩

set_option maxRecDepth 100000 in
set_option maxHeartbeats 1600000 in
theorem mark_DeskStep {L0 : List (D_Letter)} {L1 : List (D_Letter)} {L2 : List (D_Letter)} {x3 : Int} {x4 : Int} {x5 : Int} {a0 : Option Addr} {c0 : Nat} {a1 : Option Addr} {c1 : Nat} {a2 : Option Addr} {c2 : Nat} {W : World} {T0 : Nat → Prop} {T1 : Nat → Prop} {T2 : Nat → Prop} {k : Int} (h0 : 0 ≤ k) (h1 : k + (sumL (R_Letter).cm L0 : Nat) + (sumL (R_Letter).cm L1 : Nat) + (sumL (R_Letter).cm L2 : Nat) ≤ 4611686018427387904) (hS0 : ∀ q, T0 q → q < W.heap.size) (hS1 : ∀ q, T1 q → q < W.heap.size) (hS2 : ∀ q, T2 q → q < W.heap.size) (hd0_1 : ∀ q, T0 q → T1 q → False) (hd0_2 : ∀ q, T0 q → T2 q → False) (hd1_2 : ∀ q, T1 q → T2 q → False) (h_L0 : OwSl R_Letter W T0 L0 a0 c0) (h_L1 : OwSl R_Letter W T1 L1 a1 c1) (h_L2 : OwSl R_Letter W T2 L2 a2 c2) : Calls Tryd.prog 46 #[.agg #[.slice a0 L0.length c0, .slice a1 L1.length c1, .slice a2 L2.length c2, .int .i64 x3, .int .i64 x4, .int .i64 x5], .int .i64 k] W (MarkV_Desk L0 L1 L2 x3 x4 a0 c0 a1 c1 a2 c2 T0 T1 T2 k W) := by
  have HOFF0 := Lib.hid (show Off (fun q => T0 q ∨ T1 q ∨ T2 q) W (W.alloc (.cells #[.slice a0 L0.length c0, .slice a1 L1.length c1, .slice a2 L2.length c2, .int .i64 x3, .int .i64 x4, .int .i64 x5] 46)) from (Off.refl _ _).alloc _)
  have hz0 : W.heap.size < (W.alloc (.cells #[.slice a0 L0.length c0, .slice a1 L1.length c1, .slice a2 L2.length c2, .int .i64 x3, .int .i64 x4, .int .i64 x5] 46)).heap.size := by simp
  have hP := Blk.new W 46 #[.slice a0 L0.length c0, .slice a1 L1.length c1, .slice a2 L2.length c2, .int .i64 x3, .int .i64 x4, .int .i64 x5]
  have HP0 := Lib.hid hP
  clear hP
  have K_L0 := Lib.hid (OwSl.keep R_Letter_ok (W' := W.alloc (.cells #[.slice a0 L0.length c0, .slice a1 L1.length c1, .slice a2 L2.length c2, .int .i64 x3, .int .i64 x4, .int .i64 x5] 46)) h_L0 (fun q hq => Below.heap_alloc _ _ _ (hS0 q hq)))
  have HS0 := Lib.hid hS0
  have K_L1 := Lib.hid (OwSl.keep R_Letter_ok (W' := W.alloc (.cells #[.slice a0 L0.length c0, .slice a1 L1.length c1, .slice a2 L2.length c2, .int .i64 x3, .int .i64 x4, .int .i64 x5] 46)) h_L1 (fun q hq => Below.heap_alloc _ _ _ (hS1 q hq)))
  have HS1 := Lib.hid hS1
  have K_L2 := Lib.hid (OwSl.keep R_Letter_ok (W' := W.alloc (.cells #[.slice a0 L0.length c0, .slice a1 L1.length c1, .slice a2 L2.length c2, .int .i64 x3, .int .i64 x4, .int .i64 x5] 46)) h_L2 (fun q hq => Below.heap_alloc _ _ _ (hS2 q hq)))
  have HS2 := Lib.hid hS2
  have HD0_1 := Lib.hid hd0_1
  have HD0_2 := Lib.hid hd0_2
  have HD1_2 := Lib.hid hd1_2
  clear h_L0 h_L1 h_L2 hS0 hS1 hS2 hd0_1 hd0_2 hd1_2
  go_enter Tryd.func46, Tryd.ntmps46
  go_wp2_with fail
  refine (mark_Desk (W := W.alloc (.cells #[.slice a0 L0.length c0, .slice a1 L1.length c1, .slice a2 L2.length c2, .int .i64 x3, .int .i64 x4, .int .i64 x5] 46)) h0 h1 (fun q hq => Nat.lt_trans (HS0.out q hq) hz0) (fun q hq => Nat.lt_trans (HS1.out q hq) hz0) (fun q hq => Nat.lt_trans (HS2.out q hq) hz0) HD0_1.out HD0_2.out HD1_2.out K_L0.out K_L1.out K_L2.out).mono ?_
  intro e w1 h
  obtain ⟨z0, z1, z2, y0, y1, y2, rfl, hh0, hh1, hh2, hoff⟩ := h
  have HH0 := Lib.hid hh0
  have HH1 := Lib.hid hh1
  have HH2 := Lib.hid hh2
  have HOFF1 := Lib.hid (HOFF0.out.trans hoff)
  clear hoff hh0 hh1 hh2
  go_wp2
  go_ret
  exact ⟨z0, z1, z2, y0, y1, y2, rfl, HH0.out, HH1.out, HH2.out, HOFF1.out⟩
set_option maxRecDepth 100000 in
set_option maxHeartbeats 1600000 in
theorem held_DeskStep {L0 : List (D_Letter)} {L1 : List (D_Letter)} {L2 : List (D_Letter)} {x3 : Int} {x4 : Int} {x5 : Int} {a0 : Option Addr} {c0 : Nat} {a1 : Option Addr} {c1 : Nat} {a2 : Option Addr} {c2 : Nat} {W : World} {k : Int} {z0 : Int} {z1 : Int} {z2 : Int} (h0 : 0 ≤ k) (h1 : z2 ≤ 4611686018427387904) (hm0 : mmL R_Letter L0 k z0) (hm1 : mmL R_Letter L1 z0 z1) (hm2 : mmL R_Letter L2 z1 z2) (h_L0 : RdSl R_Letter W W.heap.size L0 a0 c0) (h_L1 : RdSl R_Letter W W.heap.size L1 a1 c1) (h_L2 : RdSl R_Letter W W.heap.size L2 a2 c2) : Calls Tryd.prog 47 #[.agg #[.slice a0 L0.length c0, .slice a1 L1.length c1, .slice a2 L2.length c2, .int .i64 x3, .int .i64 x4, .int .i64 x5], .int .i64 k] W (HeldC z2 W) := by
  have HM0 := Lib.hid hm0
  have hl0 := mmL_le R_Letter_mn hm0
  have H_L0 := Lib.hid h_L0
  have HM1 := Lib.hid hm1
  have hl1 := mmL_le R_Letter_mn hm1
  have H_L1 := Lib.hid h_L1
  have HM2 := Lib.hid hm2
  have hl2 := mmL_le R_Letter_mn hm2
  have H_L2 := Lib.hid h_L2
  clear h_L0 h_L1 h_L2 hm0 hm1 hm2
  have HB0 := Lib.hid (show Below W.heap.size W (W.alloc (.cells #[.slice a0 L0.length c0, .slice a1 L1.length c1, .slice a2 L2.length c2, .int .i64 x3, .int .i64 x4, .int .i64 x5] 46)) from (Below.refl _ _).alloc (Nat.le_refl _) _)
  have hP := Blk.new W 46 #[.slice a0 L0.length c0, .slice a1 L1.length c1, .slice a2 L2.length c2, .int .i64 x3, .int .i64 x4, .int .i64 x5]
  have HP0 := Lib.hid hP
  have hz0 : W.heap.size ≤ (W.alloc (.cells #[.slice a0 L0.length c0, .slice a1 L1.length c1, .slice a2 L2.length c2, .int .i64 x3, .int .i64 x4, .int .i64 x5] 46)).heap.size := HB0.out.size
  clear hP
  go_enter Tryd.func47, Tryd.ntmps47
  go_wp2_with fail
  refine (held_Desk (k := k) h0 h1 HM0.out HM1.out HM2.out ((H_L0.out.below R_Letter_ok HB0.out).more R_Letter_ok hz0) ((H_L1.out.below R_Letter_ok HB0.out).more R_Letter_ok hz0) ((H_L2.out.below R_Letter_ok HB0.out).more R_Letter_ok hz0)).mono ?_
  intro e w1 h
  obtain ⟨rfl, hb⟩ := heldC_elim h
  have HB1 := Lib.hid (HB0.out.trans (hb.mono hz0))
  have hpos : (0 : Int) ≤ z2 := by omega
  clear h hb
  go_wp2
  go_ret
  exact ⟨rfl, HB1.out⟩

end Go.Proofs.YtknifggpodhhdaaDoor.RepC
