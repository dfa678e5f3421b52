/- The laws' data: contracts. -/
import Derived.Test.YtmmnkdilnlhbfaaCfT
import Derived.Test.YtmmnkdilnlhbfaaPoolM
namespace Go.Proofs.Ytmmnkdilnlhbfaa.RepC
open Go.RowKit RowC ValC
set_option linter.unusedVariables false
set_option linter.unusedSimpArgs false


theorem sizm_PairS : (R_Pair).size = 5 := rfl
set_option maxRecDepth 100000 in
set_option maxHeartbeats 3200000 in
theorem mark_PairS {L : List (D_Pair)} {a : Option Addr} {cap : Nat} {W : World} {S : Nat → Prop} {k : Int} (h0 : 0 ≤ k) (h1 : k + (sumL (R_Pair).cm L : Nat) ≤ 4611686018427387904) (hS : ∀ i, S i → i < W.heap.size) (h : OwSl R_Pair W S L a cap) : Calls Try.prog 52 #[.slice a L.length cap, .int .i64 k] W (MarkR R_Pair S L a cap k W) := by
  have hcap := h.1
  have hmax := h.2.1
  have hn : L.length ≤ 9223372036854775807 := by have h2 := h.2.1; unfold maxLen at h2; omega
  have H := Lib.hid h
  have HCAP := Lib.hid hcap
  have HMAX := Lib.hid hmax
  clear h hcap hmax
  rcases Nat.eq_zero_or_pos L.length with hz | hpos
  · have HR := Lib.hid (MarkR.none_ (k := k) H.out hz)
    have HZ := Lib.hid hz
    rw [hz]
    clear hz
    go_enter Try.func52, Try.ntmps52
    go_wp2
    go_loopw [5, 1] (fun i q wr => i = .int .i64 0 ∧ q = .int .i64 k ∧ wr = W) (fun i _ _ => 0)
    case atStart => exact ⟨rfl, rfl, rfl⟩
    case round =>
      obtain ⟨rfl, rfl, rfl⟩ := hrel
      go_wp2
      go_ret
      exact HR.out
  · obtain ⟨g, Sf, rfl, hrow⟩ := H.out.row hpos
    have HM := Lib.hid (Mkd.start (k := k) hrow)
    clear hrow
    go_enter Try.func52, Try.ntmps52
    go_wp2
    go_loopw [5, 1] (fun i q wr => ∃ j : Nat, j ≤ L.length ∧ i = .int .i64 j ∧ ∃ (M : List (D_Pair)) (z : Int), q = .int .i64 z ∧ Mkd R_Pair W wr S L g Sf k z j M) (fun i _ _ => L.length - (intOf i).toNat)
    case atStart => exact ⟨0, Nat.zero_le _, rfl, _, _, rfl, HM.out⟩
    case round =>
      obtain ⟨j, hj, rfl, M, z, rfl, hM⟩ := hrel
      have HM2 := Lib.hid hM
      have hSw : ∀ i, S i → i < wr.heap.size := fun i hi => Nat.lt_of_lt_of_le (hS i hi) hM.off.size
      have HSW := Lib.hid hSw
      by_cases hlt : j < L.length
      · obtain ⟨⟨⟨x0, x1⟩, ⟨x2, x3⟩, x4⟩, hx⟩ := el_some hlt
        have HX := Lib.hid hx
        have hcm := sumL_take (R_Pair).cm hx
        have hle := sumL_take_le (R_Pair).cm L (j + 1)
        have hnum := hM.num
        obtain ⟨us, hu, hr⟩ := hM.el hx
        obtain rfl := ow0_Pair hr
        have hgl : g < wr.heap.size := hSw g hM.row.own
        have hi0 : (0 : Int) ≤ (j : Int) := Int.natCast_nonneg _
        have hi1 : (j : Int) < (L.length : Int) := by omega
        have hz0 : 0 ≤ z := by omega
        have e0 : wr.cell? ⟨g, j * 5, none⟩ = some (.int .i64 x0) := by simpa [sizm_PairS, Nat.add_assoc] using hu 0 _ rfl
        have e1 : wr.cell? ⟨g, j * 5 + 1, none⟩ = some (.int .i64 x1) := by simpa [sizm_PairS, Nat.add_assoc] using hu 1 _ rfl
        have e2 : wr.cell? ⟨g, j * 5 + 2, none⟩ = some (.int .i64 x2) := by simpa [sizm_PairS, Nat.add_assoc] using hu 2 _ rfl
        have e3 : wr.cell? ⟨g, j * 5 + 3, none⟩ = some (.int .i64 x3) := by simpa [sizm_PairS, Nat.add_assoc] using hu 3 _ rfl
        have e4 : wr.cell? ⟨g, j * 5 + 4, none⟩ = some (.int .i64 x4) := by simpa [sizm_PairS, Nat.add_assoc] using hu 4 _ rfl
        have s0 := hM.row.soft (j * 5)
        have s1 := hM.row.soft (j * 5 + 1)
        have s2 := hM.row.soft (j * 5 + 2)
        have s3 := hM.row.soft (j * 5 + 3)
        have s4 := hM.row.soft (j * 5 + 4)
        have hcx : R_Pair.cm ((x0, x1), (x2, x3), x4) = 5 := by first | (simp only [R_Pair, R_Label, R_Label, Pr, I, atom, Sl]; done) | (simp only [R_Pair, R_Label, R_Label, Pr, I, atom, Sl]; omega)
        rw [hcm, hcx] at hle
        have hb1 : z + ((5 : Nat) : Int) ≤ 4611686018427387904 := by omega
        have hne : ¬ Sf j g := fun hg => (HM2.out.row.sub j g hg).2 rfl
        have HU0 := Lib.hid (Upd.refl wr g (j * 5) ((j + 1) * 5) (Sf j))
        have HF0 := Lib.hid (Off.refl S wr)
        clear hM hSw hx hu hcm hle hnum
        have hc := putCells_cells g [.int .i64 (z), .int .i64 (z + 1), .int .i64 (z + 1 + 1), .int .i64 (z + 1 + 1 + 1), .int .i64 (z + 1 + 1 + 1 + 1)] wr (j * 5) (fun p hp => by
          match p, hp with
          | 0, _ => exact ⟨_, by simpa [Nat.add_assoc] using e0⟩
          | 1, _ => exact ⟨_, by simpa [Nat.add_assoc] using e1⟩
          | 2, _ => exact ⟨_, by simpa [Nat.add_assoc] using e2⟩
          | 3, _ => exact ⟨_, by simpa [Nat.add_assoc] using e3⟩
          | 4, _ => exact ⟨_, by simpa [Nat.add_assoc] using e4⟩
          | _ + 5, hp => simp at hp; omega)
        have d0 : (putCells wr g (j * 5) [.int .i64 (z), .int .i64 (z + 1), .int .i64 (z + 1 + 1), .int .i64 (z + 1 + 1 + 1), .int .i64 (z + 1 + 1 + 1 + 1)]).cell? ⟨g, j * 5, none⟩ = some (.int .i64 (z)) := by simpa [Nat.add_assoc] using hc 0 _ rfl
        have d1 : (putCells wr g (j * 5) [.int .i64 (z), .int .i64 (z + 1), .int .i64 (z + 1 + 1), .int .i64 (z + 1 + 1 + 1), .int .i64 (z + 1 + 1 + 1 + 1)]).cell? ⟨g, j * 5 + 1, none⟩ = some (.int .i64 (z + 1)) := by simpa [Nat.add_assoc] using hc 1 _ rfl
        have d2 : (putCells wr g (j * 5) [.int .i64 (z), .int .i64 (z + 1), .int .i64 (z + 1 + 1), .int .i64 (z + 1 + 1 + 1), .int .i64 (z + 1 + 1 + 1 + 1)]).cell? ⟨g, j * 5 + 2, none⟩ = some (.int .i64 (z + 1 + 1)) := by simpa [Nat.add_assoc] using hc 2 _ rfl
        have d3 : (putCells wr g (j * 5) [.int .i64 (z), .int .i64 (z + 1), .int .i64 (z + 1 + 1), .int .i64 (z + 1 + 1 + 1), .int .i64 (z + 1 + 1 + 1 + 1)]).cell? ⟨g, j * 5 + 3, none⟩ = some (.int .i64 (z + 1 + 1 + 1)) := by simpa [Nat.add_assoc] using hc 3 _ rfl
        have d4 : (putCells wr g (j * 5) [.int .i64 (z), .int .i64 (z + 1), .int .i64 (z + 1 + 1), .int .i64 (z + 1 + 1 + 1), .int .i64 (z + 1 + 1 + 1 + 1)]).cell? ⟨g, j * 5 + 4, none⟩ = some (.int .i64 (z + 1 + 1 + 1 + 1)) := by simpa [Nat.add_assoc] using hc 4 _ rfl
        have t0 : (putCells wr g (j * 5) [.int .i64 (z), .int .i64 (z + 1), .int .i64 (z + 1 + 1), .int .i64 (z + 1 + 1 + 1), .int .i64 (z + 1 + 1 + 1 + 1)]).frozen? ⟨g, j * 5, none⟩ = false := (putCells_frozen g _ _ wr _).trans s0
        have t1 : (putCells wr g (j * 5) [.int .i64 (z), .int .i64 (z + 1), .int .i64 (z + 1 + 1), .int .i64 (z + 1 + 1 + 1), .int .i64 (z + 1 + 1 + 1 + 1)]).frozen? ⟨g, j * 5 + 1, none⟩ = false := (putCells_frozen g _ _ wr _).trans s1
        have t2 : (putCells wr g (j * 5) [.int .i64 (z), .int .i64 (z + 1), .int .i64 (z + 1 + 1), .int .i64 (z + 1 + 1 + 1), .int .i64 (z + 1 + 1 + 1 + 1)]).frozen? ⟨g, j * 5 + 2, none⟩ = false := (putCells_frozen g _ _ wr _).trans s2
        have t3 : (putCells wr g (j * 5) [.int .i64 (z), .int .i64 (z + 1), .int .i64 (z + 1 + 1), .int .i64 (z + 1 + 1 + 1), .int .i64 (z + 1 + 1 + 1 + 1)]).frozen? ⟨g, j * 5 + 3, none⟩ = false := (putCells_frozen g _ _ wr _).trans s3
        have t4 : (putCells wr g (j * 5) [.int .i64 (z), .int .i64 (z + 1), .int .i64 (z + 1 + 1), .int .i64 (z + 1 + 1 + 1), .int .i64 (z + 1 + 1 + 1 + 1)]).frozen? ⟨g, j * 5 + 4, none⟩ = false := (putCells_frozen g _ _ wr _).trans s4
        have HU1 := Lib.hid (HU0.out.trans (Upd.put wr (Sf j) (g := g) (o := j * 5) (cs := [.int .i64 (z), .int .i64 (z + 1), .int .i64 (z + 1 + 1), .int .i64 (z + 1 + 1 + 1), .int .i64 (z + 1 + 1 + 1 + 1)]) ⟨by omega, by first | (simp; done) | (simp; omega)⟩))
        have HF1 := Lib.hid (HF0.out.trans ((putCells_off g [.int .i64 (z), .int .i64 (z + 1), .int .i64 (z + 1 + 1), .int .i64 (z + 1 + 1 + 1), .int .i64 (z + 1 + 1 + 1 + 1)] wr (j * 5)).more (fun x e => by rw [e]; exact HM2.out.row.own)))
        clear hc
        have hcf : CellsAt (putCells wr g (j * 5) [.int .i64 (z), .int .i64 (z + 1), .int .i64 (z + 1 + 1), .int .i64 (z + 1 + 1 + 1), .int .i64 (z + 1 + 1 + 1 + 1)]) g (j * 5) [.int .i64 (z), .int .i64 (z + 1), .int .i64 (z + 1 + 1), .int .i64 (z + 1 + 1 + 1), .int .i64 (z + 1 + 1 + 1 + 1)] := CellsAt.cons.2 ⟨d0, CellsAt.cons.2 ⟨d1, CellsAt.cons.2 ⟨d2, CellsAt.cons.2 ⟨d3, CellsAt.cons.2 ⟨d4, CellsAt.nil⟩⟩⟩⟩⟩
        have HSTEP := Lib.hid (HM2.out.step R_Pair_ok (w' := (putCells wr g (j * 5) [.int .i64 (z), .int .i64 (z + 1), .int .i64 (z + 1 + 1), .int .i64 (z + 1 + 1 + 1), .int .i64 (z + 1 + 1 + 1 + 1)])) (y := ((z, z + 1), (z + 1 + 1, z + 1 + 1 + 1), z + 1 + 1 + 1 + 1)) (q' := z + 1 + 1 + 1 + 1 + 1) HSW.out HX.out HU1.out HF1.out hcf (mkow_Pair) (mmk_Pair) (by rw [hcx]; omega))
        clear d0 t0 d1 t1 d2 t2 d3 t3 d4 t4
        have hzb : 0 ≤ z + 1 + 1 + 1 + 1 + 1 ∧ z + 1 + 1 + 1 + 1 + 1 ≤ 4611686018427387904 := by omega
        clear hcf hcx
        go_wp2
        go_roundw
        case rel => exact ⟨j + 1, by omega, by go_num, _, _, rfl, by first | exact HSTEP.out | simpa [putCells, Nat.add_assoc, Int.add_assoc] using HSTEP.out⟩
        case measure => simp [intOf]; omega
      · obtain rfl : j = L.length := by omega
        have HR := Lib.hid (HM2.out.done HCAP.out HMAX.out)
        clear hM hSw
        go_wp2
        go_ret
        exact HR.out


theorem sizm_QuotaS : (R_Quota).size = 3 := rfl
set_option maxRecDepth 100000 in
set_option maxHeartbeats 3200000 in
theorem mark_QuotaS {L : List (D_Quota)} {a : Option Addr} {cap : Nat} {W : World} {S : Nat → Prop} {k : Int} (h0 : 0 ≤ k) (h1 : k + (sumL (R_Quota).cm L : Nat) ≤ 4611686018427387904) (hS : ∀ i, S i → i < W.heap.size) (h : OwSl R_Quota W S L a cap) : Calls Try.prog 53 #[.slice a L.length cap, .int .i64 k] W (MarkR R_Quota S L a cap k W) := by
  have hcap := h.1
  have hmax := h.2.1
  have hn : L.length ≤ 9223372036854775807 := by have h2 := h.2.1; unfold maxLen at h2; omega
  have H := Lib.hid h
  have HCAP := Lib.hid hcap
  have HMAX := Lib.hid hmax
  clear h hcap hmax
  rcases Nat.eq_zero_or_pos L.length with hz | hpos
  · have HR := Lib.hid (MarkR.none_ (k := k) H.out hz)
    have HZ := Lib.hid hz
    rw [hz]
    clear hz
    go_enter Try.func53, Try.ntmps53
    go_wp2
    go_loopw [5, 1] (fun i q wr => i = .int .i64 0 ∧ q = .int .i64 k ∧ wr = W) (fun i _ _ => 0)
    case atStart => exact ⟨rfl, rfl, rfl⟩
    case round =>
      obtain ⟨rfl, rfl, rfl⟩ := hrel
      go_wp2
      go_ret
      exact HR.out
  · obtain ⟨g, Sf, rfl, hrow⟩ := H.out.row hpos
    have HM := Lib.hid (Mkd.start (k := k) hrow)
    clear hrow
    go_enter Try.func53, Try.ntmps53
    go_wp2
    go_loopw [5, 1] (fun i q wr => ∃ j : Nat, j ≤ L.length ∧ i = .int .i64 j ∧ ∃ (M : List (D_Quota)) (z : Int), q = .int .i64 z ∧ Mkd R_Quota W wr S L g Sf k z j M) (fun i _ _ => L.length - (intOf i).toNat)
    case atStart => exact ⟨0, Nat.zero_le _, rfl, _, _, rfl, HM.out⟩
    case round =>
      obtain ⟨j, hj, rfl, M, z, rfl, hM⟩ := hrel
      have HM2 := Lib.hid hM
      have hSw : ∀ i, S i → i < wr.heap.size := fun i hi => Nat.lt_of_lt_of_le (hS i hi) hM.off.size
      have HSW := Lib.hid hSw
      by_cases hlt : j < L.length
      · obtain ⟨⟨⟨x0, x1⟩, x2⟩, hx⟩ := el_some hlt
        have HX := Lib.hid hx
        have hcm := sumL_take (R_Quota).cm hx
        have hle := sumL_take_le (R_Quota).cm L (j + 1)
        have hnum := hM.num
        obtain ⟨us, hu, hr⟩ := hM.el hx
        obtain rfl := ow0_Quota hr
        have hgl : g < wr.heap.size := hSw g hM.row.own
        have hi0 : (0 : Int) ≤ (j : Int) := Int.natCast_nonneg _
        have hi1 : (j : Int) < (L.length : Int) := by omega
        have hz0 : 0 ≤ z := by omega
        have e0 : wr.cell? ⟨g, j * 3, none⟩ = some (.int .i64 x0) := by simpa [sizm_QuotaS, Nat.add_assoc] using hu 0 _ rfl
        have e1 : wr.cell? ⟨g, j * 3 + 1, none⟩ = some (.int .i64 x1) := by simpa [sizm_QuotaS, Nat.add_assoc] using hu 1 _ rfl
        have e2 : wr.cell? ⟨g, j * 3 + 2, none⟩ = some (.int .i64 x2) := by simpa [sizm_QuotaS, Nat.add_assoc] using hu 2 _ rfl
        have s0 := hM.row.soft (j * 3)
        have s1 := hM.row.soft (j * 3 + 1)
        have s2 := hM.row.soft (j * 3 + 2)
        have hcx : R_Quota.cm ((x0, x1), x2) = 3 := by first | (simp only [R_Quota, R_Label, Pr, I, atom, Sl]; done) | (simp only [R_Quota, R_Label, Pr, I, atom, Sl]; omega)
        rw [hcm, hcx] at hle
        have hb1 : z + ((3 : Nat) : Int) ≤ 4611686018427387904 := by omega
        have hne : ¬ Sf j g := fun hg => (HM2.out.row.sub j g hg).2 rfl
        have HU0 := Lib.hid (Upd.refl wr g (j * 3) ((j + 1) * 3) (Sf j))
        have HF0 := Lib.hid (Off.refl S wr)
        clear hM hSw hx hu hcm hle hnum
        have hc := putCells_cells g [.int .i64 (z), .int .i64 (z + 1), .int .i64 (z + 1 + 1)] wr (j * 3) (fun p hp => by
          match p, hp with
          | 0, _ => exact ⟨_, by simpa [Nat.add_assoc] using e0⟩
          | 1, _ => exact ⟨_, by simpa [Nat.add_assoc] using e1⟩
          | 2, _ => exact ⟨_, by simpa [Nat.add_assoc] using e2⟩
          | _ + 3, hp => simp at hp; omega)
        have d0 : (putCells wr g (j * 3) [.int .i64 (z), .int .i64 (z + 1), .int .i64 (z + 1 + 1)]).cell? ⟨g, j * 3, none⟩ = some (.int .i64 (z)) := by simpa [Nat.add_assoc] using hc 0 _ rfl
        have d1 : (putCells wr g (j * 3) [.int .i64 (z), .int .i64 (z + 1), .int .i64 (z + 1 + 1)]).cell? ⟨g, j * 3 + 1, none⟩ = some (.int .i64 (z + 1)) := by simpa [Nat.add_assoc] using hc 1 _ rfl
        have d2 : (putCells wr g (j * 3) [.int .i64 (z), .int .i64 (z + 1), .int .i64 (z + 1 + 1)]).cell? ⟨g, j * 3 + 2, none⟩ = some (.int .i64 (z + 1 + 1)) := by simpa [Nat.add_assoc] using hc 2 _ rfl
        have t0 : (putCells wr g (j * 3) [.int .i64 (z), .int .i64 (z + 1), .int .i64 (z + 1 + 1)]).frozen? ⟨g, j * 3, none⟩ = false := (putCells_frozen g _ _ wr _).trans s0
        have t1 : (putCells wr g (j * 3) [.int .i64 (z), .int .i64 (z + 1), .int .i64 (z + 1 + 1)]).frozen? ⟨g, j * 3 + 1, none⟩ = false := (putCells_frozen g _ _ wr _).trans s1
        have t2 : (putCells wr g (j * 3) [.int .i64 (z), .int .i64 (z + 1), .int .i64 (z + 1 + 1)]).frozen? ⟨g, j * 3 + 2, none⟩ = false := (putCells_frozen g _ _ wr _).trans s2
        have HU1 := Lib.hid (HU0.out.trans (Upd.put wr (Sf j) (g := g) (o := j * 3) (cs := [.int .i64 (z), .int .i64 (z + 1), .int .i64 (z + 1 + 1)]) ⟨by omega, by first | (simp; done) | (simp; omega)⟩))
        have HF1 := Lib.hid (HF0.out.trans ((putCells_off g [.int .i64 (z), .int .i64 (z + 1), .int .i64 (z + 1 + 1)] wr (j * 3)).more (fun x e => by rw [e]; exact HM2.out.row.own)))
        clear hc
        have hcf : CellsAt (putCells wr g (j * 3) [.int .i64 (z), .int .i64 (z + 1), .int .i64 (z + 1 + 1)]) g (j * 3) [.int .i64 (z), .int .i64 (z + 1), .int .i64 (z + 1 + 1)] := CellsAt.cons.2 ⟨d0, CellsAt.cons.2 ⟨d1, CellsAt.cons.2 ⟨d2, CellsAt.nil⟩⟩⟩
        have HSTEP := Lib.hid (HM2.out.step R_Quota_ok (w' := (putCells wr g (j * 3) [.int .i64 (z), .int .i64 (z + 1), .int .i64 (z + 1 + 1)])) (y := ((z, z + 1), z + 1 + 1)) (q' := z + 1 + 1 + 1) HSW.out HX.out HU1.out HF1.out hcf (mkow_Quota) (mmk_Quota) (by rw [hcx]; omega))
        clear d0 t0 d1 t1 d2 t2
        have hzb : 0 ≤ z + 1 + 1 + 1 ∧ z + 1 + 1 + 1 ≤ 4611686018427387904 := by omega
        clear hcf hcx
        go_wp2
        go_roundw
        case rel => exact ⟨j + 1, by omega, by go_num, _, _, rfl, by first | exact HSTEP.out | simpa [putCells, Nat.add_assoc, Int.add_assoc] using HSTEP.out⟩
        case measure => simp [intOf]; omega
      · obtain rfl : j = L.length := by omega
        have HR := Lib.hid (HM2.out.done HCAP.out HMAX.out)
        clear hM hSw
        go_wp2
        go_ret
        exact HR.out

/-- a struct by value, marked in its slices -/
def MarkV_Config (L0 : List (List (D_Label))) (L1 : List (D_Pair)) (L2 : List (D_Quota)) (x3 : Int) (a0 : Option Addr) (c0 : Nat) (a1 : Option Addr) (c1 : Nat) (a2 : Option Addr) (c2 : Nat) (T0 : Nat → Prop) (T1 : Nat → Prop) (T2 : Nat → Prop) (k : Int) (W : World) (e : Ending) (w' : World) : Prop := ∃ z0 z1 z2 : Int, ∃ (y0 : List (List (D_Label))) (y1 : List (D_Pair)) (y2 : List (D_Quota)), e = .returned (.int .i64 z2) ∧ (y0.length = L0.length ∧ mmL (Sl R_Label) y0 k z0 ∧ z0 = k + (sumL ((Sl R_Label)).cm L0 : Nat) ∧ OwSl (Sl R_Label) w' T0 y0 a0 c0) ∧ (y1.length = L1.length ∧ mmL R_Pair y1 z0 z1 ∧ z1 = z0 + (sumL (R_Pair).cm L1 : Nat) ∧ OwSl R_Pair w' T1 y1 a1 c1) ∧ (y2.length = L2.length ∧ mmL R_Quota y2 z1 z2 ∧ z2 = z1 + (sumL (R_Quota).cm L2 : Nat) ∧ OwSl R_Quota w' T2 y2 a2 c2) ∧ Off (fun q => T0 q ∨ T1 q ∨ T2 q) W w'
set_option maxRecDepth 100000 in
set_option maxHeartbeats 1600000 in
theorem mark_Config {L0 : List (List (D_Label))} {L1 : List (D_Pair)} {L2 : List (D_Quota)} {x3 : Int} {a0 : Option Addr} {c0 : Nat} {a1 : Option Addr} {c1 : Nat} {a2 : Option Addr} {c2 : Nat} {W : World} {T0 : Nat → Prop} {T1 : Nat → Prop} {T2 : Nat → Prop} {k : Int} (h0 : 0 ≤ k) (h1 : k + (sumL ((Sl R_Label)).cm L0 : Nat) + (sumL (R_Pair).cm L1 : Nat) + (sumL (R_Quota).cm L2 : Nat) ≤ 4611686018427387904) (hS0 : ∀ q, T0 q → q < W.heap.size) (hS1 : ∀ q, T1 q → q < W.heap.size) (hS2 : ∀ q, T2 q → q < W.heap.size) (hd0_1 : ∀ q, T0 q → T1 q → False) (hd0_2 : ∀ q, T0 q → T2 q → False) (hd1_2 : ∀ q, T1 q → T2 q → False) (h_L0 : OwSl (Sl R_Label) W T0 L0 a0 c0) (h_L1 : OwSl R_Pair W T1 L1 a1 c1) (h_L2 : OwSl R_Quota W T2 L2 a2 c2) : Calls Try.prog 16 #[.agg #[.slice a0 L0.length c0, .slice a1 L1.length c1, .slice a2 L2.length c2, .int .i64 x3], .int .i64 k] W (MarkV_Config L0 L1 L2 x3 a0 c0 a1 c1 a2 c2 T0 T1 T2 k W) := by
  have HOFF0 := Lib.hid (show Off (fun q => T0 q ∨ T1 q ∨ T2 q) W (W.alloc (.cells #[.slice a0 L0.length c0, .slice a1 L1.length c1, .slice a2 L2.length c2, .int .i64 x3] 36)) from (Off.refl _ _).alloc _)
  have hP := Blk.new W 36 #[.slice a0 L0.length c0, .slice a1 L1.length c1, .slice a2 L2.length c2, .int .i64 x3]
  have HP0 := Lib.hid hP
  have hz0 : W.heap.size < (W.alloc (.cells #[.slice a0 L0.length c0, .slice a1 L1.length c1, .slice a2 L2.length c2, .int .i64 x3] 36)).heap.size := by simp
  clear hP
  have K_L0 := Lib.hid (OwSl.keep (Sl_ok R_Label_ok) (W' := W.alloc (.cells #[.slice a0 L0.length c0, .slice a1 L1.length c1, .slice a2 L2.length c2, .int .i64 x3] 36)) h_L0 (fun q hq => Below.heap_alloc _ _ _ (hS0 q hq)))
  have HS0 := Lib.hid hS0
  have K_L1 := Lib.hid (OwSl.keep R_Pair_ok (W' := W.alloc (.cells #[.slice a0 L0.length c0, .slice a1 L1.length c1, .slice a2 L2.length c2, .int .i64 x3] 36)) h_L1 (fun q hq => Below.heap_alloc _ _ _ (hS1 q hq)))
  have HS1 := Lib.hid hS1
  have K_L2 := Lib.hid (OwSl.keep R_Quota_ok (W' := W.alloc (.cells #[.slice a0 L0.length c0, .slice a1 L1.length c1, .slice a2 L2.length c2, .int .i64 x3] 36)) h_L2 (fun q hq => Below.heap_alloc _ _ _ (hS2 q hq)))
  have HS2 := Lib.hid hS2
  have HD0_1 := Lib.hid hd0_1
  have HD0_2 := Lib.hid hd0_2
  have HD1_2 := Lib.hid hd1_2
  clear h_L0 h_L1 h_L2 hS0 hS1 hS2 hd0_1 hd0_2 hd1_2
  go_enter Try.func16, Try.ntmps16
  have hbz : 0 ≤ k ∧ k + (sumL ((Sl R_Label)).cm L0 : Nat) ≤ 4611686018427387904 := by omega
  go_wp2_with fail
  refine (mark_LabelSS (W := W.alloc (.cells #[.slice a0 L0.length c0, .slice a1 L1.length c1, .slice a2 L2.length c2, .int .i64 x3] 36)) hbz.1 hbz.2 (fun q hq => Nat.lt_trans (HS0.out q hq) hz0) K_L0.out).mono ?_
  intro e w1 h
  obtain ⟨y0, z0, rfl, hyl, hmm, hzz, how, hoff⟩ := markR_elim h
  have HP1 := Lib.hid (Blk.off HP0.out hoff hz0 (fun hg => Nat.lt_irrefl _ (HS0.out _ hg)))
  have HOFF1 := Lib.hid (HOFF0.out.trans (hoff.more (fun q hq => Or.inl hq)))
  have hz1 : W.heap.size < w1.heap.size := Nat.lt_of_lt_of_le hz0 hoff.size
  have K_L1 := Lib.hid (K_L1.out.keep R_Pair_ok (fun q hq => hoff.block q (Nat.lt_trans (HS1.out q hq) hz0) (fun hi => HD0_1.out q hi hq)))
  have K_L2 := Lib.hid (K_L2.out.keep R_Quota_ok (fun q hq => hoff.block q (Nat.lt_trans (HS2.out q hq) hz0) (fun hi => HD0_2.out q hi hq)))
  have K_L0 := Lib.hid how
  have HMM0 := Lib.hid hmm
  have HYL0 := Lib.hid hyl
  have HZZ0 := Lib.hid hzz
  have hzn0 : 0 ≤ z0 ∧ z0 ≤ 4611686018427387904 := by omega
  clear h hyl hmm how hoff hzz hbz
  have p1_0 := HP1.out.at_ 0 rfl
  have p1_1 := HP1.out.at_ 1 rfl
  have p1_2 := HP1.out.at_ 2 rfl
  have hbz : 0 ≤ z0 ∧ z0 + (sumL (R_Pair).cm L1 : Nat) ≤ 4611686018427387904 := by have q0 := HZZ0.out; omega
  go_wp2_with fail
  refine (mark_PairS (W := w1) hbz.1 hbz.2 (fun q hq => Nat.lt_trans (HS1.out q hq) hz1) K_L1.out).mono ?_
  intro e w2 h
  obtain ⟨y1, z1, rfl, hyl, hmm, hzz, how, hoff⟩ := markR_elim h
  have HP2 := Lib.hid (Blk.off HP1.out hoff hz1 (fun hg => Nat.lt_irrefl _ (HS1.out _ hg)))
  have HOFF2 := Lib.hid (HOFF1.out.trans (hoff.more (fun q hq => Or.inr (Or.inl hq))))
  have hz2 : W.heap.size < w2.heap.size := Nat.lt_of_lt_of_le hz1 hoff.size
  have K_L0 := Lib.hid (K_L0.out.keep (Sl_ok R_Label_ok) (fun q hq => hoff.block q (Nat.lt_trans (HS0.out q hq) hz1) (fun hi => HD0_1.out q hq hi)))
  have K_L2 := Lib.hid (K_L2.out.keep R_Quota_ok (fun q hq => hoff.block q (Nat.lt_trans (HS2.out q hq) hz1) (fun hi => HD1_2.out q hi hq)))
  have K_L1 := Lib.hid how
  have HMM1 := Lib.hid hmm
  have HYL1 := Lib.hid hyl
  have HZZ1 := Lib.hid hzz
  have hzn1 : 0 ≤ z1 ∧ z1 ≤ 4611686018427387904 := by omega
  clear h hyl hmm how hoff hzz hbz
  have p2_0 := HP2.out.at_ 0 rfl
  have p2_1 := HP2.out.at_ 1 rfl
  have p2_2 := HP2.out.at_ 2 rfl
  have hbz : 0 ≤ z1 ∧ z1 + (sumL (R_Quota).cm L2 : Nat) ≤ 4611686018427387904 := by have q0 := HZZ0.out; have q1 := HZZ1.out; omega
  go_wp2_with fail
  refine (mark_QuotaS (W := w2) hbz.1 hbz.2 (fun q hq => Nat.lt_trans (HS2.out q hq) hz2) K_L2.out).mono ?_
  intro e w3 h
  obtain ⟨y2, z2, rfl, hyl, hmm, hzz, how, hoff⟩ := markR_elim h
  have HP3 := Lib.hid (Blk.off HP2.out hoff hz2 (fun hg => Nat.lt_irrefl _ (HS2.out _ hg)))
  have HOFF3 := Lib.hid (HOFF2.out.trans (hoff.more (fun q hq => Or.inr (Or.inr (hq)))))
  have hz3 : W.heap.size < w3.heap.size := Nat.lt_of_lt_of_le hz2 hoff.size
  have K_L0 := Lib.hid (K_L0.out.keep (Sl_ok R_Label_ok) (fun q hq => hoff.block q (Nat.lt_trans (HS0.out q hq) hz2) (fun hi => HD0_2.out q hq hi)))
  have K_L1 := Lib.hid (K_L1.out.keep R_Pair_ok (fun q hq => hoff.block q (Nat.lt_trans (HS1.out q hq) hz2) (fun hi => HD1_2.out q hq hi)))
  have K_L2 := Lib.hid how
  have HMM2 := Lib.hid hmm
  have HYL2 := Lib.hid hyl
  have HZZ2 := Lib.hid hzz
  have hzn2 : 0 ≤ z2 ∧ z2 ≤ 4611686018427387904 := by omega
  clear h hyl hmm how hoff hzz hbz
  have p3_0 := HP3.out.at_ 0 rfl
  have p3_1 := HP3.out.at_ 1 rfl
  have p3_2 := HP3.out.at_ 2 rfl
  go_wp2
  go_ret
  exact ⟨z0, z1, z2, y0, y1, y2, rfl, ⟨HYL0.out, HMM0.out, HZZ0.out, K_L0.out⟩, ⟨HYL1.out, HMM1.out, HZZ1.out, K_L1.out⟩, ⟨HYL2.out, HMM2.out, HZZ2.out, K_L2.out⟩, HOFF3.out⟩


theorem sizh_PairS : (R_Pair).size = 5 := rfl
theorem sizh_QuotaS : (R_Quota).size = 3 := rfl
end Go.Proofs.Ytmmnkdilnlhbfaa.RepC
