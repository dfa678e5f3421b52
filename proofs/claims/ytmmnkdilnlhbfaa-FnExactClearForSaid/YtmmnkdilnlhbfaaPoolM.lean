/- The laws' data: contracts. -/
import Derived.Test.YtmmnkdilnlhbfaaPoolT
namespace Go.Proofs.Ytmmnkdilnlhbfaa.RepC
open Go.RowKit RowC ValC
set_option linter.unusedVariables false
set_option linter.unusedSimpArgs false


theorem sizm_LabelS : (R_Label).size = 2 := rfl
set_option maxRecDepth 100000 in
set_option maxHeartbeats 3200000 in
theorem mark_LabelS {L : List (D_Label)} {a : Option Addr} {cap : Nat} {W : World} {S : Nat → Prop} {k : Int} (h0 : 0 ≤ k) (h1 : k + (sumL (R_Label).cm L : Nat) ≤ 4611686018427387904) (hS : ∀ i, S i → i < W.heap.size) (h : OwSl R_Label W S L a cap) : Calls Try.prog 92 #[.slice a L.length cap, .int .i64 k] W (MarkR R_Label S L a cap k W) := by
  have hcap := h.1
  have hmax := h.2.1
  have hn : L.length ≤ 9223372036854775807 := by have h2 := h.2.1; unfold maxLen at h2; omega
  have H := Lib.hid h
  have HCAP := Lib.hid hcap
  have HMAX := Lib.hid hmax
  clear h hcap hmax
  rcases Nat.eq_zero_or_pos L.length with hz | hpos
  · have HR := Lib.hid (MarkR.none_ (k := k) H.out hz)
    have HZ := Lib.hid hz
    rw [hz]
    clear hz
    go_enter Try.func92, Try.ntmps92
    go_wp2
    go_loopw [5, 1] (fun i q wr => i = .int .i64 0 ∧ q = .int .i64 k ∧ wr = W) (fun i _ _ => 0)
    case atStart => exact ⟨rfl, rfl, rfl⟩
    case round =>
      obtain ⟨rfl, rfl, rfl⟩ := hrel
      go_wp2
      go_ret
      exact HR.out
  · obtain ⟨g, Sf, rfl, hrow⟩ := H.out.row hpos
    have HM := Lib.hid (Mkd.start (k := k) hrow)
    clear hrow
    go_enter Try.func92, Try.ntmps92
    go_wp2
    go_loopw [5, 1] (fun i q wr => ∃ j : Nat, j ≤ L.length ∧ i = .int .i64 j ∧ ∃ (M : List (D_Label)) (z : Int), q = .int .i64 z ∧ Mkd R_Label W wr S L g Sf k z j M) (fun i _ _ => L.length - (intOf i).toNat)
    case atStart => exact ⟨0, Nat.zero_le _, rfl, _, _, rfl, HM.out⟩
    case round =>
      obtain ⟨j, hj, rfl, M, z, rfl, hM⟩ := hrel
      have HM2 := Lib.hid hM
      have hSw : ∀ i, S i → i < wr.heap.size := fun i hi => Nat.lt_of_lt_of_le (hS i hi) hM.off.size
      have HSW := Lib.hid hSw
      by_cases hlt : j < L.length
      · obtain ⟨⟨x0, x1⟩, hx⟩ := el_some hlt
        have HX := Lib.hid hx
        have hcm := sumL_take (R_Label).cm hx
        have hle := sumL_take_le (R_Label).cm L (j + 1)
        have hnum := hM.num
        obtain ⟨us, hu, hr⟩ := hM.el hx
        obtain rfl := ow0_Label hr
        have hgl : g < wr.heap.size := hSw g hM.row.own
        have hi0 : (0 : Int) ≤ (j : Int) := Int.natCast_nonneg _
        have hi1 : (j : Int) < (L.length : Int) := by omega
        have hz0 : 0 ≤ z := by omega
        have e0 : wr.cell? ⟨g, j * 2, none⟩ = some (.int .i64 x0) := by simpa [sizm_LabelS, Nat.add_assoc] using hu 0 _ rfl
        have e1 : wr.cell? ⟨g, j * 2 + 1, none⟩ = some (.int .i64 x1) := by simpa [sizm_LabelS, Nat.add_assoc] using hu 1 _ rfl
        have s0 := hM.row.soft (j * 2)
        have s1 := hM.row.soft (j * 2 + 1)
        have hcx : R_Label.cm (x0, x1) = 2 := by first | (simp only [R_Label, Pr, I, atom, Sl]; done) | (simp only [R_Label, Pr, I, atom, Sl]; omega)
        rw [hcm, hcx] at hle
        have hb1 : z + ((2 : Nat) : Int) ≤ 4611686018427387904 := by omega
        have hne : ¬ Sf j g := fun hg => (HM2.out.row.sub j g hg).2 rfl
        have HU0 := Lib.hid (Upd.refl wr g (j * 2) ((j + 1) * 2) (Sf j))
        have HF0 := Lib.hid (Off.refl S wr)
        clear hM hSw hx hu hcm hle hnum
        have hc := putCells_cells g [.int .i64 (z), .int .i64 (z + 1)] wr (j * 2) (fun p hp => by
          match p, hp with
          | 0, _ => exact ⟨_, by simpa [Nat.add_assoc] using e0⟩
          | 1, _ => exact ⟨_, by simpa [Nat.add_assoc] using e1⟩
          | _ + 2, hp => simp at hp; omega)
        have d0 : (putCells wr g (j * 2) [.int .i64 (z), .int .i64 (z + 1)]).cell? ⟨g, j * 2, none⟩ = some (.int .i64 (z)) := by simpa [Nat.add_assoc] using hc 0 _ rfl
        have d1 : (putCells wr g (j * 2) [.int .i64 (z), .int .i64 (z + 1)]).cell? ⟨g, j * 2 + 1, none⟩ = some (.int .i64 (z + 1)) := by simpa [Nat.add_assoc] using hc 1 _ rfl
        have t0 : (putCells wr g (j * 2) [.int .i64 (z), .int .i64 (z + 1)]).frozen? ⟨g, j * 2, none⟩ = false := (putCells_frozen g _ _ wr _).trans s0
        have t1 : (putCells wr g (j * 2) [.int .i64 (z), .int .i64 (z + 1)]).frozen? ⟨g, j * 2 + 1, none⟩ = false := (putCells_frozen g _ _ wr _).trans s1
        have HU1 := Lib.hid (HU0.out.trans (Upd.put wr (Sf j) (g := g) (o := j * 2) (cs := [.int .i64 (z), .int .i64 (z + 1)]) ⟨by omega, by first | (simp; done) | (simp; omega)⟩))
        have HF1 := Lib.hid (HF0.out.trans ((putCells_off g [.int .i64 (z), .int .i64 (z + 1)] wr (j * 2)).more (fun x e => by rw [e]; exact HM2.out.row.own)))
        clear hc
        have hcf : CellsAt (putCells wr g (j * 2) [.int .i64 (z), .int .i64 (z + 1)]) g (j * 2) [.int .i64 (z), .int .i64 (z + 1)] := CellsAt.cons.2 ⟨d0, CellsAt.cons.2 ⟨d1, CellsAt.nil⟩⟩
        have HSTEP := Lib.hid (HM2.out.step R_Label_ok (w' := (putCells wr g (j * 2) [.int .i64 (z), .int .i64 (z + 1)])) (y := (z, z + 1)) (q' := z + 1 + 1) HSW.out HX.out HU1.out HF1.out hcf (mkow_Label) (mmk_Label) (by rw [hcx]; omega))
        clear d0 t0 d1 t1
        have hzb : 0 ≤ z + 1 + 1 ∧ z + 1 + 1 ≤ 4611686018427387904 := by omega
        clear hcf hcx
        go_wp2
        go_roundw
        case rel => exact ⟨j + 1, by omega, by go_num, _, _, rfl, by first | exact HSTEP.out | simpa [putCells, Nat.add_assoc, Int.add_assoc] using HSTEP.out⟩
        case measure => simp [intOf]; omega
      · obtain rfl : j = L.length := by omega
        have HR := Lib.hid (HM2.out.done HCAP.out HMAX.out)
        clear hM hSw
        go_wp2
        go_ret
        exact HR.out


theorem sizm_LabelSS : ((Sl R_Label)).size = 1 := rfl
set_option maxRecDepth 100000 in
set_option maxHeartbeats 3200000 in
theorem mark_LabelSS {L : List (List (D_Label))} {a : Option Addr} {cap : Nat} {W : World} {S : Nat → Prop} {k : Int} (h0 : 0 ≤ k) (h1 : k + (sumL ((Sl R_Label)).cm L : Nat) ≤ 4611686018427387904) (hS : ∀ i, S i → i < W.heap.size) (h : OwSl (Sl R_Label) W S L a cap) : Calls Try.prog 51 #[.slice a L.length cap, .int .i64 k] W (MarkR (Sl R_Label) S L a cap k W) := by
  have hcap := h.1
  have hmax := h.2.1
  have hn : L.length ≤ 9223372036854775807 := by have h2 := h.2.1; unfold maxLen at h2; omega
  have H := Lib.hid h
  have HCAP := Lib.hid hcap
  have HMAX := Lib.hid hmax
  clear h hcap hmax
  rcases Nat.eq_zero_or_pos L.length with hz | hpos
  · have HR := Lib.hid (MarkR.none_ (k := k) H.out hz)
    have HZ := Lib.hid hz
    rw [hz]
    clear hz
    go_enter Try.func51, Try.ntmps51
    go_wp2
    go_loopw [5, 1] (fun i q wr => i = .int .i64 0 ∧ q = .int .i64 k ∧ wr = W) (fun i _ _ => 0)
    case atStart => exact ⟨rfl, rfl, rfl⟩
    case round =>
      obtain ⟨rfl, rfl, rfl⟩ := hrel
      go_wp2
      go_ret
      exact HR.out
  · obtain ⟨g, Sf, rfl, hrow⟩ := H.out.row hpos
    have HM := Lib.hid (Mkd.start (k := k) hrow)
    clear hrow
    go_enter Try.func51, Try.ntmps51
    go_wp2
    go_loopw [5, 1] (fun i q wr => ∃ j : Nat, j ≤ L.length ∧ i = .int .i64 j ∧ ∃ (M : List (List (D_Label))) (z : Int), q = .int .i64 z ∧ Mkd (Sl R_Label) W wr S L g Sf k z j M) (fun i _ _ => L.length - (intOf i).toNat)
    case atStart => exact ⟨0, Nat.zero_le _, rfl, _, _, rfl, HM.out⟩
    case round =>
      obtain ⟨j, hj, rfl, M, z, rfl, hM⟩ := hrel
      have HM2 := Lib.hid hM
      have hSw : ∀ i, S i → i < wr.heap.size := fun i hi => Nat.lt_of_lt_of_le (hS i hi) hM.off.size
      have HSW := Lib.hid hSw
      by_cases hlt : j < L.length
      · obtain ⟨x, hx⟩ := el_some hlt
        have HX := Lib.hid hx
        have hcm := sumL_take ((Sl R_Label)).cm hx
        have hle := sumL_take_le ((Sl R_Label)).cm L (j + 1)
        have hnum := hM.num
        obtain ⟨us, hu, hr⟩ := hM.el hx
        obtain ⟨a1, c1, rfl, k_x⟩ := hr
        have hgl : g < wr.heap.size := hSw g hM.row.own
        have hi0 : (0 : Int) ≤ (j : Int) := Int.natCast_nonneg _
        have hi1 : (j : Int) < (L.length : Int) := by omega
        have hz0 : 0 ≤ z := by omega
        have e0 : wr.cell? ⟨g, j, none⟩ = some (.slice a1 x.length c1) := by simpa [sizm_LabelSS] using hu 0 _ rfl
        have hcx : ((Sl R_Label)).cm x = sumL (R_Label).cm x := rfl
        have hb1 : z + (sumL (R_Label).cm x : Nat) ≤ 4611686018427387904 := by rw [hcm, hcx] at hle; omega
        have HS1 := Lib.hid (fun i (hi : Sf j i) => HSW.out i (HM2.out.row.sub j i hi).1)
        have HK := Lib.hid k_x
        have HE0 := Lib.hid e0
        clear hM hSw hx hu hcm hle hnum k_x
        go_wp2_with fail
        refine (mark_LabelS hz0 hb1 HS1.out HK.out).mono ?_
        intro e w1 h
        obtain ⟨y, z1, rfl, hyl, hmm, hz1, how, hoff⟩ := markR_elim h
        have hne : ¬ Sf j g := fun hg => (HM2.out.row.sub j g hg).2 rfl
        have HSTEP := Lib.hid (HM2.out.step (Sl_ok R_Label_ok) (w' := w1) (y := y) (us := [.slice a1 y.length c1]) (q' := z1) HSW.out HX.out (Upd.off hoff hgl hne) (hoff.more (fun i hi => (HM2.out.row.sub j i hi).1)) (CellsAt.cons.2 ⟨by rw [hyl]; exact (World.cell?_of_block (a := ⟨g, _, none⟩) (hoff.block g hgl hne)).trans (by simpa [sizm_LabelSS] using HE0.out), CellsAt.nil⟩) ⟨a1, c1, rfl, how⟩ hmm hz1)
        have hz2 : z1 ≤ 4611686018427387904 := by omega
        clear h hyl hmm how hoff hne hz1
        go_wp2
        go_roundw
        case rel => exact ⟨j + 1, by omega, by go_num, _, _, rfl, HSTEP.out⟩
        case measure => simp [intOf]; omega
      · obtain rfl : j = L.length := by omega
        have HR := Lib.hid (HM2.out.done HCAP.out HMAX.out)
        clear hM hSw
        go_wp2
        go_ret
        exact HR.out

/-- a struct by value, marked in its slices -/
def MarkV_Pool (L0 : List (List (D_Label))) (L1 : List (D_Job)) (x2 : Int) (a0 : Option Addr) (c0 : Nat) (a1 : Option Addr) (c1 : Nat) (T0 : Nat → Prop) (T1 : Nat → Prop) (k : Int) (W : World) (e : Ending) (w' : World) : Prop := ∃ z0 z1 : Int, ∃ (y0 : List (List (D_Label))) (y1 : List (D_Job)), e = .returned (.int .i64 z1) ∧ (y0.length = L0.length ∧ mmL (Sl R_Label) y0 k z0 ∧ z0 = k + (sumL ((Sl R_Label)).cm L0 : Nat) ∧ OwSl (Sl R_Label) w' T0 y0 a0 c0) ∧ (y1.length = L1.length ∧ mmL R_Job y1 z0 z1 ∧ z1 = z0 + (sumL (R_Job).cm L1 : Nat) ∧ OwSl R_Job w' T1 y1 a1 c1) ∧ Off (fun q => T0 q ∨ T1 q) W w'
theorem sizh_LabelS : (R_Label).size = 2 := rfl
theorem sizh_LabelSS : ((Sl R_Label)).size = 1 := rfl
theorem sizh_JobS : (R_Job).size = 9 := rfl
end Go.Proofs.Ytmmnkdilnlhbfaa.RepC
