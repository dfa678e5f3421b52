/- The laws' data: contracts. -/
import Derived.Test.YtfciojkibklkfaaNdT
namespace Go.Proofs.Ytfciojkibklkfaa.RepC
open Go.RowKit RowC ValC
set_option linter.unusedVariables false
set_option linter.unusedSimpArgs false

theorem mmk_Span {k : Int} : R_Span.mm (k, k + 1) k (k + 1 + 1) := by
  dsimp only [R_Span, Pr, I, atom, Sl]
  exact ⟨k + 1, ⟨by omega, by omega⟩, ⟨by omega, by omega⟩⟩
theorem mme_Span {k k' : Int} {x0 : Int} {x1 : Int} (h : R_Span.mm (x0, x1) k k') : x0 = k ∧ x1 = k + 1 ∧ k' = k + 1 + 1 := by
  dsimp only [R_Span, Pr, I, atom, Sl] at h
  obtain ⟨z1, h1, g1⟩ := h
  obtain ⟨e0, f0⟩ := h1
  have e0 : x0 = _ := e0
  obtain ⟨e1, f1⟩ := g1
  have e1 : x1 = _ := e1
  exact ⟨by omega, by omega, by omega⟩
theorem R_Span_mn : Mn R_Span := (Pr_mn I_mn I_mn)

theorem mmk_Node {k kk0 : Int} {L0 : List (D_Span)} (m_L0 : mmL R_Span L0 (k + 1) kk0) : R_Node.mm (k, L0) k (kk0) := by
  dsimp only [R_Node, Pr, I, atom, Sl]
  exact ⟨k + 1, ⟨by omega, by omega⟩, m_L0⟩
theorem mme_Node {k k' : Int} {x0 : Int} {L0 : List (D_Span)} (h : R_Node.mm (x0, L0) k k') : ∃ kk0, x0 = k ∧ mmL R_Span L0 (k + 1) kk0 ∧ k' = kk0 := by
  dsimp only [R_Node, Pr, I, atom, Sl] at h
  obtain ⟨z1, h1, g1⟩ := h
  obtain ⟨e0, f0⟩ := h1
  have e0 : x0 = _ := e0
  have m_L0 : mmL R_Span L0 _ _ := g1
  exact ⟨_, by omega, cast_mm m_L0 (by omega) rfl, by omega⟩
theorem R_Node_mn : Mn R_Node := (Pr_mn I_mn (Sl_mn R_Span_mn))


theorem sizm_SpanS : (R_Span).size = 2 := rfl
set_option maxRecDepth 100000 in
set_option maxHeartbeats 3200000 in
theorem mark_SpanS {L : List (D_Span)} {a : Option Addr} {cap : Nat} {W : World} {S : Nat → Prop} {k : Int} (h0 : 0 ≤ k) (h1 : k + (sumL (R_Span).cm L : Nat) ≤ 4611686018427387904) (hS : ∀ i, S i → i < W.heap.size) (h : OwSl R_Span W S L a cap) : Calls Try.prog 82 #[.slice a L.length cap, .int .i64 k] W (MarkR R_Span S L a cap k W) := by
  have hcap := h.1
  have hmax := h.2.1
  have hn : L.length ≤ 9223372036854775807 := by have h2 := h.2.1; unfold maxLen at h2; omega
  have H := Lib.hid h
  have HCAP := Lib.hid hcap
  have HMAX := Lib.hid hmax
  clear h hcap hmax
  rcases Nat.eq_zero_or_pos L.length with hz | hpos
  · have HR := Lib.hid (MarkR.none_ (k := k) H.out hz)
    have HZ := Lib.hid hz
    rw [hz]
    clear hz
    go_enter Try.func82, Try.ntmps82
    go_wp2
    go_loopw [5, 1] (fun i q wr => i = .int .i64 0 ∧ q = .int .i64 k ∧ wr = W) (fun i _ _ => 0)
    case atStart => exact ⟨rfl, rfl, rfl⟩
    case round =>
      obtain ⟨rfl, rfl, rfl⟩ := hrel
      go_wp2
      go_ret
      exact HR.out
  · obtain ⟨g, Sf, rfl, hrow⟩ := H.out.row hpos
    have HM := Lib.hid (Mkd.start (k := k) hrow)
    clear hrow
    go_enter Try.func82, Try.ntmps82
    go_wp2
    go_loopw [5, 1] (fun i q wr => ∃ j : Nat, j ≤ L.length ∧ i = .int .i64 j ∧ ∃ (M : List (D_Span)) (z : Int), q = .int .i64 z ∧ Mkd R_Span W wr S L g Sf k z j M) (fun i _ _ => L.length - (intOf i).toNat)
    case atStart => exact ⟨0, Nat.zero_le _, rfl, _, _, rfl, HM.out⟩
    case round =>
      obtain ⟨j, hj, rfl, M, z, rfl, hM⟩ := hrel
      have HM2 := Lib.hid hM
      have hSw : ∀ i, S i → i < wr.heap.size := fun i hi => Nat.lt_of_lt_of_le (hS i hi) hM.off.size
      have HSW := Lib.hid hSw
      by_cases hlt : j < L.length
      · obtain ⟨⟨x0, x1⟩, hx⟩ := el_some hlt
        have HX := Lib.hid hx
        have hcm := sumL_take (R_Span).cm hx
        have hle := sumL_take_le (R_Span).cm L (j + 1)
        have hnum := hM.num
        obtain ⟨us, hu, hr⟩ := hM.el hx
        obtain rfl := ow0_Span hr
        have hgl : g < wr.heap.size := hSw g hM.row.own
        have hi0 : (0 : Int) ≤ (j : Int) := Int.natCast_nonneg _
        have hi1 : (j : Int) < (L.length : Int) := by omega
        have hz0 : 0 ≤ z := by omega
        have e0 : wr.cell? ⟨g, j * 2, none⟩ = some (.int .i64 x0) := by simpa [sizm_SpanS, Nat.add_assoc] using hu 0 _ rfl
        have e1 : wr.cell? ⟨g, j * 2 + 1, none⟩ = some (.int .i64 x1) := by simpa [sizm_SpanS, Nat.add_assoc] using hu 1 _ rfl
        have s0 := hM.row.soft (j * 2)
        have s1 := hM.row.soft (j * 2 + 1)
        have hcx : R_Span.cm (x0, x1) = 2 := by first | (simp only [R_Span, Pr, I, atom, Sl]; done) | (simp only [R_Span, Pr, I, atom, Sl]; omega)
        rw [hcm, hcx] at hle
        have hb1 : z + ((2 : Nat) : Int) ≤ 4611686018427387904 := by omega
        have hne : ¬ Sf j g := fun hg => (HM2.out.row.sub j g hg).2 rfl
        have HU0 := Lib.hid (Upd.refl wr g (j * 2) ((j + 1) * 2) (Sf j))
        have HF0 := Lib.hid (Off.refl S wr)
        clear hM hSw hx hu hcm hle hnum
        have hc := putCells_cells g [.int .i64 (z), .int .i64 (z + 1)] wr (j * 2) (fun p hp => by
          match p, hp with
          | 0, _ => exact ⟨_, by simpa [Nat.add_assoc] using e0⟩
          | 1, _ => exact ⟨_, by simpa [Nat.add_assoc] using e1⟩
          | _ + 2, hp => first | (simp at hp; done) | (simp at hp; omega))
        have d0 : (putCells wr g (j * 2) [.int .i64 (z), .int .i64 (z + 1)]).cell? ⟨g, j * 2, none⟩ = some (.int .i64 (z)) := by simpa [Nat.add_assoc] using hc 0 _ rfl
        have d1 : (putCells wr g (j * 2) [.int .i64 (z), .int .i64 (z + 1)]).cell? ⟨g, j * 2 + 1, none⟩ = some (.int .i64 (z + 1)) := by simpa [Nat.add_assoc] using hc 1 _ rfl
        have t0 : (putCells wr g (j * 2) [.int .i64 (z), .int .i64 (z + 1)]).frozen? ⟨g, j * 2, none⟩ = false := (putCells_frozen g _ _ wr _).trans s0
        have t1 : (putCells wr g (j * 2) [.int .i64 (z), .int .i64 (z + 1)]).frozen? ⟨g, j * 2 + 1, none⟩ = false := (putCells_frozen g _ _ wr _).trans s1
        have HU1 := Lib.hid (HU0.out.trans (Upd.put wr (Sf j) (g := g) (o := j * 2) (cs := [.int .i64 (z), .int .i64 (z + 1)]) ⟨by omega, by first | (simp; done) | (simp; omega)⟩))
        have HF1 := Lib.hid (HF0.out.trans ((putCells_off g [.int .i64 (z), .int .i64 (z + 1)] wr (j * 2)).more (fun x e => by rw [e]; exact HM2.out.row.own)))
        clear hc
        have hcf : CellsAt (putCells wr g (j * 2) [.int .i64 (z), .int .i64 (z + 1)]) g (j * 2) [.int .i64 (z), .int .i64 (z + 1)] := CellsAt.cons.2 ⟨d0, CellsAt.cons.2 ⟨d1, CellsAt.nil⟩⟩
        have HSTEP := Lib.hid (HM2.out.step R_Span_ok (w' := (putCells wr g (j * 2) [.int .i64 (z), .int .i64 (z + 1)])) (y := (z, z + 1)) (q' := z + 1 + 1) HSW.out HX.out HU1.out HF1.out hcf (mkow_Span) (mmk_Span) (by rw [hcx]; omega))
        clear d0 t0 d1 t1
        have hzb : 0 ≤ z + 1 + 1 ∧ z + 1 + 1 ≤ 4611686018427387904 := by omega
        clear hcf hcx
        go_wp2
        go_roundw
        case rel => exact ⟨j + 1, by omega, by go_num, _, _, rfl, by first | exact HSTEP.out | simpa [putCells, Nat.add_assoc, Int.add_assoc] using HSTEP.out⟩
        case measure => simp [intOf]; omega
      · obtain rfl : j = L.length := by omega
        have HR := Lib.hid (HM2.out.done HCAP.out HMAX.out)
        clear hM hSw
        go_wp2
        go_ret
        exact HR.out


theorem sizm_NodeS : (R_Node).size = 2 := rfl
set_option maxRecDepth 100000 in
set_option maxHeartbeats 3200000 in
theorem mark_NodeS {L : List (D_Node)} {a : Option Addr} {cap : Nat} {W : World} {S : Nat → Prop} {k : Int} (h0 : 0 ≤ k) (h1 : k + (sumL (R_Node).cm L : Nat) ≤ 4611686018427387904) (hS : ∀ i, S i → i < W.heap.size) (h : OwSl R_Node W S L a cap) : Calls Try.prog 32 #[.slice a L.length cap, .int .i64 k] W (MarkR R_Node S L a cap k W) := by
  have hcap := h.1
  have hmax := h.2.1
  have hn : L.length ≤ 9223372036854775807 := by have h2 := h.2.1; unfold maxLen at h2; omega
  have H := Lib.hid h
  have HCAP := Lib.hid hcap
  have HMAX := Lib.hid hmax
  clear h hcap hmax
  rcases Nat.eq_zero_or_pos L.length with hz | hpos
  · have HR := Lib.hid (MarkR.none_ (k := k) H.out hz)
    have HZ := Lib.hid hz
    rw [hz]
    clear hz
    go_enter Try.func32, Try.ntmps32
    go_wp2
    go_loopw [5, 1] (fun i q wr => i = .int .i64 0 ∧ q = .int .i64 k ∧ wr = W) (fun i _ _ => 0)
    case atStart => exact ⟨rfl, rfl, rfl⟩
    case round =>
      obtain ⟨rfl, rfl, rfl⟩ := hrel
      go_wp2
      go_ret
      exact HR.out
  · obtain ⟨g, Sf, rfl, hrow⟩ := H.out.row hpos
    have HM := Lib.hid (Mkd.start (k := k) hrow)
    clear hrow
    go_enter Try.func32, Try.ntmps32
    go_wp2
    go_loopw [5, 1] (fun i q wr => ∃ j : Nat, j ≤ L.length ∧ i = .int .i64 j ∧ ∃ (M : List (D_Node)) (z : Int), q = .int .i64 z ∧ Mkd R_Node W wr S L g Sf k z j M) (fun i _ _ => L.length - (intOf i).toNat)
    case atStart => exact ⟨0, Nat.zero_le _, rfl, _, _, rfl, HM.out⟩
    case round =>
      obtain ⟨j, hj, rfl, M, z, rfl, hM⟩ := hrel
      have HM2 := Lib.hid hM
      have hSw : ∀ i, S i → i < wr.heap.size := fun i hi => Nat.lt_of_lt_of_le (hS i hi) hM.off.size
      have HSW := Lib.hid hSw
      by_cases hlt : j < L.length
      · obtain ⟨⟨x0, L0⟩, hx⟩ := el_some hlt
        have HX := Lib.hid hx
        have hcm := sumL_take (R_Node).cm hx
        have hle := sumL_take_le (R_Node).cm L (j + 1)
        have hnum := hM.num
        obtain ⟨us, hu, hr⟩ := hM.el hx
        obtain ⟨a0, c0, T0, rfl, ts0, k_L0⟩ := ow_Node hr
        have hgl : g < wr.heap.size := hSw g hM.row.own
        have hi0 : (0 : Int) ≤ (j : Int) := Int.natCast_nonneg _
        have hi1 : (j : Int) < (L.length : Int) := by omega
        have hz0 : 0 ≤ z := by omega
        have e0 : wr.cell? ⟨g, j * 2, none⟩ = some (.int .i64 x0) := by simpa [sizm_NodeS, Nat.add_assoc] using hu 0 _ rfl
        have e1 : wr.cell? ⟨g, j * 2 + 1, none⟩ = some (.slice a0 L0.length c0) := by simpa [sizm_NodeS, Nat.add_assoc] using hu 1 _ rfl
        have s0 := hM.row.soft (j * 2)
        have s1 := hM.row.soft (j * 2 + 1)
        have hcx : R_Node.cm (x0, L0) = 1 + sumL (R_Span).cm L0 := by first | (simp only [R_Node, Pr, I, atom, Sl]; done) | (simp only [R_Node, Pr, I, atom, Sl]; omega)
        rw [hcm, hcx] at hle
        have hb1 : z + ((1 + sumL (R_Span).cm L0 : Nat) : Int) ≤ 4611686018427387904 := by omega
        have hne : ¬ Sf j g := fun hg => (HM2.out.row.sub j g hg).2 rfl
        have K_L0 := Lib.hid k_L0
        have TS0 := Lib.hid ts0
        have HU0 := Lib.hid (Upd.refl wr g (j * 2) ((j + 1) * 2) (Sf j))
        have HF0 := Lib.hid (Off.refl S wr)
        clear hM hSw hx hu hcm hle hnum k_L0 ts0
        have hc := putCells_cells g [.int .i64 (z)] wr (j * 2) (fun p hp => by
          match p, hp with
          | 0, _ => exact ⟨_, by simpa [Nat.add_assoc] using e0⟩
          | _ + 1, hp => first | (simp at hp; done) | (simp at hp; omega))
        have d0 : (putCells wr g (j * 2) [.int .i64 (z)]).cell? ⟨g, j * 2, none⟩ = some (.int .i64 (z)) := by simpa [Nat.add_assoc] using hc 0 _ rfl
        have d1 : (putCells wr g (j * 2) [.int .i64 (z)]).cell? ⟨g, j * 2 + 1, none⟩ = some (.slice a0 L0.length c0) := (putCells_other g _ wr _ (by first | (simp; done) | (simp; omega))).trans e1
        have t0 : (putCells wr g (j * 2) [.int .i64 (z)]).frozen? ⟨g, j * 2, none⟩ = false := (putCells_frozen g _ _ wr _).trans s0
        have t1 : (putCells wr g (j * 2) [.int .i64 (z)]).frozen? ⟨g, j * 2 + 1, none⟩ = false := (putCells_frozen g _ _ wr _).trans s1
        have HU1 := Lib.hid (HU0.out.trans (Upd.put wr (Sf j) (g := g) (o := j * 2) (cs := [.int .i64 (z)]) ⟨by omega, by first | (simp; done) | (simp; omega)⟩))
        have HF1 := Lib.hid (HF0.out.trans ((putCells_off g [.int .i64 (z)] wr (j * 2)).more (fun x e => by rw [e]; exact HM2.out.row.own)))
        have K_L0 := Lib.hid (OwSl.keep R_Span_ok (W' := (putCells wr g (j * 2) [.int .i64 (z)])) K_L0.out (fun q hq => putCells_block g (HM2.out.row.sub j q (TS0.out q hq)).2 _ _ _))
        clear hc
        have hbz : 0 ≤ z + 1 ∧ z + 1 + (sumL (R_Span).cm L0 : Nat) ≤ 4611686018427387904 := by omega
        have D0 := Lib.hid d0
        have F0 := Lib.hid t0
        have D1 := Lib.hid d1
        have F1 := Lib.hid t1
        clear d0 t0 d1 t1
        go_wp2_with fail
        have HSi := Lib.hid (fun q (hq : T0 q) => Nat.lt_of_lt_of_le (HSW.out q (HM2.out.row.sub j q (TS0.out q hq)).1) HF1.out.size)
        refine (mark_SpanS (W := (putCells wr g (j * 2) [.int .i64 (z)])) hbz.1 hbz.2 HSi.out K_L0.out).mono ?_
        intro e w1 h
        obtain ⟨y0, z0, rfl, hyl, hmm, hzz, how, hoff⟩ := markR_elim h
        have hgg : g < (putCells wr g (j * 2) [.int .i64 (z)]).heap.size := Nat.lt_of_lt_of_le hgl HF1.out.size
        have hnT : ¬ T0 g := fun hg => hne (TS0.out g hg)
        have n0 : w1.cell? ⟨g, j * 2, none⟩ = some (.int .i64 (z)) := (World.cell?_of_block (a := ⟨g, j * 2, none⟩) (hoff.block g hgg hnT)).trans D0.out
        have n1 : w1.cell? ⟨g, j * 2 + 1, none⟩ = some (.slice a0 L0.length c0) := (World.cell?_of_block (a := ⟨g, j * 2 + 1, none⟩) (hoff.block g hgg hnT)).trans D1.out
        have m0 : w1.frozen? ⟨g, j * 2, none⟩ = false := (World.frozen?_of_block (a := ⟨g, j * 2, none⟩) (hoff.block g hgg hnT)).trans F0.out
        have m1 : w1.frozen? ⟨g, j * 2 + 1, none⟩ = false := (World.frozen?_of_block (a := ⟨g, j * 2 + 1, none⟩) (hoff.block g hgg hnT)).trans F1.out
        have HU2 := Lib.hid (HU1.out.trans (Upd.off (hoff.more TS0.out) hgg hne))
        have HF2 := Lib.hid (HF1.out.trans (hoff.more (fun q hq => (HM2.out.row.sub j q (TS0.out q hq)).1)))
        have K_L0 := Lib.hid how
        have HMM0 := Lib.hid hmm
        have HYL0 := Lib.hid hyl
        have HZZ0 := Lib.hid hzz
        have hzn0 : 0 ≤ z0 ∧ z0 ≤ 4611686018427387904 := by omega
        clear h hyl hmm how hoff hgg hnT hbz hzz HSi D0 F0 D1 F1
        have e0 := n0
        have s0 := m0
        have e1 := n1
        have s1 := m1
        clear n0 m0 n1 m1
        have hcf : CellsAt w1 g (j * 2) [.int .i64 (z), .slice a0 y0.length c0] := CellsAt.cons.2 ⟨e0, CellsAt.cons.2 ⟨by rw [HYL0.out]; exact e1, CellsAt.nil⟩⟩
        have HSTEP := Lib.hid (HM2.out.step R_Node_ok (w' := w1) (y := (z, y0)) (q' := z0) HSW.out HX.out HU2.out HF2.out hcf (mkow_Node TS0.out K_L0.out) (mmk_Node HMM0.out) (by rw [hcx]; have q0 := HZZ0.out; omega))
        have hzb : 0 ≤ z0 ∧ z0 ≤ 4611686018427387904 := by have q0 := HZZ0.out; omega
        clear hcf hcx
        go_wp2
        go_roundw
        case rel => exact ⟨j + 1, by omega, by go_num, _, _, rfl, by first | exact HSTEP.out | simpa [putCells, Nat.add_assoc, Int.add_assoc] using HSTEP.out⟩
        case measure => simp [intOf]; omega
      · obtain rfl : j = L.length := by omega
        have HR := Lib.hid (HM2.out.done HCAP.out HMAX.out)
        clear hM hSw
        go_wp2
        go_ret
        exact HR.out


theorem sizm_SpanSS : ((Sl R_Span)).size = 1 := rfl
set_option maxRecDepth 100000 in
set_option maxHeartbeats 3200000 in
theorem mark_SpanSS {L : List (List (D_Span))} {a : Option Addr} {cap : Nat} {W : World} {S : Nat → Prop} {k : Int} (h0 : 0 ≤ k) (h1 : k + (sumL ((Sl R_Span)).cm L : Nat) ≤ 4611686018427387904) (hS : ∀ i, S i → i < W.heap.size) (h : OwSl (Sl R_Span) W S L a cap) : Calls Try.prog 42 #[.slice a L.length cap, .int .i64 k] W (MarkR (Sl R_Span) S L a cap k W) := by
  have hcap := h.1
  have hmax := h.2.1
  have hn : L.length ≤ 9223372036854775807 := by have h2 := h.2.1; unfold maxLen at h2; omega
  have H := Lib.hid h
  have HCAP := Lib.hid hcap
  have HMAX := Lib.hid hmax
  clear h hcap hmax
  rcases Nat.eq_zero_or_pos L.length with hz | hpos
  · have HR := Lib.hid (MarkR.none_ (k := k) H.out hz)
    have HZ := Lib.hid hz
    rw [hz]
    clear hz
    go_enter Try.func42, Try.ntmps42
    go_wp2
    go_loopw [5, 1] (fun i q wr => i = .int .i64 0 ∧ q = .int .i64 k ∧ wr = W) (fun i _ _ => 0)
    case atStart => exact ⟨rfl, rfl, rfl⟩
    case round =>
      obtain ⟨rfl, rfl, rfl⟩ := hrel
      go_wp2
      go_ret
      exact HR.out
  · obtain ⟨g, Sf, rfl, hrow⟩ := H.out.row hpos
    have HM := Lib.hid (Mkd.start (k := k) hrow)
    clear hrow
    go_enter Try.func42, Try.ntmps42
    go_wp2
    go_loopw [5, 1] (fun i q wr => ∃ j : Nat, j ≤ L.length ∧ i = .int .i64 j ∧ ∃ (M : List (List (D_Span))) (z : Int), q = .int .i64 z ∧ Mkd (Sl R_Span) W wr S L g Sf k z j M) (fun i _ _ => L.length - (intOf i).toNat)
    case atStart => exact ⟨0, Nat.zero_le _, rfl, _, _, rfl, HM.out⟩
    case round =>
      obtain ⟨j, hj, rfl, M, z, rfl, hM⟩ := hrel
      have HM2 := Lib.hid hM
      have hSw : ∀ i, S i → i < wr.heap.size := fun i hi => Nat.lt_of_lt_of_le (hS i hi) hM.off.size
      have HSW := Lib.hid hSw
      by_cases hlt : j < L.length
      · obtain ⟨x, hx⟩ := el_some hlt
        have HX := Lib.hid hx
        have hcm := sumL_take ((Sl R_Span)).cm hx
        have hle := sumL_take_le ((Sl R_Span)).cm L (j + 1)
        have hnum := hM.num
        obtain ⟨us, hu, hr⟩ := hM.el hx
        obtain ⟨a1, c1, rfl, k_x⟩ := hr
        have hgl : g < wr.heap.size := hSw g hM.row.own
        have hi0 : (0 : Int) ≤ (j : Int) := Int.natCast_nonneg _
        have hi1 : (j : Int) < (L.length : Int) := by omega
        have hz0 : 0 ≤ z := by omega
        have e0 : wr.cell? ⟨g, j, none⟩ = some (.slice a1 x.length c1) := by simpa [sizm_SpanSS] using hu 0 _ rfl
        have hcx : ((Sl R_Span)).cm x = sumL (R_Span).cm x := rfl
        have hb1 : z + (sumL (R_Span).cm x : Nat) ≤ 4611686018427387904 := by rw [hcm, hcx] at hle; omega
        have HS1 := Lib.hid (fun i (hi : Sf j i) => HSW.out i (HM2.out.row.sub j i hi).1)
        have HK := Lib.hid k_x
        have HE0 := Lib.hid e0
        clear hM hSw hx hu hcm hle hnum k_x
        go_wp2_with fail
        refine (mark_SpanS hz0 hb1 HS1.out HK.out).mono ?_
        intro e w1 h
        obtain ⟨y, z1, rfl, hyl, hmm, hz1, how, hoff⟩ := markR_elim h
        have hne : ¬ Sf j g := fun hg => (HM2.out.row.sub j g hg).2 rfl
        have HSTEP := Lib.hid (HM2.out.step (Sl_ok R_Span_ok) (w' := w1) (y := y) (us := [.slice a1 y.length c1]) (q' := z1) HSW.out HX.out (Upd.off hoff hgl hne) (hoff.more (fun i hi => (HM2.out.row.sub j i hi).1)) (CellsAt.cons.2 ⟨by rw [hyl]; exact (World.cell?_of_block (a := ⟨g, _, none⟩) (hoff.block g hgl hne)).trans (by simpa [sizm_SpanSS] using HE0.out), CellsAt.nil⟩) ⟨a1, c1, rfl, how⟩ hmm hz1)
        have hz2 : z1 ≤ 4611686018427387904 := by omega
        clear h hyl hmm how hoff hne hz1
        go_wp2
        go_roundw
        case rel => exact ⟨j + 1, by omega, by go_num, _, _, rfl, HSTEP.out⟩
        case measure => simp [intOf]; omega
      · obtain rfl : j = L.length := by omega
        have HR := Lib.hid (HM2.out.done HCAP.out HMAX.out)
        clear hM hSw
        go_wp2
        go_ret
        exact HR.out

/-- a struct by value, marked in its slices -/
def MarkV_NodesOut (L0 : List (D_Node)) (x1 : Int) (a0 : Option Addr) (c0 : Nat) (T0 : Nat → Prop) (k : Int) (W : World) (e : Ending) (w' : World) : Prop := ∃ z0 : Int, ∃ (y0 : List (D_Node)), e = .returned (.int .i64 z0) ∧ (y0.length = L0.length ∧ mmL R_Node y0 k z0 ∧ z0 = k + (sumL (R_Node).cm L0 : Nat) ∧ OwSl R_Node w' T0 y0 a0 c0) ∧ Off (fun q => T0 q) W w'
set_option maxRecDepth 100000 in
set_option maxHeartbeats 1600000 in
theorem mark_NodesOut {L0 : List (D_Node)} {x1 : Int} {a0 : Option Addr} {c0 : Nat} {W : World} {T0 : Nat → Prop} {k : Int} (h0 : 0 ≤ k) (h1 : k + (sumL (R_Node).cm L0 : Nat) ≤ 4611686018427387904) (hS0 : ∀ q, T0 q → q < W.heap.size) (h_L0 : OwSl R_Node W T0 L0 a0 c0) : Calls Try.prog 35 #[.agg #[.slice a0 L0.length c0, .int .i64 x1], .int .i64 k] W (MarkV_NodesOut L0 x1 a0 c0 T0 k W) := by
  have HOFF0 := Lib.hid (show Off (fun q => T0 q) W (W.alloc (.cells #[.slice a0 L0.length c0, .int .i64 x1] 29)) from (Off.refl _ _).alloc _)
  have hP := Blk.new W 29 #[.slice a0 L0.length c0, .int .i64 x1]
  have HP0 := Lib.hid hP
  have hz0 : W.heap.size < (W.alloc (.cells #[.slice a0 L0.length c0, .int .i64 x1] 29)).heap.size := by simp
  clear hP
  have K_L0 := Lib.hid (OwSl.keep R_Node_ok (W' := W.alloc (.cells #[.slice a0 L0.length c0, .int .i64 x1] 29)) h_L0 (fun q hq => Below.heap_alloc _ _ _ (hS0 q hq)))
  have HS0 := Lib.hid hS0
  clear h_L0 hS0 
  go_enter Try.func35, Try.ntmps35
  have hbz : 0 ≤ k ∧ k + (sumL (R_Node).cm L0 : Nat) ≤ 4611686018427387904 := by omega
  go_wp2_with fail
  refine (mark_NodeS (W := W.alloc (.cells #[.slice a0 L0.length c0, .int .i64 x1] 29)) hbz.1 hbz.2 (fun q hq => Nat.lt_trans (HS0.out q hq) hz0) K_L0.out).mono ?_
  intro e w1 h
  obtain ⟨y0, z0, rfl, hyl, hmm, hzz, how, hoff⟩ := markR_elim h
  have HP1 := Lib.hid (Blk.off HP0.out hoff hz0 (fun hg => Nat.lt_irrefl _ (HS0.out _ hg)))
  have HOFF1 := Lib.hid (HOFF0.out.trans (hoff.more (fun q hq => hq)))
  have hz1 : W.heap.size < w1.heap.size := Nat.lt_of_lt_of_le hz0 hoff.size
  have K_L0 := Lib.hid how
  have HMM0 := Lib.hid hmm
  have HYL0 := Lib.hid hyl
  have HZZ0 := Lib.hid hzz
  have hzn0 : 0 ≤ z0 ∧ z0 ≤ 4611686018427387904 := by omega
  clear h hyl hmm how hoff hzz hbz
  have p1_0 := HP1.out.at_ 0 rfl
  go_wp2
  go_ret
  exact ⟨z0, y0, rfl, ⟨HYL0.out, HMM0.out, HZZ0.out, K_L0.out⟩, HOFF1.out⟩


theorem sizh_SpanS : (R_Span).size = 2 := rfl
set_option maxRecDepth 100000 in
set_option maxHeartbeats 1600000 in
theorem held_SpanS {L : List (D_Span)} {a : Option Addr} {cap : Nat} {W : World} {k k' : Int} (h0 : 0 ≤ k) (h1 : k' ≤ 4611686018427387904) (hm : mmL R_Span L k k') (h : RdSl R_Span W W.heap.size L a cap) : Calls Try.prog 83 #[.slice a L.length cap, .int .i64 k] W (HeldC k' W) := by
  have hn : L.length ≤ 9223372036854775807 := by have h1 := h.1; have h2 := h.2.1; unfold maxLen at h2; omega
  have H := Lib.hid h
  have HM := Lib.hid hm
  clear h hm
  go_enter Try.func83, Try.ntmps83
  go_wp2
  go_loopw [5, 1] (fun i q wr => ∃ j : Nat, j ≤ L.length ∧ i = .int .i64 j ∧ (∃ z : Int, q = .int .i64 z ∧ 0 ≤ z ∧ mmL R_Span (L.drop j) z k') ∧ Below W.heap.size W wr) (fun i _ _ => L.length - (intOf i).toNat)
  case atStart => exact ⟨0, Nat.zero_le _, rfl, ⟨k, rfl, h0, HM.out⟩, Below.refl _ _⟩
  case round =>
    obtain ⟨j, hj, rfl, ⟨z, rfl, hz, hmz⟩, hB⟩ := hrel
    have HB := Lib.hid hB
    have hsz := hB.size
    by_cases hlt : j < L.length
    · obtain ⟨⟨x0, x1⟩, hx⟩ := el_some hlt
      obtain ⟨k1, hxm, hmn⟩ := mmL_drop hx hmz
      have hzb := mmL_le R_Span_mn hmn
      have hxb := R_Span_mn _ _ _ hxm
      obtain ⟨g, o, us, rfl, hg, hu, hr⟩ := (H.out.below R_Span_ok hB).at_ hx
      have HMN := Lib.hid hmn
      have hi0 : (0 : Int) ≤ (j : Int) := Int.natCast_nonneg _
      have hi1 : (j : Int) < (L.length : Int) := by omega
      obtain rfl := rd_Span hr
      obtain ⟨rfl, rfl, hk1⟩ := mme_Span hxm
      have e0 := cells_at hu 0 rfl
      have e1 := cells_at hu 1 rfl
      simp only [sizh_SpanS] at e0 e1
      simp only [← Nat.add_assoc, Nat.add_zero] at e0 e1
      have hfin : k1 ≤ 4611686018427387904 := by omega
      have HK1 := Lib.hid hk1
      clear hB hx hu hmz hmn hxm
      have HB2 := Lib.hid HB.out
      go_wp2
      go_roundw
      case rel => exact ⟨j + 1, by omega, by go_num, ⟨_, rfl, by omega, by rw [← HK1.out]; exact HMN.out⟩, HB2.out⟩
      case measure => simp [intOf]; omega
    · obtain rfl : j = L.length := by omega
      have HE := Lib.hid (mmL_end hmz)
      clear hmz hB
      go_wp2
      go_ret
      exact ⟨by rw [HE.out]; rfl, HB.out⟩


theorem sizh_NodeS : (R_Node).size = 2 := rfl
set_option maxRecDepth 100000 in
set_option maxHeartbeats 1600000 in
theorem held_NodeS {L : List (D_Node)} {a : Option Addr} {cap : Nat} {W : World} {k k' : Int} (h0 : 0 ≤ k) (h1 : k' ≤ 4611686018427387904) (hm : mmL R_Node L k k') (h : RdSl R_Node W W.heap.size L a cap) : Calls Try.prog 33 #[.slice a L.length cap, .int .i64 k] W (HeldC k' W) := by
  have hn : L.length ≤ 9223372036854775807 := by have h1 := h.1; have h2 := h.2.1; unfold maxLen at h2; omega
  have H := Lib.hid h
  have HM := Lib.hid hm
  clear h hm
  go_enter Try.func33, Try.ntmps33
  go_wp2
  go_loopw [5, 1] (fun i q wr => ∃ j : Nat, j ≤ L.length ∧ i = .int .i64 j ∧ (∃ z : Int, q = .int .i64 z ∧ 0 ≤ z ∧ mmL R_Node (L.drop j) z k') ∧ Below W.heap.size W wr) (fun i _ _ => L.length - (intOf i).toNat)
  case atStart => exact ⟨0, Nat.zero_le _, rfl, ⟨k, rfl, h0, HM.out⟩, Below.refl _ _⟩
  case round =>
    obtain ⟨j, hj, rfl, ⟨z, rfl, hz, hmz⟩, hB⟩ := hrel
    have HB := Lib.hid hB
    have hsz := hB.size
    by_cases hlt : j < L.length
    · obtain ⟨⟨x0, L0⟩, hx⟩ := el_some hlt
      obtain ⟨k1, hxm, hmn⟩ := mmL_drop hx hmz
      have hzb := mmL_le R_Node_mn hmn
      have hxb := R_Node_mn _ _ _ hxm
      obtain ⟨g, o, us, rfl, hg, hu, hr⟩ := (H.out.below R_Node_ok hB).at_ hx
      have HMN := Lib.hid hmn
      have hi0 : (0 : Int) ≤ (j : Int) := Int.natCast_nonneg _
      have hi1 : (j : Int) < (L.length : Int) := by omega
      obtain ⟨a0, c0, rfl, k_L0⟩ := rd_Node hr
      obtain ⟨z0, rfl, m_0, hk1⟩ := mme_Node hxm
      have e0 := cells_at hu 0 rfl
      have e1 := cells_at hu 1 rfl
      simp only [sizh_NodeS] at e0 e1
      simp only [← Nat.add_assoc, Nat.add_zero] at e0 e1
      have HXM0 := Lib.hid m_0
      have hle0 := mmL_le R_Span_mn m_0
      have K_L0 := Lib.hid (k_L0.more R_Span_ok hsz)
      have hfin : k1 ≤ 4611686018427387904 := by omega
      have HK1 := Lib.hid hk1
      clear hB hx hu hmz hmn hxm k_L0 m_0
      go_wp2_with fail
      refine (held_SpanS (k := x0 + 1) (k' := z0) (by omega) (by omega) HXM0.out K_L0.out).mono ?_
      intro e w1 h
      obtain ⟨rfl, hb⟩ := heldC_elim h
      have HBc0 := Lib.hid hb
      have hpos0 : 0 ≤ z0 := by omega
      clear h hb
      have HB2 := Lib.hid (HB.out.trans (HBc0.out.mono hsz))
      go_wp2
      go_roundw
      case rel => exact ⟨j + 1, by omega, by go_num, ⟨_, rfl, by omega, by rw [← HK1.out]; exact HMN.out⟩, HB2.out⟩
      case measure => simp [intOf]; omega
    · obtain rfl : j = L.length := by omega
      have HE := Lib.hid (mmL_end hmz)
      clear hmz hB
      go_wp2
      go_ret
      exact ⟨by rw [HE.out]; rfl, HB.out⟩


theorem sizh_SpanSS : ((Sl R_Span)).size = 1 := rfl
set_option maxRecDepth 100000 in
set_option maxHeartbeats 1600000 in
theorem held_SpanSS {L : List (List (D_Span))} {a : Option Addr} {cap : Nat} {W : World} {k k' : Int} (h0 : 0 ≤ k) (h1 : k' ≤ 4611686018427387904) (hm : mmL (Sl R_Span) L k k') (h : RdSl (Sl R_Span) W W.heap.size L a cap) : Calls Try.prog 43 #[.slice a L.length cap, .int .i64 k] W (HeldC k' W) := by
  have hn : L.length ≤ 9223372036854775807 := by have h1 := h.1; have h2 := h.2.1; unfold maxLen at h2; omega
  have H := Lib.hid h
  have HM := Lib.hid hm
  clear h hm
  go_enter Try.func43, Try.ntmps43
  go_wp2
  go_loopw [5, 1] (fun i q wr => ∃ j : Nat, j ≤ L.length ∧ i = .int .i64 j ∧ (∃ z : Int, q = .int .i64 z ∧ 0 ≤ z ∧ mmL (Sl R_Span) (L.drop j) z k') ∧ Below W.heap.size W wr) (fun i _ _ => L.length - (intOf i).toNat)
  case atStart => exact ⟨0, Nat.zero_le _, rfl, ⟨k, rfl, h0, HM.out⟩, Below.refl _ _⟩
  case round =>
    obtain ⟨j, hj, rfl, ⟨z, rfl, hz, hmz⟩, hB⟩ := hrel
    have HB := Lib.hid hB
    have hsz := hB.size
    by_cases hlt : j < L.length
    · obtain ⟨x, hx⟩ := el_some hlt
      obtain ⟨k1, hxm, hmn⟩ := mmL_drop hx hmz
      have hzb := mmL_le (Sl_mn R_Span_mn) hmn
      have hxb := (Sl_mn R_Span_mn) _ _ _ hxm
      obtain ⟨g, o, us, rfl, hg, hu, hr⟩ := (H.out.below (Sl_ok R_Span_ok) hB).at_ hx
      have HMN := Lib.hid hmn
      have hi0 : (0 : Int) ≤ (j : Int) := Int.natCast_nonneg _
      have hi1 : (j : Int) < (L.length : Int) := by omega
      obtain ⟨a1, c1, rfl, k_x⟩ := hr
      have e0 : wr.cell? ⟨g, o + j, none⟩ = some (.slice a1 x.length c1) := by simpa [sizh_SpanSS] using hu 0 _ rfl
      have HK := Lib.hid (k_x.more R_Span_ok hsz)
      have HXM := Lib.hid (show mmL R_Span x z k1 from hxm)
      have hk1 : k1 ≤ 4611686018427387904 := by omega
      have hk0 : 0 ≤ k1 := by omega
      clear hB hx hu hmz hmn hxm k_x
      go_wp2_with fail
      refine (held_SpanS hz hk1 HXM.out HK.out).mono ?_
      intro e w1 h
      obtain ⟨rfl, hb⟩ := heldC_elim h
      have HB2 := Lib.hid (HB.out.trans (hb.mono hsz))
      clear h hb
      go_wp2
      go_roundw
      case rel => exact ⟨j + 1, by omega, by go_num, ⟨_, rfl, by omega, HMN.out⟩, HB2.out⟩
      case measure => simp [intOf]; omega
    · obtain rfl : j = L.length := by omega
      have HE := Lib.hid (mmL_end hmz)
      clear hmz hB
      go_wp2
      go_ret
      exact ⟨by rw [HE.out]; rfl, HB.out⟩

set_option maxRecDepth 100000 in
set_option maxHeartbeats 1600000 in
theorem held_NodesOut {L0 : List (D_Node)} {x1 : Int} {a0 : Option Addr} {c0 : Nat} {W : World} {k : Int} {z0 : Int} (h0 : 0 ≤ k) (h1 : z0 ≤ 4611686018427387904) (hm0 : mmL R_Node L0 k z0) (h_L0 : RdSl R_Node W W.heap.size L0 a0 c0) : Calls Try.prog 36 #[.agg #[.slice a0 L0.length c0, .int .i64 x1], .int .i64 k] W (HeldC z0 W) := by
  have H_L0 := Lib.hid h_L0
  have HM0 := Lib.hid hm0
  have hl0 := mmL_le R_Node_mn hm0
  clear h_L0 hm0
  have HB0 := Lib.hid (show Below W.heap.size W (W.alloc (.cells #[.slice a0 L0.length c0, .int .i64 x1] 29)) from (Below.refl _ _).alloc (Nat.le_refl _) _)
  have hP := Blk.new W 29 #[.slice a0 L0.length c0, .int .i64 x1]
  have HP0 := Lib.hid hP
  have hz0 : W.heap.size ≤ (W.alloc (.cells #[.slice a0 L0.length c0, .int .i64 x1] 29)).heap.size := HB0.out.size
  clear hP
  go_enter Try.func36, Try.ntmps36
  go_wp2_with fail
  refine (held_NodeS (k := k) (k' := z0) (by omega) (by omega) HM0.out ((H_L0.out.below R_Node_ok HB0.out).more R_Node_ok hz0)).mono ?_
  intro e w1 h
  obtain ⟨rfl, hb⟩ := heldC_elim h
  have HP1 := Lib.hid (HP0.out.call hb)
  have HB1 := Lib.hid (HB0.out.trans (hb.mono hz0))
  have hz1 : W.heap.size ≤ w1.heap.size := HB1.out.size
  clear h hb
  have p1_0 := HP1.out.at_ 0 rfl
  have hpos0 : (0 : Int) ≤ z0 := by omega
  go_wp2
  go_ret
  exact ⟨rfl, HB1.out⟩

end Go.Proofs.Ytfciojkibklkfaa.RepC
