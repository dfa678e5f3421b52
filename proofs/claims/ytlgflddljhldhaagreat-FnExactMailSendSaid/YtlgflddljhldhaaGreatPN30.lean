/- Of this claim's texts the part 30: MlM MlG MlO. -/
import Derived.Test.YtlgflddljhldhaaGreatPN15
section
namespace Go.Proofs.YtlgflddljhldhaaGreat.RepC
open Go.RowKit RowC ValC
set_option linter.unusedVariables false
set_option linter.unusedSimpArgs false
theorem mmk_Note {k : Int} : R_Note.mm (k, k + 1) k (k + 1 + 1) := by
  dsimp only [R_Note, Pr, I, atom, Sl]
  exact ⟨k + 1, ⟨by omega, by omega⟩, ⟨by omega, by omega⟩⟩
theorem mme_Note {k k' : Int} {x0 : Int} {x1 : Int} (h : R_Note.mm (x0, x1) k k') : x0 = k ∧ x1 = k + 1 ∧ k' = k + 1 + 1 := by
  dsimp only [R_Note, Pr, I, atom, Sl] at h
  obtain ⟨z1, h1, g1⟩ := h
  obtain ⟨e0, f0⟩ := h1
  have e0 : x0 = _ := e0
  obtain ⟨e1, f1⟩ := g1
  have e1 : x1 = _ := e1
  exact ⟨by omega, by omega, by omega⟩
theorem R_Note_mn : Mn R_Note := (Pr_mn I_mn I_mn)
theorem mmk_Box {k kk0 kk1 kk2 : Int} {L0 : List (Int)} {L1 : List (Int)} {L2 : List (D_Note)} (m_L0 : mmL I L0 (k) kk0) (m_L1 : mmL I L1 (kk0) kk1) (m_L2 : mmL R_Note L2 (kk1) kk2) : R_Box.mm (L0, L1, L2) k (kk2) := by
  dsimp only [R_Box, Pr, I, atom, Sl]
  exact ⟨kk0, m_L0, ⟨kk1, m_L1, m_L2⟩⟩
theorem mme_Box {k k' : Int} {L0 : List (Int)} {L1 : List (Int)} {L2 : List (D_Note)} (h : R_Box.mm (L0, L1, L2) k k') : ∃ kk0 kk1 kk2, mmL I L0 (k) kk0 ∧ mmL I L1 (kk0) kk1 ∧ mmL R_Note L2 (kk1) kk2 ∧ k' = kk2 := by
  dsimp only [R_Box, Pr, I, atom, Sl] at h
  obtain ⟨z1, h1, g1⟩ := h
  have m_L0 : mmL I L0 _ _ := h1
  obtain ⟨z2, h2, g2⟩ := g1
  have m_L1 : mmL I L1 _ _ := h2
  have m_L2 : mmL R_Note L2 _ _ := g2
  exact ⟨_, _, _, cast_mm m_L0 (by omega) rfl, cast_mm m_L1 (by omega) rfl, cast_mm m_L2 (by omega) rfl, by omega⟩
theorem R_Box_mn : Mn R_Box := (Pr_mn (Sl_mn I_mn) (Pr_mn (Sl_mn I_mn) (Sl_mn R_Note_mn)))
theorem sizm_NoteS : (R_Note).size = 2 := rfl
set_option maxRecDepth 100000 in
set_option maxHeartbeats 3200000 in
theorem mark_NoteS {L : List (D_Note)} {a : Option Addr} {cap : Nat} {W : World} {S : Nat → Prop} {k : Int} (h0 : 0 ≤ k) (h1 : k + (sumL (R_Note).cm L : Nat) ≤ 4611686018427387904) (hS : ∀ i, S i → i < W.heap.size) (h : OwSl R_Note W S L a cap) : Calls Tryz.prog 92 #[.slice a L.length cap, .int .i64 k] W (MarkR R_Note S L a cap k W) := by
  have hcap := h.1
  have hmax := h.2.1
  have hn : L.length ≤ 9223372036854775807 := by have h2 := h.2.1; unfold maxLen at h2; omega
  have H := Lib.hid h
  have HCAP := Lib.hid hcap
  have HMAX := Lib.hid hmax
  clear h hcap hmax
  rcases Nat.eq_zero_or_pos L.length with hz | hpos
  · have HR := Lib.hid (MarkR.none_ (k := k) H.out hz)
    have HZ := Lib.hid hz
    rw [hz]
    clear hz
    go_enter Tryz.func92, Tryz.ntmps92
    go_wp2
    go_loopw [5, 1] (fun i q wr => i = .int .i64 0 ∧ q = .int .i64 k ∧ wr = W) (fun i _ _ => 0)
    case atStart => exact ⟨rfl, rfl, rfl⟩
    case round =>
      obtain ⟨rfl, rfl, rfl⟩ := hrel
      go_wp2
      go_ret
      exact HR.out
  · obtain ⟨g, Sf, rfl, hrow⟩ := H.out.row hpos
    have HM := Lib.hid (Mkd.start (k := k) hrow)
    clear hrow
    go_enter Tryz.func92, Tryz.ntmps92
    go_wp2
    go_loopw [5, 1] (fun i q wr => ∃ j : Nat, j ≤ L.length ∧ i = .int .i64 j ∧ ∃ (M : List (D_Note)) (z : Int), q = .int .i64 z ∧ Mkd R_Note W wr S L g Sf k z j M) (fun i _ _ => L.length - (intOf i).toNat)
    case atStart => exact ⟨0, Nat.zero_le _, rfl, _, _, rfl, HM.out⟩
    case round =>
      obtain ⟨j, hj, rfl, M, z, rfl, hM⟩ := hrel
      have HM2 := Lib.hid hM
      have hSw : ∀ i, S i → i < wr.heap.size := fun i hi => Nat.lt_of_lt_of_le (hS i hi) hM.off.size
      have HSW := Lib.hid hSw
      by_cases hlt : j < L.length
      · obtain ⟨⟨x0, x1⟩, hx⟩ := el_some hlt
        have HX := Lib.hid hx
        have hcm := sumL_take (R_Note).cm hx
        have hle := sumL_take_le (R_Note).cm L (j + 1)
        have hnum := hM.num
        obtain ⟨us, hu, hr⟩ := hM.el hx
        obtain rfl := ow0_Note hr
        have hgl : g < wr.heap.size := hSw g hM.row.own
        have hi0 : (0 : Int) ≤ (j : Int) := Int.natCast_nonneg _
        have hi1 : (j : Int) < (L.length : Int) := by omega
        have hz0 : 0 ≤ z := by omega
        have e0 : wr.cell? ⟨g, j * 2, none⟩ = some (.int .i64 x0) := by simpa [sizm_NoteS, Nat.add_assoc] using hu 0 _ rfl
        have e1 : wr.cell? ⟨g, j * 2 + 1, none⟩ = some (.int .i64 x1) := by simpa [sizm_NoteS, Nat.add_assoc] using hu 1 _ rfl
        have s0 := hM.row.soft (j * 2)
        have s1 := hM.row.soft (j * 2 + 1)
        have hcx : R_Note.cm (x0, x1) = 2 := by first | (simp only [R_Note, Pr, I, atom, Sl]; done) | (simp only [R_Note, Pr, I, atom, Sl]; omega)
        rw [hcm, hcx] at hle
        have hb1 : z + ((2 : Nat) : Int) ≤ 4611686018427387904 := by omega
        have hne : ¬ Sf j g := fun hg => (HM2.out.row.sub j g hg).2 rfl
        have HU0 := Lib.hid (Upd.refl wr g (j * 2) ((j + 1) * 2) (Sf j))
        have HF0 := Lib.hid (Off.refl S wr)
        clear hM hSw hx hu hcm hle hnum
        have hc := putCells_cells g [.int .i64 (z), .int .i64 (z + 1)] wr (j * 2) (fun p hp => by
          match p, hp with
          | 0, _ => exact ⟨_, by simpa [Nat.add_assoc] using e0⟩
          | 1, _ => exact ⟨_, by simpa [Nat.add_assoc] using e1⟩
          | _ + 2, hp => simp at hp; omega)
        have d0 : (putCells wr g (j * 2) [.int .i64 (z), .int .i64 (z + 1)]).cell? ⟨g, j * 2, none⟩ = some (.int .i64 (z)) := by simpa [Nat.add_assoc] using hc 0 _ rfl
        have d1 : (putCells wr g (j * 2) [.int .i64 (z), .int .i64 (z + 1)]).cell? ⟨g, j * 2 + 1, none⟩ = some (.int .i64 (z + 1)) := by simpa [Nat.add_assoc] using hc 1 _ rfl
        have t0 : (putCells wr g (j * 2) [.int .i64 (z), .int .i64 (z + 1)]).frozen? ⟨g, j * 2, none⟩ = false := (putCells_frozen g _ _ wr _).trans s0
        have t1 : (putCells wr g (j * 2) [.int .i64 (z), .int .i64 (z + 1)]).frozen? ⟨g, j * 2 + 1, none⟩ = false := (putCells_frozen g _ _ wr _).trans s1
        have HU1 := Lib.hid (HU0.out.trans (Upd.put wr (Sf j) (g := g) (o := j * 2) (cs := [.int .i64 (z), .int .i64 (z + 1)]) ⟨by omega, by first | (simp; done) | (simp; omega)⟩))
        have HF1 := Lib.hid (HF0.out.trans ((putCells_off g [.int .i64 (z), .int .i64 (z + 1)] wr (j * 2)).more (fun x e => by rw [e]; exact HM2.out.row.own)))
        clear hc
        have hcf : CellsAt (putCells wr g (j * 2) [.int .i64 (z), .int .i64 (z + 1)]) g (j * 2) [.int .i64 (z), .int .i64 (z + 1)] := CellsAt.cons.2 ⟨d0, CellsAt.cons.2 ⟨d1, CellsAt.nil⟩⟩
        have HSTEP := Lib.hid (HM2.out.step R_Note_ok (w' := (putCells wr g (j * 2) [.int .i64 (z), .int .i64 (z + 1)])) (y := (z, z + 1)) (q' := z + 1 + 1) HSW.out HX.out HU1.out HF1.out hcf (mkow_Note) (mmk_Note) (by rw [hcx]; omega))
        clear d0 t0 d1 t1
        have hzb : 0 ≤ z + 1 + 1 ∧ z + 1 + 1 ≤ 4611686018427387904 := by omega
        clear hcf hcx
        go_wp2
        go_roundw
        case rel => exact ⟨j + 1, by omega, by go_num, _, _, rfl, by first | exact HSTEP.out | simpa [putCells, Nat.add_assoc, Int.add_assoc] using HSTEP.out⟩
        case measure => simp [intOf]; omega
      · obtain rfl : j = L.length := by omega
        have HR := Lib.hid (HM2.out.done HCAP.out HMAX.out)
        clear hM hSw
        go_wp2
        go_ret
        exact HR.out
theorem sizm_BoxS : (R_Box).size = 3 := rfl
set_option maxRecDepth 100000 in
set_option maxHeartbeats 3200000 in
theorem mark_BoxS {L : List (D_Box)} {a : Option Addr} {cap : Nat} {W : World} {S : Nat → Prop} {k : Int} (h0 : 0 ≤ k) (h1 : k + (sumL (R_Box).cm L : Nat) ≤ 4611686018427387904) (hS : ∀ i, S i → i < W.heap.size) (h : OwSl R_Box W S L a cap) : Calls Tryz.prog 58 #[.slice a L.length cap, .int .i64 k] W (MarkR R_Box S L a cap k W) := by
  have hcap := h.1
  have hmax := h.2.1
  have hn : L.length ≤ 9223372036854775807 := by have h2 := h.2.1; unfold maxLen at h2; omega
  have H := Lib.hid h
  have HCAP := Lib.hid hcap
  have HMAX := Lib.hid hmax
  clear h hcap hmax
  rcases Nat.eq_zero_or_pos L.length with hz | hpos
  · have HR := Lib.hid (MarkR.none_ (k := k) H.out hz)
    have HZ := Lib.hid hz
    rw [hz]
    clear hz
    go_enter Tryz.func58, Tryz.ntmps58
    go_wp2
    go_loopw [5, 1] (fun i q wr => i = .int .i64 0 ∧ q = .int .i64 k ∧ wr = W) (fun i _ _ => 0)
    case atStart => exact ⟨rfl, rfl, rfl⟩
    case round =>
      obtain ⟨rfl, rfl, rfl⟩ := hrel
      go_wp2
      go_ret
      exact HR.out
  · obtain ⟨g, Sf, rfl, hrow⟩ := H.out.row hpos
    have HM := Lib.hid (Mkd.start (k := k) hrow)
    clear hrow
    go_enter Tryz.func58, Tryz.ntmps58
    go_wp2
    go_loopw [5, 1] (fun i q wr => ∃ j : Nat, j ≤ L.length ∧ i = .int .i64 j ∧ ∃ (M : List (D_Box)) (z : Int), q = .int .i64 z ∧ Mkd R_Box W wr S L g Sf k z j M) (fun i _ _ => L.length - (intOf i).toNat)
    case atStart => exact ⟨0, Nat.zero_le _, rfl, _, _, rfl, HM.out⟩
    case round =>
      obtain ⟨j, hj, rfl, M, z, rfl, hM⟩ := hrel
      have HM2 := Lib.hid hM
      have hSw : ∀ i, S i → i < wr.heap.size := fun i hi => Nat.lt_of_lt_of_le (hS i hi) hM.off.size
      have HSW := Lib.hid hSw
      by_cases hlt : j < L.length
      · obtain ⟨⟨L0, L1, L2⟩, hx⟩ := el_some hlt
        have HX := Lib.hid hx
        have hcm := sumL_take (R_Box).cm hx
        have hle := sumL_take_le (R_Box).cm L (j + 1)
        have hnum := hM.num
        obtain ⟨us, hu, hr⟩ := hM.el hx
        obtain ⟨a0, c0, a1, c1, a2, c2, T0, T1, T2, rfl, ts0, ts1, ts2, td0_1, td0_2, td1_2, k_L0, k_L1, k_L2⟩ := ow_Box hr
        have hgl : g < wr.heap.size := hSw g hM.row.own
        have hi0 : (0 : Int) ≤ (j : Int) := Int.natCast_nonneg _
        have hi1 : (j : Int) < (L.length : Int) := by omega
        have hz0 : 0 ≤ z := by omega
        have e0 : wr.cell? ⟨g, j * 3, none⟩ = some (.slice a0 L0.length c0) := by simpa [sizm_BoxS, Nat.add_assoc] using hu 0 _ rfl
        have e1 : wr.cell? ⟨g, j * 3 + 1, none⟩ = some (.slice a1 L1.length c1) := by simpa [sizm_BoxS, Nat.add_assoc] using hu 1 _ rfl
        have e2 : wr.cell? ⟨g, j * 3 + 2, none⟩ = some (.slice a2 L2.length c2) := by simpa [sizm_BoxS, Nat.add_assoc] using hu 2 _ rfl
        have s0 := hM.row.soft (j * 3)
        have s1 := hM.row.soft (j * 3 + 1)
        have s2 := hM.row.soft (j * 3 + 2)
        have hcx : R_Box.cm (L0, L1, L2) = 0 + sumL (I).cm L0 + sumL (I).cm L1 + sumL (R_Note).cm L2 := by first | (simp only [R_Box, Pr, I, atom, Sl]; done) | (simp only [R_Box, Pr, I, atom, Sl]; omega)
        rw [hcm, hcx] at hle
        have hb1 : z + ((0 + sumL (I).cm L0 + sumL (I).cm L1 + sumL (R_Note).cm L2 : Nat) : Int) ≤ 4611686018427387904 := by omega
        have hne : ¬ Sf j g := fun hg => (HM2.out.row.sub j g hg).2 rfl
        have K_L0 := Lib.hid k_L0
        have K_L1 := Lib.hid k_L1
        have K_L2 := Lib.hid k_L2
        have TS0 := Lib.hid ts0
        have TS1 := Lib.hid ts1
        have TS2 := Lib.hid ts2
        have TD0_1 := Lib.hid td0_1
        have TD0_2 := Lib.hid td0_2
        have TD1_2 := Lib.hid td1_2
        have HU0 := Lib.hid (Upd.refl wr g (j * 3) ((j + 1) * 3) (Sf j))
        have HF0 := Lib.hid (Off.refl S wr)
        clear hM hSw hx hu hcm hle hnum k_L0 k_L1 k_L2 ts0 ts1 ts2 td0_1 td0_2 td1_2
        have hbz : 0 ≤ z ∧ z + (sumL (I).cm L0 : Nat) ≤ 4611686018427387904 := by omega
        go_wp2_with fail
        have HSi := Lib.hid (fun q (hq : T0 q) => Nat.lt_of_lt_of_le (HSW.out q (HM2.out.row.sub j q (TS0.out q hq)).1) HF0.out.size)
        refine (mark_Int64S (W := wr) hbz.1 hbz.2 HSi.out K_L0.out).mono ?_
        intro e w1 h
        obtain ⟨y0, z0, rfl, hyl, hmm, hzz, how, hoff⟩ := markR_elim h
        have hgg : g < wr.heap.size := Nat.lt_of_lt_of_le hgl HF0.out.size
        have hnT : ¬ T0 g := fun hg => hne (TS0.out g hg)
        have n0 : w1.cell? ⟨g, j * 3, none⟩ = some (.slice a0 L0.length c0) := (World.cell?_of_block (a := ⟨g, j * 3, none⟩) (hoff.block g hgg hnT)).trans e0
        have n1 : w1.cell? ⟨g, j * 3 + 1, none⟩ = some (.slice a1 L1.length c1) := (World.cell?_of_block (a := ⟨g, j * 3 + 1, none⟩) (hoff.block g hgg hnT)).trans e1
        have n2 : w1.cell? ⟨g, j * 3 + 2, none⟩ = some (.slice a2 L2.length c2) := (World.cell?_of_block (a := ⟨g, j * 3 + 2, none⟩) (hoff.block g hgg hnT)).trans e2
        have m0 : w1.frozen? ⟨g, j * 3, none⟩ = false := (World.frozen?_of_block (a := ⟨g, j * 3, none⟩) (hoff.block g hgg hnT)).trans s0
        have m1 : w1.frozen? ⟨g, j * 3 + 1, none⟩ = false := (World.frozen?_of_block (a := ⟨g, j * 3 + 1, none⟩) (hoff.block g hgg hnT)).trans s1
        have m2 : w1.frozen? ⟨g, j * 3 + 2, none⟩ = false := (World.frozen?_of_block (a := ⟨g, j * 3 + 2, none⟩) (hoff.block g hgg hnT)).trans s2
        have HU1 := Lib.hid (HU0.out.trans (Upd.off (hoff.more TS0.out) hgg hne))
        have HF1 := Lib.hid (HF0.out.trans (hoff.more (fun q hq => (HM2.out.row.sub j q (TS0.out q hq)).1)))
        have K_L1 := Lib.hid (K_L1.out.keep I_ok (fun q hq => hoff.block q (Nat.lt_of_lt_of_le (HSW.out q (HM2.out.row.sub j q (TS1.out q hq)).1) HF0.out.size) (fun hi => TD0_1.out q hi hq)))
        have K_L2 := Lib.hid (K_L2.out.keep R_Note_ok (fun q hq => hoff.block q (Nat.lt_of_lt_of_le (HSW.out q (HM2.out.row.sub j q (TS2.out q hq)).1) HF0.out.size) (fun hi => TD0_2.out q hi hq)))
        have K_L0 := Lib.hid how
        have HMM0 := Lib.hid hmm
        have HYL0 := Lib.hid hyl
        have HZZ0 := Lib.hid hzz
        have hzn0 : 0 ≤ z0 ∧ z0 ≤ 4611686018427387904 := by omega
        clear h hyl hmm how hoff hgg hnT hbz hzz HSi e0 s0 e1 s1 e2 s2
        have e0 := n0
        have s0 := m0
        have e1 := n1
        have s1 := m1
        have e2 := n2
        have s2 := m2
        clear n0 m0 n1 m1 n2 m2
        have hbz : 0 ≤ z0 ∧ z0 + (sumL (I).cm L1 : Nat) ≤ 4611686018427387904 := by have q0 := HZZ0.out; omega
        go_wp2_with fail
        have HSi := Lib.hid (fun q (hq : T1 q) => Nat.lt_of_lt_of_le (HSW.out q (HM2.out.row.sub j q (TS1.out q hq)).1) HF1.out.size)
        refine (mark_Int64S (W := w1) hbz.1 hbz.2 HSi.out K_L1.out).mono ?_
        intro e w2 h
        obtain ⟨y1, z1, rfl, hyl, hmm, hzz, how, hoff⟩ := markR_elim h
        have hgg : g < w1.heap.size := Nat.lt_of_lt_of_le hgl HF1.out.size
        have hnT : ¬ T1 g := fun hg => hne (TS1.out g hg)
        have n0 : w2.cell? ⟨g, j * 3, none⟩ = some (.slice a0 L0.length c0) := (World.cell?_of_block (a := ⟨g, j * 3, none⟩) (hoff.block g hgg hnT)).trans e0
        have n1 : w2.cell? ⟨g, j * 3 + 1, none⟩ = some (.slice a1 L1.length c1) := (World.cell?_of_block (a := ⟨g, j * 3 + 1, none⟩) (hoff.block g hgg hnT)).trans e1
        have n2 : w2.cell? ⟨g, j * 3 + 2, none⟩ = some (.slice a2 L2.length c2) := (World.cell?_of_block (a := ⟨g, j * 3 + 2, none⟩) (hoff.block g hgg hnT)).trans e2
        have m0 : w2.frozen? ⟨g, j * 3, none⟩ = false := (World.frozen?_of_block (a := ⟨g, j * 3, none⟩) (hoff.block g hgg hnT)).trans s0
        have m1 : w2.frozen? ⟨g, j * 3 + 1, none⟩ = false := (World.frozen?_of_block (a := ⟨g, j * 3 + 1, none⟩) (hoff.block g hgg hnT)).trans s1
        have m2 : w2.frozen? ⟨g, j * 3 + 2, none⟩ = false := (World.frozen?_of_block (a := ⟨g, j * 3 + 2, none⟩) (hoff.block g hgg hnT)).trans s2
        have HU2 := Lib.hid (HU1.out.trans (Upd.off (hoff.more TS1.out) hgg hne))
        have HF2 := Lib.hid (HF1.out.trans (hoff.more (fun q hq => (HM2.out.row.sub j q (TS1.out q hq)).1)))
        have K_L0 := Lib.hid (K_L0.out.keep I_ok (fun q hq => hoff.block q (Nat.lt_of_lt_of_le (HSW.out q (HM2.out.row.sub j q (TS0.out q hq)).1) HF1.out.size) (fun hi => TD0_1.out q hq hi)))
        have K_L2 := Lib.hid (K_L2.out.keep R_Note_ok (fun q hq => hoff.block q (Nat.lt_of_lt_of_le (HSW.out q (HM2.out.row.sub j q (TS2.out q hq)).1) HF1.out.size) (fun hi => TD1_2.out q hi hq)))
        have K_L1 := Lib.hid how
        have HMM1 := Lib.hid hmm
        have HYL1 := Lib.hid hyl
        have HZZ1 := Lib.hid hzz
        have hzn1 : 0 ≤ z1 ∧ z1 ≤ 4611686018427387904 := by omega
        clear h hyl hmm how hoff hgg hnT hbz hzz HSi e0 s0 e1 s1 e2 s2
        have e0 := n0
        have s0 := m0
        have e1 := n1
        have s1 := m1
        have e2 := n2
        have s2 := m2
        clear n0 m0 n1 m1 n2 m2
        have hbz : 0 ≤ z1 ∧ z1 + (sumL (R_Note).cm L2 : Nat) ≤ 4611686018427387904 := by have q0 := HZZ0.out; have q1 := HZZ1.out; omega
        go_wp2_with fail
        have HSi := Lib.hid (fun q (hq : T2 q) => Nat.lt_of_lt_of_le (HSW.out q (HM2.out.row.sub j q (TS2.out q hq)).1) HF2.out.size)
        refine (mark_NoteS (W := w2) hbz.1 hbz.2 HSi.out K_L2.out).mono ?_
        intro e w3 h
        obtain ⟨y2, z2, rfl, hyl, hmm, hzz, how, hoff⟩ := markR_elim h
        have hgg : g < w2.heap.size := Nat.lt_of_lt_of_le hgl HF2.out.size
        have hnT : ¬ T2 g := fun hg => hne (TS2.out g hg)
        have n0 : w3.cell? ⟨g, j * 3, none⟩ = some (.slice a0 L0.length c0) := (World.cell?_of_block (a := ⟨g, j * 3, none⟩) (hoff.block g hgg hnT)).trans e0
        have n1 : w3.cell? ⟨g, j * 3 + 1, none⟩ = some (.slice a1 L1.length c1) := (World.cell?_of_block (a := ⟨g, j * 3 + 1, none⟩) (hoff.block g hgg hnT)).trans e1
        have n2 : w3.cell? ⟨g, j * 3 + 2, none⟩ = some (.slice a2 L2.length c2) := (World.cell?_of_block (a := ⟨g, j * 3 + 2, none⟩) (hoff.block g hgg hnT)).trans e2
        have m0 : w3.frozen? ⟨g, j * 3, none⟩ = false := (World.frozen?_of_block (a := ⟨g, j * 3, none⟩) (hoff.block g hgg hnT)).trans s0
        have m1 : w3.frozen? ⟨g, j * 3 + 1, none⟩ = false := (World.frozen?_of_block (a := ⟨g, j * 3 + 1, none⟩) (hoff.block g hgg hnT)).trans s1
        have m2 : w3.frozen? ⟨g, j * 3 + 2, none⟩ = false := (World.frozen?_of_block (a := ⟨g, j * 3 + 2, none⟩) (hoff.block g hgg hnT)).trans s2
        have HU3 := Lib.hid (HU2.out.trans (Upd.off (hoff.more TS2.out) hgg hne))
        have HF3 := Lib.hid (HF2.out.trans (hoff.more (fun q hq => (HM2.out.row.sub j q (TS2.out q hq)).1)))
        have K_L0 := Lib.hid (K_L0.out.keep I_ok (fun q hq => hoff.block q (Nat.lt_of_lt_of_le (HSW.out q (HM2.out.row.sub j q (TS0.out q hq)).1) HF2.out.size) (fun hi => TD0_2.out q hq hi)))
        have K_L1 := Lib.hid (K_L1.out.keep I_ok (fun q hq => hoff.block q (Nat.lt_of_lt_of_le (HSW.out q (HM2.out.row.sub j q (TS1.out q hq)).1) HF2.out.size) (fun hi => TD1_2.out q hq hi)))
        have K_L2 := Lib.hid how
        have HMM2 := Lib.hid hmm
        have HYL2 := Lib.hid hyl
        have HZZ2 := Lib.hid hzz
        have hzn2 : 0 ≤ z2 ∧ z2 ≤ 4611686018427387904 := by omega
        clear h hyl hmm how hoff hgg hnT hbz hzz HSi e0 s0 e1 s1 e2 s2
        have e0 := n0
        have s0 := m0
        have e1 := n1
        have s1 := m1
        have e2 := n2
        have s2 := m2
        clear n0 m0 n1 m1 n2 m2
        have hcf : CellsAt w3 g (j * 3) [.slice a0 y0.length c0, .slice a1 y1.length c1, .slice a2 y2.length c2] := CellsAt.cons.2 ⟨by rw [HYL0.out]; exact e0, CellsAt.cons.2 ⟨by rw [HYL1.out]; exact e1, CellsAt.cons.2 ⟨by rw [HYL2.out]; exact e2, CellsAt.nil⟩⟩⟩
        have HSTEP := Lib.hid (HM2.out.step R_Box_ok (w' := w3) (y := (y0, y1, y2)) (q' := z2) HSW.out HX.out HU3.out HF3.out hcf (mkow_Box TS0.out TS1.out TS2.out TD0_1.out TD0_2.out TD1_2.out K_L0.out K_L1.out K_L2.out) (mmk_Box HMM0.out HMM1.out HMM2.out) (by rw [hcx]; have q0 := HZZ0.out; have q1 := HZZ1.out; have q2 := HZZ2.out; omega))
        have hzb : 0 ≤ z2 ∧ z2 ≤ 4611686018427387904 := by have q0 := HZZ0.out; have q1 := HZZ1.out; have q2 := HZZ2.out; omega
        clear hcf hcx
        go_wp2
        go_roundw
        case rel => exact ⟨j + 1, by omega, by go_num, _, _, rfl, by first | exact HSTEP.out | simpa [putCells, Nat.add_assoc, Int.add_assoc] using HSTEP.out⟩
        case measure => simp [intOf]; omega
      · obtain rfl : j = L.length := by omega
        have HR := Lib.hid (HM2.out.done HCAP.out HMAX.out)
        clear hM hSw
        go_wp2
        go_ret
        exact HR.out
def MarkV_Mail (L0 : List (D_Box)) (a0 : Option Addr) (c0 : Nat) (T0 : Nat → Prop) (k : Int) (W : World) (e : Ending) (w' : World) : Prop := ∃ z0 : Int, ∃ (y0 : List (D_Box)), e = .returned (.int .i64 z0) ∧ (y0.length = L0.length ∧ mmL R_Box y0 k z0 ∧ z0 = k + (sumL (R_Box).cm L0 : Nat) ∧ OwSl R_Box w' T0 y0 a0 c0) ∧ Off (fun q => T0 q) W w'
set_option maxRecDepth 100000 in
set_option maxHeartbeats 1600000 in
theorem mark_Mail {L0 : List (D_Box)} {a0 : Option Addr} {c0 : Nat} {W : World} {T0 : Nat → Prop} {k : Int} (h0 : 0 ≤ k) (h1 : k + (sumL (R_Box).cm L0 : Nat) ≤ 4611686018427387904) (hS0 : ∀ q, T0 q → q < W.heap.size) (h_L0 : OwSl R_Box W T0 L0 a0 c0) : Calls Tryz.prog 19 #[.agg #[.slice a0 L0.length c0], .int .i64 k] W (MarkV_Mail L0 a0 c0 T0 k W) := by
  have HOFF0 := Lib.hid (show Off (fun q => T0 q) W (W.alloc (.cells #[.slice a0 L0.length c0] 36)) from (Off.refl _ _).alloc _)
  have hP := Blk.new W 36 #[.slice a0 L0.length c0]
  have HP0 := Lib.hid hP
  have hz0 : W.heap.size < (W.alloc (.cells #[.slice a0 L0.length c0] 36)).heap.size := by simp
  clear hP
  have K_L0 := Lib.hid (OwSl.keep R_Box_ok (W' := W.alloc (.cells #[.slice a0 L0.length c0] 36)) h_L0 (fun q hq => Below.heap_alloc _ _ _ (hS0 q hq)))
  have HS0 := Lib.hid hS0
  clear h_L0 hS0 
  go_enter Tryz.func19, Tryz.ntmps19
  have hbz : 0 ≤ k ∧ k + (sumL (R_Box).cm L0 : Nat) ≤ 4611686018427387904 := by omega
  go_wp2_with fail
  refine (mark_BoxS (W := W.alloc (.cells #[.slice a0 L0.length c0] 36)) hbz.1 hbz.2 (fun q hq => Nat.lt_trans (HS0.out q hq) hz0) K_L0.out).mono ?_
  intro e w1 h
  obtain ⟨y0, z0, rfl, hyl, hmm, hzz, how, hoff⟩ := markR_elim h
  have HP1 := Lib.hid (Blk.off HP0.out hoff hz0 (fun hg => Nat.lt_irrefl _ (HS0.out _ hg)))
  have HOFF1 := Lib.hid (HOFF0.out.trans (hoff.more (fun q hq => hq)))
  have hz1 : W.heap.size < w1.heap.size := Nat.lt_of_lt_of_le hz0 hoff.size
  have K_L0 := Lib.hid how
  have HMM0 := Lib.hid hmm
  have HYL0 := Lib.hid hyl
  have HZZ0 := Lib.hid hzz
  have hzn0 : 0 ≤ z0 ∧ z0 ≤ 4611686018427387904 := by omega
  clear h hyl hmm how hoff hzz hbz
  have p1_0 := HP1.out.at_ 0 rfl
  go_wp2
  go_ret
  exact ⟨z0, y0, rfl, ⟨HYL0.out, HMM0.out, HZZ0.out, K_L0.out⟩, HOFF1.out⟩
theorem sizh_NoteS : (R_Note).size = 2 := rfl
set_option maxRecDepth 100000 in
set_option maxHeartbeats 1600000 in
theorem held_NoteS {L : List (D_Note)} {a : Option Addr} {cap : Nat} {W : World} {k k' : Int} (h0 : 0 ≤ k) (h1 : k' ≤ 4611686018427387904) (hm : mmL R_Note L k k') (h : RdSl R_Note W W.heap.size L a cap) : Calls Tryz.prog 119 #[.slice a L.length cap, .int .i64 k] W (HeldC k' W) := by
  have hn : L.length ≤ 9223372036854775807 := by have h1 := h.1; have h2 := h.2.1; unfold maxLen at h2; omega
  have H := Lib.hid h
  have HM := Lib.hid hm
  clear h hm
  go_enter Tryz.func119, Tryz.ntmps119
  go_wp2
  go_loopw [5, 1] (fun i q wr => ∃ j : Nat, j ≤ L.length ∧ i = .int .i64 j ∧ (∃ z : Int, q = .int .i64 z ∧ 0 ≤ z ∧ mmL R_Note (L.drop j) z k') ∧ Below W.heap.size W wr) (fun i _ _ => L.length - (intOf i).toNat)
  case atStart => exact ⟨0, Nat.zero_le _, rfl, ⟨k, rfl, h0, HM.out⟩, Below.refl _ _⟩
  case round =>
    obtain ⟨j, hj, rfl, ⟨z, rfl, hz, hmz⟩, hB⟩ := hrel
    have HB := Lib.hid hB
    have hsz := hB.size
    by_cases hlt : j < L.length
    · obtain ⟨⟨x0, x1⟩, hx⟩ := el_some hlt
      obtain ⟨k1, hxm, hmn⟩ := mmL_drop hx hmz
      have hzb := mmL_le R_Note_mn hmn
      have hxb := R_Note_mn _ _ _ hxm
      obtain ⟨g, o, us, rfl, hg, hu, hr⟩ := (H.out.below R_Note_ok hB).at_ hx
      have HMN := Lib.hid hmn
      have hi0 : (0 : Int) ≤ (j : Int) := Int.natCast_nonneg _
      have hi1 : (j : Int) < (L.length : Int) := by omega
      obtain rfl := rd_Note hr
      obtain ⟨rfl, rfl, hk1⟩ := mme_Note hxm
      have e0 := cells_at hu 0 rfl
      have e1 := cells_at hu 1 rfl
      simp only [sizh_NoteS] at e0 e1
      simp only [← Nat.add_assoc, Nat.add_zero] at e0 e1
      have hfin : k1 ≤ 4611686018427387904 := by omega
      have HK1 := Lib.hid hk1
      clear hB hx hu hmz hmn hxm
      have HB2 := Lib.hid HB.out
      go_wp2
      go_roundw
      case rel => exact ⟨j + 1, by omega, by go_num, ⟨_, rfl, by omega, by rw [← HK1.out]; exact HMN.out⟩, HB2.out⟩
      case measure => simp [intOf]; omega
    · obtain rfl : j = L.length := by omega
      have HE := Lib.hid (mmL_end hmz)
      clear hmz hB
      go_wp2
      go_ret
      exact ⟨by rw [HE.out]; rfl, HB.out⟩
theorem sizh_BoxS : (R_Box).size = 3 := rfl
set_option maxRecDepth 100000 in
set_option maxHeartbeats 1600000 in
theorem held_BoxS {L : List (D_Box)} {a : Option Addr} {cap : Nat} {W : World} {k k' : Int} (h0 : 0 ≤ k) (h1 : k' ≤ 4611686018427387904) (hm : mmL R_Box L k k') (h : RdSl R_Box W W.heap.size L a cap) : Calls Tryz.prog 93 #[.slice a L.length cap, .int .i64 k] W (HeldC k' W) := by
  have hn : L.length ≤ 9223372036854775807 := by have h1 := h.1; have h2 := h.2.1; unfold maxLen at h2; omega
  have H := Lib.hid h
  have HM := Lib.hid hm
  clear h hm
  go_enter Tryz.func93, Tryz.ntmps93
  go_wp2
  go_loopw [5, 1] (fun i q wr => ∃ j : Nat, j ≤ L.length ∧ i = .int .i64 j ∧ (∃ z : Int, q = .int .i64 z ∧ 0 ≤ z ∧ mmL R_Box (L.drop j) z k') ∧ Below W.heap.size W wr) (fun i _ _ => L.length - (intOf i).toNat)
  case atStart => exact ⟨0, Nat.zero_le _, rfl, ⟨k, rfl, h0, HM.out⟩, Below.refl _ _⟩
  case round =>
    obtain ⟨j, hj, rfl, ⟨z, rfl, hz, hmz⟩, hB⟩ := hrel
    have HB := Lib.hid hB
    have hsz := hB.size
    by_cases hlt : j < L.length
    · obtain ⟨⟨L0, L1, L2⟩, hx⟩ := el_some hlt
      obtain ⟨k1, hxm, hmn⟩ := mmL_drop hx hmz
      have hzb := mmL_le R_Box_mn hmn
      have hxb := R_Box_mn _ _ _ hxm
      obtain ⟨g, o, us, rfl, hg, hu, hr⟩ := (H.out.below R_Box_ok hB).at_ hx
      have HMN := Lib.hid hmn
      have hi0 : (0 : Int) ≤ (j : Int) := Int.natCast_nonneg _
      have hi1 : (j : Int) < (L.length : Int) := by omega
      obtain ⟨a0, c0, a1, c1, a2, c2, rfl, k_L0, k_L1, k_L2⟩ := rd_Box hr
      obtain ⟨z0, z1, z2, m_0, m_1, m_2, hk1⟩ := mme_Box hxm
      have e0 := cells_at hu 0 rfl
      have e1 := cells_at hu 1 rfl
      have e2 := cells_at hu 2 rfl
      simp only [sizh_BoxS] at e0 e1 e2
      simp only [← Nat.add_assoc, Nat.add_zero] at e0 e1 e2
      have HXM0 := Lib.hid m_0
      have hle0 := mmL_le I_mn m_0
      have K_L0 := Lib.hid (k_L0.more I_ok hsz)
      have HXM1 := Lib.hid m_1
      have hle1 := mmL_le I_mn m_1
      have K_L1 := Lib.hid (k_L1.more I_ok hsz)
      have HXM2 := Lib.hid m_2
      have hle2 := mmL_le R_Note_mn m_2
      have K_L2 := Lib.hid (k_L2.more R_Note_ok hsz)
      have hfin : k1 ≤ 4611686018427387904 := by omega
      have HK1 := Lib.hid hk1
      clear hB hx hu hmz hmn hxm k_L0 k_L1 k_L2 m_0 m_1 m_2
      go_wp2_with fail
      refine (held_Int64S (k := z) (k' := z0) (by omega) (by omega) HXM0.out K_L0.out).mono ?_
      intro e w1 h
      obtain ⟨rfl, hb⟩ := heldC_elim h
      have HBc0 := Lib.hid hb
      have hpos0 : 0 ≤ z0 := by omega
      clear h hb
      have hgl0 : g < wr.heap.size := Nat.lt_of_lt_of_le hg hsz
      replace e0 := (HBc0.out.cell (p := ⟨g, _, none⟩) hgl0).trans e0
      replace e1 := (HBc0.out.cell (p := ⟨g, _, none⟩) hgl0).trans e1
      replace e2 := (HBc0.out.cell (p := ⟨g, _, none⟩) hgl0).trans e2
      go_wp2_with fail
      refine (held_Int64S (k := z0) (k' := z1) (by omega) (by omega) HXM1.out ((K_L1.out.below I_ok HBc0.out).more I_ok HBc0.out.size)).mono ?_
      intro e w2 h
      obtain ⟨rfl, hb⟩ := heldC_elim h
      have HBc1 := Lib.hid (HBc0.out.trans (hb.mono HBc0.out.size))
      have hpos1 : 0 ≤ z1 := by omega
      have hgl1 : g < w1.heap.size := Nat.lt_of_lt_of_le hgl0 HBc0.out.size
      replace e0 := (hb.cell (p := ⟨g, _, none⟩) hgl1).trans e0
      replace e1 := (hb.cell (p := ⟨g, _, none⟩) hgl1).trans e1
      replace e2 := (hb.cell (p := ⟨g, _, none⟩) hgl1).trans e2
      clear h hb
      go_wp2_with fail
      refine (held_NoteS (k := z1) (k' := z2) (by omega) (by omega) HXM2.out ((K_L2.out.below R_Note_ok HBc1.out).more R_Note_ok HBc1.out.size)).mono ?_
      intro e w3 h
      obtain ⟨rfl, hb⟩ := heldC_elim h
      have HBc2 := Lib.hid (HBc1.out.trans (hb.mono HBc1.out.size))
      have hpos2 : 0 ≤ z2 := by omega
      clear h hb
      have HB2 := Lib.hid (HB.out.trans (HBc2.out.mono hsz))
      go_wp2
      go_roundw
      case rel => exact ⟨j + 1, by omega, by go_num, ⟨_, rfl, by omega, by rw [← HK1.out]; exact HMN.out⟩, HB2.out⟩
      case measure => simp [intOf]; omega
    · obtain rfl : j = L.length := by omega
      have HE := Lib.hid (mmL_end hmz)
      clear hmz hB
      go_wp2
      go_ret
      exact ⟨by rw [HE.out]; rfl, HB.out⟩
set_option maxRecDepth 100000 in
set_option maxHeartbeats 1600000 in
theorem held_Mail {L0 : List (D_Box)} {a0 : Option Addr} {c0 : Nat} {W : World} {k : Int} {z0 : Int} (h0 : 0 ≤ k) (h1 : z0 ≤ 4611686018427387904) (hm0 : mmL R_Box L0 k z0) (h_L0 : RdSl R_Box W W.heap.size L0 a0 c0) : Calls Tryz.prog 59 #[.agg #[.slice a0 L0.length c0], .int .i64 k] W (HeldC z0 W) := by
  have H_L0 := Lib.hid h_L0
  have HM0 := Lib.hid hm0
  have hl0 := mmL_le R_Box_mn hm0
  clear h_L0 hm0
  have HB0 := Lib.hid (show Below W.heap.size W (W.alloc (.cells #[.slice a0 L0.length c0] 36)) from (Below.refl _ _).alloc (Nat.le_refl _) _)
  have hP := Blk.new W 36 #[.slice a0 L0.length c0]
  have HP0 := Lib.hid hP
  have hz0 : W.heap.size ≤ (W.alloc (.cells #[.slice a0 L0.length c0] 36)).heap.size := HB0.out.size
  clear hP
  go_enter Tryz.func59, Tryz.ntmps59
  go_wp2_with fail
  refine (held_BoxS (k := k) (k' := z0) (by omega) (by omega) HM0.out ((H_L0.out.below R_Box_ok HB0.out).more R_Box_ok hz0)).mono ?_
  intro e w1 h
  obtain ⟨rfl, hb⟩ := heldC_elim h
  have HP1 := Lib.hid (HP0.out.call hb)
  have HB1 := Lib.hid (HB0.out.trans (hb.mono hz0))
  have hz1 : W.heap.size ≤ w1.heap.size := HB1.out.size
  clear h hb
  have p1_0 := HP1.out.at_ 0 rfl
  have hpos0 : (0 : Int) ≤ z0 := by omega
  go_wp2
  go_ret
  exact ⟨rfl, HB1.out⟩
set_option maxRecDepth 100000 in
set_option maxHeartbeats 1600000 in
theorem mark_MailOut {L0 : List (D_Box)} {x1 : Int} {a0 : Option Addr} {c0 : Nat} {W : World} {T0 : Nat → Prop} {k : Int} (h0 : 0 ≤ k) (h1 : k + (sumL (R_Box).cm L0 : Nat) ≤ 4611686018427387904) (hS0 : ∀ q, T0 q → q < W.heap.size) (h_L0 : OwSl R_Box W T0 L0 a0 c0) : Calls Tryz.prog 20 #[.agg #[.slice a0 L0.length c0, .int .i64 x1], .int .i64 k] W (MarkV_Mail L0 a0 c0 T0 k W) := by
  have HOFF0 := Lib.hid (show Off (fun q => T0 q) W (W.alloc (.cells #[.slice a0 L0.length c0, .int .i64 x1] 38)) from (Off.refl _ _).alloc _)
  have hz0 : W.heap.size < (W.alloc (.cells #[.slice a0 L0.length c0, .int .i64 x1] 38)).heap.size := by simp
  have hP := Blk.new W 38 #[.slice a0 L0.length c0, .int .i64 x1]
  have HP0 := Lib.hid hP
  clear hP
  have K_L0 := Lib.hid (OwSl.keep R_Box_ok (W' := W.alloc (.cells #[.slice a0 L0.length c0, .int .i64 x1] 38)) h_L0 (fun q hq => Below.heap_alloc _ _ _ (hS0 q hq)))
  have HS0 := Lib.hid hS0
  clear h_L0 hS0 
  go_enter Tryz.func20, Tryz.ntmps20
  go_wp2_with fail
  refine (mark_Mail (W := W.alloc (.cells #[.slice a0 L0.length c0, .int .i64 x1] 38)) h0 h1 (fun q hq => Nat.lt_trans (HS0.out q hq) hz0) K_L0.out).mono ?_
  intro e w1 h
  obtain ⟨z0, y0, rfl, hh0, hoff⟩ := h
  have HH0 := Lib.hid hh0
  have HOFF1 := Lib.hid (HOFF0.out.trans hoff)
  clear hoff hh0
  go_wp2
  go_ret
  exact ⟨z0, y0, rfl, HH0.out, HOFF1.out⟩
set_option maxRecDepth 100000 in
set_option maxHeartbeats 1600000 in
theorem held_MailOut {L0 : List (D_Box)} {x1 : Int} {a0 : Option Addr} {c0 : Nat} {W : World} {k : Int} {z0 : Int} (h0 : 0 ≤ k) (h1 : z0 ≤ 4611686018427387904) (hm0 : mmL R_Box L0 k z0) (h_L0 : RdSl R_Box W W.heap.size L0 a0 c0) : Calls Tryz.prog 21 #[.agg #[.slice a0 L0.length c0, .int .i64 x1], .int .i64 k] W (HeldC z0 W) := by
  have HM0 := Lib.hid hm0
  have hl0 := mmL_le R_Box_mn hm0
  have H_L0 := Lib.hid h_L0
  clear h_L0 hm0
  have HB0 := Lib.hid (show Below W.heap.size W (W.alloc (.cells #[.slice a0 L0.length c0, .int .i64 x1] 38)) from (Below.refl _ _).alloc (Nat.le_refl _) _)
  have hP := Blk.new W 38 #[.slice a0 L0.length c0, .int .i64 x1]
  have HP0 := Lib.hid hP
  have hz0 : W.heap.size ≤ (W.alloc (.cells #[.slice a0 L0.length c0, .int .i64 x1] 38)).heap.size := HB0.out.size
  clear hP
  go_enter Tryz.func21, Tryz.ntmps21
  go_wp2_with fail
  refine (held_Mail (k := k) h0 h1 HM0.out ((H_L0.out.below R_Box_ok HB0.out).more R_Box_ok hz0)).mono ?_
  intro e w1 h
  obtain ⟨rfl, hb⟩ := heldC_elim h
  have HB1 := Lib.hid (HB0.out.trans (hb.mono hz0))
  have hpos : (0 : Int) ≤ z0 := by omega
  clear h hb
  go_wp2
  go_ret
  exact ⟨rfl, HB1.out⟩
end Go.Proofs.YtlgflddljhldhaaGreat.RepC
end
section
namespace Go.Proofs.YtlgflddljhldhaaGreat.RepC
open Go.RowKit RowC ValC
set_option linter.unusedVariables false
set_option linter.unusedSimpArgs false
theorem gsz_Mail {d : D_Mail} {cs : List Value} {W : World} {l : Int} (h0 : 0 ≤ l) (h1 : l ≤ 1048576) (h : R_Mail.rd W W.heap.size d cs) : Calls Tryz.prog 9 #[.agg cs.toArray, .int .i64 l] W (SzC l (R_Mail.sz d) W) := by
  rename D_Mail => L0
  obtain ⟨a0, c0, rfl, k_L0⟩ := rd_Mail h
  exact sz_Mail h0 h1 k_L0
theorem gto_Mail {d : D_Mail} {cs : List Value} {W : World} (hsz : R_Mail.sz d ≤ 1048576) (h : R_Mail.rd W W.heap.size d cs) : Calls Tryz.prog 12 #[.agg cs.toArray] W (NewV R_Mail d W) := by
  rename D_Mail => L0
  obtain ⟨a0, c0, rfl, k_L0⟩ := rd_Mail h
  exact to_Mail hsz k_L0
theorem geq_Mail {d : D_Mail} {cs cs' : List Value} {W : World} (h : R_Mail.rd W W.heap.size d cs) (h' : R_Mail.rd W W.heap.size d cs') : Calls Tryz.prog 17 #[.agg cs.toArray, .agg cs'.toArray] W (IsB true W) := by
  rename D_Mail => L0
  obtain ⟨a0, c0, rfl, k_L0⟩ := rd_Mail h
  obtain ⟨a0', c0', rfl, k'_L0⟩ := rd_Mail h'
  exact eq_Mail k_L0 k'_L0
theorem owc_Mail {W : World} {S : Nat → Prop} {L0 : List (D_Box)} {cs : List Value} (h : R_Mail.ow W S L0 cs) : ∃ a0 c0, cs = [.slice a0 L0.length c0] ∧ R_Mail.ow W S L0 [.slice a0 L0.length c0] := by
  have h0 := h
  obtain ⟨a0, c0, T0, rfl, _⟩ := ow_Mail h
  exact ⟨a0, c0, rfl, h0⟩
theorem rdc_Mail {W : World} {B : Nat} {L0 : List (D_Box)} {cs : List Value} (h : R_Mail.rd W B L0 cs) : ∃ a0 c0, cs = [.slice a0 L0.length c0] ∧ R_Mail.rd W B L0 [.slice a0 L0.length c0] := by
  have h0 := h
  obtain ⟨a0, c0, rfl, _⟩ := rd_Mail h
  exact ⟨a0, c0, rfl, h0⟩
theorem cvd_Mail {L0 : List (D_Box)} : R_Mail.cv L0 = sumL (R_Box).cm L0 := by
  simp only [R_Mail, Pr, Sl, I, Bo, atom] <;> omega
set_option maxRecDepth 100000 in
theorem gmark_Mail {d : D_Mail} {cs : List Value} {W : World} {S : Nat → Prop} {k : Int} (h0 : 0 ≤ k) (h1 : k + (R_Mail.cv d : Nat) ≤ 4611686018427387904) (hS : ∀ q, S q → q < W.heap.size) (h : R_Mail.ow W S d cs) : Calls Tryz.prog 19 #[.agg cs.toArray, .int .i64 k] W (MarkG R_Mail d cs S k W) := by
  rename D_Mail => L0
  obtain ⟨a0, c0, T0, rfl, hs0, k_L0⟩ := ow_Mail h
  have hcv := cvd_Mail (L0 := L0)
  refine (mark_Mail h0 (by rw [hcv] at h1; omega) (fun q hq => hS q (hs0 q hq)) k_L0).mono fun e w' hh => ?_
  obtain ⟨z0, y0, rfl, ⟨hl0, hm0, hz0, ho0⟩, hoff⟩ := hh
  have hmk := mkow_Mail hs0 ho0
  simp only [hl0] at hmk
  exact ⟨(y0), _, rfl, hm0, by rw [hcv]; omega, hmk, hoff.more fun q hq => by exact hs0 q hq⟩
theorem geq_MailOut {d : D_MailOut} {cs cs' : List Value} {W : World} (h : R_MailOut.rd W W.heap.size d cs) (h' : R_MailOut.rd W W.heap.size d cs') : Calls Tryz.prog 15 #[.agg cs.toArray, .agg cs'.toArray] W (IsB true W) := by
  obtain ⟨L0, x1⟩ := d
  obtain ⟨a0, c0, rfl, k_L0⟩ := rd_MailOut h
  obtain ⟨a0', c0', rfl, k'_L0⟩ := rd_MailOut h'
  exact eq_MailOut k_L0 k'_L0
theorem owc_MailOut {W : World} {S : Nat → Prop} {L0 : List (D_Box)} {x1 : Int} {cs : List Value} (h : R_MailOut.ow W S (L0, x1) cs) : ∃ a0 c0, cs = [.slice a0 L0.length c0, .int .i64 x1] ∧ R_MailOut.ow W S (L0, x1) [.slice a0 L0.length c0, .int .i64 x1] := by
  have h0 := h
  obtain ⟨a0, c0, T0, rfl, _⟩ := ow_MailOut h
  exact ⟨a0, c0, rfl, h0⟩
theorem cvd_MailOut {L0 : List (D_Box)} {x1 : Int} : R_MailOut.cv (L0, x1) = sumL (R_Box).cm L0 := by
  simp only [R_MailOut, R_Mail, Pr, Sl, I, Bo, atom] <;> omega
set_option maxRecDepth 100000 in
theorem gmark_MailOut {d : D_MailOut} {cs : List Value} {W : World} {S : Nat → Prop} {k : Int} (h0 : 0 ≤ k) (h1 : k + (R_MailOut.cv d : Nat) ≤ 4611686018427387904) (hS : ∀ q, S q → q < W.heap.size) (h : R_MailOut.ow W S d cs) : Calls Tryz.prog 20 #[.agg cs.toArray, .int .i64 k] W (MarkG R_MailOut d cs S k W) := by
  obtain ⟨L0, x1⟩ := d
  obtain ⟨a0, c0, T0, rfl, hs0, k_L0⟩ := ow_MailOut h
  have hcv := cvd_MailOut (L0 := L0) (x1 := x1)
  refine (mark_MailOut h0 (by rw [hcv] at h1; omega) (fun q hq => hS q (hs0 q hq)) k_L0).mono fun e w' hh => ?_
  obtain ⟨z0, y0, rfl, ⟨hl0, hm0, hz0, ho0⟩, hoff⟩ := hh
  have hmk := mkow_MailOut (x1 := x1) hs0 ho0
  simp only [hl0] at hmk
  exact ⟨((y0), x1), _, rfl, ⟨z0, hm0, rfl⟩, by rw [hcv]; omega, hmk, hoff.more fun q hq => by exact hs0 q hq⟩
set_option maxRecDepth 100000 in
theorem gheld_MailOut {d : D_MailOut} {cs : List Value} {W : World} {k z : Int} (h0 : 0 ≤ k) (h1 : z ≤ 4611686018427387904) (hm : R_MailOut.mv d k z) (h : R_MailOut.rd W W.heap.size d cs) : Calls Tryz.prog 21 #[.agg cs.toArray, .int .i64 k] W (HeldC z W) := by
  obtain ⟨L0, x1⟩ := d
  obtain ⟨a0, c0, rfl, k_L0⟩ := rd_MailOut h
  obtain ⟨_, hm0, rfl⟩ := hm
  exact held_MailOut h0 h1 hm0 k_L0
end Go.Proofs.YtlgflddljhldhaaGreat.RepC
end
section
namespace Go.Proofs.YtlgflddljhldhaaGreat.RepC
open Go.ChangeShapes Go.WideShapes Go.ChangeAt Go.RowKit Go.Joins Go.Deep RowC ValC
set_option maxRecDepth 100000
set_option linter.unusedVariables false
set_option linter.unusedSimpArgs false
theorem c_Note : Tryz.prog.cellsOf 171 = 2 := by kernel_rfl
theorem opn_Note : Opn R_Note 171 := fun enc W fuel cs y h => by
  obtain ⟨xs, n, _, _, hl, hlen, hf⟩ := DataW.trod_struct Tryz.underlying171 h
  rw [c_Note] at hl
  match cs, hl with
  | [c0, c1], _ =>
    have e2 : xs.length = 2 := hlen
    match xs, e2 with
    | [y0, y1], _ =>
      have g0 := fld hf 0 2 0 1 rfl c_int64
      have g1 := fld hf 1 2 1 1 rfl c_int64
      obtain ⟨d0, h0⟩ := opn_i64 enc W n [c0] y0 g0
      obtain ⟨d1, h1⟩ := opn_i64 enc W n [c1] y1 g1
      exact ⟨(d0, d1), ⟨[c0], [c1], rfl, h0, h1⟩⟩
theorem c_NoteS : Tryz.prog.cellsOf 115 = 1 := by kernel_rfl
theorem opn_NoteS : Opn (Sl R_Note) 115 := opn_sl opn_Note (by decide) Tryz.underlying115 c_Note
theorem c_Box : Tryz.prog.cellsOf 117 = 3 := by kernel_rfl
theorem opn_Box : Opn R_Box 117 := fun enc W fuel cs y h => by
  obtain ⟨xs, n, _, _, hl, hlen, hf⟩ := DataW.trod_struct Tryz.underlying117 h
  rw [c_Box] at hl
  match cs, hl with
  | [c0, c1, c2], _ =>
    have e2 : xs.length = 3 := hlen
    match xs, e2 with
    | [y0, y1, y2], _ =>
      have g0 := fld hf 0 70 0 1 rfl c_i64s
      have g1 := fld hf 1 70 1 1 rfl c_i64s
      have g2 := fld hf 2 115 2 1 rfl c_NoteS
      obtain ⟨d0, h0⟩ := opn_i64s enc W n [c0] y0 g0
      obtain ⟨d1, h1⟩ := opn_i64s enc W n [c1] y1 g1
      obtain ⟨d2, h2⟩ := opn_NoteS enc W n [c2] y2 g2
      exact ⟨(d0, d1, d2), ⟨[c0], [c1, c2], rfl, h0, ⟨[c1], [c2], rfl, h1, h2⟩⟩⟩
theorem c_BoxS : Tryz.prog.cellsOf 27 = 1 := by kernel_rfl
theorem opn_BoxS : Opn (Sl R_Box) 27 := opn_sl opn_Box (by decide) Tryz.underlying27 c_Box
theorem c_Mail : Tryz.prog.cellsOf 29 = 1 := by kernel_rfl
theorem opn_Mail : Opn R_Mail 29 := fun enc W fuel cs y h => by
  obtain ⟨xs, n, _, _, hl, hlen, hf⟩ := DataW.trod_struct Tryz.underlying29 h
  rw [c_Mail] at hl
  match cs, hl with
  | [c0], _ =>
    have e2 : xs.length = 1 := hlen
    match xs, e2 with
    | [y0], _ =>
      have g0 := fld hf 0 27 0 1 rfl c_BoxS
      obtain ⟨d0, h0⟩ := opn_BoxS enc W n [c0] y0 g0
      exact ⟨(d0), h0⟩
theorem open_Mail {H : Type} {enc : TypeId × Value → H} {W : World} {base : Nat} {v : Value} {d : DataW H} {p : List MemPlace} (o : Value.okWide Tryz.prog W .any base 29 v) (h : DataW.Trod enc Tryz.prog W 0 (fun _ => true) true 29 v d p) :
    ∃ (L0 : List (D_Box)) (a0 : Option Addr) (c0 : Nat), v = .agg #[.slice a0 L0.length c0] ∧ R_Mail.rd W W.heap.size L0 [.slice a0 L0.length c0] := by
  obtain ⟨L0, cs, rfl, hr⟩ := open_st opn_Mail Tryz.underlying29 o h
  obtain ⟨a0, c0, rfl, h0⟩ := rdc_Mail hr
  exact ⟨L0, a0, c0, rfl, h0⟩
end Go.Proofs.YtlgflddljhldhaaGreat.RepC
end
