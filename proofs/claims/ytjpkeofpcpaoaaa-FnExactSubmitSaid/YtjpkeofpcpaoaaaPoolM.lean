/- The laws' data: contracts. -/
import Derived.Test.YtjpkeofpcpaoaaaPoolT
namespace Go.Proofs.Ytjpkeofpcpaoaaa.RepC
open Go.RowKit RowC ValC
set_option linter.unusedVariables false
set_option linter.unusedSimpArgs false


theorem sizm_LabelS : (R_Label).size = 2 := rfl
set_option maxRecDepth 100000 in
set_option maxHeartbeats 3200000 in
theorem mark_LabelS {L : List (D_Label)} {a : Option Addr} {cap : Nat} {W : World} {S : Nat → Prop} {k : Int} (h0 : 0 ≤ k) (h1 : k + (sumL (R_Label).cm L : Nat) ≤ 4611686018427387904) (hS : ∀ i, S i → i < W.heap.size) (h : OwSl R_Label W S L a cap) : Calls Try.prog 112 #[.slice a L.length cap, .int .i64 k] W (MarkR R_Label S L a cap k W) := by
  have hcap := h.1
  have hmax := h.2.1
  have hn : L.length ≤ 9223372036854775807 := by have h2 := h.2.1; unfold maxLen at h2; omega
  have H := Lib.hid h
  have HCAP := Lib.hid hcap
  have HMAX := Lib.hid hmax
  clear h hcap hmax
  rcases Nat.eq_zero_or_pos L.length with hz | hpos
  · have HR := Lib.hid (MarkR.none_ (k := k) H.out hz)
    have HZ := Lib.hid hz
    rw [hz]
    clear hz
    go_enter Try.func112, Try.ntmps112
    go_wp2
    go_loopw [5, 1] (fun i q wr => i = .int .i64 0 ∧ q = .int .i64 k ∧ wr = W) (fun i _ _ => 0)
    case atStart => exact ⟨rfl, rfl, rfl⟩
    case round =>
      obtain ⟨rfl, rfl, rfl⟩ := hrel
      go_wp2
      go_ret
      exact HR.out
  · obtain ⟨g, Sf, rfl, hrow⟩ := H.out.row hpos
    have HM := Lib.hid (Mkd.start (k := k) hrow)
    clear hrow
    go_enter Try.func112, Try.ntmps112
    go_wp2
    go_loopw [5, 1] (fun i q wr => ∃ j : Nat, j ≤ L.length ∧ i = .int .i64 j ∧ ∃ (M : List (D_Label)) (z : Int), q = .int .i64 z ∧ Mkd R_Label W wr S L g Sf k z j M) (fun i _ _ => L.length - (intOf i).toNat)
    case atStart => exact ⟨0, Nat.zero_le _, rfl, _, _, rfl, HM.out⟩
    case round =>
      obtain ⟨j, hj, rfl, M, z, rfl, hM⟩ := hrel
      have HM2 := Lib.hid hM
      have hSw : ∀ i, S i → i < wr.heap.size := fun i hi => Nat.lt_of_lt_of_le (hS i hi) hM.off.size
      have HSW := Lib.hid hSw
      by_cases hlt : j < L.length
      · obtain ⟨⟨x0, x1⟩, hx⟩ := el_some hlt
        have HX := Lib.hid hx
        have hcm := sumL_take (R_Label).cm hx
        have hle := sumL_take_le (R_Label).cm L (j + 1)
        have hnum := hM.num
        obtain ⟨us, hu, hr⟩ := hM.el hx
        obtain rfl := ow0_Label hr
        have hgl : g < wr.heap.size := hSw g hM.row.own
        have hi0 : (0 : Int) ≤ (j : Int) := Int.natCast_nonneg _
        have hi1 : (j : Int) < (L.length : Int) := by omega
        have hz0 : 0 ≤ z := by omega
        have e0 : wr.cell? ⟨g, j * 2, none⟩ = some (.int .i64 x0) := by simpa [sizm_LabelS, Nat.add_assoc] using hu 0 _ rfl
        have e1 : wr.cell? ⟨g, j * 2 + 1, none⟩ = some (.int .i64 x1) := by simpa [sizm_LabelS, Nat.add_assoc] using hu 1 _ rfl
        have s0 := hM.row.soft (j * 2)
        have s1 := hM.row.soft (j * 2 + 1)
        have hcx : R_Label.cm (x0, x1) = 2 := by first | (simp only [R_Label, Pr, I, atom, Sl]; done) | (simp only [R_Label, Pr, I, atom, Sl]; omega)
        rw [hcm, hcx] at hle
        have hb1 : z + ((2 : Nat) : Int) ≤ 4611686018427387904 := by omega
        have hne : ¬ Sf j g := fun hg => (HM2.out.row.sub j g hg).2 rfl
        have HU0 := Lib.hid (Upd.refl wr g (j * 2) ((j + 1) * 2) (Sf j))
        have HF0 := Lib.hid (Off.refl S wr)
        clear hM hSw hx hu hcm hle hnum
        have hc := putCells_cells g [.int .i64 (z), .int .i64 (z + 1)] wr (j * 2) (fun p hp => by
          match p, hp with
          | 0, _ => exact ⟨_, by simpa [Nat.add_assoc] using e0⟩
          | 1, _ => exact ⟨_, by simpa [Nat.add_assoc] using e1⟩
          | _ + 2, hp => simp at hp; omega)
        have d0 : (putCells wr g (j * 2) [.int .i64 (z), .int .i64 (z + 1)]).cell? ⟨g, j * 2, none⟩ = some (.int .i64 (z)) := by simpa [Nat.add_assoc] using hc 0 _ rfl
        have d1 : (putCells wr g (j * 2) [.int .i64 (z), .int .i64 (z + 1)]).cell? ⟨g, j * 2 + 1, none⟩ = some (.int .i64 (z + 1)) := by simpa [Nat.add_assoc] using hc 1 _ rfl
        have t0 : (putCells wr g (j * 2) [.int .i64 (z), .int .i64 (z + 1)]).frozen? ⟨g, j * 2, none⟩ = false := (putCells_frozen g _ _ wr _).trans s0
        have t1 : (putCells wr g (j * 2) [.int .i64 (z), .int .i64 (z + 1)]).frozen? ⟨g, j * 2 + 1, none⟩ = false := (putCells_frozen g _ _ wr _).trans s1
        have HU1 := Lib.hid (HU0.out.trans (Upd.put wr (Sf j) (g := g) (o := j * 2) (cs := [.int .i64 (z), .int .i64 (z + 1)]) ⟨by omega, by first | (simp; done) | (simp; omega)⟩))
        have HF1 := Lib.hid (HF0.out.trans ((putCells_off g [.int .i64 (z), .int .i64 (z + 1)] wr (j * 2)).more (fun x e => by rw [e]; exact HM2.out.row.own)))
        clear hc
        have hcf : CellsAt (putCells wr g (j * 2) [.int .i64 (z), .int .i64 (z + 1)]) g (j * 2) [.int .i64 (z), .int .i64 (z + 1)] := CellsAt.cons.2 ⟨d0, CellsAt.cons.2 ⟨d1, CellsAt.nil⟩⟩
        have HSTEP := Lib.hid (HM2.out.step R_Label_ok (w' := (putCells wr g (j * 2) [.int .i64 (z), .int .i64 (z + 1)])) (y := (z, z + 1)) (q' := z + 1 + 1) HSW.out HX.out HU1.out HF1.out hcf (mkow_Label) (mmk_Label) (by rw [hcx]; omega))
        clear d0 t0 d1 t1
        have hzb : 0 ≤ z + 1 + 1 ∧ z + 1 + 1 ≤ 4611686018427387904 := by omega
        clear hcf hcx
        go_wp2
        go_roundw
        case rel => exact ⟨j + 1, by omega, by go_num, _, _, rfl, by first | exact HSTEP.out | simpa [putCells, Nat.add_assoc, Int.add_assoc] using HSTEP.out⟩
        case measure => simp [intOf]; omega
      · obtain rfl : j = L.length := by omega
        have HR := Lib.hid (HM2.out.done HCAP.out HMAX.out)
        clear hM hSw
        go_wp2
        go_ret
        exact HR.out


theorem sizm_LabelSS : ((Sl R_Label)).size = 1 := rfl
set_option maxRecDepth 100000 in
set_option maxHeartbeats 3200000 in
theorem mark_LabelSS {L : List (List (D_Label))} {a : Option Addr} {cap : Nat} {W : World} {S : Nat → Prop} {k : Int} (h0 : 0 ≤ k) (h1 : k + (sumL ((Sl R_Label)).cm L : Nat) ≤ 4611686018427387904) (hS : ∀ i, S i → i < W.heap.size) (h : OwSl (Sl R_Label) W S L a cap) : Calls Try.prog 48 #[.slice a L.length cap, .int .i64 k] W (MarkR (Sl R_Label) S L a cap k W) := by
  have hcap := h.1
  have hmax := h.2.1
  have hn : L.length ≤ 9223372036854775807 := by have h2 := h.2.1; unfold maxLen at h2; omega
  have H := Lib.hid h
  have HCAP := Lib.hid hcap
  have HMAX := Lib.hid hmax
  clear h hcap hmax
  rcases Nat.eq_zero_or_pos L.length with hz | hpos
  · have HR := Lib.hid (MarkR.none_ (k := k) H.out hz)
    have HZ := Lib.hid hz
    rw [hz]
    clear hz
    go_enter Try.func48, Try.ntmps48
    go_wp2
    go_loopw [5, 1] (fun i q wr => i = .int .i64 0 ∧ q = .int .i64 k ∧ wr = W) (fun i _ _ => 0)
    case atStart => exact ⟨rfl, rfl, rfl⟩
    case round =>
      obtain ⟨rfl, rfl, rfl⟩ := hrel
      go_wp2
      go_ret
      exact HR.out
  · obtain ⟨g, Sf, rfl, hrow⟩ := H.out.row hpos
    have HM := Lib.hid (Mkd.start (k := k) hrow)
    clear hrow
    go_enter Try.func48, Try.ntmps48
    go_wp2
    go_loopw [5, 1] (fun i q wr => ∃ j : Nat, j ≤ L.length ∧ i = .int .i64 j ∧ ∃ (M : List (List (D_Label))) (z : Int), q = .int .i64 z ∧ Mkd (Sl R_Label) W wr S L g Sf k z j M) (fun i _ _ => L.length - (intOf i).toNat)
    case atStart => exact ⟨0, Nat.zero_le _, rfl, _, _, rfl, HM.out⟩
    case round =>
      obtain ⟨j, hj, rfl, M, z, rfl, hM⟩ := hrel
      have HM2 := Lib.hid hM
      have hSw : ∀ i, S i → i < wr.heap.size := fun i hi => Nat.lt_of_lt_of_le (hS i hi) hM.off.size
      have HSW := Lib.hid hSw
      by_cases hlt : j < L.length
      · obtain ⟨x, hx⟩ := el_some hlt
        have HX := Lib.hid hx
        have hcm := sumL_take ((Sl R_Label)).cm hx
        have hle := sumL_take_le ((Sl R_Label)).cm L (j + 1)
        have hnum := hM.num
        obtain ⟨us, hu, hr⟩ := hM.el hx
        obtain ⟨a1, c1, rfl, k_x⟩ := hr
        have hgl : g < wr.heap.size := hSw g hM.row.own
        have hi0 : (0 : Int) ≤ (j : Int) := Int.natCast_nonneg _
        have hi1 : (j : Int) < (L.length : Int) := by omega
        have hz0 : 0 ≤ z := by omega
        have e0 : wr.cell? ⟨g, j, none⟩ = some (.slice a1 x.length c1) := by simpa [sizm_LabelSS] using hu 0 _ rfl
        have hcx : ((Sl R_Label)).cm x = sumL (R_Label).cm x := rfl
        have hb1 : z + (sumL (R_Label).cm x : Nat) ≤ 4611686018427387904 := by rw [hcm, hcx] at hle; omega
        have HS1 := Lib.hid (fun i (hi : Sf j i) => HSW.out i (HM2.out.row.sub j i hi).1)
        have HK := Lib.hid k_x
        have HE0 := Lib.hid e0
        clear hM hSw hx hu hcm hle hnum k_x
        go_wp2_with fail
        refine (mark_LabelS hz0 hb1 HS1.out HK.out).mono ?_
        intro e w1 h
        obtain ⟨y, z1, rfl, hyl, hmm, hz1, how, hoff⟩ := markR_elim h
        have hne : ¬ Sf j g := fun hg => (HM2.out.row.sub j g hg).2 rfl
        have HSTEP := Lib.hid (HM2.out.step (Sl_ok R_Label_ok) (w' := w1) (y := y) (us := [.slice a1 y.length c1]) (q' := z1) HSW.out HX.out (Upd.off hoff hgl hne) (hoff.more (fun i hi => (HM2.out.row.sub j i hi).1)) (CellsAt.cons.2 ⟨by rw [hyl]; exact (World.cell?_of_block (a := ⟨g, _, none⟩) (hoff.block g hgl hne)).trans (by simpa [sizm_LabelSS] using HE0.out), CellsAt.nil⟩) ⟨a1, c1, rfl, how⟩ hmm hz1)
        have hz2 : z1 ≤ 4611686018427387904 := by omega
        clear h hyl hmm how hoff hne hz1
        go_wp2
        go_roundw
        case rel => exact ⟨j + 1, by omega, by go_num, _, _, rfl, HSTEP.out⟩
        case measure => simp [intOf]; omega
      · obtain rfl : j = L.length := by omega
        have HR := Lib.hid (HM2.out.done HCAP.out HMAX.out)
        clear hM hSw
        go_wp2
        go_ret
        exact HR.out

/-- a struct by value, marked in its slices -/
def MarkV_Pool (L0 : List (List (D_Label))) (L1 : List (D_Job)) (x2 : Int) (a0 : Option Addr) (c0 : Nat) (a1 : Option Addr) (c1 : Nat) (T0 : Nat → Prop) (T1 : Nat → Prop) (k : Int) (W : World) (e : Ending) (w' : World) : Prop := ∃ z0 z1 : Int, ∃ (y0 : List (List (D_Label))) (y1 : List (D_Job)), e = .returned (.int .i64 z1) ∧ (y0.length = L0.length ∧ mmL (Sl R_Label) y0 k z0 ∧ z0 = k + (sumL ((Sl R_Label)).cm L0 : Nat) ∧ OwSl (Sl R_Label) w' T0 y0 a0 c0) ∧ (y1.length = L1.length ∧ mmL R_Job y1 z0 z1 ∧ z1 = z0 + (sumL (R_Job).cm L1 : Nat) ∧ OwSl R_Job w' T1 y1 a1 c1) ∧ Off (fun q => T0 q ∨ T1 q) W w'
set_option maxRecDepth 100000 in
set_option maxHeartbeats 1600000 in
theorem mark_Pool {L0 : List (List (D_Label))} {L1 : List (D_Job)} {x2 : Int} {a0 : Option Addr} {c0 : Nat} {a1 : Option Addr} {c1 : Nat} {W : World} {T0 : Nat → Prop} {T1 : Nat → Prop} {k : Int} (h0 : 0 ≤ k) (h1 : k + (sumL ((Sl R_Label)).cm L0 : Nat) + (sumL (R_Job).cm L1 : Nat) ≤ 4611686018427387904) (hS0 : ∀ q, T0 q → q < W.heap.size) (hS1 : ∀ q, T1 q → q < W.heap.size) (hd0_1 : ∀ q, T0 q → T1 q → False) (h_L0 : OwSl (Sl R_Label) W T0 L0 a0 c0) (h_L1 : OwSl R_Job W T1 L1 a1 c1) : Calls Try.prog 54 #[.agg #[.slice a0 L0.length c0, .slice a1 L1.length c1, .int .i64 x2], .int .i64 k] W (MarkV_Pool L0 L1 x2 a0 c0 a1 c1 T0 T1 k W) := by
  have HOFF0 := Lib.hid (show Off (fun q => T0 q ∨ T1 q) W (W.alloc (.cells #[.slice a0 L0.length c0, .slice a1 L1.length c1, .int .i64 x2] 65)) from (Off.refl _ _).alloc _)
  have hP := Blk.new W 65 #[.slice a0 L0.length c0, .slice a1 L1.length c1, .int .i64 x2]
  have HP0 := Lib.hid hP
  have hz0 : W.heap.size < (W.alloc (.cells #[.slice a0 L0.length c0, .slice a1 L1.length c1, .int .i64 x2] 65)).heap.size := by simp
  clear hP
  have K_L0 := Lib.hid (OwSl.keep (Sl_ok R_Label_ok) (W' := W.alloc (.cells #[.slice a0 L0.length c0, .slice a1 L1.length c1, .int .i64 x2] 65)) h_L0 (fun q hq => Below.heap_alloc _ _ _ (hS0 q hq)))
  have HS0 := Lib.hid hS0
  have K_L1 := Lib.hid (OwSl.keep R_Job_ok (W' := W.alloc (.cells #[.slice a0 L0.length c0, .slice a1 L1.length c1, .int .i64 x2] 65)) h_L1 (fun q hq => Below.heap_alloc _ _ _ (hS1 q hq)))
  have HS1 := Lib.hid hS1
  have HD0_1 := Lib.hid hd0_1
  clear h_L0 h_L1 hS0 hS1 hd0_1
  go_enter Try.func54, Try.ntmps54
  have hbz : 0 ≤ k ∧ k + (sumL ((Sl R_Label)).cm L0 : Nat) ≤ 4611686018427387904 := by omega
  go_wp2_with fail
  refine (mark_LabelSS (W := W.alloc (.cells #[.slice a0 L0.length c0, .slice a1 L1.length c1, .int .i64 x2] 65)) hbz.1 hbz.2 (fun q hq => Nat.lt_trans (HS0.out q hq) hz0) K_L0.out).mono ?_
  intro e w1 h
  obtain ⟨y0, z0, rfl, hyl, hmm, hzz, how, hoff⟩ := markR_elim h
  have HP1 := Lib.hid (Blk.off HP0.out hoff hz0 (fun hg => Nat.lt_irrefl _ (HS0.out _ hg)))
  have HOFF1 := Lib.hid (HOFF0.out.trans (hoff.more (fun q hq => Or.inl hq)))
  have hz1 : W.heap.size < w1.heap.size := Nat.lt_of_lt_of_le hz0 hoff.size
  have K_L1 := Lib.hid (K_L1.out.keep R_Job_ok (fun q hq => hoff.block q (Nat.lt_trans (HS1.out q hq) hz0) (fun hi => HD0_1.out q hi hq)))
  have K_L0 := Lib.hid how
  have HMM0 := Lib.hid hmm
  have HYL0 := Lib.hid hyl
  have HZZ0 := Lib.hid hzz
  have hzn0 : 0 ≤ z0 ∧ z0 ≤ 4611686018427387904 := by omega
  clear h hyl hmm how hoff hzz hbz
  have p1_0 := HP1.out.at_ 0 rfl
  have p1_1 := HP1.out.at_ 1 rfl
  have hbz : 0 ≤ z0 ∧ z0 + (sumL (R_Job).cm L1 : Nat) ≤ 4611686018427387904 := by have q0 := HZZ0.out; omega
  go_wp2_with fail
  refine (mark_JobS (W := w1) hbz.1 hbz.2 (fun q hq => Nat.lt_trans (HS1.out q hq) hz1) K_L1.out).mono ?_
  intro e w2 h
  obtain ⟨y1, z1, rfl, hyl, hmm, hzz, how, hoff⟩ := markR_elim h
  have HP2 := Lib.hid (Blk.off HP1.out hoff hz1 (fun hg => Nat.lt_irrefl _ (HS1.out _ hg)))
  have HOFF2 := Lib.hid (HOFF1.out.trans (hoff.more (fun q hq => Or.inr (hq))))
  have hz2 : W.heap.size < w2.heap.size := Nat.lt_of_lt_of_le hz1 hoff.size
  have K_L0 := Lib.hid (K_L0.out.keep (Sl_ok R_Label_ok) (fun q hq => hoff.block q (Nat.lt_trans (HS0.out q hq) hz1) (fun hi => HD0_1.out q hq hi)))
  have K_L1 := Lib.hid how
  have HMM1 := Lib.hid hmm
  have HYL1 := Lib.hid hyl
  have HZZ1 := Lib.hid hzz
  have hzn1 : 0 ≤ z1 ∧ z1 ≤ 4611686018427387904 := by omega
  clear h hyl hmm how hoff hzz hbz
  have p2_0 := HP2.out.at_ 0 rfl
  have p2_1 := HP2.out.at_ 1 rfl
  go_wp2
  go_ret
  exact ⟨z0, z1, y0, y1, rfl, ⟨HYL0.out, HMM0.out, HZZ0.out, K_L0.out⟩, ⟨HYL1.out, HMM1.out, HZZ1.out, K_L1.out⟩, HOFF2.out⟩


theorem sizh_LabelS : (R_Label).size = 2 := rfl
set_option maxRecDepth 100000 in
set_option maxHeartbeats 1600000 in
theorem held_LabelS {L : List (D_Label)} {a : Option Addr} {cap : Nat} {W : World} {k k' : Int} (h0 : 0 ≤ k) (h1 : k' ≤ 4611686018427387904) (hm : mmL R_Label L k k') (h : RdSl R_Label W W.heap.size L a cap) : Calls Try.prog 153 #[.slice a L.length cap, .int .i64 k] W (HeldC k' W) := by
  have hn : L.length ≤ 9223372036854775807 := by have h1 := h.1; have h2 := h.2.1; unfold maxLen at h2; omega
  have H := Lib.hid h
  have HM := Lib.hid hm
  clear h hm
  go_enter Try.func153, Try.ntmps153
  go_wp2
  go_loopw [5, 1] (fun i q wr => ∃ j : Nat, j ≤ L.length ∧ i = .int .i64 j ∧ (∃ z : Int, q = .int .i64 z ∧ 0 ≤ z ∧ mmL R_Label (L.drop j) z k') ∧ Below W.heap.size W wr) (fun i _ _ => L.length - (intOf i).toNat)
  case atStart => exact ⟨0, Nat.zero_le _, rfl, ⟨k, rfl, h0, HM.out⟩, Below.refl _ _⟩
  case round =>
    obtain ⟨j, hj, rfl, ⟨z, rfl, hz, hmz⟩, hB⟩ := hrel
    have HB := Lib.hid hB
    have hsz := hB.size
    by_cases hlt : j < L.length
    · obtain ⟨⟨x0, x1⟩, hx⟩ := el_some hlt
      obtain ⟨k1, hxm, hmn⟩ := mmL_drop hx hmz
      have hzb := mmL_le R_Label_mn hmn
      have hxb := R_Label_mn _ _ _ hxm
      obtain ⟨g, o, us, rfl, hg, hu, hr⟩ := (H.out.below R_Label_ok hB).at_ hx
      have HMN := Lib.hid hmn
      have hi0 : (0 : Int) ≤ (j : Int) := Int.natCast_nonneg _
      have hi1 : (j : Int) < (L.length : Int) := by omega
      obtain rfl := rd_Label hr
      obtain ⟨rfl, rfl, hk1⟩ := mme_Label hxm
      have e0 := cells_at hu 0 rfl
      have e1 := cells_at hu 1 rfl
      simp only [sizh_LabelS] at e0 e1
      simp only [← Nat.add_assoc, Nat.add_zero] at e0 e1
      have hfin : k1 ≤ 4611686018427387904 := by omega
      have HK1 := Lib.hid hk1
      clear hB hx hu hmz hmn hxm
      have HB2 := Lib.hid HB.out
      go_wp2
      go_roundw
      case rel => exact ⟨j + 1, by omega, by go_num, ⟨_, rfl, by omega, by rw [← HK1.out]; exact HMN.out⟩, HB2.out⟩
      case measure => simp [intOf]; omega
    · obtain rfl : j = L.length := by omega
      have HE := Lib.hid (mmL_end hmz)
      clear hmz hB
      go_wp2
      go_ret
      exact ⟨by rw [HE.out]; rfl, HB.out⟩


theorem sizh_LabelSS : ((Sl R_Label)).size = 1 := rfl
set_option maxRecDepth 100000 in
set_option maxHeartbeats 1600000 in
theorem held_LabelSS {L : List (List (D_Label))} {a : Option Addr} {cap : Nat} {W : World} {k k' : Int} (h0 : 0 ≤ k) (h1 : k' ≤ 4611686018427387904) (hm : mmL (Sl R_Label) L k k') (h : RdSl (Sl R_Label) W W.heap.size L a cap) : Calls Try.prog 140 #[.slice a L.length cap, .int .i64 k] W (HeldC k' W) := by
  have hn : L.length ≤ 9223372036854775807 := by have h1 := h.1; have h2 := h.2.1; unfold maxLen at h2; omega
  have H := Lib.hid h
  have HM := Lib.hid hm
  clear h hm
  go_enter Try.func140, Try.ntmps140
  go_wp2
  go_loopw [5, 1] (fun i q wr => ∃ j : Nat, j ≤ L.length ∧ i = .int .i64 j ∧ (∃ z : Int, q = .int .i64 z ∧ 0 ≤ z ∧ mmL (Sl R_Label) (L.drop j) z k') ∧ Below W.heap.size W wr) (fun i _ _ => L.length - (intOf i).toNat)
  case atStart => exact ⟨0, Nat.zero_le _, rfl, ⟨k, rfl, h0, HM.out⟩, Below.refl _ _⟩
  case round =>
    obtain ⟨j, hj, rfl, ⟨z, rfl, hz, hmz⟩, hB⟩ := hrel
    have HB := Lib.hid hB
    have hsz := hB.size
    by_cases hlt : j < L.length
    · obtain ⟨x, hx⟩ := el_some hlt
      obtain ⟨k1, hxm, hmn⟩ := mmL_drop hx hmz
      have hzb := mmL_le (Sl_mn R_Label_mn) hmn
      have hxb := (Sl_mn R_Label_mn) _ _ _ hxm
      obtain ⟨g, o, us, rfl, hg, hu, hr⟩ := (H.out.below (Sl_ok R_Label_ok) hB).at_ hx
      have HMN := Lib.hid hmn
      have hi0 : (0 : Int) ≤ (j : Int) := Int.natCast_nonneg _
      have hi1 : (j : Int) < (L.length : Int) := by omega
      obtain ⟨a1, c1, rfl, k_x⟩ := hr
      have e0 : wr.cell? ⟨g, o + j, none⟩ = some (.slice a1 x.length c1) := by simpa [sizh_LabelSS] using hu 0 _ rfl
      have HK := Lib.hid (k_x.more R_Label_ok hsz)
      have HXM := Lib.hid (show mmL R_Label x z k1 from hxm)
      have hk1 : k1 ≤ 4611686018427387904 := by omega
      have hk0 : 0 ≤ k1 := by omega
      clear hB hx hu hmz hmn hxm k_x
      go_wp2_with fail
      refine (held_LabelS hz hk1 HXM.out HK.out).mono ?_
      intro e w1 h
      obtain ⟨rfl, hb⟩ := heldC_elim h
      have HB2 := Lib.hid (HB.out.trans (hb.mono hsz))
      clear h hb
      go_wp2
      go_roundw
      case rel => exact ⟨j + 1, by omega, by go_num, ⟨_, rfl, by omega, HMN.out⟩, HB2.out⟩
      case measure => simp [intOf]; omega
    · obtain rfl : j = L.length := by omega
      have HE := Lib.hid (mmL_end hmz)
      clear hmz hB
      go_wp2
      go_ret
      exact ⟨by rw [HE.out]; rfl, HB.out⟩


theorem sizh_JobS : (R_Job).size = 9 := rfl
set_option maxRecDepth 100000 in
set_option maxHeartbeats 1600000 in
theorem held_JobS {L : List (D_Job)} {a : Option Addr} {cap : Nat} {W : World} {k k' : Int} (h0 : 0 ≤ k) (h1 : k' ≤ 4611686018427387904) (hm : mmL R_Job L k k') (h : RdSl R_Job W W.heap.size L a cap) : Calls Try.prog 141 #[.slice a L.length cap, .int .i64 k] W (HeldC k' W) := by
  have hn : L.length ≤ 9223372036854775807 := by have h1 := h.1; have h2 := h.2.1; unfold maxLen at h2; omega
  have H := Lib.hid h
  have HM := Lib.hid hm
  clear h hm
  go_enter Try.func141, Try.ntmps141
  go_wp2
  go_loopw [5, 1] (fun i q wr => ∃ j : Nat, j ≤ L.length ∧ i = .int .i64 j ∧ (∃ z : Int, q = .int .i64 z ∧ 0 ≤ z ∧ mmL R_Job (L.drop j) z k') ∧ Below W.heap.size W wr) (fun i _ _ => L.length - (intOf i).toNat)
  case atStart => exact ⟨0, Nat.zero_le _, rfl, ⟨k, rfl, h0, HM.out⟩, Below.refl _ _⟩
  case round =>
    obtain ⟨j, hj, rfl, ⟨z, rfl, hz, hmz⟩, hB⟩ := hrel
    have HB := Lib.hid hB
    have hsz := hB.size
    by_cases hlt : j < L.length
    · obtain ⟨⟨⟨x0, x1⟩, x2, x3, x4, x5, x6, x7, L0⟩, hx⟩ := el_some hlt
      obtain ⟨k1, hxm, hmn⟩ := mmL_drop hx hmz
      have hzb := mmL_le R_Job_mn hmn
      have hxb := R_Job_mn _ _ _ hxm
      obtain ⟨g, o, us, rfl, hg, hu, hr⟩ := (H.out.below R_Job_ok hB).at_ hx
      have HMN := Lib.hid hmn
      have hi0 : (0 : Int) ≤ (j : Int) := Int.natCast_nonneg _
      have hi1 : (j : Int) < (L.length : Int) := by omega
      obtain ⟨a0, c0, rfl, k_L0⟩ := rd_Job hr
      obtain ⟨z0, rfl, rfl, rfl, rfl, rfl, rfl, rfl, rfl, m_0, hk1⟩ := mme_Job hxm
      have e0 := cells_at hu 0 rfl
      have e1 := cells_at hu 1 rfl
      have e2 := cells_at hu 2 rfl
      have e3 := cells_at hu 3 rfl
      have e4 := cells_at hu 4 rfl
      have e5 := cells_at hu 5 rfl
      have e6 := cells_at hu 6 rfl
      have e7 := cells_at hu 7 rfl
      have e8 := cells_at hu 8 rfl
      simp only [sizh_JobS] at e0 e1 e2 e3 e4 e5 e6 e7 e8
      simp only [← Nat.add_assoc, Nat.add_zero] at e0 e1 e2 e3 e4 e5 e6 e7 e8
      have HXM0 := Lib.hid m_0
      have hle0 := mmL_le I_mn m_0
      have K_L0 := Lib.hid (k_L0.more I_ok hsz)
      have hfin : k1 ≤ 4611686018427387904 := by omega
      have HK1 := Lib.hid hk1
      clear hB hx hu hmz hmn hxm k_L0 m_0
      go_wp2_with fail
      refine (held_Int64S (k := x0 + 1 + 1 + 1 + 1 + 1 + 1 + 1 + 1) (k' := z0) (by omega) (by omega) HXM0.out K_L0.out).mono ?_
      intro e w1 h
      obtain ⟨rfl, hb⟩ := heldC_elim h
      have HBc0 := Lib.hid hb
      have hpos0 : 0 ≤ z0 := by omega
      clear h hb
      have HB2 := Lib.hid (HB.out.trans (HBc0.out.mono hsz))
      go_wp2
      go_roundw
      case rel => exact ⟨j + 1, by omega, by go_num, ⟨_, rfl, by omega, by rw [← HK1.out]; exact HMN.out⟩, HB2.out⟩
      case measure => simp [intOf]; omega
    · obtain rfl : j = L.length := by omega
      have HE := Lib.hid (mmL_end hmz)
      clear hmz hB
      go_wp2
      go_ret
      exact ⟨by rw [HE.out]; rfl, HB.out⟩

set_option maxRecDepth 100000 in
set_option maxHeartbeats 1600000 in
theorem held_Pool {L0 : List (List (D_Label))} {L1 : List (D_Job)} {x2 : Int} {a0 : Option Addr} {c0 : Nat} {a1 : Option Addr} {c1 : Nat} {W : World} {k : Int} {z0 : Int} {z1 : Int} (h0 : 0 ≤ k) (h1 : z1 ≤ 4611686018427387904) (hm0 : mmL (Sl R_Label) L0 k z0) (hm1 : mmL R_Job L1 z0 z1) (h_L0 : RdSl (Sl R_Label) W W.heap.size L0 a0 c0) (h_L1 : RdSl R_Job W W.heap.size L1 a1 c1) : Calls Try.prog 113 #[.agg #[.slice a0 L0.length c0, .slice a1 L1.length c1, .int .i64 x2], .int .i64 k] W (HeldC z1 W) := by
  have H_L0 := Lib.hid h_L0
  have H_L1 := Lib.hid h_L1
  have HM0 := Lib.hid hm0
  have hl0 := mmL_le (Sl_mn R_Label_mn) hm0
  have HM1 := Lib.hid hm1
  have hl1 := mmL_le R_Job_mn hm1
  clear h_L0 h_L1 hm0 hm1
  have HB0 := Lib.hid (show Below W.heap.size W (W.alloc (.cells #[.slice a0 L0.length c0, .slice a1 L1.length c1, .int .i64 x2] 65)) from (Below.refl _ _).alloc (Nat.le_refl _) _)
  have hP := Blk.new W 65 #[.slice a0 L0.length c0, .slice a1 L1.length c1, .int .i64 x2]
  have HP0 := Lib.hid hP
  have hz0 : W.heap.size ≤ (W.alloc (.cells #[.slice a0 L0.length c0, .slice a1 L1.length c1, .int .i64 x2] 65)).heap.size := HB0.out.size
  clear hP
  go_enter Try.func113, Try.ntmps113
  go_wp2_with fail
  refine (held_LabelSS (k := k) (k' := z0) (by omega) (by omega) HM0.out ((H_L0.out.below (Sl_ok R_Label_ok) HB0.out).more (Sl_ok R_Label_ok) hz0)).mono ?_
  intro e w1 h
  obtain ⟨rfl, hb⟩ := heldC_elim h
  have HP1 := Lib.hid (HP0.out.call hb)
  have HB1 := Lib.hid (HB0.out.trans (hb.mono hz0))
  have hz1 : W.heap.size ≤ w1.heap.size := HB1.out.size
  clear h hb
  have p1_0 := HP1.out.at_ 0 rfl
  have p1_1 := HP1.out.at_ 1 rfl
  have hpos0 : (0 : Int) ≤ z0 := by omega
  go_wp2_with fail
  refine (held_JobS (k := z0) (k' := z1) (by omega) (by omega) HM1.out ((H_L1.out.below R_Job_ok HB1.out).more R_Job_ok hz1)).mono ?_
  intro e w2 h
  obtain ⟨rfl, hb⟩ := heldC_elim h
  have HP2 := Lib.hid (HP1.out.call hb)
  have HB2 := Lib.hid (HB1.out.trans (hb.mono hz1))
  have hz2 : W.heap.size ≤ w2.heap.size := HB2.out.size
  clear h hb
  have p2_0 := HP2.out.at_ 0 rfl
  have p2_1 := HP2.out.at_ 1 rfl
  have hpos1 : (0 : Int) ≤ z1 := by omega
  go_wp2
  go_ret
  exact ⟨rfl, HB2.out⟩

set_option maxRecDepth 100000 in
set_option maxHeartbeats 1600000 in
theorem mark_PoolOut {L0 : List (List (D_Label))} {L1 : List (D_Job)} {x2 : Int} {x3 : Int} {x4 : Int} {a0 : Option Addr} {c0 : Nat} {a1 : Option Addr} {c1 : Nat} {W : World} {T0 : Nat → Prop} {T1 : Nat → Prop} {k : Int} (h0 : 0 ≤ k) (h1 : k + (sumL ((Sl R_Label)).cm L0 : Nat) + (sumL (R_Job).cm L1 : Nat) ≤ 4611686018427387904) (hS0 : ∀ q, T0 q → q < W.heap.size) (hS1 : ∀ q, T1 q → q < W.heap.size) (hd0_1 : ∀ q, T0 q → T1 q → False) (h_L0 : OwSl (Sl R_Label) W T0 L0 a0 c0) (h_L1 : OwSl R_Job W T1 L1 a1 c1) : Calls Try.prog 49 #[.agg #[.slice a0 L0.length c0, .slice a1 L1.length c1, .int .i64 x2, .int .i64 x3, .int .i64 x4], .int .i64 k] W (MarkV_Pool L0 L1 x2 a0 c0 a1 c1 T0 T1 k W) := by
  have HOFF0 := Lib.hid (show Off (fun q => T0 q ∨ T1 q) W (W.alloc (.cells #[.slice a0 L0.length c0, .slice a1 L1.length c1, .int .i64 x2, .int .i64 x3, .int .i64 x4] 71)) from (Off.refl _ _).alloc _)
  have hz0 : W.heap.size < (W.alloc (.cells #[.slice a0 L0.length c0, .slice a1 L1.length c1, .int .i64 x2, .int .i64 x3, .int .i64 x4] 71)).heap.size := by simp
  have hP := Blk.new W 71 #[.slice a0 L0.length c0, .slice a1 L1.length c1, .int .i64 x2, .int .i64 x3, .int .i64 x4]
  have HP0 := Lib.hid hP
  clear hP
  have K_L0 := Lib.hid (OwSl.keep (Sl_ok R_Label_ok) (W' := W.alloc (.cells #[.slice a0 L0.length c0, .slice a1 L1.length c1, .int .i64 x2, .int .i64 x3, .int .i64 x4] 71)) h_L0 (fun q hq => Below.heap_alloc _ _ _ (hS0 q hq)))
  have HS0 := Lib.hid hS0
  have K_L1 := Lib.hid (OwSl.keep R_Job_ok (W' := W.alloc (.cells #[.slice a0 L0.length c0, .slice a1 L1.length c1, .int .i64 x2, .int .i64 x3, .int .i64 x4] 71)) h_L1 (fun q hq => Below.heap_alloc _ _ _ (hS1 q hq)))
  have HS1 := Lib.hid hS1
  have HD0_1 := Lib.hid hd0_1
  clear h_L0 h_L1 hS0 hS1 hd0_1
  go_enter Try.func49, Try.ntmps49
  go_wp2_with fail
  refine (mark_Pool (W := W.alloc (.cells #[.slice a0 L0.length c0, .slice a1 L1.length c1, .int .i64 x2, .int .i64 x3, .int .i64 x4] 71)) h0 h1 (fun q hq => Nat.lt_trans (HS0.out q hq) hz0) (fun q hq => Nat.lt_trans (HS1.out q hq) hz0) HD0_1.out K_L0.out K_L1.out).mono ?_
  intro e w1 h
  obtain ⟨z0, z1, y0, y1, rfl, hh0, hh1, hoff⟩ := h
  have HH0 := Lib.hid hh0
  have HH1 := Lib.hid hh1
  have HOFF1 := Lib.hid (HOFF0.out.trans hoff)
  clear hoff hh0 hh1
  go_wp2
  go_ret
  exact ⟨z0, z1, y0, y1, rfl, HH0.out, HH1.out, HOFF1.out⟩
set_option maxRecDepth 100000 in
set_option maxHeartbeats 1600000 in
theorem held_PoolOut {L0 : List (List (D_Label))} {L1 : List (D_Job)} {x2 : Int} {x3 : Int} {x4 : Int} {a0 : Option Addr} {c0 : Nat} {a1 : Option Addr} {c1 : Nat} {W : World} {k : Int} {z0 : Int} {z1 : Int} (h0 : 0 ≤ k) (h1 : z1 ≤ 4611686018427387904) (hm0 : mmL (Sl R_Label) L0 k z0) (hm1 : mmL R_Job L1 z0 z1) (h_L0 : RdSl (Sl R_Label) W W.heap.size L0 a0 c0) (h_L1 : RdSl R_Job W W.heap.size L1 a1 c1) : Calls Try.prog 50 #[.agg #[.slice a0 L0.length c0, .slice a1 L1.length c1, .int .i64 x2, .int .i64 x3, .int .i64 x4], .int .i64 k] W (HeldC z1 W) := by
  have HM0 := Lib.hid hm0
  have hl0 := mmL_le (Sl_mn R_Label_mn) hm0
  have H_L0 := Lib.hid h_L0
  have HM1 := Lib.hid hm1
  have hl1 := mmL_le R_Job_mn hm1
  have H_L1 := Lib.hid h_L1
  clear h_L0 h_L1 hm0 hm1
  have HB0 := Lib.hid (show Below W.heap.size W (W.alloc (.cells #[.slice a0 L0.length c0, .slice a1 L1.length c1, .int .i64 x2, .int .i64 x3, .int .i64 x4] 71)) from (Below.refl _ _).alloc (Nat.le_refl _) _)
  have hP := Blk.new W 71 #[.slice a0 L0.length c0, .slice a1 L1.length c1, .int .i64 x2, .int .i64 x3, .int .i64 x4]
  have HP0 := Lib.hid hP
  have hz0 : W.heap.size ≤ (W.alloc (.cells #[.slice a0 L0.length c0, .slice a1 L1.length c1, .int .i64 x2, .int .i64 x3, .int .i64 x4] 71)).heap.size := HB0.out.size
  clear hP
  go_enter Try.func50, Try.ntmps50
  go_wp2_with fail
  refine (held_Pool (k := k) h0 h1 HM0.out HM1.out ((H_L0.out.below (Sl_ok R_Label_ok) HB0.out).more (Sl_ok R_Label_ok) hz0) ((H_L1.out.below R_Job_ok HB0.out).more R_Job_ok hz0)).mono ?_
  intro e w1 h
  obtain ⟨rfl, hb⟩ := heldC_elim h
  have HB1 := Lib.hid (HB0.out.trans (hb.mono hz0))
  have hpos : (0 : Int) ≤ z1 := by omega
  clear h hb
  go_wp2
  go_ret
  exact ⟨rfl, HB1.out⟩

end Go.Proofs.Ytjpkeofpcpaoaaa.RepC
