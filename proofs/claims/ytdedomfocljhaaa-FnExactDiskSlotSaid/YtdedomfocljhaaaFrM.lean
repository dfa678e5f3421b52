/- The laws' data: contracts. -/
import Derived.Test.YtdedomfocljhaaaTk
import Derived.Test.YtdedomfocljhaaaTk
import Derived.Test.YtdedomfocljhaaaFrT
import Derived.Test.YtdedomfocljhaaaHeld
import Derived.Test.YtdedomfocljhaaaTk
namespace Go.Proofs.Ytdedomfocljhaaa.RepC
open Go.RowKit RowC ValC
set_option linter.unusedVariables false
set_option linter.unusedSimpArgs false

theorem mmk_Frame {k : Int} : R_Frame.mm (k, (mtI (k + 1))) k (k + 1 + 1) := by
  dsimp only [R_Frame, St, Pr, I, atom, Sl]
  exact ⟨k + 1, ⟨by omega, by omega⟩, ⟨rfl, by omega⟩⟩
theorem mme_Frame {k k' : Int} {x0 : Int} {x1 : ByteArray} (h : R_Frame.mm (x0, x1) k k') : x0 = k ∧ x1 = mtI (k + 1) ∧ k' = k + 1 + 1 := by
  dsimp only [R_Frame, St, Pr, I, atom, Sl] at h
  obtain ⟨z1, h1, g1⟩ := h
  obtain ⟨e0, f0⟩ := h1
  have e0 : x0 = _ := e0
  obtain ⟨e1, f1⟩ := g1
  have e1 : x1 = _ := e1
  exact ⟨by omega, by rw [e1] <;> exact congrArg mtI (by omega), by omega⟩
theorem R_Frame_mn : Mn R_Frame := (Pr_mn I_mn St_mn)


theorem sizm_FrameS : (R_Frame).size = 2 := rfl
set_option maxRecDepth 100000 in
set_option maxHeartbeats 3200000 in
theorem mark_FrameS {L : List (D_Frame)} {a : Option Addr} {cap : Nat} {W : World} {S : Nat → Prop} {k : Int} (h0 : 0 ≤ k) (h1 : k + (sumL (R_Frame).cm L : Nat) ≤ 4611686018427387904) (hS : ∀ i, S i → i < W.heap.size) (h : OwSl R_Frame W S L a cap) : Calls Try.prog 20 #[.slice a L.length cap, .int .i64 k] W (MarkR R_Frame S L a cap k W) := by
  have hcap := h.1
  have hmax := h.2.1
  have hn : L.length ≤ 9223372036854775807 := by have h2 := h.2.1; unfold maxLen at h2; omega
  have H := Lib.hid h
  have HCAP := Lib.hid hcap
  have HMAX := Lib.hid hmax
  clear h hcap hmax
  rcases Nat.eq_zero_or_pos L.length with hz | hpos
  · have HR := Lib.hid (MarkR.none_ (k := k) H.out hz)
    have HZ := Lib.hid hz
    rw [hz]
    clear hz
    go_enter Try.func20, Try.ntmps20
    go_wp2
    go_loopw [5, 1] (fun i q wr => i = .int .i64 0 ∧ q = .int .i64 k ∧ wr = W) (fun i _ _ => 0)
    case atStart => exact ⟨rfl, rfl, rfl⟩
    case round =>
      obtain ⟨rfl, rfl, rfl⟩ := hrel
      go_wp2
      go_ret
      exact HR.out
  · obtain ⟨g, Sf, rfl, hrow⟩ := H.out.row hpos
    have HM := Lib.hid (Mkd.start (k := k) hrow)
    clear hrow
    go_enter Try.func20, Try.ntmps20
    go_wp2
    go_loopw [5, 1] (fun i q wr => ∃ j : Nat, j ≤ L.length ∧ i = .int .i64 j ∧ ∃ (M : List (D_Frame)) (z : Int), q = .int .i64 z ∧ Mkd R_Frame W wr S L g Sf k z j M) (fun i _ _ => L.length - (intOf i).toNat)
    case atStart => exact ⟨0, Nat.zero_le _, rfl, _, _, rfl, HM.out⟩
    case round =>
      obtain ⟨j, hj, rfl, M, z, rfl, hM⟩ := hrel
      have HM2 := Lib.hid hM
      have hSw : ∀ i, S i → i < wr.heap.size := fun i hi => Nat.lt_of_lt_of_le (hS i hi) hM.off.size
      have HSW := Lib.hid hSw
      by_cases hlt : j < L.length
      · obtain ⟨⟨x0, x1⟩, hx⟩ := el_some hlt
        have HX := Lib.hid hx
        have hcm := sumL_take (R_Frame).cm hx
        have hle := sumL_take_le (R_Frame).cm L (j + 1)
        have hnum := hM.num
        obtain ⟨us, hu, hr⟩ := hM.el hx
        obtain ⟨rfl, _⟩ := ow0_Frame hr
        have hgl : g < wr.heap.size := hSw g hM.row.own
        have hi0 : (0 : Int) ≤ (j : Int) := Int.natCast_nonneg _
        have hi1 : (j : Int) < (L.length : Int) := by omega
        have hz0 : 0 ≤ z := by omega
        have e0 : wr.cell? ⟨g, j * 2, none⟩ = some (.int .i64 x0) := by simpa [sizm_FrameS, Nat.add_assoc] using hu 0 _ rfl
        have e1 : wr.cell? ⟨g, j * 2 + 1, none⟩ = some (.string x1) := by simpa [sizm_FrameS, Nat.add_assoc] using hu 1 _ rfl
        have s0 := hM.row.soft (j * 2)
        have s1 := hM.row.soft (j * 2 + 1)
        have hcx : R_Frame.cm (x0, x1) = 2 := by first | (simp only [R_Frame, Pr, I, St, atom, Sl]; done) | (simp only [R_Frame, Pr, I, St, atom, Sl]; omega)
        rw [hcm, hcx] at hle
        have hb1 : z + ((2 : Nat) : Int) ≤ 4611686018427387904 := by omega
        have hne : ¬ Sf j g := fun hg => (HM2.out.row.sub j g hg).2 rfl
        have HU0 := Lib.hid (Upd.refl wr g (j * 2) ((j + 1) * 2) (Sf j))
        have HF0 := Lib.hid (Off.refl S wr)
        clear hM hSw hx hu hcm hle hnum
        have hc := putCells_cells g [.int .i64 (z)] wr (j * 2) (fun p hp => by
          match p, hp with
          | 0, _ => exact ⟨_, by simpa [Nat.add_assoc] using e0⟩
          | _ + 1, hp => (simp at hp) <;> omega)
        have d0 : (putCells wr g (j * 2) [.int .i64 (z)]).cell? ⟨g, j * 2, none⟩ = some (.int .i64 (z)) := by simpa [Nat.add_assoc] using hc 0 _ rfl
        have d1 : (putCells wr g (j * 2) [.int .i64 (z)]).cell? ⟨g, j * 2 + 1, none⟩ = some (.string x1) := (putCells_other g _ wr _ (by first | (simp; done) | (simp; omega))).trans e1
        have t0 : (putCells wr g (j * 2) [.int .i64 (z)]).frozen? ⟨g, j * 2, none⟩ = false := (putCells_frozen g _ _ wr _).trans s0
        have t1 : (putCells wr g (j * 2) [.int .i64 (z)]).frozen? ⟨g, j * 2 + 1, none⟩ = false := (putCells_frozen g _ _ wr _).trans s1
        have HU1 := Lib.hid (HU0.out.trans (Upd.put wr (Sf j) (g := g) (o := j * 2) (cs := [.int .i64 (z)]) ⟨by omega, by first | (simp; done) | (simp; omega)⟩))
        have HF1 := Lib.hid (HF0.out.trans ((putCells_off g [.int .i64 (z)] wr (j * 2)).more (fun x e => by rw [e]; exact HM2.out.row.own)))
        clear hc
        have hbz : 0 ≤ z + 1 ∧ z + 1 ≤ 4611686018427387904 := by omega
        have D0 := Lib.hid d0
        have F0 := Lib.hid t0
        have D1 := Lib.hid d1
        have F1 := Lib.hid t1
        clear d0 t0 d1 t1
        go_wp2_with fail
        refine (marktext_v (z + 1) ((putCells wr g (j * 2) [.int .i64 (z)])) hbz.1 hbz.2).mono ?_
        intro e wt1 h
        obtain ⟨rfl, hms, hb⟩ := mkT_elim h
        have HMS1 := Lib.hid hms
        have hgg : g < (putCells wr g (j * 2) [.int .i64 (z)]).heap.size := Nat.lt_of_lt_of_le hgl HF1.out.size
        have n0 : wt1.cell? ⟨g, j * 2, none⟩ = some (.int .i64 (z)) := (hb.cell (p := ⟨g, j * 2, none⟩) hgg).trans D0.out
        have n1 : wt1.cell? ⟨g, j * 2 + 1, none⟩ = some (.string x1) := (hb.cell (p := ⟨g, j * 2 + 1, none⟩) hgg).trans D1.out
        have m0 : wt1.frozen? ⟨g, j * 2, none⟩ = false := (hb.frozen (p := ⟨g, j * 2, none⟩) hgg).trans F0.out
        have m1 : wt1.frozen? ⟨g, j * 2 + 1, none⟩ = false := (hb.frozen (p := ⟨g, j * 2 + 1, none⟩) hgg).trans F1.out
        have HU2 := Lib.hid (HU1.out.trans (Upd.below hb hgg))
        have HF2 := Lib.hid (HF1.out.of_below hb)
        clear h hb hgg hbz hms D0 F0 D1 F1
        have e0 := n0
        have s0 := m0
        have e1 := n1
        have s1 := m1
        clear n0 m0 n1 m1
        have hc := putCells_cells g [.string (mtI (z + 1))] wt1 (j * 2 + 1) (fun p hp => by
          match p, hp with
          | 0, _ => exact ⟨_, by simpa [Nat.add_assoc] using e1⟩
          | _ + 1, hp => (simp at hp) <;> omega)
        have d1 : (putCells wt1 g (j * 2 + 1) [.string (mtI (z + 1))]).cell? ⟨g, j * 2 + 1, none⟩ = some (.string (mtI (z + 1))) := by simpa [Nat.add_assoc] using hc 0 _ rfl
        have d0 : (putCells wt1 g (j * 2 + 1) [.string (mtI (z + 1))]).cell? ⟨g, j * 2, none⟩ = some (.int .i64 (z)) := (putCells_other g _ wt1 _ (by first | (simp; done) | (simp; omega))).trans e0
        have t0 : (putCells wt1 g (j * 2 + 1) [.string (mtI (z + 1))]).frozen? ⟨g, j * 2, none⟩ = false := (putCells_frozen g _ _ wt1 _).trans s0
        have t1 : (putCells wt1 g (j * 2 + 1) [.string (mtI (z + 1))]).frozen? ⟨g, j * 2 + 1, none⟩ = false := (putCells_frozen g _ _ wt1 _).trans s1
        have HU3 := Lib.hid (HU2.out.trans (Upd.put wt1 (Sf j) (g := g) (o := j * 2 + 1) (cs := [.string (mtI (z + 1))]) ⟨by omega, by first | (simp; done) | (simp; omega)⟩))
        have HF3 := Lib.hid (HF2.out.trans ((putCells_off g [.string (mtI (z + 1))] wt1 (j * 2 + 1)).more (fun x e => by rw [e]; exact HM2.out.row.own)))
        clear hc
        have hcf : CellsAt (putCells wt1 g (j * 2 + 1) [.string (mtI (z + 1))]) g (j * 2) [.int .i64 (z), .string (mtI (z + 1))] := CellsAt.cons.2 ⟨d0, CellsAt.cons.2 ⟨d1, CellsAt.nil⟩⟩
        have HSTEP := Lib.hid (HM2.out.step R_Frame_ok (w' := (putCells wt1 g (j * 2 + 1) [.string (mtI (z + 1))])) (y := (z, (mtI (z + 1)))) (q' := z + 1 + 1) HSW.out HX.out HU3.out HF3.out hcf (mkow_Frame HMS1.out) (mmk_Frame) (by rw [hcx]; omega))
        clear d0 t0 d1 t1
        have hzb : 0 ≤ z + 1 + 1 ∧ z + 1 + 1 ≤ 4611686018427387904 := by omega
        clear hcf hcx
        go_wp2
        go_roundw
        case rel => exact ⟨j + 1, by omega, by go_num, _, _, rfl, by first | exact HSTEP.out | simpa [putCells, Nat.add_assoc, Int.add_assoc] using HSTEP.out⟩
        case measure => simp [intOf]; omega
      · obtain rfl : j = L.length := by omega
        have HR := Lib.hid (HM2.out.done HCAP.out HMAX.out)
        clear hM hSw
        go_wp2
        go_ret
        exact HR.out

/-- a struct by value, marked in its slices -/
def MarkV_LogOut (L0 : List (D_Frame)) (x1 : Int) (x2 : Int) (a0 : Option Addr) (c0 : Nat) (T0 : Nat → Prop) (k : Int) (W : World) (e : Ending) (w' : World) : Prop := ∃ z0 : Int, ∃ (y0 : List (D_Frame)), e = .returned (.int .i64 z0) ∧ (y0.length = L0.length ∧ mmL R_Frame y0 k z0 ∧ z0 = k + (sumL (R_Frame).cm L0 : Nat) ∧ OwSl R_Frame w' T0 y0 a0 c0) ∧ Off (fun q => T0 q) W w'
theorem sizh_FrameS : (R_Frame).size = 2 := rfl
set_option maxRecDepth 100000 in
set_option maxHeartbeats 1600000 in
theorem held_FrameS {L : List (D_Frame)} {a : Option Addr} {cap : Nat} {W : World} {k k' : Int} (h0 : 0 ≤ k) (h1 : k' ≤ 4611686018427387904) (hm : mmL R_Frame L k k') (h : RdSl R_Frame W W.heap.size L a cap) : Calls Try.prog 21 #[.slice a L.length cap, .int .i64 k] W (HeldC k' W) := by
  have hn : L.length ≤ 9223372036854775807 := by have h1 := h.1; have h2 := h.2.1; unfold maxLen at h2; omega
  have H := Lib.hid h
  have HM := Lib.hid hm
  clear h hm
  go_enter Try.func21, Try.ntmps21
  go_wp2
  go_loopw [5, 1] (fun i q wr => ∃ j : Nat, j ≤ L.length ∧ i = .int .i64 j ∧ (∃ z : Int, q = .int .i64 z ∧ 0 ≤ z ∧ mmL R_Frame (L.drop j) z k') ∧ Below W.heap.size W wr) (fun i _ _ => L.length - (intOf i).toNat)
  case atStart => exact ⟨0, Nat.zero_le _, rfl, ⟨k, rfl, h0, HM.out⟩, Below.refl _ _⟩
  case round =>
    obtain ⟨j, hj, rfl, ⟨z, rfl, hz, hmz⟩, hB⟩ := hrel
    have HB := Lib.hid hB
    have hsz := hB.size
    by_cases hlt : j < L.length
    · obtain ⟨⟨x0, x1⟩, hx⟩ := el_some hlt
      obtain ⟨k1, hxm, hmn⟩ := mmL_drop hx hmz
      have hzb := mmL_le R_Frame_mn hmn
      have hxb := R_Frame_mn _ _ _ hxm
      obtain ⟨g, o, us, rfl, hg, hu, hr⟩ := (H.out.below R_Frame_ok hB).at_ hx
      have HMN := Lib.hid hmn
      have hi0 : (0 : Int) ≤ (j : Int) := Int.natCast_nonneg _
      have hi1 : (j : Int) < (L.length : Int) := by omega
      obtain ⟨rfl, b_x1⟩ := rd_Frame hr
      obtain ⟨rfl, rfl, hk1⟩ := mme_Frame hxm
      have e0 := cells_at hu 0 rfl
      have e1 := cells_at hu 1 rfl
      simp only [sizh_FrameS] at e0 e1
      simp only [← Nat.add_assoc, Nat.add_zero] at e0 e1
      have hfin : k1 ≤ 4611686018427387904 := by omega
      have HK1 := Lib.hid hk1
      clear hB hx hu hmz hmn hxm
      have hgl : g < wr.heap.size := Nat.lt_of_lt_of_le hg hsz
      go_wp2_with fail
      refine wp_region_held_drew (S := (fun V => Below (wr).heap.size (wr) V)) (by kernel_rfl) ((Below.refl _ _).drew) (fun hHeld => ?_)
      refine tk 0 hHeld ?_
      refine tk 1 hHeld ?_
      refine tk 2 hHeld ?_
      refine tk 3 hHeld ?_
      refine tk 4 hHeld ?_ (hy := fun w hSw => by (try dsimp only at hSw); have k0 := (hSw.cell (p := ⟨g, o + j * 2 + 1, none⟩) hgl).trans e1; clear hSw; go_simp; try with_reducible rfl)
      refine tk 5 hHeld ?_
      refine rd1 6 (fun K hK => ?_)
      go_simp
      go_at_call 54
      refine (marktext_v (x0 + 1) _ (by omega) (by omega)).mono ?_
      intro e w1 h
      obtain ⟨rfl, hms, hb⟩ := mkT_elim h
      clear h hms
      refine hK.out _ _ (hHeld.trans (hb.mono hHeld.size)) (fun hHeld => ?_)
      clear hK K hb
      refine tk 7 hHeld ?_
      refine rd0 ?_
      have HF := Lib.hid hHeld
      clear hHeld
      have HB2 := Lib.hid (HB.out.trans (HF.out.mono hsz))
      go_wp2
      go_roundw
      case rel => exact ⟨j + 1, by omega, by go_num, ⟨_, rfl, by omega, by rw [← HK1.out]; exact HMN.out⟩, HB2.out⟩
      case measure => simp [intOf]; omega
    · obtain rfl : j = L.length := by omega
      have HE := Lib.hid (mmL_end hmz)
      clear hmz hB
      go_wp2
      go_ret
      exact ⟨by rw [HE.out]; rfl, HB.out⟩

end Go.Proofs.Ytdedomfocljhaaa.RepC
