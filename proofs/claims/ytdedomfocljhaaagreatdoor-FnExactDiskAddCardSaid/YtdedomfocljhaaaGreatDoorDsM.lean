/- The laws' data: contracts. -/
import Derived.Test.YtdedomfocljhaaaGreatDoorTk
import Derived.Test.YtdedomfocljhaaaGreatDoorTk
import Derived.Test.YtdedomfocljhaaaGreatDoorDsT
import Derived.Test.YtdedomfocljhaaaGreatDoorHeld
import Derived.Test.YtdedomfocljhaaaGreatDoorTk
namespace Go.Proofs.YtdedomfocljhaaaGreatDoor.RepC
open Go.RowKit RowC ValC
set_option linter.unusedVariables false
set_option linter.unusedSimpArgs false

theorem mmk_Region {k : Int} : R_Region.mm ((mtI (k)), (mtI (k + 1)), (mtI (k + 1 + 1))) k (k + 1 + 1 + 1) := by
  dsimp only [R_Region, St, Pr, I, atom, Sl]
  exact ⟨k + 1, ⟨rfl, by omega⟩, ⟨k + 1 + 1, ⟨rfl, by omega⟩, ⟨rfl, by omega⟩⟩⟩
theorem mme_Region {k k' : Int} {x0 : ByteArray} {x1 : ByteArray} {x2 : ByteArray} (h : R_Region.mm (x0, x1, x2) k k') : x0 = mtI (k) ∧ x1 = mtI (k + 1) ∧ x2 = mtI (k + 1 + 1) ∧ k' = k + 1 + 1 + 1 := by
  dsimp only [R_Region, St, Pr, I, atom, Sl] at h
  obtain ⟨z1, h1, g1⟩ := h
  obtain ⟨e0, f0⟩ := h1
  have e0 : x0 = _ := e0
  obtain ⟨z2, h2, g2⟩ := g1
  obtain ⟨e1, f1⟩ := h2
  have e1 : x1 = _ := e1
  obtain ⟨e2, f2⟩ := g2
  have e2 : x2 = _ := e2
  exact ⟨by rw [e0] <;> exact congrArg mtI (by omega), by rw [e1] <;> exact congrArg mtI (by omega), by rw [e2] <;> exact congrArg mtI (by omega), by omega⟩
theorem R_Region_mn : Mn R_Region := (Pr_mn St_mn (Pr_mn St_mn St_mn))


theorem sizm_RegionS : (R_Region).size = 3 := rfl
set_option maxRecDepth 100000 in
set_option maxHeartbeats 3200000 in
theorem mark_RegionS {L : List (D_Region)} {a : Option Addr} {cap : Nat} {W : World} {S : Nat → Prop} {k : Int} (h0 : 0 ≤ k) (h1 : k + (sumL (R_Region).cm L : Nat) ≤ 4611686018427387904) (hS : ∀ i, S i → i < W.heap.size) (h : OwSl R_Region W S L a cap) : Calls Tryz.prog 31 #[.slice a L.length cap, .int .i64 k] W (MarkR R_Region S L a cap k W) := by
  have hcap := h.1
  have hmax := h.2.1
  have hn : L.length ≤ 9223372036854775807 := by have h2 := h.2.1; unfold maxLen at h2; omega
  have H := Lib.hid h
  have HCAP := Lib.hid hcap
  have HMAX := Lib.hid hmax
  clear h hcap hmax
  rcases Nat.eq_zero_or_pos L.length with hz | hpos
  · have HR := Lib.hid (MarkR.none_ (k := k) H.out hz)
    have HZ := Lib.hid hz
    rw [hz]
    clear hz
    go_enter Tryz.func31, Tryz.ntmps31
    go_wp2
    go_loopw [5, 1] (fun i q wr => i = .int .i64 0 ∧ q = .int .i64 k ∧ wr = W) (fun i _ _ => 0)
    case atStart => exact ⟨rfl, rfl, rfl⟩
    case round =>
      obtain ⟨rfl, rfl, rfl⟩ := hrel
      go_wp2
      go_ret
      exact HR.out
  · obtain ⟨g, Sf, rfl, hrow⟩ := H.out.row hpos
    have HM := Lib.hid (Mkd.start (k := k) hrow)
    clear hrow
    go_enter Tryz.func31, Tryz.ntmps31
    go_wp2
    go_loopw [5, 1] (fun i q wr => ∃ j : Nat, j ≤ L.length ∧ i = .int .i64 j ∧ ∃ (M : List (D_Region)) (z : Int), q = .int .i64 z ∧ Mkd R_Region W wr S L g Sf k z j M) (fun i _ _ => L.length - (intOf i).toNat)
    case atStart => exact ⟨0, Nat.zero_le _, rfl, _, _, rfl, HM.out⟩
    case round =>
      obtain ⟨j, hj, rfl, M, z, rfl, hM⟩ := hrel
      have HM2 := Lib.hid hM
      have hSw : ∀ i, S i → i < wr.heap.size := fun i hi => Nat.lt_of_lt_of_le (hS i hi) hM.off.size
      have HSW := Lib.hid hSw
      by_cases hlt : j < L.length
      · obtain ⟨⟨x0, x1, x2⟩, hx⟩ := el_some hlt
        have HX := Lib.hid hx
        have hcm := sumL_take (R_Region).cm hx
        have hle := sumL_take_le (R_Region).cm L (j + 1)
        have hnum := hM.num
        obtain ⟨us, hu, hr⟩ := hM.el hx
        obtain ⟨rfl, _⟩ := ow0_Region hr
        have hgl : g < wr.heap.size := hSw g hM.row.own
        have hi0 : (0 : Int) ≤ (j : Int) := Int.natCast_nonneg _
        have hi1 : (j : Int) < (L.length : Int) := by omega
        have hz0 : 0 ≤ z := by omega
        have e0 : wr.cell? ⟨g, j * 3, none⟩ = some (.string x0) := by simpa [sizm_RegionS, Nat.add_assoc] using hu 0 _ rfl
        have e1 : wr.cell? ⟨g, j * 3 + 1, none⟩ = some (.string x1) := by simpa [sizm_RegionS, Nat.add_assoc] using hu 1 _ rfl
        have e2 : wr.cell? ⟨g, j * 3 + 2, none⟩ = some (.string x2) := by simpa [sizm_RegionS, Nat.add_assoc] using hu 2 _ rfl
        have s0 := hM.row.soft (j * 3)
        have s1 := hM.row.soft (j * 3 + 1)
        have s2 := hM.row.soft (j * 3 + 2)
        have hcx : R_Region.cm (x0, x1, x2) = 3 := by first | (simp only [R_Region, Pr, I, St, atom, Sl]; done) | (simp only [R_Region, Pr, I, St, atom, Sl]; omega)
        rw [hcm, hcx] at hle
        have hb1 : z + ((3 : Nat) : Int) ≤ 4611686018427387904 := by omega
        have hne : ¬ Sf j g := fun hg => (HM2.out.row.sub j g hg).2 rfl
        have HU0 := Lib.hid (Upd.refl wr g (j * 3) ((j + 1) * 3) (Sf j))
        have HF0 := Lib.hid (Off.refl S wr)
        clear hM hSw hx hu hcm hle hnum
        have hbz : 0 ≤ z ∧ z ≤ 4611686018427387904 := by omega
        go_wp2_with fail
        refine (marktext_v (z) (wr) hbz.1 hbz.2).mono ?_
        intro e wt1 h
        obtain ⟨rfl, hms, hb⟩ := mkT_elim h
        have HMS1 := Lib.hid hms
        have hgg : g < wr.heap.size := Nat.lt_of_lt_of_le hgl HF0.out.size
        have n0 : wt1.cell? ⟨g, j * 3, none⟩ = some (.string x0) := (hb.cell (p := ⟨g, j * 3, none⟩) hgg).trans e0
        have n1 : wt1.cell? ⟨g, j * 3 + 1, none⟩ = some (.string x1) := (hb.cell (p := ⟨g, j * 3 + 1, none⟩) hgg).trans e1
        have n2 : wt1.cell? ⟨g, j * 3 + 2, none⟩ = some (.string x2) := (hb.cell (p := ⟨g, j * 3 + 2, none⟩) hgg).trans e2
        have m0 : wt1.frozen? ⟨g, j * 3, none⟩ = false := (hb.frozen (p := ⟨g, j * 3, none⟩) hgg).trans s0
        have m1 : wt1.frozen? ⟨g, j * 3 + 1, none⟩ = false := (hb.frozen (p := ⟨g, j * 3 + 1, none⟩) hgg).trans s1
        have m2 : wt1.frozen? ⟨g, j * 3 + 2, none⟩ = false := (hb.frozen (p := ⟨g, j * 3 + 2, none⟩) hgg).trans s2
        have HU1 := Lib.hid (HU0.out.trans (Upd.below hb hgg))
        have HF1 := Lib.hid (HF0.out.of_below hb)
        clear h hb hgg hbz hms e0 s0 e1 s1 e2 s2
        have e0 := n0
        have s0 := m0
        have e1 := n1
        have s1 := m1
        have e2 := n2
        have s2 := m2
        clear n0 m0 n1 m1 n2 m2
        have hc := putCells_cells g [.string (mtI (z))] wt1 (j * 3) (fun p hp => by
          match p, hp with
          | 0, _ => exact ⟨_, by simpa [Nat.add_assoc] using e0⟩
          | _ + 1, hp => (simp at hp) <;> omega)
        have d0 : (putCells wt1 g (j * 3) [.string (mtI (z))]).cell? ⟨g, j * 3, none⟩ = some (.string (mtI (z))) := by simpa [Nat.add_assoc] using hc 0 _ rfl
        have d1 : (putCells wt1 g (j * 3) [.string (mtI (z))]).cell? ⟨g, j * 3 + 1, none⟩ = some (.string x1) := (putCells_other g _ wt1 _ (by first | (simp; done) | (simp; omega))).trans e1
        have d2 : (putCells wt1 g (j * 3) [.string (mtI (z))]).cell? ⟨g, j * 3 + 2, none⟩ = some (.string x2) := (putCells_other g _ wt1 _ (by first | (simp; done) | (simp; omega))).trans e2
        have t0 : (putCells wt1 g (j * 3) [.string (mtI (z))]).frozen? ⟨g, j * 3, none⟩ = false := (putCells_frozen g _ _ wt1 _).trans s0
        have t1 : (putCells wt1 g (j * 3) [.string (mtI (z))]).frozen? ⟨g, j * 3 + 1, none⟩ = false := (putCells_frozen g _ _ wt1 _).trans s1
        have t2 : (putCells wt1 g (j * 3) [.string (mtI (z))]).frozen? ⟨g, j * 3 + 2, none⟩ = false := (putCells_frozen g _ _ wt1 _).trans s2
        have HU2 := Lib.hid (HU1.out.trans (Upd.put wt1 (Sf j) (g := g) (o := j * 3) (cs := [.string (mtI (z))]) ⟨by omega, by first | (simp; done) | (simp; omega)⟩))
        have HF2 := Lib.hid (HF1.out.trans ((putCells_off g [.string (mtI (z))] wt1 (j * 3)).more (fun x e => by rw [e]; exact HM2.out.row.own)))
        clear hc
        have hbz : 0 ≤ z + 1 ∧ z + 1 ≤ 4611686018427387904 := by omega
        have D0 := Lib.hid d0
        have F0 := Lib.hid t0
        have D1 := Lib.hid d1
        have F1 := Lib.hid t1
        have D2 := Lib.hid d2
        have F2 := Lib.hid t2
        clear d0 t0 d1 t1 d2 t2
        go_wp2_with fail
        refine (marktext_v (z + 1) ((putCells wt1 g (j * 3) [.string (mtI (z))])) hbz.1 hbz.2).mono ?_
        intro e wt2 h
        obtain ⟨rfl, hms, hb⟩ := mkT_elim h
        have HMS2 := Lib.hid hms
        have hgg : g < (putCells wt1 g (j * 3) [.string (mtI (z))]).heap.size := Nat.lt_of_lt_of_le hgl HF2.out.size
        have n0 : wt2.cell? ⟨g, j * 3, none⟩ = some (.string (mtI (z))) := (hb.cell (p := ⟨g, j * 3, none⟩) hgg).trans D0.out
        have n1 : wt2.cell? ⟨g, j * 3 + 1, none⟩ = some (.string x1) := (hb.cell (p := ⟨g, j * 3 + 1, none⟩) hgg).trans D1.out
        have n2 : wt2.cell? ⟨g, j * 3 + 2, none⟩ = some (.string x2) := (hb.cell (p := ⟨g, j * 3 + 2, none⟩) hgg).trans D2.out
        have m0 : wt2.frozen? ⟨g, j * 3, none⟩ = false := (hb.frozen (p := ⟨g, j * 3, none⟩) hgg).trans F0.out
        have m1 : wt2.frozen? ⟨g, j * 3 + 1, none⟩ = false := (hb.frozen (p := ⟨g, j * 3 + 1, none⟩) hgg).trans F1.out
        have m2 : wt2.frozen? ⟨g, j * 3 + 2, none⟩ = false := (hb.frozen (p := ⟨g, j * 3 + 2, none⟩) hgg).trans F2.out
        have HU3 := Lib.hid (HU2.out.trans (Upd.below hb hgg))
        have HF3 := Lib.hid (HF2.out.of_below hb)
        clear h hb hgg hbz hms D0 F0 D1 F1 D2 F2
        have e0 := n0
        have s0 := m0
        have e1 := n1
        have s1 := m1
        have e2 := n2
        have s2 := m2
        clear n0 m0 n1 m1 n2 m2
        have hc := putCells_cells g [.string (mtI (z + 1))] wt2 (j * 3 + 1) (fun p hp => by
          match p, hp with
          | 0, _ => exact ⟨_, by simpa [Nat.add_assoc] using e1⟩
          | _ + 1, hp => (simp at hp) <;> omega)
        have d1 : (putCells wt2 g (j * 3 + 1) [.string (mtI (z + 1))]).cell? ⟨g, j * 3 + 1, none⟩ = some (.string (mtI (z + 1))) := by simpa [Nat.add_assoc] using hc 0 _ rfl
        have d0 : (putCells wt2 g (j * 3 + 1) [.string (mtI (z + 1))]).cell? ⟨g, j * 3, none⟩ = some (.string (mtI (z))) := (putCells_other g _ wt2 _ (by first | (simp; done) | (simp; omega))).trans e0
        have d2 : (putCells wt2 g (j * 3 + 1) [.string (mtI (z + 1))]).cell? ⟨g, j * 3 + 2, none⟩ = some (.string x2) := (putCells_other g _ wt2 _ (by first | (simp; done) | (simp; omega))).trans e2
        have t0 : (putCells wt2 g (j * 3 + 1) [.string (mtI (z + 1))]).frozen? ⟨g, j * 3, none⟩ = false := (putCells_frozen g _ _ wt2 _).trans s0
        have t1 : (putCells wt2 g (j * 3 + 1) [.string (mtI (z + 1))]).frozen? ⟨g, j * 3 + 1, none⟩ = false := (putCells_frozen g _ _ wt2 _).trans s1
        have t2 : (putCells wt2 g (j * 3 + 1) [.string (mtI (z + 1))]).frozen? ⟨g, j * 3 + 2, none⟩ = false := (putCells_frozen g _ _ wt2 _).trans s2
        have HU4 := Lib.hid (HU3.out.trans (Upd.put wt2 (Sf j) (g := g) (o := j * 3 + 1) (cs := [.string (mtI (z + 1))]) ⟨by omega, by first | (simp; done) | (simp; omega)⟩))
        have HF4 := Lib.hid (HF3.out.trans ((putCells_off g [.string (mtI (z + 1))] wt2 (j * 3 + 1)).more (fun x e => by rw [e]; exact HM2.out.row.own)))
        clear hc
        have hbz : 0 ≤ z + 1 + 1 ∧ z + 1 + 1 ≤ 4611686018427387904 := by omega
        have D0 := Lib.hid d0
        have F0 := Lib.hid t0
        have D1 := Lib.hid d1
        have F1 := Lib.hid t1
        have D2 := Lib.hid d2
        have F2 := Lib.hid t2
        clear d0 t0 d1 t1 d2 t2
        go_wp2_with fail
        refine (marktext_v (z + 1 + 1) ((putCells wt2 g (j * 3 + 1) [.string (mtI (z + 1))])) hbz.1 hbz.2).mono ?_
        intro e wt3 h
        obtain ⟨rfl, hms, hb⟩ := mkT_elim h
        have HMS3 := Lib.hid hms
        have hgg : g < (putCells wt2 g (j * 3 + 1) [.string (mtI (z + 1))]).heap.size := Nat.lt_of_lt_of_le hgl HF4.out.size
        have n0 : wt3.cell? ⟨g, j * 3, none⟩ = some (.string (mtI (z))) := (hb.cell (p := ⟨g, j * 3, none⟩) hgg).trans D0.out
        have n1 : wt3.cell? ⟨g, j * 3 + 1, none⟩ = some (.string (mtI (z + 1))) := (hb.cell (p := ⟨g, j * 3 + 1, none⟩) hgg).trans D1.out
        have n2 : wt3.cell? ⟨g, j * 3 + 2, none⟩ = some (.string x2) := (hb.cell (p := ⟨g, j * 3 + 2, none⟩) hgg).trans D2.out
        have m0 : wt3.frozen? ⟨g, j * 3, none⟩ = false := (hb.frozen (p := ⟨g, j * 3, none⟩) hgg).trans F0.out
        have m1 : wt3.frozen? ⟨g, j * 3 + 1, none⟩ = false := (hb.frozen (p := ⟨g, j * 3 + 1, none⟩) hgg).trans F1.out
        have m2 : wt3.frozen? ⟨g, j * 3 + 2, none⟩ = false := (hb.frozen (p := ⟨g, j * 3 + 2, none⟩) hgg).trans F2.out
        have HU5 := Lib.hid (HU4.out.trans (Upd.below hb hgg))
        have HF5 := Lib.hid (HF4.out.of_below hb)
        clear h hb hgg hbz hms D0 F0 D1 F1 D2 F2
        have e0 := n0
        have s0 := m0
        have e1 := n1
        have s1 := m1
        have e2 := n2
        have s2 := m2
        clear n0 m0 n1 m1 n2 m2
        have hc := putCells_cells g [.string (mtI (z + 1 + 1))] wt3 (j * 3 + 2) (fun p hp => by
          match p, hp with
          | 0, _ => exact ⟨_, by simpa [Nat.add_assoc] using e2⟩
          | _ + 1, hp => (simp at hp) <;> omega)
        have d2 : (putCells wt3 g (j * 3 + 2) [.string (mtI (z + 1 + 1))]).cell? ⟨g, j * 3 + 2, none⟩ = some (.string (mtI (z + 1 + 1))) := by simpa [Nat.add_assoc] using hc 0 _ rfl
        have d0 : (putCells wt3 g (j * 3 + 2) [.string (mtI (z + 1 + 1))]).cell? ⟨g, j * 3, none⟩ = some (.string (mtI (z))) := (putCells_other g _ wt3 _ (by first | (simp; done) | (simp; omega))).trans e0
        have d1 : (putCells wt3 g (j * 3 + 2) [.string (mtI (z + 1 + 1))]).cell? ⟨g, j * 3 + 1, none⟩ = some (.string (mtI (z + 1))) := (putCells_other g _ wt3 _ (by first | (simp; done) | (simp; omega))).trans e1
        have t0 : (putCells wt3 g (j * 3 + 2) [.string (mtI (z + 1 + 1))]).frozen? ⟨g, j * 3, none⟩ = false := (putCells_frozen g _ _ wt3 _).trans s0
        have t1 : (putCells wt3 g (j * 3 + 2) [.string (mtI (z + 1 + 1))]).frozen? ⟨g, j * 3 + 1, none⟩ = false := (putCells_frozen g _ _ wt3 _).trans s1
        have t2 : (putCells wt3 g (j * 3 + 2) [.string (mtI (z + 1 + 1))]).frozen? ⟨g, j * 3 + 2, none⟩ = false := (putCells_frozen g _ _ wt3 _).trans s2
        have HU6 := Lib.hid (HU5.out.trans (Upd.put wt3 (Sf j) (g := g) (o := j * 3 + 2) (cs := [.string (mtI (z + 1 + 1))]) ⟨by omega, by first | (simp; done) | (simp; omega)⟩))
        have HF6 := Lib.hid (HF5.out.trans ((putCells_off g [.string (mtI (z + 1 + 1))] wt3 (j * 3 + 2)).more (fun x e => by rw [e]; exact HM2.out.row.own)))
        clear hc
        have hcf : CellsAt (putCells wt3 g (j * 3 + 2) [.string (mtI (z + 1 + 1))]) g (j * 3) [.string (mtI (z)), .string (mtI (z + 1)), .string (mtI (z + 1 + 1))] := CellsAt.cons.2 ⟨d0, CellsAt.cons.2 ⟨d1, CellsAt.cons.2 ⟨d2, CellsAt.nil⟩⟩⟩
        have HSTEP := Lib.hid (HM2.out.step R_Region_ok (w' := (putCells wt3 g (j * 3 + 2) [.string (mtI (z + 1 + 1))])) (y := ((mtI (z)), (mtI (z + 1)), (mtI (z + 1 + 1)))) (q' := z + 1 + 1 + 1) HSW.out HX.out HU6.out HF6.out hcf (mkow_Region HMS1.out HMS2.out HMS3.out) (mmk_Region) (by rw [hcx]; omega))
        clear d0 t0 d1 t1 d2 t2
        have hzb : 0 ≤ z + 1 + 1 + 1 ∧ z + 1 + 1 + 1 ≤ 4611686018427387904 := by omega
        clear hcf hcx
        go_wp2
        go_roundw
        case rel => exact ⟨j + 1, by omega, by go_num, _, _, rfl, by first | exact HSTEP.out | simpa [putCells, Nat.add_assoc, Int.add_assoc] using HSTEP.out⟩
        case measure => simp [intOf]; omega
      · obtain rfl : j = L.length := by omega
        have HR := Lib.hid (HM2.out.done HCAP.out HMAX.out)
        clear hM hSw
        go_wp2
        go_ret
        exact HR.out

/-- a struct by value, marked in its slices -/
def MarkV_Disk (L0 : List (D_Region)) (x1 : Int) (a0 : Option Addr) (c0 : Nat) (T0 : Nat → Prop) (k : Int) (W : World) (e : Ending) (w' : World) : Prop := ∃ z0 : Int, ∃ (y0 : List (D_Region)), e = .returned (.int .i64 z0) ∧ (y0.length = L0.length ∧ mmL R_Region y0 k z0 ∧ z0 = k + (sumL (R_Region).cm L0 : Nat) ∧ OwSl R_Region w' T0 y0 a0 c0) ∧ Off (fun q => T0 q) W w'
set_option maxRecDepth 100000 in
set_option maxHeartbeats 1600000 in
theorem mark_Disk {L0 : List (D_Region)} {x1 : Int} {a0 : Option Addr} {c0 : Nat} {W : World} {T0 : Nat → Prop} {k : Int} (h0 : 0 ≤ k) (h1 : k + (sumL (R_Region).cm L0 : Nat) ≤ 4611686018427387904) (hS0 : ∀ q, T0 q → q < W.heap.size) (h_L0 : OwSl R_Region W T0 L0 a0 c0) : Calls Tryz.prog 12 #[.agg #[.slice a0 L0.length c0, .int .i64 x1], .int .i64 k] W (MarkV_Disk L0 x1 a0 c0 T0 k W) := by
  have HOFF0 := Lib.hid (show Off (fun q => T0 q) W (W.alloc (.cells #[.slice a0 L0.length c0, .int .i64 x1] 31)) from (Off.refl _ _).alloc _)
  have hP := Blk.new W 31 #[.slice a0 L0.length c0, .int .i64 x1]
  have HP0 := Lib.hid hP
  have hz0 : W.heap.size < (W.alloc (.cells #[.slice a0 L0.length c0, .int .i64 x1] 31)).heap.size := by simp
  clear hP
  have K_L0 := Lib.hid (OwSl.keep R_Region_ok (W' := W.alloc (.cells #[.slice a0 L0.length c0, .int .i64 x1] 31)) h_L0 (fun q hq => Below.heap_alloc _ _ _ (hS0 q hq)))
  have HS0 := Lib.hid hS0
  clear h_L0 hS0 
  go_enter Tryz.func12, Tryz.ntmps12
  have hbz : 0 ≤ k ∧ k + (sumL (R_Region).cm L0 : Nat) ≤ 4611686018427387904 := by omega
  go_wp2_with fail
  refine (mark_RegionS (W := W.alloc (.cells #[.slice a0 L0.length c0, .int .i64 x1] 31)) hbz.1 hbz.2 (fun q hq => Nat.lt_trans (HS0.out q hq) hz0) K_L0.out).mono ?_
  intro e w1 h
  obtain ⟨y0, z0, rfl, hyl, hmm, hzz, how, hoff⟩ := markR_elim h
  have HP1 := Lib.hid (Blk.off HP0.out hoff hz0 (fun hg => Nat.lt_irrefl _ (HS0.out _ hg)))
  have HOFF1 := Lib.hid (HOFF0.out.trans (hoff.more (fun q hq => hq)))
  have hz1 : W.heap.size < w1.heap.size := Nat.lt_of_lt_of_le hz0 hoff.size
  have K_L0 := Lib.hid how
  have HMM0 := Lib.hid hmm
  have HYL0 := Lib.hid hyl
  have HZZ0 := Lib.hid hzz
  have hzn0 : 0 ≤ z0 ∧ z0 ≤ 4611686018427387904 := by omega
  clear h hyl hmm how hoff hzz hbz
  have p1_0 := HP1.out.at_ 0 rfl
  go_wp2
  go_ret
  exact ⟨z0, y0, rfl, ⟨HYL0.out, HMM0.out, HZZ0.out, K_L0.out⟩, HOFF1.out⟩


theorem sizh_RegionS : (R_Region).size = 3 := rfl
set_option maxRecDepth 100000 in
set_option maxHeartbeats 1600000 in
theorem held_RegionS {L : List (D_Region)} {a : Option Addr} {cap : Nat} {W : World} {k k' : Int} (h0 : 0 ≤ k) (h1 : k' ≤ 4611686018427387904) (hm : mmL R_Region L k k') (h : RdSl R_Region W W.heap.size L a cap) : Calls Tryz.prog 55 #[.slice a L.length cap, .int .i64 k] W (HeldC k' W) := by
  have hn : L.length ≤ 9223372036854775807 := by have h1 := h.1; have h2 := h.2.1; unfold maxLen at h2; omega
  have H := Lib.hid h
  have HM := Lib.hid hm
  clear h hm
  go_enter Tryz.func55, Tryz.ntmps55
  go_wp2
  go_loopw [5, 1] (fun i q wr => ∃ j : Nat, j ≤ L.length ∧ i = .int .i64 j ∧ (∃ z : Int, q = .int .i64 z ∧ 0 ≤ z ∧ mmL R_Region (L.drop j) z k') ∧ Below W.heap.size W wr) (fun i _ _ => L.length - (intOf i).toNat)
  case atStart => exact ⟨0, Nat.zero_le _, rfl, ⟨k, rfl, h0, HM.out⟩, Below.refl _ _⟩
  case round =>
    obtain ⟨j, hj, rfl, ⟨z, rfl, hz, hmz⟩, hB⟩ := hrel
    have HB := Lib.hid hB
    have hsz := hB.size
    by_cases hlt : j < L.length
    · obtain ⟨⟨x0, x1, x2⟩, hx⟩ := el_some hlt
      obtain ⟨k1, hxm, hmn⟩ := mmL_drop hx hmz
      have hzb := mmL_le R_Region_mn hmn
      have hxb := R_Region_mn _ _ _ hxm
      obtain ⟨g, o, us, rfl, hg, hu, hr⟩ := (H.out.below R_Region_ok hB).at_ hx
      have HMN := Lib.hid hmn
      have hi0 : (0 : Int) ≤ (j : Int) := Int.natCast_nonneg _
      have hi1 : (j : Int) < (L.length : Int) := by omega
      obtain ⟨rfl, b_x0, b_x1, b_x2⟩ := rd_Region hr
      obtain ⟨rfl, rfl, rfl, hk1⟩ := mme_Region hxm
      have e0 := cells_at hu 0 rfl
      have e1 := cells_at hu 1 rfl
      have e2 := cells_at hu 2 rfl
      simp only [sizh_RegionS] at e0 e1 e2
      simp only [← Nat.add_assoc, Nat.add_zero] at e0 e1 e2
      have hfin : k1 ≤ 4611686018427387904 := by omega
      have HK1 := Lib.hid hk1
      clear hB hx hu hmz hmn hxm
      have hgl : g < wr.heap.size := Nat.lt_of_lt_of_le hg hsz
      go_wp2_with fail
      refine wp_region_held_drew (S := (fun V => Below (wr).heap.size (wr) V)) (by kernel_rfl) ((Below.refl _ _).drew) (fun hHeld => ?_)
      refine tk 0 hHeld ?_
      refine tk 1 hHeld ?_
      refine tk 2 hHeld ?_
      refine tk 3 hHeld ?_
      refine tk 4 hHeld ?_ (hy := fun w hSw => by (try dsimp only at hSw); have k0 := (hSw.cell (p := ⟨g, o + j * 3, none⟩) hgl).trans e0; clear hSw; go_simp; try with_reducible rfl)
      refine tk 5 hHeld ?_
      refine rd1 6 (fun K hK => ?_)
      go_simp
      go_at_call 54
      refine (marktext_v (z) _ (by omega) (by omega)).mono ?_
      intro e w1 h
      obtain ⟨rfl, hms, hb⟩ := mkT_elim h
      clear h hms
      refine hK.out _ _ (hHeld.trans (hb.mono hHeld.size)) (fun hHeld => ?_)
      clear hK K hb
      refine tk 7 hHeld ?_
      refine rd0 ?_
      have HF := Lib.hid hHeld
      clear hHeld
      replace e1 := (HF.out.cell (p := ⟨g, _, none⟩) hgl).trans e1
      replace e2 := (HF.out.cell (p := ⟨g, _, none⟩) hgl).trans e2
      have hgl1 : g < w1.heap.size := Nat.lt_of_lt_of_le hgl HF.out.size
      have HFA0 := Lib.hid HF.out
      clear HF
      go_wp2_with fail
      refine wp_region_held_drew (S := (fun V => Below (w1).heap.size (w1) V)) (by kernel_rfl) ((Below.refl _ _).drew) (fun hHeld => ?_)
      refine tk 0 hHeld ?_
      refine tk 1 hHeld ?_
      refine tk 2 hHeld ?_
      refine tk 3 hHeld ?_
      refine tk 4 hHeld ?_ (hy := fun w hSw => by (try dsimp only at hSw); have k0 := (hSw.cell (p := ⟨g, o + j * 3 + 1, none⟩) hgl1).trans e1; clear hSw; go_simp; try with_reducible rfl)
      refine tk 5 hHeld ?_
      refine rd1 6 (fun K hK => ?_)
      go_simp
      go_at_call 54
      refine (marktext_v (z + 1) _ (by omega) (by omega)).mono ?_
      intro e w2 h
      obtain ⟨rfl, hms, hb⟩ := mkT_elim h
      clear h hms
      refine hK.out _ _ (hHeld.trans (hb.mono hHeld.size)) (fun hHeld => ?_)
      clear hK K hb
      refine tk 7 hHeld ?_
      refine rd0 ?_
      have HF := Lib.hid hHeld
      clear hHeld
      replace e2 := (HF.out.cell (p := ⟨g, _, none⟩) hgl1).trans e2
      have hgl2 : g < w2.heap.size := Nat.lt_of_lt_of_le hgl1 HF.out.size
      have HFA1 := Lib.hid (HFA0.out.trans (HF.out.mono HFA0.out.size))
      clear HF
      go_wp2_with fail
      refine wp_region_held_drew (S := (fun V => Below (w2).heap.size (w2) V)) (by kernel_rfl) ((Below.refl _ _).drew) (fun hHeld => ?_)
      refine tk 0 hHeld ?_
      refine tk 1 hHeld ?_
      refine tk 2 hHeld ?_
      refine tk 3 hHeld ?_
      refine tk 4 hHeld ?_ (hy := fun w hSw => by (try dsimp only at hSw); have k0 := (hSw.cell (p := ⟨g, o + j * 3 + 2, none⟩) hgl2).trans e2; clear hSw; go_simp; try with_reducible rfl)
      refine tk 5 hHeld ?_
      refine rd1 6 (fun K hK => ?_)
      go_simp
      go_at_call 54
      refine (marktext_v (z + 1 + 1) _ (by omega) (by omega)).mono ?_
      intro e w3 h
      obtain ⟨rfl, hms, hb⟩ := mkT_elim h
      clear h hms
      refine hK.out _ _ (hHeld.trans (hb.mono hHeld.size)) (fun hHeld => ?_)
      clear hK K hb
      refine tk 7 hHeld ?_
      refine rd0 ?_
      have HF := Lib.hid hHeld
      clear hHeld
      have hgl3 : g < w3.heap.size := Nat.lt_of_lt_of_le hgl2 HF.out.size
      have HFA2 := Lib.hid (HFA1.out.trans (HF.out.mono HFA1.out.size))
      clear HF
      have HB2 := Lib.hid (HB.out.trans (HFA2.out.mono hsz))
      go_wp2
      go_roundw
      case rel => exact ⟨j + 1, by omega, by go_num, ⟨_, rfl, by omega, by rw [← HK1.out]; exact HMN.out⟩, HB2.out⟩
      case measure => simp [intOf]; omega
    · obtain rfl : j = L.length := by omega
      have HE := Lib.hid (mmL_end hmz)
      clear hmz hB
      go_wp2
      go_ret
      exact ⟨by rw [HE.out]; rfl, HB.out⟩

set_option maxRecDepth 100000 in
set_option maxHeartbeats 1600000 in
theorem held_Disk {L0 : List (D_Region)} {x1 : Int} {a0 : Option Addr} {c0 : Nat} {W : World} {k : Int} {z0 : Int} (h0 : 0 ≤ k) (h1 : z0 ≤ 4611686018427387904) (hm0 : mmL R_Region L0 k z0) (h_L0 : RdSl R_Region W W.heap.size L0 a0 c0) : Calls Tryz.prog 32 #[.agg #[.slice a0 L0.length c0, .int .i64 x1], .int .i64 k] W (HeldC z0 W) := by
  have H_L0 := Lib.hid h_L0
  have HM0 := Lib.hid hm0
  have hl0 := mmL_le R_Region_mn hm0
  clear h_L0 hm0
  have HB0 := Lib.hid (show Below W.heap.size W (W.alloc (.cells #[.slice a0 L0.length c0, .int .i64 x1] 31)) from (Below.refl _ _).alloc (Nat.le_refl _) _)
  have hP := Blk.new W 31 #[.slice a0 L0.length c0, .int .i64 x1]
  have HP0 := Lib.hid hP
  have hz0 : W.heap.size ≤ (W.alloc (.cells #[.slice a0 L0.length c0, .int .i64 x1] 31)).heap.size := HB0.out.size
  clear hP
  go_enter Tryz.func32, Tryz.ntmps32
  go_wp2_with fail
  refine (held_RegionS (k := k) (k' := z0) (by omega) (by omega) HM0.out ((H_L0.out.below R_Region_ok HB0.out).more R_Region_ok hz0)).mono ?_
  intro e w1 h
  obtain ⟨rfl, hb⟩ := heldC_elim h
  have HP1 := Lib.hid (HP0.out.call hb)
  have HB1 := Lib.hid (HB0.out.trans (hb.mono hz0))
  have hz1 : W.heap.size ≤ w1.heap.size := HB1.out.size
  clear h hb
  have p1_0 := HP1.out.at_ 0 rfl
  have hpos0 : (0 : Int) ≤ z0 := by omega
  go_wp2
  go_ret
  exact ⟨rfl, HB1.out⟩

set_option maxRecDepth 100000 in
set_option maxHeartbeats 1600000 in
theorem mark_DiskOut {L0 : List (D_Region)} {x1 : Int} {x2 : Int} {a0 : Option Addr} {c0 : Nat} {W : World} {T0 : Nat → Prop} {k : Int} (h0 : 0 ≤ k) (h1 : k + (sumL (R_Region).cm L0 : Nat) ≤ 4611686018427387904) (hS0 : ∀ q, T0 q → q < W.heap.size) (h_L0 : OwSl R_Region W T0 L0 a0 c0) : Calls Tryz.prog 13 #[.agg #[.slice a0 L0.length c0, .int .i64 x1, .int .i64 x2], .int .i64 k] W (MarkV_Disk L0 x1 a0 c0 T0 k W) := by
  have HOFF0 := Lib.hid (show Off (fun q => T0 q) W (W.alloc (.cells #[.slice a0 L0.length c0, .int .i64 x1, .int .i64 x2] 33)) from (Off.refl _ _).alloc _)
  have hz0 : W.heap.size < (W.alloc (.cells #[.slice a0 L0.length c0, .int .i64 x1, .int .i64 x2] 33)).heap.size := by simp
  have hP := Blk.new W 33 #[.slice a0 L0.length c0, .int .i64 x1, .int .i64 x2]
  have HP0 := Lib.hid hP
  clear hP
  have K_L0 := Lib.hid (OwSl.keep R_Region_ok (W' := W.alloc (.cells #[.slice a0 L0.length c0, .int .i64 x1, .int .i64 x2] 33)) h_L0 (fun q hq => Below.heap_alloc _ _ _ (hS0 q hq)))
  have HS0 := Lib.hid hS0
  clear h_L0 hS0 
  go_enter Tryz.func13, Tryz.ntmps13
  go_wp2_with fail
  refine (mark_Disk (W := W.alloc (.cells #[.slice a0 L0.length c0, .int .i64 x1, .int .i64 x2] 33)) h0 h1 (fun q hq => Nat.lt_trans (HS0.out q hq) hz0) K_L0.out).mono ?_
  intro e w1 h
  obtain ⟨z0, y0, rfl, hh0, hoff⟩ := h
  have HH0 := Lib.hid hh0
  have HOFF1 := Lib.hid (HOFF0.out.trans hoff)
  clear hoff hh0
  go_wp2
  go_ret
  exact ⟨z0, y0, rfl, HH0.out, HOFF1.out⟩
set_option maxRecDepth 100000 in
set_option maxHeartbeats 1600000 in
theorem held_DiskOut {L0 : List (D_Region)} {x1 : Int} {x2 : Int} {a0 : Option Addr} {c0 : Nat} {W : World} {k : Int} {z0 : Int} (h0 : 0 ≤ k) (h1 : z0 ≤ 4611686018427387904) (hm0 : mmL R_Region L0 k z0) (h_L0 : RdSl R_Region W W.heap.size L0 a0 c0) : Calls Tryz.prog 14 #[.agg #[.slice a0 L0.length c0, .int .i64 x1, .int .i64 x2], .int .i64 k] W (HeldC z0 W) := by
  have HM0 := Lib.hid hm0
  have hl0 := mmL_le R_Region_mn hm0
  have H_L0 := Lib.hid h_L0
  clear h_L0 hm0
  have HB0 := Lib.hid (show Below W.heap.size W (W.alloc (.cells #[.slice a0 L0.length c0, .int .i64 x1, .int .i64 x2] 33)) from (Below.refl _ _).alloc (Nat.le_refl _) _)
  have hP := Blk.new W 33 #[.slice a0 L0.length c0, .int .i64 x1, .int .i64 x2]
  have HP0 := Lib.hid hP
  have hz0 : W.heap.size ≤ (W.alloc (.cells #[.slice a0 L0.length c0, .int .i64 x1, .int .i64 x2] 33)).heap.size := HB0.out.size
  clear hP
  go_enter Tryz.func14, Tryz.ntmps14
  go_wp2_with fail
  refine (held_Disk (k := k) h0 h1 HM0.out ((H_L0.out.below R_Region_ok HB0.out).more R_Region_ok hz0)).mono ?_
  intro e w1 h
  obtain ⟨rfl, hb⟩ := heldC_elim h
  have HB1 := Lib.hid (HB0.out.trans (hb.mono hz0))
  have hpos : (0 : Int) ≤ z0 := by omega
  clear h hb
  go_wp2
  go_ret
  exact ⟨rfl, HB1.out⟩

end Go.Proofs.YtdedomfocljhaaaGreatDoor.RepC
