/- The laws' data: contracts. -/
import Derived.Test.YtjhcphmehlihcaaTk
import Derived.Test.YtjhcphmehlihcaaTk
import Derived.Test.YtjhcphmehlihcaaUsT
import Derived.Test.YtjhcphmehlihcaaHeld
import Derived.Test.YtjhcphmehlihcaaTk
namespace Go.Proofs.Ytjhcphmehlihcaa.RepC
open Go.RowKit RowC ValC
set_option linter.unusedVariables false
set_option linter.unusedSimpArgs false

theorem mmk_Use {k : Int} : R_Use.mm ((k, k + 1), (mtI (k + 1 + 1)), k + 1 + 1 + 1) k (k + 1 + 1 + 1 + 1) := by
  dsimp only [R_Use, R_Label, St, Pr, I, atom, Sl]
  exact ⟨k + 1 + 1, ⟨k + 1, ⟨by omega, by omega⟩, ⟨by omega, by omega⟩⟩, ⟨k + 1 + 1 + 1, ⟨rfl, by omega⟩, ⟨by omega, by omega⟩⟩⟩
theorem mme_Use {k k' : Int} {x0 : Int} {x1 : Int} {x2 : ByteArray} {x3 : Int} (h : R_Use.mm ((x0, x1), x2, x3) k k') : x0 = k ∧ x1 = k + 1 ∧ x2 = mtI (k + 1 + 1) ∧ x3 = k + 1 + 1 + 1 ∧ k' = k + 1 + 1 + 1 + 1 := by
  dsimp only [R_Use, R_Label, St, Pr, I, atom, Sl] at h
  obtain ⟨z1, h1, g1⟩ := h
  obtain ⟨z2, h2, g2⟩ := h1
  obtain ⟨e0, f0⟩ := h2
  have e0 : x0 = _ := e0
  obtain ⟨e1, f1⟩ := g2
  have e1 : x1 = _ := e1
  obtain ⟨z3, h3, g3⟩ := g1
  obtain ⟨e2, f2⟩ := h3
  have e2 : x2 = _ := e2
  obtain ⟨e3, f3⟩ := g3
  have e3 : x3 = _ := e3
  exact ⟨by omega, by omega, by rw [e2]; exact congrArg mtI (by omega), by omega, by omega⟩
theorem R_Use_mn : Mn R_Use := (Pr_mn R_Label_mn (Pr_mn St_mn I_mn))


theorem sizm_UseS : (R_Use).size = 4 := rfl
set_option maxRecDepth 100000 in
set_option maxHeartbeats 3200000 in
theorem mark_UseS {L : List (D_Use)} {a : Option Addr} {cap : Nat} {W : World} {S : Nat → Prop} {k : Int} (h0 : 0 ≤ k) (h1 : k + (sumL (R_Use).cm L : Nat) ≤ 4611686018427387904) (hS : ∀ i, S i → i < W.heap.size) (h : OwSl R_Use W S L a cap) : Calls Try.prog 29 #[.slice a L.length cap, .int .i64 k] W (MarkR R_Use S L a cap k W) := by
  have hcap := h.1
  have hmax := h.2.1
  have hn : L.length ≤ 9223372036854775807 := by have h2 := h.2.1; unfold maxLen at h2; omega
  have H := Lib.hid h
  have HCAP := Lib.hid hcap
  have HMAX := Lib.hid hmax
  clear h hcap hmax
  rcases Nat.eq_zero_or_pos L.length with hz | hpos
  · have HR := Lib.hid (MarkR.none_ (k := k) H.out hz)
    have HZ := Lib.hid hz
    rw [hz]
    clear hz
    go_enter Try.func29, Try.ntmps29
    go_wp2
    go_loopw [5, 1] (fun i q wr => i = .int .i64 0 ∧ q = .int .i64 k ∧ wr = W) (fun i _ _ => 0)
    case atStart => exact ⟨rfl, rfl, rfl⟩
    case round =>
      obtain ⟨rfl, rfl, rfl⟩ := hrel
      go_wp2
      go_ret
      exact HR.out
  · obtain ⟨g, Sf, rfl, hrow⟩ := H.out.row hpos
    have HM := Lib.hid (Mkd.start (k := k) hrow)
    clear hrow
    go_enter Try.func29, Try.ntmps29
    go_wp2
    go_loopw [5, 1] (fun i q wr => ∃ j : Nat, j ≤ L.length ∧ i = .int .i64 j ∧ ∃ (M : List (D_Use)) (z : Int), q = .int .i64 z ∧ Mkd R_Use W wr S L g Sf k z j M) (fun i _ _ => L.length - (intOf i).toNat)
    case atStart => exact ⟨0, Nat.zero_le _, rfl, _, _, rfl, HM.out⟩
    case round =>
      obtain ⟨j, hj, rfl, M, z, rfl, hM⟩ := hrel
      have HM2 := Lib.hid hM
      have hSw : ∀ i, S i → i < wr.heap.size := fun i hi => Nat.lt_of_lt_of_le (hS i hi) hM.off.size
      have HSW := Lib.hid hSw
      by_cases hlt : j < L.length
      · obtain ⟨⟨⟨x0, x1⟩, x2, x3⟩, hx⟩ := el_some hlt
        have HX := Lib.hid hx
        have hcm := sumL_take (R_Use).cm hx
        have hle := sumL_take_le (R_Use).cm L (j + 1)
        have hnum := hM.num
        obtain ⟨us, hu, hr⟩ := hM.el hx
        obtain ⟨rfl, _⟩ := ow0_Use hr
        have hgl : g < wr.heap.size := hSw g hM.row.own
        have hi0 : (0 : Int) ≤ (j : Int) := Int.natCast_nonneg _
        have hi1 : (j : Int) < (L.length : Int) := by omega
        have hz0 : 0 ≤ z := by omega
        have e0 : wr.cell? ⟨g, j * 4, none⟩ = some (.int .i64 x0) := by simpa [sizm_UseS, Nat.add_assoc] using hu 0 _ rfl
        have e1 : wr.cell? ⟨g, j * 4 + 1, none⟩ = some (.int .i64 x1) := by simpa [sizm_UseS, Nat.add_assoc] using hu 1 _ rfl
        have e2 : wr.cell? ⟨g, j * 4 + 2, none⟩ = some (.string x2) := by simpa [sizm_UseS, Nat.add_assoc] using hu 2 _ rfl
        have e3 : wr.cell? ⟨g, j * 4 + 3, none⟩ = some (.int .i64 x3) := by simpa [sizm_UseS, Nat.add_assoc] using hu 3 _ rfl
        have s0 := hM.row.soft (j * 4)
        have s1 := hM.row.soft (j * 4 + 1)
        have s2 := hM.row.soft (j * 4 + 2)
        have s3 := hM.row.soft (j * 4 + 3)
        have hcx : R_Use.cm ((x0, x1), x2, x3) = 4 := by first | (simp only [R_Use, R_Label, Pr, I, St, atom, Sl]; done) | (simp only [R_Use, R_Label, Pr, I, St, atom, Sl]; omega)
        rw [hcm, hcx] at hle
        have hb1 : z + ((4 : Nat) : Int) ≤ 4611686018427387904 := by omega
        have hne : ¬ Sf j g := fun hg => (HM2.out.row.sub j g hg).2 rfl
        have HU0 := Lib.hid (Upd.refl wr g (j * 4) ((j + 1) * 4) (Sf j))
        have HF0 := Lib.hid (Off.refl S wr)
        clear hM hSw hx hu hcm hle hnum
        have hc := putCells_cells g [.int .i64 (z), .int .i64 (z + 1)] wr (j * 4) (fun p hp => by
          match p, hp with
          | 0, _ => exact ⟨_, by simpa [Nat.add_assoc] using e0⟩
          | 1, _ => exact ⟨_, by simpa [Nat.add_assoc] using e1⟩
          | _ + 2, hp => simp at hp; omega)
        have d0 : (putCells wr g (j * 4) [.int .i64 (z), .int .i64 (z + 1)]).cell? ⟨g, j * 4, none⟩ = some (.int .i64 (z)) := by simpa [Nat.add_assoc] using hc 0 _ rfl
        have d1 : (putCells wr g (j * 4) [.int .i64 (z), .int .i64 (z + 1)]).cell? ⟨g, j * 4 + 1, none⟩ = some (.int .i64 (z + 1)) := by simpa [Nat.add_assoc] using hc 1 _ rfl
        have d2 : (putCells wr g (j * 4) [.int .i64 (z), .int .i64 (z + 1)]).cell? ⟨g, j * 4 + 2, none⟩ = some (.string x2) := (putCells_other g _ wr _ (by first | (simp; done) | (simp; omega))).trans e2
        have d3 : (putCells wr g (j * 4) [.int .i64 (z), .int .i64 (z + 1)]).cell? ⟨g, j * 4 + 3, none⟩ = some (.int .i64 x3) := (putCells_other g _ wr _ (by first | (simp; done) | (simp; omega))).trans e3
        have t0 : (putCells wr g (j * 4) [.int .i64 (z), .int .i64 (z + 1)]).frozen? ⟨g, j * 4, none⟩ = false := (putCells_frozen g _ _ wr _).trans s0
        have t1 : (putCells wr g (j * 4) [.int .i64 (z), .int .i64 (z + 1)]).frozen? ⟨g, j * 4 + 1, none⟩ = false := (putCells_frozen g _ _ wr _).trans s1
        have t2 : (putCells wr g (j * 4) [.int .i64 (z), .int .i64 (z + 1)]).frozen? ⟨g, j * 4 + 2, none⟩ = false := (putCells_frozen g _ _ wr _).trans s2
        have t3 : (putCells wr g (j * 4) [.int .i64 (z), .int .i64 (z + 1)]).frozen? ⟨g, j * 4 + 3, none⟩ = false := (putCells_frozen g _ _ wr _).trans s3
        have HU1 := Lib.hid (HU0.out.trans (Upd.put wr (Sf j) (g := g) (o := j * 4) (cs := [.int .i64 (z), .int .i64 (z + 1)]) ⟨by omega, by first | (simp; done) | (simp; omega)⟩))
        have HF1 := Lib.hid (HF0.out.trans ((putCells_off g [.int .i64 (z), .int .i64 (z + 1)] wr (j * 4)).more (fun x e => by rw [e]; exact HM2.out.row.own)))
        clear hc
        have hbz : 0 ≤ z + 1 + 1 ∧ z + 1 + 1 ≤ 4611686018427387904 := by omega
        have D0 := Lib.hid d0
        have F0 := Lib.hid t0
        have D1 := Lib.hid d1
        have F1 := Lib.hid t1
        have D2 := Lib.hid d2
        have F2 := Lib.hid t2
        have D3 := Lib.hid d3
        have F3 := Lib.hid t3
        clear d0 t0 d1 t1 d2 t2 d3 t3
        go_wp2_with fail
        refine (marktext_v (z + 1 + 1) ((putCells wr g (j * 4) [.int .i64 (z), .int .i64 (z + 1)])) hbz.1 hbz.2).mono ?_
        intro e wt1 h
        obtain ⟨rfl, hms, hb⟩ := mkT_elim h
        have HMS1 := Lib.hid hms
        have hgg : g < (putCells wr g (j * 4) [.int .i64 (z), .int .i64 (z + 1)]).heap.size := Nat.lt_of_lt_of_le hgl HF1.out.size
        have n0 : wt1.cell? ⟨g, j * 4, none⟩ = some (.int .i64 (z)) := (hb.cell (p := ⟨g, j * 4, none⟩) hgg).trans D0.out
        have n1 : wt1.cell? ⟨g, j * 4 + 1, none⟩ = some (.int .i64 (z + 1)) := (hb.cell (p := ⟨g, j * 4 + 1, none⟩) hgg).trans D1.out
        have n2 : wt1.cell? ⟨g, j * 4 + 2, none⟩ = some (.string x2) := (hb.cell (p := ⟨g, j * 4 + 2, none⟩) hgg).trans D2.out
        have n3 : wt1.cell? ⟨g, j * 4 + 3, none⟩ = some (.int .i64 x3) := (hb.cell (p := ⟨g, j * 4 + 3, none⟩) hgg).trans D3.out
        have m0 : wt1.frozen? ⟨g, j * 4, none⟩ = false := (hb.frozen (p := ⟨g, j * 4, none⟩) hgg).trans F0.out
        have m1 : wt1.frozen? ⟨g, j * 4 + 1, none⟩ = false := (hb.frozen (p := ⟨g, j * 4 + 1, none⟩) hgg).trans F1.out
        have m2 : wt1.frozen? ⟨g, j * 4 + 2, none⟩ = false := (hb.frozen (p := ⟨g, j * 4 + 2, none⟩) hgg).trans F2.out
        have m3 : wt1.frozen? ⟨g, j * 4 + 3, none⟩ = false := (hb.frozen (p := ⟨g, j * 4 + 3, none⟩) hgg).trans F3.out
        have HU2 := Lib.hid (HU1.out.trans (Upd.below hb hgg))
        have HF2 := Lib.hid (HF1.out.of_below hb)
        clear h hb hgg hbz hms D0 F0 D1 F1 D2 F2 D3 F3
        have e0 := n0
        have s0 := m0
        have e1 := n1
        have s1 := m1
        have e2 := n2
        have s2 := m2
        have e3 := n3
        have s3 := m3
        clear n0 m0 n1 m1 n2 m2 n3 m3
        have hc := putCells_cells g [.string (mtI (z + 1 + 1)), .int .i64 (z + 1 + 1 + 1)] wt1 (j * 4 + 2) (fun p hp => by
          match p, hp with
          | 0, _ => exact ⟨_, by simpa [Nat.add_assoc] using e2⟩
          | 1, _ => exact ⟨_, by simpa [Nat.add_assoc] using e3⟩
          | _ + 2, hp => simp at hp; omega)
        have d2 : (putCells wt1 g (j * 4 + 2) [.string (mtI (z + 1 + 1)), .int .i64 (z + 1 + 1 + 1)]).cell? ⟨g, j * 4 + 2, none⟩ = some (.string (mtI (z + 1 + 1))) := by simpa [Nat.add_assoc] using hc 0 _ rfl
        have d3 : (putCells wt1 g (j * 4 + 2) [.string (mtI (z + 1 + 1)), .int .i64 (z + 1 + 1 + 1)]).cell? ⟨g, j * 4 + 3, none⟩ = some (.int .i64 (z + 1 + 1 + 1)) := by simpa [Nat.add_assoc] using hc 1 _ rfl
        have d0 : (putCells wt1 g (j * 4 + 2) [.string (mtI (z + 1 + 1)), .int .i64 (z + 1 + 1 + 1)]).cell? ⟨g, j * 4, none⟩ = some (.int .i64 (z)) := (putCells_other g _ wt1 _ (by first | (simp; done) | (simp; omega))).trans e0
        have d1 : (putCells wt1 g (j * 4 + 2) [.string (mtI (z + 1 + 1)), .int .i64 (z + 1 + 1 + 1)]).cell? ⟨g, j * 4 + 1, none⟩ = some (.int .i64 (z + 1)) := (putCells_other g _ wt1 _ (by first | (simp; done) | (simp; omega))).trans e1
        have t0 : (putCells wt1 g (j * 4 + 2) [.string (mtI (z + 1 + 1)), .int .i64 (z + 1 + 1 + 1)]).frozen? ⟨g, j * 4, none⟩ = false := (putCells_frozen g _ _ wt1 _).trans s0
        have t1 : (putCells wt1 g (j * 4 + 2) [.string (mtI (z + 1 + 1)), .int .i64 (z + 1 + 1 + 1)]).frozen? ⟨g, j * 4 + 1, none⟩ = false := (putCells_frozen g _ _ wt1 _).trans s1
        have t2 : (putCells wt1 g (j * 4 + 2) [.string (mtI (z + 1 + 1)), .int .i64 (z + 1 + 1 + 1)]).frozen? ⟨g, j * 4 + 2, none⟩ = false := (putCells_frozen g _ _ wt1 _).trans s2
        have t3 : (putCells wt1 g (j * 4 + 2) [.string (mtI (z + 1 + 1)), .int .i64 (z + 1 + 1 + 1)]).frozen? ⟨g, j * 4 + 3, none⟩ = false := (putCells_frozen g _ _ wt1 _).trans s3
        have HU3 := Lib.hid (HU2.out.trans (Upd.put wt1 (Sf j) (g := g) (o := j * 4 + 2) (cs := [.string (mtI (z + 1 + 1)), .int .i64 (z + 1 + 1 + 1)]) ⟨by omega, by first | (simp; done) | (simp; omega)⟩))
        have HF3 := Lib.hid (HF2.out.trans ((putCells_off g [.string (mtI (z + 1 + 1)), .int .i64 (z + 1 + 1 + 1)] wt1 (j * 4 + 2)).more (fun x e => by rw [e]; exact HM2.out.row.own)))
        clear hc
        have hcf : CellsAt (putCells wt1 g (j * 4 + 2) [.string (mtI (z + 1 + 1)), .int .i64 (z + 1 + 1 + 1)]) g (j * 4) [.int .i64 (z), .int .i64 (z + 1), .string (mtI (z + 1 + 1)), .int .i64 (z + 1 + 1 + 1)] := CellsAt.cons.2 ⟨d0, CellsAt.cons.2 ⟨d1, CellsAt.cons.2 ⟨d2, CellsAt.cons.2 ⟨d3, CellsAt.nil⟩⟩⟩⟩
        have HSTEP := Lib.hid (HM2.out.step R_Use_ok (w' := (putCells wt1 g (j * 4 + 2) [.string (mtI (z + 1 + 1)), .int .i64 (z + 1 + 1 + 1)])) (y := ((z, z + 1), (mtI (z + 1 + 1)), z + 1 + 1 + 1)) (q' := z + 1 + 1 + 1 + 1) HSW.out HX.out HU3.out HF3.out hcf (mkow_Use HMS1.out) (mmk_Use) (by rw [hcx]; omega))
        clear d0 t0 d1 t1 d2 t2 d3 t3
        have hzb : 0 ≤ z + 1 + 1 + 1 + 1 ∧ z + 1 + 1 + 1 + 1 ≤ 4611686018427387904 := by omega
        clear hcf hcx
        go_wp2
        go_roundw
        case rel => exact ⟨j + 1, by omega, by go_num, _, _, rfl, by first | exact HSTEP.out | simpa [putCells, Nat.add_assoc, Int.add_assoc] using HSTEP.out⟩
        case measure => simp [intOf]; omega
      · obtain rfl : j = L.length := by omega
        have HR := Lib.hid (HM2.out.done HCAP.out HMAX.out)
        clear hM hSw
        go_wp2
        go_ret
        exact HR.out


theorem sizh_UseS : (R_Use).size = 4 := rfl
set_option maxRecDepth 100000 in
set_option maxHeartbeats 1600000 in
theorem held_UseS {L : List (D_Use)} {a : Option Addr} {cap : Nat} {W : World} {k k' : Int} (h0 : 0 ≤ k) (h1 : k' ≤ 4611686018427387904) (hm : mmL R_Use L k k') (h : RdSl R_Use W W.heap.size L a cap) : Calls Try.prog 30 #[.slice a L.length cap, .int .i64 k] W (HeldC k' W) := by
  have hn : L.length ≤ 9223372036854775807 := by have h1 := h.1; have h2 := h.2.1; unfold maxLen at h2; omega
  have H := Lib.hid h
  have HM := Lib.hid hm
  clear h hm
  go_enter Try.func30, Try.ntmps30
  go_wp2
  go_loopw [5, 1] (fun i q wr => ∃ j : Nat, j ≤ L.length ∧ i = .int .i64 j ∧ (∃ z : Int, q = .int .i64 z ∧ 0 ≤ z ∧ mmL R_Use (L.drop j) z k') ∧ Below W.heap.size W wr) (fun i _ _ => L.length - (intOf i).toNat)
  case atStart => exact ⟨0, Nat.zero_le _, rfl, ⟨k, rfl, h0, HM.out⟩, Below.refl _ _⟩
  case round =>
    obtain ⟨j, hj, rfl, ⟨z, rfl, hz, hmz⟩, hB⟩ := hrel
    have HB := Lib.hid hB
    have hsz := hB.size
    by_cases hlt : j < L.length
    · obtain ⟨⟨⟨x0, x1⟩, x2, x3⟩, hx⟩ := el_some hlt
      obtain ⟨k1, hxm, hmn⟩ := mmL_drop hx hmz
      have hzb := mmL_le R_Use_mn hmn
      have hxb := R_Use_mn _ _ _ hxm
      obtain ⟨g, o, us, rfl, hg, hu, hr⟩ := (H.out.below R_Use_ok hB).at_ hx
      have HMN := Lib.hid hmn
      have hi0 : (0 : Int) ≤ (j : Int) := Int.natCast_nonneg _
      have hi1 : (j : Int) < (L.length : Int) := by omega
      obtain ⟨rfl, b_x2⟩ := rd_Use hr
      obtain ⟨rfl, rfl, rfl, rfl, hk1⟩ := mme_Use hxm
      have e0 := cells_at hu 0 rfl
      have e1 := cells_at hu 1 rfl
      have e2 := cells_at hu 2 rfl
      have e3 := cells_at hu 3 rfl
      simp only [sizh_UseS] at e0 e1 e2 e3
      simp only [← Nat.add_assoc, Nat.add_zero] at e0 e1 e2 e3
      have hfin : k1 ≤ 4611686018427387904 := by omega
      have HK1 := Lib.hid hk1
      clear hB hx hu hmz hmn hxm
      have hgl : g < wr.heap.size := Nat.lt_of_lt_of_le hg hsz
      go_wp2_with fail
      refine wp_region_held_drew (S := (fun V => Below (wr).heap.size (wr) V)) (by kernel_rfl) ((Below.refl _ _).drew) (fun hHeld => ?_)
      refine tk 0 hHeld ?_
      refine tk 1 hHeld ?_
      refine tk 2 hHeld ?_
      refine tk 3 hHeld ?_
      refine tk 4 hHeld ?_ (hy := fun w hSw => by (try dsimp only at hSw); have k0 := (hSw.cell (p := ⟨g, o + j * 4 + 2, none⟩) hgl).trans e2; clear hSw; go_simp; try with_reducible rfl)
      refine tk 5 hHeld ?_
      refine rd1 6 (fun K hK => ?_)
      go_simp
      go_at_call 59
      refine (marktext_v (x0 + 1 + 1) _ (by omega) (by omega)).mono ?_
      intro e w1 h
      obtain ⟨rfl, hms, hb⟩ := mkT_elim h
      clear h hms
      refine hK.out _ _ (hHeld.trans (hb.mono hHeld.size)) (fun hHeld => ?_)
      clear hK K hb
      refine tk 7 hHeld ?_
      refine rd0 ?_
      have HF := Lib.hid hHeld
      clear hHeld
      have HB2 := Lib.hid (HB.out.trans (HF.out.mono hsz))
      replace e3 := (HF.out.cell (p := ⟨g, _, none⟩) hgl).trans e3
      go_wp2
      go_roundw
      case rel => exact ⟨j + 1, by omega, by go_num, ⟨_, rfl, by omega, by rw [← HK1.out]; exact HMN.out⟩, HB2.out⟩
      case measure => simp [intOf]; omega
    · obtain rfl : j = L.length := by omega
      have HE := Lib.hid (mmL_end hmz)
      clear hmz hB
      go_wp2
      go_ret
      exact ⟨by rw [HE.out]; rfl, HB.out⟩

end Go.Proofs.Ytjhcphmehlihcaa.RepC
