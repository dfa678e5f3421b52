/- Labels made compact by the library; the labels of a configuration in the program: contracts. -/
import Derived.Test.YtmmnkdilnlhbfaaTk
import Derived.Test.YtmmnkdilnlhbfaaTk
import Derived.Test.YtmmnkdilnlhbfaaCfL2
import Derived.Test.YtmmnkdilnlhbfaaCfP
import Derived.Test.YtmmnkdilnlhbfaaClrI
namespace Go.Proofs.Ytmmnkdilnlhbfaa.RepC
open Go.RowKit RowC ValC SpanC KeptC Go.Lib CfC
set_option linter.unusedVariables false
set_option linter.unusedSimpArgs false

theorem setCells_put (g : Nat) : ∀ (cs : List Value) (W : World) (o : Nat), W.setCells g o cs = putCells W g o cs
  | [], _, _ => rfl
  | c :: cs, W, o => by simp only [World.setCells, putCells]; exact setCells_put g cs _ _
/-- clear of labels: what lies ahead stays -/
theorem run_clear_labs (W : World) (ty : TypeId) (g k n c : Nat) (hn : 0 < n) (hc : ∀ j, j < n * 2 → (W.cell? ⟨g, k + j, none⟩).isSome = true) (hf : Sf W g) :
    ∃ w', (Builtin.clear_ #[73] ty #[.slice (some ⟨g, k, none⟩) n c]).run Try.prog W = .ok (.tuple #[]) w' ∧ (∀ j, j < k → w'.cell? ⟨g, j, none⟩ = W.cell? ⟨g, j, none⟩) ∧ Sf w' g ∧ Off (fun x => x = g) W w' := by
  have hzl : (Builtin.zeroCells (Value.agg #[.int .i64 0, .int .i64 0]).cells n).toList.length = n * 2 := by
    simp [Builtin.zeroCells, Value.cells]
  have hone : ∀ v ∈ (Builtin.zeroCells (Value.agg #[.int .i64 0, .int .i64 0]).cells n).toList, v.oneCell' = true := by
    intro v hv
    simp [Builtin.zeroCells, Value.cells] at hv
    obtain ⟨i, _, rfl⟩ := hv
    rcases Nat.mod_two_eq_zero_or_one i with e | e <;> rw [e] <;> rfl
  have hst := run_storeCells_cells (P := Try.prog) g k (Builtin.zeroCells (Value.agg #[.int .i64 0, .int .i64 0]).cells n).toList 0 W (fun j hj => by rw [hzl] at hj; simpa using hc j hj) (fun j _ => hf _) hone
  simp only [Nat.add_zero] at hst
  obtain ⟨iL, hiL, hzL1, hsL, hbL⟩ := infoLb
  have hv : ∀ w, (zeroValue 38).run Try.prog w = .ok (.agg #[.int .i64 0, .int .i64 0]) w := fun w => by
    simp [zeroValue, typeInfo, hiL, hzL1]
  refine ⟨W.setCells g k (Builtin.zeroCells (Value.agg #[.int .i64 0, .int .i64 0]).cells n).toList, ?_, fun j hj => ?_, fun j => ?_, ?_⟩
  · obtain ⟨m, rfl⟩ : ∃ m, n = m + 1 := ⟨n - 1, by omega⟩
    simp [Builtin.clear_, run_underlying Try.underlying73, hv, hst]
  · rw [setCells_put]; exact putCells_other g _ _ _ (Or.inl hj)
  · rw [setCells_put, putCells_frozen]; exact hf j
  · rw [setCells_put]; exact putCells_off g _ _ _
/-- what Compact leaves -/
def CmpR (g cap : Nat) (d : Array Lb) (w : World) (e : Ending) (w' : World) : Prop := e = .returned (.slice (some ⟨g, 0, none⟩) (compactUpTo d d.size).length cap) ∧ (∀ (j : Nat) x, (compactUpTo d d.size)[j]? = some x → w'.cell? ⟨g, j * 2, none⟩ = some (.int .i64 x.1) ∧ w'.cell? ⟨g, j * 2 + 1, none⟩ = some (.int .i64 x.2)) ∧ Sf w' g ∧ Off (fun x => x = g) w w'
theorem cmpR_elim {g cap : Nat} {d : Array Lb} {w : World} {e : Ending} {w' : World} (h : CmpR g cap d w e w') : e = .returned (.slice (some ⟨g, 0, none⟩) (compactUpTo d d.size).length cap) ∧ (∀ (j : Nat) x, (compactUpTo d d.size)[j]? = some x → w'.cell? ⟨g, j * 2, none⟩ = some (.int .i64 x.1) ∧ w'.cell? ⟨g, j * 2 + 1, none⟩ = some (.int .i64 x.2)) ∧ Sf w' g ∧ Off (fun x => x = g) w w' := h
theorem cmpR_all {g cap : Nat} {d : Array Lb} {w w' : World} {n : Nat} (hn : n = d.size) (hall : ∀ j, j < d.size → keeps d j = true) (hR : Rw w' g d) (hs : Sf w' g) (ho : Off (fun x => x = g) w w') : CmpR g cap d w (.returned (.slice (some ⟨g, 0, none⟩) n cap)) w' := by
  have e : compactUpTo d d.size = d.toList := by rw [compactUpTo_all d _ hall, range_map_get]
  refine ⟨by rw [e, hn]; simp, fun j x hx => ?_, hs, ho⟩
  rw [e] at hx
  have hj : j < d.size := by have := el_lt hx; simpa using this
  have hx' : d[j]! = x := by
    rw [Array.getElem?_toList, Array.getElem?_eq_getElem hj] at hx
    rw [getElem!_pos d j hj]; exact Option.some.inj hx
  rw [← hx']
  exact hR j hj
theorem arr_get (d : Array Lb) (i : Nat) (x0 x1 : Int) : (d[i]! = (x0, x1)) → d[i]!.1 = x0 ∧ d[i]!.2 = x1 := fun h => by rw [h]; exact ⟨rfl, rfl⟩
set_option maxRecDepth 100000 in
set_option maxHeartbeats 3200000 in
theorem compact_labs {g cap : Nat} {d : Array Lb} {W : World} (hR : Rw W g d) (hS : Sf W g) (hn : d.size ≤ 1048576) (hcap : d.size ≤ cap) (hg : g < W.heap.size) :
    Calls Try.prog 117 #[.slice (some ⟨g, 0, none⟩) d.size cap] W (CmpR g cap d W) := by
  have HR0 := Lib.hid hR
  have HS0 := Lib.hid hS
  clear hR hS
  by_cases h2 : d.size < 2
  · have hd : decide ((d.size : Int) < 2) = true := decide_eq_true (by omega)
    go_enter Try.func117, Try.ntmps117
    go_wp2
    go_ret
    exact cmpR_all rfl (fun j hj => keeps_lt_one d j (by omega)) HR0.out HS0.out (Off.refl _ _)
  have hd : decide ((d.size : Int) < 2) = false := decide_eq_false (by omega)
  go_enter Try.func117, Try.ntmps117
  go_wp2
  go_loopw [3] (fun i wr => ∃ m : Nat, m + 1 ≤ d.size ∧ i = .int .i64 ((m + 1 : Nat) : Int) ∧ Hid (∀ j, j < m + 1 → keeps d j = true) ∧ Below W.heap.size W wr) (fun i _ => d.size - (intOf i).toNat)
  case atStart => exact ⟨0, by omega, rfl, Lib.hid (keeps_lt_one d), Below.refl _ _⟩
  case round =>
    obtain ⟨m, hm, rfl, HK, hB⟩ := hrel
    obtain ⟨wo, rfl⟩ : ∃ x, x = wr := ⟨_, rfl⟩
    have HB := Lib.hid hB
    have hsz := hB.size
    have HR := Lib.hid (HR0.out.below hg hB)
    have HS := Lib.hid (HS0.out.below hg hB)
    have hcast : ((m + 1 : Nat) : Int) = (m : Int) + 1 := by omega
    clear hB
    by_cases hlt : m + 1 < d.size
    · have hdl : decide (((m + 1 : Nat) : Int) < (d.size : Int)) = true := decide_eq_true (by omega)
      have hdl2 : decide ((m : Int) + 1 < (d.size : Int)) = true := decide_eq_true (by omega)
      obtain ⟨⟨x0, x1⟩, hx⟩ : ∃ x, d[m + 1]! = x := ⟨_, rfl⟩
      obtain ⟨⟨y0, y1⟩, hy⟩ : ∃ x, d[m]! = x := ⟨_, rfl⟩
      obtain ⟨c0, c1⟩ := HR.out (m + 1) hlt
      obtain ⟨p0, p1⟩ := HR.out m (by omega)
      rw [hx] at c0 c1
      rw [hy] at p0 p1
      have HXY := Lib.hid (And.intro hx hy)
      have HG := Lib.hid (show g < wo.heap.size by omega)
      have hi0 : (0 : Int) ≤ (m : Int) + 1 := by omega
      have hi1 : (m : Int) + 1 < (d.size : Int) := by omega
      have hj0 : (0 : Int) ≤ (m : Int) := Int.natCast_nonneg _
      have hj1 : (m : Int) < (d.size : Int) := by omega
      have hsub : IntKind.i64.wrap ((m : Int) + 1 - 1) = (m : Int) := by rw [show (m : Int) + 1 - 1 = (m : Int) by omega]; exact IntWalk.i64_in _ (by omega)
      have hsub2 : IntKind.i64.wrap (m : Int) = (m : Int) := IntWalk.i64_in _ (by omega)
      obtain ⟨b, hb⟩ : ∃ b, decide (((x0, x1) : Int × Int) = (y0, y1)) = b := ⟨_, rfl⟩
      have hE := eql_lab x0 x1 y0 y1 b hb
      have HBE := Lib.hid hb
      clear hx hy hb
      cases b with
      | false =>
        have HK2 := Lib.hid (show ∀ j, j < m + 1 + 1 → keeps d j = true from fun j hj => by
          by_cases e : j = m + 1
          · subst e; exact keeps_pos (by rw [Nat.add_sub_cancel, HXY.out.1, HXY.out.2]; exact of_decide_eq_false HBE.out)
          · exact HK.out j (by omega))
        go_wp2_with fail
        refine wp_region_held_drew (S := (fun V => Below (wo).heap.size (wo) V)) (by kernel_rfl) ((Below.refl _ _).drew) (fun hHeld => ?_)
        refine tk 0 hHeld ?_
        refine tk 1 hHeld ?_
        refine tk 2 hHeld ?_
        refine tk 3 hHeld ?_ (hy := fun w hSw => by (try dsimp only at hSw); have k0 := (hSw.cell (p := ⟨g, (m + 1) * 2, none⟩) HG.out).trans c0; have k1 := (hSw.cell (p := ⟨g, (m + 1) * 2 + 1, none⟩) HG.out).trans c1; clear hSw; go_simp; try with_reducible rfl)
        refine tk 4 hHeld ?_
        refine tk 5 hHeld ?_
        refine tk 6 hHeld ?_
        refine tk 7 hHeld ?_
        refine tk 8 hHeld ?_ (hy := fun w hSw => by (try dsimp only at hSw); have k0 := (hSw.cell (p := ⟨g, m * 2, none⟩) HG.out).trans p0; have k1 := (hSw.cell (p := ⟨g, m * 2 + 1, none⟩) HG.out).trans p1; clear hSw; go_simp; try with_reducible rfl)
        refine tk 9 hHeld ?_
        refine rd0 ?_
        have HF := Lib.hid hHeld
        clear hHeld
        have HB2 := Lib.hid (HB.out.trans (HF.out.mono hsz))
        clear HF
        go_wp2
        go_roundw
        case rel => exact ⟨m + 1, by omega, by go_num, HK2, HB2.out⟩
        case measure => simp [intOf]; omega
      | true =>
        have HDup := Lib.hid (show keeps d (m + 1) = false from keeps_neg (by omega) (by rw [Nat.add_sub_cancel, HXY.out.1, HXY.out.2]; exact of_decide_eq_true HBE.out))
        have hne : ¬ cap = m + 1 := by omega
        have hne2 : ¬ m + 1 = cap := by omega
        go_wp2_with fail
        refine wp_region_held_drew (S := (fun V => Below (wo).heap.size (wo) V)) (by kernel_rfl) ((Below.refl _ _).drew) (fun hHeld => ?_)
        refine tk 0 hHeld ?_
        refine tk 1 hHeld ?_
        refine tk 2 hHeld ?_
        refine tk 3 hHeld ?_ (hy := fun w hSw => by (try dsimp only at hSw); have k0 := (hSw.cell (p := ⟨g, (m + 1) * 2, none⟩) HG.out).trans c0; have k1 := (hSw.cell (p := ⟨g, (m + 1) * 2 + 1, none⟩) HG.out).trans c1; clear hSw; go_simp; try with_reducible rfl)
        refine tk 4 hHeld ?_
        refine tk 5 hHeld ?_
        refine tk 6 hHeld ?_
        refine tk 7 hHeld ?_
        refine tk 8 hHeld ?_ (hy := fun w hSw => by (try dsimp only at hSw); have k0 := (hSw.cell (p := ⟨g, m * 2, none⟩) HG.out).trans p0; have k1 := (hSw.cell (p := ⟨g, m * 2 + 1, none⟩) HG.out).trans p1; clear hSw; go_simp; try with_reducible rfl)
        refine tk 9 hHeld ?_
        refine rd0 ?_
        have HF := Lib.hid hHeld
        clear hHeld
        have HB2 := Lib.hid (HB.out.trans (HF.out.mono hsz))
        have hz2 := HB2.out.size
        have HR2 := Lib.hid (HR0.out.below hg HB2.out)
        have HS2 := Lib.hid (HS0.out.below hg HB2.out)
        have HO2 := Lib.hid (Off.of_below (S := fun x => x = g) (Off.refl _ W) HB2.out)
        clear HF c0 c1 p0 p1 hE HR HS
        obtain ⟨n2, hn2⟩ : ∃ n2, n2 = d.size - (m + 1) := ⟨_, rfl⟩
        obtain ⟨c2, hc2⟩ : ∃ c2, c2 = cap - (m + 1) := ⟨_, rfl⟩
        obtain ⟨w2, hw2⟩ : ∃ w, w = wo.drew := ⟨_, rfl⟩
        rw [← hw2] at HR2 HS2 HO2 hz2
        clear HB2
        go_wp2
        rw [← hn2, ← hc2, ← hw2]
        have HN2 := Lib.hid hn2
        have hn2d : n2 ≤ d.size := by omega
        clear hw2 hn2 hc2
        go_loopw [3, 5] (fun a i wr => ∃ (kk q : Nat) (dk : Array Lb), a = .int .i64 (kk : Int) ∧ i = .int .i64 ((q + 1 : Nat) : Int) ∧ m + 1 + (q + 1) ≤ d.size ∧ Hid (Rw wr g dk) ∧ Hid (Sf wr g) ∧ Hid (CompInv d (m + 1 + (q + 1)) kk dk) ∧ Hid (Off (fun x => x = g) W wr)) (fun _ i _ => d.size - (intOf i).toNat)
        case atStart => exact ⟨m + 1, 0, d, by go_num, rfl, by omega, HR2, HS2, Lib.hid (CompInv.start HK.out HDup.out), HO2⟩
        case round =>
          obtain ⟨kk, q, dk, rfl, rfl, hq, HR, HS, HI, HO⟩ := hrel
          have hkk := HI.out.lt
          have hds := HI.out.size
          have hzw := HO.out.size
          have hcast2 : ((q + 1 : Nat) : Int) = (q : Int) + 1 := by omega
          by_cases hql : q + 1 < n2
          · have hdq : decide (((q + 1 : Nat) : Int) < (n2 : Int)) = true := decide_eq_true (by omega)
            have hdq2 : decide ((q : Int) + 1 < (n2 : Int)) = true := decide_eq_true (by omega)
            have hmq : m + 1 + (q + 1) < d.size := by have := HN2.out; omega
            obtain ⟨⟨x0, x1⟩, hx⟩ : ∃ x, d[m + 1 + (q + 1)]! = x := ⟨_, rfl⟩
            obtain ⟨⟨y0, y1⟩, hy⟩ : ∃ x, d[m + 1 + q]! = x := ⟨_, rfl⟩
            obtain ⟨c0, c1⟩ := HR.out (m + 1 + (q + 1)) (by omega)
            obtain ⟨p0, p1⟩ := HR.out (m + 1 + q) (by omega)
            rw [HI.out.high _ (by omega), hx, Nat.add_mul] at c0 c1
            rw [HI.out.high _ (by omega), hy, Nat.add_mul] at p0 p1
            have HXY := Lib.hid (And.intro hx hy)
            have HG := Lib.hid (show g < wr.heap.size by omega)
            have hi0 : (0 : Int) ≤ (q : Int) + 1 := by omega
            have hi1 : (q : Int) + 1 < (n2 : Int) := by omega
            have hj0 : (0 : Int) ≤ (q : Int) := Int.natCast_nonneg _
            have hj1 : (q : Int) < (n2 : Int) := by omega
            have hs1 : IntKind.i64.wrap ((q : Int) + 1 - 1) = (q : Int) := by rw [show (q : Int) + 1 - 1 = (q : Int) by omega]; exact IntWalk.i64_in _ (by omega)
            have hs2 : IntKind.i64.wrap (q : Int) = (q : Int) := IntWalk.i64_in _ (by omega)
            obtain ⟨b, hb⟩ : ∃ b, decide (((x0, x1) : Int × Int) = (y0, y1)) = b := ⟨_, rfl⟩
            have hE := neq_lab x0 x1 y0 y1 b hb
            have HBE2 := Lib.hid hb
            clear hx hy hb
            cases b with
            | true =>
              have HI2 := Lib.hid (HI.out.skip (keeps_neg (by omega) (by rw [show m + 1 + (q + 1) - 1 = m + 1 + q by omega, HXY.out.1, HXY.out.2]; exact of_decide_eq_true HBE2.out)))
              go_wp2_with fail
              refine wp_region_held_drew (S := (fun V => Below (wr).heap.size (wr) V)) (by kernel_rfl) ((Below.refl _ _).drew) (fun hHeld => ?_)
              refine tk 0 hHeld ?_
              refine tk 1 hHeld ?_
              refine tk 2 hHeld ?_
              refine tk 3 hHeld ?_ (hy := fun w hSw => by (try dsimp only at hSw); have k0 := (hSw.cell (p := ⟨g, (m + 1) * 2 + (q + 1) * 2, none⟩) HG.out).trans c0; have k1 := (hSw.cell (p := ⟨g, (m + 1) * 2 + (q + 1) * 2 + 1, none⟩) HG.out).trans c1; clear hSw; go_simp; try with_reducible rfl)
              refine tk 4 hHeld ?_
              refine tk 5 hHeld ?_
              refine tk 6 hHeld ?_
              refine tk 7 hHeld ?_
              refine tk 8 hHeld ?_ (hy := fun w hSw => by (try dsimp only at hSw); have k0 := (hSw.cell (p := ⟨g, (m + 1) * 2 + q * 2, none⟩) HG.out).trans p0; have k1 := (hSw.cell (p := ⟨g, (m + 1) * 2 + q * 2 + 1, none⟩) HG.out).trans p1; clear hSw; go_simp; try with_reducible rfl)
              refine tk 9 hHeld ?_
              refine rd0 ?_
              have HF := Lib.hid hHeld
              clear hHeld
              have HR3 := Lib.hid (HR.out.below HG.out HF.out)
              have HS3 := Lib.hid (HS.out.below HG.out HF.out)
              have HO3 := Lib.hid (HO.out.of_below HF.out)
              clear HF c0 c1 p0 p1 hE
              go_wp2
              go_roundw
              case rel => exact ⟨kk, q + 1, dk, rfl, by go_num, by omega, HR3, HS3, HI2, HO3⟩
              case measure => simp [intOf]; omega
            | false =>
              have HI2 := Lib.hid (show CompInv d (m + 1 + (q + 1) + 1) (kk + 1) (dk.setIfInBounds kk (x0, x1)) from by
                have := HI.out.keep hmq (keeps_pos (by rw [show m + 1 + (q + 1) - 1 = m + 1 + q by omega, HXY.out.1, HXY.out.2]; exact of_decide_eq_false HBE2.out))
                rw [HXY.out.1] at this
                exact this)
              go_wp2_with fail
              refine wp_region_held_drew (S := (fun V => Below (wr).heap.size (wr) V)) (by kernel_rfl) ((Below.refl _ _).drew) (fun hHeld => ?_)
              refine tk 0 hHeld ?_
              refine tk 1 hHeld ?_
              refine tk 2 hHeld ?_
              refine tk 3 hHeld ?_ (hy := fun w hSw => by (try dsimp only at hSw); have k0 := (hSw.cell (p := ⟨g, (m + 1) * 2 + (q + 1) * 2, none⟩) HG.out).trans c0; have k1 := (hSw.cell (p := ⟨g, (m + 1) * 2 + (q + 1) * 2 + 1, none⟩) HG.out).trans c1; clear hSw; go_simp; try with_reducible rfl)
              refine tk 4 hHeld ?_
              refine tk 5 hHeld ?_
              refine tk 6 hHeld ?_
              refine tk 7 hHeld ?_
              refine tk 8 hHeld ?_ (hy := fun w hSw => by (try dsimp only at hSw); have k0 := (hSw.cell (p := ⟨g, (m + 1) * 2 + q * 2, none⟩) HG.out).trans p0; have k1 := (hSw.cell (p := ⟨g, (m + 1) * 2 + q * 2 + 1, none⟩) HG.out).trans p1; clear hSw; go_simp; try with_reducible rfl)
              refine tk 9 hHeld ?_
              refine rd0 ?_
              have HF := Lib.hid hHeld
              clear hHeld
              have HR3 := Lib.hid (HR.out.below HG.out HF.out)
              have HS3 := Lib.hid (HS.out.below HG.out HF.out)
              have HO3 := Lib.hid (HO.out.of_below HF.out)
              have r0 := (HF.out.cell (p := ⟨g, (m + 1) * 2 + (q + 1) * 2, none⟩) HG.out).trans c0
              have r1 := (HF.out.cell (p := ⟨g, (m + 1) * 2 + (q + 1) * 2 + 1, none⟩) HG.out).trans c1
              obtain ⟨t0, t1⟩ := HR3.out kk (by omega)
              have s0 := HS3.out (kk * 2)
              have s1 := HS3.out (kk * 2 + 1)
              obtain ⟨w3, hw3⟩ : ∃ w, w = wr.drew := ⟨_, rfl⟩
              rw [← hw3] at HR3 HS3 HO3 r0 r1 t0 t1 s0 s1
              rw [← hw3]
              have HR4 := Lib.hid (HR3.out.set (i := kk) (by omega) x0 x1)
              have HS4 := Lib.hid ((HS3.out.set (i := kk * 2) (.int .i64 x0)).set (i := kk * 2 + 1) (.int .i64 x1))
              have HO4 := Lib.hid ((HO3.out.setCell (p := ⟨g, kk * 2, none⟩) rfl (.int .i64 x0)).setCell (p := ⟨g, kk * 2 + 1, none⟩) rfl (.int .i64 x1))
              have hk0 : (0 : Int) ≤ (kk : Int) := Int.natCast_nonneg _
              have hk1 : (kk : Int) < (d.size : Int) := by omega
              clear HF c0 c1 p0 p1 hE hw3
              go_wp2
              go_roundw
              case rel => exact ⟨kk + 1, q + 1, _, by go_num, by go_num, by omega, HR4, HS4, HI2, HO4⟩
              case measure => simp [intOf]; omega
          · have hdq : decide (((q + 1 : Nat) : Int) < (n2 : Int)) = false := decide_eq_false (by omega)
            have hdq2 : decide ((q : Int) + 1 < (n2 : Int)) = false := decide_eq_false (by omega)
            have hend : m + 1 + (q + 1) = d.size := by have := HN2.out; omega
            have hnk : ¬ cap = kk := by omega
            have hnk2 : ¬ kk = cap := by omega
            obtain ⟨w4, hr4, hk4, hS4, hO4⟩ := run_clear_labs wr 37373737 g (kk * 2) (d.size - kk) (cap - kk) (by omega) (fun j hj => by
              have h5 := HR.out (kk + j / 2) (by omega)
              rcases Nat.mod_two_eq_zero_or_one j with e | e
              · rw [show kk * 2 + j = (kk + j / 2) * 2 by omega, h5.1]; rfl
              · rw [show kk * 2 + j = (kk + j / 2) * 2 + 1 by omega, h5.2]; rfl) HS.out
            have HFin := Lib.hid (show CmpR g cap d W (.returned (.slice (some ⟨g, 0, none⟩) kk cap)) w4 from by
              have hI := HI.out
              rw [hend] at hI
              refine ⟨by rw [hI.len], fun j x hx => ?_, hS4, HO.out.trans hO4⟩
              have hjk : j < kk := by have := el_lt hx; rw [hI.len] at this; exact this
              have h6 := hI.low j hjk
              rw [h6] at hx
              obtain rfl := Option.some.inj hx
              rw [hk4 _ (by omega), hk4 _ (by omega)]
              exact HR.out j (by omega))
            have hr5 : ∀ ty, (Builtin.clear_ #[73] ty #[.slice (some ⟨g, kk * 2, none⟩) (d.size - kk) (cap - kk)]).run Try.prog wr = .ok (.tuple #[]) w4 := fun ty => hr4
            clear hr4 hk4 hS4 hO4
            go_wp2
            go_ret
            exact HFin.out
    · have hdl : decide (((m + 1 : Nat) : Int) < (d.size : Int)) = false := decide_eq_false (by omega)
      have hdl2 : decide ((m : Int) + 1 < (d.size : Int)) = false := decide_eq_false (by omega)
      have HO := Lib.hid (Off.of_below (S := fun x => x = g) (Off.refl _ W) HB.out)
      go_wp2
      go_ret
      exact cmpR_all rfl (fun j hj => HK.out j (by omega)) HR.out HS.out HO.out
end Go.Proofs.Ytmmnkdilnlhbfaa.RepC
