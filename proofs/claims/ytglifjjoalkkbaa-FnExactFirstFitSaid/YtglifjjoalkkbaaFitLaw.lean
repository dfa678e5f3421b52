/- The law on FitNodes, out of the contracts. -/
import Derived.Test.YtglifjjoalkkbaaSpOpen2
import Derived.Test.YtglifjjoalkkbaaSpFit2
import Derived.Test.YtglifjjoalkkbaaIntVals
namespace Go.Proofs.Ytglifjjoalkkbaa.SpanC
open Go.RowKit KeptC RowC ValC
set_option linter.unusedSimpArgs false
set_option linter.unusedVariables false

theorem rowsIn_below {w W : World} {a : Option Addr} {m cap : Nat} {N : Nat → Nat} {F : Nat → Nat → Int × Int} (h : RowsIn w a m cap N F) (hb : Below w.heap.size w W) : RowsIn W a m cap N F := by
  obtain ⟨h1, h2, h3⟩ := h
  refine ⟨h1, h2, ?_⟩
  rcases h3 with h3 | ⟨b, o, h3, h4, h5⟩
  · exact .inl h3
  · refine .inr ⟨b, o, h3, Nat.lt_of_lt_of_le h4 hb.size, fun i hi => ?_⟩
    obtain ⟨ai, ci, h6, h7⟩ := h5 i hi
    exact ⟨ai, ci, (hb.cell (p := ⟨b, o + i, none⟩) h4).trans h6, pairsIn_below h7 hb⟩
theorem size1 {w W : World} {o : Obj} (h : Below (w.heap.size + 1) (w.alloc o) W) : w.heap.size + 1 ≤ W.heap.size := by have := h.size; simpa using this
theorem fitR_len {N : Nat → Nat} {F : Nat → Nat → Int × Int} {a b : Int} {m : Nat} {need : Int} {L : List Nat} (h : FitR N F a b m need L) : L.length ≤ 6 := by
  rcases h with ⟨h1, rfl⟩ | ⟨h1, rfl⟩
  · have := (isB_iff _ _ _).1 h1.2.1
    rw [List.length_take]
    omega
  · simp

set_option maxRecDepth 100000 in
set_option maxHeartbeats 3200000 in
theorem law_fit (a : Option Addr) (m cap : Nat) (N : Nat → Nat) (F : Nat → Nat → Int × Int) (need x y : Int) (w : World) (hp : RowsIn w a m cap N F) :
    Calls Try.prog 8 #[.slice a m cap, .int .i64 need, .agg #[.int .i64 x, .int .i64 y]] w fun e w' => e = .returned (.bool true) ∧ Below w.heap.size w w' := by
  have hs : ∀ W, Below w.heap.size w W → Calls Try.prog 31 #[.slice a m cap, .int .i64 1048576] W (SzR (m + tot N m) W) := fun W hb => szSS_v (rowsIn_below hp hb)
  have HSZ := Lib.hid hs
  clear hs
  by_cases hn : m + tot N m ≤ 1048576
  · have HT := Lib.hid (rows_to hp hn)
    have hm : m ≤ 1048576 := by omega
    have hT : tot N m ≤ 1048576 := by omega
    have hN : ∀ i, i < m → N i ≤ 1048576 := fun i hi => by have := tot_at N hi; omega
    have hl : (0 : Int) ≤ 1048576 - ((m + tot N m : Nat) : Int) := by omega
    clear hp
    go_enter Try.func8, Try.ntmps8
    go_wp2_with fail
    refine (HSZ.out _ ((Below.refl _ _).alloc (Nat.le_refl _) _)).mono ?_
    rintro e w' ⟨rfl, rfl⟩
    rw [szV_yes hn]
    go_wp2_with fail
    have HB0 := Lib.hid (Below.refl (w.heap.size + 1) (w.alloc (.cells #[.int .i64 x, .int .i64 y] 46)))
    have hxl : w.heap.size < ((w.alloc (.cells #[.int .i64 x, .int .i64 y] 46))).heap.size := by simp
    have hsz : (w.heap.size + 1) ≤ ((w.alloc (.cells #[.int .i64 x, .int .i64 y] 46))).heap.size := by simp
    have hx0 : ((w.alloc (.cells #[.int .i64 x, .int .i64 y] 46))).cell? ⟨w.heap.size, 0, none⟩ = some (.int .i64 x) := by simp
    have hx1 : ((w.alloc (.cells #[.int .i64 x, .int .i64 y] 46))).cell? ⟨w.heap.size, 1, none⟩ = some (.int .i64 y) := by simp
    refine wp_region_held_drew (S := (fun W => W.cell? ⟨w.heap.size, 0, none⟩ = some (.int .i64 x) ∧ W.cell? ⟨w.heap.size, 1, none⟩ = some (.int .i64 y) ∧ ((w.alloc (.cells #[.int .i64 x, .int .i64 y] 46))).heap.size ≤ W.heap.size ∧ Below (((w.alloc (.cells #[.int .i64 x, .int .i64 y] 46))).heap.size) ((w.alloc (.cells #[.int .i64 x, .int .i64 y] 46))) W)) (by kernel_rfl) (⟨hx0, hx1, Nat.le_refl _, (Below.refl _ _).drew⟩) (fun hHeld => ?_)
    (refine wpAnyH_take (i := 0) (v := ?hv1) rfl (by kernel_rfl) (by kernel_rfl) (by kernel_rfl) (fun _ _ _ h => h) (Or.inl ⟨by kernel_rfl, ?hy1⟩) hHeld ?hr1; case hy1 => (intro w hSw; (try dsimp only at hSw); go_simp; try with_reducible rfl))
    simp only [Act.put, List.getElem_toArray, List.getElem_cons_succ, List.getElem_cons_zero, List.setIfInBounds_toArray, List.set_cons_zero, List.set_cons_succ]
    (refine wpAnyH_take (i := 2) (v := ?hv2) rfl (by kernel_rfl) (by kernel_rfl) (by kernel_rfl) (fun _ _ _ h => h) (Or.inl ⟨by kernel_rfl, ?hy2⟩) hHeld ?hr2; case hy2 => (intro w hSw; (try dsimp only at hSw); go_simp; try with_reducible rfl))
    simp only [Act.put, List.getElem_toArray, List.getElem_cons_succ, List.getElem_cons_zero, List.setIfInBounds_toArray, List.set_cons_zero, List.set_cons_succ]
    (refine wpAnyH_take (i := 3) (v := ?hv3) rfl (by kernel_rfl) (by kernel_rfl) (by kernel_rfl) (fun _ _ _ h => h) (Or.inl ⟨by kernel_rfl, ?hy3⟩) hHeld ?hr3; case hy3 => (intro w hSw; (try dsimp only at hSw); go_simp; try with_reducible rfl))
    simp only [Act.put, List.getElem_toArray, List.getElem_cons_succ, List.getElem_cons_zero, List.setIfInBounds_toArray, List.set_cons_zero, List.set_cons_succ]
    refine wpAnyH_ready (rs := [1]) (by kernel_rfl) (by simp) ?_
    refine AllReadyH.cons rfl (fun K hK => ?_) AllReadyH.nil
    go_simp
    go_at_call 32; refine (HT.out _ (bel1 (HB0.out.trans (hHeld.2.2.2.mono hsz)))).mono ?_; intro e u1 h1; obtain ⟨rfl, G1, hr1, _, _, hb, hl1⟩ := newRows_elim h1; have HR1 := Lib.hid (show RRow u1 (w.heap.size + 1) m N F G1 by simpa using hr1); clear hr1 h1
    refine hK.out _ _ (⟨(hb.cell (p := ⟨w.heap.size, 0, none⟩) (Nat.lt_of_lt_of_le hxl hHeld.2.2.1)).trans hHeld.1, (hb.cell (p := ⟨w.heap.size, 1, none⟩) (Nat.lt_of_lt_of_le hxl hHeld.2.2.1)).trans hHeld.2.1, Nat.le_trans hHeld.2.2.1 hb.size, hHeld.2.2.2.trans (hb.mono hHeld.2.2.1)⟩) (fun hHeld => ?_)
    clear hK K
    try simp only [Act.put, List.getElem_toArray, List.getElem_cons_succ, List.getElem_cons_zero, List.setIfInBounds_toArray, List.set_cons_zero, List.set_cons_succ]
    refine wpAnyH_ready (rs := [4]) (by kernel_rfl) (by simp) ?_
    refine AllReadyH.cons rfl (fun K hK => ?_) AllReadyH.nil
    go_simp
    go_at_call 28; refine (to_w _ _ _).mono ?_; rintro e u2 ⟨rfl, hb⟩; have HR2 := Lib.hid (HR1.out.below hb)
    refine hK.out _ _ (⟨(hb.cell (p := ⟨w.heap.size, 0, none⟩) (Nat.lt_of_lt_of_le hxl hHeld.2.2.1)).trans hHeld.1, (hb.cell (p := ⟨w.heap.size, 1, none⟩) (Nat.lt_of_lt_of_le hxl hHeld.2.2.1)).trans hHeld.2.1, Nat.le_trans hHeld.2.2.1 hb.size, hHeld.2.2.2.trans (hb.mono hHeld.2.2.1)⟩) (fun hHeld => ?_)
    clear hK K
    try simp only [Act.put, List.getElem_toArray, List.getElem_cons_succ, List.getElem_cons_zero, List.setIfInBounds_toArray, List.set_cons_zero, List.set_cons_succ]
    refine wpAnyH_ready (rs := [5]) (by kernel_rfl) (by simp) ?_
    refine AllReadyH.cons rfl (fun K hK => ?_) AllReadyH.nil
    go_simp
    go_at_call 20; refine (fitnodes_spec need x y hm hN HR2.out).mono ?_; intro e u3 h3; obtain ⟨v0, L0, rfl, hq, hrow, hb⟩ := resN_elim h3; have HQ := Lib.hid hq; have HV0 := Lib.hid hrow; clear hq hrow; clear h3
    refine hK.out _ _ (⟨(hb.cell (p := ⟨w.heap.size, 0, none⟩) (Nat.lt_of_lt_of_le hxl hHeld.2.2.1)).trans hHeld.1, (hb.cell (p := ⟨w.heap.size, 1, none⟩) (Nat.lt_of_lt_of_le hxl hHeld.2.2.1)).trans hHeld.2.1, Nat.le_trans hHeld.2.2.1 hb.size, hHeld.2.2.2.trans (hb.mono hHeld.2.2.1)⟩) (fun hHeld => ?_)
    clear hK K
    try simp only [Act.put, List.getElem_toArray, List.getElem_cons_succ, List.getElem_cons_zero, List.setIfInBounds_toArray, List.set_cons_zero, List.set_cons_succ]
    (refine wpAnyH_take (i := 6) (v := ?hv4) rfl (by kernel_rfl) (by kernel_rfl) (by kernel_rfl) (fun _ _ _ h => h) (Or.inl ⟨by kernel_rfl, ?hy4⟩) hHeld ?hr4; case hy4 => (intro w hSw; (try dsimp only at hSw); go_simp; try with_reducible rfl))
    simp only [Act.put, List.getElem_toArray, List.getElem_cons_succ, List.getElem_cons_zero, List.setIfInBounds_toArray, List.set_cons_zero, List.set_cons_succ]
    refine wpAnyH_done (by kernel_rfl) ?_ _
    have HB3 := Lib.hid (show Below (w.heap.size + 1) (w.alloc (.cells #[.int .i64 x, .int .i64 y] 46)) u3 by simpa using hHeld.2.2.2)
    have hs3 := size1 HB3.out
    clear hHeld
    have hL6 : L0.length ≤ 6 := fitR_len HQ.out
    go_wp2_with fail
    refine (HT.out _ (bel1 HB3.out)).mono ?_
    intro e w4 h
    obtain ⟨rfl, G, hr, hsoft, hG, hb, hlt4⟩ := newRows_elim h
    have HX := Lib.hid hr
    have HXS := Lib.hid hsoft
    have HG0 := Lib.hid hG
    have HV0 := Lib.hid (HV0.out.below hb)
    have hle4 := hb.size
    have HB4 := Lib.hid (HB3.out.trans (hb.mono hs3))
    have hs4 := size1 HB4.out
    have ⟨hy0, hy1, hyl⟩ := box0 HB4.out
    clear h hr hsoft hG hb
    go_wp2_with fail
    refine (to_w _ _ _).mono ?_
    rintro e w5 ⟨rfl, hb⟩
    have HXS := Lib.hid (HXS.out.below HX.out hb)
    have HX := Lib.hid (HX.out.below hb)
    have HV0 := Lib.hid (HV0.out.below hb)
    have hle5 := hb.size
    have HB5 := Lib.hid (HB4.out.trans (hb.mono hs4))
    have hs5 := size1 HB5.out
    clear hb
    go_wp2_with fail
    refine (fitnodes_impl need x y hm hN HX.out).mono ?_
    intro e w6 h
    obtain ⟨v1, L1, rfl, hq, hrow, hb⟩ := resN_elim h
    obtain rfl := fitR_one HQ.out hq
    have HG := Lib.hid hrow
    have HXS := Lib.hid (HXS.out.below HX.out hb)
    have HX := Lib.hid (HX.out.below hb)
    have HV0 := Lib.hid (HV0.out.below hb)
    have hle6 := hb.size
    have HB6 := Lib.hid (HB5.out.trans (hb.mono hs5))
    have hs6 := size1 HB6.out
    clear h hq hb hrow
    go_wp2_with fail
    refine (IntC.eqI_v (f := fun j => ((L0.getD j 0 : Nat) : Int)) (h := fun j => ((L0.getD j 0 : Nat) : Int)) (by omega) HG.out HV0.out (fun _ _ => rfl)).mono ?_
    intro e w7 h
    obtain ⟨rfl, hb⟩ := isB_elim h
    have HXS := Lib.hid (HXS.out.below HX.out hb)
    have HX := Lib.hid (HX.out.below hb)
    have HG := Lib.hid (HG.out.below hb)
    have HV0 := Lib.hid (HV0.out.below hb)
    have hle7 := hb.size
    have HB7 := Lib.hid (HB6.out.trans (hb.mono hs6))
    have hs7 := size1 HB7.out
    clear h hb
    go_wp2_with fail
    refine (HT.out _ (bel1 HB7.out)).mono ?_
    intro e w8 h
    obtain ⟨rfl, G', hr, _, _, hb, hlt8⟩ := newRows_elim h
    have HY := Lib.hid hr
    have HXS := Lib.hid (HXS.out.below HX.out hb)
    have HX := Lib.hid (HX.out.below hb)
    have HG := Lib.hid (HG.out.below hb)
    have HV0 := Lib.hid (HV0.out.below hb)
    have hle8 := hb.size
    have HB8 := Lib.hid (HB7.out.trans (hb.mono hs7))
    have hs8 := size1 HB8.out
    clear h hr hb
    go_wp2_with fail
    refine (eqSS_v hm hN HX.out HY.out).mono ?_
    intro e w9 h
    obtain ⟨rfl, hb⟩ := isB_elim h
    have HXS := Lib.hid (HXS.out.below HX.out hb)
    have HX := Lib.hid (HX.out.below hb)
    have HG := Lib.hid (HG.out.below hb)
    have HV0 := Lib.hid (HV0.out.below hb)
    have hle9 := hb.size
    have HB9 := Lib.hid (HB8.out.trans (hb.mono hs8))
    have hs9 := size1 HB9.out
    clear h hb HY
    go_wp2_with fail
    refine (markSS_v hm hT HX.out HXS.out).mono ?_
    rintro e w10 ⟨rfl, ho⟩
    have HG := Lib.hid (HG.out.off ho (fun k h1 => by obtain ⟨i, hi, rfl⟩ := h1; have := HG0.out i hi; unfold Rg; omega))
    have HV0 := Lib.hid (HV0.out.off ho (fun k h1 => by obtain ⟨i, hi, rfl⟩ := h1; have := HG0.out i hi; unfold Rg; omega))
    have hb := ho.below (B := w.heap.size + 1) hs9 (fun k hk => by obtain ⟨i, hi, rfl⟩ := hk; have := HG0.out i hi; omega)
    have hle10 := hb.size
    have HB10 := Lib.hid (HB9.out.trans hb)
    have hs10 := size1 HB10.out
    clear hb ho HX HXS
    go_wp2_with fail
    refine (IntC.eqI_v (f := fun j => ((L0.getD j 0 : Nat) : Int)) (h := fun j => ((L0.getD j 0 : Nat) : Int)) (by omega) HG.out HV0.out (fun _ _ => rfl)).mono ?_
    intro e w11 h
    obtain ⟨rfl, hb⟩ := isB_elim h
    have HG := Lib.hid (HG.out.below hb)
    have HV0 := Lib.hid (HV0.out.below hb)
    have hle11 := hb.size
    have HB11 := Lib.hid (HB10.out.trans (hb.mono hs10))
    have hs11 := size1 HB11.out
    clear h hb
    go_wp2_with fail
    refine (IntC.markI_v (f := fun j => ((L0.getD j 0 : Nat) : Int)) (k := 1) (by omega) (by omega) (by omega) HG.out).mono ?_
    intro e w12 h
    obtain ⟨rfl, hmk, ho⟩ := marks_elim h
    have HV0 := Lib.hid (HV0.out.off ho (fun k h1 => rg_apart (by omega) h1))
    have HG := Lib.hid hmk
    have hb := ho.below (B := w.heap.size + 1) hs11 (fun k hk => by unfold Rg at hk; omega)
    have hle12 := hb.size
    have HB12 := Lib.hid (HB11.out.trans hb)
    have hs12 := size1 HB12.out
    clear h hb ho hmk
    go_wp2_with fail
    refine (IntC.heldI_v (k := 1) (by omega) (by omega) (by omega) HG.out).mono ?_
    rintro e w13 ⟨rfl, hb⟩
    have HG := Lib.hid (HG.out.below hb)
    have HV0 := Lib.hid (HV0.out.below hb)
    have hle13 := hb.size
    have HB13 := Lib.hid (HB12.out.trans (hb.mono hs12))
    have hs13 := size1 HB13.out
    clear hb
    clear hx0 hx1 hxl hy0 hy1 hyl
    have ⟨hx0, hx1, hxl⟩ := box0 HB13.out
    go_wp2_with fail
    refine wp_region_held_drew (S := (fun W => W.cell? ⟨w.heap.size, 0, none⟩ = some (.int .i64 x) ∧ W.cell? ⟨w.heap.size, 1, none⟩ = some (.int .i64 y) ∧ (w13).heap.size ≤ W.heap.size ∧ Below ((w13).heap.size) (w13) W)) (by kernel_rfl) (⟨hx0, hx1, Nat.le_refl _, (Below.refl _ _).drew⟩) (fun hHeld => ?_)
    (refine wpAnyH_take (i := 0) (v := ?hv5) rfl (by kernel_rfl) (by kernel_rfl) (by kernel_rfl) (fun _ _ _ h => h) (Or.inl ⟨by kernel_rfl, ?hy5⟩) hHeld ?hr5; case hy5 => (intro w hSw; (try dsimp only at hSw); go_simp; try with_reducible rfl))
    simp only [Act.put, List.getElem_toArray, List.getElem_cons_succ, List.getElem_cons_zero, List.setIfInBounds_toArray, List.set_cons_zero, List.set_cons_succ]
    (refine wpAnyH_take (i := 2) (v := ?hv6) rfl (by kernel_rfl) (by kernel_rfl) (by kernel_rfl) (fun _ _ _ h => h) (Or.inl ⟨by kernel_rfl, ?hy6⟩) hHeld ?hr6; case hy6 => (intro w hSw; (try dsimp only at hSw); go_simp; try with_reducible rfl))
    simp only [Act.put, List.getElem_toArray, List.getElem_cons_succ, List.getElem_cons_zero, List.setIfInBounds_toArray, List.set_cons_zero, List.set_cons_succ]
    (refine wpAnyH_take (i := 3) (v := ?hv7) rfl (by kernel_rfl) (by kernel_rfl) (by kernel_rfl) (fun _ _ _ h => h) (Or.inl ⟨by kernel_rfl, ?hy7⟩) hHeld ?hr7; case hy7 => (intro w hSw; (try dsimp only at hSw); go_simp; try with_reducible rfl))
    simp only [Act.put, List.getElem_toArray, List.getElem_cons_succ, List.getElem_cons_zero, List.setIfInBounds_toArray, List.set_cons_zero, List.set_cons_succ]
    refine wpAnyH_ready (rs := [1]) (by kernel_rfl) (by simp) ?_
    refine AllReadyH.cons rfl (fun K hK => ?_) AllReadyH.nil
    go_simp
    go_at_call 32; refine (HT.out _ (bel1 (HB13.out.trans (hHeld.2.2.2.mono hs13)))).mono ?_; intro e u1 h1; obtain ⟨rfl, G1, hr1, _, _, hb, hl1⟩ := newRows_elim h1; have HR1 := Lib.hid (show RRow u1 (w13.heap.size) m N F G1 by simpa using hr1); clear hr1 h1
    refine hK.out _ _ (⟨(hb.cell (p := ⟨w.heap.size, 0, none⟩) (Nat.lt_of_lt_of_le hxl hHeld.2.2.1)).trans hHeld.1, (hb.cell (p := ⟨w.heap.size, 1, none⟩) (Nat.lt_of_lt_of_le hxl hHeld.2.2.1)).trans hHeld.2.1, Nat.le_trans hHeld.2.2.1 hb.size, hHeld.2.2.2.trans (hb.mono hHeld.2.2.1)⟩) (fun hHeld => ?_)
    clear hK K
    try simp only [Act.put, List.getElem_toArray, List.getElem_cons_succ, List.getElem_cons_zero, List.setIfInBounds_toArray, List.set_cons_zero, List.set_cons_succ]
    refine wpAnyH_ready (rs := [4]) (by kernel_rfl) (by simp) ?_
    refine AllReadyH.cons rfl (fun K hK => ?_) AllReadyH.nil
    go_simp
    go_at_call 28; refine (to_w _ _ _).mono ?_; rintro e u2 ⟨rfl, hb⟩; have HR2 := Lib.hid (HR1.out.below hb)
    refine hK.out _ _ (⟨(hb.cell (p := ⟨w.heap.size, 0, none⟩) (Nat.lt_of_lt_of_le hxl hHeld.2.2.1)).trans hHeld.1, (hb.cell (p := ⟨w.heap.size, 1, none⟩) (Nat.lt_of_lt_of_le hxl hHeld.2.2.1)).trans hHeld.2.1, Nat.le_trans hHeld.2.2.1 hb.size, hHeld.2.2.2.trans (hb.mono hHeld.2.2.1)⟩) (fun hHeld => ?_)
    clear hK K
    try simp only [Act.put, List.getElem_toArray, List.getElem_cons_succ, List.getElem_cons_zero, List.setIfInBounds_toArray, List.set_cons_zero, List.set_cons_succ]
    refine wpAnyH_ready (rs := [5]) (by kernel_rfl) (by simp) ?_
    refine AllReadyH.cons rfl (fun K hK => ?_) AllReadyH.nil
    go_simp
    go_at_call 19; refine (fitnodes_impl need x y hm hN HR2.out).mono ?_; intro e u3 h3; obtain ⟨v2, L2, rfl, hq, hrow, hb⟩ := resN_elim h3; obtain rfl := fitR_one HQ.out hq; have HH := Lib.hid hrow; clear hq hrow; clear h3
    refine hK.out _ _ (⟨(hb.cell (p := ⟨w.heap.size, 0, none⟩) (Nat.lt_of_lt_of_le hxl hHeld.2.2.1)).trans hHeld.1, (hb.cell (p := ⟨w.heap.size, 1, none⟩) (Nat.lt_of_lt_of_le hxl hHeld.2.2.1)).trans hHeld.2.1, Nat.le_trans hHeld.2.2.1 hb.size, hHeld.2.2.2.trans (hb.mono hHeld.2.2.1)⟩) (fun hHeld => ?_)
    clear hK K
    try simp only [Act.put, List.getElem_toArray, List.getElem_cons_succ, List.getElem_cons_zero, List.setIfInBounds_toArray, List.set_cons_zero, List.set_cons_succ]
    (refine wpAnyH_take (i := 6) (v := ?hv8) rfl (by kernel_rfl) (by kernel_rfl) (by kernel_rfl) (fun _ _ _ h => h) (Or.inl ⟨by kernel_rfl, ?hy8⟩) hHeld ?hr8; case hy8 => (intro w hSw; (try dsimp only at hSw); go_simp; try with_reducible rfl))
    simp only [Act.put, List.getElem_toArray, List.getElem_cons_succ, List.getElem_cons_zero, List.setIfInBounds_toArray, List.set_cons_zero, List.set_cons_succ]
    refine wpAnyH_done (by kernel_rfl) ?_ _
    have HG := Lib.hid (HG.out.below hHeld.2.2.2)
    have HV0 := Lib.hid (HV0.out.below hHeld.2.2.2)
    have HB14 := Lib.hid (HB13.out.trans (hHeld.2.2.2.mono hs13))
    have hs14 := size1 HB14.out
    have hle14 := hHeld.2.2.1
    clear hHeld
    go_wp2_with fail
    refine (IntC.eqI_v (f := fun j => ((L0.getD j 0 : Nat) : Int)) (h := fun j => ((L0.getD j 0 : Nat) : Int)) (by omega) HH.out HV0.out (fun _ _ => rfl)).mono ?_
    intro e w15 h
    obtain ⟨rfl, hb⟩ := isB_elim h
    have HG := Lib.hid (HG.out.below hb)
    have hle15 := hb.size
    have HB15 := Lib.hid (HB14.out.trans (hb.mono hs14))
    have hs15 := size1 HB15.out
    clear h hb
    clear HH HV0
    go_wp2_with fail
    refine (IntC.heldI_v (k := 1) (by omega) (by omega) (by omega) HG.out).mono ?_
    rintro e w16 ⟨rfl, hb⟩
    have hle16 := hb.size
    have HB16 := Lib.hid (HB15.out.trans (hb.mono hs15))
    have hs16 := size1 HB16.out
    clear hb
    go_wp2
    go_ret
    exact ⟨rfl, bel1 HB16.out⟩
  · clear hp
    go_enter Try.func8, Try.ntmps8
    go_wp2_with fail
    refine (HSZ.out _ ((Below.refl _ _).alloc (Nat.le_refl _) _)).mono ?_
    rintro e w' ⟨rfl, rfl⟩
    rw [szV_no hn]
    go_wp2
    go_ret
    exact ⟨rfl, (Below.refl _ _).alloc (Nat.le_refl _) _⟩
end Go.Proofs.Ytglifjjoalkkbaa.SpanC
