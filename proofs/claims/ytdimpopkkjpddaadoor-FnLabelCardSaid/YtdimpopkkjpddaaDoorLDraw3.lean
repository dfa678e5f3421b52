/- The model's draws of labels for the laws: contracts. -/
import Derived.Test.YtdimpopkkjpddaaDoorLDraw
namespace Go.Proofs.YtdimpopkkjpddaaDoor.DrawC
open Go.RowKit RepC
set_option linter.unusedVariables false
set_option linter.unusedSimpArgs false

def DrawnLL (w : World) (e : Ending) (w' : World) : Prop := ∃ l s l' s' : Int, e = .returned (.tuple #[.agg #[.int .i64 l, .int .i64 s], .agg #[.int .i64 l', .int .i64 s']]) ∧ Below w.heap.size w w'
theorem drawnLL_elim {w : World} {e : Ending} {w' : World} (h : DrawnLL w e w') : ∃ l s l' s' : Int, e = .returned (.tuple #[.agg #[.int .i64 l, .int .i64 s], .agg #[.int .i64 l', .int .i64 s']]) ∧ Below w.heap.size w w' := h

set_option maxRecDepth 100000 in
set_option maxHeartbeats 3200000 in
theorem draw_below (b : Option Addr) (len cap : Nat) (w : World) (hlen : len ≤ 1048576) (h : CodeIn w b len) :
    Calls Tryd.prog 26 #[.slice b len cap] w (DrawnLL w) := by
  obtain ⟨W0, hW0⟩ : ∃ x, x = (w.alloc (.cells #[.int .i64 0, .int .i64 0] 23)).alloc (.cells #[.int .i64 0, .int .i64 0] 23) := ⟨_, rfl⟩
  have HA := Lib.hid (show Below w.heap.size w W0 from by rw [hW0]; exact ((Below.refl _ _).alloc (Nat.le_refl _) _).alloc (by simp) _)
  have HC := Lib.hid (h.below HA.out)
  have hs0 : W0.heap.size = w.heap.size + 2 := by rw [hW0]; simp
  have HSZ := Lib.hid hs0
  have HR := Lib.hid (show Blk W0 w.heap.size 23 #[.int .i64 0, .int .i64 0] from by rw [hW0]; exact (Blk.new w _ _).alloc _)
  have HQ := Lib.hid (show Blk W0 (w.heap.size + 1) 23 #[.int .i64 0, .int .i64 0] from by
    rw [hW0]
    have h := Blk.new (w.alloc (.cells #[.int .i64 0, .int .i64 0] 23)) 23 #[.int .i64 0, .int .i64 0]
    simp only [World.size_alloc] at h
    exact h)
  have hz := HA.out.size
  clear h hs0
  go_enter Tryd.func26, Tryd.ntmps26
  go_wp2_with fail
  rw [← hW0]
  clear hW0
  refine (source_any b len cap _ hlen HC.out).mono ?_
  rintro e w1 ⟨rfl, hs, hb⟩
  have HB1 := Lib.hid (HA.out.trans (hb.mono hz))
  have HR1 := Lib.hid (HR.out.call hb)
  have HQ1 := Lib.hid (HQ.out.call hb)
  have HS1 := Lib.hid hs
  clear hs hb HR HQ
  go_wp2_with fail
  refine (label_any _ b len cap _ HS1.out).mono ?_
  intro e w2 h
  obtain ⟨l, s, rfl, hs, hb⟩ := drawnL_elim h
  obtain ⟨W2, hW2⟩ : ∃ x, x = w2.alloc (.cells #[.int .i64 l, .int .i64 s] 23) := ⟨_, rfl⟩
  have hb2 : Below w2.heap.size w2 W2 := by rw [hW2]; exact (Below.refl _ _).alloc (Nat.le_refl _) _
  have HB2 := Lib.hid ((HB1.out.trans (hb.below (B := w.heap.size) HB1.out.size (by have := HSZ.out; omega))).trans (hb2.mono (Nat.le_trans HB1.out.size hb.size)))
  have HR2 := Lib.hid ((Blk.but HR1.out hb (by have := HSZ.out; omega)).call hb2)
  have HQ2 := Lib.hid ((Blk.but HQ1.out hb (by have := HSZ.out; omega)).call hb2)
  have HX2 := Lib.hid (show Blk W2 w2.heap.size 23 #[.int .i64 l, .int .i64 s] from by rw [hW2]; exact Blk.new _ _ _)
  have HS2 := Lib.hid (hs.mono (hb2.mono hs.lt))
  have hgx := hs.lt
  have hrx : w.heap.size + 1 < w2.heap.size := Nat.lt_of_lt_of_le HQ1.out.lt hb.size
  clear h hs hb hb2 HR1 HQ1 HB1 HS1
  go_wp2_with fail
  rw [← hW2]
  clear hW2
  have x0 := HX2.out.at_ 0 rfl
  have x1 := HX2.out.at_ 1 rfl
  refine wp_region_held_drew (S := (fun V => V.cell? ⟨w2.heap.size, 0, none⟩ = some (.int .i64 l) ∧ V.cell? ⟨w2.heap.size, 1, none⟩ = some (.int .i64 s))) (by kernel_rfl) (⟨x0, x1⟩) (fun hHeld => ?_)
  (refine wpAnyH_take (i := 0) (v := ?hv1) rfl (by kernel_rfl) (by kernel_rfl) (by kernel_rfl) (fun _ _ _ h => h) (Or.inl ⟨by kernel_rfl, ?hy1⟩) hHeld ?hr1; case hy1 => (intro w hSw; (try dsimp only at hSw); have k0 := hSw.1; have k1 := hSw.2; clear hSw; go_simp; try with_reducible rfl))
  simp only [Act.put, List.getElem_toArray, List.getElem_cons_succ, List.getElem_cons_zero, List.setIfInBounds_toArray, List.set_cons_zero, List.set_cons_succ]
  (refine wpAnyH_take (i := 1) (v := ?hv2) rfl (by kernel_rfl) (by kernel_rfl) (by kernel_rfl) (fun _ _ _ h => h) (Or.inl ⟨by kernel_rfl, ?hy2⟩) hHeld ?hr2; case hy2 => (intro w hSw; (try dsimp only at hSw); go_simp; try with_reducible rfl))
  simp only [Act.put, List.getElem_toArray, List.getElem_cons_succ, List.getElem_cons_zero, List.setIfInBounds_toArray, List.set_cons_zero, List.set_cons_succ]
  refine wpAnyH_ready (rs := [2]) (by kernel_rfl) (by simp) ?_
  refine AllReadyH.cons rfl (fun K hK => ?_) (AllReadyH.nil)
  go_simp
  go_at_call 53
  refine (label_any _ b len cap _ (HS2.out.mono (Below.refl _ _).drew)).mono ?_
  intro e w3 h
  obtain ⟨l', s', rfl, hs, hb0⟩ := drawnL_elim h
  have hb := ((But.refl _ W2).drew).trans hb0
  have HB3 := Lib.hid (HB2.out.trans (hb.below (B := w.heap.size) HB2.out.size (by have := HSZ.out; omega)))
  have HR3 := Lib.hid (Blk.but HR2.out hb (by have := HSZ.out; omega))
  have HQ3 := Lib.hid (Blk.but HQ2.out hb (by have := HSZ.out; omega))
  have HX3 := Lib.hid (Blk.but HX2.out hb (by omega))
  have r0 := HR3.out.at_ 0 rfl
  have r1 := HR3.out.at_ 1 rfl
  have q0 := HQ3.out.at_ 0 rfl
  have q1 := HQ3.out.at_ 1 rfl
  have f0 := HR3.out.soft 0
  have f1 := HR3.out.soft 1
  have g0 := HQ3.out.soft 0
  have g1 := HQ3.out.soft 1
  refine hK.out _ _ ⟨HX3.out.at_ 0 rfl, HX3.out.at_ 1 rfl⟩ (fun hHeld => ?_)
  clear h hs hb hb0
  clear hK K
  try simp only [Act.put, List.getElem_toArray, List.getElem_cons_succ, List.getElem_cons_zero, List.setIfInBounds_toArray, List.set_cons_zero, List.set_cons_succ]
  refine wpAnyH_ready (rs := [3]) (by kernel_rfl) (by simp) ?_
  refine AllReadyH.cons rfl (fun K hK => ?_) (AllReadyH.nil)
  go_simp
  refine hK.out _ _ ⟨(World.cell?_setCell_other _ _ _ _ (fun e => by injection e with e1 _; omega)).trans ((World.cell?_setCell_other _ _ _ _ (fun e => by injection e with e1 _; omega)).trans hHeld.1), (World.cell?_setCell_other _ _ _ _ (fun e => by injection e with e1 _; omega)).trans ((World.cell?_setCell_other _ _ _ _ (fun e => by injection e with e1 _; omega)).trans hHeld.2)⟩ (fun hHeld => ?_)
  clear hK K
  try simp only [Act.put, List.getElem_toArray, List.getElem_cons_succ, List.getElem_cons_zero, List.setIfInBounds_toArray, List.set_cons_zero, List.set_cons_succ]
  refine wpAnyH_ready (rs := [4]) (by kernel_rfl) (by simp) ?_
  refine AllReadyH.cons rfl (fun K hK => ?_) (AllReadyH.nil)
  go_simp
  refine hK.out _ _ ⟨(World.cell?_setCell_other _ _ _ _ (fun e => by injection e with e1 _; omega)).trans ((World.cell?_setCell_other _ _ _ _ (fun e => by injection e with e1 _; omega)).trans hHeld.1), (World.cell?_setCell_other _ _ _ _ (fun e => by injection e with e1 _; omega)).trans ((World.cell?_setCell_other _ _ _ _ (fun e => by injection e with e1 _; omega)).trans hHeld.2)⟩ (fun hHeld => ?_)
  clear hK K
  try simp only [Act.put, List.getElem_toArray, List.getElem_cons_succ, List.getElem_cons_zero, List.setIfInBounds_toArray, List.set_cons_zero, List.set_cons_succ]
  refine wpAnyH_done (by kernel_rfl) ?_ _
  go_wp2_with fail
  clear hHeld r0 r1 q0 q1
  generalize hV : ((((w3.setCell { block := w.heap.size, off := 0 } (Value.int IntKind.i64 l)).setCell { block := w.heap.size, off := 1 } (Value.int IntKind.i64 s)).setCell { block := w.heap.size + 1, off := 0 } (Value.int IntKind.i64 l')).setCell { block := w.heap.size + 1, off := 1 } (Value.int IntKind.i64 s')) = V
  have HVR := Lib.hid (show Blk V w.heap.size 23 #[.int .i64 l, .int .i64 s] from hV ▸ (((HR3.out.set 0 (Value.int IntKind.i64 l)).set 1 (Value.int IntKind.i64 s)).far (by omega) _).far (by omega) _)
  have HVQ := Lib.hid (show Blk V (w.heap.size + 1) 23 #[.int .i64 l', .int .i64 s'] from hV ▸ ((((HQ3.out.far (by omega) _).far (by omega) _).set 0 (Value.int IntKind.i64 l')).set 1 (Value.int IntKind.i64 s')))
  have HVB := Lib.hid (show Below w.heap.size w V from hV ▸ (((HB3.out.setCell (p := ⟨w.heap.size, 0, none⟩) (Nat.le_refl _) _).setCell (p := ⟨w.heap.size, 1, none⟩) (Nat.le_refl _) _).setCell (p := ⟨w.heap.size + 1, 0, none⟩) (Nat.le_succ _) _).setCell (p := ⟨w.heap.size + 1, 1, none⟩) (Nat.le_succ _) _)
  have v0 := HVR.out.at_ 0 rfl
  have v1 := HVR.out.at_ 1 rfl
  have v2 := HVQ.out.at_ 0 rfl
  have v3 := HVQ.out.at_ 1 rfl
  clear hV hz hgx hrx f0 f1 g0 g1 x0 x1
  refine bodyPost_ret (v := .tuple #[.agg #[.int .i64 l, .int .i64 s], .agg #[.int .i64 l', .int .i64 s']]) (by simp [results, Tryd.results26, go_sem, v0, v1, v2, v3]) rfl ?_
  exact ⟨l, s, l', s', rfl, HVB.out⟩

set_option maxRecDepth 100000 in
theorem draw_joinof (b : Option Addr) (len cap : Nat) (w : World) (hlen : len ≤ 1048576) (h : CodeIn w b len) :
    Calls Tryd.prog 23 #[.slice b len cap] w (DrawnLL w) := by
  obtain ⟨W0, hW0⟩ : ∃ x, x = (w.alloc (.cells #[.int .i64 0, .int .i64 0] 23)).alloc (.cells #[.int .i64 0, .int .i64 0] 23) := ⟨_, rfl⟩
  have HA := Lib.hid (show Below w.heap.size w W0 from by rw [hW0]; exact ((Below.refl _ _).alloc (Nat.le_refl _) _).alloc (by simp) _)
  have HC := Lib.hid (h.below HA.out)
  have hs0 : W0.heap.size = w.heap.size + 2 := by rw [hW0]; simp
  have HSZ := Lib.hid hs0
  have HR := Lib.hid (show Blk W0 w.heap.size 23 #[.int .i64 0, .int .i64 0] from by rw [hW0]; exact (Blk.new w _ _).alloc _)
  have HQ := Lib.hid (show Blk W0 (w.heap.size + 1) 23 #[.int .i64 0, .int .i64 0] from by
    rw [hW0]
    have h := Blk.new (w.alloc (.cells #[.int .i64 0, .int .i64 0] 23)) 23 #[.int .i64 0, .int .i64 0]
    simp only [World.size_alloc] at h
    exact h)
  have hz := HA.out.size
  clear h hs0
  go_enter Tryd.func23, Tryd.ntmps23
  go_wp2_with fail
  rw [← hW0]
  clear hW0
  refine (draw_below b len cap _ hlen HC.out).mono ?_
  intro e w3 h
  obtain ⟨l, s, l', s', rfl, hb⟩ := drawnLL_elim h
  have HB3 := Lib.hid (HA.out.trans (hb.mono hz))
  have HR3 := Lib.hid (HR.out.call hb)
  have HQ3 := Lib.hid (HQ.out.call hb)
  have r0 := HR3.out.at_ 0 rfl
  have r1 := HR3.out.at_ 1 rfl
  have q0 := HQ3.out.at_ 0 rfl
  have q1 := HQ3.out.at_ 1 rfl
  have f0 := HR3.out.soft 0
  have f1 := HR3.out.soft 1
  have g0 := HQ3.out.soft 0
  have g1 := HQ3.out.soft 1
  clear h hb HR HQ
  go_wp2_with fail
  clear r0 r1 q0 q1
  generalize hV : ((((w3.setCell { block := w.heap.size, off := 0 } (Value.int IntKind.i64 l)).setCell { block := w.heap.size, off := 1 } (Value.int IntKind.i64 s)).setCell { block := w.heap.size + 1, off := 0 } (Value.int IntKind.i64 l')).setCell { block := w.heap.size + 1, off := 1 } (Value.int IntKind.i64 s')) = V
  have HVR := Lib.hid (show Blk V w.heap.size 23 #[.int .i64 l, .int .i64 s] from hV ▸ (((HR3.out.set 0 (Value.int IntKind.i64 l)).set 1 (Value.int IntKind.i64 s)).far (by omega) _).far (by omega) _)
  have HVQ := Lib.hid (show Blk V (w.heap.size + 1) 23 #[.int .i64 l', .int .i64 s'] from hV ▸ ((((HQ3.out.far (by omega) _).far (by omega) _).set 0 (Value.int IntKind.i64 l')).set 1 (Value.int IntKind.i64 s')))
  have HVB := Lib.hid (show Below w.heap.size w V from hV ▸ (((HB3.out.setCell (p := ⟨w.heap.size, 0, none⟩) (Nat.le_refl _) _).setCell (p := ⟨w.heap.size, 1, none⟩) (Nat.le_refl _) _).setCell (p := ⟨w.heap.size + 1, 0, none⟩) (Nat.le_succ _) _).setCell (p := ⟨w.heap.size + 1, 1, none⟩) (Nat.le_succ _) _)
  have v0 := HVR.out.at_ 0 rfl
  have v1 := HVR.out.at_ 1 rfl
  have v2 := HVQ.out.at_ 0 rfl
  have v3 := HVQ.out.at_ 1 rfl
  clear hV hz f0 f1 g0 g1
  refine bodyPost_ret (v := .tuple #[.agg #[.int .i64 l, .int .i64 s], .agg #[.int .i64 l', .int .i64 s']]) (by simp [results, Tryd.results23, go_sem, v0, v1, v2, v3]) rfl ?_
  exact ⟨l, s, l', s', rfl, HVB.out⟩
end Go.Proofs.YtdimpopkkjpddaaDoor.DrawC
