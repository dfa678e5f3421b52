/- The model's draws of labels for the laws: contracts. -/
import Derived.Test.YtdimpopkkjpddaaDoorLDraw
namespace Go.Proofs.YtdimpopkkjpddaaDoor.DrawC
open Go.RowKit RepC
set_option linter.unusedVariables false
set_option linter.unusedSimpArgs false

def DrawnL1 (w : World) (e : Ending) (w' : World) : Prop := ∃ l s : Int, e = .returned (.agg #[.int .i64 l, .int .i64 s]) ∧ Below w.heap.size w w'
theorem drawnL1_elim {w : World} {e : Ending} {w' : World} (h : DrawnL1 w e w') : ∃ l s : Int, e = .returned (.agg #[.int .i64 l, .int .i64 s]) ∧ Below w.heap.size w w' := h

set_option maxRecDepth 100000 in
set_option maxHeartbeats 1600000 in
theorem draw_labeltext (b : Option Addr) (len cap : Nat) (w : World) (hlen : len ≤ 1048576) (h : CodeIn w b len) :
    Calls Tryd.prog 27 #[.slice b len cap] w (DrawnL1 w) := by
  obtain ⟨W0, hW0⟩ : ∃ x, x = w.alloc (.cells #[.int .i64 0, .int .i64 0] 23) := ⟨_, rfl⟩
  have HA := Lib.hid (show Below w.heap.size w W0 from by rw [hW0]; exact (Below.refl _ _).alloc (Nat.le_refl _) _)
  have HC := Lib.hid (h.below HA.out)
  have hs0 : W0.heap.size = w.heap.size + 1 := by rw [hW0]; simp
  have HSZ := Lib.hid hs0
  have HR := Lib.hid (show Blk W0 w.heap.size 23 #[.int .i64 0, .int .i64 0] from by rw [hW0]; exact Blk.new w _ _)
  have hz := HA.out.size
  clear h hs0
  go_enter Tryd.func27, Tryd.ntmps27
  go_wp2_with fail
  rw [← hW0]
  clear hW0
  refine (source_any b len cap _ hlen HC.out).mono ?_
  rintro e w1 ⟨rfl, hs, hb⟩
  have HB1 := Lib.hid (HA.out.trans (hb.mono hz))
  have HR1 := Lib.hid (HR.out.call hb)
  have HS1 := Lib.hid hs
  clear hs hb HR
  go_wp2_with fail
  refine (label_any _ b len cap _ HS1.out).mono ?_
  intro e w2 h
  obtain ⟨l, s, rfl, hs, hb⟩ := drawnL_elim h
  have HB2 := Lib.hid (HB1.out.trans (hb.below (B := w.heap.size) HB1.out.size (by have := HSZ.out; omega)))
  have HR2 := Lib.hid (Blk.but HR1.out hb (by have := HSZ.out; omega))
  clear h hs hb HR1 HB1
  have r0 := HR2.out.at_ 0 rfl
  have r1 := HR2.out.at_ 1 rfl
  have f0 := HR2.out.soft 0
  have f1 := HR2.out.soft 1
  clear hz hlen
  go_wp2
  generalize hV : (w2.setCell { block := w.heap.size, off := 0 } (Value.int IntKind.i64 l)).setCell { block := w.heap.size, off := 1 } (Value.int IntKind.i64 s) = V
  have HVR := Lib.hid (show Blk V w.heap.size 23 #[.int .i64 l, .int .i64 s] from hV ▸ ((HR2.out.set 0 (Value.int IntKind.i64 l)).set 1 (Value.int IntKind.i64 s)))
  have HVB := Lib.hid (show Below w.heap.size w V from hV ▸ (HB2.out.setCell (p := ⟨w.heap.size, 0, none⟩) (Nat.le_refl _) _).setCell (p := ⟨w.heap.size, 1, none⟩) (Nat.le_refl _) _)
  have v0 := HVR.out.at_ 0 rfl
  have v1 := HVR.out.at_ 1 rfl
  clear hV
  refine bodyPost_ret (v := .agg #[.int .i64 l, .int .i64 s]) (by simp [results, Tryd.results27, go_sem, v0, v1]) rfl ?_
  exact ⟨l, s, rfl, HVB.out⟩
end Go.Proofs.YtdimpopkkjpddaaDoor.DrawC
