/- The law on a label's text, out of the contracts. -/
import Derived.Test.YtdimpopkkjpddaaDoorText
namespace Go.Proofs.YtdimpopkkjpddaaDoor.LabC
open Go.RowKit KeptC

/-- the table of letters, as it is laid -/
structure Door (w : World) : Prop where
  c0 : w.cell? ⟨0, 0, none⟩ = some (.int .i32 97)
  c1 : w.cell? ⟨0, 1, none⟩ = some (.int .i32 98)
  c2 : w.cell? ⟨0, 2, none⟩ = some (.int .i32 99)
theorem Door.lt {w : World} (h : Door w) : 0 < w.heap.size := World.block_lt_of_cell? w ⟨0, 0, none⟩ h.c0
theorem Door.below {w W W1 : World} (h : Door W) (hb : Below w.heap.size W W1) (hw : 0 < w.heap.size) : Door W1 :=
  ⟨(hb.cell (p := ⟨0, 0, none⟩) hw).trans h.c0, (hb.cell (p := ⟨0, 1, none⟩) hw).trans h.c1, (hb.cell (p := ⟨0, 2, none⟩) hw).trans h.c2⟩
def textV (l s : Int) : ByteArray := if rB l s = true then txt l s 3 else { data := #[] }
theorem text_yes {l s : Int} (h : rB l s = true) : textV l s = txt l s 3 := if_pos h
theorem text_no {l s : Int} (h : rB l s = false) : textV l s = { data := #[] } := if_neg (by simp [h])
theorem ts_w (l s : Int) (w : World) : Calls Tryd.prog 36 #[.agg #[.int .i64 l, .int .i64 s]] w fun e w' => e = .returned (.string (textV l s)) ∧ Below w.heap.size w w' := by
  by_cases h : rB l s = true
  · rw [text_yes h]
    have hp := (rB_iff l s).1 h
    exact text_spec l s w h hp.1 hp.2.1
  · have h' : rB l s = false := by simpa using h
    rw [text_no h']
    clear h
    go_enter Tryd.func36, Tryd.ntmps36
    go_wp2_with (go_at_call 41; refine (right_spec _ _ _).mono ?_; unfold labO; rintro e w1 ⟨rfl, rfl⟩)
    go_ret
    exact ⟨rfl, ((Below.refl _ _).alloc (Nat.le_refl _) _).alloc (by simp) _⟩
theorem ti_w (l s : Int) (w : World) (hD : Door w) : Calls Tryd.prog 28 #[.agg #[.int .i64 l, .int .i64 s]] w fun e w' => e = .returned (.string (textV l s)) ∧ Below w.heap.size w w' := by
  by_cases h : rB l s = true
  · rw [text_yes h]
    have hp := (rB_iff l s).1 h
    exact text_impl l s w h hp.1 hp.2.1 hD.c0 hD.c1 hD.c2
  · have h' : rB l s = false := by simpa using h
    rw [text_no h']
    clear h hD
    go_enter Tryd.func28, Tryd.ntmps28
    go_wp2_with (go_at_call 40; refine (right_impl _ _ _).mono ?_; unfold labO; rintro e w1 ⟨rfl, rfl⟩)
    go_ret
    exact ⟨rfl, ((Below.refl _ _).alloc (Nat.le_refl _) _).alloc (by simp) _⟩
end Go.Proofs.YtdimpopkkjpddaaDoor.LabC
