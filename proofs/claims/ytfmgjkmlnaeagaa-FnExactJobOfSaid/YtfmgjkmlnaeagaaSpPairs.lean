/- Slices of pairs of integers (spans): conversion, comparison: contracts. -/
import Derived.Test.YtfmgjkmlnaeagaaSp
import Derived.Laws.MakeOwn
import Derived.Laws.Entries
namespace Go.Proofs.Ytfmgjkmlnaeagaa.SpanC
open Go.RowKit KeptC

def zeros (n : Nat) : Array Value := madeCells #[.int .i64 0, .int .i64 0] (n * 2)
/-- a row of n pairs that is being filled: the first k are as f says -/
structure Fill (w : World) (n : Nat) (f : Nat → Int × Int) (k : Nat) (W : World) : Prop where
  cells : ∀ j, j < n → ∃ u v, W.cell? ⟨w.heap.size, j * 2, none⟩ = some u ∧ W.cell? ⟨w.heap.size, j * 2 + 1, none⟩ = some v ∧ (j < k → u = .int .i64 (f j).1 ∧ v = .int .i64 (f j).2)
  soft : ∀ j, W.frozen? ⟨w.heap.size, j, none⟩ = false
  below : Below w.heap.size w W
  lt : w.heap.size < W.heap.size
theorem Fill.call {w W W1 : World} {n k : Nat} {f : Nat → Int × Int} (h : Fill w n f k W) (hb : Below W.heap.size W W1) : Fill w n f k W1 := by
  refine ⟨fun j hj => ?_, fun j => (hb.frozen (p := ⟨w.heap.size, j, none⟩) h.lt).trans (h.soft j), h.below.trans (hb.mono (Nat.le_of_lt h.lt)), Nat.lt_of_lt_of_le h.lt hb.size⟩
  obtain ⟨u, v, hu, hv, hk⟩ := h.cells j hj
  exact ⟨u, v, (hb.cell (p := ⟨w.heap.size, j * 2, none⟩) h.lt).trans hu, (hb.cell (p := ⟨w.heap.size, j * 2 + 1, none⟩) h.lt).trans hv, hk⟩
theorem Fill.put {w W : World} {n k : Nat} {f : Nat → Int × Int} (h : Fill w n f k W) (hk : k < n) :
    Fill w n f (k + 1) ((W.setCell ⟨w.heap.size, k * 2, none⟩ (.int .i64 (f k).1)).setCell ⟨w.heap.size, k * 2 + 1, none⟩ (.int .i64 (f k).2)) := by
  have ne : ∀ a b : Nat, a ≠ b → (⟨w.heap.size, a, none⟩ : Addr) ≠ ⟨w.heap.size, b, none⟩ := fun a b hab e => hab (by injection e)
  obtain ⟨u0, v0, hu0, hv0, _⟩ := h.cells k hk
  refine ⟨fun j hj => ?_, fun j => by simpa using h.soft j, (h.below.setCell (Nat.le_refl _) _).setCell (Nat.le_refl _) _, by simpa using h.lt⟩
  by_cases e : j = k
  · subst e
    refine ⟨.int .i64 (f j).1, .int .i64 (f j).2, ?_, ?_, fun _ => ⟨rfl, rfl⟩⟩
    · rw [World.cell?_setCell_other _ _ _ _ (ne _ _ (by omega)), World.cell?_setCell_same' _ _ _ (by rw [hu0]; rfl)]
    · rw [World.cell?_setCell_same' _ _ _ (by rw [World.cell?_setCell_other _ _ _ _ (ne _ _ (by omega)), hv0]; rfl)]
  · obtain ⟨u, v, hu, hv, hlt⟩ := h.cells j hj
    refine ⟨u, v, ?_, ?_, fun hj' => hlt (by omega)⟩
    · rw [World.cell?_setCell_other _ _ _ _ (ne _ _ (by omega)), World.cell?_setCell_other _ _ _ _ (ne _ _ (by omega))]; exact hu
    · rw [World.cell?_setCell_other _ _ _ _ (ne _ _ (by omega)), World.cell?_setCell_other _ _ _ _ (ne _ _ (by omega))]; exact hv
theorem zeros_size (n : Nat) : (zeros n).size = n * 2 := by unfold zeros; simp [madeCells]
/-- n pairs from ⟨b, o⟩ on -/
def PRow (w : World) (b o n : Nat) (f : Nat → Int × Int) : Prop := ∀ i, i < n → w.cell? ⟨b, o + i * 2, none⟩ = some (.int .i64 (f i).1) ∧ w.cell? ⟨b, o + i * 2 + 1, none⟩ = some (.int .i64 (f i).2)
theorem PRow.below {w W : World} {b o n B : Nat} {f : Nat → Int × Int} (h : PRow w b o n f) (hb : Below B w W) (hB : b < B) : PRow W b o n f := fun i hi =>
  ⟨(hb.cell (p := ⟨b, o + i * 2, none⟩) hB).trans (h i hi).1, (hb.cell (p := ⟨b, o + i * 2 + 1, none⟩) hB).trans (h i hi).2⟩
theorem Fill.row {w W : World} {n : Nat} {f : Nat → Int × Int} (h : Fill w n f n W) : PRow W w.heap.size 0 n f := fun i hi => by
  obtain ⟨u, v, hu, hv, he⟩ := h.cells i hi
  obtain ⟨rfl, rfl⟩ := he hi
  exact ⟨by simpa using hu, by simpa using hv⟩

def MadeRow (w : World) (n : Nat) (f : Nat → Int × Int) (e : Ending) (w' : World) : Prop := e = .returned (.slice (some ⟨w.heap.size, 0, none⟩) n n) ∧ Fill w n f n w'
theorem PRow.at0 {w : World} {b n : Nat} {f : Nat → Int × Int} (h : PRow w b 0 n f) {i : Nat} (hi : i < n) : w.cell? ⟨b, i * 2, none⟩ = some (.int .i64 (f i).1) ∧ w.cell? ⟨b, i * 2 + 1, none⟩ = some (.int .i64 (f i).2) := by
  have := h i hi
  simpa using this

end Go.Proofs.Ytfmgjkmlnaeagaa.SpanC
