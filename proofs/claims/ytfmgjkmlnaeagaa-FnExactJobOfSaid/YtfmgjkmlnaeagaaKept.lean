/- Cells that a call keeps while it makes memory: general in the program. -/
import Derived.Test.YtfmgjkmlnaeagaaRows
import Derived.WalkKit
import Derived.ProofKit
import Derived.Below
import Derived.Lib.Hide
import Derived.RegionTactic
import Derived.Deep.RegionWith
import Derived.Deep.RegionHeld3
import Derived.Deep.DeepCutAuto
namespace Go.Proofs.Ytfmgjkmlnaeagaa.KeptC
open Go.RowKit

/-- The cells of the list L, all of them in blocks below 'base', hold what L says; nothing older than w has turned. -/
structure KS (w : World) (base : Nat) (L : List (Nat × Nat × Value)) (W : World) : Prop where
  cells : ∀ x ∈ L, W.cell? ⟨x.1, x.2.1, none⟩ = some x.2.2
  low : ∀ x ∈ L, x.1 < base
  size : base ≤ W.heap.size
  below : Below w.heap.size w W
  base : w.heap.size ≤ base
variable {w W W1 : World} {base : Nat} {L : List (Nat × Nat × Value)}
theorem KS.call (h : KS w base L W) (hb : Below W.heap.size W W1) : KS w base L W1 :=
  ⟨fun x hx => (hb.cell (p := ⟨x.1, x.2.1, none⟩) (Nat.lt_of_lt_of_le (h.low x hx) h.size)).trans (h.cells x hx), h.low, Nat.le_trans h.size hb.size, h.below.trans (hb.mono (Nat.le_trans h.base h.size)), h.base⟩
theorem KS.alloc (h : KS w base L W) (o : Obj) : KS w base L (W.alloc o) := h.call ((Below.refl _ _).alloc (Nat.le_refl _) o)
theorem KS.drew (h : KS w base L W) : KS w base L W.drew := h.call (Below.refl _ _).drew
theorem KS.set (h : KS w base L W) {b o : Nat} (hb : base ≤ b) (v : Value) : KS w base L (W.setCell ⟨b, o, none⟩ v) := by
  refine ⟨fun x hx => ?_, h.low, by simpa using h.size, h.below.setCell (Nat.le_trans h.base hb) v, h.base⟩
  have hn : (⟨b, o, none⟩ : Addr) ≠ ⟨x.1, x.2.1, none⟩ := fun e => by have := h.low x hx; injection e; omega
  rw [World.cell?_setCell_other _ _ _ _ hn]
  exact h.cells x hx
theorem KS.nil (w : World) : KS w w.heap.size [] w := ⟨fun x hx => (by cases hx), fun x hx => (by cases hx), Nat.le_refl _, Below.refl _ _, Nat.le_refl _⟩
theorem KS.push {M : List (Nat × Nat × Value)} {g : Nat} (h : KS w base L W) (hg : base ≤ g) (hG : g < W.heap.size) (hM : ∀ x ∈ M, x.1 = g ∧ W.cell? ⟨x.1, x.2.1, none⟩ = some x.2.2) : KS w (g + 1) (L ++ M) W := by
  refine ⟨fun x hx => ?_, fun x hx => ?_, hG, h.below, Nat.le_trans h.base (Nat.le_succ_of_le hg)⟩
  · rcases List.mem_append.1 hx with hx | hx
    · exact h.cells x hx
    · exact (hM x hx).2
  · rcases List.mem_append.1 hx with hx | hx
    · exact Nat.lt_succ_of_lt (Nat.lt_of_lt_of_le (h.low x hx) hg)
    · exact Nat.lt_succ_of_le (Nat.le_of_eq (hM x hx).1)
theorem KS.at (h : KS w base L W) {b o : Nat} {v : Value} (hx : (b, o, v) ∈ L) : W.cell? ⟨b, o, none⟩ = some v := h.cells _ hx
/-- the walk's four rules of a call that makes memory -/
theorem rules (hb : Below W.heap.size W W1) : (∀ b o, b < W.heap.size → W1.cell? ⟨b, o, none⟩ = W.cell? ⟨b, o, none⟩) ∧ (∀ b o, b < W.heap.size → W1.frozen? ⟨b, o, none⟩ = W.frozen? ⟨b, o, none⟩) ∧
    (∀ n, n < W.heap.size → n < W1.heap.size) ∧ (∀ n, n < W.heap.size → n ≤ W1.heap.size) :=
  ⟨fun b o h => hb.cell (p := ⟨b, o, none⟩) h, fun b o h => hb.frozen (p := ⟨b, o, none⟩) h, fun _ h => Nat.lt_of_lt_of_le h hb.size, fun _ h => Nat.le_of_lt (Nat.lt_of_lt_of_le h hb.size)⟩
theorem join {V W W1 : World} (h : Below V.heap.size V W) (k : Below W.heap.size W W1) : Below V.heap.size V W1 := h.trans (k.mono h.size)
theorem join_alloc {V W W1 : World} {o : Obj} (h : Below V.heap.size V W) (k : Below (W.alloc o).heap.size (W.alloc o) W1) : Below V.heap.size V W1 := join (h.alloc h.size o) k
theorem join_drew {V W W1 : World} (h : Below V.heap.size V W) (k : Below W.drew.heap.size W.drew W1) : Below V.heap.size V W1 := join h.drew k
end Go.Proofs.Ytfmgjkmlnaeagaa.KeptC
