/- Of this claim's texts the part 34: YaU. -/
import Derived.Test.YtelhmacfljffhabGreatPV0
import Derived.Test.YtelhmacfljffhabGreatPV1
import Derived.Test.YtelhmacfljffhabGreatPV10
section
namespace Go.Proofs.YtelhmacfljffhabGreat.RepC
open Go.RowKit RowC ValC
set_option linter.unusedVariables false
set_option linter.unusedSimpArgs false
def six (f : Nat → Bool) : Array Value := #[.bool (f 0), .bool (f 1), .bool (f 2), .bool (f 3), .bool (f 4), .bool (f 5)]
theorem six_at (f : Nat → Bool) {m : Nat} (hm : m < 6) : (six f)[m]? = some (.bool (f m)) := by
  match m, hm with
  | 0, _ => rfl
  | 1, _ => rfl
  | 2, _ => rfl
  | 3, _ => rfl
  | 4, _ => rfl
  | 5, _ => rfl
theorem six_set (f : Nat → Bool) {m : Nat} (hm : m < 6) : (six f).setIfInBounds m (.bool true) = six (fun i => f i || i == m) := by
  match m, hm with
  | 0, _ => simp [six]
  | 1, _ => simp [six]
  | 2, _ => simp [six]
  | 3, _ => simp [six]
  | 4, _ => simp [six]
  | 5, _ => simp [six]
def Usd (w : World) (g : Nat) (T : TypeId) (p : Int → Prop) : Prop := ∃ f : Nat → Bool, Blk w g T (six f) ∧ ∀ m : Nat, m < 6 → (f m = true ↔ p (m : Int))
theorem Usd.call {w w' : World} {g : Nat} {T : TypeId} {p : Int → Prop} (h : Usd w g T p) (hb : Below w.heap.size w w') : Usd w' g T p := by
  obtain ⟨f, h1, h2⟩ := h
  exact ⟨f, h1.call hb, h2⟩
theorem Usd.more {w : World} {g : Nat} {T : TypeId} {p q : Int → Prop} (h : Usd w g T p) (hpq : ∀ m : Nat, m < 6 → (p (m : Int) ↔ q (m : Int))) : Usd w g T q := by
  obtain ⟨f, h1, h2⟩ := h
  exact ⟨f, h1, fun m hm => (h2 m hm).trans (hpq m hm)⟩
theorem Usd.lt {w : World} {g : Nat} {T : TypeId} {p : Int → Prop} (h : Usd w g T p) : g < w.heap.size := by
  obtain ⟨f, h1, _⟩ := h
  exact h1.lt
theorem Usd.get {w : World} {g : Nat} {T : TypeId} {p : Int → Prop} (h : Usd w g T p) {m : Nat} (hm : m < 6) : ∃ b : Bool, w.cell? ⟨g, m, none⟩ = some (.bool b) ∧ w.frozen? ⟨g, m, none⟩ = false ∧ (b = true ↔ p (m : Int)) := by
  obtain ⟨f, h1, h2⟩ := h
  exact ⟨f m, h1.at_ m (six_at f hm), h1.soft m, h2 m hm⟩
theorem Usd.put {w : World} {g : Nat} {T : TypeId} {p : Int → Prop} (h : Usd w g T p) {m : Nat} (hm : m < 6) : Usd (w.setCell ⟨g, m, none⟩ (.bool true)) g T (fun n => p n ∨ n = (m : Int)) := by
  obtain ⟨f, h1, h2⟩ := h
  refine ⟨fun i => f i || i == m, by rw [← six_set f hm]; exact h1.set m _, fun i hi => ?_⟩
  have := h2 i hi
  simp only [Bool.or_eq_true, beq_iff_eq]
  constructor
  · rintro (h | h)
    · exact .inl (this.1 h)
    · exact .inr (by omega)
  · rintro (h | h)
    · exact .inl (this.2 h)
    · exact .inr (by omega)
theorem Usd.new (W : World) (T : TypeId) : Usd (W.alloc (.cells #[.bool false, .bool false, .bool false, .bool false, .bool false, .bool false] T)) W.heap.size T (fun _ => False) :=
  ⟨fun _ => false, Blk.new W T _, fun m _ => by simp⟩
end Go.Proofs.YtelhmacfljffhabGreat.RepC
end
