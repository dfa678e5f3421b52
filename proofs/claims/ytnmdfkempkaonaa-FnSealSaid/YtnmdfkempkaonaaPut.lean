/- PutNum and the functions that it calls, in the program and in its model: contracts. -/
import Derived.Test.YtnmdfkempkaonaaProg
import Derived.Test.YtnmdfkempkaonaaPutMath
import Derived.WalkKit
import Derived.ProofKit
import Derived.Below
import Derived.LoopTactic
import Derived.BigQuiet
import Derived.Deep.QuietTactic
import Derived.WalkSpells
import Derived.WalkLawsBesides
import Derived.Lib.Hide
import Derived.OwnWalk
import Derived.OpenShut
import Derived.Laws.IdiomStrings
namespace Go.Proofs.Ytnmdfkempkaonaa.PutC
open Go.RowKit PutM

theorem info_u8 : (Try.prog.info? 5).map (fun i => (i.zero, i.size, i.bytes)) = some (some (.int .u8 0), 1, 1) := by kernel_rfl
theorem ret_u64 {a b : Int} (h : a = b) : Ending.returned (.int .u64 a) = .returned (.int .u64 b) := by rw [h]
theorem ret_str {a b : ByteArray} (h : a = b) : Ending.returned (.string a) = .returned (.string b) := by rw [h]

/-- a slice of bytes of the call's own -/
def Own (B : Nat) (w : World) (v : Value) (l : List UInt8) : Prop := w.ownsRow B 5 1 v l.length (l.map fun c => .int .u8 (c.toNat : Int))

theorem one_cell (w : World) (v : Value) : ∀ j u, [v][j]? = some u → (w.alloc (.cells #[v] 5)).cell? ((⟨w.heap.size, 0, none⟩ : Addr).add j) = some u := by
  intro j u hj
  match j, hj with
  | 0, hj => simp at hj; subst hj; simp [Addr.add]

theorem one_map (l : List UInt8) (c : UInt8) : (l.map fun c => Value.int .u8 (c.toNat : Int)) ++ [Value.int .u8 (c.toNat : Int)] = (l ++ [c]).map fun c => Value.int .u8 (c.toNat : Int) := by simp

theorem conv_of_own {B : Nat} {w : World} {v : Value} {l : List UInt8} (h : w.ownsRow B 5 1 v l.length (l.map fun c => Value.int .u8 (c.toNat : Int))) (hne : l ≠ []) :
    (convert 22 9 v).run Try.prog w = .ok (.string (bytesOf l)) w := by
  have hc := fun g hg j u hj => World.ownsRow.cells h (g := g) hg j u hj
  rcases h with ⟨_, ⟨_, hn⟩ | ⟨g, cap, cur, rfl, _⟩⟩
  · exact absurd (List.length_eq_zero_iff.1 hn) hne
  · exact run_convert_bytes_back w 22 9 5 ⟨g, 0, none⟩ cap l Try.underlying22 Try.underlying5 Try.underlying9 (fun j hj => hc g rfl j _ (by simp [List.getElem?_eq_getElem hj]))

/-- the array of ten bytes, its first cells written -/
def Row (B : Nat) (wr : World) (l : List UInt8) : Prop :=
  (∀ j, (h : j < l.length) → wr.cell? ⟨B, j, none⟩ = some (.int .u8 (l[j].toNat : Int))) ∧ (∀ j, j < 10 → ∃ v, wr.cell? ⟨B, j, none⟩ = some v) ∧ (∀ j, wr.frozen? ⟨B, j, none⟩ = false)
theorem row_store {B : Nat} {wr : World} {l : List UInt8} (h : Row B wr l) (hl : l.length ≤ 9) (c : UInt8) : Row B (wr.setCell ⟨B, l.length, none⟩ (.int .u8 (c.toNat : Int))) (l ++ [c]) := by
  obtain ⟨h1, h2, h3⟩ := h
  refine ⟨?_, ?_, ?_⟩
  · intro j hj
    by_cases e : j = l.length
    · subst e
      obtain ⟨v, hv⟩ := h2 l.length (by omega)
      rw [World.cell?_setCell_same _ _ _ hv]
      simp
    · have hj2 : j < l.length := by simp at hj; omega
      rw [World.cell?_setCell_other _ _ _ _ (by simp <;> omega), h1 j hj2]
      simp [List.getElem_append_left hj2]
  · intro j hj
    by_cases e : j = l.length
    · subst e
      obtain ⟨v, hv⟩ := h2 l.length (by omega)
      exact ⟨_, World.cell?_setCell_same _ _ _ hv⟩
    · obtain ⟨v, hv⟩ := h2 j hj
      exact ⟨v, by rw [World.cell?_setCell_other _ _ _ _ (by simp <;> omega), hv]⟩
  · intro j
    rw [World.frozen?_setCell]
    exact h3 j
theorem conv_row {B : Nat} {wr : World} {l : List UInt8} (h : Row B wr l) (cap : Nat) :
    (convert 22 9 (.slice (some ⟨B, 0, none⟩) l.length cap)).run Try.prog wr = .ok (.string (bytesOf l)) wr :=
  run_convert_bytes_back wr 22 9 5 ⟨B, 0, none⟩ cap l Try.underlying22 Try.underlying5 Try.underlying9 (fun j hj => by
    have := h.1 j hj
    cases j <;> simpa [Addr.add] using this)

end Go.Proofs.Ytnmdfkempkaonaa.PutC
