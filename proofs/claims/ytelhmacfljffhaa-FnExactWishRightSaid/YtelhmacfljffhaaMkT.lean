/- The mark k as a text: the laws' markText. -/
import Derived.Test.YtelhmacfljffhaaSt
import Derived.Test.YtelhmacfljffhaaDraws
namespace Go.Proofs.Ytelhmacfljffhaa.RepC
open Go.RowKit RowC ValC
set_option linter.unusedSimpArgs false
set_option linter.unusedVariables false

theorem sz1 (c : UInt8) (out : ByteArray) : ((⟨#[c]⟩ : ByteArray) ++ out).size = 1 + out.size := by rw [ByteArray.size_append]; rfl
theorem mt_step {q n k : Nat} (hq : 0 < q) (h : 2 ^ n * (q + 1) ≤ k) : 2 ^ (1 + n) * (q / 10 + 1) ≤ k := by
  have h1 : 2 * (q / 10 + 1) ≤ q + 1 := by omega
  calc 2 ^ (1 + n) * (q / 10 + 1) = 2 ^ n * (2 * (q / 10 + 1)) := by rw [Nat.add_comm, Nat.pow_succ, Nat.mul_assoc]
    _ ≤ 2 ^ n * (q + 1) := Nat.mul_le_mul_left _ h1
    _ ≤ k := h
theorem mt_small {q n k : Nat} (h : 2 ^ n * (q + 1) ≤ k + 1) (hk : k ≤ 4611686018427387904) : n ≤ 63 := by
  have h1 : 2 ^ n ≤ 2 ^ 63 := by
    have := Nat.le_mul_of_pos_right (2 ^ n) (show 0 < q + 1 by omega)
    have h2 : (2 : Nat) ^ 63 = 9223372036854775808 := by decide
    omega
  exact (Nat.pow_le_pow_iff_right (by decide)).1 h1
def MkT (k : Int) (w : World) (e : Ending) (w' : World) : Prop := e = .returned (.string (mtI k)) ∧ (mtI k).size ≤ maxLen ∧ Below w.heap.size w w'
theorem mkT_elim {k : Int} {w : World} {e : Ending} {w' : World} (h : MkT k w e w') : e = .returned (.string (mtI k)) ∧ (mtI k).size ≤ maxLen ∧ Below w.heap.size w w' := h
end Go.Proofs.Ytelhmacfljffhaa.RepC
