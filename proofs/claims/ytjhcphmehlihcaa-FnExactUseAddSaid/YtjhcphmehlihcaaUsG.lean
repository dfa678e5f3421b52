/- The laws' data: contracts. -/
import Derived.Test.YtjhcphmehlihcaaUsM
import Derived.Test.YtjhcphmehlihcaaGen
namespace Go.Proofs.Ytjhcphmehlihcaa.RepC
open Go.RowKit RowC ValC
set_option linter.unusedVariables false
set_option linter.unusedSimpArgs false

theorem gsz_UseS {L : List (D_Use)} {v : Value} {W : World} {l : Int} (h0 : 0 ≤ l) (h1 : l ≤ 1048576) (h : (Sl R_Use).rd W W.heap.size L [v]) : Calls Try.prog 25 #[v, .int .i64 l] W (SzC l ((Sl R_Use).sz L) W) := by
  obtain ⟨a, cap, he, k⟩ := h; cases he
  exact sz_UseS h0 h1 k
theorem gto_UseS {L : List (D_Use)} {v : Value} {W : World} (hsz : (Sl R_Use).sz L ≤ 1048576) (h : (Sl R_Use).rd W W.heap.size L [v]) : Calls Try.prog 26 #[v] W (NewS R_Use L W) := by
  obtain ⟨a, cap, he, k⟩ := h; cases he
  exact to_UseS hsz k
theorem geq_UseS {L : List (D_Use)} {v v' : Value} {W : World} (h : (Sl R_Use).rd W W.heap.size L [v]) (h' : (Sl R_Use).rd W W.heap.size L [v']) : Calls Try.prog 27 #[v, v'] W (IsB true W) := by
  obtain ⟨a, cap, he, k⟩ := h; cases he
  obtain ⟨a', cap', he, k'⟩ := h'; cases he
  exact eq_UseS k k'
theorem gmark_UseS {L : List (D_Use)} {v : Value} {W : World} {S : Nat → Prop} {k : Int} (h0 : 0 ≤ k) (h1 : k + ((Sl R_Use).cv L : Nat) ≤ 4611686018427387904) (hS : ∀ q, S q → q < W.heap.size) (h : (Sl R_Use).ow W S L [v]) : Calls Try.prog 29 #[v, .int .i64 k] W (MarkG (Sl R_Use) L [v] S k W) := by
  obtain ⟨a, cap, he, ho⟩ := h; cases he
  refine (mark_UseS h0 h1 hS ho).mono fun e w' hh => ?_
  obtain ⟨y, z, rfl, hl, hm, hz, ho', hoff⟩ := markR_elim hh
  exact ⟨y, z, rfl, hm, hz, ⟨a, cap, by rw [hl], ho'⟩, hoff⟩
theorem gheld_UseS {L : List (D_Use)} {v : Value} {W : World} {k z : Int} (h0 : 0 ≤ k) (h1 : z ≤ 4611686018427387904) (hm : (Sl R_Use).mv L k z) (h : (Sl R_Use).rd W W.heap.size L [v]) : Calls Try.prog 30 #[v, .int .i64 k] W (HeldC z W) := by
  obtain ⟨a, cap, he, q⟩ := h; cases he
  exact held_UseS h0 h1 hm q

end Go.Proofs.Ytjhcphmehlihcaa.RepC
