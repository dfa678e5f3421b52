/- Nodes: what is right. -/
import Derived.Test.YtfciojkibklkfaaNdT
import Derived.Test.YtfciojkibklkfaaSqRight
namespace Go.Proofs.Ytfciojkibklkfaa.RepC
open Go.RowKit RowC ValC SpanC KeptC
set_option linter.unusedVariables false
set_option linter.unusedSimpArgs false

def gt (L : List D_Span) (i : Nat) : Int × Int := (L[i]?).getD (0, 0)
theorem gt_at {L : List D_Span} {i : Nat} {x : D_Span} (h : L[i]? = some x) : gt L i = x := by unfold gt; rw [h]; rfl
theorem pa_of {W : World} {B : Nat} {L : List D_Span} {a : Option Addr} {cap : Nat} (h : RdSl R_Span W B L a cap) (hB : B ≤ W.heap.size) : PA W a L.length (gt L) := fun i hi => by
  obtain ⟨x, hx⟩ := el_some hi
  obtain ⟨g, o, us, rfl, hg, hu, hr⟩ := h.at_ hx
  obtain ⟨x0, x1⟩ := x
  obtain rfl := rd_Span hr
  rw [gt_at hx]
  exact ⟨g, o, rfl, Nat.lt_of_lt_of_le hg hB, by simpa [size_SpanS] using hu 0 _ rfl, by simpa [size_SpanS, Nat.add_assoc] using hu 1 _ rfl⟩
/-- a right node; a right list of nodes -/
def okN (x : D_Node) : Prop := isB x.1 1 3 = true ∧ x.2.length ≤ 4 ∧ SpR x.2.length (gt x.2)
def NodesR (L : List D_Node) : Prop := (1 ≤ L.length ∧ L.length ≤ 6) ∧ ∀ x ∈ L, okN x
open Classical in
noncomputable def nodesB (L : List D_Node) : Bool := decide (NodesR L)
open Classical in
theorem nodesB_iff {L : List D_Node} : nodesB L = true ↔ NodesR L := by unfold nodesB; simp
theorem resB_is {P : Prop} {b : Bool} {w w' : World} {e : Ending} (hb : b = true ↔ P) (h : ResB P w e w') : IsB b w e w' := by
  obtain ⟨c, rfl, hc, hB⟩ := h
  obtain rfl : c = b := by
    cases c <;> cases b <;> first | rfl | exact absurd (hc.2 (hb.1 rfl)) (by decide) | exact absurd (hb.2 (hc.1 rfl)) (by decide)
  exact ⟨rfl, hB⟩
theorem mv_rd {α : Type} {E : Rp α} (hE : Ok E) {L : List α} {a : Option Addr} {cap : Nat} {w w' : World} (h : RdSl E w w.heap.size L a cap) (hb : Below w.heap.size w w') : RdSl E w' w'.heap.size L a cap := (h.below hE hb).more hE hb.size
/-- the first k are right -/
def okTo (L : List D_Node) (k : Nat) : Prop := ∀ i x, i < k → L[i]? = some x → okN x
theorem okTo_zero {L : List D_Node} : okTo L 0 := fun i x h => absurd h (Nat.not_lt_zero _)
theorem okTo_step {L : List D_Node} {k : Nat} {x : D_Node} (h : okTo L k) (hx : L[k]? = some x) (hk : okN x) : okTo L (k + 1) := fun i y hi hy => by
  rcases Nat.lt_succ_iff_lt_or_eq.1 hi with h1 | h1
  · exact h i y h1 hy
  · subst h1; rw [hx] at hy; cases hy; exact hk
theorem nodesR_all {L : List D_Node} (h1 : 1 ≤ L.length) (h2 : L.length ≤ 6) (h : okTo L L.length) : NodesR L := ⟨⟨h1, h2⟩, fun x hx => by
  obtain ⟨i, hi, e⟩ := List.getElem_of_mem hx
  exact h i x hi (by rw [List.getElem?_eq_getElem hi, e])⟩
theorem nodesR_at {L : List D_Node} (h : NodesR L) {k : Nat} {x : D_Node} (hx : L[k]? = some x) : okN x := h.2 x (List.mem_of_getElem? hx)
end Go.Proofs.Ytfciojkibklkfaa.RepC
