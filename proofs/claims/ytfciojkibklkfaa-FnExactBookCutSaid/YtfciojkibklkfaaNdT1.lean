/- Parts of a slice; the books of one node replaced, in the program's changes. -/
import Derived.Test.YtfciojkibklkfaaNdS
import Derived.Test.YtfciojkibklkfaaNdX
namespace Go.Proofs.Ytfciojkibklkfaa.RepC
open Go.RowKit RowC ValC SpanC KeptC
set_option linter.unusedVariables false
set_option linter.unusedSimpArgs false

theorem rd_take {α : Type} {E : Rp α} {W : World} {B : Nat} {L : List α} {a : Option Addr} {c : Nat} (h : RdSl E W B L a c) (n : Nat) : RdSl E W B (L.take n) a c := by
  refine ⟨by have := h.1; rw [List.length_take]; omega, h.2.1, fun hn => ?_⟩
  obtain ⟨g, o, ha, hg, hel⟩ := h.2.2 (by rw [List.length_take] at hn; omega)
  refine ⟨g, o, ha, hg, fun i x hx => ?_⟩
  rw [List.getElem?_take] at hx
  split at hx
  · exact hel i x hx
  · cases hx
theorem rd_drop {α : Type} {E : Rp α} {W : World} {B : Nat} {L : List α} {g o : Nat} {a : Option Addr} {c n : Nat} (h : RdSl E W B L (some ⟨g, o, none⟩) c) (ha : n < L.length → a = some ⟨g, o + n * E.size, none⟩) : RdSl E W B (L.drop n) a (c - n) := by
  refine ⟨by have := h.1; rw [List.length_drop]; omega, Nat.le_trans (Nat.sub_le _ _) h.2.1, fun hn => ?_⟩
  rw [List.length_drop] at hn
  obtain ⟨g', o', e, hg, hel⟩ := h.2.2 (by omega)
  cases e
  refine ⟨g, o + n * E.size, ha (by omega), hg, fun i x hx => ?_⟩
  rw [List.getElem?_drop] at hx
  obtain ⟨us, hu, hr⟩ := hel _ x hx
  refine ⟨us, ?_, hr⟩
  rw [show o + n * E.size + i * E.size = o + (n + i) * E.size by rw [Nat.add_mul]; omega]
  exact hu
/-- lists of spans in the cells of a block -/
theorem rd_parts {w : World} {g : Nat} {Ls : List (List D_Span)} {cs : List Value} (h : Blk w g 39 cs.toArray) (hl : cs.length = Ls.length) (hs : Ls.length ≤ 4096) (hel : ∀ (i : Nat) (M : List D_Span), Ls[i]? = some M → ∃ (a : Option Addr) (c : Nat), cs[i]? = some (Value.slice a M.length c) ∧ RdSl R_Span w w.heap.size M a c) : RdSl (Sl R_Span) w w.heap.size Ls (some ⟨g, 0, none⟩) Ls.length := by
  refine ⟨Nat.le_refl _, by unfold maxLen; omega, fun _ => ⟨g, 0, rfl, h.lt, fun i M hM => ?_⟩⟩
  obtain ⟨a, c, h1, h2⟩ := hel i M hM
  refine ⟨[.slice a M.length c], fun j d hj => ?_, a, c, rfl, h2⟩
  have hj0 : j = 0 := by have := el_lt hj; simp at this; omega
  subst hj0
  simp at hj
  subst hj
  have := h.at_ i (v := Value.slice a M.length c) (by rw [List.getElem?_toArray]; exact h1)
  simpa [show (Sl R_Span).size = 1 from rfl] using this
theorem Row.books2 {wq w3 : World} {S T : Nat → Prop} {Sf : Nat → Nat → Prop} {L : List D_Node} {g k : Nat} {st : Int} {M M' : List D_Span} {a : Option Addr} {c : Nat} (h : Row R_Node wq S L g Sf) (hS : ∀ q, S q → q < wq.heap.size) (hx : L[k]? = some (st, M)) (hb : Below wq.heap.size wq w3) (hO : OwSl R_Span w3 T M' a c) (hT : ∀ q, T q → wq.heap.size ≤ q ∧ q < w3.heap.size) :
    (∃ S' Sf', Row R_Node (w3.setCell ⟨g, k * 2 + 1, none⟩ (.slice a M'.length c)) S' (L.set k (st, M')) g Sf' ∧ ∀ q, S' q → (S q ∨ wq.heap.size ≤ q) ∧ q < (w3.setCell ⟨g, k * 2 + 1, none⟩ (.slice a M'.length c)).heap.size) ∧ Off S wq (w3.setCell ⟨g, k * 2 + 1, none⟩ (.slice a M'.length c)) := by
  obtain ⟨us, hu, hr⟩ := h.el k _ hx
  obtain ⟨ba, bc, T0, rfl, hT0, hM⟩ := ow_Node hr
  rw [size_NodeS] at hu
  have hgS := hS g h.own
  have hsz := hb.size
  have d0 : w3.cell? ⟨g, k * 2, none⟩ = some (.int .i64 st) := (hb.cell (p := ⟨g, k * 2, none⟩) hgS).trans (by simpa using hu 0 _ rfl)
  have d1 : w3.cell? ⟨g, k * 2 + 1, none⟩ = some (.slice ba M.length bc) := (hb.cell (p := ⟨g, k * 2 + 1, none⟩) hgS).trans (hu 1 _ rfl)
  have hset : ∀ q, q ≠ g → (w3.setCell ⟨g, k * 2 + 1, none⟩ (.slice a M'.length c)).heap[q]? = w3.heap[q]? := fun q hq => Below.heap_setCell w3 ⟨g, k * 2 + 1, none⟩ _ q hq
  have hrow := Row.put R_Node_ok (T := T) (x := (st, M')) (us := [.int .i64 st, .slice a M'.length c]) h hS
    (W' := w3.setCell ⟨g, k * 2 + 1, none⟩ (.slice a M'.length c)) (by rw [size_NodeS]; exact (Upd.below hb hgS).trans (Upd.set (lo := k * 2) (hi := (k + 1) * 2) _ _ ⟨by omega, by omega⟩ _)) (fun q hq => (hT q hq).1) (fun j d hd => by
      rw [size_NodeS]
      match j, hd with
      | 0, hd => simp at hd; subst hd; rw [Nat.add_zero, World.cell?_setCell_other _ _ _ _ (fun e => by injection e with _ e2; omega)]; exact d0
      | 1, hd => simp at hd; subst hd; exact World.cell?_setCell_same _ _ _ d1
      | j + 2, hd => simp at hd) (mkow_Node (fun q hq => hq) (hO.keep R_Span_ok fun q hq => hset q (by have := (hT q hq).1; omega)))
  refine ⟨⟨_, _, hrow, fun q hq => ?_⟩, ((Off.refl _ wq).of_below hb).setCell (p := ⟨g, k * 2 + 1, none⟩) h.own _⟩
  rcases hq with hq | hq
  · have := hS q hq
    exact ⟨.inl hq, by simp; omega⟩
  · have := hT q hq
    exact ⟨.inr this.1, by simp; omega⟩
end Go.Proofs.Ytfciojkibklkfaa.RepC
