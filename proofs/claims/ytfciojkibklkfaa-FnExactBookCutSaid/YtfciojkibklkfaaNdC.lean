/- A list of nodes that is being copied: the first k have books of their own. -/
import Derived.Test.YtfciojkibklkfaaNdV
import Derived.Test.YtfciojkibklkfaaNFlat
namespace Go.Proofs.Ytfciojkibklkfaa.RepC
open Go.RowKit RowC ValC SpanC KeptC
set_option linter.unusedVariables false
set_option linter.unusedSimpArgs false

structure CopN (w W : World) (L : List D_Node) (g k : Nat) (Sf : Nat → Nat → Prop) : Prop where
  el : ∀ i x, L[i]? = some x → ∃ a c, W.cell? ⟨g, i * 2, none⟩ = some (.int .i64 x.1) ∧ W.cell? ⟨g, i * 2 + 1, none⟩ = some (.slice a x.2.length c) ∧ (i < k → OwSl R_Span W (Sf i) x.2 a c) ∧ (k ≤ i → RdSl R_Span W w.heap.size x.2 a c)
  soft : ∀ j, W.frozen? ⟨g, j, none⟩ = false
  sub : ∀ i q, Sf i q → g < q ∧ q < W.heap.size ∧ i < k
  dis : ∀ i j q, i < j → Sf i q → ¬ Sf j q
  base : w.heap.size ≤ g
  lt : g < W.heap.size
  below : Below w.heap.size w W
theorem CopN.call {w W W' : World} {L : List D_Node} {g k : Nat} {Sf : Nat → Nat → Prop} (h : CopN w W L g k Sf) (hb : Below W.heap.size W W') : CopN w W' L g k Sf := by
  refine ⟨fun i x hx => ?_, fun j => (hb.frozen (p := ⟨g, j, none⟩) h.lt).trans (h.soft j), fun i q hq => by have := h.sub i q hq; have := hb.size; omega, h.dis, h.base, Nat.lt_of_lt_of_le h.lt hb.size, h.below.trans (hb.mono h.below.size)⟩
  obtain ⟨a, c, h1, h2, h3, h4⟩ := h.el i x hx
  exact ⟨a, c, (hb.cell (p := ⟨g, i * 2, none⟩) h.lt).trans h1, (hb.cell (p := ⟨g, i * 2 + 1, none⟩) h.lt).trans h2, fun hi => (h3 hi).keep R_Span_ok fun q hq => hb.block q (h.sub i q hq).2.1, fun hi => (h4 hi).below R_Span_ok (hb.mono h.below.size)⟩
/-- the next one's books -/
theorem CopN.put {w W W1 : World} {L : List D_Node} {g k : Nat} {Sf : Nat → Nat → Prop} {x : D_Node} {a : Option Addr} {c : Nat} (h : CopN w W L g k Sf) (hx : L[k]? = some x) (hb : Below W.heap.size W W1) (hr : OwSl R_Span W1 (Rg W.heap.size W1.heap.size) x.2 a c) :
    CopN w (W1.setCell ⟨g, k * 2 + 1, none⟩ (.slice a x.2.length c)) L g (k + 1) (fun i q => if i = k then Rg W.heap.size W1.heap.size q else Sf i q) := by
  have hgl := h.lt
  have hsz := hb.size
  have hbs := h.base
  have hws := h.below.size
  obtain ⟨a0, c0, g1, g2, _, _⟩ := h.el k x hx
  have hk1 : W1.cell? ⟨g, k * 2 + 1, none⟩ = some (.slice a0 x.2.length c0) := (hb.cell (p := ⟨g, k * 2 + 1, none⟩) hgl).trans g2
  have hset : ∀ q, q ≠ g → (W1.setCell ⟨g, k * 2 + 1, none⟩ (.slice a x.2.length c)).heap[q]? = W1.heap[q]? := fun q hq => Below.heap_setCell W1 ⟨g, k * 2 + 1, none⟩ _ q hq
  have hss : (W1.setCell ⟨g, k * 2 + 1, none⟩ (.slice a x.2.length c)).heap.size = W1.heap.size := by simp
  refine ⟨fun i y hy => ?_, fun j => ?_, fun i q hq => ?_, fun i j q hij hi => ?_, h.base, by rw [hss]; omega, (h.below.trans (hb.mono hws)).setCell (by exact hbs) _⟩
  · by_cases e : i = k
    · subst e
      rw [hx] at hy
      cases hy
      refine ⟨a, c, ?_, World.cell?_setCell_same _ _ _ hk1, fun _ => ?_, fun hi => absurd hi (by omega)⟩
      · rw [World.cell?_setCell_other _ _ _ _ (fun e => by injection e with _ e2; omega)]
        exact (hb.cell (p := ⟨g, i * 2, none⟩) hgl).trans g1
      · simp only [if_true]
        exact hr.keep R_Span_ok fun q hq => hset q (by unfold Rg at hq; omega)
    · obtain ⟨a', c', h1, h2, h3, h4⟩ := h.el i y hy
      refine ⟨a', c', ?_, ?_, fun hi => ?_, fun hi => ?_⟩
      · rw [World.cell?_setCell_other _ _ _ _ (fun e => by injection e with _ e2; omega)]
        exact (hb.cell (p := ⟨g, i * 2, none⟩) hgl).trans h1
      · rw [World.cell?_setCell_other _ _ _ _ (fun e => by injection e with _ e2; omega)]
        exact (hb.cell (p := ⟨g, i * 2 + 1, none⟩) hgl).trans h2
      · simp only [e, if_false]
        exact ((h3 (by omega)).keep R_Span_ok fun q hq => hb.block q (h.sub i q hq).2.1).keep R_Span_ok fun q hq => hset q (by have := h.sub i q hq; omega)
      · exact (h4 (by omega)).below R_Span_ok ((hb.mono hws).trans ((Below.refl _ _).setCell (by exact hbs) _))
  · simp only [World.frozen?_setCell]
    exact (hb.frozen (p := ⟨g, j, none⟩) hgl).trans (h.soft j)
  · rw [hss]
    by_cases e : i = k
    · simp only [e, if_true] at hq
      unfold Rg at hq
      omega
    · simp only [e, if_false] at hq
      have := h.sub i q hq
      omega
  · by_cases e1 : i = k
    · subst e1
      simp only [if_true] at hi
      have e2 : j ≠ i := by omega
      simp only [e2, if_false]
      intro hj
      have := (h.sub j q hj).2.2
      omega
    · simp only [e1, if_false] at hi
      by_cases e2 : j = k
      · simp only [e2, if_true]
        have := (h.sub i q hi).2.1
        unfold Rg
        omega
      · simp only [e2, if_false]
        exact h.dis i j q hij hi
theorem CopN.done {w W : World} {L : List D_Node} {g : Nat} {Sf : Nat → Nat → Prop} (h : CopN w W L g L.length Sf) : Row R_Node W (Rg w.heap.size W.heap.size) L g Sf := by
  refine ⟨⟨h.base, h.lt⟩, h.soft, fun i k hk => ⟨⟨by have := (h.sub i k hk).1; have := h.base; omega, (h.sub i k hk).2.1⟩, by have := (h.sub i k hk).1; omega⟩, h.dis, fun i x hx => ?_⟩
  obtain ⟨a, c, h1, h2, h3, _⟩ := h.el i x hx
  refine ⟨[.int .i64 x.1, .slice a x.2.length c], fun j d hd => ?_, mkow_Node (fun k hk => hk) (h3 (el_lt hx))⟩
  rw [size_NodeS]
  match j, hd with
  | 0, hd => simp at hd; subst hd; simpa using h1
  | 1, hd => simp at hd; subst hd; exact h2
  | j + 2, hd => simp at hd
/-- one element of a row becomes another, with blocks of its own that are new -/
theorem Row.put {α : Type} {E : Rp α} (hE : Ok E) {W W' : World} {S T : Nat → Prop} {L : List α} {g i : Nat} {Sf : Nat → Nat → Prop} {x : α} {us : List Value} (h : Row E W S L g Sf) (hS : ∀ k, S k → k < W.heap.size) (hU : Upd W W' g (i * E.size) ((i + 1) * E.size) (Sf i))
    (hT : ∀ k, T k → W.heap.size ≤ k) (hc : CellsAt W' g (i * E.size) us) (hr : E.ow W' T x us) : Row E W' (fun k => S k ∨ T k) (L.set i x) g (fun j k => if j = i then T k else Sf j k) := by
  have hg := hS g h.own
  refine ⟨.inl h.own, fun j => (hU.soft j).trans (h.soft j), fun j k hk => ?_, fun j l k hjl hj => ?_, fun j y hy => ?_⟩
  · by_cases e : j = i
    · simp only [e, if_true] at hk; exact ⟨.inr hk, by have := hT k hk; omega⟩
    · simp only [e, if_false] at hk; exact ⟨.inl (h.sub j k hk).1, (h.sub j k hk).2⟩
  · by_cases e : j = i
    · have e2 : l ≠ i := by omega
      simp only [e, if_true] at hj
      simp only [e2, if_false]
      exact fun hl => by have := hT k hj; have := hS k (h.sub l k hl).1; omega
    · simp only [e, if_false] at hj
      by_cases e2 : l = i
      · simp only [e2, if_true]
        exact fun hl => by have := hT k hl; have := hS k (h.sub j k hj).1; omega
      · simp only [e2, if_false]
        exact h.dis j l k hjl hj
  · by_cases e : i = j
    · subst e
      rw [List.getElem?_set] at hy
      split at hy
      · split at hy
        · injection hy with hy
          subst hy
          exact ⟨us, hc, by simpa using hr⟩
        · cases hy
      · exact absurd rfl ‹_›
    · rw [List.getElem?_set_ne e] at hy
      obtain ⟨vs, hv, hw⟩ := h.el j y hy
      have e' : j ≠ i := fun q => e q.symm
      refine ⟨vs, fun p c hp => ?_, ?_⟩
      · have hl := (List.getElem?_eq_some_iff.1 hp).1
        rw [hE.ow_len hw] at hl
        rw [hU.cells _ (mul_lt_el hl e)]
        exact hv p c hp
      · simp only [e', if_false]
        refine hE.ow_keep hw fun k hk => hU.block k (hS k (h.sub j k hk).1) (h.sub j k hk).2 (fun hi => ?_)
        rcases Nat.lt_or_gt_of_ne e with e2 | e2
        · exact h.dis i j k e2 hi hk
        · exact h.dis j i k e2 hk hi
end Go.Proofs.Ytfciojkibklkfaa.RepC
