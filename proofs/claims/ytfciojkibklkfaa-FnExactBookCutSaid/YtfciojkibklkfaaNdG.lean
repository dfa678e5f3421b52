/- The laws' data: contracts. -/
import Derived.Test.YtfciojkibklkfaaNdM
import Derived.Test.YtfciojkibklkfaaGen
namespace Go.Proofs.Ytfciojkibklkfaa.RepC
open Go.RowKit RowC ValC
set_option linter.unusedVariables false
set_option linter.unusedSimpArgs false

theorem gsz_NodeS {L : List (D_Node)} {v : Value} {W : World} {l : Int} (h0 : 0 ≤ l) (h1 : l ≤ 1048576) (h : (Sl R_Node).rd W W.heap.size L [v]) : Calls Try.prog 27 #[v, .int .i64 l] W (SzC l ((Sl R_Node).sz L) W) := by
  obtain ⟨a, cap, he, k⟩ := h; cases he
  exact sz_NodeS h0 h1 k
theorem gto_NodeS {L : List (D_Node)} {v : Value} {W : World} (hsz : (Sl R_Node).sz L ≤ 1048576) (h : (Sl R_Node).rd W W.heap.size L [v]) : Calls Try.prog 28 #[v] W (NewS R_Node L W) := by
  obtain ⟨a, cap, he, k⟩ := h; cases he
  exact to_NodeS hsz k
theorem geq_NodeS {L : List (D_Node)} {v v' : Value} {W : World} (h : (Sl R_Node).rd W W.heap.size L [v]) (h' : (Sl R_Node).rd W W.heap.size L [v']) : Calls Try.prog 29 #[v, v'] W (IsB true W) := by
  obtain ⟨a, cap, he, k⟩ := h; cases he
  obtain ⟨a', cap', he, k'⟩ := h'; cases he
  exact eq_NodeS k k'
theorem gmark_NodeS {L : List (D_Node)} {v : Value} {W : World} {S : Nat → Prop} {k : Int} (h0 : 0 ≤ k) (h1 : k + ((Sl R_Node).cv L : Nat) ≤ 4611686018427387904) (hS : ∀ q, S q → q < W.heap.size) (h : (Sl R_Node).ow W S L [v]) : Calls Try.prog 32 #[v, .int .i64 k] W (MarkG (Sl R_Node) L [v] S k W) := by
  obtain ⟨a, cap, he, ho⟩ := h; cases he
  refine (mark_NodeS h0 h1 hS ho).mono fun e w' hh => ?_
  obtain ⟨y, z, rfl, hl, hm, hz, ho', hoff⟩ := markR_elim hh
  exact ⟨y, z, rfl, hm, hz, ⟨a, cap, by rw [hl], ho'⟩, hoff⟩
theorem gheld_NodeS {L : List (D_Node)} {v : Value} {W : World} {k z : Int} (h0 : 0 ≤ k) (h1 : z ≤ 4611686018427387904) (hm : (Sl R_Node).mv L k z) (h : (Sl R_Node).rd W W.heap.size L [v]) : Calls Try.prog 33 #[v, .int .i64 k] W (HeldC z W) := by
  obtain ⟨a, cap, he, q⟩ := h; cases he
  exact held_NodeS h0 h1 hm q

theorem geq_NodesOut {d : D_NodesOut} {cs cs' : List Value} {W : World} (h : R_NodesOut.rd W W.heap.size d cs) (h' : R_NodesOut.rd W W.heap.size d cs') : Calls Try.prog 34 #[.agg cs.toArray, .agg cs'.toArray] W (IsB true W) := by
  obtain ⟨L0, x1⟩ := d
  obtain ⟨a0, c0, rfl, k_L0⟩ := rd_NodesOut h
  obtain ⟨a0', c0', rfl, k'_L0⟩ := rd_NodesOut h'
  exact eq_NodesOut k_L0 k'_L0
theorem owc_NodesOut {W : World} {S : Nat → Prop} {L0 : List (D_Node)} {x1 : Int} {cs : List Value} (h : R_NodesOut.ow W S (L0, x1) cs) : ∃ a0 c0, cs = [.slice a0 L0.length c0, .int .i64 x1] ∧ R_NodesOut.ow W S (L0, x1) [.slice a0 L0.length c0, .int .i64 x1] := by
  have h0 := h
  obtain ⟨a0, c0, T0, rfl, _⟩ := ow_NodesOut h
  exact ⟨a0, c0, rfl, h0⟩
theorem rdc_NodesOut {W : World} {B : Nat} {L0 : List (D_Node)} {x1 : Int} {cs : List Value} (h : R_NodesOut.rd W B (L0, x1) cs) : ∃ a0 c0, cs = [.slice a0 L0.length c0, .int .i64 x1] ∧ R_NodesOut.rd W B (L0, x1) [.slice a0 L0.length c0, .int .i64 x1] := by
  have h0 := h
  obtain ⟨a0, c0, rfl, _⟩ := rd_NodesOut h
  exact ⟨a0, c0, rfl, h0⟩
theorem cvd_NodesOut {L0 : List (D_Node)} {x1 : Int} : R_NodesOut.cv (L0, x1) = sumL (R_Node).cm L0 := by
  simp only [R_NodesOut, Pr, Sl, I, Bo, atom]; omega
set_option maxRecDepth 100000 in
theorem gmark_NodesOut {d : D_NodesOut} {cs : List Value} {W : World} {S : Nat → Prop} {k : Int} (h0 : 0 ≤ k) (h1 : k + (R_NodesOut.cv d : Nat) ≤ 4611686018427387904) (hS : ∀ q, S q → q < W.heap.size) (h : R_NodesOut.ow W S d cs) : Calls Try.prog 35 #[.agg cs.toArray, .int .i64 k] W (MarkG R_NodesOut d cs S k W) := by
  obtain ⟨L0, x1⟩ := d
  obtain ⟨a0, c0, T0, rfl, hs0, k_L0⟩ := ow_NodesOut h
  have hcv := cvd_NodesOut (L0 := L0) (x1 := x1)
  refine (mark_NodesOut h0 (by rw [hcv] at h1; omega) (fun q hq => hS q (hs0 q hq)) k_L0).mono fun e w' hh => ?_
  obtain ⟨z0, y0, rfl, ⟨hl0, hm0, hz0, ho0⟩, hoff⟩ := hh
  have hmk := mkow_NodesOut (x1 := x1) hs0 ho0
  simp only [hl0] at hmk
  exact ⟨(y0, x1), _, rfl, ⟨z0, hm0, rfl⟩, by rw [hcv]; omega, hmk, hoff.more fun q hq => by exact hs0 q hq⟩
set_option maxRecDepth 100000 in
theorem gheld_NodesOut {d : D_NodesOut} {cs : List Value} {W : World} {k z : Int} (h0 : 0 ≤ k) (h1 : z ≤ 4611686018427387904) (hm : R_NodesOut.mv d k z) (h : R_NodesOut.rd W W.heap.size d cs) : Calls Try.prog 36 #[.agg cs.toArray, .int .i64 k] W (HeldC z W) := by
  obtain ⟨L0, x1⟩ := d
  obtain ⟨a0, c0, rfl, k_L0⟩ := rd_NodesOut h
  obtain ⟨_, hm0, rfl⟩ := hm
  exact held_NodesOut h0 h1 hm0 k_L0

theorem geq_SpanSS {L : List (List (D_Span))} {v v' : Value} {W : World} (h : (Sl (Sl R_Span)).rd W W.heap.size L [v]) (h' : (Sl (Sl R_Span)).rd W W.heap.size L [v']) : Calls Try.prog 41 #[v, v'] W (IsB true W) := by
  obtain ⟨a, cap, he, k⟩ := h; cases he
  obtain ⟨a', cap', he, k'⟩ := h'; cases he
  exact eq_SpanSS k k'
theorem gmark_SpanSS {L : List (List (D_Span))} {v : Value} {W : World} {S : Nat → Prop} {k : Int} (h0 : 0 ≤ k) (h1 : k + ((Sl (Sl R_Span)).cv L : Nat) ≤ 4611686018427387904) (hS : ∀ q, S q → q < W.heap.size) (h : (Sl (Sl R_Span)).ow W S L [v]) : Calls Try.prog 42 #[v, .int .i64 k] W (MarkG (Sl (Sl R_Span)) L [v] S k W) := by
  obtain ⟨a, cap, he, ho⟩ := h; cases he
  refine (mark_SpanSS h0 h1 hS ho).mono fun e w' hh => ?_
  obtain ⟨y, z, rfl, hl, hm, hz, ho', hoff⟩ := markR_elim hh
  exact ⟨y, z, rfl, hm, hz, ⟨a, cap, by rw [hl], ho'⟩, hoff⟩
theorem gheld_SpanSS {L : List (List (D_Span))} {v : Value} {W : World} {k z : Int} (h0 : 0 ≤ k) (h1 : z ≤ 4611686018427387904) (hm : (Sl (Sl R_Span)).mv L k z) (h : (Sl (Sl R_Span)).rd W W.heap.size L [v]) : Calls Try.prog 43 #[v, .int .i64 k] W (HeldC z W) := by
  obtain ⟨a, cap, he, q⟩ := h; cases he
  exact held_SpanSS h0 h1 hm q

end Go.Proofs.Ytfciojkibklkfaa.RepC
