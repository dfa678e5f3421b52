/- Of this claim's texts the part 42: YaG NdO YaO. -/
import Derived.Test.YtelhmacfljffhabGreatPV0
import Derived.Test.YtelhmacfljffhabGreatPV1
import Derived.Test.YtelhmacfljffhabGreatPV2
import Derived.Test.YtelhmacfljffhabGreatPV3
import Derived.Test.YtelhmacfljffhabGreatPV4
import Derived.Test.YtelhmacfljffhabGreatPV5
import Derived.Test.YtelhmacfljffhabGreatPV6
import Derived.Test.YtelhmacfljffhabGreatPV7
import Derived.Test.YtelhmacfljffhabGreatPV10
import Derived.Test.YtelhmacfljffhabGreatPV12
import Derived.Test.YtelhmacfljffhabGreatPV23
section
namespace Go.Proofs.YtelhmacfljffhabGreat.RepC
open Go.RowKit RowC ValC
set_option linter.unusedVariables false
set_option linter.unusedSimpArgs false
theorem gsz_Yard {d : D_Yard} {cs : List Value} {W : World} {l : Int} (h0 : 0 ≤ l) (h1 : l ≤ 1048576) (h : R_Yard.rd W W.heap.size d cs) : Calls Tryz.prog 4 #[.agg cs.toArray, .int .i64 l] W (SzC l (R_Yard.sz d) W) := by
  obtain ⟨⟨L0, L1, L2, x3⟩, L3, L4, L5, x7⟩ := d
  obtain ⟨a0, c0, a1, c1, a2, c2, a3, c3, a4, c4, a5, c5, rfl, k_L0, k_L1, k_L2, k_L3, k_L4, k_L5⟩ := rd_Yard h
  exact sz_Yard h0 h1 k_L0 k_L1 k_L2 k_L3 k_L4 k_L5
theorem gto_Yard {d : D_Yard} {cs : List Value} {W : World} (hsz : R_Yard.sz d ≤ 1048576) (h : R_Yard.rd W W.heap.size d cs) : Calls Tryz.prog 6 #[.agg cs.toArray] W (NewV R_Yard d W) := by
  obtain ⟨⟨L0, L1, L2, x3⟩, L3, L4, L5, x7⟩ := d
  obtain ⟨a0, c0, a1, c1, a2, c2, a3, c3, a4, c4, a5, c5, rfl, k_L0, k_L1, k_L2, k_L3, k_L4, k_L5⟩ := rd_Yard h
  exact to_Yard hsz k_L0 k_L1 k_L2 k_L3 k_L4 k_L5
theorem geq_Yard {d : D_Yard} {cs cs' : List Value} {W : World} (h : R_Yard.rd W W.heap.size d cs) (h' : R_Yard.rd W W.heap.size d cs') : Calls Tryz.prog 9 #[.agg cs.toArray, .agg cs'.toArray] W (IsB true W) := by
  obtain ⟨⟨L0, L1, L2, x3⟩, L3, L4, L5, x7⟩ := d
  obtain ⟨a0, c0, a1, c1, a2, c2, a3, c3, a4, c4, a5, c5, rfl, k_L0, k_L1, k_L2, k_L3, k_L4, k_L5⟩ := rd_Yard h
  obtain ⟨a0', c0', a1', c1', a2', c2', a3', c3', a4', c4', a5', c5', rfl, k'_L0, k'_L1, k'_L2, k'_L3, k'_L4, k'_L5⟩ := rd_Yard h'
  exact eq_Yard k_L0 k_L1 k_L2 k_L3 k_L4 k_L5 k'_L0 k'_L1 k'_L2 k'_L3 k'_L4 k'_L5
theorem owc_Yard {W : World} {S : Nat → Prop} {L0 : List (List (D_Label))} {L1 : List (D_Pair)} {L2 : List (D_Quota)} {x3 : Int} {L3 : List (D_Node)} {L4 : List (D_Task)} {L5 : List (D_Use)} {x7 : Int} {cs : List Value} (h : R_Yard.ow W S ((L0, L1, L2, x3), L3, L4, L5, x7) cs) : ∃ a0 c0 a1 c1 a2 c2 a3 c3 a4 c4 a5 c5, cs = [.slice a0 L0.length c0, .slice a1 L1.length c1, .slice a2 L2.length c2, .int .i64 x3, .slice a3 L3.length c3, .slice a4 L4.length c4, .slice a5 L5.length c5, .int .i64 x7] ∧ R_Yard.ow W S ((L0, L1, L2, x3), L3, L4, L5, x7) [.slice a0 L0.length c0, .slice a1 L1.length c1, .slice a2 L2.length c2, .int .i64 x3, .slice a3 L3.length c3, .slice a4 L4.length c4, .slice a5 L5.length c5, .int .i64 x7] := by
  have h0 := h
  obtain ⟨a0, c0, a1, c1, a2, c2, a3, c3, a4, c4, a5, c5, T0, T1, T2, T3, T4, T5, rfl, _⟩ := ow_Yard h
  exact ⟨a0, c0, a1, c1, a2, c2, a3, c3, a4, c4, a5, c5, rfl, h0⟩
theorem rdc_Yard {W : World} {B : Nat} {L0 : List (List (D_Label))} {L1 : List (D_Pair)} {L2 : List (D_Quota)} {x3 : Int} {L3 : List (D_Node)} {L4 : List (D_Task)} {L5 : List (D_Use)} {x7 : Int} {cs : List Value} (h : R_Yard.rd W B ((L0, L1, L2, x3), L3, L4, L5, x7) cs) : ∃ a0 c0 a1 c1 a2 c2 a3 c3 a4 c4 a5 c5, cs = [.slice a0 L0.length c0, .slice a1 L1.length c1, .slice a2 L2.length c2, .int .i64 x3, .slice a3 L3.length c3, .slice a4 L4.length c4, .slice a5 L5.length c5, .int .i64 x7] ∧ R_Yard.rd W B ((L0, L1, L2, x3), L3, L4, L5, x7) [.slice a0 L0.length c0, .slice a1 L1.length c1, .slice a2 L2.length c2, .int .i64 x3, .slice a3 L3.length c3, .slice a4 L4.length c4, .slice a5 L5.length c5, .int .i64 x7] := by
  have h0 := h
  obtain ⟨a0, c0, a1, c1, a2, c2, a3, c3, a4, c4, a5, c5, rfl, _⟩ := rd_Yard h
  exact ⟨a0, c0, a1, c1, a2, c2, a3, c3, a4, c4, a5, c5, rfl, h0⟩
end Go.Proofs.YtelhmacfljffhabGreat.RepC
end
section
namespace Go.Proofs.YtelhmacfljffhabGreat.RepC
open Go.ChangeShapes Go.WideShapes Go.ChangeAt Go.RowKit Go.Joins Go.Deep RowC ValC
set_option linter.unusedVariables false
set_option linter.unusedSimpArgs false
set_option maxRecDepth 100000
theorem c_SpanS : Tryz.prog.cellsOf 94 = 1 := by kernel_rfl
theorem c_Span : Tryz.prog.cellsOf 183 = 2 := by kernel_rfl
theorem opn_Span : Opn R_Span 183 := fun enc W fuel cs y h => by
  obtain ⟨xs, n, _, _, hl, hlen, hf⟩ := DataW.trod_struct Tryz.underlying183 h
  rw [c_Span] at hl
  match cs, hl with
  | [c0, c1], _ =>
    have e2 : xs.length = 2 := hlen
    match xs, e2 with
    | [y0, y1], _ =>
      have g0 := fld hf 0 2 0 1 rfl c_int64
      have g1 := fld hf 1 2 1 1 rfl c_int64
      obtain ⟨d0, h0⟩ := opn_i64 enc W n [c0] y0 g0
      obtain ⟨d1, h1⟩ := opn_i64 enc W n [c1] y1 g1
      exact ⟨(d0, d1), ⟨[c0], [c1], rfl, h0, h1⟩⟩
theorem opn_SpanS : Opn (Sl R_Span) 94 := opn_sl opn_Span (by decide) Tryz.underlying94 c_Span
theorem c_Node : Tryz.prog.cellsOf 96 = 2 := by kernel_rfl
theorem opn_Node : Opn R_Node 96 := fun enc W fuel cs y h => by
  obtain ⟨xs, n, _, _, hl, hlen, hf⟩ := DataW.trod_struct Tryz.underlying96 h
  rw [c_Node] at hl
  match cs, hl with
  | [c0, c1], _ =>
    have e2 : xs.length = 2 := hlen
    match xs, e2 with
    | [y0, y1], _ =>
      have g0 := fld hf 0 2 0 1 rfl c_int64
      have g1 := fld hf 1 94 1 1 rfl c_SpanS
      obtain ⟨d0, h0⟩ := opn_i64 enc W n [c0] y0 g0
      obtain ⟨d1, h1⟩ := opn_SpanS enc W n [c1] y1 g1
      exact ⟨(d0, d1), ⟨[c0], [c1], rfl, h0, h1⟩⟩
theorem opn_NodeS : Opn (Sl R_Node) 27 := opn_sl opn_Node (by decide) Tryz.underlying27 c_Node
end Go.Proofs.YtelhmacfljffhabGreat.RepC
end
section
namespace Go.Proofs.YtelhmacfljffhabGreat.RepC
open Go.ChangeShapes Go.WideShapes Go.ChangeAt Go.RowKit Go.Joins Go.Deep RowC ValC
set_option maxRecDepth 100000
set_option linter.unusedVariables false
set_option linter.unusedSimpArgs false
theorem c_NodeS : Tryz.prog.cellsOf 27 = 1 := by kernel_rfl
theorem c_Yard : Tryz.prog.cellsOf 31 = 8 := by kernel_rfl
theorem opn_Yard : Opn R_Yard 31 := fun enc W fuel cs y h => by
  obtain ⟨xs, n, _, _, hl, hlen, hf⟩ := DataW.trod_struct Tryz.underlying31 h
  rw [c_Yard] at hl
  match cs, hl with
  | [c0, c1, c2, c3, c4, c5, c6, c7], _ =>
    have e2 : xs.length = 5 := hlen
    match xs, e2 with
    | [y0, y1, y2, y3, y4], _ =>
      have g0 := fld hf 0 26 0 4 rfl c_Config
      have g1 := fld hf 1 27 4 1 rfl c_NodeS
      have g2 := fld hf 2 28 5 1 rfl c_TaskS
      have g3 := fld hf 3 29 6 1 rfl c_UseS
      have g4 := fld hf 4 2 7 1 rfl c_int64
      obtain ⟨d0, h0⟩ := opn_Config enc W n [c0, c1, c2, c3] y0 g0
      obtain ⟨d1, h1⟩ := opn_NodeS enc W n [c4] y1 g1
      obtain ⟨d2, h2⟩ := opn_TaskS enc W n [c5] y2 g2
      obtain ⟨d3, h3⟩ := opn_UseS enc W n [c6] y3 g3
      obtain ⟨d4, h4⟩ := opn_i64 enc W n [c7] y4 g4
      exact ⟨(d0, d1, d2, d3, d4), ⟨[c0, c1, c2, c3], [c4, c5, c6, c7], rfl, h0, ⟨[c4], [c5, c6, c7], rfl, h1, ⟨[c5], [c6, c7], rfl, h2, ⟨[c6], [c7], rfl, h3, h4⟩⟩⟩⟩⟩
theorem open_Yard {H : Type} {enc : TypeId × Value → H} {W : World} {base : Nat} {v : Value} {d : DataW H} {p : List MemPlace} (o : Value.okWide Tryz.prog W .any base 31 v) (h : DataW.Trod enc Tryz.prog W 0 (fun _ => true) true 31 v d p) :
    ∃ (L0 : List (List (D_Label))) (L1 : List (D_Pair)) (L2 : List (D_Quota)) (x3 : Int) (L3 : List (D_Node)) (L4 : List (D_Task)) (L5 : List (D_Use)) (x7 : Int) (a0 : Option Addr) (c0 : Nat) (a1 : Option Addr) (c1 : Nat) (a2 : Option Addr) (c2 : Nat) (a3 : Option Addr) (c3 : Nat) (a4 : Option Addr) (c4 : Nat) (a5 : Option Addr) (c5 : Nat), v = .agg #[.slice a0 L0.length c0, .slice a1 L1.length c1, .slice a2 L2.length c2, .int .i64 x3, .slice a3 L3.length c3, .slice a4 L4.length c4, .slice a5 L5.length c5, .int .i64 x7] ∧ R_Yard.rd W W.heap.size ((L0, L1, L2, x3), L3, L4, L5, x7) [.slice a0 L0.length c0, .slice a1 L1.length c1, .slice a2 L2.length c2, .int .i64 x3, .slice a3 L3.length c3, .slice a4 L4.length c4, .slice a5 L5.length c5, .int .i64 x7] := by
  obtain ⟨⟨⟨L0, L1, L2, x3⟩, L3, L4, L5, x7⟩, cs, rfl, hr⟩ := open_st opn_Yard Tryz.underlying31 o h
  obtain ⟨a0, c0, a1, c1, a2, c2, a3, c3, a4, c4, a5, c5, rfl, h0⟩ := rdc_Yard hr
  exact ⟨L0, L1, L2, x3, L3, L4, L5, x7, a0, c0, a1, c1, a2, c2, a3, c3, a4, c4, a5, c5, rfl, h0⟩
end Go.Proofs.YtelhmacfljffhabGreat.RepC
end
