/- Spans and nodes that came in, opened. -/
import Derived.Test.YtfciojkibklkfaaOpn
import Derived.Test.YtfciojkibklkfaaNdT
import Derived.Test.YtfciojkibklkfaaNdG
namespace Go.Proofs.Ytfciojkibklkfaa.RepC
open Go.ChangeShapes Go.WideShapes Go.ChangeAt Go.RowKit Go.Joins Go.Deep RowC ValC
set_option linter.unusedVariables false
set_option linter.unusedSimpArgs false
set_option maxRecDepth 100000

theorem c_int64 : Try.prog.cellsOf 2 = 1 := by kernel_rfl
theorem opn_i64 : Opn I 2 := opn_int Try.underlying2
theorem c_SpanS : Try.prog.cellsOf 85 = 1 := by kernel_rfl
theorem c_Span : Try.prog.cellsOf 55 = 2 := by kernel_rfl
theorem opn_Span : Opn R_Span 55 := fun enc W fuel cs y h => by
  obtain ⟨xs, n, _, _, hl, hlen, hf⟩ := DataW.trod_struct Try.underlying55 h
  rw [c_Span] at hl
  match cs, hl with
  | [c0, c1], _ =>
    have e2 : xs.length = 2 := hlen
    match xs, e2 with
    | [y0, y1], _ =>
      have g0 := fld hf 0 2 0 1 rfl c_int64
      have g1 := fld hf 1 2 1 1 rfl c_int64
      obtain ⟨d0, h0⟩ := opn_i64 enc W n [c0] y0 g0
      obtain ⟨d1, h1⟩ := opn_i64 enc W n [c1] y1 g1
      exact ⟨(d0, d1), ⟨[c0], [c1], rfl, h0, h1⟩⟩
theorem open_Span {H : Type} {enc : TypeId × Value → H} {W : World} {base : Nat} {v : Value} {d : DataW H} {p : List MemPlace} (o : Value.okWide Try.prog W .any base 55 v) (h : DataW.Trod enc Try.prog W 0 (fun _ => true) true 55 v d p) :
    ∃ (x0 : Int) (x1 : Int), v = .agg #[.int .i64 x0, .int .i64 x1] ∧ R_Span.rd W W.heap.size (x0, x1) [.int .i64 x0, .int .i64 x1] := by
  obtain ⟨⟨x0, x1⟩, cs, rfl, hr⟩ := open_st opn_Span Try.underlying55 o h
  obtain rfl := rd_Span hr
  exact ⟨x0, x1, rfl, hr⟩
theorem opn_SpanS : Opn (Sl R_Span) 85 := opn_sl opn_Span (by decide) Try.underlying85 c_Span
theorem c_Node : Try.prog.cellsOf 87 = 2 := by kernel_rfl
theorem opn_Node : Opn R_Node 87 := fun enc W fuel cs y h => by
  obtain ⟨xs, n, _, _, hl, hlen, hf⟩ := DataW.trod_struct Try.underlying87 h
  rw [c_Node] at hl
  match cs, hl with
  | [c0, c1], _ =>
    have e2 : xs.length = 2 := hlen
    match xs, e2 with
    | [y0, y1], _ =>
      have g0 := fld hf 0 2 0 1 rfl c_int64
      have g1 := fld hf 1 85 1 1 rfl c_SpanS
      obtain ⟨d0, h0⟩ := opn_i64 enc W n [c0] y0 g0
      obtain ⟨d1, h1⟩ := opn_SpanS enc W n [c1] y1 g1
      exact ⟨(d0, d1), ⟨[c0], [c1], rfl, h0, h1⟩⟩
theorem opn_NodeS : Opn (Sl R_Node) 45 := opn_sl opn_Node (by decide) Try.underlying45 c_Node
theorem open_nodes {H : Type} {enc : TypeId × Value → H} {W : World} {base : Nat} {v : Value} {d : DataW H} {p : List MemPlace} (o : Value.okWide Try.prog W .any base 45 v) (h : DataW.Trod enc Try.prog W 0 (fun _ => true) true 45 v d p) :
    ∃ (L : List D_Node) (a : Option Addr) (cap : Nat), v = .slice a L.length cap ∧ (Sl R_Node).rd W W.heap.size L [.slice a L.length cap] := by
  obtain ⟨L, a, cap, rfl, hr⟩ := open_sl opn_NodeS Try.underlying45 o h
  exact ⟨L, a, cap, rfl, a, cap, rfl, hr⟩
end Go.Proofs.Ytfciojkibklkfaa.RepC
