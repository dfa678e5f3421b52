/- Tasks that came in, opened. -/
import Derived.Test.YtmmnkdilnlhbfaaJobO
import Derived.Test.YtmmnkdilnlhbfaaUsO
import Derived.Test.YtmmnkdilnlhbfaaTaG
namespace Go.Proofs.Ytmmnkdilnlhbfaa.RepC
open Go.ChangeShapes Go.WideShapes Go.ChangeAt Go.RowKit Go.Joins Go.Deep RowC ValC
set_option maxRecDepth 100000
set_option linter.unusedVariables false
set_option linter.unusedSimpArgs false

theorem c_Task : Try.prog.cellsOf 63 = 14 := by kernel_rfl
theorem opn_Task : Opn R_Task 63 := fun enc W fuel cs y h => by
  obtain ⟨xs, n, _, _, hl, hlen, hf⟩ := DataW.trod_struct Try.underlying63 h
  rw [c_Task] at hl
  match cs, hl with
  | [c0, c1, c2, c3, c4, c5, c6, c7, c8, c9, c10, c11, c12, c13], _ =>
    have e2 : xs.length = 12 := hlen
    match xs, e2 with
    | [y0, y1, y2, y3, y4, y5, y6, y7, y8, y9, y10, y11], _ =>
      have g0 := fld hf 0 28 0 2 rfl c_Label
      have g1 := fld hf 1 2 2 1 rfl c_int64
      have g2 := fld hf 2 9 3 1 rfl c_String
      have g3 := fld hf 3 2 4 1 rfl c_int64
      have g4 := fld hf 4 2 5 1 rfl c_int64
      have g5 := fld hf 5 2 6 1 rfl c_int64
      have g6 := fld hf 6 28 7 2 rfl c_Label
      have g7 := fld hf 7 2 9 1 rfl c_int64
      have g8 := fld hf 8 2 10 1 rfl c_int64
      have g9 := fld hf 9 2 11 1 rfl c_int64
      have g10 := fld hf 10 2 12 1 rfl c_int64
      have g11 := fld hf 11 30 13 1 rfl c_i64s
      obtain ⟨d0, h0⟩ := opn_Label enc W n [c0, c1] y0 g0
      obtain ⟨d1, h1⟩ := opn_i64 enc W n [c2] y1 g1
      obtain ⟨d2, h2⟩ := opn_String enc W n [c3] y2 g2
      obtain ⟨d3, h3⟩ := opn_i64 enc W n [c4] y3 g3
      obtain ⟨d4, h4⟩ := opn_i64 enc W n [c5] y4 g4
      obtain ⟨d5, h5⟩ := opn_i64 enc W n [c6] y5 g5
      obtain ⟨d6, h6⟩ := opn_Label enc W n [c7, c8] y6 g6
      obtain ⟨d7, h7⟩ := opn_i64 enc W n [c9] y7 g7
      obtain ⟨d8, h8⟩ := opn_i64 enc W n [c10] y8 g8
      obtain ⟨d9, h9⟩ := opn_i64 enc W n [c11] y9 g9
      obtain ⟨d10, h10⟩ := opn_i64 enc W n [c12] y10 g10
      obtain ⟨d11, h11⟩ := opn_i64s enc W n [c13] y11 g11
      exact ⟨(d0, d1, d2, d3, d4, d5, d6, d7, d8, d9, d10, d11), ⟨[c0, c1], [c2, c3, c4, c5, c6, c7, c8, c9, c10, c11, c12, c13], rfl, h0, ⟨[c2], [c3, c4, c5, c6, c7, c8, c9, c10, c11, c12, c13], rfl, h1, ⟨[c3], [c4, c5, c6, c7, c8, c9, c10, c11, c12, c13], rfl, h2, ⟨[c4], [c5, c6, c7, c8, c9, c10, c11, c12, c13], rfl, h3, ⟨[c5], [c6, c7, c8, c9, c10, c11, c12, c13], rfl, h4, ⟨[c6], [c7, c8, c9, c10, c11, c12, c13], rfl, h5, ⟨[c7, c8], [c9, c10, c11, c12, c13], rfl, h6, ⟨[c9], [c10, c11, c12, c13], rfl, h7, ⟨[c10], [c11, c12, c13], rfl, h8, ⟨[c11], [c12, c13], rfl, h9, ⟨[c12], [c13], rfl, h10, h11⟩⟩⟩⟩⟩⟩⟩⟩⟩⟩⟩⟩
theorem open_Task {H : Type} {enc : TypeId × Value → H} {W : World} {base : Nat} {v : Value} {d : DataW H} {p : List MemPlace} (o : Value.okWide Try.prog W .any base 63 v) (h : DataW.Trod enc Try.prog W 0 (fun _ => true) true 63 v d p) :
    ∃ (x0 : Int) (x1 : Int) (x2 : Int) (x3 : ByteArray) (x4 : Int) (x5 : Int) (x6 : Int) (x7 : Int) (x8 : Int) (x9 : Int) (x10 : Int) (x11 : Int) (x12 : Int) (L0 : List (Int)) (a0 : Option Addr) (c0 : Nat), v = .agg #[.int .i64 x0, .int .i64 x1, .int .i64 x2, .string x3, .int .i64 x4, .int .i64 x5, .int .i64 x6, .int .i64 x7, .int .i64 x8, .int .i64 x9, .int .i64 x10, .int .i64 x11, .int .i64 x12, .slice a0 L0.length c0] ∧ R_Task.rd W W.heap.size ((x0, x1), x2, x3, x4, x5, x6, (x7, x8), x9, x10, x11, x12, L0) [.int .i64 x0, .int .i64 x1, .int .i64 x2, .string x3, .int .i64 x4, .int .i64 x5, .int .i64 x6, .int .i64 x7, .int .i64 x8, .int .i64 x9, .int .i64 x10, .int .i64 x11, .int .i64 x12, .slice a0 L0.length c0] := by
  obtain ⟨⟨⟨x0, x1⟩, x2, x3, x4, x5, x6, ⟨x7, x8⟩, x9, x10, x11, x12, L0⟩, cs, rfl, hr⟩ := open_st opn_Task Try.underlying63 o h
  obtain ⟨a0, c0, rfl, h0⟩ := rdc_Task hr
  exact ⟨x0, x1, x2, x3, x4, x5, x6, x7, x8, x9, x10, x11, x12, L0, a0, c0, rfl, h0⟩

theorem c_TaskS : Try.prog.cellsOf 46 = 1 := by kernel_rfl
theorem opn_TaskS : Opn (Sl R_Task) 46 := opn_sl opn_Task (by decide) Try.underlying46 c_Task

theorem open_tasks {H : Type} {enc : TypeId × Value → H} {W : World} {base : Nat} {v : Value} {d : DataW H} {p : List MemPlace} (o : Value.okWide Try.prog W .any base 46 v) (h : DataW.Trod enc Try.prog W 0 (fun _ => true) true 46 v d p) : ∃ (L : List D_Task) (a : Option Addr) (cap : Nat), v = .slice a L.length cap ∧ RdSl R_Task W W.heap.size L a cap := open_sl opn_TaskS Try.underlying46 o h
end Go.Proofs.Ytmmnkdilnlhbfaa.RepC
