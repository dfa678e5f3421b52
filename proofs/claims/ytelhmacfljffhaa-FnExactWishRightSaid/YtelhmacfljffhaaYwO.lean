/- The laws' data: contracts. -/
import Derived.Test.YtelhmacfljffhaaYwT
import Derived.Test.YtelhmacfljffhaaUsO
namespace Go.Proofs.Ytelhmacfljffhaa.RepC
open Go.ChangeShapes Go.WideShapes Go.ChangeAt Go.RowKit Go.Joins Go.Deep RowC ValC
set_option maxRecDepth 100000
set_option linter.unusedVariables false
set_option linter.unusedSimpArgs false


theorem c_Wish : Try.prog.cellsOf 25 = 8 := by kernel_rfl
theorem opn_Wish : Opn R_Wish 25 := fun enc W fuel cs y h => by
  obtain ⟨xs, n, _, _, hl, hlen, hf⟩ := DataW.trod_struct Try.underlying25 h
  rw [c_Wish] at hl
  match cs, hl with
  | [c0, c1, c2, c3, c4, c5, c6, c7], _ =>
    have e2 : xs.length = 7 := hlen
    match xs, e2 with
    | [y0, y1, y2, y3, y4, y5, y6], _ =>
      have g0 := fld hf 0 9 0 1 rfl c_String
      have g1 := fld hf 1 2 1 1 rfl c_int64
      have g2 := fld hf 2 2 2 1 rfl c_int64
      have g3 := fld hf 3 2 3 1 rfl c_int64
      have g4 := fld hf 4 23 4 2 rfl c_Label
      have g5 := fld hf 5 2 6 1 rfl c_int64
      have g6 := fld hf 6 2 7 1 rfl c_int64
      obtain ⟨d0, h0⟩ := opn_String enc W n [c0] y0 g0
      obtain ⟨d1, h1⟩ := opn_i64 enc W n [c1] y1 g1
      obtain ⟨d2, h2⟩ := opn_i64 enc W n [c2] y2 g2
      obtain ⟨d3, h3⟩ := opn_i64 enc W n [c3] y3 g3
      obtain ⟨d4, h4⟩ := opn_Label enc W n [c4, c5] y4 g4
      obtain ⟨d5, h5⟩ := opn_i64 enc W n [c6] y5 g5
      obtain ⟨d6, h6⟩ := opn_i64 enc W n [c7] y6 g6
      exact ⟨(d0, d1, d2, d3, d4, d5, d6), ⟨[c0], [c1, c2, c3, c4, c5, c6, c7], rfl, h0, ⟨[c1], [c2, c3, c4, c5, c6, c7], rfl, h1, ⟨[c2], [c3, c4, c5, c6, c7], rfl, h2, ⟨[c3], [c4, c5, c6, c7], rfl, h3, ⟨[c4, c5], [c6, c7], rfl, h4, ⟨[c6], [c7], rfl, h5, h6⟩⟩⟩⟩⟩⟩⟩
theorem open_Wish {H : Type} {enc : TypeId × Value → H} {W : World} {base : Nat} {v : Value} {d : DataW H} {p : List MemPlace} (o : Value.okWide Try.prog W .any base 25 v) (h : DataW.Trod enc Try.prog W 0 (fun _ => true) true 25 v d p) :
    ∃ (x0 : ByteArray) (x1 : Int) (x2 : Int) (x3 : Int) (x4 : Int) (x5 : Int) (x6 : Int) (x7 : Int), v = .agg #[.string x0, .int .i64 x1, .int .i64 x2, .int .i64 x3, .int .i64 x4, .int .i64 x5, .int .i64 x6, .int .i64 x7] ∧ R_Wish.rd W W.heap.size (x0, x1, x2, x3, (x4, x5), x6, x7) [.string x0, .int .i64 x1, .int .i64 x2, .int .i64 x3, .int .i64 x4, .int .i64 x5, .int .i64 x6, .int .i64 x7] := by
  obtain ⟨⟨x0, x1, x2, x3, ⟨x4, x5⟩, x6, x7⟩, cs, rfl, hr⟩ := open_st opn_Wish Try.underlying25 o h
  obtain ⟨rfl, _⟩ := rd_Wish hr
  exact ⟨x0, x1, x2, x3, x4, x5, x6, x7, rfl, hr⟩

end Go.Proofs.Ytelhmacfljffhaa.RepC
