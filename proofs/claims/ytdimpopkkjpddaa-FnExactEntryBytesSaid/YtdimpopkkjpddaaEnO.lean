/- The laws' data: contracts. -/
import Derived.Test.YtdimpopkkjpddaaEnT
import Derived.Test.YtdimpopkkjpddaaJobO
namespace Go.Proofs.Ytdimpopkkjpddaa.RepC
open Go.ChangeShapes Go.WideShapes Go.ChangeAt Go.RowKit Go.Joins Go.Deep RowC ValC
set_option maxRecDepth 100000
set_option linter.unusedVariables false
set_option linter.unusedSimpArgs false

theorem c_Entry : Try.prog.cellsOf 25 = 6 := by kernel_rfl
theorem opn_Entry : Opn R_Entry 25 := fun enc W fuel cs y h => by
  obtain ⟨xs, n, _, _, hl, hlen, hf⟩ := DataW.trod_struct Try.underlying25 h
  rw [c_Entry] at hl
  match cs, hl with
  | [c0, c1, c2, c3, c4, c5], _ =>
    have e2 : xs.length = 5 := hlen
    match xs, e2 with
    | [y0, y1, y2, y3, y4], _ =>
      have g0 := fld hf 0 2 0 1 rfl c_int64
      have g1 := fld hf 1 23 1 2 rfl c_Label
      have g2 := fld hf 2 2 3 1 rfl c_int64
      have g3 := fld hf 3 2 4 1 rfl c_int64
      have g4 := fld hf 4 2 5 1 rfl c_int64
      obtain ⟨d0, h0⟩ := opn_i64 enc W n [c0] y0 g0
      obtain ⟨d1, h1⟩ := opn_Label enc W n [c1, c2] y1 g1
      obtain ⟨d2, h2⟩ := opn_i64 enc W n [c3] y2 g2
      obtain ⟨d3, h3⟩ := opn_i64 enc W n [c4] y3 g3
      obtain ⟨d4, h4⟩ := opn_i64 enc W n [c5] y4 g4
      exact ⟨(d0, d1, d2, d3, d4), ⟨[c0], [c1, c2, c3, c4, c5], rfl, h0, ⟨[c1, c2], [c3, c4, c5], rfl, h1, ⟨[c3], [c4, c5], rfl, h2, ⟨[c4], [c5], rfl, h3, h4⟩⟩⟩⟩⟩
theorem open_Entry {H : Type} {enc : TypeId × Value → H} {W : World} {base : Nat} {v : Value} {d : DataW H} {p : List MemPlace} (o : Value.okWide Try.prog W .any base 25 v) (h : DataW.Trod enc Try.prog W 0 (fun _ => true) true 25 v d p) :
    ∃ (x0 : Int) (x1 : Int) (x2 : Int) (x3 : Int) (x4 : Int) (x5 : Int), v = .agg #[.int .i64 x0, .int .i64 x1, .int .i64 x2, .int .i64 x3, .int .i64 x4, .int .i64 x5] ∧ R_Entry.rd W W.heap.size (x0, (x1, x2), x3, x4, x5) [.int .i64 x0, .int .i64 x1, .int .i64 x2, .int .i64 x3, .int .i64 x4, .int .i64 x5] := by
  obtain ⟨⟨x0, ⟨x1, x2⟩, x3, x4, x5⟩, cs, rfl, hr⟩ := open_st opn_Entry Try.underlying25 o h
  obtain rfl := rd_Entry hr
  exact ⟨x0, x1, x2, x3, x4, x5, rfl, hr⟩

end Go.Proofs.Ytdimpopkkjpddaa.RepC
