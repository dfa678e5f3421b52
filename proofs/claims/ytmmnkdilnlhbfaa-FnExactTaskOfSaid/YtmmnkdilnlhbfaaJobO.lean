/- Jobs that came in, opened. -/
import Derived.Test.YtmmnkdilnlhbfaaOpn
import Derived.Test.YtmmnkdilnlhbfaaJobT
namespace Go.Proofs.Ytmmnkdilnlhbfaa.RepC
open Go.ChangeShapes Go.WideShapes Go.ChangeAt Go.RowKit Go.Joins Go.Deep RowC ValC
set_option linter.unusedVariables false
set_option maxRecDepth 100000

theorem c_int64 : Try.prog.cellsOf 2 = 1 := by kernel_rfl
theorem c_i64s : Try.prog.cellsOf 30 = 1 := by kernel_rfl
theorem c_Label : Try.prog.cellsOf 28 = 2 := by kernel_rfl
theorem opn_i64 : Opn I 2 := opn_int Try.underlying2
theorem opn_i64s : Opn (Sl I) 30 := opn_sl opn_i64 (by decide) Try.underlying30 c_int64
theorem opn_Label : Opn R_Label 28 := fun enc W fuel cs y h => by
  obtain ⟨xs, n, _, _, hl, hlen, hf⟩ := DataW.trod_struct Try.underlying28 h
  rw [c_Label] at hl
  match cs, hl with
  | [c0, c1], _ =>
    have e2 : xs.length = 2 := hlen
    match xs, e2 with
    | [y0, y1], _ =>
      have g0 := fld hf 0 2 0 1 rfl c_int64
      have g1 := fld hf 1 2 1 1 rfl c_int64
      obtain ⟨d0, h0⟩ := opn_i64 enc W n [c0] y0 g0
      obtain ⟨d1, h1⟩ := opn_i64 enc W n [c1] y1 g1
      exact ⟨(d0, d1), [c0], [c1], rfl, h0, h1⟩
theorem open_lab2 {H : Type} {enc : TypeId × Value → H} {W : World} {base : Nat} {v : Value} {d : DataW H} {p : List MemPlace} (o : Value.okWide Try.prog W .any base 28 v) (h : DataW.Trod enc Try.prog W 0 (fun _ => true) true 28 v d p) :
    ∃ l s : Int, v = .agg #[.int .i64 l, .int .i64 s] := by
  obtain ⟨⟨l, s⟩, cs, rfl, hr⟩ := open_st opn_Label Try.underlying28 o h
  obtain rfl := rd_Label hr
  exact ⟨l, s, rfl⟩
end Go.Proofs.Ytmmnkdilnlhbfaa.RepC
