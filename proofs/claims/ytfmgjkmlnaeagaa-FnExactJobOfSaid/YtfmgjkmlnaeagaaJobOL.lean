/- A label that came in, opened, with the ranges of its numbers. -/
import Derived.Test.YtfmgjkmlnaeagaaJobL4
namespace Go.Proofs.Ytfmgjkmlnaeagaa.RepC
open Go.ChangeShapes Go.WideShapes Go.ChangeAt Go.RowKit Go.Joins Go.Deep RowC ValC
set_option linter.unusedVariables false
set_option maxRecDepth 100000

theorem open_lab3 {H : Type} {enc : TypeId × Value → H} {W : World} {base : Nat} {v : Value} {d : DataW H} {p : List MemPlace} (o : Value.okWide Try.prog W .any base 23 v) (h : DataW.Trod enc Try.prog W 0 (fun _ => true) true 23 v d p) :
    ∃ l s : Int, v = .agg #[.int .i64 l, .int .i64 s] ∧ Wf l ∧ Wf s := by
  obtain ⟨cs, rfl, hsz⟩ := okWide_struct Try.underlying23 o
  obtain ⟨fuel, hf⟩ := h
  obtain ⟨xs, n, _, _, hl, hlen, hf⟩ := DataW.trod_struct Try.underlying23 hf
  rw [c_Label] at hl
  obtain ⟨ls⟩ := cs
  match ls, hl with
  | [c0, c1], _ =>
    have e2 : xs.length = 2 := hlen
    match xs, e2 with
    | [z0, z1], _ =>
      have g0 := fld hf 0 2 0 1 rfl c_int64
      have g1 := fld hf 1 2 1 1 rfl c_int64
      obtain ⟨l, e0, _, w0⟩ := DataW.trod_int Try.underlying2 g0
      obtain ⟨s, e1, _, w1⟩ := DataW.trod_int Try.underlying2 g1
      obtain rfl : c0 = _ := by simpa [Value.cells] using e0
      obtain rfl : c1 = _ := by simpa [Value.cells] using e1
      exact ⟨l, s, rfl, w0, w1⟩
end Go.Proofs.Ytfmgjkmlnaeagaa.RepC
