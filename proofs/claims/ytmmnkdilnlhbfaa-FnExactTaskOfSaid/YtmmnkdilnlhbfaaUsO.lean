/- The laws' data: contracts. -/
import Derived.Test.YtmmnkdilnlhbfaaJobO
import Derived.Test.YtmmnkdilnlhbfaaUsT
namespace Go.Proofs.Ytmmnkdilnlhbfaa.RepC
open Go.ChangeShapes Go.WideShapes Go.ChangeAt Go.RowKit Go.Joins Go.Deep RowC ValC
set_option maxRecDepth 100000
set_option linter.unusedVariables false
set_option linter.unusedSimpArgs false

theorem c_String : Try.prog.cellsOf 9 = 1 := by kernel_rfl
theorem opn_String : Opn St 9 := fun enc W fuel cs y h => by
  obtain ⟨s, rfl, _, hw⟩ := DataW.trod_string Try.underlying9 h
  exact ⟨s, rfl, hw⟩
theorem open_n64 {H : Type} {enc : TypeId × Value → H} {W : World} {base : Nat} {v : Value} {d : DataW H} {p : List MemPlace} (o : Value.okWide Try.prog W .any base 2 v) (h : DataW.Trod enc Try.prog W 0 (fun _ => true) true 2 v d p) : ∃ q : Int, v = .int .i64 q := by
  obtain ⟨a0, rfl, rfl, rfl, w0⟩ := open_int Try.underlying2 o h
  exact ⟨a0, rfl⟩
theorem open_str {H : Type} {enc : TypeId × Value → H} {W : World} {base : Nat} {v : Value} {d : DataW H} {p : List MemPlace} (o : Value.okWide Try.prog W .any base 9 v) (h : DataW.Trod enc Try.prog W 0 (fun _ => true) true 9 v d p) : ∃ s : ByteArray, v = .string s ∧ s.size ≤ maxLen := by
  obtain ⟨t, rfl, _, _, ht⟩ := Go.ChangeMaps.open_string Try.underlying9 o h
  exact ⟨t, rfl, ht⟩
theorem open_labw {H : Type} {enc : TypeId × Value → H} {W : World} {base : Nat} {v : Value} {d : DataW H} {p : List MemPlace} (o : Value.okWide Try.prog W .any base 28 v) (h : DataW.Trod enc Try.prog W 0 (fun _ => true) true 28 v d p) :
    ∃ l s : Int, v = .agg #[.int .i64 l, .int .i64 s] ∧ (Lit.int .i64 l).wf = true ∧ (Lit.int .i64 s).wf = true := by
  obtain ⟨cs, rfl, hsz⟩ := okWide_struct Try.underlying28 o
  obtain ⟨fuel, hf⟩ := h
  obtain ⟨xs, n, _, _, hl, hlen, hf⟩ := DataW.trod_struct Try.underlying28 hf
  rw [c_Label] at hl
  obtain ⟨ls⟩ := cs
  match ls, hl with
  | [c0, c1], _ =>
    have e2 : xs.length = 2 := hlen
    match xs, e2 with
    | [z0, z1], _ =>
      have g0 := fld hf 0 2 0 1 rfl c_int64
      have g1 := fld hf 1 2 1 1 rfl c_int64
      obtain ⟨l, e0, _, w0⟩ := DataW.trod_int Try.underlying2 g0
      obtain ⟨s, e1, _, w1⟩ := DataW.trod_int Try.underlying2 g1
      obtain rfl : c0 = _ := by simpa [Value.cells] using e0
      obtain rfl : c1 = _ := by simpa [Value.cells] using e1
      exact ⟨l, s, rfl, w0, w1⟩
end Go.Proofs.Ytmmnkdilnlhbfaa.RepC
