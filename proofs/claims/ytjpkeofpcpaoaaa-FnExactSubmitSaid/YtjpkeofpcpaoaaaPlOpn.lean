/- Pools that came in, opened. -/
import Derived.Test.YtjpkeofpcpaoaaaJobO
import Derived.Test.YtjpkeofpcpaoaaaPoolT
namespace Go.Proofs.Ytjpkeofpcpaoaaa.RepC
open Go.ChangeShapes Go.WideShapes Go.ChangeAt Go.RowKit Go.Joins Go.Deep RowC ValC
set_option linter.unusedVariables false
set_option maxRecDepth 100000

theorem c_LabelS : Try.prog.cellsOf 125 = 1 := by kernel_rfl
theorem c_LabelSS : Try.prog.cellsOf 57 = 1 := by kernel_rfl
theorem c_JobS : Try.prog.cellsOf 58 = 1 := by kernel_rfl
theorem c_Pool : Try.prog.cellsOf 60 = 3 := by kernel_rfl
theorem opn_LabelS : Opn (Sl R_Label) 125 := opn_sl opn_Label (by decide) Try.underlying125 c_Label
theorem opn_LabelSS : Opn (Sl (Sl R_Label)) 57 := opn_sl opn_LabelS (by decide) Try.underlying57 c_LabelS
theorem opn_Pool : Opn R_Pool 60 := fun enc W fuel cs y h => by
  obtain ⟨xs, n, _, _, hl, hlen, hf⟩ := DataW.trod_struct Try.underlying60 h
  rw [c_Pool] at hl
  match cs, hl with
  | [c0, c1, c2], _ =>
    have e2 : xs.length = 3 := hlen
    match xs, e2 with
    | [y0, y1, y2], _ =>
      have g0 := fld hf 0 57 0 1 rfl c_LabelSS
      have g1 := fld hf 1 58 1 1 rfl c_JobS
      have g2 := fld hf 2 2 2 1 rfl c_int64
      obtain ⟨d0, h0⟩ := opn_LabelSS enc W n [c0] y0 g0
      obtain ⟨d1, h1⟩ := opn_JobS enc W n [c1] y1 g1
      obtain ⟨d2, h2⟩ := opn_i64 enc W n [c2] y2 g2
      exact ⟨(d0, d1, d2), [c0], [c1, c2], rfl, h0, [c1], [c2], rfl, h1, h2⟩
theorem open_pool {H : Type} {enc : TypeId × Value → H} {W : World} {base : Nat} {v : Value} {d : DataW H} {p : List MemPlace} (o : Value.okWide Try.prog W .any base 60 v) (h : DataW.Trod enc Try.prog W 0 (fun _ => true) true 60 v d p) :
    ∃ (C : List (List D_Label)) (L : List D_Job) (now : Int) (ca : Option Addr) (cc : Nat) (ja : Option Addr) (jc : Nat), v = .agg #[.slice ca C.length cc, .slice ja L.length jc, .int .i64 now] ∧ RdSl (Sl R_Label) W W.heap.size C ca cc ∧ RdSl R_Job W W.heap.size L ja jc := by
  obtain ⟨⟨C, L, now⟩, cs, rfl, hr⟩ := open_st opn_Pool Try.underlying60 o h
  obtain ⟨ca, cc, ja, jc, rfl, h1, h2⟩ := rd_Pool hr
  exact ⟨C, L, now, ca, cc, ja, jc, rfl, h1, h2⟩
theorem open_labelSS {H : Type} {enc : TypeId × Value → H} {W : World} {base : Nat} {v : Value} {d : DataW H} {p : List MemPlace} (o : Value.okWide Try.prog W .any base 57 v) (h : DataW.Trod enc Try.prog W 0 (fun _ => true) true 57 v d p) :
    ∃ (L : List (List D_Label)) (a : Option Addr) (cap : Nat), v = .slice a L.length cap ∧ RdSl (Sl R_Label) W W.heap.size L a cap := open_sl opn_LabelSS Try.underlying57 o h
end Go.Proofs.Ytjpkeofpcpaoaaa.RepC
