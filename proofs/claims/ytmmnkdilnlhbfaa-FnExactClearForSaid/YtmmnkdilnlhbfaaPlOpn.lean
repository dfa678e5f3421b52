/- Pools that came in, opened. -/
import Derived.Test.YtmmnkdilnlhbfaaJobO
import Derived.Test.YtmmnkdilnlhbfaaPoolT
namespace Go.Proofs.Ytmmnkdilnlhbfaa.RepC
open Go.ChangeShapes Go.WideShapes Go.ChangeAt Go.RowKit Go.Joins Go.Deep RowC ValC
set_option linter.unusedVariables false
set_option maxRecDepth 100000

theorem c_LabelS : Try.prog.cellsOf 97 = 1 := by kernel_rfl
theorem c_LabelSS : Try.prog.cellsOf 22 = 1 := by kernel_rfl
theorem opn_LabelS : Opn (Sl R_Label) 97 := opn_sl opn_Label (by decide) Try.underlying97 c_Label
theorem opn_LabelSS : Opn (Sl (Sl R_Label)) 22 := opn_sl opn_LabelS (by decide) Try.underlying22 c_LabelS
theorem open_labelSS {H : Type} {enc : TypeId × Value → H} {W : World} {base : Nat} {v : Value} {d : DataW H} {p : List MemPlace} (o : Value.okWide Try.prog W .any base 22 v) (h : DataW.Trod enc Try.prog W 0 (fun _ => true) true 22 v d p) :
    ∃ (L : List (List D_Label)) (a : Option Addr) (cap : Nat), v = .slice a L.length cap ∧ RdSl (Sl R_Label) W W.heap.size L a cap := open_sl opn_LabelSS Try.underlying22 o h
end Go.Proofs.Ytmmnkdilnlhbfaa.RepC
