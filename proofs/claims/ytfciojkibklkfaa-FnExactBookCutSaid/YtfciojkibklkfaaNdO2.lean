/- An integer that came in, opened. -/
import Derived.Test.YtfciojkibklkfaaNdO
namespace Go.Proofs.Ytfciojkibklkfaa.RepC
open Go.ChangeShapes Go.WideShapes Go.ChangeAt Go.RowKit Go.Joins Go.Deep RowC ValC
theorem open_n64 {H : Type} {enc : TypeId × Value → H} {W : World} {base : Nat} {v : Value} {d : DataW H} {p : List MemPlace} (o : Value.okWide Try.prog W .any base 2 v) (h : DataW.Trod enc Try.prog W 0 (fun _ => true) true 2 v d p) : ∃ q : Int, v = .int .i64 q := by
  obtain ⟨a0, rfl, rfl, rfl, w0⟩ := open_int Try.underlying2 o h
  exact ⟨a0, rfl⟩
end Go.Proofs.Ytfciojkibklkfaa.RepC
