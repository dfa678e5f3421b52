/- Of this claim's texts the part 33: MlIn. -/
import Derived.Test.YtlgflddljhldhaaGreatPN30
section
namespace Go.Proofs.YtlgflddljhldhaaGreat.RepC
open Go.ChangeShapes Go.WideShapes Go.ChangeAt Go.RowKit Go.Joins Go.Deep RowC ValC
set_option maxRecDepth 100000 in
theorem open_n64 {H : Type} {enc : TypeId × Value → H} {W : World} {base : Nat} {v : Value} {d : DataW H} {p : List MemPlace} (o : Value.okWide Tryz.prog W .any base 2 v) (h : DataW.Trod enc Tryz.prog W 0 (fun _ => true) true 2 v d p) : ∃ q : Int, v = .int .i64 q := by
  obtain ⟨a0, rfl, rfl, rfl, w0⟩ := open_int Tryz.underlying2 o h
  exact ⟨a0, rfl⟩
end Go.Proofs.YtlgflddljhldhaaGreat.RepC
end
