/- Strings and integers that came in, opened. -/
import Derived.Test.YtdedomfocljhaaaGreatDoorJobO
import Derived.Test.YtdedomfocljhaaaGreatDoorSt
namespace Go.Proofs.YtdedomfocljhaaaGreatDoor.RepC
open Go.ChangeShapes Go.WideShapes Go.ChangeAt Go.RowKit Go.Joins Go.Deep RowC ValC
set_option maxRecDepth 100000
set_option linter.unusedVariables false
set_option linter.unusedSimpArgs false

theorem c_String : Tryz.prog.cellsOf 9 = 1 := by kernel_rfl
theorem opn_String : Opn St 9 := fun enc W fuel cs y h => by
  obtain ⟨s, rfl, _, hw⟩ := DataW.trod_string Tryz.underlying9 h
  exact ⟨s, rfl, hw⟩
theorem open_n64 {H : Type} {enc : TypeId × Value → H} {W : World} {base : Nat} {v : Value} {d : DataW H} {p : List MemPlace} (o : Value.okWide Tryz.prog W .any base 2 v) (h : DataW.Trod enc Tryz.prog W 0 (fun _ => true) true 2 v d p) : ∃ q : Int, v = .int .i64 q ∧ -9223372036854775808 ≤ q ∧ q ≤ 9223372036854775807 := by
  obtain ⟨a0, rfl, rfl, rfl, w0⟩ := open_int Tryz.underlying2 o h
  refine ⟨a0, rfl, ?_⟩
  simp [Lit.wf, IntKind.min, IntKind.max, IntKind.signed, IntKind.bits] at w0
  omega
theorem open_str {H : Type} {enc : TypeId × Value → H} {W : World} {base : Nat} {v : Value} {d : DataW H} {p : List MemPlace} (o : Value.okWide Tryz.prog W .any base 9 v) (h : DataW.Trod enc Tryz.prog W 0 (fun _ => true) true 9 v d p) : ∃ s : ByteArray, v = .string s ∧ s.size ≤ maxLen := by
  obtain ⟨t, rfl, _, _, ht⟩ := Go.ChangeMaps.open_string Tryz.underlying9 o h
  exact ⟨t, rfl, ht⟩
end Go.Proofs.YtdedomfocljhaaaGreatDoor.RepC
