/- The law on LabelRead for a string that came in. -/
import Derived.Test.YtdapbomppjhdgaaDoorReadLaw
import Derived.Test.YtdapbomppjhdgaaDoorLabDoor
import Derived.ShutString
namespace Go.Proofs.YtdapbomppjhdgaaDoor.LabC
open Go.ChangeShapes Go.WideShapes Go.ChangeAt Go.RowKit
theorem open_text {H : Type} {enc : TypeId × Value → H} {W : World} {base : Nat} {v : Value} {d : DataW H} {p : List MemPlace} (o : Value.okWide Tryd.prog W .any base 9 v) (h : DataW.Trod enc Tryd.prog W 0 (fun _ => true) true 9 v d p) :
    ∃ t : ByteArray, v = .string t ∧ t.size ≤ maxLen := by
  obtain ⟨t, rfl, _, _, ht⟩ := Go.ChangeMaps.open_string Tryd.underlying9 o h
  exact ⟨t, rfl, ht⟩
end Go.Proofs.YtdapbomppjhdgaaDoor.LabC
