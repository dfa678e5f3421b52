/- Slots: plain facts. -/
import Derived.Test.YtdedomfocljhaaaDoorFrR
import Derived.Test.YtdedomfocljhaaaDoorDsR
namespace Go.Proofs.YtdedomfocljhaaaDoor.FrC
open Go.RowKit PutM PutC JoinC SealC SpanC GetM GetC CrcC KeptC RepC ValC RowC
set_option linter.unusedVariables false
set_option linter.unusedSimpArgs false
set_option maxRecDepth 100000

theorem rdm {α : Type} {E : Rp α} (hE : Ok E) {W w' : World} {L : List α} {a : Option Addr} {c : Nat} (h : RdSl E W W.heap.size L a c) (hb : Below W.heap.size W w') : RdSl E w' w'.heap.size L a c := (h.below hE hb).more hE hb.size
/-- what a slot holds -/
def slotR (t : ByteArray) : FrO := if (frR t 0).2.2 = 0 ∧ (frR t 0).2.1 ≠ t.size then badF 3 else frR t 0
theorem slotR_long {t : ByteArray} (h : (frR t 0).2.2 = 0 ∧ (frR t 0).2.1 ≠ t.size) : slotR t = badF 3 := if_pos h
theorem slotR_as {t : ByteArray} (h : ¬ ((frR t 0).2.2 = 0 ∧ (frR t 0).2.1 ≠ t.size)) : slotR t = frR t 0 := if_neg h
theorem slotR_size (t : ByteArray) : (slotR t).1.2.size ≤ 2980 := by
  unfold slotR
  split
  · show (ByteArray.mk #[]).size ≤ 2980; decide
  · exact frR_size t 0
/-- it holds the number -/
def okS (t : ByteArray) (seq : Int) : Bool := (slotR t).2.2 == 0 && (slotR t).1.1 == seq
/-- SlotOf, where all is right -/
def ofR (x : D_Region) (seq : Int) : FrO := if okS x.1 seq = true then ((slotR x.1).1, 0, 0) else if okS x.2.1 seq = true then ((slotR x.2.1).1, 0, 0) else badF 6
theorem ofR_even {x : D_Region} {seq : Int} (h : okS x.1 seq = true) : ofR x seq = ((slotR x.1).1, 0, 0) := if_pos h
theorem ofR_odd {x : D_Region} {seq : Int} (h : okS x.1 seq = false) (h2 : okS x.2.1 seq = true) : ofR x seq = ((slotR x.2.1).1, 0, 0) := by unfold ofR; rw [if_neg (by simp [h]), if_pos h2]
theorem ofR_none {x : D_Region} {seq : Int} (h : okS x.1 seq = false) (h2 : okS x.2.1 seq = false) : ofR x seq = badF 6 := by unfold ofR; rw [if_neg (by simp [h]), if_neg (by simp [h2])]
def slotOf (d : D_Disk) (r seq : Int) : FrO := if diskB d.1 d.2 = true then (if 0 ≤ r ∧ r < d.1.length then (match d.1[r.toNat]? with | some x => ofR x seq | none => badF 6) else badF 6) else badF 1
theorem slotOf_form {L : List D_Region} {p r seq : Int} (h : diskB L p = false) : slotOf (L, p) r seq = badF 1 := by unfold slotOf; rw [if_neg (by simp [h])]
theorem slotOf_none {L : List D_Region} {p r seq : Int} (h : diskB L p = true) (h2 : ¬ (0 ≤ r ∧ r < L.length)) : slotOf (L, p) r seq = badF 6 := by unfold slotOf; rw [if_pos h, if_neg h2]
theorem slotOf_yes {L : List D_Region} {p seq : Int} {k : Nat} {x : D_Region} (h : diskB L p = true) (hx : L[k]? = some x) : slotOf (L, p) k seq = ofR x seq := by
  have hk := (List.getElem?_eq_some_iff.1 hx).1
  unfold slotOf
  rw [if_pos h, if_pos ⟨by omega, by simp only; omega⟩]
  simp only [Int.toNat_natCast]
  rw [hx]
/-- an element of a slice of regions -/
theorem reg_at {W : World} {L : List D_Region} {a : Option Addr} {c : Nat} (h : RdSl R_Region W W.heap.size L a c) {k : Nat} {x0 x1 x2 : ByteArray} (hx : L[k]? = some (x0, x1, x2)) :
    ∃ g o, a = some ⟨g, o, none⟩ ∧ g < W.heap.size ∧ W.cell? ⟨g, o + k * 3, none⟩ = some (.string x0) ∧ W.cell? ⟨g, o + k * 3 + 1, none⟩ = some (.string x1) ∧ W.cell? ⟨g, o + k * 3 + 2, none⟩ = some (.string x2) ∧ x0.size ≤ maxLen ∧ x1.size ≤ maxLen ∧ x2.size ≤ maxLen := by
  obtain ⟨g, o, us, rfl, hg, hu, hr⟩ := h.at_ hx
  obtain ⟨rfl, b0, b1, b2⟩ := rd_Region hr
  exact ⟨g, o, rfl, hg, by simpa [sizeq_RegionS, Nat.add_assoc] using hu 0 _ rfl, by simpa [sizeq_RegionS, Nat.add_assoc] using hu 1 _ rfl, by simpa [sizeq_RegionS, Nat.add_assoc] using hu 2 _ rfl, b0, b1, b2⟩
theorem foV_mk (n q c : Int) (u : ByteArray) : foV ((n, u), q, c) = .agg #[.int .i64 n, .string u, .int .i64 q, .int .i64 c] := rfl
theorem frame_z (c : Int) : foV (badF c) = .agg #[.int .i64 0, .string ⟨#[]⟩, .int .i64 0, .int .i64 c] := rfl
end Go.Proofs.YtdedomfocljhaaaDoor.FrC
