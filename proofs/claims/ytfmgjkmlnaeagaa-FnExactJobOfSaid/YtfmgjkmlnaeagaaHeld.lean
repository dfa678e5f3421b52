/- What is held: the marks are there still, and in order. -/
import Derived.Test.YtfmgjkmlnaeagaaRep3
namespace Go.Proofs.Ytfmgjkmlnaeagaa.RepC
open Go.RowKit RowC ValC
set_option linter.unusedVariables false
set_option linter.unusedSimpArgs false

/-- the marks go from here up to k', and nothing older has turned -/
def HeldC (k' : Int) (w : World) (e : Ending) (w' : World) : Prop := e = .returned (.int .i64 k') ∧ Below w.heap.size w w'
theorem heldC_elim {k' : Int} {w : World} {e : Ending} {w' : World} (h : HeldC k' w e w') : e = .returned (.int .i64 k') ∧ Below w.heap.size w w' := h
theorem Blk.off {w w' : World} {g : Nat} {t : TypeId} {cs : Array Value} {S : Nat → Prop} (h : Blk w g t cs) (ho : Off S w w') (hg : g < w.heap.size) (hS : ¬ S g) : Blk w' g t cs := (ho.block g hg hS).trans h
set_option maxRecDepth 100000 in
set_option maxHeartbeats 1600000 in
theorem held_Int64S {L : List Int} {a : Option Addr} {cap : Nat} {W : World} {k k' : Int} (h0 : 0 ≤ k) (h1 : k' ≤ 4611686018427387904) (hm : mmL I L k k') (h : RdSl I W W.heap.size L a cap) : Calls Try.prog 44 #[.slice a L.length cap, .int .i64 k] W (HeldC k' W) := by
  have hn : L.length ≤ 9223372036854775807 := by have h1 := h.1; have h2 := h.2.1; unfold maxLen at h2; omega
  have H := Lib.hid h
  have HM := Lib.hid hm
  clear h hm
  go_enter Try.func44, Try.ntmps44
  go_wp2
  go_loopw [5, 1] (fun i q wr => ∃ j : Nat, j ≤ L.length ∧ i = .int .i64 j ∧ (∃ z : Int, q = .int .i64 z ∧ 0 ≤ z ∧ mmL I (L.drop j) z k') ∧ Below W.heap.size W wr) (fun i _ _ => L.length - (intOf i).toNat)
  case atStart => exact ⟨0, Nat.zero_le _, rfl, ⟨k, rfl, h0, HM.out⟩, Below.refl _ _⟩
  case round =>
    obtain ⟨j, hj, rfl, ⟨z, rfl, hz, hmz⟩, hB⟩ := hrel
    have HB := Lib.hid hB
    by_cases hlt : j < L.length
    · obtain ⟨x, hx⟩ := el_some hlt
      obtain ⟨k1, hxm, hmn⟩ := mmL_drop hx hmz
      obtain ⟨rfl, rfl⟩ : x = z ∧ k1 = z + 1 := hxm
      have hzb := mmL_le I_mn hmn
      obtain ⟨g, o, us, rfl, hg, hu, hr⟩ := (H.out.below I_ok hB).at_ hx
      obtain rfl : us = [_] := hr
      have e0 : wr.cell? ⟨g, o + j, none⟩ = some (.int .i64 x) := by simpa [show I.size = 1 from rfl] using hu 0 _ rfl
      have HMN := Lib.hid hmn
      have hi0 : (0 : Int) ≤ (j : Int) := Int.natCast_nonneg _
      have hi1 : (j : Int) < (L.length : Int) := by omega
      have hx1 : x + 1 ≤ 4611686018427387904 := by omega
      clear hB hx hu hmz hmn
      go_wp2
      go_roundw
      case rel => exact ⟨j + 1, by omega, by go_num, ⟨_, rfl, by omega, HMN.out⟩, HB.out⟩
      case measure => simp [intOf]; omega
    · obtain rfl : j = L.length := by omega
      have HE := Lib.hid (mmL_end hmz)
      clear hmz hB
      go_wp2
      go_ret
      exact ⟨by rw [HE.out]; rfl, HB.out⟩
end Go.Proofs.Ytfmgjkmlnaeagaa.RepC
