/- Strings as data; the mark k as a text. -/
import Derived.Test.YtdedomfocljhaaaGreatDoorRep3
namespace Go.Proofs.YtdedomfocljhaaaGreatDoor.RepC
open Go.RowKit RowC ValC
set_option linter.unusedVariables false

def mtl (k : Nat) (out : ByteArray) : ByteArray := if h : k = 0 then out else mtl (k / 10) (⟨#[48 + UInt8.ofNat (k % 10)]⟩ ++ out)
termination_by k
decreasing_by omega
theorem mtl_zero (out : ByteArray) : mtl 0 out = out := by unfold mtl; simp
theorem mtl_pos {k : Nat} (h : 0 < k) (out : ByteArray) : mtl k out = mtl (k / 10) (⟨#[48 + UInt8.ofNat (k % 10)]⟩ ++ out) := by
  rw [mtl]; rw [dif_neg (by omega)]
/-- the mark k -/
def mtI (k : Int) : ByteArray := if k ≤ 0 then ⟨#[109, 48]⟩ else ⟨#[109]⟩ ++ mtl k.toNat ⟨#[]⟩
/-- a string: one cell, its size what it holds -/
def St : Rp ByteArray where
  size := 1
  rd _ _ d cs := cs = [.string d] ∧ d.size ≤ maxLen
  ow _ _ d cs := cs = [.string d] ∧ d.size ≤ maxLen
  mm d k k' := d = mtI k ∧ k' = k + 1
  mv _ k k' := k' = k
  cm _ := 1
  cv _ := 0
  sz d := d.size
theorem St_ok : Ok St where
  rd_len h := by rw [h.1]; rfl
  ow_len h := by rw [h.1]; rfl
  rd_below h _ := h
  rd_more h _ := h
  ow_keep h _ := h
  ow_more h _ := h
  ow_rd h _ := h
  one h u hu := by rw [h.1] at hu; simp at hu; subst hu; rfl
theorem St_mn : Mn St := fun x k k' h => by have := h.2; omega
end Go.Proofs.YtdedomfocljhaaaGreatDoor.RepC
