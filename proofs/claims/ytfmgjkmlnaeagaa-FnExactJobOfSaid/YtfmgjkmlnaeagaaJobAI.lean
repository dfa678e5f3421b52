/- Ahead of the program: a contract. -/
import Derived.Test.YtfmgjkmlnaeagaaJobA
import Derived.Test.YtfmgjkmlnaeagaaJobI
import Derived.StillTailTactics
namespace Go.Proofs.Ytfmgjkmlnaeagaa.RepC
open Go.RowKit RowC ValC SpanC KeptC
set_option linter.unusedVariables false
set_option linter.unusedSimpArgs false

def cmpV (x y : Int) : Int := if x < y then -1 else if y < x then 1 else 0
theorem nan_impl (x : Int) (W : World) : Calls Try.prog 55 #[.int .i64 x] W fun e w' => e = .returned (.bool false) ∧ W = w' := by
  have h : (x != x) = false := by simp
  go_enter Try.func55, Try.ntmps55
  go_wp2
  go_ret
  exact ⟨rfl, rfl⟩
theorem cmp_impl (x y : Int) (W : World) : Calls Try.prog 52 #[.int .i64 x, .int .i64 y] W fun e w' => e = .returned (.int .i64 (cmpV x y)) ∧ W = w' := by
  unfold cmpV
  by_cases h1 : x < y
  · have h1' : decide (x < y) = true := decide_eq_true h1
    have hv : (if x < y then -1 else if y < x then 1 else 0 : Int) = -1 := if_pos h1
    rw [hv]
    clear hv h1
    go_enter Try.func52, Try.ntmps52
    go_wp2_with (go_at_call 55; refine (nan_impl _ _).mono ?_; rintro e w' ⟨rfl, rfl⟩)
    go_ret
    exact ⟨rfl, rfl⟩
  · have h1' : decide (x < y) = false := decide_eq_false h1
    by_cases h2 : y < x
    · have h2' : decide (y < x) = true := decide_eq_true h2
      have hv : (if x < y then -1 else if y < x then 1 else 0 : Int) = 1 := by rw [if_neg h1, if_pos h2]
      rw [hv]
      clear hv h1 h2
      go_enter Try.func52, Try.ntmps52
      go_wp2_with (go_at_call 55; refine (nan_impl _ _).mono ?_; rintro e w' ⟨rfl, rfl⟩)
      go_ret
      exact ⟨rfl, rfl⟩
    · have h2' : decide (y < x) = false := decide_eq_false h2
      have hv : (if x < y then -1 else if y < x then 1 else 0 : Int) = 0 := by rw [if_neg h1, if_neg h2]
      rw [hv]
      clear hv h1 h2
      go_enter Try.func52, Try.ntmps52
      go_wp2_with (go_at_call 55; refine (nan_impl _ _).mono ?_; rintro e w' ⟨rfl, rfl⟩)
      go_ret
      exact ⟨rfl, rfl⟩

/-- the first that is not nought -/
def orL : List Int → Int
  | [] => 0
  | x :: xs => if x = 0 then orL xs else x
theorem orL_zero {L : List Int} {k : Nat} {x : Int} (hx : L[k]? = some x) (h0 : x = 0) : orL (L.drop k) = orL (L.drop (k + 1)) := by
  obtain ⟨hk, e⟩ := List.getElem?_eq_some_iff.1 hx
  rw [List.drop_eq_getElem_cons hk, e]
  simp [orL, h0]
theorem orL_hit {L : List Int} {k : Nat} {x : Int} (hx : L[k]? = some x) (h0 : x ≠ 0) : orL (L.drop k) = x := by
  obtain ⟨hk, e⟩ := List.getElem?_eq_some_iff.1 hx
  rw [List.drop_eq_getElem_cons hk, e]
  simp [orL, h0]
def IsI (n : Int) (w : World) (e : Ending) (w' : World) : Prop := e = .returned (.int .i64 n) ∧ Below w.heap.size w w'
theorem isI_elim {n : Int} {w : World} {e : Ending} {w' : World} (h : IsI n w e w') : e = .returned (.int .i64 n) ∧ Below w.heap.size w w' := h

set_option maxRecDepth 100000 in
set_option maxHeartbeats 3200000 in
theorem or_impl {L : List Int} {a : Option Addr} {cap : Nat} {W : World} (h : RdSl I W W.heap.size L a cap) :
    Calls Try.prog 50 #[.slice a L.length cap] W (IsI (orL L) W) := by
  have hn : L.length ≤ 9223372036854775807 := by have h1 := h.1; have h2 := h.2.1; unfold maxLen at h2; omega
  have H := Lib.hid h
  clear h
  go_enter Try.func50, Try.ntmps50
  go_wp2
  go_loopw [8] (fun i wr => ∃ k : Nat, k ≤ L.length ∧ i = .int .i64 k ∧ Hid (orL L = orL (L.drop k)) ∧ Below W.heap.size W wr) (fun i _ => L.length - (intOf i).toNat)
  case atStart => exact ⟨0, Nat.zero_le _, rfl, Lib.hid (by simp), Below.refl _ _⟩
  case round =>
    obtain ⟨k, hk, rfl, HA, hB⟩ := hrel
    have HB := Lib.hid hB
    have hsz := hB.size
    by_cases hlt : k < L.length
    · obtain ⟨x, hx⟩ := el_some hlt
      have HX := Lib.hid hx
      obtain ⟨g, o, us, rfl, hg, hu, hr⟩ := (H.out.below I_ok hB).at_ hx
      obtain rfl : us = [_] := hr
      have hc0 : wr.cell? ⟨g, o + k, none⟩ = some (.int .i64 x) := by simpa [show I.size = 1 from rfl] using hu 0 _ rfl
      have hi0 : (0 : Int) ≤ (k : Int) := Int.natCast_nonneg _
      have hi1 : (k : Int) < (L.length : Int) := by omega
      clear hB hx hu
      by_cases hz : x = 0
      · have hz' : (x != 0) = false := by simp [hz]
        have HN := Lib.hid (HA.out.trans (orL_zero HX.out hz))
        clear hz
        go_wp2
        go_roundw
        case rel => exact ⟨k + 1, by omega, by go_num, HN, HB.out⟩
        case measure => simp [intOf]; omega
      · have hz' : (x != 0) = true := bne_iff_ne.2 hz
        have HN := Lib.hid (HA.out.trans (orL_hit HX.out hz))
        clear hz
        go_wp2
        go_ret
        exact ⟨by rw [HN.out]; rfl, HB.out⟩
    · have HN := Lib.hid (show orL L = 0 from by rw [HA.out, List.drop_eq_nil_of_le (by omega)]; rfl)
      clear hB
      go_wp2
      go_ret
      exact ⟨by rw [HN.out]; rfl, HB.out⟩

end Go.Proofs.Ytfmgjkmlnaeagaa.RepC
