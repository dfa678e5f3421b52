/- Rows: validity; which of them are free: contracts. -/
import Derived.Test.YtphklknaagjmpaaSqFree2
import Derived.Test.YtphklknaagjmpaaRowO
import Derived.Test.YtphklknaagjmpaaVals
namespace Go.Proofs.Ytphklknaagjmpaa.SpanC
open Go.RowKit KeptC RowC ValC
set_option linter.unusedSimpArgs false
set_option linter.unusedVariables false

def RowsP (m : Nat) (N : Nat → Nat) (F : Nat → Nat → Int × Int) : Prop := m ≤ 6 ∧ ∀ i, i < m → SpR (N i) (F i)

/-- m rows: row k is the slice (qA k, N k, qC k) -/
structure RA (W : World) (qa : Option Addr) (m : Nat) (N : Nat → Nat) (F : Nat → Nat → Int × Int) (qA : Nat → Option Addr) (qC : Nat → Nat) : Prop where
  cell : ∀ k, k < m → ∃ g o, qa = some ⟨g, o, none⟩ ∧ g < W.heap.size ∧ W.cell? ⟨g, o + k, none⟩ = some (.slice (qA k) (N k) (qC k))
  row : ∀ k, k < m → PA W (qA k) (N k) (F k)
theorem RA.below {W W' : World} {qa : Option Addr} {m : Nat} {N : Nat → Nat} {F : Nat → Nat → Int × Int} {qA : Nat → Option Addr} {qC : Nat → Nat} (h : RA W qa m N F qA qC) (hb : Below W.heap.size W W') : RA W' qa m N F qA qC :=
  ⟨fun k hk => by obtain ⟨g, o, e, hg, hc⟩ := h.cell k hk; exact ⟨g, o, e, Nat.lt_of_lt_of_le hg hb.size, (hb.cell (p := ⟨g, _, none⟩) hg).trans hc⟩, fun k hk => (h.row k hk).bel hb⟩
set_option maxHeartbeats 1600000 in
theorem rows_impl {qa : Option Addr} {qc m : Nat} {N : Nat → Nat} {F : Nat → Nat → Int × Int} {qA : Nat → Option Addr} {qC : Nat → Nat} {w : World} (hm : m ≤ 1048576) (hN : ∀ i, i < m → N i ≤ 1048576) (h1 : RA w qa m N F qA qC) :
    Calls Try.prog 27 #[.slice qa m qc] w (ResB (RowsP m N F) w) := by
  have H1 := Lib.hid h1
  clear h1
  by_cases h6 : m ≤ 6
  · have hd : decide ((6 : Int) < (m : Int)) = false := decide_eq_false (by omega)
    go_enter Try.func27, Try.ntmps27
    go_wp2
    go_loopw [10] (fun i wr => ∃ k : Nat, k ≤ m ∧ i = .int .i64 k ∧ (∀ j, j < k → SpR (N j) (F j)) ∧ Below w.heap.size w wr) (fun i _ => m - (intOf i).toNat)
    case atStart => exact ⟨0, Nat.zero_le _, rfl, fun j h => absurd h (Nat.not_lt_zero _), Below.refl _ _⟩
    case round =>
      obtain ⟨k, hk, rfl, hall, hb⟩ := hrel
      have HA := Lib.hid hall
      have HB := Lib.hid hb
      have hsz := hb.size
      clear hall
      by_cases hlt : k < m
      · have HR := Lib.hid (H1.out.below hb)
        obtain ⟨g, o, rfl, hgl, hc0⟩ := HR.out.cell k hlt
        have hi0 : (0 : Int) ≤ (k : Int) := Int.natCast_nonneg _
        have hi1 : (k : Int) < (m : Int) := by omega
        clear hb
        go_wp2_with fail
        refine (spans_impl (qA k) (N k) (qC k) (F k) _ (hN k hlt) (HR.out.row k hlt)).mono ?_
        intro e w1 h
        obtain ⟨b, rfl, hq, hb⟩ := resB_elim h
        have HB2 := Lib.hid (HB.out.trans (hb.mono hsz))
        clear h hb
        cases b with
        | false =>
          have HN := Lib.hid (show ¬ RowsP m N F from fun h => by have := hq.2 (h.2 k hlt); cases this)
          clear hq
          go_wp2
          go_ret
          exact resB_no HN.out HB2.out
        | true =>
          have HOK := Lib.hid (all_step (P := fun j => SpR (N j) (F j)) HA.out (hq.1 rfl))
          clear hq
          go_wp2
          go_roundw
          case rel => exact ⟨k + 1, by omega, by go_num, HOK.out, HB2.out⟩
          case measure => simp [intOf]; omega
      · have HY := Lib.hid (show RowsP m N F from ⟨h6, fun i hi => HA.out i (by omega)⟩)
        clear hb
        go_wp2
        go_ret
        exact resB_yes HY.out HB.out
  · have hd : decide ((6 : Int) < (m : Int)) = true := decide_eq_true (by omega)
    have HN := Lib.hid (show ¬ RowsP m N F from fun h => h6 h.1)
    go_enter Try.func27, Try.ntmps27
    go_wp2
    go_ret
    exact resB_no HN.out (Below.refl _ _)

set_option maxHeartbeats 1600000 in
theorem rows_spec {qa : Option Addr} {qc m : Nat} {N : Nat → Nat} {F : Nat → Nat → Int × Int} {qA : Nat → Option Addr} {qC : Nat → Nat} {w : World} (hm : m ≤ 1048576) (hN : ∀ i, i < m → N i ≤ 1048576) (h1 : RA w qa m N F qA qC) :
    Calls Try.prog 35 #[.slice qa m qc] w (ResB (RowsP m N F) w) := by
  have H1 := Lib.hid h1
  clear h1
  go_enter Try.func35, Try.ntmps35
  go_wp2
  go_loopw [3] (fun i wr => ∃ k : Nat, k ≤ m ∧ k ≤ 7 ∧ i = .int .i64 k ∧ (∀ j, j < k → SpR (N j) (F j)) ∧ Below w.heap.size w wr) (fun i _ => m - (intOf i).toNat)
  case atStart => exact ⟨0, Nat.zero_le _, by omega, rfl, fun j h => absurd h (Nat.not_lt_zero _), Below.refl _ _⟩
  case round =>
    obtain ⟨k, hk, hk7, rfl, hall, hb⟩ := hrel
    have HA := Lib.hid hall
    have HB := Lib.hid hb
    have hsz := hb.size
    clear hall
    by_cases hlt : k < m
    · by_cases h6 : k ≤ 6
      · have HR := Lib.hid (H1.out.below hb)
        obtain ⟨g, o, rfl, hgl, hc0⟩ := HR.out.cell k hlt
        have hi0 : (0 : Int) ≤ (k : Int) := Int.natCast_nonneg _
        have hi1 : (k : Int) < (m : Int) := by omega
        clear hb
        go_wp2_with fail
        refine (spansA_spec (qA k) (N k) (qC k) (F k) _ (hN k hlt) (HR.out.row k hlt)).mono ?_
        intro e w1 h
        obtain ⟨b, rfl, hq, hb⟩ := resB_elim h
        have HB2 := Lib.hid (HB.out.trans (hb.mono hsz))
        clear h hb
        cases b with
        | false =>
          have HN := Lib.hid (show ¬ RowsP m N F from fun h => by have := hq.2 (h.2 k hlt); cases this)
          clear hq
          go_wp2
          go_ret
          exact resB_no HN.out HB2.out
        | true =>
          have HOK := Lib.hid (all_step (P := fun j => SpR (N j) (F j)) HA.out (hq.1 rfl))
          clear hq
          go_wp2
          go_roundw
          case rel => exact ⟨k + 1, by omega, by omega, by go_num, HOK.out, HB2.out⟩
          case measure => simp [intOf]; omega
      · have HN := Lib.hid (show ¬ RowsP m N F from fun h => by have := h.1; omega)
        have hdk : decide ((k : Int) ≤ 6) = false := decide_eq_false (by omega)
        have hdm : decide ((m : Int) ≤ 6) = false := decide_eq_false (by omega)
        clear hb
        go_wp2
        go_ret
        exact resB_no HN.out HB.out
    · clear hb
      by_cases h6 : m ≤ 6
      · have HY := Lib.hid (show RowsP m N F from ⟨h6, fun i hi => HA.out i (by omega)⟩)
        have hdm : decide ((m : Int) ≤ 6) = true := decide_eq_true (by omega)
        go_wp2
        go_ret
        exact resB_yes HY.out HB.out
      · have HN := Lib.hid (show ¬ RowsP m N F from fun h => h6 h.1)
        have hdm : decide ((m : Int) ≤ 6) = false := decide_eq_false (by omega)
        go_wp2
        go_ret
        exact resB_no HN.out HB.out
end Go.Proofs.Ytphklknaagjmpaa.SpanC
