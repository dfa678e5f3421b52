/- FitNodes, in the program and in its model: contracts. -/
import Derived.Test.YtphklknaagjmpaaSqRows
namespace Go.Proofs.Ytphklknaagjmpaa.SpanC
open Go.RowKit KeptC RowC ValC
set_option linter.unusedSimpArgs false
set_option linter.unusedVariables false

def frB (n : Nat) (f : Nat → Int × Int) (a b : Int) : Bool := (List.range n).all fun i => !(decide ((f i).1 < b) && decide (a < (f i).2))
theorem frB_iff (n : Nat) (f : Nat → Int × Int) (a b : Int) : frB n f a b = true ↔ FreeP n f a b := by
  unfold frB FreeP
  simp only [List.all_eq_true, List.mem_range, Bool.not_eq_true', Bool.and_eq_false_iff, decide_eq_false_iff_not]
  constructor
  · intro h i hi hh
    rcases h i hi with h1 | h1
    · exact h1 hh.1
    · exact h1 hh.2
  · intro h i hi
    by_cases h1 : (f i).1 < b
    · exact .inr (fun h2 => h i hi ⟨h1, h2⟩)
    · exact .inl h1
def frs (N : Nat → Nat) (F : Nat → Nat → Int × Int) (a b : Int) (k : Nat) : List Nat := (List.range k).filter fun i => frB (N i) (F i) a b
theorem frs_yes {N : Nat → Nat} {F : Nat → Nat → Int × Int} {a b : Int} {k : Nat} (h : FreeP (N k) (F k) a b) : frs N F a b (k + 1) = frs N F a b k ++ [k] := by
  unfold frs
  rw [List.range_succ, List.filter_append]
  simp [(frB_iff _ _ _ _).2 h]
theorem frs_no {N : Nat → Nat} {F : Nat → Nat → Int × Int} {a b : Int} {k : Nat} (h : ¬ FreeP (N k) (F k) a b) : frs N F a b (k + 1) = frs N F a b k := by
  unfold frs
  rw [List.range_succ, List.filter_append]
  have : frB (N k) (F k) a b = false := by
    cases hh : frB (N k) (F k) a b with
    | false => rfl
    | true => exact absurd ((frB_iff _ _ _ _).1 hh) h
  simp [this]
theorem frs_len {N : Nat → Nat} {F : Nat → Nat → Int × Int} {a b : Int} (k : Nat) : (frs N F a b k).length ≤ k := by
  unfold frs
  have := List.length_filter_le (fun i => frB (N i) (F i) a b) (List.range k)
  simpa using this
theorem frs_pre {N : Nat → Nat} {F : Nat → Nat → Int × Int} {a b : Int} {k m : Nat} (h : k ≤ m) : ∃ r, frs N F a b m = frs N F a b k ++ r := by
  induction m with
  | zero => obtain rfl : k = 0 := by omega
            exact ⟨[], by simp⟩
  | succ m ih =>
    by_cases e : k = m + 1
    · subst e; exact ⟨[], by simp⟩
    · obtain ⟨r, hr⟩ := ih (by omega)
      by_cases hf : FreeP (N m) (F m) a b
      · exact ⟨r ++ [m], by rw [frs_yes hf, hr, List.append_assoc]⟩
      · exact ⟨r, by rw [frs_no hf, hr]⟩

def ic (L : List Nat) (j : Nat) : Value := .int .i64 (L.getD j 0 : Nat)
/-- a row of numbers that the call owns -/
def RowL (W : World) (lo : Nat) (A : Option Addr) (ln cap : Nat) (L : List Nat) : Prop := ln = L.length ∧ RowO W lo 2 1 (.slice A ln cap) ln (ic L)
theorem RowL.below {W W' : World} {lo ln cap : Nat} {A : Option Addr} {L : List Nat} (h : RowL W lo A ln cap L) (hb : Below W.heap.size W W') : RowL W' lo A ln cap L := ⟨h.1, h.2.below hb⟩
theorem infoI : ∃ i, Try.prog.info? 2 = some i ∧ i.zero = some (.int .i64 0) ∧ i.size = 1 ∧ i.bytes = 8 := by
  have h : (Try.prog.info? 2).map (fun i => (i.zero, i.size, i.bytes)) = some (some (.int .i64 0), 1, 8) := by kernel_rfl
  cases hx : Try.prog.info? 2 with
  | none => rw [hx] at h; simp at h
  | some i => rw [hx] at h; simp at h; exact ⟨i, rfl, h.1, h.2.1, h.2.2⟩
theorem app_i {W : World} {lo : Nat} {A : Option Addr} {ln cap : Nat} {L : List Nat} (h : RowL W lo A ln cap L) (hl : lo ≤ W.heap.size) (hn : ln ≤ 1048576) (x : Nat) (ty : TypeId) :
    ∃ A' cap' W', (Builtin.append_ #[37, 37] ty #[.slice A ln cap, .slice (some ⟨W.heap.size, 0, none⟩) 1 1]).run Try.prog (W.alloc (.cells #[.int .i64 x] 2)) = .ok (.slice A' (ln + 1) cap') W' ∧ RowL W' lo A' (ln + 1) cap' (L ++ [x]) ∧ Below lo W W' ∧ (∀ k, k < W.heap.size → some k ≠ (Value.slice A ln cap).ownBlock → W'.heap[k]? = W.heap[k]?) := by
  obtain ⟨i, hi, hz, hs, hb⟩ := infoI
  obtain ⟨e, h⟩ := h
  obtain ⟨v', W', h1, h2, h3, h4, h5⟩ := run_app (P := Try.prog) (W.alloc (.cells #[.int .i64 x] 2)) lo 37 ty 2 i _ 1 8 Try.underlying37 hi hz hs hb rfl (by omega) (.slice A ln cap) ln (ic L) (h.alloc _) W.heap.size 0 1 1 (fun _ => .int .i64 x)
    (fun j hj => by obtain rfl : j = 0 := by omega
                    simp) (fun j _ => rfl) (by unfold maxLen; omega) (by omega) (by simp; omega)
  obtain ⟨a', c', rfl⟩ : ∃ a' c', v' = .slice a' (ln + 1) c' := h2.isSlice
  refine ⟨a', c', W', h1, ⟨by simp [e], h2.congr (fun j hj => ?_)⟩, ((Below.refl lo W).alloc hl _).trans h3, fun k hk hne => (h4.block k (by simp; omega) hne).trans (Below.heap_alloc _ _ _ hk)⟩
  unfold ic
  by_cases hj2 : j < ln * 1
  · rw [if_pos hj2]
    simp only [List.getD, List.getElem?_append_left (show j < L.length by omega)]
  · obtain rfl : j = ln := by omega
    rw [if_neg hj2]
    subst e
    simp [List.getD]

theorem free1_impl (qa : Option Addr) (n qc : Nat) (f : Nat → Int × Int) (a b : Int) (x : Nat) (w : World) (hn : n ≤ 1048576) (h1 : PA w qa n f) (hS : SpR n f) (hab : a < b) (hx0 : w.cell? ⟨x, 0, none⟩ = some (.int .i64 a)) (hx1 : w.cell? ⟨x, 1, none⟩ = some (.int .i64 b)) :
    Calls Try.prog 47 #[.slice qa n qc, .pointer (some ⟨x, 0, none⟩)] w (ResB (FreeP n f a b) w) := by
  have H1 := Lib.hid h1
  clear h1
  go_enter Try.func47, Try.ntmps47
  go_wp2_with fail
  refine (fits_impl qa n qc f a b _ hn H1.out hS hab).mono ?_
  intro e w1 h
  obtain ⟨c, rfl, hc, hb⟩ := resB_elim h
  have HC := Lib.hid hc
  have HB := Lib.hid hb
  clear h hc hb
  go_wp2
  go_ret
  exact ⟨c, rfl, HC.out, HB.out⟩

def ResL (Q : List Nat → Prop) (w : World) (e : Ending) (w' : World) : Prop := ∃ A ln cap L, e = .returned (.slice A ln cap) ∧ Q L ∧ RowL w' w.heap.size A ln cap L ∧ Below w.heap.size w w'
theorem resL_elim {Q : List Nat → Prop} {w : World} {e : Ending} {w' : World} (h : ResL Q w e w') : ∃ A ln cap L, e = .returned (.slice A ln cap) ∧ Q L ∧ RowL w' w.heap.size A ln cap L ∧ Below w.heap.size w w' := h

set_option maxRecDepth 100000 in
set_option maxHeartbeats 1600000 in
theorem nodes_impl {qa : Option Addr} {qc m : Nat} {N : Nat → Nat} {F : Nat → Nat → Int × Int} {qA : Nat → Option Addr} {qC : Nat → Nat} {w : World} (a b : Int) (hm : m ≤ 6) (hN : ∀ i, i < m → N i ≤ 1048576) (h1 : RA w qa m N F qA qC) (hS : ∀ i, i < m → SpR (N i) (F i)) (hab : a < b) :
    Calls Try.prog 31 #[.slice qa m qc, .agg #[.int .i64 a, .int .i64 b]] w (ResL (fun L => L = frs N F a b m) w) := by
  have H1 := Lib.hid h1
  clear h1
  go_enter Try.func31, Try.ntmps31
  go_wp2
  go_loopw [12, 6] (fun i v wr => ∃ k : Nat, k ≤ m ∧ i = .int .i64 k ∧ (∃ A ln cap, v = .slice A ln cap ∧ RowL wr (w.heap.size + 1) A ln cap (frs N F a b k)) ∧ Below (w.heap.size + 1) (w.alloc (.cells #[.int .i64 a, .int .i64 b] 25)) wr ∧ Below w.heap.size w wr) (fun i _ _ => m - (intOf i).toNat)
  case atStart => exact ⟨0, Nat.zero_le _, rfl, ⟨none, 0, 0, rfl, rfl, RowO.nil _ _ _ _ _⟩, by simpa using Below.refl _ _, (Below.refl _ _).alloc (Nat.le_refl _) _⟩
  case round =>
    obtain ⟨k, hk, rfl, ⟨A, ln, cap, rfl, hL⟩, hb0, hb⟩ := hrel
    have HB0 := Lib.hid hb0
    have HB := Lib.hid hb
    have HL := Lib.hid hL
    have hln : ln ≤ 6 := by have := frs_len (N := N) (F := F) (a := a) (b := b) k; have := hL.1; omega
    have hsz := hb.size
    clear hL
    by_cases hlt : k < m
    · have HR := Lib.hid (H1.out.below hb)
      obtain ⟨g, o, rfl, hgl, hc0⟩ := HR.out.cell k hlt
      have ⟨hx0, hx1, hxl⟩ := box0 hb0
      have hi0 : (0 : Int) ≤ (k : Int) := Int.natCast_nonneg _
      have hi1 : (k : Int) < (m : Int) := by omega
      clear hb0 hb
      go_wp2_with fail
      refine (free1_impl (qA k) (N k) (qC k) (F k) a b w.heap.size _ (hN k hlt) (HR.out.row k hlt) (hS k hlt) hab hx0 hx1).mono ?_
      intro e w1 h
      obtain ⟨c, rfl, hq, hb⟩ := resB_elim h
      have HB2 := Lib.hid (HB.out.trans (hb.mono hsz))
      have HB02 := Lib.hid (HB0.out.trans (hb.mono hxl))
      have HL2 := Lib.hid (HL.out.below hb)
      have hs2 := HB2.out.size
      clear h hb hx0 hx1 hxl hc0
      cases c with
      | false =>
        have HE := Lib.hid (frs_no (N := N) (F := F) (k := k) (fun h => by have := hq.2 h; cases this))
        clear hq
        go_wp2
        go_roundw
        case rel => exact ⟨k + 1, by omega, by go_num, ⟨A, ln, cap, rfl, by rw [HE.out]; exact HL2.out⟩, HB02.out, HB2.out⟩
        case measure => simp [intOf]; omega
      | true =>
        have HE := Lib.hid (frs_yes (N := N) (F := F) (k := k) (hq.1 rfl))
        have hbx := (box0 HB02.out).2.2
        obtain ⟨A', cap', W', hr, hL', hb', hblk⟩ := app_i HL2.out hbx (by omega) k 37
        have HRun := Lib.hid hr
        have HL3 := Lib.hid hL'
        have HB3 := Lib.hid (HB2.out.trans (hb'.mono (Nat.le_succ _)))
        have HB03 := Lib.hid (HB02.out.trans hb')
        clear hq hr hL' hb' hblk
        go_wp2_with (at_builtin; refine wpList_app rfl (.tmp 20) (.tmp 22) 37 rfl rfl rfl HRun.out ?_)
        go_roundw
        case rel => exact ⟨k + 1, by omega, by go_num, ⟨A', ln + 1, cap', rfl, by rw [HE.out]; exact HL3.out⟩, HB03.out, HB3.out⟩
        case measure => simp [intOf]; omega
    · obtain rfl : k = m := by omega
      clear hb hb0
      go_wp2
      go_ret
      exact ⟨A, ln, cap, _, rfl, rfl, ⟨HL.out.1, HL.out.2.lower (Nat.le_succ _)⟩, HB.out⟩
end Go.Proofs.Ytphklknaagjmpaa.SpanC
