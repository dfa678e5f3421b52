/- Slices of pairs of integers (spans): conversion, comparison: contracts. -/
import Derived.Test.YtfciojkibklkfaaSp
import Derived.Laws.MakeOwn
import Derived.Laws.Entries
namespace Go.Proofs.Ytfciojkibklkfaa.SpanC
open Go.RowKit KeptC

theorem infoL : (Try.prog.info? 25).map (fun i => (i.zero, i.size, i.bytes)) = some (some (.agg #[.int .i64 0, .int .i64 0]), 2, 16) := by kernel_rfl
def zeros (n : Nat) : Array Value := madeCells #[.int .i64 0, .int .i64 0] (n * 2)
theorem make_any (n : Nat) (hn : n ≤ 1048576) : ∀ W : World, (Instr.makeSlice 39 (.int .i64 (n : Int)) (.int .i64 (n : Int))).run Try.prog W = .ok (.slice (some ⟨W.heap.size, 0, none⟩) n n) (W.alloc (.cells (zeros n) 25)) := by
  intro W
  obtain ⟨i, hi, hz, hs, hb⟩ : ∃ i, Try.prog.info? 25 = some i ∧ i.zero = some (.agg #[.int .i64 0, .int .i64 0]) ∧ i.size = 2 ∧ i.bytes = 16 := by
    have h := infoL
    cases hx : Try.prog.info? 25 with
    | none => rw [hx] at h; simp at h
    | some i => rw [hx] at h; simp at h; exact ⟨i, rfl, h.1, h.2.1, h.2.2⟩
  have hr := run_make (P := Try.prog) W 39 25 i _ Try.underlying39 hi hz .i64 .i64 n n (by omega) (by omega) (by rw [hb]; omega) (by omega)
  rw [hs] at hr
  simp only [Int.toNat_natCast] at hr
  exact hr

/-- a row of n pairs that is being filled: the first k are as f says -/
structure Fill (w : World) (n : Nat) (f : Nat → Int × Int) (k : Nat) (W : World) : Prop where
  cells : ∀ j, j < n → ∃ u v, W.cell? ⟨w.heap.size, j * 2, none⟩ = some u ∧ W.cell? ⟨w.heap.size, j * 2 + 1, none⟩ = some v ∧ (j < k → u = .int .i64 (f j).1 ∧ v = .int .i64 (f j).2)
  soft : ∀ j, W.frozen? ⟨w.heap.size, j, none⟩ = false
  below : Below w.heap.size w W
  lt : w.heap.size < W.heap.size
theorem Fill.call {w W W1 : World} {n k : Nat} {f : Nat → Int × Int} (h : Fill w n f k W) (hb : Below W.heap.size W W1) : Fill w n f k W1 := by
  refine ⟨fun j hj => ?_, fun j => (hb.frozen (p := ⟨w.heap.size, j, none⟩) h.lt).trans (h.soft j), h.below.trans (hb.mono (Nat.le_of_lt h.lt)), Nat.lt_of_lt_of_le h.lt hb.size⟩
  obtain ⟨u, v, hu, hv, hk⟩ := h.cells j hj
  exact ⟨u, v, (hb.cell (p := ⟨w.heap.size, j * 2, none⟩) h.lt).trans hu, (hb.cell (p := ⟨w.heap.size, j * 2 + 1, none⟩) h.lt).trans hv, hk⟩
theorem Fill.put {w W : World} {n k : Nat} {f : Nat → Int × Int} (h : Fill w n f k W) (hk : k < n) :
    Fill w n f (k + 1) ((W.setCell ⟨w.heap.size, k * 2, none⟩ (.int .i64 (f k).1)).setCell ⟨w.heap.size, k * 2 + 1, none⟩ (.int .i64 (f k).2)) := by
  have ne : ∀ a b : Nat, a ≠ b → (⟨w.heap.size, a, none⟩ : Addr) ≠ ⟨w.heap.size, b, none⟩ := fun a b hab e => hab (by injection e)
  obtain ⟨u0, v0, hu0, hv0, _⟩ := h.cells k hk
  refine ⟨fun j hj => ?_, fun j => by simpa using h.soft j, (h.below.setCell (Nat.le_refl _) _).setCell (Nat.le_refl _) _, by simpa using h.lt⟩
  by_cases e : j = k
  · subst e
    refine ⟨.int .i64 (f j).1, .int .i64 (f j).2, ?_, ?_, fun _ => ⟨rfl, rfl⟩⟩
    · rw [World.cell?_setCell_other _ _ _ _ (ne _ _ (by omega)), World.cell?_setCell_same' _ _ _ (by rw [hu0]; rfl)]
    · rw [World.cell?_setCell_same' _ _ _ (by rw [World.cell?_setCell_other _ _ _ _ (ne _ _ (by omega)), hv0]; rfl)]
  · obtain ⟨u, v, hu, hv, hlt⟩ := h.cells j hj
    refine ⟨u, v, ?_, ?_, fun hj' => hlt (by omega)⟩
    · rw [World.cell?_setCell_other _ _ _ _ (ne _ _ (by omega)), World.cell?_setCell_other _ _ _ _ (ne _ _ (by omega))]; exact hu
    · rw [World.cell?_setCell_other _ _ _ _ (ne _ _ (by omega)), World.cell?_setCell_other _ _ _ _ (ne _ _ (by omega))]; exact hv
theorem zeros_size (n : Nat) : (zeros n).size = n * 2 := by unfold zeros; simp [madeCells]
theorem Fill.new (w : World) (n : Nat) (f : Nat → Int × Int) : Fill w n f 0 (w.alloc (.cells (zeros n) 25)) := by
  refine ⟨fun j hj => ?_, fun j => by simp, (Below.refl _ _).alloc (Nat.le_refl _) _, by simp⟩
  have hz := zeros_size n
  refine ⟨(zeros n)[j * 2]'(by omega), (zeros n)[j * 2 + 1]'(by omega), ?_, ?_, fun h => absurd h (Nat.not_lt_zero _)⟩
  · simp [World.cell?_alloc_new, show j * 2 < (zeros n).size by omega]
  · simp [World.cell?_alloc_new, show j * 2 + 1 < (zeros n).size by omega]

/-- n pairs from ⟨b, o⟩ on -/
def PRow (w : World) (b o n : Nat) (f : Nat → Int × Int) : Prop := ∀ i, i < n → w.cell? ⟨b, o + i * 2, none⟩ = some (.int .i64 (f i).1) ∧ w.cell? ⟨b, o + i * 2 + 1, none⟩ = some (.int .i64 (f i).2)
theorem PRow.below {w W : World} {b o n B : Nat} {f : Nat → Int × Int} (h : PRow w b o n f) (hb : Below B w W) (hB : b < B) : PRow W b o n f := fun i hi =>
  ⟨(hb.cell (p := ⟨b, o + i * 2, none⟩) hB).trans (h i hi).1, (hb.cell (p := ⟨b, o + i * 2 + 1, none⟩) hB).trans (h i hi).2⟩
theorem Fill.row {w W : World} {n : Nat} {f : Nat → Int × Int} (h : Fill w n f n W) : PRow W w.heap.size 0 n f := fun i hi => by
  obtain ⟨u, v, hu, hv, he⟩ := h.cells i hi
  obtain ⟨rfl, rfl⟩ := he hi
  exact ⟨by simpa using hu, by simpa using hv⟩

def MadeRow (w : World) (n : Nat) (f : Nat → Int × Int) (e : Ending) (w' : World) : Prop := e = .returned (.slice (some ⟨w.heap.size, 0, none⟩) n n) ∧ Fill w n f n w'
set_option maxHeartbeats 800000 in
theorem toS_some (b o n cap : Nat) (f : Nat → Int × Int) (w : World) (hn : n ≤ 1048576) (hc : PRow w b o n f) (hbl : b < w.heap.size) (hcap : n ≤ cap) :
    Calls Try.prog 93 #[.slice (some ⟨b, o, none⟩) n cap] w (MadeRow w n f) := by
  have hmk := make_any n hn
  have HC := Lib.hid hc
  clear hc
  go_enter Try.func93, Try.ntmps93
  go_wp2
  go_loopw [4] (fun i wr => ∃ k : Nat, k ≤ n ∧ i = .int .i64 k ∧ Fill w n f k wr) (fun i _ => n - (intOf i).toNat)
  case atStart => exact ⟨0, Nat.zero_le _, rfl, Fill.new _ _ _⟩
  case round =>
    obtain ⟨k, hk, rfl, hF⟩ := hrel
    by_cases hlt : k < n
    · have ⟨hc0, hc1⟩ := (HC.out.below hF.below hbl) k hlt
      have HF := Lib.hid hF
      clear hF hmk
      go_wp2_with (go_at_call 37; refine (to_w _ _ _).mono ?_; rintro e w1 ⟨rfl, hb⟩; have HF2 := Lib.hid (HF.out.call hb); obtain ⟨u, v, hu, hv, _⟩ := HF2.out.cells k hlt; have hs0 := HF2.out.soft (k * 2); have hs1 := HF2.out.soft (k * 2 + 1); clear hb)
      go_roundw
      case rel => exact ⟨k + 1, by omega, by go_num, HF2.out.put hlt⟩
      case measure => simp [intOf]; omega
    · obtain rfl : k = n := by omega
      have HF := Lib.hid hF
      clear hF hmk
      go_wp2
      go_ret
      exact ⟨rfl, HF.out⟩
set_option maxHeartbeats 800000 in
theorem toS_zero (a : Option Addr) (cap : Nat) (f : Nat → Int × Int) (w : World) :
    Calls Try.prog 93 #[.slice a 0 cap] w (MadeRow w 0 f) := by
  have hmk : ∀ W : World, (Instr.makeSlice 39 (.int .i64 0) (.int .i64 0)).run Try.prog W = .ok (.slice (some ⟨W.heap.size, 0, none⟩) 0 0) (W.alloc (.cells (zeros 0) 25)) := make_any 0 (by omega)
  go_enter Try.func93, Try.ntmps93
  go_wp2
  go_loopw [4] (fun i wr => i = .int .i64 0 ∧ Fill w 0 f 0 wr) (fun i _ => 0)
  case atStart => exact ⟨rfl, Fill.new _ _ _⟩
  case round =>
    obtain ⟨rfl, hF⟩ := hrel
    have HF := Lib.hid hF
    clear hF hmk
    go_wp2
    go_ret
    exact ⟨rfl, HF.out⟩

theorem PRow.at0 {w : World} {b n : Nat} {f : Nat → Int × Int} (h : PRow w b 0 n f) {i : Nat} (hi : i < n) : w.cell? ⟨b, i * 2, none⟩ = some (.int .i64 (f i).1) ∧ w.cell? ⟨b, i * 2 + 1, none⟩ = some (.int .i64 (f i).2) := by
  have := h i hi
  simpa using this

set_option maxHeartbeats 1600000 in
theorem eqS (g g' n : Nat) (f : Nat → Int × Int) (w : World) (hn : n ≤ 1048576) (h1 : PRow w g 0 n f) (h2 : PRow w g' 0 n f) (l1 : g < w.heap.size) (l2 : g' < w.heap.size) :
    Calls Try.prog 85 #[.slice (some ⟨g, 0, none⟩) n n, .slice (some ⟨g', 0, none⟩) n n] w fun e w' => e = .returned (.bool true) ∧ Below w.heap.size w w' := by
  have H1 := Lib.hid h1
  have H2 := Lib.hid h2
  clear h1 h2
  go_enter Try.func85, Try.ntmps85
  go_wp2
  go_loopw [5] (fun i wr => ∃ k : Nat, k ≤ n ∧ i = .int .i64 k ∧ Below w.heap.size w wr) (fun i _ => n - (intOf i).toNat)
  case atStart => exact ⟨0, Nat.zero_le _, rfl, Below.refl _ _⟩
  case round =>
    obtain ⟨k, hk, rfl, hb⟩ := hrel
    by_cases hlt : k < n
    · have ⟨hc0, hc1⟩ := (H1.out.below hb l1).at0 hlt
      have ⟨hd0, hd1⟩ := (H2.out.below hb l2).at0 hlt
      have HB := Lib.hid hb
      have hsz := hb.size
      have hi0 : (0 : Int) ≤ (k : Int) := Int.natCast_nonneg _
      have hi1 : (k : Int) < (n : Int) := by omega
      clear hb
      go_wp2_with fail
      go_region_held3 (fun W => W.cell? ⟨g, k * 2, none⟩ = some (.int .i64 (f k).1) ∧ W.cell? ⟨g, k * 2 + 1, none⟩ = some (.int .i64 (f k).2) ∧ W.cell? ⟨g', k * 2, none⟩ = some (.int .i64 (f k).1) ∧ W.cell? ⟨g', k * 2 + 1, none⟩ = some (.int .i64 (f k).2) ∧ Below w.heap.size w W)
        (first | exact ⟨(hb.cell (p := ⟨g, k * 2, none⟩) (Nat.lt_of_lt_of_le l1 hsz)).trans hc0, (hb.cell (p := ⟨g, k * 2 + 1, none⟩) (Nat.lt_of_lt_of_le l1 hsz)).trans hc1, (hb.cell (p := ⟨g', k * 2, none⟩) (Nat.lt_of_lt_of_le l2 hsz)).trans hd0, (hb.cell (p := ⟨g', k * 2 + 1, none⟩) (Nat.lt_of_lt_of_le l2 hsz)).trans hd1, HB.out.drew.trans (hb.mono hsz)⟩ | exact ⟨hc0, hc1, hd0, hd1, HB.out.drew⟩)
        (first | (go_at_call 94; refine (eq_sp _ _ _).mono ?_; rintro e w1 ⟨rfl, hb⟩))
      all_goals
        have HB2 := Lib.hid (HB.out.drew.trans (hb.mono hsz))
        clear hb
        go_wp2
        go_roundw
        case rel => exact ⟨k + 1, by omega, by go_num, HB2.out⟩
        case measure => simp [intOf]; omega
    · go_wp2
      go_ret
      exact ⟨rfl, hb⟩
theorem szS (a : Option Addr) (n cap : Nat) (w : World) (hn : n ≤ 9223372036854775807) :
    Calls Try.prog 92 #[.slice a n cap, .int .i64 1048576] w fun e w' => e = .returned (.int .i64 (if n ≤ 1048576 then 1048576 - n else -1)) ∧ w = w' := by
  by_cases h : n ≤ 1048576
  · rw [if_pos h]
    go_enter Try.func92, Try.ntmps92
    go_wp2
    go_ret
    exact ⟨rfl, rfl⟩
  · rw [if_neg h]
    go_enter Try.func92, Try.ntmps92
    go_wp2
    go_ret
    exact ⟨rfl, rfl⟩
end Go.Proofs.Ytfciojkibklkfaa.SpanC
