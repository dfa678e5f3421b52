/- The rough reading of a label's text: the bit of a letter, a range over a string behind stores: contracts. -/
import Derived.Test.YtdimpopkkjpddaaDoorTextLaw
import Derived.Laws.RangeAny
import Derived.Laws.Runes
namespace Go.Proofs.YtdimpopkkjpddaaDoor.LabC
open Go.RowKit KeptC

def bitV (r : Int) : Int := if r = 97 then 1 else if r = 98 then 2 else if r = 99 then 4 else 0
theorem bit_a {r : Int} (h : r = 97) : bitV r = 1 := by simp [bitV, h]
theorem bit_b {r : Int} (h : r = 98) : bitV r = 2 := by simp [bitV, h]
theorem bit_c {r : Int} (h : r = 99) : bitV r = 4 := by simp [bitV, h]
theorem bit_n {r : Int} (h1 : ¬ r = 97) (h2 : ¬ r = 98) (h3 : ¬ r = 99) : bitV r = 0 := by simp [bitV, h1, h2, h3]
set_option maxHeartbeats 800000 in
theorem bit_any (r : Int) (w : World) (hD : Door w) :
    Calls Tryd.prog 96 #[.int .i32 r] w fun e w' => e = .returned (.int .i64 (bitV r)) ∧ w = w' := by
  have c0 := hD.c0
  have c1 := hD.c1
  have c2 := hD.c2
  clear hD
  go_enter Tryd.func96, Tryd.ntmps96
  go_wp2
  go_loop [6] (fun i => ∃ k : Nat, k ≤ 3 ∧ i = .int .i64 k ∧ (0 < k → ¬ r = 97) ∧ (1 < k → ¬ r = 98) ∧ (2 < k → ¬ r = 99)) (fun i => 3 - (intOf i).toNat)
  case atStart => exact ⟨0, by omega, rfl, by omega, by omega, by omega⟩
  case round =>
    obtain ⟨k, hk, rfl, n0, n1, n2⟩ := hrel
    have N0 := Lib.hid n0
    have N1 := Lib.hid n1
    have N2 := Lib.hid n2
    clear n0 n1 n2
    obtain rfl | rfl | rfl | rfl : k = 0 ∨ k = 1 ∨ k = 2 ∨ k = 3 := by omega
    · have hi := idx0
      by_cases hr : r = 97
      · have hv := Lib.hid (bit_a hr)
        have ht : (r == 97) = true := by simp [hr]
        clear hr
        go_wp2
        go_ret
        exact ⟨by rw [hv.out]; rfl, rfl⟩
      · have hv := Lib.hid hr
        have ht : (r == 97) = false := by simp [hr]
        clear hr
        go_wp2
        go_round
        case rel => exact ⟨1, by omega, rfl, fun _ => hv.out, by omega, by omega⟩
        case measure => simp [intOf]
    · have hi := idx1
      by_cases hr : r = 98
      · have hv := Lib.hid (bit_b hr)
        have ht : (r == 98) = true := by simp [hr]
        clear hr
        go_wp2
        go_ret
        exact ⟨by rw [hv.out]; rfl, rfl⟩
      · have hv := Lib.hid hr
        have ht : (r == 98) = false := by simp [hr]
        clear hr
        go_wp2
        go_round
        case rel => exact ⟨2, by omega, rfl, fun _ => N0.out (by omega), fun _ => hv.out, by omega⟩
        case measure => simp [intOf]
    · have hi := idx2
      by_cases hr : r = 99
      · have hv := Lib.hid (bit_c hr)
        have ht : (r == 99) = true := by simp [hr]
        clear hr
        go_wp2
        go_ret
        exact ⟨by rw [hv.out]; rfl, rfl⟩
      · have hv := Lib.hid hr
        have ht : (r == 99) = false := by simp [hr]
        clear hr
        go_wp2
        go_round
        case rel => exact ⟨3, by omega, rfl, fun _ => N0.out (by omega), fun _ => N1.out (by omega), fun _ => hv.out⟩
        case measure => simp [intOf]
    · have hv := Lib.hid (bit_n (N0.out (by omega)) (N1.out (by omega)) (N2.out (by omega)))
      go_wp2
      go_ret
      exact ⟨by rw [hv.out]; rfl, rfl⟩

/-- a store below the iterator and the iterator's own block change places -/
theorem iter_set {W : World} {s : ByteArray} {pos b o : Nat} {v : Value} (hb : b < W.heap.size) : (W.iter s pos).setCell ⟨b, o, none⟩ v = (W.setCell ⟨b, o, none⟩ v).iter s pos := by
  simp only [World.iter, World.alloc, World.setCell]
  congr 1
  apply Array.ext_getElem?
  intro i
  simp only [Array.getElem?_modify, Array.getElem?_push, Array.size_modify]
  by_cases h1 : i = W.heap.size
  · subst h1
    rw [if_neg (by omega)]
    simp
  · by_cases h2 : b = i
    · subst h2; simp [h1]
    · simp [h1, h2]

/-- where the reading stands before its n-th rune: the place, the level, the set -/
def run (t : ByteArray) : Nat → Nat × Int × Int
  | 0 => (0, 0, 0)
  | n + 1 => ((run t n).1 + (Utf8.decode t (run t n).1).2, if (run t n).1 = 0 then (wrap64 (wrap64 ((Utf8.decode t (run t n).1).1 : Int) - 48), (run t n).2.2) else ((run t n).2.1, bits BinOp.or .i64 (run t n).2.2 (bitV (Utf8.decode t (run t n).1).1)))
theorem width_pos (s : ByteArray) (pos : Nat) (h : pos < s.size) : 1 ≤ (Utf8.decode s pos).2 := by
  by_cases ha : (s[pos]'h).toNat < 128
  · rw [decode_ascii s pos h ha]
    exact Nat.le_refl _
  · exact (decode_high s pos h (by omega)).2
/-- in the midst of the reading -/
structure Mid (w : World) (t : ByteArray) (n : Nat) (W : World) : Prop where
  size : W.heap.size = w.heap.size + 2
  a0 : W.cell? ⟨w.heap.size + 1, 0, none⟩ = some (.int .i64 (run t n).2.1)
  a1 : W.cell? ⟨w.heap.size + 1, 1, none⟩ = some (.int .i64 (run t n).2.2)
  r0 : W.cell? ⟨w.heap.size, 0, none⟩ = some (.int .i64 0)
  r1 : W.cell? ⟨w.heap.size, 1, none⟩ = some (.int .i64 0)
  soft : ∀ b o, (b = w.heap.size ∨ b = w.heap.size + 1) → W.frozen? ⟨b, o, none⟩ = false
  below : Below w.heap.size w W
  before : ∀ m, m < n → (run t m).1 < t.size
theorem iter_block (W : World) (s : ByteArray) (p k : Nat) (hk : k < W.heap.size) : (W.iter s p).heap[k]? = W.heap[k]? := Below.heap_alloc _ _ _ hk
theorem iter_cell {W : World} {s : ByteArray} {b : Nat} (hb : b < W.heap.size) (p o : Nat) : (W.iter s p).cell? ⟨b, o, none⟩ = W.cell? ⟨b, o, none⟩ := World.cell?_of_block (w := W) (iter_block W s p b hb)
theorem iter_frozen {W : World} {s : ByteArray} {b : Nat} (hb : b < W.heap.size) (p o : Nat) : (W.iter s p).frozen? ⟨b, o, none⟩ = W.frozen? ⟨b, o, none⟩ := World.frozen?_of_block (w := W) (iter_block W s p b hb)
theorem Mid.iter {w W : World} {t : ByteArray} {n : Nat} (h : Mid w t n W) (p : Nat) : Below w.heap.size w (W.iter t p) := h.below.alloc (by have := h.size; omega) _
theorem run_pos {t : ByteArray} {n : Nat} : (run t (n + 1)).1 = (run t n).1 + (Utf8.decode t (run t n).1).2 := rfl
theorem Mid.first {w W : World} {t : ByteArray} {n : Nat} (h : Mid w t n W) (hp : (run t n).1 < t.size) (h0 : (run t n).1 = 0) :
    Mid w t (n + 1) (W.setCell ⟨w.heap.size + 1, 0, none⟩ (.int .i64 (wrap64 (wrap64 ((Utf8.decode t (run t n).1).1 : Int) - 48)))) := by
  have e1 : (run t (n + 1)).2.1 = wrap64 (wrap64 ((Utf8.decode t (run t n).1).1 : Int) - 48) := by rw [run]; simp only [h0, if_true]
  have e2 : (run t (n + 1)).2.2 = (run t n).2.2 := by rw [run]; simp only [h0, if_true]
  refine ⟨by simpa using h.size, ?_, ?_, ?_, ?_, fun b o hb => by simpa using h.soft b o hb, h.below.setCell (by simp) _, fun m hm => ?_⟩
  · rw [e1, World.cell?_setCell_same' _ _ _ (by rw [h.a0]; rfl)]
  · rw [e2, World.cell?_setCell_other _ _ _ _ (fun e => by injection e; omega)]; exact h.a1
  · rw [World.cell?_setCell_other _ _ _ _ (fun e => by injection e; omega)]; exact h.r0
  · rw [World.cell?_setCell_other _ _ _ _ (fun e => by injection e; omega)]; exact h.r1
  · by_cases e : m = n
    · subst e; exact hp
    · exact h.before m (by omega)
theorem Mid.more {w W : World} {t : ByteArray} {n : Nat} (h : Mid w t n W) (hp : (run t n).1 < t.size) (h0 : ¬ (run t n).1 = 0) :
    Mid w t (n + 1) (W.setCell ⟨w.heap.size + 1, 1, none⟩ (.int .i64 (bits BinOp.or .i64 (run t n).2.2 (bitV (Utf8.decode t (run t n).1).1)))) := by
  have e1 : (run t (n + 1)).2.1 = (run t n).2.1 := by rw [run]; simp only [h0, if_false]
  have e2 : (run t (n + 1)).2.2 = bits BinOp.or .i64 (run t n).2.2 (bitV (Utf8.decode t (run t n).1).1) := by rw [run]; simp only [h0, if_false]
  refine ⟨by simpa using h.size, ?_, ?_, ?_, ?_, fun b o hb => by simpa using h.soft b o hb, h.below.setCell (by simp) _, fun m hm => ?_⟩
  · rw [e1, World.cell?_setCell_other _ _ _ _ (fun e => by injection e; omega)]; exact h.a0
  · rw [e2, World.cell?_setCell_same' _ _ _ (by rw [h.a1]; rfl)]
  · rw [World.cell?_setCell_other _ _ _ _ (fun e => by injection e; omega)]; exact h.r0
  · rw [World.cell?_setCell_other _ _ _ _ (fun e => by injection e; omega)]; exact h.r1
  · by_cases e : m = n
    · subst e; exact hp
    · exact h.before m (by omega)
theorem Mid.drew {w W : World} {t : ByteArray} {n : Nat} (h : Mid w t n W) : Mid w t n W.drew := ⟨h.size, h.a0, h.a1, h.r0, h.r1, h.soft, h.below.drew, h.before⟩
theorem iterPos_at {W : World} {t : ByteArray} {k : Nat} (h : W.heap.size = k) (p : Nat) : (W.iter t p).iterPos k = p := by subst h; exact World.iterPos_iter _ _ _
theorem iterPos_set {W : World} {t : ByteArray} {k b : Nat} (h : W.heap.size = k) (hb : b < k) (p o : Nat) (v : Value) : ((W.iter t p).setCell ⟨b, o, none⟩ v).iterPos k = p := by
  rw [iter_set (by omega)]; exact iterPos_at (by simpa using h) p
theorem iter_drew (W : World) (s : ByteArray) (p : Nat) : (W.iter s p).drew = W.drew.iter s p := rfl
def RoughR (t : ByteArray) (w : World) (e : Ending) (w' : World) : Prop := ∃ n, e = .returned (.agg #[.int .i64 (run t n).2.1, .int .i64 (run t n).2.2]) ∧ (∀ m, m < n → (run t m).1 < t.size) ∧ ¬ (run t n).1 < t.size ∧ Below w.heap.size w w'

set_option maxRecDepth 100000 in
set_option maxHeartbeats 3200000 in
theorem rough_any (t : ByteArray) (w : World) (hD : Door w) :
    Calls Tryd.prog 73 #[.string t] w (RoughR t w) := by
  have HD := Lib.hid hD
  have h0 := hD.lt
  clear hD
  go_enter Tryd.func73, Tryd.ntmps73
  go_wp2
  go_loopw [4] (fun i wr => ∃ (n : Nat) (W : World), wr = W.iter t (run t n).1 ∧ Mid w t n W) (fun _ wr => t.size - wr.iterPos (w.heap.size + 2))
  case atStart => exact ⟨0, _, rfl, ⟨by simp, by simp [run], by simp [run], by simp, by simp, fun b o hb => by rcases hb with rfl | rfl <;> simp, ((Below.refl _ _).alloc (Nat.le_refl _) _).alloc (by simp) _, fun m h => absurd h (Nat.not_lt_zero _)⟩⟩
  case round =>
    obtain ⟨n, W, rfl, hM⟩ := hrel
    have HM := Lib.hid hM
    have hz := hM.size
    clear hM
    by_cases hp : (run t n).1 < t.size
    · have hnx : ∀ ty, (Instr.next (.pointer (some ⟨w.heap.size + 1 + 1, 0, none⟩)) true ty).run Tryd.prog (W.iter t (run t n).1) = .ok (.tuple #[.bool true, .int .i64 (run t n).1, .int .i32 (Utf8.decode t (run t n).1).1]) (W.iter t ((run t n).1 + (Utf8.decode t (run t n).1).2)) := fun ty => by
        have := run_next_any (P := Tryd.prog) W t (run t n).1 ty hp
        rw [hz] at this
        exact this
      have f0 : ∀ p, (W.iter t p).cell? ⟨w.heap.size + 1, 0, none⟩ = some (.int .i64 (run t n).2.1) := fun p => (iter_cell (by omega) p 0).trans HM.out.a0
      have f1 : ∀ p, (W.iter t p).cell? ⟨w.heap.size + 1, 1, none⟩ = some (.int .i64 (run t n).2.2) := fun p => (iter_cell (by omega) p 1).trans HM.out.a1
      have s0 : ∀ p, (W.iter t p).frozen? ⟨w.heap.size + 1, 0, none⟩ = false := fun p => (iter_frozen (by omega) p 0).trans (HM.out.soft _ _ (by omega))
      have s1 : ∀ p, (W.iter t p).frozen? ⟨w.heap.size + 1, 1, none⟩ = false := fun p => (iter_frozen (by omega) p 1).trans (HM.out.soft _ _ (by omega))
      have HZ := Lib.hid hz
      clear hz
      have hwd := width_pos t _ hp
      by_cases hp0 : (run t n).1 = 0
      · have hq : (((run t n).1 : Int) == 0) = true := by simp [hp0]
        have HM2 := Lib.hid (HM.out.first hp hp0)
        clear hp0
        go_wp2
        go_roundw
        case rel => exact ⟨n + 1, _, (iter_set (by have := HZ.out; omega)).trans (by rw [run_pos]), HM2.out⟩
        case measure => (rw [iterPos_set HZ.out (by omega), iterPos_at HZ.out]; omega)
      · have hq : (((run t n).1 : Int) == 0) = false := by simp; omega
        have HM2 := Lib.hid (HM.out.more hp hp0).drew
        clear hp0
        go_wp2_with fail
        go_region_with (go_at_call 96; refine (bit_any _ _ (HD.out.below (w := w) (HM.out.iter _).drew h0)).mono ?_; rintro e w' ⟨rfl, rfl⟩)
        all_goals
          go_wp2
          go_roundw
          case rel => exact ⟨n + 1, _, (congrArg World.drew (iter_set (by have := HZ.out; omega))).trans (by rw [run_pos]; rfl), HM2.out⟩
          case measure => (show t.size - World.iterPos (World.setCell _ _ _) _ < _; rw [iterPos_set HZ.out (by omega), iterPos_at HZ.out]; omega)
    · have hnx : ∀ ty, (Instr.next (.pointer (some ⟨w.heap.size + 1 + 1, 0, none⟩)) true ty).run Tryd.prog (W.iter t (run t n).1) = .ok (.tuple #[.bool false]) (W.iter t (run t n).1) := fun ty => by
        have := run_next_end (P := Tryd.prog) W t (run t n).1 ty hp
        rw [hz] at this
        exact this
      have f0 : ∀ p, (W.iter t p).cell? ⟨w.heap.size + 1, 0, none⟩ = some (.int .i64 (run t n).2.1) := fun p => (iter_cell (by omega) p 0).trans HM.out.a0
      have f1 : ∀ p, (W.iter t p).cell? ⟨w.heap.size + 1, 1, none⟩ = some (.int .i64 (run t n).2.2) := fun p => (iter_cell (by omega) p 1).trans HM.out.a1
      have q0 : ∀ p, (W.iter t p).cell? ⟨w.heap.size, 0, none⟩ = some (.int .i64 0) := fun p => (iter_cell (by omega) p 0).trans HM.out.r0
      have q1 : ∀ p, (W.iter t p).cell? ⟨w.heap.size, 1, none⟩ = some (.int .i64 0) := fun p => (iter_cell (by omega) p 1).trans HM.out.r1
      have s0 : ∀ p, (W.iter t p).frozen? ⟨w.heap.size, 0, none⟩ = false := fun p => (iter_frozen (by omega) p 0).trans (HM.out.soft _ _ (by omega))
      have s1 : ∀ p, (W.iter t p).frozen? ⟨w.heap.size, 1, none⟩ = false := fun p => (iter_frozen (by omega) p 1).trans (HM.out.soft _ _ (by omega))
      clear hz
      go_wp2
      refine bodyPost_ret (v := .agg #[.int .i64 (run t n).2.1, .int .i64 (run t n).2.2]) (by simp [results, Tryd.results73, go_sem, q0, q1]) rfl ⟨n, rfl, HM.out.before, hp, ?_⟩
      exact ((HM.out.iter _).setCell (Nat.le_refl _) _).setCell (Nat.le_refl _) _
end Go.Proofs.YtdimpopkkjpddaaDoor.LabC
