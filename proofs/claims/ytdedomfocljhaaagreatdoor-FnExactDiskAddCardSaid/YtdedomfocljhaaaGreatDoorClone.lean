/- strings.Clone, for any string: its contract. Stands by itself (for seats that hold strings.Clone without the functions that join strings). -/
import Derived.Test.YtdedomfocljhaaaGreatDoorProg
import Derived.WalkKit
import Derived.ProofKit
import Derived.Below
import Derived.WalkSpells
import Derived.WalkLawsBesides
import Derived.Lib.Hide
import Derived.OwnWalk
import Derived.OpenShut
import Derived.Laws.IdiomStrings
import Derived.Lib.BufferWrite
import Derived.Laws.MakeOwn
import Derived.Laws.CopyOwn
import Derived.Laws.Concat
namespace Go.Proofs.YtdedomfocljhaaaGreatDoor.CloneC
open Go.RowKit

theorem info_u8 : (Tryz.prog.info? 5).map (fun i => (i.zero, i.size, i.bytes)) = some (some (.int .u8 0), 1, 1) := by kernel_rfl
theorem ret_str {a b : ByteArray} (h : a = b) : Ending.returned (.string a) = .returned (.string b) := by rw [h]
def bytesOf (l : List UInt8) : ByteArray := ⟨l.toArray⟩
theorem info_size : (Tryz.prog.info? 5).map (·.size) = some 1 := by kernel_rfl
/-- make of n bytes -/
theorem make_bytes (w : World) (n : Int) (h0 : 0 ≤ n) (h1 : n ≤ 140737488355328) :
    ∃ w1, (Instr.makeSlice 90 (.int .i64 n) (.int .i64 n)).run Tryz.prog w = .ok (.slice (some ⟨w.heap.size, 0, none⟩) n.toNat n.toNat) w1 ∧
      (∃ cur : Array Value, cur.size = n.toNat ∧ w1.heap[w.heap.size]? = some (.cells cur 5 (0, 0))) ∧ Below w.heap.size w w1 ∧ w.heap.size < w1.heap.size := by
  obtain ⟨i, hi, hz0, hz1, hz2⟩ := info_parts info_u8
  refine ⟨_, run_make w 90 5 i _ Tryz.underlying90 hi hz0 .i64 .i64 n n h0 (Int.le_refl _) (by rw [hz2]; omega) (by omega), ?_, (Below.refl _ _).alloc (Nat.le_refl _) _, ?_⟩
  · refine ⟨_, ?_, heap_alloc_new _ _⟩
    rw [size_madeCells, hz1]
    omega
  · show _ < (w.heap.push _).size
    simp

/-- copy of a whole string into a row of the call's own -/
theorem copy_str (w : World) (g o dLen dCap : Nat) (s : ByteArray) (cur : Array Value) (ty : TypeId) (hg : w.heap[g]? = some (.cells cur 5 (0, 0))) (hle : s.size ≤ dLen) (hfit : o + s.size ≤ cur.size) :
    ∃ w1, (Builtin.copy_ #[90, 9] ty #[.slice (some ⟨g, o, none⟩) dLen dCap, .string s]).run Tryz.prog w = .ok (goInt s.size) w1 ∧
      w1.heap[g]? = some (.cells (cur.toList.take o ++ Lib.byteCells s.data.toList ++ cur.toList.drop (o + s.size)).toArray 5 (0, 0)) ∧ Below g w w1 :=
  ⟨_, Lib.run_copy_row_string w 90 9 ty 5 g o dLen dCap s cur 5 Tryz.underlying90 info_size hg hle hfit, setRow_heap w g cur _ _ _ hg, below_setRow (Below.refl _ _) (Nat.le_refl _) _⟩

theorem unsafe_row {w : World} {g : Nat} {l : List UInt8} (h : w.heap[g]? = some (.cells (Lib.byteCells l).toArray 5 (0, 0))) (h0 : l.length ≠ 0) (hl : l.length ≤ 9223372036854775807) :
    (Builtin.unsafeString_ #[107, 3] 9 #[.pointer (some ⟨g, 0, none⟩), .int .i64 l.length]).run Tryz.prog w = .ok (.string (bytesOf l)) (w.freeze ⟨g, 0, none⟩ l.length) :=
  Lib.run_unsafeString_row w 107 3 9 5 Tryz.underlying107 (by kernel_rfl) g l.length (by simp [World.shape?, h, Lib.byteCells]) l (fun e => h0 (by rw [e]; rfl)) (Nat.le_refl _) hl (fun j x hj => by
    have hlt := (List.getElem?_eq_some_iff.1 hj).1
    have e : (⟨g, 0, none⟩ : Addr).add j = ⟨g, j, none⟩ := by cases j <;> simp [Addr.add]
    rw [e]
    rw [List.getElem?_eq_getElem hlt] at hj
    simp at hj
    subst hj
    simp [World.cell?, h, Lib.byteCells, hlt])

set_option maxRecDepth 100000 in
set_option maxHeartbeats 800000 in
/-- the copy of a string -/
theorem clone_lite (s : ByteArray) (w : World) (hs : s.size ≤ 8000) :
    Calls Tryz.prog 70 #[.string s] w fun e w' => e = .returned (.string s) ∧ Below w.heap.size w w' := by
  by_cases h0 : s.size = 0
  · have he : Hid (s = ByteArray.empty) := Lib.hid (ByteArray.ext (Array.eq_empty_of_size_eq_zero h0))
    have hb : ((s.size : Int) == 0) = true := by simp [h0]
    go_enter Tryz.func70, Tryz.ntmps70
    go_wp2
    go_ret
    exact ⟨ret_str he.out.symm, Below.refl _ _⟩
  · have hb : ((s.size : Int) == 0) = false := by simp [h0]
    obtain ⟨w1, hmk, ⟨cur, hcs, hg1⟩, hb1, hz1⟩ := make_bytes w (s.size : Int) (by omega) (by omega)
    have hn : ((s.size : Int)).toNat = s.size := by omega
    rw [hn] at hmk hcs
    obtain ⟨w2, hc1, hg2, hb2⟩ := copy_str w1 w.heap.size 0 s.size s.size s cur 3 hg1 (by omega) (by omega)
    have hg3 : w2.heap[w.heap.size]? = some (.cells (Lib.byteCells s.data.toList).toArray 5 (0, 0)) := by
      rw [hg2]
      have e : cur.toList.drop (0 + s.size) = [] := List.drop_of_length_le (by simp [hcs])
      rw [e]
      simp
    have hun := unsafe_row hg3 (by rw [← Lib.size_eq]; exact h0) (by rw [← Lib.size_eq]; omega)
    rw [← Lib.size_eq, show bytesOf s.data.toList = s from ByteArray.ext (by simp [bytesOf])] at hun
    have HB : Hid (Below w.heap.size w (w2.freeze ⟨w.heap.size, 0, none⟩ s.size)) := Lib.hid (Lib.below_freeze (hb1.trans hb2) (Nat.le_refl _) _)
    have hp : 0 < s.size := by omega
    clear hg1 hg2 hg3 hb1 hb2 hcs hz1 hn h0
    go_enter Tryz.func70, Tryz.ntmps70
    go_wp2
    go_ret
    exact ⟨rfl, HB.out⟩

theorem clone_any (s : ByteArray) (w : World) (hs : s.size ≤ 8000) :
    Calls Tryz.prog 64 #[.string s] w fun e w' => e = .returned (.string s) ∧ Below w.heap.size w w' := by
  go_enter Tryz.func64, Tryz.ntmps64
  go_wp2_with fail
  refine (clone_lite _ _ hs).mono ?_
  rintro e w1 ⟨rfl, hb1⟩
  have HB1 := Lib.hid hb1
  clear hb1
  go_wp2
  go_ret
  exact ⟨rfl, HB1.out⟩

end Go.Proofs.YtdedomfocljhaaaGreatDoor.CloneC
