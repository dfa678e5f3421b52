/- joined and PutText, in the program and in its model: contracts. -/
import Derived.Test.YtnmdfkempkaonaaPut
import Derived.Lib.BufferWrite
import Derived.Laws.MakeOwn
import Derived.Laws.CopyOwn
import Derived.Laws.Concat
namespace Go.Proofs.Ytnmdfkempkaonaa.JoinC
open Go.RowKit PutM PutC

theorem info_size : (Try.prog.info? 5).map (·.size) = some 1 := by kernel_rfl
theorem elem_u8 : Try.prog.elem 22 = 5 := by kernel_rfl
theorem under_elem : Try.prog.underlying 22 = some (.slice (Try.prog.elem 22)) := by kernel_rfl
theorem size_elem (w : World) : (sizeOf (Try.prog.elem 22)).run Try.prog w = .ok 1 w := by kernel_rfl

/-- make of n bytes -/
theorem make_bytes (w : World) (n : Int) (h0 : 0 ≤ n) (h1 : n ≤ 140737488355328) :
    ∃ w1, (Instr.makeSlice 22 (.int .i64 n) (.int .i64 n)).run Try.prog w = .ok (.slice (some ⟨w.heap.size, 0, none⟩) n.toNat n.toNat) w1 ∧
      (∃ cur : Array Value, cur.size = n.toNat ∧ w1.heap[w.heap.size]? = some (.cells cur 5 (0, 0))) ∧ Below w.heap.size w w1 ∧ w.heap.size < w1.heap.size := by
  obtain ⟨i, hi, hz0, hz1, hz2⟩ := info_parts info_u8
  refine ⟨_, run_make w 22 5 i _ Try.underlying22 hi hz0 .i64 .i64 n n h0 (Int.le_refl _) (by rw [hz2]; omega) (by omega), ?_, (Below.refl _ _).alloc (Nat.le_refl _) _, ?_⟩
  · refine ⟨_, ?_, heap_alloc_new _ _⟩
    rw [size_madeCells, hz1]
    omega
  · show _ < (w.heap.push _).size
    simp

/-- copy of a whole string into a row of the call's own -/
theorem copy_str (w : World) (g o dLen dCap : Nat) (s : ByteArray) (cur : Array Value) (ty : TypeId) (hg : w.heap[g]? = some (.cells cur 5 (0, 0))) (hle : s.size ≤ dLen) (hfit : o + s.size ≤ cur.size) :
    ∃ w1, (Builtin.copy_ #[22, 9] ty #[.slice (some ⟨g, o, none⟩) dLen dCap, .string s]).run Try.prog w = .ok (goInt s.size) w1 ∧
      w1.heap[g]? = some (.cells (cur.toList.take o ++ Lib.byteCells s.data.toList ++ cur.toList.drop (o + s.size)).toArray 5 (0, 0)) ∧ Below g w w1 :=
  ⟨_, Lib.run_copy_row_string w 22 9 ty 5 g o dLen dCap s cur 5 Try.underlying22 info_size hg hle hfit, setRow_heap w g cur _ _ _ hg, below_setRow (Below.refl _ _) (Nat.le_refl _) _⟩

theorem slice_from (w : World) (g n k : Nat) (hk : k ≤ n) :
    ∃ o, (Instr.slice 22 (.slice (some ⟨g, 0, none⟩) n n) (some (.int .i64 (k : Int))) none none).run Try.prog w = .ok (.slice (some ⟨g, o, none⟩) (n - k) (n - k)) w ∧ (o = k ∨ (n - k = 0 ∧ o = 0)) := by
  rw [run_slice_l w 22 _ n n under_elem .i64 _ (by omega) (by omega), size_elem]
  by_cases h : n = k
  · subst h
    exact ⟨0, by simp [sliced], .inr ⟨by omega, rfl⟩⟩
  · refine ⟨k, ?_, .inl rfl⟩
    by_cases h0 : k = 0
    · subst h0
      simp [sliced, Addr.add]
    · simp [sliced, h, Addr.add, h0]
/-- the row of n bytes that begins with a and goes on with b is a ++ b -/
theorem two_copies (cur : List Value) (a b : ByteArray) (o : Nat) (hc : cur.length = a.size + b.size) (ho : o = a.size ∨ (b.size = 0 ∧ o = 0)) :
    (((([] ++ Lib.byteCells a.data.toList ++ cur.drop a.size)).take o) ++ Lib.byteCells b.data.toList ++ ((([] ++ Lib.byteCells a.data.toList ++ cur.drop a.size)).drop (o + b.size))) = Lib.byteCells (a.data.toList ++ b.data.toList) := by
  have la : (Lib.byteCells a.data.toList).length = a.size := by rw [Lib.byteCells_length, ← Lib.size_eq]
  have lb : (Lib.byteCells b.data.toList).length = b.size := by rw [Lib.byteCells_length, ← Lib.size_eq]
  rw [Lib.byteCells_append]
  rcases ho with rfl | ⟨h0, rfl⟩
  · rw [List.nil_append, List.take_append_of_le_length (by omega), List.take_of_length_le (by omega), List.drop_append, List.drop_of_length_le (by omega), List.nil_append, List.drop_drop, List.drop_of_length_le (by omega), List.append_nil]
  · have hb : Lib.byteCells b.data.toList = [] := List.eq_nil_of_length_eq_zero (by omega)
    rw [hb, h0]
    simp
    omega

theorem bytes_append (a b : ByteArray) : bytesOf (a.data.toList ++ b.data.toList) = a ++ b := by
  apply ByteArray.ext
  simp [bytesOf]

theorem conv_cells {w : World} {g : Nat} {l : List UInt8} (h : w.heap[g]? = some (.cells (Lib.byteCells l).toArray 5 (0, 0))) (cap : Nat) :
    (convert 22 9 (.slice (some ⟨g, 0, none⟩) l.length cap)).run Try.prog w = .ok (.string (bytesOf l)) w :=
  run_convert_bytes_back w 22 9 5 ⟨g, 0, none⟩ cap l Try.underlying22 Try.underlying5 Try.underlying9 (fun j hj => by
    have e : (⟨g, 0, none⟩ : Addr).add j = ⟨g, j, none⟩ := by cases j <;> simp [Addr.add]
    rw [e]
    simp [World.cell?, h, Lib.byteCells, hj])

set_option maxRecDepth 100000 in
set_option maxHeartbeats 800000 in
theorem joined_any (a b : ByteArray) (w : World) (hab : a.size + b.size ≤ 140737488355328) :
    Calls Try.prog 21 #[.string a, .string b] w fun e w' => e = .returned (.string (a ++ b)) ∧ Below w.heap.size w w' := by
  obtain ⟨w1, hmk, ⟨cur, hcs, hg1⟩, hb1, hz1⟩ := make_bytes w ((a.size : Int) + (b.size : Int)) (by omega) (by omega)
  have hn : ((a.size : Int) + (b.size : Int)).toNat = a.size + b.size := by omega
  rw [hn] at hmk hcs
  obtain ⟨w2, hc1, hg2, hb2⟩ := copy_str w1 w.heap.size 0 (a.size + b.size) (a.size + b.size) a cur 3 hg1 (by omega) (by omega)
  obtain ⟨o, hsl, ho⟩ := slice_from w2 w.heap.size (a.size + b.size) a.size (by omega)
  have hn2 : a.size + b.size - a.size = b.size := by omega
  rw [hn2] at hsl ho
  have la : (Lib.byteCells a.data.toList).length = a.size := by rw [Lib.byteCells_length, ← Lib.size_eq]
  obtain ⟨w3, hc2, hg3, hb3⟩ := copy_str w2 w.heap.size o b.size b.size b _ 3 hg2 (Nat.le_refl _) (by simp only [List.take_zero, List.nil_append, List.size_toArray, List.length_append, la, List.length_drop, Array.length_toList, hcs]; omega)
  simp only [List.take_zero, Nat.zero_add] at hg3
  rw [two_copies cur.toList a b o (by simpa using hcs) ho] at hg3
  have lab : (a.data.toList ++ b.data.toList).length = a.size + b.size := by rw [List.length_append, ← Lib.size_eq, ← Lib.size_eq]
  have hconv := conv_cells hg3 (a.size + b.size)
  rw [lab, bytes_append a b] at hconv
  have HB : Hid (Below w.heap.size w w3) := Lib.hid ((hb1.trans hb2).trans hb3)
  clear hg1 hg2 hg3 hb1 hb2 hb3 hcs hn hn2 la lab ho hz1
  go_enter Try.func21, Try.ntmps21
  go_wp2
  go_ret
  exact ⟨rfl, HB.out⟩

/-- what PutText answers -/
def putT (s : ByteArray) : ByteArray := if s.size ≤ 8000 then encB s.size ++ s else ByteArray.empty
theorem putT_in {s : ByteArray} (h : s.size ≤ 8000) : putT s = encB s.size ++ s := by unfold putT; rw [if_pos h]
theorem putT_out {s : ByteArray} (h : ¬ s.size ≤ 8000) : putT s = ByteArray.empty := by unfold putT; rw [if_neg h]

end Go.Proofs.Ytnmdfkempkaonaa.JoinC
