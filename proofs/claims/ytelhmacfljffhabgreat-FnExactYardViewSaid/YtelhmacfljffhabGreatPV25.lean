/- Of this claim's texts the part 25: YvP. -/
import Derived.Test.YtelhmacfljffhabGreatPV0
import Derived.Test.YtelhmacfljffhabGreatPV1
import Derived.Test.YtelhmacfljffhabGreatPV2
import Derived.Test.YtelhmacfljffhabGreatPV3
import Derived.Test.YtelhmacfljffhabGreatPV4
import Derived.Test.YtelhmacfljffhabGreatPV5
import Derived.Test.YtelhmacfljffhabGreatPV6
import Derived.Test.YtelhmacfljffhabGreatPV7
import Derived.Test.YtelhmacfljffhabGreatPV8
import Derived.Test.YtelhmacfljffhabGreatPV9
import Derived.Test.YtelhmacfljffhabGreatPV10
import Derived.Test.YtelhmacfljffhabGreatPV11
import Derived.Test.YtelhmacfljffhabGreatPV12
import Derived.Test.YtelhmacfljffhabGreatPV13
import Derived.Test.YtelhmacfljffhabGreatPV14
import Derived.Test.YtelhmacfljffhabGreatPV15
import Derived.Test.YtelhmacfljffhabGreatPV16
import Derived.Test.YtelhmacfljffhabGreatPV17
import Derived.Test.YtelhmacfljffhabGreatPV18
import Derived.Test.YtelhmacfljffhabGreatPV19
import Derived.Test.YtelhmacfljffhabGreatPV20
import Derived.Test.YtelhmacfljffhabGreatPV21
import Derived.Test.YtelhmacfljffhabGreatPV22
import Derived.Test.YtelhmacfljffhabGreatPV23
import Derived.Test.YtelhmacfljffhabGreatPV24
section
namespace Go.Proofs.YtelhmacfljffhabGreat.RepC
open Go.RowKit RowC ValC SpanC KeptC NameC
set_option linter.unusedVariables false
set_option linter.unusedSimpArgs false
def catB : List ByteArray → ByteArray
  | [] => ⟨#[]⟩
  | b :: bs => b ++ catB bs
theorem catB_app : ∀ (L M : List ByteArray), catB (L ++ M) = catB L ++ catB M
  | [], M => by simp only [List.nil_append, catB, ba_nil']
  | b :: bs, M => by simp only [List.cons_append, catB, catB_app bs M, ByteArray.append_assoc]
theorem catB_size {c : Nat} : ∀ {L : List ByteArray}, (∀ b ∈ L, b.size ≤ c) → (catB L).size ≤ c * L.length
  | [], _ => Nat.zero_le _
  | b :: bs, h => by
    have h1 := catB_size (L := bs) fun m hm => h m (List.mem_cons_of_mem _ hm)
    have h2 := h b List.mem_cons_self
    simp only [catB, ByteArray.size_append, List.length_cons, Nat.mul_add, Nat.mul_one]
    omega
def catTo {α : Type} (f : α → ByteArray) (L : List α) (k : Nat) : ByteArray := catB ((L.take k).map f)
theorem catTo_zero {α : Type} {f : α → ByteArray} {L : List α} : catTo f L 0 = ⟨#[]⟩ := rfl
theorem catTo_step {α : Type} {f : α → ByteArray} {L : List α} {k : Nat} {x : α} (hx : L[k]? = some x) : catTo f L (k + 1) = catTo f L k ++ f x := by
  unfold catTo
  rw [List.take_add_one, hx, Option.toList_some, List.map_append, catB_app]
  simp only [List.map_cons, List.map_nil, catB, ba_nil]
theorem catTo_size {α : Type} {f : α → ByteArray} {L : List α} {c n : Nat} (k : Nat) (hL : L.length ≤ n) (h : ∀ x ∈ L, (f x).size ≤ c) : (catTo f L k).size ≤ c * n := by
  unfold catTo
  refine Nat.le_trans (catB_size (c := c) fun b hb => ?_) (Nat.mul_le_mul_left _ ?_)
  · obtain ⟨x, hx, rfl⟩ := List.mem_map.1 hb
    exact h x (List.mem_of_mem_take hx)
  · rw [List.length_map]
    exact Nat.le_trans (List.length_take_le' _ _) hL
def spanB (s : D_Span) : ByteArray := PutM.encB s.1 ++ PutM.encB s.2
def headB (x : D_Node) : ByteArray := PutM.encB x.1 ++ PutM.encB (x.2.length : Int)
def nodeB (x : D_Node) : ByteArray := headB x ++ catTo spanB x.2 x.2.length
def useB (u : D_Use) : ByteArray := PutM.encB u.1.1 ++ PutM.encB u.1.2 ++ JoinC.putT u.2.1 ++ PutM.encB u.2.2
def seesB (a b : D_Label) : Bool := LabC.bB a.1 a.2 b.1 b.2
noncomputable def taskPart (b : D_Label) (x : D_Task) : ByteArray := if seesB (tLab x) b = true then bytesT x else ⟨#[]⟩
def usePart (b : D_Label) (u : D_Use) : ByteArray := if seesB u.1 b = true then useB u else ⟨#[]⟩
theorem taskPart_yes {b : D_Label} {x : D_Task} (h : seesB (tLab x) b = true) : taskPart b x = bytesT x := if_pos h
theorem taskPart_no {b : D_Label} {x : D_Task} (h : seesB (tLab x) b = false) : taskPart b x = ⟨#[]⟩ := if_neg (by rw [h]; decide)
theorem usePart_yes {b : D_Label} {u : D_Use} (h : seesB u.1 b = true) : usePart b u = useB u := if_pos h
theorem usePart_no {b : D_Label} {u : D_Use} (h : seesB u.1 b = false) : usePart b u = ⟨#[]⟩ := if_neg (by rw [h]; decide)
theorem small10 {n : Int} (h : 0 ≤ n ∧ n ≤ 2000000) : (PutM.encB n).size ≤ 10 := enc10 h
theorem span_small {L : List D_Span} (h : SpR L.length (gt L)) {j : Nat} {s : D_Span} (hs : L[j]? = some s) : (0 ≤ s.1 ∧ s.1 ≤ 2000000) ∧ (0 ≤ s.2 ∧ s.2 ≤ 2000000) := by
  have hj := (List.getElem?_eq_some_iff.1 hs).1
  have h1 := (h.2 j hj).1
  rw [gt_at hs] at h1
  have h2 := (spB_iff _ _).1 h1
  unfold spP at h2
  omega
theorem node_small {x : D_Node} (h : okNd x) : (0 ≤ x.1 ∧ x.1 ≤ 2000000) ∧ x.2.length ≤ 4 ∧ ∀ (j : Nat) s, x.2[j]? = some s → (0 ≤ s.1 ∧ s.1 ≤ 2000000) ∧ (0 ≤ s.2 ∧ s.2 ≤ 2000000) := by
  have h1 := (isB_iff _ _ _).1 h.1
  exact ⟨by omega, h.2.1, fun j s hs => span_small h.2.2 hs⟩
theorem spanB_size {s : D_Span} (h : (0 ≤ s.1 ∧ s.1 ≤ 2000000) ∧ (0 ≤ s.2 ∧ s.2 ≤ 2000000)) : (spanB s).size ≤ 20 := by
  have h1 := small10 h.1
  have h2 := small10 h.2
  unfold spanB
  rw [ByteArray.size_append]
  omega
theorem spans_size {x : D_Node} (h : okNd x) (j : Nat) : (catTo spanB x.2 j).size ≤ 80 := by
  have hn := node_small h
  refine Nat.le_trans (catTo_size (c := 20) (n := 4) j hn.2.1 fun s hs => ?_) (by decide)
  obtain ⟨i, hi⟩ := List.getElem?_of_mem hs
  exact spanB_size (hn.2.2 i s hi)
theorem headB_size {x : D_Node} (h : okNd x) : (headB x).size ≤ 20 := by
  have hn := node_small h
  have h1 := small10 hn.1
  have h2 := small10 (n := (x.2.length : Int)) (by have := hn.2.1; omega)
  unfold headB
  rw [ByteArray.size_append]
  omega
theorem nodeB_size {x : D_Node} (h : okNd x) : (nodeB x).size ≤ 100 := by
  have h1 := headB_size h
  have h2 := spans_size h x.2.length
  unfold nodeB
  rw [ByteArray.size_append]
  omega
theorem useB_small {u : D_Use} (h : okU u) : (0 ≤ u.1.1 ∧ u.1.1 ≤ 2000000) ∧ (0 ≤ u.1.2 ∧ u.1.2 ≤ 2000000) ∧ u.2.1.size ≤ 20 ∧ (0 ≤ u.2.2 ∧ u.2.2 ≤ 2000000) := by
  obtain ⟨h1, h2, h3⟩ := h
  have h4 := (isB_iff _ _ _).1 h3
  have h5 := (LabC.rB_iff _ _).1 h1
  unfold LabC.rP at h5
  have h6 : u.2.1.size ≤ 20 := h2.2.1
  exact ⟨by omega, by omega, h6, by omega⟩
theorem useB_size {u : D_Use} (h : okU u) : (useB u).size ≤ 60 := by
  have hu := useB_small h
  have h1 := small10 hu.1
  have h2 := small10 hu.2.1
  have h3 := putT30 hu.2.2.1
  have h4 := small10 hu.2.2.2
  unfold useB
  rw [ByteArray.size_append, ByteArray.size_append, ByteArray.size_append]
  omega
theorem bytesT_size {x : D_Task} (h : TaskR x) : (bytesT x).size ≤ 300 := by
  rw [bytesT_yes (taskB_iff.2 h)]
  obtain ⟨⟨x0, x1⟩, x2, x3, x4, x5, x6, ⟨x7, x8⟩, x9, x10, x11, x12, M⟩ := x
  obtain ⟨s0, s1, s2, s4, s5, s6, s7, s8, s9, s10, s11, s12, sM, s3, sN⟩ := taskR_small h
  have hc := catL_size (L := M) fun n hn => r64 (sN n hn)
  have e0 := enc10 s0; have e1 := enc10 s1; have e2 := enc10 s2; have e4 := enc10 s4; have e5 := enc10 s5; have e6 := enc10 s6; have e7 := enc10 s7; have e8 := enc10 s8; have e9 := enc10 s9; have e10 := enc10 s10; have e11 := enc10 s11; have e12 := enc10 s12
  have eM := enc10 (n := (M.length : Int)) (by omega)
  have e3 := putT30 s3
  show (preT x0 x1 x2 x3 x4 x5 x6 x7 x8 x9 x10 x11 x12 M ++ catL M).size ≤ 300
  unfold preT
  simp only [ByteArray.size_append]
  omega
theorem taskPart_size {b : D_Label} {x : D_Task} (h : TaskR x) : (taskPart b x).size ≤ 300 := by
  cases hs : seesB (tLab x) b with
  | true => rw [taskPart_yes hs]; exact bytesT_size h
  | false => rw [taskPart_no hs]; exact Nat.zero_le _
theorem usePart_size {b : D_Label} {u : D_Use} (h : okU u) : (usePart b u).size ≤ 60 := by
  cases hs : seesB u.1 b with
  | true => rw [usePart_yes hs]; exact useB_size h
  | false => rw [usePart_no hs]; exact Nat.zero_le _
noncomputable def viewT (b : D_Label) : D_Yard → ByteArray
  | (_, N, T, U, now) => ((PutM.encB now ++ catTo nodeB N N.length) ++ catTo (taskPart b) T T.length) ++ catTo (usePart b) U U.length
noncomputable def viewV (y : D_Yard) (b : D_Label) : ByteArray := if yardB y = true ∧ LabC.rB b.1 b.2 = true then viewT b y else ⟨#[]⟩
theorem viewV_yes {y : D_Yard} {b : D_Label} (h1 : yardB y = true) (h2 : LabC.rB b.1 b.2 = true) : viewV y b = viewT b y := if_pos ⟨h1, h2⟩
theorem viewV_no1 {y : D_Yard} {b : D_Label} (h1 : yardB y = false) : viewV y b = ⟨#[]⟩ := if_neg fun h => by rw [h1] at h; cases h.1
theorem viewV_no2 {y : D_Yard} {b : D_Label} (h2 : LabC.rB b.1 b.2 = false) : viewV y b = ⟨#[]⟩ := if_neg fun h => by rw [h2] at h; cases h.2
end Go.Proofs.YtelhmacfljffhabGreat.RepC
end
