/- Letters and labels compared; boxes of arguments; what a desk promises. -/
import Derived.Test.YtknifggpodhhdaaDoorDeskG
import Derived.Test.YtknifggpodhhdaaDoorLabBelow
import Derived.Test.YtknifggpodhhdaaDoorSpRight
import Derived.Laws.StructEq
namespace Go.Proofs.YtknifggpodhhdaaDoor.RepC
open Go.RowKit RowC ValC SpanC KeptC
set_option linter.unusedVariables false
set_option linter.unusedSimpArgs false

theorem eq_letter_run (a b c d t v a' b' c' d' t' v' : Int) (w : World) : (binOp .eql 87 (.agg #[.int .i64 a, .int .i64 b, .int .i64 c, .int .i64 d, .int .i64 t, .int .i64 v]) (.agg #[.int .i64 a', .int .i64 b', .int .i64 c', .int .i64 d', .int .i64 t', .int .i64 v'])).run Tryd.prog w = .ok (.bool (((a, b), (c, d), t, v) == (((a', b'), (c', d'), t', v') : D_Letter))) w := by
  go_simp
  repeat' split
  all_goals simp_all
theorem eq_label_run (a b a' b' : Int) (w : World) : (binOp .eql 24 (.agg #[.int .i64 a, .int .i64 b]) (.agg #[.int .i64 a', .int .i64 b'])).run Tryd.prog w = .ok (.bool ((a, b) == ((a', b') : D_Label))) w := by
  go_simp
  repeat' split
  all_goals simp_all
theorem eq_letter_at {a b c d t v a' b' c' d' t' v' : Int} {q : Bool} (h : (((a, b), (c, d), t, v) == (((a', b'), (c', d'), t', v') : D_Letter)) = q) (w : World) : (binOp .eql 87 (.agg #[.int .i64 a, .int .i64 b, .int .i64 c, .int .i64 d, .int .i64 t, .int .i64 v]) (.agg #[.int .i64 a', .int .i64 b', .int .i64 c', .int .i64 d', .int .i64 t', .int .i64 v'])).run Tryd.prog w = .ok (.bool q) w := h ▸ eq_letter_run a b c d t v a' b' c' d' t' v' w
theorem eq_label_at {a b a' b' : Int} {q : Bool} (h : ((a, b) == ((a', b') : D_Label)) = q) (w : World) : (binOp .eql 24 (.agg #[.int .i64 a, .int .i64 b]) (.agg #[.int .i64 a', .int .i64 b'])).run Tryd.prog w = .ok (.bool q) w := h ▸ eq_label_run a b a' b' w
theorem bx1 (W : World) (c0 : Array Value) (T0 : TypeId) : Below W.heap.size W (W.alloc (.cells c0 T0)) ∧ Blk (W.alloc (.cells c0 T0)) W.heap.size T0 c0 := ⟨(Below.refl _ _).alloc (Nat.le_refl _) _, Blk.new _ _ _⟩
theorem bx2 (W : World) (c0 c1 : Array Value) (T0 T1 : TypeId) : Below W.heap.size W ((W.alloc (.cells c0 T0)).alloc (.cells c1 T1)) ∧ Blk ((W.alloc (.cells c0 T0)).alloc (.cells c1 T1)) W.heap.size T0 c0 ∧ Blk ((W.alloc (.cells c0 T0)).alloc (.cells c1 T1)) (W.heap.size + 1) T1 c1 := by
  refine ⟨((Below.refl _ _).alloc (Nat.le_refl _) _).alloc (by simp) _, (Blk.new _ _ _).alloc _, ?_⟩
  have h := Blk.new (W.alloc (.cells c0 T0)) T1 c1
  simpa only [World.size_alloc] using h
theorem bx3 (W : World) (c0 c1 c2 : Array Value) (T0 T1 T2 : TypeId) : Below W.heap.size W (((W.alloc (.cells c0 T0)).alloc (.cells c1 T1)).alloc (.cells c2 T2)) ∧ Blk (((W.alloc (.cells c0 T0)).alloc (.cells c1 T1)).alloc (.cells c2 T2)) W.heap.size T0 c0 ∧ Blk (((W.alloc (.cells c0 T0)).alloc (.cells c1 T1)).alloc (.cells c2 T2)) (W.heap.size + 1) T1 c1 ∧ Blk (((W.alloc (.cells c0 T0)).alloc (.cells c1 T1)).alloc (.cells c2 T2)) (W.heap.size + 1 + 1) T2 c2 := by
  have h := bx2 W c0 c1 T0 T1
  refine ⟨h.1.alloc h.1.size _, h.2.1.alloc _, h.2.2.alloc _, ?_⟩
  have h := Blk.new ((W.alloc (.cells c0 T0)).alloc (.cells c1 T1)) T2 c2
  simpa only [World.size_alloc] using h
/-- from one to another a word may go -/
def HasCh (P : List D_Letter) (f t : D_Label) : Prop := ∃ x ∈ P, x.1 = f ∧ x.2.1 = t
theorem hasCh_nil (f t : D_Label) : ¬ HasCh [] f t := fun ⟨x, h, _⟩ => by cases h
theorem hasCh_step {P : List D_Letter} {f t : D_Label} {k : Nat} {x : D_Letter} (hA : ¬ HasCh (P.take k) f t) (hx : P[k]? = some x) (h : ¬ (x.1 = f ∧ x.2.1 = t)) : ¬ HasCh (P.take (k + 1)) f t := by
  rintro ⟨y, hy, h1⟩
  rw [List.take_add_one, hx] at hy
  rcases List.mem_append.1 hy with h2 | h2
  · exact hA ⟨y, h2, h1⟩
  · simp at h2; subst h2; exact h h1
theorem hasCh_here {P : List D_Letter} {f t : D_Label} {k : Nat} {x : D_Letter} (hx : P[k]? = some x) (h1 : x.1 = f) (h2 : x.2.1 = t) : HasCh P f t := ⟨x, List.mem_of_getElem? hx, h1, h2⟩
theorem hasCh_end {P : List D_Letter} {f t : D_Label} {k : Nat} (hk : P.length ≤ k) (hA : ¬ HasCh (P.take k) f t) : ¬ HasCh P f t := by rwa [List.take_of_length_le hk] at hA
/-- a pair may stand at its place -/
def PairOk (P : List D_Letter) (i : Nat) (x : D_Letter) : Prop := LabC.rB x.1.1 x.1.2 = true ∧ LabC.rB x.2.1.1 x.2.1.2 = true ∧ x.2.2.1 = 0 ∧ x.2.2.2 = 0 ∧ x ∉ P.take i
def PairsG (P : List D_Letter) : Prop := ∀ (i : Nat) (x : D_Letter), P[i]? = some x → PairOk P i x
def PairsR (P : List D_Letter) : Prop := P.length ≤ 4 ∧ PairsG P
/-- a letter may stand at its place -/
def LetOk (P : List D_Letter) (now : Int) (L : List D_Letter) (i : Nat) (x : D_Letter) : Prop := HasCh P x.1 x.2.1 ∧ isB x.2.2.1 0 now = true ∧ isB x.2.2.2 0 1000000 = true ∧ ∀ y, 0 < i → L[i - 1]? = some y → y.2.2.1 ≤ x.2.2.1
def LettersR (P : List D_Letter) (now : Int) (L : List D_Letter) (most : Int) : Prop := (L.length : Int) ≤ most ∧ ∀ (i : Nat) (x : D_Letter), L[i]? = some x → LetOk P now L i x
/-- how many letters are of this time -/
def cntAt (n : Int) : List D_Letter → Nat
  | [] => 0
  | x :: xs => (if x.2.2.1 = n then 1 else 0) + cntAt n xs
theorem cntAt_app (n : Int) : ∀ (L M : List D_Letter), cntAt n (L ++ M) = cntAt n L + cntAt n M
  | [], M => by simp [cntAt]
  | x :: xs, M => by simp only [List.cons_append, cntAt, cntAt_app n xs M]; omega
theorem cntAt_take {n : Int} {L : List D_Letter} {k : Nat} {x : D_Letter} (h : L[k]? = some x) : cntAt n (L.take (k + 1)) = cntAt n (L.take k) + (if x.2.2.1 = n then 1 else 0) := by
  rw [List.take_add_one, h, Option.toList_some, cntAt_app]
  simp [cntAt]
theorem cntAt_le (n : Int) : ∀ L : List D_Letter, cntAt n L ≤ L.length
  | [] => Nat.le_refl _
  | x :: xs => by have := cntAt_le n xs; simp only [cntAt, List.length_cons]; split <;> omega
/-- a desk that is right -/
def DeskR (P B A : List D_Letter) (u n : Int) : Prop := PairsR P ∧ isB n 0 999900 = true ∧ LettersR P n B 6 ∧ LettersR P n A 20 ∧ isB u 0 2 = true ∧ (∀ x ∈ B, x ∈ A) ∧ u = (cntAt n A : Nat)
theorem mem_step {A : List D_Letter} {y : D_Letter} {k : Nat} {x : D_Letter} (hA : y ∉ A.take k) (hx : A[k]? = some x) (h : (x == y) = false) : y ∉ A.take (k + 1) := by
  rw [List.take_add_one, hx]
  simp only [Option.toList_some, List.mem_append, List.mem_singleton, not_or]
  exact ⟨hA, fun e => by subst e; simp at h⟩
end Go.Proofs.YtknifggpodhhdaaDoor.RepC
