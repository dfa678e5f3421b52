/- What the model's UseAdd goes by. -/
import Derived.Test.YtjhcphmehlihcaaUsB3
import Derived.Test.YtjhcphmehlihcaaUsB4
import Derived.Test.YtjhcphmehlihcaaUsU2
namespace Go.Proofs.Ytjhcphmehlihcaa.RepC
open Go.RowKit RowC ValC SpanC KeptC NameC SortC Go.ChangeShapes Go.Maps
set_option linter.unusedVariables false
set_option linter.unusedSimpArgs false
set_option maxRecDepth 100000

theorem URow.app1b {w : World} {lo : Nat} {v : Value} {L : List D_Use} (h : URow w lo v L) {x0 x1 x3 : Int} {x2 : ByteArray} {g c : Nat} (hrow : Blk w g 68 #[.int .i64 x0, .int .i64 x1, .string x2, .int .i64 x3]) (hs : x2.size ≤ maxLen) (hL : L.length ≤ 1000000) :
    ∃ v' w', (Builtin.append_ #[23, 23] 23 #[v, .slice (some ⟨g, 0, none⟩) 1 c]).run Try.prog w = .ok v' w' ∧ URow w' lo v' (L ++ [((x0, x1), x2, x3)]) ∧ w.grownBy w' v.ownBlock ∧ ∀ k, v'.ownBlock = some k → v.ownBlock = some k ∨ k = w.heap.size := by
  obtain ⟨xs, hi, h0, h1⟩ := h
  obtain ⟨i, hi', hz, hsz, hby⟩ := infoUse2
  obtain ⟨v', w', xs', Sf', hr, h2, hg, h3, h4⟩ := App.app2 (P := Try.prog) (x := ((x0, x1), x2, x3)) (us := [.int .i64 x0, .int .i64 x1, .string x2, .int .i64 x3]) (Sx := fun _ => False) (ty := 23) (c := c) R_Use_ok h1 Try.underlying23 hi' hz hsz hby rfl (by decide) (fun j u hj => hrow.at_ j (by simpa using hj)) (mkow_Use hs) (fun k hk => hk.elim) h0 (by unfold maxLen; omega) (by omega)
  have e : Sf' = fun _ _ => False := by funext i k; exact propext ⟨fun hk => (h4 i k hk).elim id id, fun hk => hk.elim⟩
  subst e
  exact ⟨v', w', hr, ⟨xs', _, Nat.le_trans h0 (Nat.le_trans h1.le hg.size), h2⟩, hg, h3⟩
noncomputable def foundB (L : List D_Use) (a : AC) (k : Nat) : Bool := by classical exact decide (a ∈ (L.take k).map ku)
theorem foundB_zero (L : List D_Use) (a : AC) : foundB L a 0 = false := by unfold foundB; simp
theorem foundB_step {L : List D_Use} {a : AC} {k : Nat} {x : D_Use} (hx : L[k]? = some x) {b : Bool} (hb : ku x = a ↔ b = true) : foundB L a (k + 1) = (foundB L a k || b) := by
  classical
  unfold foundB
  rw [List.take_add_one, hx, List.map_append]
  by_cases e : ku x = a
  · rw [hb.1 e]; simp [e]
  · have : b = false := by cases b with
      | false => rfl
      | true => exact absurd (hb.2 rfl) e
    subst this
    have e2 : ¬ a = ku x := fun h => e h.symm
    simp [e2]
theorem foundB_all (L : List D_Use) (a : AC) : foundB L a L.length = (FU L a).isSome := by
  classical
  unfold foundB
  rw [List.take_length]
  by_cases e : a ∈ L.map ku
  · rw [decide_eq_true e, FU_some.2 e]
  · rw [decide_eq_false e]
    cases h : (FU L a).isSome with
    | false => rfl
    | true => exact absurd (FU_some.1 h) e
theorem cnt_yes {L : List D_Use} {l : D_Label} {k : Nat} {x : D_Use} (hx : L[k]? = some x) (h : decide (x.1 = l) = true) : cntA l ((L.take (k + 1)).map ku) = cntA l ((L.take k).map ku) + 1 := by
  rw [List.take_add_one, hx, List.map_append]
  exact cntA_yes h
theorem cnt_no {L : List D_Use} {l : D_Label} {k : Nat} {x : D_Use} (hx : L[k]? = some x) (h : decide (x.1 = l) = false) : cntA l ((L.take (k + 1)).map ku) = cntA l ((L.take k).map ku) := by
  rw [List.take_add_one, hx, List.map_append]
  exact cntA_no h
/-- how far the walk through a right list has come -/
def insTo (L : List D_Use) (a : AC) (n : Int) (k : Nat) (put : Bool) (out : List D_Use) : Prop := out.length ≤ k + 1 ∧ (put = false → out = L.take k ∧ ∀ x ∈ L.take k, ku x ≠ a ∧ ¬ ltA a (ku x)) ∧ (put = true → out ++ L.drop k = insU L a n)
theorem insTo_zero (L : List D_Use) (a : AC) (n : Int) : insTo L a n 0 false [] := ⟨by simp, fun _ => ⟨by simp, fun x hx => by simp at hx⟩, fun h => by cases h⟩
theorem drop_at {L : List D_Use} {k : Nat} {x : D_Use} (hx : L[k]? = some x) : L.drop k = x :: L.drop (k + 1) := by
  obtain ⟨hk, rfl⟩ := List.getElem?_eq_some_iff.1 hx
  exact List.drop_eq_getElem_cons hk
theorem ins_split {L : List D_Use} {a : AC} {n : Int} {k : Nat} (h : ∀ x ∈ L.take k, ku x ≠ a ∧ ¬ ltA a (ku x)) : insU L a n = L.take k ++ insU (L.drop k) a n := by
  conv => lhs; rw [← List.take_append_drop k L]
  exact insU_app h
theorem insTo_more {L : List D_Use} {a : AC} {n : Int} {k : Nat} {out : List D_Use} {x : D_Use} (hx : L[k]? = some x) (h : insTo L a n k true out) : insTo L a n (k + 1) true (out ++ [x]) := by
  refine ⟨?_, (fun h => by cases h), fun _ => ?_⟩
  · have := h.1; simp; omega
  · have := h.2.2 rfl
    rw [drop_at hx] at this
    rw [List.append_assoc]
    exact this
theorem insTo_hit {L : List D_Use} {a : AC} {n : Int} {k : Nat} {out : List D_Use} {x : D_Use} (hx : L[k]? = some x) (h : insTo L a n k false out) (e : ku x = a) : insTo L a n (k + 1) true (out ++ [(a.1, a.2, addM x.2.2 n)]) := by
  refine ⟨?_, (fun h => by cases h), fun _ => ?_⟩
  · have := h.1; simp; omega
  · obtain ⟨h1, h2⟩ := h.2.1 rfl
    rw [h1, ins_split h2, drop_at hx, insU_hit e, List.append_assoc]
    rfl
theorem insTo_less {L : List D_Use} {a : AC} {n : Int} {k : Nat} {out : List D_Use} {x : D_Use} (hx : L[k]? = some x) (h : insTo L a n k false out) (e : ku x ≠ a) (e2 : ltA a (ku x)) : insTo L a n (k + 1) true (out ++ [(a.1, a.2, n)] ++ [x]) := by
  refine ⟨?_, (fun h => by cases h), fun _ => ?_⟩
  · obtain ⟨h1, h2⟩ := h.2.1 rfl
    rw [h1]
    have : k < L.length := (List.getElem?_eq_some_iff.1 hx).1
    simp
    omega
  · obtain ⟨h1, h2⟩ := h.2.1 rfl
    rw [h1, ins_split h2, drop_at hx, insU_less e e2]
    simp
theorem insTo_go {L : List D_Use} {a : AC} {n : Int} {k : Nat} {out : List D_Use} {x : D_Use} (hx : L[k]? = some x) (h : insTo L a n k false out) (e : ku x ≠ a) (e2 : ¬ ltA a (ku x)) : insTo L a n (k + 1) false (out ++ [x]) := by
  have ht : L.take (k + 1) = L.take k ++ [x] := by rw [List.take_add_one, hx]; rfl
  obtain ⟨h1, h2⟩ := h.2.1 rfl
  refine ⟨?_, fun _ => ⟨by rw [h1, ht], fun y hy => ?_⟩, fun h => by cases h⟩
  · have := h.1; simp; omega
  · rw [ht] at hy
    rcases List.mem_append.1 hy with hy | hy
    · exact h2 y hy
    · simp at hy
      rw [hy]
      exact ⟨e, e2⟩
theorem insTo_put {L : List D_Use} {a : AC} {n : Int} {out : List D_Use} (h : insTo L a n L.length true out) : out = insU L a n := by
  have := h.2.2 rfl
  simpa using this
theorem insTo_end {L : List D_Use} {a : AC} {n : Int} {out : List D_Use} (h : insTo L a n L.length false out) : out ++ [(a.1, a.2, n)] = insU L a n := by
  obtain ⟨h1, h2⟩ := h.2.1 rfl
  rw [ins_split h2, h1, List.drop_length, insU_nil]
/-- the row under way, the use that is to be put in, what is older -/
def RowS (w7 : World) (lo gx : Nat) (l0 l1 : Int) (s : ByteArray) (v : Value) (out : List D_Use) (u : Int) (w : World) : Prop := URow w lo v out ∧ v.ownBlock ≠ some gx ∧ Blk w gx 68 #[.int .i64 l0, .int .i64 l1, .string s, .int .i64 u] ∧ Below lo w7 w ∧ lo ≤ gx
section
variable {w7 w w' : World} {lo gx : Nat} {l0 l1 u : Int} {s : ByteArray} {v : Value} {out : List D_Use}
theorem RowS.call (h : RowS w7 lo gx l0 l1 s v out u w) (hb : Below w.heap.size w w') : RowS w7 lo gx l0 l1 s v out u w' :=
  ⟨h.1.call hb, h.2.1, h.2.2.1.call hb, h.2.2.2.1.trans (hb.mono (Nat.le_of_lt (Nat.lt_of_le_of_lt h.2.2.2.2 h.2.2.1.lt))), h.2.2.2.2⟩
theorem RowS.set (h : RowS w7 lo gx l0 l1 s v out u w) (u' : Int) : RowS w7 lo gx l0 l1 s v out u' (w.setCell ⟨gx, 3, none⟩ (.int .i64 u')) := by
  obtain ⟨⟨xs, hi, h0, h1⟩, h2, h3, h4, h5⟩ := h
  refine ⟨⟨xs, hi, h0, h1.mv2 R_Use_ok (by simp) (fun k hk => Below.heap_setCell w ⟨gx, 3, none⟩ _ k (fun e => h2 (by rw [hk]; exact congrArg some e))) (fun i k hk => hk.elim)⟩, h2, ?_, h4.setCell h5 _, h5⟩
  exact (h3.set 3 (.int .i64 u')).as rfl
theorem wpList_row {ops : Array Oper} {rest : List Oper} {o : Oper} {a : Act} {Q : Exit → Act → World → Prop} (hgd : o.guard = none) (p q : Operand) (ho : o.op = .call { callee := .builtin .append, args := #[p, q], argTypes := #[23, 23] }) (hty : o.type = 23)
    {g c : Nat} {y0 y1 y3 : Int} {y2 : ByteArray} (hs : a.eval p = v) (hx : a.eval q = .slice (some ⟨g, 0, none⟩) 1 c) (hS : RowS w7 lo gx l0 l1 s v out u w) (hrow : Blk w g 68 #[.int .i64 y0, .int .i64 y1, .string y2, .int .i64 y3]) (hb : y2.size ≤ maxLen) (hL : out.length ≤ 1000000)
    (h : ∀ v' w', RowS w7 lo gx l0 l1 s v' (out ++ [((y0, y1), y2, y3)]) u w' → Below lo w w' → wpList Try.prog ops Q rest (a.put o.dst v') w') : wpList Try.prog ops Q (o :: rest) a w := by
  obtain ⟨v', w', hr, hv, hg, hown⟩ := hS.1.app1b (c := c) hrow hb hL
  have hlo : lo ≤ w.heap.size := Nat.le_of_lt (Nat.lt_of_le_of_lt hS.2.2.2.2 hS.2.2.1.lt)
  have hlow : Below lo w w' := grow_low hg (fun k hk => (hS.1.blk hk).1) hlo
  refine wpList_app hgd p q 23 ho hs hx (by rw [hty]; exact hr) (h v' w' ⟨hv, fun e => ?_, (hg.block gx hS.2.2.1.lt (fun e => hS.2.1 e.symm)).trans hS.2.2.1, hS.2.2.2.1.trans hlow, hS.2.2.2.2⟩ hlow)
  rcases hown gx e with e2 | e2
  · exact hS.2.1 e2
  · have := hS.2.2.1.lt
    omega
end
macro "bel" : tactic => `(tactic| first | exact Below.refl _ _ | exact (Below.refl _ _).drew | exact (Below.refl _ _).drew.drew | exact bdrewN (Below.refl _ _) _ | exact (Below.refl _ _).alloc (Nat.le_refl _) _ | exact ((Below.refl _ _).drew).alloc (Nat.le_refl _) _ | exact ((Below.refl _ _).drew.drew).alloc (Nat.le_refl _) _ | exact (bdrewN (Below.refl _ _) _).alloc (Nat.le_refl _) _)
end Go.Proofs.Ytjhcphmehlihcaa.RepC
