/- Of this claim's texts the part 25: MlTk MlTb. -/
import Derived.Test.YtlgflddljhldhaaGreatPT21
import Derived.Test.YtlgflddljhldhaaGreatPT23
section
namespace Go.Proofs.YtlgflddljhldhaaGreat.RepC
open Go.RowKit RowC ValC SpanC KeptC CfC
set_option linter.unusedVariables false
set_option linter.unusedSimpArgs false
def tickB (b : D_Box) : D_Box := ([], b.1, b.2.2)
def tickTo (M : List D_Box) (k : Nat) : List D_Box := (M.take k).map tickB ++ M.drop k
theorem tickTo_zero (M : List D_Box) : tickTo M 0 = M := by simp [tickTo]
theorem tickTo_all (M : List D_Box) : tickTo M M.length = M.map tickB := by simp [tickTo]
theorem tickTo_len (M : List D_Box) (k : Nat) : (tickTo M k).length = M.length := by
  unfold tickTo
  rw [List.length_append, List.length_map, List.length_take, List.length_drop]
  omega
theorem tickTo_at {M : List D_Box} {k : Nat} {x : D_Box} (hx : M[k]? = some x) : (tickTo M k)[k]? = some x := by
  have hk := (List.getElem?_eq_some_iff.1 hx).1
  unfold tickTo
  rw [List.getElem?_append_right (by rw [List.length_map, List.length_take]; omega), List.length_map, List.length_take, Nat.min_eq_left (by omega), Nat.sub_self, List.getElem?_drop, Nat.add_zero]
  exact hx
theorem tickTo_step {M : List D_Box} {k : Nat} {x : D_Box} (hx : M[k]? = some x) : (tickTo M k).set k (tickB x) = tickTo M (k + 1) := by
  have hk := (List.getElem?_eq_some_iff.1 hx).1
  apply List.ext_getElem?
  intro i
  unfold tickTo
  rw [List.getElem?_set]
  have hl : ((M.take k).map tickB).length = k := by rw [List.length_map, List.length_take]; omega
  have hl2 : ((M.take (k + 1)).map tickB).length = k + 1 := by rw [List.length_map, List.length_take]; omega
  by_cases e : k = i
  · subst e
    rw [if_pos rfl, if_pos (by rw [List.length_append, hl, List.length_drop]; omega), List.getElem?_append_left (by omega), List.getElem?_map, List.getElem?_take, if_pos (by omega), hx]
    rfl
  · rw [if_neg e]
    by_cases h : i < k
    · rw [List.getElem?_append_left (by omega), List.getElem?_append_left (by omega), List.getElem?_map, List.getElem?_map, List.getElem?_take, List.getElem?_take, if_pos h, if_pos (by omega)]
    · rw [List.getElem?_append_right (by omega), List.getElem?_append_right (by omega), hl, hl2, List.getElem?_drop, List.getElem?_drop]
      congr 1
      omega
noncomputable def tickV (d : D_Config) (m : D_Mail) : D_MailOut := if mailB d m = true then (m.map tickB, 0) else ([], 1)
theorem tickV_yes {d : D_Config} {m : D_Mail} (h : mailB d m = true) : tickV d m = (m.map tickB, 0) := if_pos h
theorem tickV_no {d : D_Config} {m : D_Mail} (h : mailB d m = false) : tickV d m = ([], 1) := if_neg (by rw [h]; decide)
theorem nil_ow {α : Type} {E : Rp α} {W : World} {S : Nat → Prop} : OwSl E W S ([] : List α) none 0 := ⟨Nat.le_refl _, by unfold maxLen; omega, fun h => absurd h (Nat.lt_irrefl _)⟩
theorem out_code {W : World} {S : Nat → Prop} (n : Int) : R_MailOut.ow W S ([], n) [.slice none 0 0, .int .i64 n] := mkow_MailOut (L0 := []) (T0 := fun _ => False) (fun k h => h.elim) nil_ow
theorem row_box {w : World} {S : Nat → Prop} {L : List D_Box} {g k : Nat} {Sf : Nat → Nat → Prop} {x : D_Box} (h : Row R_Box w S L g Sf) (hS : ∀ q, S q → q < w.heap.size) (hx : L[k]? = some x) :
    ∃ a0 c0 a1 c1 a2 c2, w.cell? ⟨g, k * 3, none⟩ = some (.slice a0 x.1.length c0) ∧ w.cell? ⟨g, k * 3 + 1, none⟩ = some (.slice a1 x.2.1.length c1) ∧ w.cell? ⟨g, k * 3 + 2, none⟩ = some (.slice a2 x.2.2.length c2) ∧ RdSl I w w.heap.size x.1 a0 c0 ∧
      ∀ c, x.1.length ≤ c → c ≤ maxLen → Row R_Box ((w.setCell ⟨g, k * 3 + 1, none⟩ (.slice a0 x.1.length c)).setCell ⟨g, k * 3, none⟩ (.slice none 0 0)) S (L.set k (tickB x)) g Sf := by
  obtain ⟨us, hu, ho⟩ := h.el k x hx
  obtain ⟨F, G, N⟩ := x
  obtain ⟨a0, c0, a1, c1, a2, c2, T0, T1, T2, rfl, i0, i1, i2, d01, d02, d12, k0, k1, k2⟩ := ow_Box ho
  have e0 : w.cell? ⟨g, k * 3, none⟩ = some (.slice a0 F.length c0) := by simpa [size_BoxS] using hu 0 _ rfl
  have e1 : w.cell? ⟨g, k * 3 + 1, none⟩ = some (.slice a1 G.length c1) := by simpa [size_BoxS] using hu 1 _ rfl
  have e2 : w.cell? ⟨g, k * 3 + 2, none⟩ = some (.slice a2 N.length c2) := by simpa [size_BoxS] using hu 2 _ rfl
  refine ⟨a0, c0, a1, c1, a2, c2, e0, e1, e2, k0.rd I_ok fun q hq => hS q (h.sub k q (i0 q hq)).1, fun c hc1 hc2 => ?_⟩
  have far : ∀ q, q ≠ g → ((w.setCell ⟨g, k * 3 + 1, none⟩ (.slice a0 F.length c)).setCell ⟨g, k * 3, none⟩ (.slice none 0 0)).heap[q]? = w.heap[q]? := fun q hq => (Below.heap_setCell _ _ _ _ hq).trans (Below.heap_setCell _ _ _ _ hq)
  have kf : ∀ T : Nat → Prop, (∀ q, T q → Sf k q) → ∀ q, T q → ((w.setCell ⟨g, k * 3 + 1, none⟩ (.slice a0 F.length c)).setCell ⟨g, k * 3, none⟩ (.slice none 0 0)).heap[q]? = w.heap[q]? := fun T hT q hq => far q (h.sub k q (hT q hq)).2
  have k0c : OwSl I w T0 F a0 c := ⟨hc1, hc2, k0.2.2⟩
  have hmul : (k + 1) * R_Box.size = k * 3 + 3 := by rw [size_BoxS]; omega
  have hmul0 : k * R_Box.size = k * 3 := by rw [size_BoxS]
  refine h.set R_Box_ok hS (us := [.slice none 0 0, .slice a0 F.length c, .slice a2 N.length c2]) (Upd.trans (Upd.set w _ (by rw [hmul, hmul0]; omega) _) (Upd.set _ _ (by rw [hmul, hmul0]; omega) _)) (fun j d hj => ?_) ?_
  · rw [hmul0]
    match j, hj with
    | 0, hj =>
      simp at hj
      subst hj
      exact World.cell?_setCell_same' _ _ _ (by rw [Nat.add_zero, World.cell?_setCell_other _ _ _ _ (fun e => by injection e with _ e2; omega), e0]; rfl)
    | 1, hj =>
      simp at hj
      subst hj
      rw [World.cell?_setCell_other _ _ _ _ (fun e => by injection e with _ e2; omega)]
      exact World.cell?_setCell_same' _ _ _ (by rw [e1]; rfl)
    | 2, hj =>
      simp at hj
      subst hj
      rw [World.cell?_setCell_other _ _ _ _ (fun e => by injection e with _ e2; omega), World.cell?_setCell_other _ _ _ _ (fun e => by injection e with _ e2; omega)]
      exact e2
    | j + 3, hj => simp at hj
  · exact mkow_Box (L0 := []) (L1 := F) (L2 := N) (T0 := fun _ => False) (T1 := T0) (T2 := T2) (fun q hq => hq.elim) i0 i2 (fun q hq => hq.elim) (fun q hq => hq.elim) d02 nil_ow (k0c.keep I_ok (kf T0 i0)) (k2.keep R_Note_ok (kf T2 i2))
end Go.Proofs.YtlgflddljhldhaaGreat.RepC
end
section
namespace Go.Proofs.YtlgflddljhldhaaGreat.RepC
open Go.RowKit RowC ValC SpanC KeptC CfC
set_option linter.unusedVariables false
theorem box_small {d : D_Config} {m : D_Mail} (h : mailP d m) : ∀ x ∈ m, x.1.length ≤ 1048576 ∧ x.2.1.length ≤ 1048576 ∧ x.2.2.length ≤ 1048576 := fun x hx => by
  obtain ⟨i, hi⟩ := List.getElem?_of_mem hx
  obtain ⟨p, _, hb, _, h3⟩ := mail_pair h hi
  have h1 := hb.1
  have h2 := hb.2.1
  have h4 := hb.2.2.1
  exact ⟨by omega, by omega, by omega⟩
theorem mail_len {d : D_Config} {m : D_Mail} (h : mailP d m) : m.length ≤ 4 := by rw [h.2.1]; exact pairs4 h
end Go.Proofs.YtlgflddljhldhaaGreat.RepC
end
