/- What the functions on nodes answer, as lists. -/
import Derived.Test.YtfciojkibklkfaaNdP
import Derived.Test.YtfciojkibklkfaaSqFree2
namespace Go.Proofs.Ytfciojkibklkfaa.RepC
open Go.RowKit RowC ValC SpanC KeptC
set_option linter.unusedVariables false
set_option linter.unusedSimpArgs false

def newV (n : Int) : List D_Node := if isB n 1 6 = true then List.replicate n.toNat (1, []) else []
def rowOf (st : Int) (x : D_Node) : List D_Span := if st ≤ x.1 then [(0, 1000000)] else x.2
noncomputable def rowsV (st : Int) (L : List D_Node) : List (List D_Span) := if nodesB L = true then L.map (rowOf st) else []
def passN (now : Int) (x : D_Node) : D_Node := (x.1, x.2.filter (fun s => decide (now < s.2)))
noncomputable def passV (L : List D_Node) (now : Int) : List D_Node := if nodesB L = true then L.map (passN now) else []
/-- a list of nodes, one of which is changed -/
noncomputable def chgV (L : List D_Node) (n : Int) (ok : Bool) (chg : D_Node → Int × D_Node) : D_NodesOut :=
  if 400 < L.length then ([], 2)
  else if (nodesB L && ok) = false then ([], 1)
  else if isB n 0 ((L.length : Int) - 1) = false then ([], 6)
  else match L[n.toNat]? with
    | none => ([], 6)
    | some x => if (chg x).1 = 0 then (L.set n.toNat (chg x).2, 0) else ([], (chg x).1)
def setN (st : Int) (x : D_Node) : Int × D_Node := if x.1 = st then (10, x) else (0, (st, x.2))
def putL (L : List D_Span) (x : D_Span) : List D_Span := L.takeWhile (fun y => decide (y.2 ≤ x.1)) ++ x :: L.dropWhile (fun y => decide (y.2 ≤ x.1))
open Classical in
noncomputable def putN (x : D_Span) (now : Int) (d : D_Node) : Int × D_Node :=
  if (decide (x.1 ≤ now) || decide (now + 40 < x.2)) = true then (8, d)
  else if ¬ FreeP d.2.length (gt d.2) x.1 x.2 then (7, d)
  else if d.2.length = 4 then (9, d)
  else (0, (d.1, putL d.2 x))
def cutN (frm : Int) (d : D_Node) : Int × D_Node := if (d.2.filter (fun s => !decide (s.1 = frm))).length = d.2.length then (6, d) else (0, (d.1, d.2.filter (fun s => !decide (s.1 = frm))))

theorem gt_cons {x : D_Span} {L : List D_Span} {i : Nat} : gt (x :: L) (i + 1) = gt L i := by simp [gt]
theorem place_tw {a : Int} : ∀ {L : List D_Span} {p : Nat}, PlaceP L.length (gt L) a p → L.takeWhile (fun y => decide (y.2 ≤ a)) = L.take p ∧ L.dropWhile (fun y => decide (y.2 ≤ a)) = L.drop p
  | [], p, h => by
    have : p = 0 := by have := h.1; simpa using this
    subst this
    simp
  | x :: L, p, h => by
    cases p with
    | zero =>
      have h0 : ¬ x.2 ≤ a := h.2.2 (by simp)
      simp [List.takeWhile, List.dropWhile, h0]
    | succ p =>
      have h0 : x.2 ≤ a := h.2.1 0 (by omega)
      have hp : PlaceP L.length (gt L) a p := ⟨by have := h.1; simpa using this, fun j hj => by have := h.2.1 (j + 1) (by omega); rwa [gt_cons] at this, fun hj => by have := h.2.2 (by simpa using hj); rwa [gt_cons] at this⟩
      obtain ⟨h1, h2⟩ := place_tw hp
      simp [List.takeWhile, List.dropWhile, h0, h1, h2]
theorem putL_eq {L : List D_Span} {x : D_Span} {p : Nat} (h : PlaceP L.length (gt L) x.1 p) : putL L x = L.take p ++ x :: L.drop p := by
  obtain ⟨h1, h2⟩ := place_tw h
  unfold putL
  rw [h1, h2]
theorem gt_get {L : List D_Span} {i : Nat} (h : i < L.length) : L[i]? = some (gt L i) := by
  obtain ⟨x, hx⟩ := el_some h
  rw [gt_at hx, hx]
theorem spR_lt {n : Nat} {f : Nat → Int × Int} (h : SpR n f) : ∀ j i, i < j → j < n → (f i).1 < (f j).1 := by
  intro j
  induction j with
  | zero => intro i hi; exact absurd hi (Nat.not_lt_zero _)
  | succ j ih =>
    intro i hi hj
    have h1 := h.2 (j + 1) hj
    have h2 := h.2 j (by omega)
    have h3 := h1.2 (by omega)
    rw [Nat.add_sub_cancel] at h3
    have h4 := ((spB_iff _ _).1 h2.1)
    unfold spP at h4
    rcases Nat.lt_succ_iff_lt_or_eq.1 hi with h5 | h5
    · have := ih i h5 (by omega); omega
    · subst h5; omega
theorem filter_cut {q : D_Span → Bool} {L : List D_Span} {i : Nat} {x : D_Span} (hx : L[i]? = some x) (hq : q x = false) (hd : ∀ j y, L[j]? = some y → j ≠ i → q y = true) : L.filter q = L.take i ++ L.drop (i + 1) := by
  obtain ⟨hi, hxi⟩ := List.getElem?_eq_some_iff.1 hx
  have e : L = L.take i ++ x :: L.drop (i + 1) := by rw [← hxi, ← List.drop_eq_getElem_cons hi, List.take_append_drop]
  have h1 : (L.take i).filter q = L.take i := List.filter_eq_self.2 fun y hy => by
    obtain ⟨j, hj, rfl⟩ := List.getElem_of_mem hy
    have hj2 : j < i := by rw [List.length_take] at hj; omega
    exact hd j _ (by rw [List.getElem_take, List.getElem?_eq_getElem]) (by omega)
  have h2 : (L.drop (i + 1)).filter q = L.drop (i + 1) := List.filter_eq_self.2 fun y hy => by
    obtain ⟨j, hj, rfl⟩ := List.getElem_of_mem hy
    rw [List.length_drop] at hj
    exact hd (i + 1 + j) _ (by rw [List.getElem_drop, List.getElem?_eq_getElem]) (by omega)
  conv => lhs; rw [e]
  rw [List.filter_append, List.filter_cons, hq, h1, h2]
  simp
theorem cut_eq {L : List D_Span} (hS : SpR L.length (gt L)) {i : Nat} {x : D_Span} (hx : L[i]? = some x) : L.filter (fun s => !decide (s.1 = x.1)) = L.take i ++ L.drop (i + 1) := by
  refine filter_cut hx (by simp) fun j y hy hj => ?_
  have hne : y.1 ≠ x.1 := by
    rw [← gt_at hy, ← gt_at hx]
    rcases Nat.lt_or_gt_of_ne hj with h | h
    · have := spR_lt hS i j h (el_lt hx); omega
    · have := spR_lt hS j i h (el_lt hy); omega
  simp [hne]
end Go.Proofs.Ytfciojkibklkfaa.RepC
