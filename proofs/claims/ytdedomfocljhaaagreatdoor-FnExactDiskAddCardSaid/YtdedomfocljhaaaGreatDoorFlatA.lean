/- Common to FlatB and NFlat. -/
import Derived.Test.YtdedomfocljhaaaGreatDoorAppB
import Derived.Test.YtdedomfocljhaaaGreatDoorGen
import Derived.Lib.AppendZeros
namespace Go.Proofs.YtdedomfocljhaaaGreatDoor.RepC
open Go.RowKit RowC ValC
set_option linter.unusedVariables false
set_option linter.unusedSimpArgs false
set_option maxRecDepth 100000

theorem below_own {B : Nat} {w w' : World} {v : Value} (h : w.grownBy w' v.ownBlock) (hv : ∀ k, v.ownBlock = some k → B ≤ k) (hB : B ≤ w.heap.size) : Below B w w' :=
  ⟨h.os, h.tape, h.output, h.size, fun k hk => h.block k (Nat.lt_of_lt_of_le hk hB) (fun e => by have := hv k e.symm; omega)⟩
section
variable {α : Type} {E : Rp α} {f : α → List Value} {w w' : World} {lo : Nat} {T : TypeId} {v : Value} {L : List α}
theorem append_none {P : Program} {w : World} {base : Nat} {t ty e : TypeId} {i : TypeInfo} {size : Nat} (ht : P.underlying t = some (.slice e)) (hi : P.info? e = some i) {v : Value} {n : Nat} {xs : List Value} (hown : w.ownsRow base e size v n xs) (c : Nat) :
    (Builtin.append_ #[t, t] ty #[v, .slice none 0 c]).run P w = .ok v w := by
  rcases hown.2 with ⟨rfl, rfl⟩ | ⟨g, cap, cur, rfl, _, _, hnc, _⟩
  · simp [Builtin.append_, run_underlying ht, sizeOf, typeInfo, hi, Builtin.lenOf, Builtin.firstCells]
  · simp [Builtin.append_, run_underlying ht, sizeOf, typeInfo, hi, Builtin.lenOf, Builtin.firstCells, hnc, storeCells]
/-- the slice v, of the call's own from block lo on, shows L -/
structure FRow {α : Type} (E : Rp α) (f : α → List Value) (w : World) (lo : Nat) (T : TypeId) (v : Value) (L : List α) : Prop where
  own : w.ownsRow lo T E.size v L.length (L.flatMap f)
  blk : ∀ k, v.ownBlock = some k → lo ≤ k ∧ k < w.heap.size
theorem FRow.none_ (E : Rp α) (f : α → List Value) (w : World) (lo : Nat) (T : TypeId) : FRow E f w lo T (.slice none 0 0) [] := ⟨⟨by simp, .inl ⟨rfl, rfl⟩⟩, fun k hk => by cases hk⟩
theorem FRow.made (E : Rp α) (f : α → List Value) (w : World) (T : TypeId) : FRow E f (w.alloc (.cells #[] T)) w.heap.size T (.slice (some ⟨w.heap.size, 0, none⟩) 0 0) [] :=
  ⟨(App.made E w T).own, fun k hk => (by cases hk; exact ⟨Nat.le_refl _, by simp⟩)⟩
theorem FRow.isSlice (h : FRow E f w lo T v L) : ∃ a cap, v = .slice a L.length cap := by
  obtain ⟨_, h2⟩ := h.own
  rcases h2 with ⟨rfl, h0⟩ | ⟨g, cap, cur, rfl, _⟩
  · exact ⟨none, 0, by rw [h0]⟩
  · exact ⟨_, _, rfl⟩
theorem FRow.mv (h : FRow E f w lo T v L) (hs : w.heap.size ≤ w'.heap.size) (hb : ∀ k, v.ownBlock = some k → w'.heap[k]? = w.heap[k]?) : FRow E f w' lo T v L := by
  refine ⟨?_, fun k hk => ⟨(h.blk k hk).1, Nat.lt_of_lt_of_le (h.blk k hk).2 hs⟩⟩
  obtain ⟨h1, h2⟩ := h.own
  refine ⟨h1, ?_⟩
  rcases h2 with h2 | ⟨g, cap, cur, rfl, hlo, hg, h3⟩
  · exact .inl h2
  · exact .inr ⟨g, cap, cur, rfl, hlo, (hb g rfl).trans hg, h3⟩
theorem FRow.call (h : FRow E f w lo T v L) (hb : Below w.heap.size w w') : FRow E f w' lo T v L := h.mv hb.size fun k hk => hb.block k (h.blk k hk).2
theorem flatMap_len (hE : Ok E) (hF : Flat E f) (w : World) : ∀ M : List α, (M.flatMap f).length = M.length * E.size
  | [] => by simp
  | y :: ys => by
    have hy : (f y).length = E.size := hE.ow_len (hF.ow w (fun _ => False) y)
    simp only [List.flatMap_cons, List.length_append, List.length_cons, flatMap_len hE hF w ys, hy, Nat.add_mul, Nat.one_mul]
    omega
theorem flatMap_at (hE : Ok E) (hF : Flat E f) (w : World) : ∀ (M : List α) (q : Nat) (x : α), M[q]? = some x → ∀ j d, (f x)[j]? = some d → (M.flatMap f)[q * E.size + j]? = some d
  | [], q, x, hq, j, d, hj => by simp at hq
  | y :: ys, q, x, hq, j, d, hj => by
    have hy : (f y).length = E.size := hE.ow_len (hF.ow w (fun _ => False) y)
    simp only [List.flatMap_cons]
    cases q with
    | zero =>
      simp at hq
      subst hq
      rw [Nat.zero_mul, Nat.zero_add, List.getElem?_append_left (List.getElem?_eq_some_iff.1 hj).1]
      exact hj
    | succ q =>
      rw [List.getElem?_append_right (by rw [hy, Nat.add_mul, Nat.one_mul]; omega), hy, Nat.add_mul, Nat.one_mul, show q * E.size + E.size + j - E.size = q * E.size + j by omega]
      exact flatMap_at hE hF w ys q x (by simpa using hq) j d hj
theorem flatMap_cells (hE : Ok E) (hF : Flat E f) (w : World) (g : Nat) : ∀ (M : List α) (b : Nat), (∀ i x, M[i]? = some x → CellsAt w g (b + i * E.size) (f x)) → CellsAt w g b (M.flatMap f)
  | [], b, _ => CellsAt.nil
  | y :: ys, b, hc => by
    have hy : (f y).length = E.size := hE.ow_len (hF.ow w (fun _ => False) y)
    simp only [List.flatMap_cons]
    refine CellsAt.app.2 ⟨by simpa using hc 0 y rfl, ?_⟩
    rw [hy]
    refine flatMap_cells hE hF w g ys _ fun i x hx => ?_
    have := hc (i + 1) x (by simpa using hx)
    rw [Nat.add_mul, Nat.one_mul] at this
    rw [show b + E.size + i * E.size = b + (i * E.size + E.size) by omega]
    exact this
/-- a whole slice more -/
theorem FRow.more (hE : Ok E) (hF : Flat E f) {P : Program} (h : FRow E f w lo T v L) {t ty : TypeId} {i : TypeInfo} {z : Value} {bytes : Nat} (ht : P.underlying t = some (.slice T)) (hi : P.info? T = some i) (hz : i.zero = some z) (hsize : i.size = E.size) (hby : i.bytes = bytes) (hzs : z.cells.size = E.size) (hpos : 0 < E.size)
    {M : List α} {a : Option Addr} {cap : Nat} (hM : RdSl E w w.heap.size M a cap) (hlo : lo ≤ w.heap.size) (hL : L.length + M.length ≤ maxLen) (hLb : (L.length + M.length) * bytes ≤ 140737488355328) :
    ∃ a' c' w', (Builtin.append_ #[t, t] ty #[v, .slice a M.length cap]).run P w = .ok (.slice a' (L ++ M).length c') w' ∧ FRow E f w' lo T (.slice a' (L ++ M).length c') (L ++ M) ∧ Below lo w w' := by
  cases a with
  | none =>
    have h0 : M = [] := by
      cases M with
      | nil => rfl
      | cons y ys => obtain ⟨g, o, ha, _⟩ := hM.2.2 (by simp); cases ha
    subst h0
    obtain ⟨a', c', rfl⟩ := h.isSlice
    simp only [List.append_nil]
    exact ⟨a', c', w, append_none ht hi h.own cap, h, Below.refl _ _⟩
  | some x =>
    obtain ⟨news, hlen, hcells, hone, hnews⟩ : ∃ news : List Value, news.length = M.length * E.size ∧ (∀ j u, news[j]? = some u → w.cell? (x.add j) = some u) ∧ (∀ u ∈ news, u.oneCell' = true) ∧ news = M.flatMap f := by
      refine ⟨M.flatMap f, flatMap_len hE hF w M, fun j u hj => ?_, fun u hu => ?_, rfl⟩
      · cases M with
        | nil => simp at hj
        | cons y ys =>
          obtain ⟨g, o, ha, hg, hel⟩ := hM.2.2 (by simp)
          cases ha
          have hall := flatMap_cells hE hF w g (y :: ys) o fun i x hx => by
            obtain ⟨us, hu, hr⟩ := hel i x hx
            rw [← hF.rd hr]
            exact hu
          have hadd : (⟨g, o, none⟩ : Addr).add j = ⟨g, o + j, none⟩ := by unfold Addr.add; split <;> simp_all
          rw [hadd]
          exact hall j u hj
      · obtain ⟨y, hy, hu⟩ := List.mem_flatMap.1 hu
        exact hE.one (hE.ow_rd (B := 0) (hF.ow w (fun _ => False) y) (fun k h => h.elim)) u hu
    obtain ⟨v', w', hrun, hown, hgr, _, hat⟩ := run_append_own_at (P := P) w lo t ty T i z E.size bytes ht hi hz hsize hby hzs hpos v L.length _ h.own x M.length cap news hlen hcells hone hL hLb hlo
    rw [hnews, ← List.flatMap_append, ← List.length_append] at hown
    have hb : Below lo w w' := below_own hgr (fun k hk => (h.blk k hk).1) hlo
    have hF2 : FRow E f w' lo T v' (L ++ M) := ⟨hown, fun k hk => by
      rcases hat with e | e
      · rw [e] at hk; exact ⟨(h.blk k hk).1, Nat.lt_of_lt_of_le (h.blk k hk).2 hb.size⟩
      · rw [e] at hk
        cases hk
        rcases hown.2 with ⟨hn, _⟩ | ⟨g, cap', cur, hv, hlog, hgg, _⟩
        · rw [hn] at e; cases e
        · rw [hv] at e
          cases e
          exact ⟨hlog, (Array.getElem?_eq_some_iff.1 hgg).1⟩⟩
    obtain ⟨a', c', rfl⟩ := hF2.isSlice
    exact ⟨a', c', w', hrun, hF2, hb⟩
/-- what it is for others -/
theorem FRow.sl (hE : Ok E) (hF : Flat E f) (h : FRow E f w lo T v L) : ∃ a c, v = .slice a L.length c ∧ OwSl E w (fun k => v.ownBlock = some k) L a c := by
  obtain ⟨hx, h2⟩ := h.own
  rcases h2 with ⟨rfl, h0⟩ | ⟨g, cap, cur, rfl, hlo, hg, hnc, hm, hc, htk⟩
  · have : L = [] := List.eq_nil_of_length_eq_zero h0
    subst this
    exact ⟨none, 0, rfl, Nat.le_refl _, Nat.zero_le _, fun h => absurd h (Nat.lt_irrefl _)⟩
  · refine ⟨_, cap, rfl, hnc, hm, fun _ => ⟨g, fun _ _ => False, rfl, rfl, fun j => by simp [World.frozen?, hg], fun i k h => h.elim, fun i j k _ h => h.elim, fun q x hq => ⟨f x, fun j d hj => ?_, hF.ow _ _ _⟩⟩⟩
    have h4 := flatMap_at hE hF w L q x hq j d hj
    rw [← htk] at h4
    have h5 : cur.toList[q * E.size + j]? = some d := by
      rw [List.getElem?_take] at h4
      split at h4
      · exact h4
      · cases h4
    exact (cell_of_row w g _ cur _ _ hg).trans (by simpa using h5)
end
theorem FRow.news {α : Type} {E : Rp α} {f : α → List Value} (hE : Ok E) (hF : Flat E f) {W w : World} {lo : Nat} {T : TypeId} {v : Value} {L : List α} (h : FRow E f w lo T v L) (hlo : W.heap.size ≤ lo) (hb : Below W.heap.size W w) : NewS E L W (.returned v) w := by
  obtain ⟨a, c, rfl, ho⟩ := h.sl hE hF
  exact ⟨a, c, rfl, ho.more fun k hk => ⟨Nat.le_trans hlo (h.blk k hk).1, (h.blk k hk).2⟩, hb⟩
end Go.Proofs.YtdedomfocljhaaaGreatDoor.RepC
