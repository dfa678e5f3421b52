/- Of this claim's texts the part 1: NFlat NARow NdK ResB Sp SpPairs SpD SqRight NdP NdX SqImpl SqImpl2 SqFree SqFree2 NdV NdR. -/
import Derived.Lib.AppendZeros
import Derived.Laws.IdiomCopy
import Derived.Lib.SliceRun
import Derived.Test.YtfciojkibklkfaaRows
import Derived.WalkKit
import Derived.ProofKit
import Derived.Below
import Derived.LoopTactic
import Derived.BigQuiet
import Derived.Deep.QuietTactic
import Derived.Deep.RegionWith
import Derived.Deep.RegionHeld3
import Derived.Deep.DeepCutAuto
import Derived.RegionTactic
import Derived.WalkSpells
import Derived.WalkLawsBesides
import Derived.IntWalk
import Derived.Lib.Hide
import Derived.Laws.MakeOwn
import Derived.Laws.Entries
import Derived.Test.YtfciojkibklkfaaPT0
section
namespace Go.Proofs.Ytfciojkibklkfaa.RepC
open Go.RowKit RowC ValC
set_option linter.unusedVariables false
set_option linter.unusedSimpArgs false
set_option maxRecDepth 100000
theorem below_own {B : Nat} {w w' : World} {v : Value} (h : w.grownBy w' v.ownBlock) (hv : ∀ k, v.ownBlock = some k → B ≤ k) (hB : B ≤ w.heap.size) : Below B w w' :=
  ⟨h.os, h.tape, h.output, h.size, fun k hk => h.block k (Nat.lt_of_lt_of_le hk hB) (fun e => by have := hv k e.symm; omega)⟩
theorem append_none {P : Program} {w : World} {base : Nat} {t ty e : TypeId} {i : TypeInfo} {size : Nat} (ht : P.underlying t = some (.slice e)) (hi : P.info? e = some i) {v : Value} {n : Nat} {xs : List Value} (hown : w.ownsRow base e size v n xs) (c : Nat) :
    (Builtin.append_ #[t, t] ty #[v, .slice none 0 c]).run P w = .ok v w := by
  rcases hown.2 with ⟨rfl, rfl⟩ | ⟨g, cap, cur, rfl, _, _, hnc, _⟩
  · simp [Builtin.append_, run_underlying ht, sizeOf, typeInfo, hi, Builtin.lenOf, Builtin.firstCells]
  · simp [Builtin.append_, run_underlying ht, sizeOf, typeInfo, hi, Builtin.lenOf, Builtin.firstCells, hnc, storeCells]
structure FRow {α : Type} (E : Rp α) (f : α → List Value) (w : World) (lo : Nat) (T : TypeId) (v : Value) (L : List α) : Prop where
  own : w.ownsRow lo T E.size v L.length (L.flatMap f)
  blk : ∀ k, v.ownBlock = some k → lo ≤ k ∧ k < w.heap.size
section
variable {α : Type} {E : Rp α} {f : α → List Value} {w w' : World} {lo : Nat} {T : TypeId} {v : Value} {L : List α}
theorem FRow.none_ (E : Rp α) (f : α → List Value) (w : World) (lo : Nat) (T : TypeId) : FRow E f w lo T (.slice none 0 0) [] := ⟨⟨by simp, .inl ⟨rfl, rfl⟩⟩, fun k hk => by cases hk⟩
theorem FRow.made (E : Rp α) (f : α → List Value) (w : World) (T : TypeId) : FRow E f (w.alloc (.cells #[] T)) w.heap.size T (.slice (some ⟨w.heap.size, 0, none⟩) 0 0) [] :=
  ⟨(App.made E w T).own, fun k hk => (by cases hk; exact ⟨Nat.le_refl _, by simp⟩)⟩
theorem FRow.isSlice (h : FRow E f w lo T v L) : ∃ a cap, v = .slice a L.length cap := by
  obtain ⟨_, h2⟩ := h.own
  rcases h2 with ⟨rfl, h0⟩ | ⟨g, cap, cur, rfl, _⟩
  · exact ⟨none, 0, by rw [h0]⟩
  · exact ⟨_, _, rfl⟩
theorem FRow.mv (h : FRow E f w lo T v L) (hs : w.heap.size ≤ w'.heap.size) (hb : ∀ k, v.ownBlock = some k → w'.heap[k]? = w.heap[k]?) : FRow E f w' lo T v L := by
  refine ⟨?_, fun k hk => ⟨(h.blk k hk).1, Nat.lt_of_lt_of_le (h.blk k hk).2 hs⟩⟩
  obtain ⟨h1, h2⟩ := h.own
  refine ⟨h1, ?_⟩
  rcases h2 with h2 | ⟨g, cap, cur, rfl, hlo, hg, h3⟩
  · exact .inl h2
  · exact .inr ⟨g, cap, cur, rfl, hlo, (hb g rfl).trans hg, h3⟩
theorem FRow.call (h : FRow E f w lo T v L) (hb : Below w.heap.size w w') : FRow E f w' lo T v L := h.mv hb.size fun k hk => hb.block k (h.blk k hk).2
theorem flatMap_len (hE : Ok E) (hF : Flat E f) (w : World) : ∀ M : List α, (M.flatMap f).length = M.length * E.size
  | [] => by simp
  | y :: ys => by
    have hy : (f y).length = E.size := hE.ow_len (hF.ow w (fun _ => False) y)
    simp only [List.flatMap_cons, List.length_append, List.length_cons, flatMap_len hE hF w ys, hy, Nat.add_mul, Nat.one_mul]
    omega
theorem flatMap_at (hE : Ok E) (hF : Flat E f) (w : World) : ∀ (M : List α) (q : Nat) (x : α), M[q]? = some x → ∀ j d, (f x)[j]? = some d → (M.flatMap f)[q * E.size + j]? = some d
  | [], q, x, hq, j, d, hj => by simp at hq
  | y :: ys, q, x, hq, j, d, hj => by
    have hy : (f y).length = E.size := hE.ow_len (hF.ow w (fun _ => False) y)
    simp only [List.flatMap_cons]
    cases q with
    | zero =>
      simp at hq
      subst hq
      rw [Nat.zero_mul, Nat.zero_add, List.getElem?_append_left (List.getElem?_eq_some_iff.1 hj).1]
      exact hj
    | succ q =>
      rw [List.getElem?_append_right (by rw [hy, Nat.add_mul, Nat.one_mul]; omega), hy, Nat.add_mul, Nat.one_mul, show q * E.size + E.size + j - E.size = q * E.size + j by omega]
      exact flatMap_at hE hF w ys q x (by simpa using hq) j d hj
theorem flatMap_cells (hE : Ok E) (hF : Flat E f) (w : World) (g : Nat) : ∀ (M : List α) (b : Nat), (∀ i x, M[i]? = some x → CellsAt w g (b + i * E.size) (f x)) → CellsAt w g b (M.flatMap f)
  | [], b, _ => CellsAt.nil
  | y :: ys, b, hc => by
    have hy : (f y).length = E.size := hE.ow_len (hF.ow w (fun _ => False) y)
    simp only [List.flatMap_cons]
    refine CellsAt.app.2 ⟨by simpa using hc 0 y rfl, ?_⟩
    rw [hy]
    refine flatMap_cells hE hF w g ys _ fun i x hx => ?_
    have := hc (i + 1) x (by simpa using hx)
    rw [Nat.add_mul, Nat.one_mul] at this
    rw [show b + E.size + i * E.size = b + (i * E.size + E.size) by omega]
    exact this
theorem FRow.more (hE : Ok E) (hF : Flat E f) {P : Program} (h : FRow E f w lo T v L) {t ty : TypeId} {i : TypeInfo} {z : Value} {bytes : Nat} (ht : P.underlying t = some (.slice T)) (hi : P.info? T = some i) (hz : i.zero = some z) (hsize : i.size = E.size) (hby : i.bytes = bytes) (hzs : z.cells.size = E.size) (hpos : 0 < E.size)
    {M : List α} {a : Option Addr} {cap : Nat} (hM : RdSl E w w.heap.size M a cap) (hlo : lo ≤ w.heap.size) (hL : L.length + M.length ≤ maxLen) (hLb : (L.length + M.length) * bytes ≤ 140737488355328) :
    ∃ a' c' w', (Builtin.append_ #[t, t] ty #[v, .slice a M.length cap]).run P w = .ok (.slice a' (L ++ M).length c') w' ∧ FRow E f w' lo T (.slice a' (L ++ M).length c') (L ++ M) ∧ Below lo w w' := by
  cases a with
  | none =>
    have h0 : M = [] := by
      cases M with
      | nil => rfl
      | cons y ys => obtain ⟨g, o, ha, _⟩ := hM.2.2 (by simp); cases ha
    subst h0
    obtain ⟨a', c', rfl⟩ := h.isSlice
    simp only [List.append_nil]
    exact ⟨a', c', w, append_none ht hi h.own cap, h, Below.refl _ _⟩
  | some x =>
    obtain ⟨news, hlen, hcells, hone, hnews⟩ : ∃ news : List Value, news.length = M.length * E.size ∧ (∀ j u, news[j]? = some u → w.cell? (x.add j) = some u) ∧ (∀ u ∈ news, u.oneCell' = true) ∧ news = M.flatMap f := by
      refine ⟨M.flatMap f, flatMap_len hE hF w M, fun j u hj => ?_, fun u hu => ?_, rfl⟩
      · cases M with
        | nil => simp at hj
        | cons y ys =>
          obtain ⟨g, o, ha, hg, hel⟩ := hM.2.2 (by simp)
          cases ha
          have hall := flatMap_cells hE hF w g (y :: ys) o fun i x hx => by
            obtain ⟨us, hu, hr⟩ := hel i x hx
            rw [← hF.rd hr]
            exact hu
          have hadd : (⟨g, o, none⟩ : Addr).add j = ⟨g, o + j, none⟩ := by unfold Addr.add; split <;> simp_all
          rw [hadd]
          exact hall j u hj
      · obtain ⟨y, hy, hu⟩ := List.mem_flatMap.1 hu
        exact hE.one (hE.ow_rd (B := 0) (hF.ow w (fun _ => False) y) (fun k h => h.elim)) u hu
    obtain ⟨v', w', hrun, hown, hgr, _, hat⟩ := run_append_own_at (P := P) w lo t ty T i z E.size bytes ht hi hz hsize hby hzs hpos v L.length _ h.own x M.length cap news hlen hcells hone hL hLb hlo
    rw [hnews, ← List.flatMap_append, ← List.length_append] at hown
    have hb : Below lo w w' := below_own hgr (fun k hk => (h.blk k hk).1) hlo
    have hF2 : FRow E f w' lo T v' (L ++ M) := ⟨hown, fun k hk => by
      rcases hat with e | e
      · rw [e] at hk; exact ⟨(h.blk k hk).1, Nat.lt_of_lt_of_le (h.blk k hk).2 hb.size⟩
      · rw [e] at hk
        cases hk
        rcases hown.2 with ⟨hn, _⟩ | ⟨g, cap', cur, hv, hlog, hgg, _⟩
        · rw [hn] at e; cases e
        · rw [hv] at e
          cases e
          exact ⟨hlog, (Array.getElem?_eq_some_iff.1 hgg).1⟩⟩
    obtain ⟨a', c', rfl⟩ := hF2.isSlice
    exact ⟨a', c', w', hrun, hF2, hb⟩
theorem FRow.sl (hE : Ok E) (hF : Flat E f) (h : FRow E f w lo T v L) : ∃ a c, v = .slice a L.length c ∧ OwSl E w (fun k => v.ownBlock = some k) L a c := by
  obtain ⟨hx, h2⟩ := h.own
  rcases h2 with ⟨rfl, h0⟩ | ⟨g, cap, cur, rfl, hlo, hg, hnc, hm, hc, htk⟩
  · have : L = [] := List.eq_nil_of_length_eq_zero h0
    subst this
    exact ⟨none, 0, rfl, Nat.le_refl _, Nat.zero_le _, fun h => absurd h (Nat.lt_irrefl _)⟩
  · refine ⟨_, cap, rfl, hnc, hm, fun _ => ⟨g, fun _ _ => False, rfl, rfl, fun j => by simp [World.frozen?, hg], fun i k h => h.elim, fun i j k _ h => h.elim, fun q x hq => ⟨f x, fun j d hj => ?_, hF.ow _ _ _⟩⟩⟩
    have h4 := flatMap_at hE hF w L q x hq j d hj
    rw [← htk] at h4
    have h5 : cur.toList[q * E.size + j]? = some d := by
      rw [List.getElem?_take] at h4
      split at h4
      · exact h4
      · cases h4
    exact (cell_of_row w g _ cur _ _ hg).trans (by simpa using h5)
end
theorem infoOf {t : TypeId} {z : Value} {n b : Nat} (h : (Try.prog.info? t).map (fun i => (i.zero, i.size, i.bytes)) = some (some z, n, b)) : ∃ i, Try.prog.info? t = some i ∧ i.zero = some z ∧ i.size = n ∧ i.bytes = b := by
  cases hx : Try.prog.info? t with
  | none => rw [hx] at h; simp at h
  | some i => rw [hx] at h; simp at h; exact ⟨i, rfl, h.1, h.2.1, h.2.2⟩
theorem infoSpan : ∃ i, Try.prog.info? 25 = some i ∧ i.zero = some (.agg #[.int .i64 0, .int .i64 0]) ∧ i.size = 2 ∧ i.bytes = 16 := infoOf (by kernel_rfl)
theorem infoNode : ∃ i, Try.prog.info? 42 = some i ∧ i.zero = some (.agg #[.int .i64 0, .slice none 0 0]) ∧ i.size = 2 ∧ i.bytes = 32 := infoOf (by kernel_rfl)
theorem flat_Span : Flat R_Span (fun x => [.int .i64 x.1, .int .i64 x.2]) := ⟨fun {W B x us} h => by obtain ⟨a, b⟩ := x; exact rd_Span h, fun W S x => by obtain ⟨a, b⟩ := x; exact mkow_Span⟩
abbrev XRow (w : World) (lo : Nat) (v : Value) (L : List D_Span) : Prop := FRow R_Span (fun x => [.int .i64 x.1, .int .i64 x.2]) w lo 25 v L
theorem XRow.more {w : World} {lo : Nat} {v : Value} {L M : List D_Span} {a : Option Addr} {cap : Nat} (h : XRow w lo v L) (hM : RdSl R_Span w w.heap.size M a cap) (hlo : lo ≤ w.heap.size) (hL : L.length + M.length ≤ 8796093022208) :
    ∃ a' c' w', (Builtin.append_ #[39, 39] 39 #[v, .slice a M.length cap]).run Try.prog w = .ok (.slice a' (L ++ M).length c') w' ∧ XRow w' lo (.slice a' (L ++ M).length c') (L ++ M) ∧ Below lo w w' := by
  obtain ⟨i, hi', hz, hs, hby⟩ := infoSpan
  exact FRow.more R_Span_ok flat_Span h Try.underlying39 hi' hz hs hby rfl (by decide) hM hlo (by unfold maxLen; omega) (by omega)
theorem rd_oneS {w : World} {g : Nat} (x0 x1 : Int) (h : Blk w g 25 #[.int .i64 x0, .int .i64 x1]) : RdSl R_Span w w.heap.size [(x0, x1)] (some ⟨g, 0, none⟩) 1 := by
  refine ⟨Nat.le_refl _, by unfold maxLen; omega, fun _ => ⟨g, 0, rfl, h.lt, fun i x hx => ?_⟩⟩
  cases i with
  | zero =>
    simp at hx
    subst hx
    refine ⟨[.int .i64 x0, .int .i64 x1], fun j c hj => ?_, mkrd_Span⟩
    simpa using h.at_ j (by simpa using hj)
  | succ i => simp at hx
theorem FRow.news {α : Type} {E : Rp α} {f : α → List Value} (hE : Ok E) (hF : Flat E f) {W w : World} {lo : Nat} {T : TypeId} {v : Value} {L : List α} (h : FRow E f w lo T v L) (hlo : W.heap.size ≤ lo) (hb : Below W.heap.size W w) : NewS E L W (.returned v) w := by
  obtain ⟨a, c, rfl, ho⟩ := h.sl hE hF
  exact ⟨a, c, rfl, ho.more fun k hk => ⟨Nat.le_trans hlo (h.blk k hk).1, (h.blk k hk).2⟩, hb⟩
end Go.Proofs.Ytfciojkibklkfaa.RepC
end
section
namespace Go.Proofs.Ytfciojkibklkfaa.RepC
open Go.RowKit RowC ValC
set_option linter.unusedVariables false
set_option linter.unusedSimpArgs false
set_option maxRecDepth 100000
def AppS {α : Type} (E : Rp α) (w : World) (base top : Nat) (T : TypeId) (v : Value) (L : List α) (S : Nat → Prop) : Prop :=
  ∃ lo hi xs Sf, base ≤ lo ∧ lo ≤ hi ∧ hi ≤ top ∧ App E w lo hi T v L xs Sf ∧ ∀ k, S k ↔ (v.ownBlock = some k ∨ ∃ i, Sf i k)
section
variable {α : Type} {E : Rp α} {w w' : World} {base top : Nat} {T : TypeId} {v : Value} {L : List α} {S : Nat → Prop}
theorem AppS.none_ (E : Rp α) (w : World) (T : TypeId) : AppS E w w.heap.size w.heap.size T (.slice none 0 0) [] (fun _ => False) :=
  ⟨_, _, _, _, Nat.le_refl _, Nat.le_refl _, Nat.le_refl _, App.none_ E w T (Nat.le_refl _), fun k => ⟨fun h => h.elim, fun h => h.elim (fun h => by cases h) fun ⟨_, h⟩ => h⟩⟩
theorem AppS.bnd (h : AppS E w base top T v L S) {k : Nat} (hk : S k) : base ≤ k ∧ k < top := by
  obtain ⟨lo, hi, xs, Sf, h1, h2, h3, hA, hS⟩ := h
  rcases (hS k).1 hk with h | ⟨i, h⟩
  · have := hA.blk k h; omega
  · have := hA.sub i k h; omega
theorem AppS.isSlice (h : AppS E w base top T v L S) : ∃ a c, v = .slice a L.length c := by
  obtain ⟨lo, hi, xs, Sf, h1, h2, h3, hA, hS⟩ := h
  exact hA.isSlice
theorem AppS.mv (hE : Ok E) (h : AppS E w base top T v L S) (hs : w.heap.size ≤ w'.heap.size) (hb : ∀ k, S k → w'.heap[k]? = w.heap[k]?) : AppS E w' base top T v L S := by
  obtain ⟨lo, hi, xs, Sf, h1, h2, h3, hA, hS⟩ := h
  exact ⟨lo, hi, xs, Sf, h1, h2, h3, hA.mv2 hE hs (fun k hk => hb k ((hS k).2 (.inl hk))) (fun i k hk => hb k ((hS k).2 (.inr ⟨i, hk⟩))), hS⟩
theorem AppS.call (hE : Ok E) (h : AppS E w base top T v L S) (ht : top ≤ w.heap.size) (hb : Below w.heap.size w w') : AppS E w' base top T v L S :=
  h.mv hE hb.size fun k hk => hb.block k (Nat.lt_of_lt_of_le (h.bnd hk).2 ht)
theorem AppS.rise {top' : Nat} (h : AppS E w base top T v L S) (ht : top ≤ top') : AppS E w base top' T v L S := by
  obtain ⟨lo, hi, xs, Sf, h1, h2, h3, hA, hS⟩ := h
  exact ⟨lo, hi, xs, Sf, h1, h2, Nat.le_trans h3 ht, hA, hS⟩
theorem AppS.done (hE : Ok E) (h : AppS E w base top T v L S) : ∃ a c, v = .slice a L.length c ∧ OwSl E w (Rg base top) L a c := by
  obtain ⟨lo, hi, xs, Sf, h1, h2, h3, hA, hS⟩ := h
  obtain ⟨a, c, rfl, hO⟩ := hA.done
  exact ⟨a, c, rfl, hO.more (fun k hk => ⟨Nat.le_trans h1 hk.1, Nat.lt_of_lt_of_le hk.2 h3⟩)⟩
theorem AppS.app {P : Program} (hE : Ok E) (h : AppS E w base top T v L S) {t ty : TypeId} {i : TypeInfo} {z : Value} {bytes : Nat} (ht : P.underlying t = some (.slice T)) (hi' : P.info? T = some i) (hz : i.zero = some z) (hsize : i.size = E.size) (hby : i.bytes = bytes) (hzs : z.cells.size = E.size) (hpos : 0 < E.size)
    {x : α} {us : List Value} {Sx : Nat → Prop} {blk c : Nat} (hrow : ∀ j u, us[j]? = some u → w.cell? ⟨blk, j, none⟩ = some u) (hx : E.ow w Sx x us) (hS : ∀ k, Sx k → top ≤ k ∧ k < w.heap.size) (htop : top ≤ w.heap.size) (hL : L.length + 1 ≤ maxLen) (hLb : (L.length + 1) * bytes ≤ 140737488355328) :
    ∃ v' w' S', (Builtin.append_ #[t, t] ty #[v, .slice (some ⟨blk, 0, none⟩) 1 c]).run P w = .ok v' w' ∧ AppS E w' base w'.heap.size T v' (L ++ [x]) S' ∧ w.grownBy w' v.ownBlock ∧ (∀ k, v.ownBlock = some k → S k) ∧ ∀ k, S' k → S k ∨ top ≤ k := by
  obtain ⟨lo, hi, xs, Sf, h1, h2, h3, hA, hSS⟩ := h
  obtain ⟨v', w', xs', Sf', hrun, hA', hg, hown, hsub⟩ := hA.app2 (ty := ty) (c := c) hE ht hi' hz hsize hby hzs hpos hrow hx (fun k hk => ⟨by have := hS k hk; omega, (hS k hk).2⟩) h2 hL hLb
  refine ⟨v', w', fun k => v'.ownBlock = some k ∨ ∃ i, Sf' i k, hrun, ⟨lo, w'.heap.size, xs', Sf', h1, ?_, Nat.le_refl _, hA', fun k => Iff.rfl⟩, hg, fun k hk => (hSS k).2 (.inl hk), fun k hk => ?_⟩
  · have := hg.size; omega
  · rcases hk with hk | ⟨i, hk⟩
    · rcases hown k hk with h | h
      · exact .inl ((hSS k).2 (.inl h))
      · exact .inr (by omega)
    · rcases hsub i k hk with h | h
      · exact .inl ((hSS k).2 (.inr ⟨i, h⟩))
      · exact .inr (hS k h).1
end
def ARow {α : Type} (E : Rp α) (w : World) (lo : Nat) (T : TypeId) (v : Value) (L : List α) : Prop := ∃ S, AppS E w lo w.heap.size T v L S
section
variable {α : Type} {E : Rp α} {w w' : World} {lo : Nat} {T : TypeId} {v : Value} {L : List α}
theorem ARow.none_ (E : Rp α) (w : World) (T : TypeId) : ARow E w w.heap.size T (.slice none 0 0) [] := ⟨_, AppS.none_ E w T⟩
theorem ARow.made (E : Rp α) (w : World) (T : TypeId) : ARow E (w.alloc (.cells #[] T)) w.heap.size T (.slice (some ⟨w.heap.size, 0, none⟩) 0 0) [] :=
  ⟨_, _, _, _, _, Nat.le_refl _, Nat.le_succ _, by simp, App.made E w T, fun k => Iff.rfl⟩
theorem ARow.call (hE : Ok E) (h : ARow E w lo T v L) (hb : Below w.heap.size w w') : ARow E w' lo T v L := by
  obtain ⟨S, h⟩ := h
  exact ⟨S, (h.call hE (Nat.le_refl _) hb).rise hb.size⟩
theorem ARow.isSlice (h : ARow E w lo T v L) : ∃ a c, v = .slice a L.length c := by obtain ⟨S, h⟩ := h; exact h.isSlice
theorem ARow.base (h : ARow E w lo T v L) : lo ≤ w.heap.size := by
  obtain ⟨S, a, b, xs, Sf, h1, h2, h3, _⟩ := h
  omega
theorem ARow.app {P : Program} (hE : Ok E) (h : ARow E w lo T v L) (hb : Below w.heap.size w w') {t ty : TypeId} {i : TypeInfo} {z : Value} {bytes : Nat} (ht : P.underlying t = some (.slice T)) (hi' : P.info? T = some i) (hz : i.zero = some z) (hsize : i.size = E.size) (hby : i.bytes = bytes) (hzs : z.cells.size = E.size) (hpos : 0 < E.size)
    {x : α} {us : List Value} {blk c : Nat} (hrow : ∀ j u, us[j]? = some u → w'.cell? ⟨blk, j, none⟩ = some u) (hx : E.ow w' (Rg w.heap.size w'.heap.size) x us) (hL : L.length + 1 ≤ maxLen) (hLb : (L.length + 1) * bytes ≤ 140737488355328) :
    ∃ a' c' w2, (Builtin.append_ #[t, t] ty #[v, .slice (some ⟨blk, 0, none⟩) 1 c]).run P w' = .ok (.slice a' (L ++ [x]).length c') w2 ∧ ARow E w2 lo T (.slice a' (L ++ [x]).length c') (L ++ [x]) ∧ Below lo w' w2 := by
  obtain ⟨S, h⟩ := h
  have h' := h.call hE (Nat.le_refl _) hb
  obtain ⟨v', w2, S', hrun, hA, hg, ho, _⟩ := h'.app (ty := ty) (c := c) hE ht hi' hz hsize hby hzs hpos hrow hx (fun k hk => hk) hb.size hL hLb
  have hA2 : ARow E w2 lo T v' (L ++ [x]) := ⟨S', hA⟩
  obtain ⟨a', c', rfl⟩ := hA2.isSlice
  have hlo := ARow.base (show ARow E w lo T v L from ⟨S, h⟩)
  exact ⟨a', c', w2, hrun, hA2, below_own hg (fun k hk => (h.bnd (ho k hk)).1) (Nat.le_trans hlo hb.size)⟩
theorem ARow.news (hE : Ok E) {W : World} (h : ARow E w lo T v L) (hlo : W.heap.size ≤ lo) (hb : Below W.heap.size W w) : NewS E L W (.returned v) w := by
  obtain ⟨S, h⟩ := h
  obtain ⟨a, c, rfl, ho⟩ := h.done hE
  exact ⟨a, c, rfl, ho.more fun k hk => ⟨Nat.le_trans hlo hk.1, hk.2⟩, hb⟩
end
theorem app_node {w w' : World} {lo : Nat} {v : Value} {L : List D_Node} (h : ARow R_Node w lo 42 v L) (hb : Below w.heap.size w w') {st : Int} {M : List D_Span} {a : Option Addr} {c blk : Nat} (hc : Blk w' blk 42 #[.int .i64 st, .slice a M.length c]) (hM : OwSl R_Span w' (Rg w.heap.size w'.heap.size) M a c) (hL : L.length ≤ 4096) :
    ∃ a' c' w2, (Builtin.append_ #[23, 23] 23 #[v, .slice (some ⟨blk, 0, none⟩) 1 1]).run Try.prog w' = .ok (.slice a' (L ++ [(st, M)]).length c') w2 ∧ ARow R_Node w2 lo 42 (.slice a' (L ++ [(st, M)]).length c') (L ++ [(st, M)]) ∧ Below lo w' w2 := by
  obtain ⟨i, hi', hz, hs, hby⟩ := infoNode
  exact h.app R_Node_ok hb Try.underlying23 hi' hz hs hby rfl (by decide) (us := [.int .i64 st, .slice a M.length c]) (fun j u hj => hc.at_ j (by simpa using hj)) (mkow_Node (fun k hk => hk) hM) (by unfold maxLen; omega) (by omega)
theorem copy_spans {L : List D_Span} {a : Option Addr} {cap : Nat} {w : World} {ty : TypeId} (hn : L.length ≤ 1048576) (h : RdSl R_Span w w.heap.size L a cap) :
    ∃ a' c' w', (Builtin.append_ #[39, 39] ty #[.slice (some ⟨w.heap.size, 0, none⟩) 0 0, .slice a L.length cap]).run Try.prog (w.alloc (.cells #[] 25)) = .ok (.slice a' L.length c') w' ∧ OwSl R_Span w' (Rg w.heap.size w'.heap.size) L a' c' ∧ Below w.heap.size w w' := by
  obtain ⟨i, hi', hz, hs, hby⟩ := infoSpan
  exact app_flat R_Span_ok flat_Span Try.underlying39 hi' hz hs hby rfl (by decide) (by unfold maxLen; omega) (by omega) h
end Go.Proofs.Ytfciojkibklkfaa.RepC
end
section
namespace Go.Proofs.Ytfciojkibklkfaa.RepC
open Go.RowKit RowC ValC
set_option linter.unusedVariables false
set_option linter.unusedSimpArgs false
theorem below_setCells {B b : Nat} {w : World} (hB : B ≤ b) : ∀ (vs : List Value) (o : Nat) (W : World), Below B w W → Below B w (W.setCells b o vs)
  | [], _, _, h => h
  | v :: r, o, W, h => below_setCells hB r (o + 1) _ (h.setCell (p := ⟨b, o, none⟩) hB v)
theorem size_setCells {b : Nat} : ∀ (vs : List Value) (o : Nat) (W : World), (W.setCells b o vs).heap.size = W.heap.size
  | [], _, _ => rfl
  | v :: r, o, W => by rw [World.setCells, size_setCells r]; simp
theorem run_copy2 {P : Program} (w : World) {dT sT ty elem : TypeId} {i : TypeInfo} (hu : P.underlying dT = some (.slice elem)) (hi : P.info? elem = some i) (b o dLen dCap : Nat) (a : Addr) (sLen sCap : Nat) (cs : List Value) (n : Nat) (hn : Nat.min sLen dLen = n) (hlen : cs.length = n * i.size)
    (hsrc : ∀ j v, cs[j]? = some v → w.cell? (a.add j) = some v) (hc : ∀ j, j < cs.length → (w.cell? ⟨b, o + j, none⟩).isSome = true) (hf : ∀ j, j < cs.length → w.frozen? ⟨b, o + j, none⟩ = false) (h1 : ∀ v ∈ cs, v.oneCell' = true) :
    (Builtin.copy_ #[dT, sT] ty #[.slice (some ⟨b, o, none⟩) dLen dCap, .slice (some a) sLen sCap]).run P w = .ok (.int .i64 n) (w.setCells b o cs) := by
  have hl := run_loadCells_list (P := P) w a cs hsrc
  have hst := run_storeCells_cells (P := P) b o cs 0 w (by simpa using hc) (by simpa using hf) h1
  rw [hlen] at hl
  simp [Builtin.copy_, run_underlying hu, Builtin.lenOf, Builtin.firstCells, sizeOf, typeInfo, hi, hn, hl, hst, goInt]
theorem run_copy0 {P : Program} (w : World) {dT sT ty elem : TypeId} {i : TypeInfo} (hu : P.underlying dT = some (.slice elem)) (hi : P.info? elem = some i) (d a : Option Addr) (dLen dCap sLen sCap : Nat) (hn : Nat.min sLen dLen = 0) :
    (Builtin.copy_ #[dT, sT] ty #[.slice d dLen dCap, .slice a sLen sCap]).run P w = .ok (.int .i64 0) w := by
  have hl : ∀ (x : Addr), (loadCells x 0).run P w = .ok #[] w := fun x => by simpa using run_loadCells_list (P := P) w x [] (by simp)
  cases d <;> cases a <;> simp [Builtin.copy_, run_underlying hu, Builtin.lenOf, Builtin.firstCells, sizeOf, typeInfo, hi, hn, storeCells, hl, goInt]
theorem mv_rdB {α : Type} {E : Rp α} (hE : Ok E) {L : List α} {a : Option Addr} {cap : Nat} {w w' : World} (h : RdSl E w w.heap.size L a cap) (hb : Below w.heap.size w w') : RdSl E w' w'.heap.size L a cap := (h.below hE hb).more hE hb.size
abbrev noSf : Nat → Nat → Prop := fun _ _ => False
def fS (x : D_Span) : List Value := [.int .i64 x.1, .int .i64 x.2]
theorem copy_fil {w W : World} {L M : List D_Span} {g k : Nat} {dp ba : Option Addr} {bc : Nat} {ty : TypeId} (hF : Fil R_Span w W L g noSf k) (hkM : k + M.length ≤ L.length) (hsub : ∀ i x, M[i]? = some x → L[k + i]? = some x) (hdp : k < L.length → dp = some ⟨g, k * 2, none⟩) (hM : RdSl R_Span W W.heap.size M ba bc) :
    ∃ w', (Builtin.copy_ #[39, 39] ty #[.slice dp (L.length - k) (L.length - k), .slice ba M.length bc]).run Try.prog W = .ok (.int .i64 M.length) w' ∧ Fil R_Span w w' L g noSf (k + M.length) := by
  obtain ⟨i, hi, hz, hs, hby⟩ := infoSpan
  have ht : Try.prog.underlying 39 = some (.slice 25) := Try.underlying39
  by_cases h0 : M.length = 0
  · exact ⟨W, by rw [h0]; exact run_copy0 W ht hi _ _ _ _ _ _ (by simp), by rw [h0]; exact hF⟩
  obtain ⟨g', o, rfl, hg', hel⟩ := hM.2.2 (by omega)
  obtain rfl := hdp (by omega)
  have hfl : (M.flatMap fS).length = M.length * 2 := flatMap_len R_Span_ok flat_Span W M
  have hthere : ∀ j, j < M.length * 2 → ∃ u, W.cell? ⟨g, k * 2 + j, none⟩ = some u := fun j hj => hF.there _ (by rw [size_SpanS]; omega)
  have hcells : CellsAt W g' o (M.flatMap fS) := flatMap_cells R_Span_ok flat_Span W g' M o fun q x hx => by
    obtain ⟨us, hu, hr⟩ := hel q x hx
    rw [← flat_Span.rd hr]
    exact hu
  have hrun := run_copy2 (P := Try.prog) W (dT := 39) (sT := 39) (ty := ty) ht hi g (k * 2) (L.length - k) (L.length - k) ⟨g', o, none⟩ M.length bc (M.flatMap fS) M.length (by show min M.length (L.length - k) = _; omega) (by rw [hs]; exact hfl)
    (fun j v hj => by rw [show (⟨g', o, none⟩ : Addr).add j = ⟨g', o + j, none⟩ by unfold Addr.add; split <;> simp_all]; exact hcells j v hj)
    (fun j hj => by obtain ⟨u, hu⟩ := hthere j (by omega); rw [hu]; rfl) (fun j _ => hF.soft _)
    (fun v hv => by obtain ⟨y, _, hv⟩ := List.mem_flatMap.1 hv; simp [fS] at hv; rcases hv with rfl | rfl <;> rfl)
  refine ⟨_, hrun, fun q x hq hx => ?_, fun j hj => ?_, fun j => by rw [World.frozen?_setCells]; exact hF.soft j, fun _ _ h => h.elim, fun _ _ _ _ h => h.elim, hF.base, by rw [size_setCells]; exact hF.lt, ?_⟩
  · refine ⟨fS x, fun j d hj => ?_, flat_Span.ow _ _ _⟩
    have hj2 : j < 2 := (List.getElem?_eq_some_iff.1 hj).1
    rw [size_SpanS]
    by_cases hqk : q < k
    · rw [World.cell?_setCells_out _ _ _ _ _ (fun _ _ => .inl (by show q * 2 + j < k * 2; omega))]
      obtain ⟨us, hu, hr⟩ := hF.el q x hqk hx
      have e : us = fS x := by obtain ⟨x0, x1⟩ := x; exact ow0_Span hr
      subst e
      have := hu j d hj
      rwa [size_SpanS] at this
    · obtain ⟨p, rfl⟩ : ∃ p, q = k + p := ⟨q - k, by omega⟩
      have hp : p < M.length := by omega
      obtain ⟨y, hy⟩ := el_some hp
      have := hsub p y hy
      rw [hx] at this
      obtain rfl := Option.some.inj this
      have hfm : (M.flatMap fS)[p * 2 + j]? = some d := by
        have h9 := flatMap_at R_Span_ok flat_Span W M p x hy j d hj
        rw [size_SpanS] at h9
        exact h9
      obtain ⟨hl, hv⟩ := List.getElem?_eq_some_iff.1 hfm
      rw [show (k + p) * 2 + j = k * 2 + (p * 2 + j) by omega]
      rw [World.cell?_setCells_in g _ _ _ (fun j hj => by obtain ⟨u, hu⟩ := hthere j (by rw [hfl] at hj; exact hj); rw [hu]; rfl) _ hl]
      exact congrArg some hv
  · rw [size_SpanS] at hj
    by_cases hin : j < k * 2 ∨ k * 2 + M.length * 2 ≤ j
    · rw [World.cell?_setCells_out _ _ _ _ _ (fun _ _ => by show j < k * 2 ∨ k * 2 + (M.flatMap fS).length ≤ j; rw [hfl]; exact hin)]
      exact hF.there j (by rw [size_SpanS]; exact hj)
    · obtain ⟨p, rfl⟩ : ∃ p, j = k * 2 + p := ⟨j - k * 2, by omega⟩
      exact ⟨_, World.cell?_setCells_in g _ _ _ (fun j hj => by obtain ⟨u, hu⟩ := hthere j (by rw [hfl] at hj; exact hj); rw [hu]; rfl) p (by rw [hfl]; omega)⟩
  · exact below_setCells (Nat.le_refl _) _ _ _ hF.below
theorem flat_take {Ls : List (List D_Span)} {k : Nat} {M : List D_Span} (h : Ls[k]? = some M) : (Ls.take (k + 1)).flatten = (Ls.take k).flatten ++ M := by
  rw [List.take_add_one, h, Option.toList_some, List.flatten_append]; simp
theorem flat_pre {Ls : List (List D_Span)} (k : Nat) : ∃ r, Ls.flatten = (Ls.take k).flatten ++ r := ⟨(Ls.drop k).flatten, by rw [← List.flatten_append, List.take_append_drop]⟩
theorem flat_at {Ls : List (List D_Span)} {k : Nat} {M : List D_Span} (h : Ls[k]? = some M) : (Ls.take k).flatten.length + M.length ≤ Ls.flatten.length ∧ ∀ i x, M[i]? = some x → Ls.flatten[(Ls.take k).flatten.length + i]? = some x := by
  obtain ⟨r, hr⟩ := flat_pre (Ls := Ls) (k + 1)
  rw [flat_take h] at hr
  refine ⟨by rw [hr, List.length_append, List.length_append]; omega, fun i x hx => ?_⟩
  have hi := el_lt hx
  rw [hr, List.getElem?_append_left (by rw [List.length_append]; omega), List.getElem?_append_right (by omega), Nat.add_sub_cancel_left]
  exact hx
set_option maxRecDepth 100000 in
set_option maxHeartbeats 3200000 in
theorem books_impl {Ls : List (List D_Span)} {a : Option Addr} {cap : Nat} {W : World} (hT : Ls.flatten.length ≤ 1048576) (h : RdSl (Sl R_Span) W W.heap.size Ls a cap) :
    Calls Try.prog 54 #[.slice a Ls.length cap] W (NewS R_Span Ls.flatten W) := by
  have H := Lib.hid h
  have hn : Ls.length ≤ 9223372036854775807 := by have h1 := h.1; have h2 := h.2.1; unfold maxLen at h2; omega
  clear h
  obtain ⟨T, hTT⟩ : ∃ T, Ls.flatten.length = T := ⟨_, rfl⟩
  have HT := Lib.hid hTT
  rw [hTT] at hT
  clear hTT
  have hmk := make_SpanS T hT
  obtain ⟨w0, hw0⟩ : ∃ w, w = W.alloc (.cells (zs_SpanS T) 25) := ⟨_, rfl⟩
  have HF0 := Lib.hid (show Fil R_Span W w0 Ls.flatten W.heap.size noSf 0 from by rw [hw0]; exact Fil.new (by rw [zs_SpanS_size, HT.out]))
  go_enter Try.func54, Try.ntmps54
  go_wp2
  go_loopw [12, 3] (fun i v wr => ∃ k : Nat, k ≤ Ls.length ∧ i = .int .i64 k ∧ v = .int .i64 (((Ls.take k).flatten.length : Nat) : Int) ∧ wr = W) (fun i _ _ => Ls.length - (intOf i).toNat)
  case atStart => exact ⟨0, Nat.zero_le _, rfl, rfl, rfl⟩
  case round =>
    obtain ⟨k, hk, rfl, rfl, rfl⟩ := hrel
    by_cases hlt : k < Ls.length
    · obtain ⟨M, hM⟩ := el_some hlt
      have hfa := flat_at hM
      have hft := flat_take hM
      obtain ⟨g, o, us, rfl, hg, hu, hr⟩ := H.out.at_ hM
      obtain ⟨ba, bc, rfl, hMr⟩ := hr
      have e0 : wr.cell? ⟨g, o + k, none⟩ = some (.slice ba M.length bc) := by simpa [show (Sl R_Span).size = 1 from rfl] using hu 0 _ rfl
      have hi0 : (0 : Int) ≤ (k : Int) := Int.natCast_nonneg _
      have hi1 : (k : Int) < (Ls.length : Int) := by omega
      have hlen : (Ls.take (k + 1)).flatten.length = (Ls.take k).flatten.length + M.length := by rw [hft, List.length_append]
      have hle := hfa.1
      rw [HT.out] at hle
      obtain ⟨t0, ht0⟩ : ∃ t, (Ls.take k).flatten.length = t := ⟨_, rfl⟩
      rw [ht0] at hlen hle ⊢
      have HL := Lib.hid hlen
      have hwr : IntKind.i64.wrap ((t0 : Int) + (M.length : Int)) = ((t0 + M.length : Nat) : Int) := by rw [← Int.natCast_add]; exact IntWalk.i64_in _ (by omega)
      clear hfa hft hMr hu hM hlen ht0
      go_wp2
      go_roundw
      case rel => exact ⟨k + 1, by omega, by go_num, by rw [HL.out, Int.natCast_add], trivial⟩
      case measure => simp [intOf]; omega
    · have hdl : decide ((k : Int) < (Ls.length : Int)) = false := decide_eq_false (by omega)
      obtain rfl : k = Ls.length := by omega
      rw [List.take_length, HT.out]
      go_wp2
      rw [← hw0]
      have HB0 := Lib.hid (show Below wr.heap.size wr w0 from by rw [hw0]; exact (Below.refl _ _).alloc (Nat.le_refl _) _)
      clear hw0 hmk hdl hlt hk
      go_loopw [25, 7] (fun i v wq => ∃ k : Nat, k ≤ Ls.length ∧ i = .int .i64 k ∧ v = .int .i64 (((Ls.take k).flatten.length : Nat) : Int) ∧ Hid (Fil R_Span wr wq Ls.flatten wr.heap.size noSf (Ls.take k).flatten.length)) (fun i _ _ => Ls.length - (intOf i).toNat)
      case atStart => exact ⟨0, Nat.zero_le _, rfl, rfl, HF0⟩
      case round =>
        obtain ⟨k, hk, rfl, rfl, HF⟩ := hrel
        rename World => wq
        by_cases hlt : k < Ls.length
        · obtain ⟨M, hM⟩ := el_some hlt
          have hfa := flat_at hM
          have hft := flat_take hM
          have hB := HF.out.below
          obtain ⟨g, o, us, rfl, hg, hu, hr⟩ := H.out.at_ hM
          obtain ⟨ba, bc, rfl, hMr⟩ := hr
          have e0 : wq.cell? ⟨g, o + k, none⟩ = some (.slice ba M.length bc) := (hB.cell (p := ⟨g, o + k, none⟩) hg).trans (by simpa [show (Sl R_Span).size = 1 from rfl] using hu 0 _ rfl)
          have hi0 : (0 : Int) ≤ (k : Int) := Int.natCast_nonneg _
          have hi1 : (k : Int) < (Ls.length : Int) := by omega
          have hlen : (Ls.take (k + 1)).flatten.length = (Ls.take k).flatten.length + M.length := by rw [hft, List.length_append]
          have hle := hfa.1
          rw [HT.out] at hle
          obtain ⟨t0, ht0⟩ : ∃ t, (Ls.take k).flatten.length = t := ⟨_, rfl⟩
          obtain ⟨wn, hrun, hF2⟩ := copy_fil (ty := 3) (dp := if T = t0 then some ⟨wr.heap.size, 0, none⟩ else some ⟨wr.heap.size, t0 * 2, none⟩) (by have := HF.out; rw [ht0] at this; exact this) (by rw [← ht0]; exact hfa.1) (by rw [← ht0]; exact hfa.2) (fun h => by rw [HT.out] at h; rw [if_neg (by omega)]) (mv_rdB R_Span_ok hMr hB)
          rw [HT.out] at hrun
          have HF2 := Lib.hid hF2
          rw [ht0] at hlen ⊢
          have HL := Lib.hid hlen
          have hwr : IntKind.i64.wrap ((t0 : Int) + (M.length : Int)) = ((t0 + M.length : Nat) : Int) := by rw [← Int.natCast_add]; exact IntWalk.i64_in _ (by omega)
          have ht0' : (0 : Int) ≤ (t0 : Int) := Int.natCast_nonneg _
          have ht1 : (t0 : Int) ≤ (T : Int) := by omega
          clear hfa hft hMr hu hM hlen ht0 hB hF2
          by_cases hTt : T = t0
          · rw [if_pos hTt] at hrun
            subst hTt
            simp only [Nat.sub_self] at hrun
            go_wp2
            go_roundw
            case rel => exact ⟨k + 1, by omega, by go_num, by rw [HL.out, Int.natCast_add], by rw [HL.out]; exact HF2⟩
            case measure => simp [intOf]; omega
          · rw [if_neg hTt] at hrun
            go_wp2
            go_roundw
            case rel => exact ⟨k + 1, by omega, by go_num, by rw [HL.out, Int.natCast_add], by rw [HL.out]; exact HF2⟩
            case measure => simp [intOf]; omega
        · have hdl : decide ((k : Int) < (Ls.length : Int)) = false := decide_eq_false (by omega)
          obtain rfl : k = Ls.length := by omega
          have hF3 := HF.out
          rw [List.take_length] at hF3
          have hnw := hF3.news (by rw [HT.out]; unfold maxLen; omega)
          rw [HT.out] at hnw
          have HNW := Lib.hid hnw
          clear hF3 hnw
          go_wp2
          go_ret
          exact HNW.out
end Go.Proofs.Ytfciojkibklkfaa.RepC
end
section
namespace Go.Proofs.Ytfciojkibklkfaa.SpanC
open Go.RowKit KeptC
def ResB (P : Prop) (w : World) (e : Ending) (w' : World) : Prop := ∃ b : Bool, e = .returned (.bool b) ∧ (b = true ↔ P) ∧ Below w.heap.size w w'
theorem resB_yes {P : Prop} {w w' : World} (h : P) (hb : Below w.heap.size w w') : ResB P w (.returned (.bool true)) w' := ⟨true, rfl, by simp [h], hb⟩
theorem resB_no {P : Prop} {w w' : World} (h : ¬ P) (hb : Below w.heap.size w w') : ResB P w (.returned (.bool false)) w' := ⟨false, rfl, by simp [h], hb⟩
theorem resB_elim {P : Prop} {w : World} {e : Ending} {w' : World} (h : ResB P w e w') : ∃ b : Bool, e = .returned (.bool b) ∧ (b = true ↔ P) ∧ Below w.heap.size w w' := h
theorem all_step {P : Nat → Prop} {k : Nat} (h : ∀ j, j < k → P j) (hk : P k) : ∀ j, j < k + 1 → P j := fun j hj => by
  by_cases e : j = k
  · subst e; exact hk
  · exact h j (by omega)
end Go.Proofs.Ytfciojkibklkfaa.SpanC
end
section
namespace Go.Proofs.Ytfciojkibklkfaa.SpanC
open Go.RowKit KeptC
def isB (n lo hi : Int) : Bool := decide (lo ≤ n) && decide (n ≤ hi)
theorem isB_iff (n lo hi : Int) : isB n lo hi = true ↔ lo ≤ n ∧ n ≤ hi := by simp [isB]
theorem is_spec (n lo hi : Int) (w : World) :
    Calls Try.prog 81 #[.int .i64 n, .int .i64 lo, .int .i64 hi] w fun e w' => e = .returned (.bool (isB n lo hi)) ∧ w = w' := by
  by_cases h1 : lo ≤ n
  · by_cases h2 : n ≤ hi
    · have hb : isB n lo hi = true := by simp [isB, h1, h2]
      rw [hb]; clear hb
      go_enter Try.func81, Try.ntmps81
      go_wp2
      go_ret
      exact ⟨rfl, rfl⟩
    · have hb : isB n lo hi = false := by simp [isB, h1, h2]
      rw [hb]; clear hb
      have h2' : decide (n ≤ hi) = false := by simpa using h2
      go_enter Try.func81, Try.ntmps81
      go_wp2
      go_ret
      exact ⟨rfl, rfl⟩
  · have hb : isB n lo hi = false := by simp [isB, h1]
    rw [hb]; clear hb
    have h1' : decide (lo ≤ n) = false := by simpa using h1
    go_enter Try.func81, Try.ntmps81
    go_wp2
    go_ret
    exact ⟨rfl, rfl⟩
theorem is_impl (n lo hi : Int) (w : World) :
    Calls Try.prog 67 #[.int .i64 n, .int .i64 lo, .int .i64 hi] w fun e w' => e = .returned (.bool (isB n lo hi)) ∧ w = w' := by
  by_cases h1 : lo ≤ n
  · by_cases h2 : n ≤ hi
    · have hb : isB n lo hi = true := by simp [isB, h1, h2]
      rw [hb]; clear hb
      go_enter Try.func67, Try.ntmps67
      go_wp2
      go_ret
      exact ⟨rfl, rfl⟩
    · have hb : isB n lo hi = false := by simp [isB, h1, h2]
      rw [hb]; clear hb
      have h2' : decide (n ≤ hi) = false := by simpa using h2
      go_enter Try.func67, Try.ntmps67
      go_wp2
      go_ret
      exact ⟨rfl, rfl⟩
  · have hb : isB n lo hi = false := by simp [isB, h1]
    rw [hb]; clear hb
    have h1' : decide (lo ≤ n) = false := by simpa using h1
    go_enter Try.func67, Try.ntmps67
    go_wp2
    go_ret
    exact ⟨rfl, rfl⟩
theorem time_spec (n : Int) (w : World) :
    Calls Try.prog 88 #[.int .i64 n] w fun e w' => e = .returned (.bool (isB n 0 1000000)) ∧ w = w' := by
  go_enter Try.func88, Try.ntmps88
  go_wp2_with (go_at_call 81; refine (is_spec _ _ _ _).mono ?_; rintro e w' ⟨rfl, rfl⟩)
  go_ret
  exact ⟨rfl, rfl⟩
theorem time_impl (n : Int) (w : World) :
    Calls Try.prog 87 #[.int .i64 n] w fun e w' => e = .returned (.bool (isB n 0 1000000)) ∧ w = w' := by
  go_enter Try.func87, Try.ntmps87
  go_wp2_with (go_at_call 67; refine (is_impl _ _ _ _).mono ?_; rintro e w' ⟨rfl, rfl⟩)
  go_ret
  exact ⟨rfl, rfl⟩
def spB (a b : Int) : Bool := isB a 0 1000000 && (decide (a < b) && decide (b ≤ 1000000))
def spP (a b : Int) : Prop := 0 ≤ a ∧ a < b ∧ b ≤ 1000000
theorem spB_iff (a b : Int) : spB a b = true ↔ spP a b := by unfold spB spP; simp [isB]; omega
theorem right_spec (a b : Int) (w : World) :
    Calls Try.prog 56 #[.agg #[.int .i64 a, .int .i64 b]] w fun e w' => e = .returned (.bool (spB a b)) ∧ Below w.heap.size w w' := by
  have hB : Below w.heap.size w (w.alloc (.cells #[.int .i64 a, .int .i64 b] 25)) := (Below.refl _ _).alloc (Nat.le_refl _) _
  have HB := Lib.hid hB
  clear hB
  cases h1 : isB a 0 1000000 with
  | true =>
    by_cases h2 : a < b
    · by_cases h3 : b ≤ 1000000
      · have hb : spB a b = true := by simp [spB, h1, h2, h3]
        rw [hb]; clear hb
        have hc := fun W => time_spec a W
        rw [h1] at hc
        clear h1
        go_enter Try.func56, Try.ntmps56
        go_wp2_with (go_at_call 88; refine (hc _).mono ?_; rintro e w' ⟨rfl, rfl⟩)
        go_ret
        exact ⟨rfl, HB.out⟩
      · have hb : spB a b = false := by simp [spB, h3]
        rw [hb]; clear hb
        have h3' : decide (b ≤ 1000000) = false := by simpa using h3
        have hc := fun W => time_spec a W
        rw [h1] at hc
        clear h1
        go_enter Try.func56, Try.ntmps56
        go_wp2_with (go_at_call 88; refine (hc _).mono ?_; rintro e w' ⟨rfl, rfl⟩)
        go_ret
        exact ⟨rfl, HB.out⟩
    · have hb : spB a b = false := by simp [spB, h2]
      rw [hb]; clear hb
      have h2' : decide (a < b) = false := by simpa using h2
      have hc := fun W => time_spec a W
      rw [h1] at hc
      clear h1
      go_enter Try.func56, Try.ntmps56
      go_wp2_with (go_at_call 88; refine (hc _).mono ?_; rintro e w' ⟨rfl, rfl⟩)
      go_ret
      exact ⟨rfl, HB.out⟩
  | false =>
    have hb : spB a b = false := by simp [spB, h1]
    rw [hb]; clear hb
    have hc := fun W => time_spec a W
    rw [h1] at hc
    clear h1
    go_enter Try.func56, Try.ntmps56
    go_wp2_with (go_at_call 88; refine (hc _).mono ?_; rintro e w' ⟨rfl, rfl⟩)
    go_ret
    exact ⟨rfl, HB.out⟩
theorem right_impl (a b : Int) (w : World) :
    Calls Try.prog 50 #[.agg #[.int .i64 a, .int .i64 b]] w fun e w' => e = .returned (.bool (spB a b)) ∧ Below w.heap.size w w' := by
  have hB : Below w.heap.size w (w.alloc (.cells #[.int .i64 a, .int .i64 b] 25)) := (Below.refl _ _).alloc (Nat.le_refl _) _
  have HB := Lib.hid hB
  clear hB
  cases h1 : isB a 0 1000000 with
  | true =>
    by_cases h2 : a < b
    · by_cases h3 : b ≤ 1000000
      · have hb : spB a b = true := by simp [spB, h1, h2, h3]
        rw [hb]; clear hb
        have hc := fun W => time_impl a W
        rw [h1] at hc
        clear h1
        go_enter Try.func50, Try.ntmps50
        go_wp2_with (go_at_call 87; refine (hc _).mono ?_; rintro e w' ⟨rfl, rfl⟩)
        go_ret
        exact ⟨rfl, HB.out⟩
      · have hb : spB a b = false := by simp [spB, h3]
        rw [hb]; clear hb
        have h3' : decide (b ≤ 1000000) = false := by simpa using h3
        have hc := fun W => time_impl a W
        rw [h1] at hc
        clear h1
        go_enter Try.func50, Try.ntmps50
        go_wp2_with (go_at_call 87; refine (hc _).mono ?_; rintro e w' ⟨rfl, rfl⟩)
        go_ret
        exact ⟨rfl, HB.out⟩
    · have hb : spB a b = false := by simp [spB, h2]
      rw [hb]; clear hb
      have h2' : decide (a < b) = false := by simpa using h2
      have hc := fun W => time_impl a W
      rw [h1] at hc
      clear h1
      go_enter Try.func50, Try.ntmps50
      go_wp2_with (go_at_call 87; refine (hc _).mono ?_; rintro e w' ⟨rfl, rfl⟩)
      go_ret
      exact ⟨rfl, HB.out⟩
  | false =>
    have hb : spB a b = false := by simp [spB, h1]
    rw [hb]; clear hb
    have hc := fun W => time_impl a W
    rw [h1] at hc
    clear h1
    go_enter Try.func50, Try.ntmps50
    go_wp2_with (go_at_call 87; refine (hc _).mono ?_; rintro e w' ⟨rfl, rfl⟩)
    go_ret
    exact ⟨rfl, HB.out⟩
theorem before_impl (a b c d : Int) (w : World) :
    Calls Try.prog 113 #[.agg #[.int .i64 a, .int .i64 b], .agg #[.int .i64 c, .int .i64 d]] w fun e w' => e = .returned (.bool (decide (b ≤ c))) ∧ Below w.heap.size w w' := by
  go_enter Try.func113, Try.ntmps113
  go_wp2
  go_ret
  exact ⟨rfl, ((Below.refl _ _).alloc (Nat.le_refl _) _).alloc (by simp) _⟩
end Go.Proofs.Ytfciojkibklkfaa.SpanC
end
section
namespace Go.Proofs.Ytfciojkibklkfaa.SpanC
open Go.RowKit KeptC
theorem infoL : (Try.prog.info? 25).map (fun i => (i.zero, i.size, i.bytes)) = some (some (.agg #[.int .i64 0, .int .i64 0]), 2, 16) := by kernel_rfl
def zeros (n : Nat) : Array Value := madeCells #[.int .i64 0, .int .i64 0] (n * 2)
structure Fill (w : World) (n : Nat) (f : Nat → Int × Int) (k : Nat) (W : World) : Prop where
  cells : ∀ j, j < n → ∃ u v, W.cell? ⟨w.heap.size, j * 2, none⟩ = some u ∧ W.cell? ⟨w.heap.size, j * 2 + 1, none⟩ = some v ∧ (j < k → u = .int .i64 (f j).1 ∧ v = .int .i64 (f j).2)
  soft : ∀ j, W.frozen? ⟨w.heap.size, j, none⟩ = false
  below : Below w.heap.size w W
  lt : w.heap.size < W.heap.size
theorem Fill.call {w W W1 : World} {n k : Nat} {f : Nat → Int × Int} (h : Fill w n f k W) (hb : Below W.heap.size W W1) : Fill w n f k W1 := by
  refine ⟨fun j hj => ?_, fun j => (hb.frozen (p := ⟨w.heap.size, j, none⟩) h.lt).trans (h.soft j), h.below.trans (hb.mono (Nat.le_of_lt h.lt)), Nat.lt_of_lt_of_le h.lt hb.size⟩
  obtain ⟨u, v, hu, hv, hk⟩ := h.cells j hj
  exact ⟨u, v, (hb.cell (p := ⟨w.heap.size, j * 2, none⟩) h.lt).trans hu, (hb.cell (p := ⟨w.heap.size, j * 2 + 1, none⟩) h.lt).trans hv, hk⟩
theorem Fill.put {w W : World} {n k : Nat} {f : Nat → Int × Int} (h : Fill w n f k W) (hk : k < n) :
    Fill w n f (k + 1) ((W.setCell ⟨w.heap.size, k * 2, none⟩ (.int .i64 (f k).1)).setCell ⟨w.heap.size, k * 2 + 1, none⟩ (.int .i64 (f k).2)) := by
  have ne : ∀ a b : Nat, a ≠ b → (⟨w.heap.size, a, none⟩ : Addr) ≠ ⟨w.heap.size, b, none⟩ := fun a b hab e => hab (by injection e)
  obtain ⟨u0, v0, hu0, hv0, _⟩ := h.cells k hk
  refine ⟨fun j hj => ?_, fun j => by simpa using h.soft j, (h.below.setCell (Nat.le_refl _) _).setCell (Nat.le_refl _) _, by simpa using h.lt⟩
  by_cases e : j = k
  · subst e
    refine ⟨.int .i64 (f j).1, .int .i64 (f j).2, ?_, ?_, fun _ => ⟨rfl, rfl⟩⟩
    · rw [World.cell?_setCell_other _ _ _ _ (ne _ _ (by omega)), World.cell?_setCell_same' _ _ _ (by rw [hu0]; rfl)]
    · rw [World.cell?_setCell_same' _ _ _ (by rw [World.cell?_setCell_other _ _ _ _ (ne _ _ (by omega)), hv0]; rfl)]
  · obtain ⟨u, v, hu, hv, hlt⟩ := h.cells j hj
    refine ⟨u, v, ?_, ?_, fun hj' => hlt (by omega)⟩
    · rw [World.cell?_setCell_other _ _ _ _ (ne _ _ (by omega)), World.cell?_setCell_other _ _ _ _ (ne _ _ (by omega))]; exact hu
    · rw [World.cell?_setCell_other _ _ _ _ (ne _ _ (by omega)), World.cell?_setCell_other _ _ _ _ (ne _ _ (by omega))]; exact hv
theorem zeros_size (n : Nat) : (zeros n).size = n * 2 := by unfold zeros; simp [madeCells]
theorem Fill.new (w : World) (n : Nat) (f : Nat → Int × Int) : Fill w n f 0 (w.alloc (.cells (zeros n) 25)) := by
  refine ⟨fun j hj => ?_, fun j => by simp, (Below.refl _ _).alloc (Nat.le_refl _) _, by simp⟩
  have hz := zeros_size n
  refine ⟨(zeros n)[j * 2]'(by omega), (zeros n)[j * 2 + 1]'(by omega), ?_, ?_, fun h => absurd h (Nat.not_lt_zero _)⟩
  · simp [World.cell?_alloc_new, show j * 2 < (zeros n).size by omega]
  · simp [World.cell?_alloc_new, show j * 2 + 1 < (zeros n).size by omega]
def PRow (w : World) (b o n : Nat) (f : Nat → Int × Int) : Prop := ∀ i, i < n → w.cell? ⟨b, o + i * 2, none⟩ = some (.int .i64 (f i).1) ∧ w.cell? ⟨b, o + i * 2 + 1, none⟩ = some (.int .i64 (f i).2)
theorem PRow.below {w W : World} {b o n B : Nat} {f : Nat → Int × Int} (h : PRow w b o n f) (hb : Below B w W) (hB : b < B) : PRow W b o n f := fun i hi =>
  ⟨(hb.cell (p := ⟨b, o + i * 2, none⟩) hB).trans (h i hi).1, (hb.cell (p := ⟨b, o + i * 2 + 1, none⟩) hB).trans (h i hi).2⟩
theorem Fill.row {w W : World} {n : Nat} {f : Nat → Int × Int} (h : Fill w n f n W) : PRow W w.heap.size 0 n f := fun i hi => by
  obtain ⟨u, v, hu, hv, he⟩ := h.cells i hi
  obtain ⟨rfl, rfl⟩ := he hi
  exact ⟨by simpa using hu, by simpa using hv⟩
end Go.Proofs.Ytfciojkibklkfaa.SpanC
end
section
namespace Go.Proofs.Ytfciojkibklkfaa.SpanC
open Go.RowKit KeptC
def okS (f : Nat → Int × Int) (i : Nat) : Prop := spB (f i).1 (f i).2 = true ∧ (0 < i → (f (i - 1)).2 ≤ (f i).1)
def SpR (n : Nat) (f : Nat → Int × Int) : Prop := n ≤ 20 ∧ ∀ i, i < n → okS f i
end Go.Proofs.Ytfciojkibklkfaa.SpanC
end
section
namespace Go.Proofs.Ytfciojkibklkfaa.SpanC
open Go.RowKit KeptC
set_option linter.unusedSimpArgs false
def PA (W : World) (qa : Option Addr) (n : Nat) (f : Nat → Int × Int) : Prop := ∀ i, i < n → ∃ g o, qa = some ⟨g, o, none⟩ ∧ g < W.heap.size ∧ W.cell? ⟨g, o + i * 2, none⟩ = some (.int .i64 (f i).1) ∧ W.cell? ⟨g, o + i * 2 + 1, none⟩ = some (.int .i64 (f i).2)
theorem PA.below {W W' : World} {qa : Option Addr} {n B : Nat} {f : Nat → Int × Int} (h : PA W qa n f) (hb : Below B W W') (hB : W.heap.size ≤ B) : PA W' qa n f := fun i hi => by
  obtain ⟨g, o, e, hg, h1, h2⟩ := h i hi
  exact ⟨g, o, e, Nat.lt_of_lt_of_le hg hb.size, (hb.cell (p := ⟨g, _, none⟩) (Nat.lt_of_lt_of_le hg hB)).trans h1, (hb.cell (p := ⟨g, _, none⟩) (Nat.lt_of_lt_of_le hg hB)).trans h2⟩
theorem PA.bel {W W' : World} {qa : Option Addr} {n : Nat} {f : Nat → Int × Int} (h : PA W qa n f) (hb : Below W.heap.size W W') : PA W' qa n f := h.below hb (Nat.le_refl _)
theorem PA.row {W : World} {g o n : Nat} {f : Nat → Int × Int} (h : PA W (some ⟨g, o, none⟩) n f) : PRow W g o n f := fun i hi => by
  obtain ⟨g', o', e, _, h1, h2⟩ := h i hi
  cases e
  exact ⟨h1, h2⟩
set_option maxRecDepth 100000 in
set_option maxHeartbeats 3200000 in
theorem spansA_spec (qa : Option Addr) (n qc : Nat) (f : Nat → Int × Int) (w : World) (hn : n ≤ 1048576) (h1 : PA w qa n f) :
    Calls Try.prog 69 #[.slice qa n qc] w (ResB (SpR n f) w) := by
  have H1 := Lib.hid h1
  clear h1
  go_enter Try.func69, Try.ntmps69
  go_wp2
  go_loopw [3] (fun i wr => ∃ k : Nat, k ≤ n ∧ k ≤ 21 ∧ i = .int .i64 k ∧ (∀ j, j < k → okS f j) ∧ Below w.heap.size w wr) (fun i _ => n - (intOf i).toNat)
  case atStart => exact ⟨0, Nat.zero_le _, by omega, rfl, fun j h => absurd h (Nat.not_lt_zero _), Below.refl _ _⟩
  case round =>
    obtain ⟨k, hk, hk21, rfl, hall, hb⟩ := hrel
    have HA := Lib.hid hall
    have HB := Lib.hid hb
    have hsz := hb.size
    clear hall
    by_cases hlt : k < n
    · by_cases h20 : k ≤ 20
      · obtain ⟨g, o, rfl, hgl, hc0, hc1⟩ := (H1.out.bel hb) _ hlt
        have hi0 : (0 : Int) ≤ (k : Int) := Int.natCast_nonneg _
        have hi1 : (k : Int) < (n : Int) := by omega
        clear hb
        cases hr : spB (f k).1 (f k).2 with
        | false =>
          have Hno := Lib.hid (show ¬ SpR n f from fun h => by have := (h.2 k hlt).1; rw [hr] at this; cases this)
          have hrs := fun W => right_spec (f k).1 (f k).2 W
          rw [hr] at hrs
          clear hr
          go_wp2_with fail
          refine wp_region_held_drew (S := (fun W => W.cell? ⟨g, o + k * 2, none⟩ = some (.int .i64 (f k).1) ∧ W.cell? ⟨g, o + k * 2 + 1, none⟩ = some (.int .i64 (f k).2) ∧ wr.heap.size ≤ W.heap.size ∧ Below w.heap.size w W)) (by kernel_rfl) (⟨hc0, hc1, Nat.le_refl _, HB.out.drew⟩) (fun hHeld => ?_)
          refine tk 0 hHeld ?_
          refine tk 1 hHeld ?_
          refine tk 2 hHeld ?_
          refine tk 3 hHeld ?_
          refine rd1 4 (fun K hK => ?_)
          go_simp
          go_at_call 56; refine (hrs _).mono ?_; rintro e w1 ⟨rfl, hb⟩
          refine hK.out _ _ (⟨(hb.cell (p := ⟨g, o + k * 2, none⟩) (Nat.lt_of_lt_of_le hgl hHeld.2.2.1)).trans hHeld.1, (hb.cell (p := ⟨g, o + k * 2 + 1, none⟩) (Nat.lt_of_lt_of_le hgl hHeld.2.2.1)).trans hHeld.2.1, Nat.le_trans hHeld.2.2.1 hb.size, hHeld.2.2.2.trans (hb.mono (Nat.le_trans hsz hHeld.2.2.1))⟩) (fun hHeld => ?_)
          clear hK K
          refine tk 5 hHeld ?_
          refine tk 6 hHeld ?_
          refine tn 7 hHeld ?_
          refine tn 8 hHeld ?_
          refine tn 9 hHeld ?_
          refine tn 10 hHeld ?_
          refine tn 11 hHeld ?_
          refine tn 12 hHeld ?_
          refine tn 13 hHeld ?_
          refine tn 14 hHeld ?_
          refine tn 15 hHeld ?_
          refine tn 16 hHeld ?_
          refine tn 17 hHeld ?_
          refine tn 18 hHeld ?_
          refine tn 19 hHeld ?_
          refine tn 20 hHeld ?_
          refine tn 21 hHeld ?_
          refine tn 22 hHeld ?_
          refine tk 23 hHeld ?_
          refine rd0 ?_
          have HF := Lib.hid hHeld.2.2.2
          clear hHeld
          go_wp2
          go_ret
          exact resB_no Hno.out HF.out
        | true =>
          have hrs := fun W => right_spec (f k).1 (f k).2 W
          rw [hr] at hrs
          have Hr := Lib.hid hr
          clear hr
          rcases Nat.eq_zero_or_pos k with hk0 | hk0
          · subst hk0
            have hc0' : wr.cell? ⟨g, o, none⟩ = some (.int .i64 (f 0).1) := by simpa using hc0
            have hc1' : wr.cell? ⟨g, o + 1, none⟩ = some (.int .i64 (f 0).2) := by simpa using hc1
            clear hc0 hc1
            have HOK := Lib.hid (all_step HA.out ⟨Hr.out, fun h => absurd h (Nat.lt_irrefl _)⟩)
            go_wp2_with fail
            refine wp_region_held_drew (S := (fun W => W.cell? ⟨g, o, none⟩ = some (.int .i64 (f 0).1) ∧ W.cell? ⟨g, o + 1, none⟩ = some (.int .i64 (f 0).2) ∧ wr.heap.size ≤ W.heap.size ∧ Below w.heap.size w W)) (by kernel_rfl) (⟨hc0', hc1', Nat.le_refl _, HB.out.drew⟩) (fun hHeld => ?_)
            refine tk 0 hHeld ?_
            refine tk 1 hHeld ?_
            refine tk 2 hHeld ?_
            refine tk 3 hHeld ?_
            refine rd1 4 (fun K hK => ?_)
            go_simp
            go_at_call 56; refine (hrs _).mono ?_; rintro e w1 ⟨rfl, hb⟩
            refine hK.out _ _ (⟨(hb.cell (p := ⟨g, o, none⟩) (Nat.lt_of_lt_of_le hgl hHeld.2.2.1)).trans hHeld.1, (hb.cell (p := ⟨g, o + 1, none⟩) (Nat.lt_of_lt_of_le hgl hHeld.2.2.1)).trans hHeld.2.1, Nat.le_trans hHeld.2.2.1 hb.size, hHeld.2.2.2.trans (hb.mono (Nat.le_trans hsz hHeld.2.2.1))⟩) (fun hHeld => ?_)
            clear hK K
            refine tk 5 hHeld ?_
            refine tk 6 hHeld ?_
            refine tk 7 hHeld ?_
            refine tk 8 hHeld ?_
            refine tk 9 hHeld ?_
            refine tn 10 hHeld ?_
            refine tn 11 hHeld ?_
            refine tn 12 hHeld ?_
            refine tn 13 hHeld ?_
            refine tn 14 hHeld ?_
            refine tn 15 hHeld ?_
            refine tn 16 hHeld ?_
            refine tn 17 hHeld ?_
            refine tn 18 hHeld ?_
            refine tn 19 hHeld ?_
            refine tn 20 hHeld ?_
            refine tn 21 hHeld ?_
            refine tk 22 hHeld ?_
            refine tk 23 hHeld ?_
            refine rd0 ?_
            have HF := Lib.hid hHeld.2.2.2
            clear hHeld
            go_wp2
            go_roundw
            case rel => exact ⟨1, by omega, by omega, by go_num, HOK.out, HF.out⟩
            case measure => simp [intOf]; omega
          · obtain ⟨j, rfl⟩ : ∃ j, k = j + 1 := ⟨k - 1, by omega⟩
            obtain ⟨g2, o2, e2, _, hd0, hd1⟩ := (H1.out.bel HB.out) j (by omega)
            cases e2
            have hj0 : (0 : Int) ≤ (j : Int) := Int.natCast_nonneg _
            have hj1 : (j : Int) < (n : Int) := by omega
            have hjw2 : IntKind.i64.wrap (j : Int) = (j : Int) := IntWalk.i64_in _ (by omega)
            have hi0p : (0 : Int) ≤ (j : Int) + 1 := by omega
            have hi1p : (j : Int) + 1 < (n : Int) := by omega
            have hjw : IntKind.i64.wrap ((j : Int) + 1 - 1) = (j : Int) := (by rw [show (j : Int) + 1 - 1 = (j : Int) by omega]; exact IntWalk.i64_in _ (by omega))
            have hjp : decide ((0 : Int) < (j : Int) + 1) = true := decide_eq_true (by omega)
            by_cases hlo : (f (j + 1)).1 < (f j).2
            · have Hno := Lib.hid (show ¬ SpR n f from fun h => by have h2 := (h.2 (j + 1) hlt).2 (Nat.succ_pos _); simp only [Nat.add_sub_cancel] at h2; omega)
              have hlo' : decide ((f (j + 1)).1 < (f j).2) = true := decide_eq_true hlo
              go_wp2_with fail
              refine wp_region_held_drew (S := (fun W => W.cell? ⟨g, o + j * 2, none⟩ = some (.int .i64 (f j).1) ∧ W.cell? ⟨g, o + j * 2 + 1, none⟩ = some (.int .i64 (f j).2) ∧ W.cell? ⟨g, o + (j + 1) * 2, none⟩ = some (.int .i64 (f (j + 1)).1) ∧ W.cell? ⟨g, o + (j + 1) * 2 + 1, none⟩ = some (.int .i64 (f (j + 1)).2) ∧ wr.heap.size ≤ W.heap.size ∧ Below w.heap.size w W)) (by kernel_rfl) (⟨hd0, hd1, hc0, hc1, Nat.le_refl _, HB.out.drew⟩) (fun hHeld => ?_)
              refine tk 0 hHeld ?_
              refine tk 1 hHeld ?_
              refine tk 2 hHeld ?_
              refine tk 3 hHeld ?_
              refine rd1 4 (fun K hK => ?_)
              go_simp
              go_at_call 56; refine (hrs _).mono ?_; rintro e w1 ⟨rfl, hb⟩
              refine hK.out _ _ (⟨(hb.cell (p := ⟨g, o + j * 2, none⟩) (Nat.lt_of_lt_of_le hgl hHeld.2.2.2.2.1)).trans hHeld.1, (hb.cell (p := ⟨g, o + j * 2 + 1, none⟩) (Nat.lt_of_lt_of_le hgl hHeld.2.2.2.2.1)).trans hHeld.2.1, (hb.cell (p := ⟨g, o + (j + 1) * 2, none⟩) (Nat.lt_of_lt_of_le hgl hHeld.2.2.2.2.1)).trans hHeld.2.2.1, (hb.cell (p := ⟨g, o + (j + 1) * 2 + 1, none⟩) (Nat.lt_of_lt_of_le hgl hHeld.2.2.2.2.1)).trans hHeld.2.2.2.1, Nat.le_trans hHeld.2.2.2.2.1 hb.size, hHeld.2.2.2.2.2.trans (hb.mono (Nat.le_trans hsz hHeld.2.2.2.2.1))⟩) (fun hHeld => ?_)
              clear hK K
              refine tk 5 hHeld ?_
              refine tk 6 hHeld ?_
              refine tk 7 hHeld ?_
              refine tk 8 hHeld ?_
              refine tk 9 hHeld ?_
              refine tk 10 hHeld ?_
              refine tk 11 hHeld ?_
              refine tk 12 hHeld ?_
              refine tk 13 hHeld ?_
              refine tk 14 hHeld ?_
              refine tk 15 hHeld ?_
              refine tk 16 hHeld ?_
              refine tk 17 hHeld ?_
              refine tk 18 hHeld ?_
              refine tk 19 hHeld ?_
              refine tk 20 hHeld ?_
              refine tk 21 hHeld ?_
              refine tk 22 hHeld ?_
              refine tk 23 hHeld ?_
              refine rd0 ?_
              have HF := Lib.hid hHeld.2.2.2.2.2
              clear hHeld
              go_wp2
              go_ret
              exact resB_no Hno.out HF.out
            · have HOK := Lib.hid (all_step HA.out (show okS f (j + 1) from ⟨Hr.out, fun _ => by simp only [Nat.add_sub_cancel]; omega⟩))
              have hlo' : decide ((f (j + 1)).1 < (f j).2) = false := decide_eq_false hlo
              go_wp2_with fail
              refine wp_region_held_drew (S := (fun W => W.cell? ⟨g, o + j * 2, none⟩ = some (.int .i64 (f j).1) ∧ W.cell? ⟨g, o + j * 2 + 1, none⟩ = some (.int .i64 (f j).2) ∧ W.cell? ⟨g, o + (j + 1) * 2, none⟩ = some (.int .i64 (f (j + 1)).1) ∧ W.cell? ⟨g, o + (j + 1) * 2 + 1, none⟩ = some (.int .i64 (f (j + 1)).2) ∧ wr.heap.size ≤ W.heap.size ∧ Below w.heap.size w W)) (by kernel_rfl) (⟨hd0, hd1, hc0, hc1, Nat.le_refl _, HB.out.drew⟩) (fun hHeld => ?_)
              refine tk 0 hHeld ?_
              refine tk 1 hHeld ?_
              refine tk 2 hHeld ?_
              refine tk 3 hHeld ?_
              refine rd1 4 (fun K hK => ?_)
              go_simp
              go_at_call 56; refine (hrs _).mono ?_; rintro e w1 ⟨rfl, hb⟩
              refine hK.out _ _ (⟨(hb.cell (p := ⟨g, o + j * 2, none⟩) (Nat.lt_of_lt_of_le hgl hHeld.2.2.2.2.1)).trans hHeld.1, (hb.cell (p := ⟨g, o + j * 2 + 1, none⟩) (Nat.lt_of_lt_of_le hgl hHeld.2.2.2.2.1)).trans hHeld.2.1, (hb.cell (p := ⟨g, o + (j + 1) * 2, none⟩) (Nat.lt_of_lt_of_le hgl hHeld.2.2.2.2.1)).trans hHeld.2.2.1, (hb.cell (p := ⟨g, o + (j + 1) * 2 + 1, none⟩) (Nat.lt_of_lt_of_le hgl hHeld.2.2.2.2.1)).trans hHeld.2.2.2.1, Nat.le_trans hHeld.2.2.2.2.1 hb.size, hHeld.2.2.2.2.2.trans (hb.mono (Nat.le_trans hsz hHeld.2.2.2.2.1))⟩) (fun hHeld => ?_)
              clear hK K
              refine tk 5 hHeld ?_
              refine tk 6 hHeld ?_
              refine tk 7 hHeld ?_
              refine tk 8 hHeld ?_
              refine tk 9 hHeld ?_
              refine tk 10 hHeld ?_
              refine tk 11 hHeld ?_
              refine tk 12 hHeld ?_
              refine tk 13 hHeld ?_
              refine tk 14 hHeld ?_
              refine tk 15 hHeld ?_
              refine tk 16 hHeld ?_
              refine tk 17 hHeld ?_
              refine tk 18 hHeld ?_
              refine tk 19 hHeld ?_
              refine tk 20 hHeld ?_
              refine tk 21 hHeld ?_
              refine tk 22 hHeld ?_
              refine tk 23 hHeld ?_
              refine rd0 ?_
              have HF := Lib.hid hHeld.2.2.2.2.2
              clear hHeld
              go_wp2
              go_roundw
              case rel => exact ⟨j + 2, by omega, by omega, by go_num, HOK.out, HF.out⟩
              case measure => simp [intOf]; omega
      · have Hno := Lib.hid (show ¬ SpR n f from fun h => by have := h.1; omega)
        have hdk : decide ((k : Int) ≤ 20) = false := decide_eq_false (by omega)
        have hdn : decide ((n : Int) ≤ 20) = false := decide_eq_false (by omega)
        clear hb
        go_wp2
        go_ret
        exact resB_no Hno.out HB.out
    · clear hb
      by_cases hn20 : n ≤ 20
      · have Hy := Lib.hid (show SpR n f from ⟨hn20, fun i hi => HA.out i (by omega)⟩)
        have hdn : decide ((n : Int) ≤ 20) = true := decide_eq_true (by omega)
        go_wp2
        go_ret
        exact resB_yes Hy.out HB.out
      · have Hno := Lib.hid (show ¬ SpR n f from fun h => hn20 h.1)
        have hdn : decide ((n : Int) ≤ 20) = false := decide_eq_false (by omega)
        go_wp2
        go_ret
        exact resB_no Hno.out HB.out
end Go.Proofs.Ytfciojkibklkfaa.SpanC
end
section
namespace Go.Proofs.Ytfciojkibklkfaa.RepC
open Go.RowKit RowC ValC SpanC KeptC
set_option linter.unusedVariables false
set_option linter.unusedSimpArgs false
def gt (L : List D_Span) (i : Nat) : Int × Int := (L[i]?).getD (0, 0)
theorem gt_at {L : List D_Span} {i : Nat} {x : D_Span} (h : L[i]? = some x) : gt L i = x := by unfold gt; rw [h]; rfl
theorem pa_of {W : World} {B : Nat} {L : List D_Span} {a : Option Addr} {cap : Nat} (h : RdSl R_Span W B L a cap) (hB : B ≤ W.heap.size) : PA W a L.length (gt L) := fun i hi => by
  obtain ⟨x, hx⟩ := el_some hi
  obtain ⟨g, o, us, rfl, hg, hu, hr⟩ := h.at_ hx
  obtain ⟨x0, x1⟩ := x
  obtain rfl := rd_Span hr
  rw [gt_at hx]
  exact ⟨g, o, rfl, Nat.lt_of_lt_of_le hg hB, by simpa [size_SpanS] using hu 0 _ rfl, by simpa [size_SpanS, Nat.add_assoc] using hu 1 _ rfl⟩
def okN (x : D_Node) : Prop := isB x.1 1 3 = true ∧ x.2.length ≤ 4 ∧ SpR x.2.length (gt x.2)
def NodesR (L : List D_Node) : Prop := (1 ≤ L.length ∧ L.length ≤ 6) ∧ ∀ x ∈ L, okN x
open Classical in
noncomputable def nodesB (L : List D_Node) : Bool := decide (NodesR L)
open Classical in
theorem nodesB_iff {L : List D_Node} : nodesB L = true ↔ NodesR L := by unfold nodesB; simp
theorem resB_is {P : Prop} {b : Bool} {w w' : World} {e : Ending} (hb : b = true ↔ P) (h : ResB P w e w') : IsB b w e w' := by
  obtain ⟨c, rfl, hc, hB⟩ := h
  obtain rfl : c = b := by
    cases c <;> cases b <;> first | rfl | exact absurd (hc.2 (hb.1 rfl)) (by decide) | exact absurd (hb.2 (hc.1 rfl)) (by decide)
  exact ⟨rfl, hB⟩
theorem mv_rd {α : Type} {E : Rp α} (hE : Ok E) {L : List α} {a : Option Addr} {cap : Nat} {w w' : World} (h : RdSl E w w.heap.size L a cap) (hb : Below w.heap.size w w') : RdSl E w' w'.heap.size L a cap := (h.below hE hb).more hE hb.size
def okTo (L : List D_Node) (k : Nat) : Prop := ∀ i x, i < k → L[i]? = some x → okN x
theorem okTo_zero {L : List D_Node} : okTo L 0 := fun i x h => absurd h (Nat.not_lt_zero _)
theorem okTo_step {L : List D_Node} {k : Nat} {x : D_Node} (h : okTo L k) (hx : L[k]? = some x) (hk : okN x) : okTo L (k + 1) := fun i y hi hy => by
  rcases Nat.lt_succ_iff_lt_or_eq.1 hi with h1 | h1
  · exact h i y h1 hy
  · subst h1; rw [hx] at hy; cases hy; exact hk
theorem nodesR_all {L : List D_Node} (h1 : 1 ≤ L.length) (h2 : L.length ≤ 6) (h : okTo L L.length) : NodesR L := ⟨⟨h1, h2⟩, fun x hx => by
  obtain ⟨i, hi, e⟩ := List.getElem_of_mem hx
  exact h i x hi (by rw [List.getElem?_eq_getElem hi, e])⟩
theorem nodesR_at {L : List D_Node} (h : NodesR L) {k : Nat} {x : D_Node} (hx : L[k]? = some x) : okN x := h.2 x (List.mem_of_getElem? hx)
end Go.Proofs.Ytfciojkibklkfaa.RepC
end
section
namespace Go.Proofs.Ytfciojkibklkfaa.RepC
open Go.RowKit RowC ValC SpanC KeptC
set_option linter.unusedVariables false
set_option linter.unusedSimpArgs false
structure DelM (W wr : World) (L : List D_Span) (g : Nat) (p : D_Span → Bool) (j : Nat) : Prop where
  low : ∀ r x, ((L.take j).filter fun y => !p y)[r]? = some x → wr.cell? ⟨g, r * 2, none⟩ = some (.int .i64 x.1) ∧ wr.cell? ⟨g, r * 2 + 1, none⟩ = some (.int .i64 x.2)
  high : ∀ r x, j ≤ r → L[r]? = some x → wr.cell? ⟨g, r * 2, none⟩ = some (.int .i64 x.1) ∧ wr.cell? ⟨g, r * 2 + 1, none⟩ = some (.int .i64 x.2)
  there : ∀ q, q < L.length * 2 → ∃ u, wr.cell? ⟨g, q, none⟩ = some u
  soft : ∀ q, wr.frozen? ⟨g, q, none⟩ = false
  off : Off (fun k => k = g) W wr
  lt : g < W.heap.size
section
variable {W wr w' : World} {L : List D_Span} {g j : Nat} {p : D_Span → Bool}
theorem kept_le : ((L.take j).filter fun y => !p y).length ≤ j := Nat.le_trans (List.length_filter_le _ _) (by rw [List.length_take]; omega)
theorem DelM.call (h : DelM W wr L g p j) (hb : Below wr.heap.size wr w') : DelM W w' L g p j := by
  have hg : g < wr.heap.size := Nat.lt_of_lt_of_le h.lt h.off.size
  exact ⟨fun r x hx => ⟨(hb.cell (p := ⟨g, r * 2, none⟩) hg).trans (h.low r x hx).1, (hb.cell (p := ⟨g, r * 2 + 1, none⟩) hg).trans (h.low r x hx).2⟩,
    fun r x hr hx => ⟨(hb.cell (p := ⟨g, r * 2, none⟩) hg).trans (h.high r x hr hx).1, (hb.cell (p := ⟨g, r * 2 + 1, none⟩) hg).trans (h.high r x hr hx).2⟩,
    fun q hq => by obtain ⟨u, hu⟩ := h.there q hq; exact ⟨u, (hb.cell (p := ⟨g, q, none⟩) hg).trans hu⟩, fun q => (hb.frozen (p := ⟨g, q, none⟩) hg).trans (h.soft q), h.off.of_below hb, h.lt⟩
theorem DelM.start {k : Nat} {x : D_Span} {S : Nat → Prop} {a : Option Addr} {c : Nat} (hO : OwSl R_Span W S L (some ⟨g, 0, none⟩) c) (hg : g < W.heap.size) (hb : Below W.heap.size W wr) (hx : L[k]? = some x) (hpx : p x = true) (hall : ∀ i y, i < k → L[i]? = some y → p y = false) : DelM W wr L g p (k + 1) ∧ ((L.take (k + 1)).filter fun y => !p y).length = k := by
  have hk := el_lt hx
  obtain ⟨g0, Sf, e0, _, hso, _, _, hel⟩ := hO.2.2 (by omega)
  cases e0
  have hcell : ∀ r y, L[r]? = some y → wr.cell? ⟨g, r * 2, none⟩ = some (.int .i64 y.1) ∧ wr.cell? ⟨g, r * 2 + 1, none⟩ = some (.int .i64 y.2) := fun r y hy => by
    obtain ⟨us, hu, hr⟩ := hel r y hy
    obtain ⟨y0, y1⟩ := y
    obtain rfl := ow0_Span hr
    rw [size_SpanS] at hu
    exact ⟨(hb.cell (p := ⟨g, r * 2, none⟩) hg).trans (by simpa using hu 0 _ rfl), (hb.cell (p := ⟨g, r * 2 + 1, none⟩) hg).trans (hu 1 _ rfl)⟩
  have hT : (L.take (k + 1)).filter (fun y => !p y) = L.take k := by
    rw [List.take_add_one, hx, Option.toList_some, List.filter_append]
    have h1 : (L.take k).filter (fun y => !p y) = L.take k := List.filter_eq_self.2 fun y hy => by
      obtain ⟨i, hi, rfl⟩ := List.getElem_of_mem hy
      have hi2 : i < k := by rw [List.length_take] at hi; omega
      rw [hall i _ hi2 (by rw [List.getElem_take, List.getElem?_eq_getElem])]
      rfl
    rw [h1]
    simp [hpx]
  refine ⟨⟨fun r y hy => ?_, fun r y _ hy => hcell r y hy, fun q hq => ?_, fun q => (hb.frozen (p := ⟨g, q, none⟩) hg).trans (hso q), (Off.refl _ W).of_below hb, hg⟩, by rw [hT, List.length_take]; omega⟩
  · rw [hT, List.getElem?_take] at hy
    split at hy
    · exact hcell r y hy
    · cases hy
  · obtain ⟨y, hy⟩ := el_some (show q / 2 < L.length by omega)
    rcases Nat.mod_two_eq_zero_or_one q with e | e
    · exact ⟨_, by rw [show q = q / 2 * 2 by omega]; exact (hcell _ y hy).1⟩
    · exact ⟨_, by rw [show q = q / 2 * 2 + 1 by omega]; exact (hcell _ y hy).2⟩
theorem DelM.drop (h : DelM W wr L g p j) {x : D_Span} (hx : L[j]? = some x) (hp : p x = true) : DelM W wr L g p (j + 1) ∧ ((L.take (j + 1)).filter fun y => !p y) = ((L.take j).filter fun y => !p y) := by
  have hT : ((L.take (j + 1)).filter fun y => !p y) = ((L.take j).filter fun y => !p y) := by
    rw [List.take_add_one, hx, Option.toList_some, List.filter_append]; simp [hp]
  exact ⟨⟨fun r y hy => h.low r y (by rw [hT] at hy; exact hy), fun r y hr hy => h.high r y (by omega) hy, h.there, h.soft, h.off, h.lt⟩, hT⟩
theorem DelM.keep (h : DelM W wr L g p j) {i : Nat} {x : D_Span} (hx : L[j]? = some x) (hp : p x = false) (hi : ((L.take j).filter fun y => !p y).length = i) :
    DelM W ((wr.setCell ⟨g, i * 2, none⟩ (.int .i64 x.1)).setCell ⟨g, i * 2 + 1, none⟩ (.int .i64 x.2)) L g p (j + 1) ∧ ((L.take (j + 1)).filter fun y => !p y).length = i + 1 := by
  have hT : ((L.take (j + 1)).filter fun y => !p y) = ((L.take j).filter fun y => !p y) ++ [x] := by
    rw [List.take_add_one, hx, Option.toList_some, List.filter_append]; simp [hp]
  have hij : i ≤ j := by rw [← hi]; exact kept_le
  have hj := el_lt hx
  have far : ∀ q, q ≠ i * 2 → q ≠ i * 2 + 1 → ((wr.setCell ⟨g, i * 2, none⟩ (.int .i64 x.1)).setCell ⟨g, i * 2 + 1, none⟩ (.int .i64 x.2)).cell? ⟨g, q, none⟩ = wr.cell? ⟨g, q, none⟩ := fun q h1 h2 => by
    rw [World.cell?_setCell_other _ _ _ _ (fun e => by injection e with _ e2; omega), World.cell?_setCell_other _ _ _ _ (fun e => by injection e with _ e2; omega)]
  obtain ⟨u0, hu0⟩ := h.there (i * 2) (by omega)
  obtain ⟨u1, hu1⟩ := h.there (i * 2 + 1) (by omega)
  have n0 : ((wr.setCell ⟨g, i * 2, none⟩ (.int .i64 x.1)).setCell ⟨g, i * 2 + 1, none⟩ (.int .i64 x.2)).cell? ⟨g, i * 2, none⟩ = some (.int .i64 x.1) := by
    rw [World.cell?_setCell_other _ _ _ _ (fun e => by injection e with _ e2; omega)]
    exact World.cell?_setCell_same _ _ _ hu0
  have n1 : ((wr.setCell ⟨g, i * 2, none⟩ (.int .i64 x.1)).setCell ⟨g, i * 2 + 1, none⟩ (.int .i64 x.2)).cell? ⟨g, i * 2 + 1, none⟩ = some (.int .i64 x.2) := World.cell?_setCell_same _ _ _ (by rw [World.cell?_setCell_other _ _ _ _ (fun e => by injection e with _ e2; omega)]; exact hu1)
  refine ⟨⟨fun r y hy => ?_, fun r y hr hy => ?_, fun q hq => ?_, fun q => by simp only [World.frozen?_setCell]; exact h.soft q, (h.off.setCell rfl _).setCell rfl _, h.lt⟩, by rw [hT, List.length_append, hi]; rfl⟩
  · rw [hT] at hy
    by_cases hri : r < i
    · rw [List.getElem?_append_left (by omega)] at hy
      exact ⟨(far _ (by omega) (by omega)).trans (h.low r y hy).1, (far _ (by omega) (by omega)).trans (h.low r y hy).2⟩
    · have hrl := el_lt hy
      rw [List.length_append, hi] at hrl
      simp at hrl
      obtain rfl : r = i := by omega
      rw [List.getElem?_append_right (by omega), hi, Nat.sub_self] at hy
      simp at hy
      subst hy
      exact ⟨n0, n1⟩
  · exact ⟨(far _ (by omega) (by omega)).trans (h.high r y (by omega) hy).1, (far _ (by omega) (by omega)).trans (h.high r y (by omega) hy).2⟩
  · by_cases h1 : q = i * 2
    · subst h1; exact ⟨_, n0⟩
    · by_cases h2 : q = i * 2 + 1
      · subst h2; exact ⟨_, n1⟩
      · obtain ⟨u, hu⟩ := h.there q hq
        exact ⟨u, (far _ h1 h2).trans hu⟩
end
end Go.Proofs.Ytfciojkibklkfaa.RepC
end
section
namespace Go.Proofs.Ytfciojkibklkfaa.SpanC
open Go.RowKit KeptC
set_option linter.unusedSimpArgs false
theorem method_before (a b : Int) (w : World) : (Go.method 219 25 (.agg #[.int .i64 a, .int .i64 b]) "loop.example/g00658/impl.before").run Try.prog w = .ok (113, .agg #[.int .i64 a, .int .i64 b]) w := by kernel_rfl
def Ord (n : Nat) (f : Nat → Int × Int) : Prop := ∀ j, j + 1 < n → (f j).2 ≤ (f (j + 1)).1
set_option maxRecDepth 100000 in
set_option maxHeartbeats 3200000 in
theorem order_impl (qa : Option Addr) (n qc : Nat) (f : Nat → Int × Int) (w : World) (hn : n ≤ 1048576) (h1 : PA w qa n f) :
    Calls Try.prog 89 #[.slice qa n qc] w (ResB (Ord n f) w) := by
  have H1 := Lib.hid h1
  clear h1
  go_enter Try.func89, Try.ntmps89
  go_wp2
  go_loopw [3] (fun i wr => ∃ k : Nat, (k ≤ n ∨ k = 1) ∧ 1 ≤ k ∧ i = .int .i64 k ∧ (∀ j, j + 1 < k → (f j).2 ≤ (f (j + 1)).1) ∧ Below w.heap.size w wr) (fun i _ => n - (intOf i).toNat)
  case atStart => exact ⟨1, .inr rfl, by omega, rfl, fun j h => by omega, Below.refl _ _⟩
  case round =>
    obtain ⟨k, hk, hk1, rfl, hall, hb⟩ := hrel
    have HA := Lib.hid hall
    have HB := Lib.hid hb
    have hsz := hb.size
    clear hall
    by_cases hlt : k < n
    · obtain ⟨j, rfl⟩ : ∃ j, k = j + 1 := ⟨k - 1, by omega⟩
      obtain ⟨g, o, rfl, hgl, hc0, hc1⟩ := (H1.out.bel hb) _ hlt
      obtain ⟨g2, o2, e2, _, hd0, hd1⟩ := (H1.out.bel HB.out) j (by omega)
      cases e2
      have hj0 : (0 : Int) ≤ (j : Int) := Int.natCast_nonneg _
      have hj1 : (j : Int) < (n : Int) := by omega
      have hjw2 : IntKind.i64.wrap (j : Int) = (j : Int) := IntWalk.i64_in _ (by omega)
      have hi0p : (0 : Int) ≤ (j : Int) + 1 := by omega
      have hi1p : (j : Int) + 1 < (n : Int) := by omega
      have hjw : IntKind.i64.wrap ((j : Int) + 1 - 1) = (j : Int) := (by rw [show (j : Int) + 1 - 1 = (j : Int) by omega]; exact IntWalk.i64_in _ (by omega))
      clear hb
      have hm := method_before (f j).1 (f j).2
      have hrs := fun W => before_impl (f j).1 (f j).2 (f (j + 1)).1 (f (j + 1)).2 W
      by_cases hlo : (f j).2 ≤ (f (j + 1)).1
      · have HOK := Lib.hid (show ∀ i, i + 1 < j + 2 → (f i).2 ≤ (f (i + 1)).1 from fun i hi => by
          by_cases e : i = j
          · subst e; exact hlo
          · exact HA.out i (by omega))
        rw [decide_eq_true hlo] at hrs
        go_wp2_with fail
        refine wp_region_held_drew (S := (fun W => W.cell? ⟨g, o + j * 2, none⟩ = some (.int .i64 (f j).1) ∧ W.cell? ⟨g, o + j * 2 + 1, none⟩ = some (.int .i64 (f j).2) ∧ W.cell? ⟨g, o + (j + 1) * 2, none⟩ = some (.int .i64 (f (j + 1)).1) ∧ W.cell? ⟨g, o + (j + 1) * 2 + 1, none⟩ = some (.int .i64 (f (j + 1)).2) ∧ wr.heap.size ≤ W.heap.size ∧ Below w.heap.size w W)) (by kernel_rfl) (⟨hd0, hd1, hc0, hc1, Nat.le_refl _, HB.out.drew⟩) (fun hHeld => ?_)
        refine tk 0 hHeld ?_
        refine tk 1 hHeld ?_
        refine tk 2 hHeld ?_
        refine tk 3 hHeld ?_
        refine tk 4 hHeld ?_
        refine tk 5 hHeld ?_
        refine tk 6 hHeld ?_
        refine tk 7 hHeld ?_
        refine tk 8 hHeld ?_
        refine tk 9 hHeld ?_
        refine rd1 10 (fun K hK => ?_)
        go_simp
        go_at_call 113; refine (hrs _).mono ?_; rintro e w1 ⟨rfl, hb⟩
        refine hK.out _ _ (⟨(hb.cell (p := ⟨g, o + j * 2, none⟩) (Nat.lt_of_lt_of_le hgl hHeld.2.2.2.2.1)).trans hHeld.1, (hb.cell (p := ⟨g, o + j * 2 + 1, none⟩) (Nat.lt_of_lt_of_le hgl hHeld.2.2.2.2.1)).trans hHeld.2.1, (hb.cell (p := ⟨g, o + (j + 1) * 2, none⟩) (Nat.lt_of_lt_of_le hgl hHeld.2.2.2.2.1)).trans hHeld.2.2.1, (hb.cell (p := ⟨g, o + (j + 1) * 2 + 1, none⟩) (Nat.lt_of_lt_of_le hgl hHeld.2.2.2.2.1)).trans hHeld.2.2.2.1, Nat.le_trans hHeld.2.2.2.2.1 hb.size, hHeld.2.2.2.2.2.trans (hb.mono (Nat.le_trans hsz hHeld.2.2.2.2.1))⟩) (fun hHeld => ?_)
        clear hK K
        refine tk 11 hHeld ?_
        refine rd0 ?_
        have HF := Lib.hid hHeld.2.2.2.2.2
        clear hHeld
        go_wp2
        go_roundw
        case rel => exact ⟨j + 2, by omega, by omega, by go_num, HOK.out, HF.out⟩
        case measure => simp [intOf]; omega
      · have Hno := Lib.hid (show ¬ Ord n f from fun h => hlo (h j hlt))
        rw [decide_eq_false hlo] at hrs
        go_wp2_with fail
        refine wp_region_held_drew (S := (fun W => W.cell? ⟨g, o + j * 2, none⟩ = some (.int .i64 (f j).1) ∧ W.cell? ⟨g, o + j * 2 + 1, none⟩ = some (.int .i64 (f j).2) ∧ W.cell? ⟨g, o + (j + 1) * 2, none⟩ = some (.int .i64 (f (j + 1)).1) ∧ W.cell? ⟨g, o + (j + 1) * 2 + 1, none⟩ = some (.int .i64 (f (j + 1)).2) ∧ wr.heap.size ≤ W.heap.size ∧ Below w.heap.size w W)) (by kernel_rfl) (⟨hd0, hd1, hc0, hc1, Nat.le_refl _, HB.out.drew⟩) (fun hHeld => ?_)
        refine tk 0 hHeld ?_
        refine tk 1 hHeld ?_
        refine tk 2 hHeld ?_
        refine tk 3 hHeld ?_
        refine tk 4 hHeld ?_
        refine tk 5 hHeld ?_
        refine tk 6 hHeld ?_
        refine tk 7 hHeld ?_
        refine tk 8 hHeld ?_
        refine tk 9 hHeld ?_
        refine rd1 10 (fun K hK => ?_)
        go_simp
        go_at_call 113; refine (hrs _).mono ?_; rintro e w1 ⟨rfl, hb⟩
        refine hK.out _ _ (⟨(hb.cell (p := ⟨g, o + j * 2, none⟩) (Nat.lt_of_lt_of_le hgl hHeld.2.2.2.2.1)).trans hHeld.1, (hb.cell (p := ⟨g, o + j * 2 + 1, none⟩) (Nat.lt_of_lt_of_le hgl hHeld.2.2.2.2.1)).trans hHeld.2.1, (hb.cell (p := ⟨g, o + (j + 1) * 2, none⟩) (Nat.lt_of_lt_of_le hgl hHeld.2.2.2.2.1)).trans hHeld.2.2.1, (hb.cell (p := ⟨g, o + (j + 1) * 2 + 1, none⟩) (Nat.lt_of_lt_of_le hgl hHeld.2.2.2.2.1)).trans hHeld.2.2.2.1, Nat.le_trans hHeld.2.2.2.2.1 hb.size, hHeld.2.2.2.2.2.trans (hb.mono (Nat.le_trans hsz hHeld.2.2.2.2.1))⟩) (fun hHeld => ?_)
        clear hK K
        refine tk 11 hHeld ?_
        refine rd0 ?_
        have HF := Lib.hid hHeld.2.2.2.2.2
        clear hHeld
        go_wp2
        go_ret
        exact resB_no Hno.out HF.out
    · have Hy := Lib.hid (show Ord n f from fun j hj => HA.out j (by omega))
      clear hb
      go_wp2
      go_ret
      exact resB_yes Hy.out HB.out
end Go.Proofs.Ytfciojkibklkfaa.SpanC
end
section
namespace Go.Proofs.Ytfciojkibklkfaa.SpanC
open Go.RowKit KeptC
set_option linter.unusedSimpArgs false
theorem spR_of {n : Nat} {f : Nat → Int × Int} (h : n ≤ 20) (h1 : ∀ i, i < n → spB (f i).1 (f i).2 = true) (h2 : Ord n f) : SpR n f :=
  ⟨h, fun i hi => ⟨h1 i hi, fun h0 => by
    have := h2 (i - 1) (by omega)
    rwa [show i - 1 + 1 = i by omega] at this⟩⟩
theorem ord_of {n : Nat} {f : Nat → Int × Int} (h : SpR n f) : Ord n f := fun j hj => (h.2 (j + 1) hj).2 (Nat.succ_pos _)
set_option maxRecDepth 100000 in
set_option maxHeartbeats 3200000 in
theorem spans_impl (qa : Option Addr) (n qc : Nat) (f : Nat → Int × Int) (w : World) (hn : n ≤ 1048576) (h1 : PA w qa n f) :
    Calls Try.prog 68 #[.slice qa n qc] w (ResB (SpR n f) w) := by
  have H1 := Lib.hid h1
  clear h1
  by_cases h20 : n ≤ 20
  · have hd : decide ((20 : Int) < (n : Int)) = false := decide_eq_false (by omega)
    go_enter Try.func68, Try.ntmps68
    go_wp2
    go_loopw [10] (fun i wr => ∃ k : Nat, k ≤ n ∧ i = .int .i64 k ∧ (∀ j, j < k → spB (f j).1 (f j).2 = true) ∧ Below w.heap.size w wr) (fun i _ => n - (intOf i).toNat)
    case atStart => exact ⟨0, Nat.zero_le _, rfl, fun j h => absurd h (Nat.not_lt_zero _), Below.refl _ _⟩
    case round =>
      obtain ⟨k, hk, rfl, hall, hb⟩ := hrel
      have HA := Lib.hid hall
      have HB := Lib.hid hb
      have hsz := hb.size
      clear hall
      by_cases hlt : k < n
      · obtain ⟨g, o, rfl, hgl, hc0, hc1⟩ := (H1.out.bel hb) _ hlt
        have hi0 : (0 : Int) ≤ (k : Int) := Int.natCast_nonneg _
        have hi1 : (k : Int) < (n : Int) := by omega
        have hrs := fun W => right_impl (f k).1 (f k).2 W
        clear hb
        cases hr : spB (f k).1 (f k).2 with
        | false =>
          have Hno := Lib.hid (show ¬ SpR n f from fun h => by have := (h.2 k hlt).1; rw [hr] at this; cases this)
          rw [hr] at hrs
          clear hr
          go_wp2_with (go_at_call 50; refine (hrs _).mono ?_; rintro e w1 ⟨rfl, hb⟩; have HB2 := Lib.hid (Below.trans (B := w.heap.size) (a := w) (by repeat (first | exact HB.out | refine Below.drew ?_ | refine Below.setCell ?_ (by first | omega | (simp <;> omega)) _ | refine Below.alloc ?_ (by first | omega | (simp <;> omega)) _)) (hb.mono (by first | omega | (simp <;> omega)))); clear hb)
          go_ret
          exact resB_no Hno.out HB2.out
        | true =>
          have HOK := Lib.hid (all_step HA.out hr)
          rw [hr] at hrs
          clear hr
          go_wp2_with (go_at_call 50; refine (hrs _).mono ?_; rintro e w1 ⟨rfl, hb⟩; have HB2 := Lib.hid (Below.trans (B := w.heap.size) (a := w) (by repeat (first | exact HB.out | refine Below.drew ?_ | refine Below.setCell ?_ (by first | omega | (simp <;> omega)) _ | refine Below.alloc ?_ (by first | omega | (simp <;> omega)) _)) (hb.mono (by first | omega | (simp <;> omega)))); clear hb)
          go_roundw
          case rel => exact ⟨k + 1, by omega, by go_num, HOK.out, HB2.out⟩
          case measure => simp [intOf]; omega
      · clear hb
        obtain rfl : k = n := by omega
        go_wp2_with fail
        refine (order_impl qa k qc f _ hn (H1.out.bel HB.out)).mono ?_
        intro e w1 h
        obtain ⟨b, rfl, hb, hB⟩ := resB_elim h
        have HB2 := Lib.hid (HB.out.trans (hB.mono hsz))
        have Hb := Lib.hid (show b = true ↔ SpR k f from ⟨fun h => spR_of h20 HA.out (hb.1 h), fun h => hb.2 (ord_of h)⟩)
        clear h hB hb
        go_wp2
        go_ret
        exact ⟨b, rfl, Hb.out, HB2.out⟩
  · have Hno := Lib.hid (show ¬ SpR n f from fun h => h20 h.1)
    have hd : decide ((20 : Int) < (n : Int)) = true := decide_eq_true (by omega)
    go_enter Try.func68, Try.ntmps68
    go_wp2
    go_ret
    exact resB_no Hno.out (Below.refl _ _)
end Go.Proofs.Ytfciojkibklkfaa.SpanC
end
section
namespace Go.Proofs.Ytfciojkibklkfaa.SpanC
open Go.RowKit KeptC
set_option linter.unusedSimpArgs false
set_option linter.unusedVariables false
def PlaceP (n : Nat) (f : Nat → Int × Int) (a : Int) (p : Nat) : Prop := p ≤ n ∧ (∀ j, j < p → (f j).2 ≤ a) ∧ (p < n → ¬ (f p).2 ≤ a)
def ResPlace (n : Nat) (f : Nat → Int × Int) (a : Int) (w : World) (e : Ending) (w' : World) : Prop := ∃ p : Nat, e = .returned (.int .i64 p) ∧ PlaceP n f a p ∧ Below w.heap.size w w'
theorem resPlace_elim {n : Nat} {f : Nat → Int × Int} {a : Int} {w : World} {e : Ending} {w' : World} (h : ResPlace n f a w e w') : ∃ p : Nat, e = .returned (.int .i64 p) ∧ PlaceP n f a p ∧ Below w.heap.size w w' := h
theorem bel1 {w W : World} {o : Obj} (h : Below (w.heap.size + 1) (w.alloc o) W) : Below w.heap.size w W := ((Below.refl w.heap.size w).alloc (Nat.le_refl _) o).trans (h.mono (Nat.le_succ _))
theorem box0 {w W : World} {x y : Value} {t : TypeId} (h : Below (w.heap.size + 1) (w.alloc (.cells #[x, y] t)) W) : W.cell? ⟨w.heap.size, 0, none⟩ = some x ∧ W.cell? ⟨w.heap.size, 1, none⟩ = some y ∧ w.heap.size < W.heap.size := by
  refine ⟨(h.cell (p := ⟨w.heap.size, 0, none⟩) (Nat.lt_succ_self _)).trans (by simp), (h.cell (p := ⟨w.heap.size, 1, none⟩) (Nat.lt_succ_self _)).trans (by simp), ?_⟩
  have := h.size
  simp at this
  omega
set_option maxRecDepth 100000 in
set_option maxHeartbeats 3200000 in
theorem place_impl (qa : Option Addr) (n qc : Nat) (f : Nat → Int × Int) (a b : Int) (w : World) (hn : n ≤ 1048576) (h1 : PA w qa n f) :
    Calls Try.prog 53 #[.slice qa n qc, .agg #[.int .i64 a, .int .i64 b]] w (ResPlace n f a w) := by
  have H1 := Lib.hid h1
  clear h1
  go_enter Try.func53, Try.ntmps53
  go_wp2
  go_loopw [5] (fun i wr => ∃ k : Nat, k ≤ n ∧ i = .int .i64 k ∧ (∀ j, j < k → (f j).2 ≤ a) ∧ Below (w.heap.size + 1) (w.alloc (.cells #[.int .i64 a, .int .i64 b] 25)) wr) (fun i _ => n - (intOf i).toNat)
  case atStart => exact ⟨0, Nat.zero_le _, rfl, fun j h => absurd h (Nat.not_lt_zero _), by simpa using Below.refl _ _⟩
  case round =>
    obtain ⟨k, hk, rfl, hall, hb⟩ := hrel
    have HA := Lib.hid hall
    have HB := Lib.hid hb
    have ⟨hx0, hx1, hxl⟩ := box0 hb
    have hsz : w.heap.size + 1 ≤ wr.heap.size := hxl
    clear hall
    by_cases hlt : k < n
    · obtain ⟨g, o, rfl, hgl, hc0, hc1⟩ := (H1.out.bel (bel1 hb)) _ hlt
      have hi0 : (0 : Int) ≤ (k : Int) := Int.natCast_nonneg _
      have hi1 : (k : Int) < (n : Int) := by omega
      have hkn : decide ((k : Int) < (n : Int)) = true := decide_eq_true hi1
      have hkn' : decide (k < n) = true := decide_eq_true hlt
      clear hb
      have hm := method_before (f k).1 (f k).2
      have hrs := fun W => before_impl (f k).1 (f k).2 a b W
      by_cases hlo : (f k).2 ≤ a
      · have HOK := Lib.hid (all_step (P := fun j => (f j).2 ≤ a) HA.out hlo)
        rw [decide_eq_true hlo] at hrs
        go_wp2_with fail
        refine wp_region_held_drew (S := (fun W => W.cell? ⟨g, o + k * 2, none⟩ = some (.int .i64 (f k).1) ∧ W.cell? ⟨g, o + k * 2 + 1, none⟩ = some (.int .i64 (f k).2) ∧ W.cell? ⟨w.heap.size, 0, none⟩ = some (.int .i64 a) ∧ W.cell? ⟨w.heap.size, 1, none⟩ = some (.int .i64 b) ∧ wr.heap.size ≤ W.heap.size ∧ Below (w.heap.size + 1) (w.alloc (.cells #[.int .i64 a, .int .i64 b] 25)) W)) (by kernel_rfl) (⟨hc0, hc1, hx0, hx1, Nat.le_refl _, HB.out.drew⟩) (fun hHeld => ?_)
        refine tk 0 hHeld ?_
        refine tk 1 hHeld ?_
        refine tk 2 hHeld ?_
        refine tk 3 hHeld ?_
        refine tk 4 hHeld ?_
        refine tk 5 hHeld ?_
        refine tk 6 hHeld ?_
        refine tk 7 hHeld ?_
        refine tk 8 hHeld ?_
        refine tk 9 hHeld ?_
        refine tk 10 hHeld ?_
        refine rd1 11 (fun K hK => ?_)
        go_simp
        go_at_call 113; refine (hrs _).mono ?_; rintro e w1 ⟨rfl, hb⟩
        refine hK.out _ _ (⟨(hb.cell (p := ⟨g, o + k * 2, none⟩) (Nat.lt_of_lt_of_le hgl hHeld.2.2.2.2.1)).trans hHeld.1, (hb.cell (p := ⟨g, o + k * 2 + 1, none⟩) (Nat.lt_of_lt_of_le hgl hHeld.2.2.2.2.1)).trans hHeld.2.1, (hb.cell (p := ⟨w.heap.size, 0, none⟩) (Nat.lt_of_lt_of_le hxl hHeld.2.2.2.2.1)).trans hHeld.2.2.1, (hb.cell (p := ⟨w.heap.size, 1, none⟩) (Nat.lt_of_lt_of_le hxl hHeld.2.2.2.2.1)).trans hHeld.2.2.2.1, Nat.le_trans hHeld.2.2.2.2.1 hb.size, hHeld.2.2.2.2.2.trans (hb.mono (Nat.le_trans hsz hHeld.2.2.2.2.1))⟩) (fun hHeld => ?_)
        clear hK K
        refine tk 12 hHeld ?_
        refine rd0 ?_
        have HF := Lib.hid hHeld.2.2.2.2.2
        clear hHeld
        go_wp2
        go_roundw
        case rel => exact ⟨k + 1, by omega, by go_num, HOK.out, HF.out⟩
        case measure => simp [intOf]; omega
      · have HOK := Lib.hid (show PlaceP n f a k from ⟨hk, HA.out, fun _ => hlo⟩)
        rw [decide_eq_false hlo] at hrs
        go_wp2_with fail
        refine wp_region_held_drew (S := (fun W => W.cell? ⟨g, o + k * 2, none⟩ = some (.int .i64 (f k).1) ∧ W.cell? ⟨g, o + k * 2 + 1, none⟩ = some (.int .i64 (f k).2) ∧ W.cell? ⟨w.heap.size, 0, none⟩ = some (.int .i64 a) ∧ W.cell? ⟨w.heap.size, 1, none⟩ = some (.int .i64 b) ∧ wr.heap.size ≤ W.heap.size ∧ Below (w.heap.size + 1) (w.alloc (.cells #[.int .i64 a, .int .i64 b] 25)) W)) (by kernel_rfl) (⟨hc0, hc1, hx0, hx1, Nat.le_refl _, HB.out.drew⟩) (fun hHeld => ?_)
        refine tk 0 hHeld ?_
        refine tk 1 hHeld ?_
        refine tk 2 hHeld ?_
        refine tk 3 hHeld ?_
        refine tk 4 hHeld ?_
        refine tk 5 hHeld ?_
        refine tk 6 hHeld ?_
        refine tk 7 hHeld ?_
        refine tk 8 hHeld ?_
        refine tk 9 hHeld ?_
        refine tk 10 hHeld ?_
        refine rd1 11 (fun K hK => ?_)
        go_simp
        go_at_call 113; refine (hrs _).mono ?_; rintro e w1 ⟨rfl, hb⟩
        refine hK.out _ _ (⟨(hb.cell (p := ⟨g, o + k * 2, none⟩) (Nat.lt_of_lt_of_le hgl hHeld.2.2.2.2.1)).trans hHeld.1, (hb.cell (p := ⟨g, o + k * 2 + 1, none⟩) (Nat.lt_of_lt_of_le hgl hHeld.2.2.2.2.1)).trans hHeld.2.1, (hb.cell (p := ⟨w.heap.size, 0, none⟩) (Nat.lt_of_lt_of_le hxl hHeld.2.2.2.2.1)).trans hHeld.2.2.1, (hb.cell (p := ⟨w.heap.size, 1, none⟩) (Nat.lt_of_lt_of_le hxl hHeld.2.2.2.2.1)).trans hHeld.2.2.2.1, Nat.le_trans hHeld.2.2.2.2.1 hb.size, hHeld.2.2.2.2.2.trans (hb.mono (Nat.le_trans hsz hHeld.2.2.2.2.1))⟩) (fun hHeld => ?_)
        clear hK K
        refine tk 12 hHeld ?_
        refine rd0 ?_
        have HF := Lib.hid hHeld.2.2.2.2.2
        clear hHeld
        go_wp2
        go_ret
        exact ⟨k, rfl, HOK.out, bel1 HF.out⟩
    · obtain rfl : k = n := by omega
      have HOK := Lib.hid (show PlaceP k f a k from ⟨hk, HA.out, fun h => absurd h hlt⟩)
      have hkn : decide ((k : Int) < (k : Int)) = false := decide_eq_false (by omega)
      have hkn' : decide (k < k) = false := decide_eq_false (by omega)
      clear hb
      go_wp2_with fail
      refine wp_region_held_drew (S := (fun W => W.cell? ⟨w.heap.size, 0, none⟩ = some (.int .i64 a) ∧ W.cell? ⟨w.heap.size, 1, none⟩ = some (.int .i64 b) ∧ wr.heap.size ≤ W.heap.size ∧ Below (w.heap.size + 1) (w.alloc (.cells #[.int .i64 a, .int .i64 b] 25)) W)) (by kernel_rfl) (⟨hx0, hx1, Nat.le_refl _, HB.out.drew⟩) (fun hHeld => ?_)
      refine tk 0 hHeld ?_
      refine tk 1 hHeld ?_
      refine tk 2 hHeld ?_
      refine tk 3 hHeld ?_
      refine tk 4 hHeld ?_
      refine tn 5 hHeld ?_
      refine tn 6 hHeld ?_
      refine tn 7 hHeld ?_
      refine tn 8 hHeld ?_
      refine tn 9 hHeld ?_
      refine tn 10 hHeld ?_
      refine tn 11 hHeld ?_
      refine tk 12 hHeld ?_
      refine rd0 ?_
      have HF := Lib.hid hHeld.2.2.2
      clear hHeld
      go_wp2
      go_ret
      exact ⟨k, rfl, HOK.out, bel1 HF.out⟩
def FreeP (n : Nat) (f : Nat → Int × Int) (a b : Int) : Prop := ∀ i, i < n → ¬ ((f i).1 < b ∧ a < (f i).2)
theorem sp_lt {n : Nat} {f : Nat → Int × Int} (h : SpR n f) {i : Nat} (hi : i < n) : (f i).1 < (f i).2 := ((spB_iff _ _).1 (h.2 i hi).1).2.1
theorem sp_mono {n : Nat} {f : Nat → Int × Int} (h : SpR n f) : ∀ j i, i < j → j < n → (f i).2 ≤ (f j).1 := by
  intro j
  induction j with
  | zero => intro i hi; omega
  | succ j ih =>
    intro i hi hj
    have h1 := (h.2 (j + 1) hj).2 (Nat.succ_pos _)
    simp only [Nat.add_sub_cancel] at h1
    by_cases e : i = j
    · subst e; exact h1
    · have h2 := ih i (by omega) (by omega)
      have h3 := sp_lt h (i := j) (by omega)
      omega
theorem fits_iff {n : Nat} {f : Nat → Int × Int} {a b : Int} {p : Nat} (h : SpR n f) (hab : a < b) (hp : PlaceP n f a p) : (p = n ∨ b ≤ (f p).1) ↔ FreeP n f a b := by
  obtain ⟨h0, h1, h2⟩ := hp
  constructor
  · intro hh i hi ⟨g1, g2⟩
    by_cases hip : i < p
    · have := h1 i hip; omega
    · rcases hh with e | e
      · omega
      · by_cases e2 : i = p
        · subst e2; omega
        · have h3 := sp_mono h i p (by omega) hi
          have h4 := sp_lt h (i := p) (by omega)
          omega
  · intro hf
    by_cases e : p = n
    · exact .inl e
    · right
      have h3 := hf p (by omega)
      have h4 := h2 (by omega)
      omega
set_option maxRecDepth 100000 in
set_option maxHeartbeats 3200000 in
theorem fits_impl (qa : Option Addr) (n qc : Nat) (f : Nat → Int × Int) (a b : Int) (w : World) (hn : n ≤ 1048576) (h1 : PA w qa n f) (hS : SpR n f) (hab : a < b) :
    Calls Try.prog 74 #[.slice qa n qc, .agg #[.int .i64 a, .int .i64 b]] w (ResB (FreeP n f a b) w) := by
  have H1 := Lib.hid h1
  have HS := Lib.hid hS
  clear h1 hS
  go_enter Try.func74, Try.ntmps74
  go_wp2_with fail
  refine (place_impl qa n qc f a b _ hn (H1.out.bel ((Below.refl _ _).alloc (Nat.le_refl _) _))).mono ?_
  intro e wr h
  obtain ⟨p, rfl, hp, hb⟩ := resPlace_elim h
  have HP := Lib.hid hp
  have hpn := hp.1
  have hb : Below (w.heap.size + 1) (w.alloc (.cells #[.int .i64 a, .int .i64 b] 25)) wr := by simpa using hb
  have HB := Lib.hid hb
  have ⟨hx0, hx1, hxl⟩ := box0 hb
  have hsz : w.heap.size + 1 ≤ wr.heap.size := hxl
  clear h hp
  by_cases hlt : p < n
  · obtain ⟨g, o, rfl, hgl, hc0, hc1⟩ := (H1.out.bel (bel1 hb)) _ hlt
    have hi0 : (0 : Int) ≤ (p : Int) := Int.natCast_nonneg _
    have hi1 : (p : Int) < (n : Int) := by omega
    have hpe : ((p : Int) == (n : Int)) = false := by rw [beq_eq_false_iff_ne]; omega
    have hpe' : (p == n) = false := by rw [beq_eq_false_iff_ne]; omega
    clear hb
    have hm := method_before a b
    have hrs := fun W => before_impl a b (f p).1 (f p).2 W
    have Hfi := Lib.hid (fits_iff HS.out hab HP.out)
    by_cases hlo : b ≤ (f p).1
    · rw [decide_eq_true hlo] at hrs
      have HY := Lib.hid (Hfi.out.1 (.inr hlo))
      go_wp2_with fail
      refine wp_region_held_drew (S := (fun W => W.cell? ⟨g, o + p * 2, none⟩ = some (.int .i64 (f p).1) ∧ W.cell? ⟨g, o + p * 2 + 1, none⟩ = some (.int .i64 (f p).2) ∧ W.cell? ⟨w.heap.size, 0, none⟩ = some (.int .i64 a) ∧ W.cell? ⟨w.heap.size, 1, none⟩ = some (.int .i64 b) ∧ wr.heap.size ≤ W.heap.size ∧ Below (w.heap.size + 1) (w.alloc (.cells #[.int .i64 a, .int .i64 b] 25)) W)) (by kernel_rfl) (⟨hc0, hc1, hx0, hx1, Nat.le_refl _, HB.out.drew⟩) (fun hHeld => ?_)
      refine tk 0 hHeld ?_
      refine tk 1 hHeld ?_
      refine tk 2 hHeld ?_
      refine tk 3 hHeld ?_
      refine tk 4 hHeld ?_
      refine tk 5 hHeld ?_
      refine tk 6 hHeld ?_
      refine tk 7 hHeld ?_
      refine tk 8 hHeld ?_
      refine tk 9 hHeld ?_
      refine tk 10 hHeld ?_
      refine rd1 11 (fun K hK => ?_)
      go_simp
      go_at_call 113; refine (hrs _).mono ?_; rintro e w1 ⟨rfl, hb⟩
      refine hK.out _ _ (⟨(hb.cell (p := ⟨g, o + p * 2, none⟩) (Nat.lt_of_lt_of_le hgl hHeld.2.2.2.2.1)).trans hHeld.1, (hb.cell (p := ⟨g, o + p * 2 + 1, none⟩) (Nat.lt_of_lt_of_le hgl hHeld.2.2.2.2.1)).trans hHeld.2.1, (hb.cell (p := ⟨w.heap.size, 0, none⟩) (Nat.lt_of_lt_of_le hxl hHeld.2.2.2.2.1)).trans hHeld.2.2.1, (hb.cell (p := ⟨w.heap.size, 1, none⟩) (Nat.lt_of_lt_of_le hxl hHeld.2.2.2.2.1)).trans hHeld.2.2.2.1, Nat.le_trans hHeld.2.2.2.2.1 hb.size, hHeld.2.2.2.2.2.trans (hb.mono (Nat.le_trans hsz hHeld.2.2.2.2.1))⟩) (fun hHeld => ?_)
      clear hK K
      refine tk 12 hHeld ?_
      refine tk 13 hHeld ?_
      refine rd0 ?_
      have HF := Lib.hid hHeld.2.2.2.2.2
      clear hHeld
      go_wp2
      go_ret
      exact resB_yes HY.out (bel1 HF.out)
    · rw [decide_eq_false hlo] at hrs
      have HY := Lib.hid (show ¬ FreeP n f a b from fun h => by have := Hfi.out.2 h; omega)
      go_wp2_with fail
      refine wp_region_held_drew (S := (fun W => W.cell? ⟨g, o + p * 2, none⟩ = some (.int .i64 (f p).1) ∧ W.cell? ⟨g, o + p * 2 + 1, none⟩ = some (.int .i64 (f p).2) ∧ W.cell? ⟨w.heap.size, 0, none⟩ = some (.int .i64 a) ∧ W.cell? ⟨w.heap.size, 1, none⟩ = some (.int .i64 b) ∧ wr.heap.size ≤ W.heap.size ∧ Below (w.heap.size + 1) (w.alloc (.cells #[.int .i64 a, .int .i64 b] 25)) W)) (by kernel_rfl) (⟨hc0, hc1, hx0, hx1, Nat.le_refl _, HB.out.drew⟩) (fun hHeld => ?_)
      refine tk 0 hHeld ?_
      refine tk 1 hHeld ?_
      refine tk 2 hHeld ?_
      refine tk 3 hHeld ?_
      refine tk 4 hHeld ?_
      refine tk 5 hHeld ?_
      refine tk 6 hHeld ?_
      refine tk 7 hHeld ?_
      refine tk 8 hHeld ?_
      refine tk 9 hHeld ?_
      refine tk 10 hHeld ?_
      refine rd1 11 (fun K hK => ?_)
      go_simp
      go_at_call 113; refine (hrs _).mono ?_; rintro e w1 ⟨rfl, hb⟩
      refine hK.out _ _ (⟨(hb.cell (p := ⟨g, o + p * 2, none⟩) (Nat.lt_of_lt_of_le hgl hHeld.2.2.2.2.1)).trans hHeld.1, (hb.cell (p := ⟨g, o + p * 2 + 1, none⟩) (Nat.lt_of_lt_of_le hgl hHeld.2.2.2.2.1)).trans hHeld.2.1, (hb.cell (p := ⟨w.heap.size, 0, none⟩) (Nat.lt_of_lt_of_le hxl hHeld.2.2.2.2.1)).trans hHeld.2.2.1, (hb.cell (p := ⟨w.heap.size, 1, none⟩) (Nat.lt_of_lt_of_le hxl hHeld.2.2.2.2.1)).trans hHeld.2.2.2.1, Nat.le_trans hHeld.2.2.2.2.1 hb.size, hHeld.2.2.2.2.2.trans (hb.mono (Nat.le_trans hsz hHeld.2.2.2.2.1))⟩) (fun hHeld => ?_)
      clear hK K
      refine tk 12 hHeld ?_
      refine tk 13 hHeld ?_
      refine rd0 ?_
      have HF := Lib.hid hHeld.2.2.2.2.2
      clear hHeld
      go_wp2
      go_ret
      exact resB_no HY.out (bel1 HF.out)
  · obtain rfl : p = n := by omega
    have hpe : ((p : Int) == (p : Int)) = true := by simp
    have hpe' : (p == p) = true := by simp
    clear hb
    have HY := Lib.hid ((fits_iff HS.out hab HP.out).1 (.inl rfl))
    go_wp2_with fail
    refine wp_region_held_drew (S := (fun W => W.cell? ⟨w.heap.size, 0, none⟩ = some (.int .i64 a) ∧ W.cell? ⟨w.heap.size, 1, none⟩ = some (.int .i64 b) ∧ wr.heap.size ≤ W.heap.size ∧ Below (w.heap.size + 1) (w.alloc (.cells #[.int .i64 a, .int .i64 b] 25)) W)) (by kernel_rfl) (⟨hx0, hx1, Nat.le_refl _, HB.out.drew⟩) (fun hHeld => ?_)
    refine tk 0 hHeld ?_
    refine tk 1 hHeld ?_
    refine tk 2 hHeld ?_
    refine tk 3 hHeld ?_
    refine tk 4 hHeld ?_
    refine tn 5 hHeld ?_
    refine tn 6 hHeld ?_
    refine tn 7 hHeld ?_
    refine tn 8 hHeld ?_
    refine tn 9 hHeld ?_
    refine tn 10 hHeld ?_
    refine tn 11 hHeld ?_
    refine tk 12 hHeld ?_
    refine tk 13 hHeld ?_
    refine rd0 ?_
    have HF := Lib.hid hHeld.2.2.2
    clear hHeld
    go_wp2
    go_ret
    exact resB_yes HY.out (bel1 HF.out)
end Go.Proofs.Ytfciojkibklkfaa.SpanC
end
section
namespace Go.Proofs.Ytfciojkibklkfaa.SpanC
open Go.RowKit KeptC
set_option linter.unusedSimpArgs false
set_option linter.unusedVariables false
set_option maxRecDepth 100000 in
set_option maxHeartbeats 3200000 in
theorem free_spec (qa : Option Addr) (n qc : Nat) (f : Nat → Int × Int) (a b : Int) (w : World) (hn : n ≤ 1048576) (h1 : PA w qa n f) :
    Calls Try.prog 59 #[.slice qa n qc, .agg #[.int .i64 a, .int .i64 b]] w (ResB (FreeP n f a b) w) := by
  have H1 := Lib.hid h1
  clear h1
  go_enter Try.func59, Try.ntmps59
  go_wp2
  go_loopw [5] (fun i wr => ∃ k : Nat, k ≤ n ∧ i = .int .i64 k ∧ (∀ j, j < k → ¬ ((f j).1 < b ∧ a < (f j).2)) ∧ Below (w.heap.size + 1) (w.alloc (.cells #[.int .i64 a, .int .i64 b] 25)) wr) (fun i _ => n - (intOf i).toNat)
  case atStart => exact ⟨0, Nat.zero_le _, rfl, fun j h => absurd h (Nat.not_lt_zero _), by simpa using Below.refl _ _⟩
  case round =>
    obtain ⟨k, hk, rfl, hall, hb⟩ := hrel
    have HA := Lib.hid hall
    have HB := Lib.hid hb
    have ⟨hx0, hx1, hxl⟩ := box0 hb
    have hsz : w.heap.size + 1 ≤ wr.heap.size := hxl
    clear hall
    by_cases hlt : k < n
    · obtain ⟨g, o, rfl, hgl, hc0, hc1⟩ := (H1.out.bel (bel1 hb)) _ hlt
      have hi0 : (0 : Int) ≤ (k : Int) := Int.natCast_nonneg _
      have hi1 : (k : Int) < (n : Int) := by omega
      clear hb
      by_cases g1 : (f k).1 < b
      · have g1' : decide ((f k).1 < b) = true := decide_eq_true g1
        by_cases g2 : a < (f k).2
        · have g2' : decide (a < (f k).2) = true := decide_eq_true g2
          have HN := Lib.hid (show ¬ FreeP n f a b from fun h => h k hlt ⟨g1, g2⟩)
          go_wp2_with fail
          refine wp_region_held_drew (S := (fun W => W.cell? ⟨g, o + k * 2, none⟩ = some (.int .i64 (f k).1) ∧ W.cell? ⟨g, o + k * 2 + 1, none⟩ = some (.int .i64 (f k).2) ∧ W.cell? ⟨w.heap.size, 0, none⟩ = some (.int .i64 a) ∧ W.cell? ⟨w.heap.size, 1, none⟩ = some (.int .i64 b) ∧ wr.heap.size ≤ W.heap.size ∧ Below (w.heap.size + 1) (w.alloc (.cells #[.int .i64 a, .int .i64 b] 25)) W)) (by kernel_rfl) (⟨hc0, hc1, hx0, hx1, Nat.le_refl _, HB.out.drew⟩) (fun hHeld => ?_)
          refine tk 0 hHeld ?_
          refine tk 1 hHeld ?_
          refine tk 2 hHeld ?_
          refine tk 3 hHeld ?_
          refine tk 4 hHeld ?_
          refine tk 5 hHeld ?_
          refine tk 6 hHeld ?_
          refine tk 7 hHeld ?_
          refine tk 8 hHeld ?_
          refine tk 9 hHeld ?_
          refine tk 10 hHeld ?_
          refine tk 11 hHeld ?_
          refine tk 12 hHeld ?_
          refine tk 13 hHeld ?_
          refine tk 14 hHeld ?_
          refine tk 15 hHeld ?_
          refine tk 16 hHeld ?_
          refine tk 17 hHeld ?_
          refine rd0 ?_
          have HF := Lib.hid hHeld.2.2.2.2.2
          clear hHeld
          go_wp2
          go_ret
          exact resB_no HN.out (bel1 HF.out)
        · have g2' : decide (a < (f k).2) = false := decide_eq_false g2
          have HOK := Lib.hid (all_step (P := fun j => ¬ ((f j).1 < b ∧ a < (f j).2)) HA.out (fun h => g2 h.2))
          go_wp2_with fail
          refine wp_region_held_drew (S := (fun W => W.cell? ⟨g, o + k * 2, none⟩ = some (.int .i64 (f k).1) ∧ W.cell? ⟨g, o + k * 2 + 1, none⟩ = some (.int .i64 (f k).2) ∧ W.cell? ⟨w.heap.size, 0, none⟩ = some (.int .i64 a) ∧ W.cell? ⟨w.heap.size, 1, none⟩ = some (.int .i64 b) ∧ wr.heap.size ≤ W.heap.size ∧ Below (w.heap.size + 1) (w.alloc (.cells #[.int .i64 a, .int .i64 b] 25)) W)) (by kernel_rfl) (⟨hc0, hc1, hx0, hx1, Nat.le_refl _, HB.out.drew⟩) (fun hHeld => ?_)
          refine tk 0 hHeld ?_
          refine tk 1 hHeld ?_
          refine tk 2 hHeld ?_
          refine tk 3 hHeld ?_
          refine tk 4 hHeld ?_
          refine tk 5 hHeld ?_
          refine tk 6 hHeld ?_
          refine tk 7 hHeld ?_
          refine tk 8 hHeld ?_
          refine tk 9 hHeld ?_
          refine tk 10 hHeld ?_
          refine tk 11 hHeld ?_
          refine tk 12 hHeld ?_
          refine tk 13 hHeld ?_
          refine tk 14 hHeld ?_
          refine tk 15 hHeld ?_
          refine tk 16 hHeld ?_
          refine tk 17 hHeld ?_
          refine rd0 ?_
          have HF := Lib.hid hHeld.2.2.2.2.2
          clear hHeld
          go_wp2
          go_roundw
          case rel => exact ⟨k + 1, by omega, by go_num, HOK.out, HF.out⟩
          case measure => simp [intOf]; omega
      · have g1' : decide ((f k).1 < b) = false := decide_eq_false g1
        have HOK := Lib.hid (all_step (P := fun j => ¬ ((f j).1 < b ∧ a < (f j).2)) HA.out (fun h => g1 h.1))
        go_wp2_with fail
        refine wp_region_held_drew (S := (fun W => W.cell? ⟨g, o + k * 2, none⟩ = some (.int .i64 (f k).1) ∧ W.cell? ⟨g, o + k * 2 + 1, none⟩ = some (.int .i64 (f k).2) ∧ W.cell? ⟨w.heap.size, 0, none⟩ = some (.int .i64 a) ∧ W.cell? ⟨w.heap.size, 1, none⟩ = some (.int .i64 b) ∧ wr.heap.size ≤ W.heap.size ∧ Below (w.heap.size + 1) (w.alloc (.cells #[.int .i64 a, .int .i64 b] 25)) W)) (by kernel_rfl) (⟨hc0, hc1, hx0, hx1, Nat.le_refl _, HB.out.drew⟩) (fun hHeld => ?_)
        refine tk 0 hHeld ?_
        refine tk 1 hHeld ?_
        refine tk 2 hHeld ?_
        refine tk 3 hHeld ?_
        refine tk 4 hHeld ?_
        refine tk 5 hHeld ?_
        refine tk 6 hHeld ?_
        refine tk 7 hHeld ?_
        refine tk 8 hHeld ?_
        refine tn 9 hHeld ?_
        refine tn 10 hHeld ?_
        refine tn 11 hHeld ?_
        refine tn 12 hHeld ?_
        refine tn 13 hHeld ?_
        refine tn 14 hHeld ?_
        refine tn 15 hHeld ?_
        refine tn 16 hHeld ?_
        refine tk 17 hHeld ?_
        refine rd0 ?_
        have HF := Lib.hid hHeld.2.2.2.2.2
        clear hHeld
        go_wp2
        go_roundw
        case rel => exact ⟨k + 1, by omega, by go_num, HOK.out, HF.out⟩
        case measure => simp [intOf]; omega
    · have HY := Lib.hid (show FreeP n f a b from fun i hi => HA.out i (by omega))
      clear hb
      go_wp2
      go_ret
      exact resB_yes HY.out (bel1 HB.out)
def FreeB (n : Nat) (f : Nat → Int × Int) (a b : Int) : Prop := SpR n f ∧ spP a b ∧ FreeP n f a b
set_option maxRecDepth 100000 in
set_option maxHeartbeats 3200000 in
theorem isfree_impl (qa : Option Addr) (n qc : Nat) (f : Nat → Int × Int) (a b : Int) (w : World) (hn : n ≤ 1048576) (h1 : PA w qa n f) :
    Calls Try.prog 23 #[.slice qa n qc, .agg #[.int .i64 a, .int .i64 b]] w (ResB (FreeB n f a b) w) := by
  have H1 := Lib.hid h1
  clear h1
  go_enter Try.func23, Try.ntmps23
  go_wp2_with fail
  refine (spans_impl qa n qc f _ hn (H1.out.bel ((Below.refl _ _).alloc (Nat.le_refl _) _))).mono ?_
  intro e wr h
  obtain ⟨c, rfl, hc, hb⟩ := resB_elim h
  have hb : Below (w.heap.size + 1) (w.alloc (.cells #[.int .i64 a, .int .i64 b] 25)) wr := by simpa using hb
  have HB := Lib.hid hb
  have ⟨hx0, hx1, hxl⟩ := box0 hb
  have hsz : w.heap.size + 1 ≤ wr.heap.size := hxl
  clear h
  cases c with
  | false =>
    have HN := Lib.hid (show ¬ FreeB n f a b from fun h => by have := hc.2 h.1; cases this)
    clear hb hc
    go_wp2
    go_ret
    exact resB_no HN.out (bel1 HB.out)
  | true =>
    have HS := Lib.hid (hc.1 rfl)
    clear hb hc
    go_wp2_with fail
    cases hr : spB a b with
    | false =>
      have hrs := fun W => right_impl a b W
      rw [hr] at hrs
      have HN := Lib.hid (show ¬ FreeB n f a b from fun h => by have := (spB_iff _ _).2 h.2.1; rw [hr] at this; cases this)
      clear hr
      refine (hrs _).mono ?_
      rintro e w1 ⟨rfl, hb⟩
      have HF := Lib.hid (HB.out.trans (hb.mono hsz))
      clear hb
      go_wp2
      go_ret
      exact resB_no HN.out (bel1 HF.out)
    | true =>
      have hrs := fun W => right_impl a b W
      rw [hr] at hrs
      have hP := (spB_iff _ _).1 hr
      clear hr
      refine (hrs _).mono ?_
      rintro e w1 ⟨rfl, hb⟩
      have HF := Lib.hid (HB.out.trans (hb.mono hsz))
      have ⟨hy0, hy1, hyl⟩ := box0 HF.out
      clear hb hx0 hx1
      go_wp2_with fail
      refine (fits_impl qa n qc f a b _ hn (H1.out.bel (bel1 HF.out)) HS.out hP.2.1).mono ?_
      intro e w2 h
      obtain ⟨c, rfl, hc, hb⟩ := resB_elim h
      have HF2 := Lib.hid (HF.out.trans (hb.mono hyl))
      have HC := Lib.hid (show c = true ↔ FreeB n f a b from ⟨fun h => ⟨HS.out, hP, hc.1 h⟩, fun h => hc.2 h.2.2⟩)
      clear h hb hc
      go_wp2
      go_ret
      exact ⟨c, rfl, HC.out, bel1 HF2.out⟩
end Go.Proofs.Ytfciojkibklkfaa.SpanC
end
section
namespace Go.Proofs.Ytfciojkibklkfaa.RepC
open Go.RowKit RowC ValC SpanC KeptC
set_option linter.unusedVariables false
set_option linter.unusedSimpArgs false
noncomputable def chgV (L : List D_Node) (n : Int) (ok : Bool) (chg : D_Node → Int × D_Node) : D_NodesOut :=
  if 400 < L.length then ([], 2)
  else if (nodesB L && ok) = false then ([], 1)
  else if isB n 0 ((L.length : Int) - 1) = false then ([], 6)
  else match L[n.toNat]? with
    | none => ([], 6)
    | some x => if (chg x).1 = 0 then (L.set n.toNat (chg x).2, 0) else ([], (chg x).1)
def putL (L : List D_Span) (x : D_Span) : List D_Span := L.takeWhile (fun y => decide (y.2 ≤ x.1)) ++ x :: L.dropWhile (fun y => decide (y.2 ≤ x.1))
open Classical in
noncomputable def putN (x : D_Span) (now : Int) (d : D_Node) : Int × D_Node :=
  if (decide (x.1 ≤ now) || decide (now + 40 < x.2)) = true then (8, d)
  else if ¬ FreeP d.2.length (gt d.2) x.1 x.2 then (7, d)
  else if d.2.length = 4 then (9, d)
  else (0, (d.1, putL d.2 x))
theorem gt_cons {x : D_Span} {L : List D_Span} {i : Nat} : gt (x :: L) (i + 1) = gt L i := by simp [gt]
theorem place_tw {a : Int} : ∀ {L : List D_Span} {p : Nat}, PlaceP L.length (gt L) a p → L.takeWhile (fun y => decide (y.2 ≤ a)) = L.take p ∧ L.dropWhile (fun y => decide (y.2 ≤ a)) = L.drop p
  | [], p, h => by
    have : p = 0 := by have := h.1; simpa using this
    subst this
    simp
  | x :: L, p, h => by
    cases p with
    | zero =>
      have h0 : ¬ x.2 ≤ a := h.2.2 (by simp)
      simp [List.takeWhile, List.dropWhile, h0]
    | succ p =>
      have h0 : x.2 ≤ a := h.2.1 0 (by omega)
      have hp : PlaceP L.length (gt L) a p := ⟨by have := h.1; simpa using this, fun j hj => by have := h.2.1 (j + 1) (by omega); rwa [gt_cons] at this, fun hj => by have := h.2.2 (by simpa using hj); rwa [gt_cons] at this⟩
      obtain ⟨h1, h2⟩ := place_tw hp
      simp [List.takeWhile, List.dropWhile, h0, h1, h2]
theorem putL_eq {L : List D_Span} {x : D_Span} {p : Nat} (h : PlaceP L.length (gt L) x.1 p) : putL L x = L.take p ++ x :: L.drop p := by
  obtain ⟨h1, h2⟩ := place_tw h
  unfold putL
  rw [h1, h2]
theorem gt_get {L : List D_Span} {i : Nat} (h : i < L.length) : L[i]? = some (gt L i) := by
  obtain ⟨x, hx⟩ := el_some h
  rw [gt_at hx, hx]
end Go.Proofs.Ytfciojkibklkfaa.RepC
end
section
namespace Go.Proofs.Ytfciojkibklkfaa.RepC
open Go.RowKit RowC ValC SpanC KeptC
set_option linter.unusedVariables false
set_option linter.unusedSimpArgs false
theorem state_spec (n : Int) (w : World) : Calls Try.prog 66 #[.int .i64 n] w fun e w' => e = .returned (.bool (isB n 1 3)) ∧ w = w' := by
  go_enter Try.func66, Try.ntmps66
  go_wp2_with (go_at_call 81; refine (is_spec _ _ _ _).mono ?_; rintro e w' ⟨rfl, rfl⟩)
  go_ret
  exact ⟨rfl, rfl⟩
theorem state_impl (n : Int) (w : World) : Calls Try.prog 64 #[.int .i64 n] w fun e w' => e = .returned (.bool (isB n 1 3)) ∧ w = w' := by
  go_enter Try.func64, Try.ntmps64
  go_wp2_with (go_at_call 67; refine (is_impl _ _ _ _).mono ?_; rintro e w' ⟨rfl, rfl⟩)
  go_ret
  exact ⟨rfl, rfl⟩
theorem nd_len {α : Type} {E : Rp α} {L : List α} {W : World} {B : Nat} {a : Option Addr} {cap : Nat} (h : RdSl E W B L a cap) : L.length ≤ 9223372036854775807 := by
  have h1 := h.1; have h2 := h.2.1; unfold maxLen at h2; omega
set_option maxRecDepth 100000 in
set_option maxHeartbeats 3200000 in
theorem nodes_spec {L : List D_Node} {a : Option Addr} {cap : Nat} {W : World} (h : RdSl R_Node W W.heap.size L a cap) :
    Calls Try.prog 20 #[.slice a L.length cap] W (IsB (nodesB L) W) := by
  refine Calls.mono ?_ fun e w' h => resB_is nodesB_iff h
  have hn := nd_len h
  have H := Lib.hid h
  clear h
  by_cases h1 : 1 ≤ L.length
  rotate_left
  · have HN := Lib.hid (show ¬ NodesR L from fun h => h1 h.1.1)
    have hd : decide ((L.length : Int) < 1) = true := decide_eq_true (by omega)
    go_enter Try.func20, Try.ntmps20
    go_wp2
    go_ret
    exact resB_no HN.out (Below.refl _ _)
  have hd : decide ((L.length : Int) < 1) = false := decide_eq_false (by omega)
  by_cases h6 : L.length ≤ 6
  rotate_left
  · have HN := Lib.hid (show ¬ NodesR L from fun h => h6 h.1.2)
    have hd2 : decide ((6 : Int) < (L.length : Int)) = true := decide_eq_true (by omega)
    go_enter Try.func20, Try.ntmps20
    go_wp2
    go_ret
    exact resB_no HN.out (Below.refl _ _)
  have hd2 : decide ((6 : Int) < (L.length : Int)) = false := decide_eq_false (by omega)
  go_enter Try.func20, Try.ntmps20
  go_wp2
  go_loopw [3] (fun i wr => ∃ k : Nat, k ≤ L.length ∧ i = .int .i64 k ∧ Hid (okTo L k) ∧ Below W.heap.size W wr) (fun i _ => L.length - (intOf i).toNat)
  case atStart => exact ⟨0, Nat.zero_le _, rfl, Lib.hid okTo_zero, Below.refl _ _⟩
  case round =>
    obtain ⟨k, hk, rfl, HO, hB⟩ := hrel
    have HB := Lib.hid hB
    have hsz := hB.size
    by_cases hlt : k < L.length
    · skip
      obtain ⟨x, hx⟩ := el_some hlt
      have HX := Lib.hid hx
      have hcr := mv_rd R_Node_ok H.out hB
      obtain ⟨g, o, us, rfl, hg, hu, hr⟩ := hcr.at_ hx
      obtain ⟨st, M⟩ := x
      obtain ⟨ba, bc, rfl, hM⟩ := rd_Node hr
      have e0 : wr.cell? ⟨g, o + k * 2, none⟩ = some (.int .i64 st) := by simpa [size_NodeS] using hu 0 _ rfl
      have e1 : wr.cell? ⟨g, o + k * 2 + 1, none⟩ = some (.slice ba M.length bc) := by simpa [size_NodeS, Nat.add_assoc] using hu 1 _ rfl
      have hi0 : (0 : Int) ≤ (k : Int) := Int.natCast_nonneg _
      have hi1 : (k : Int) < (L.length : Int) := by omega
      have HG := Lib.hid hg
      have HM := Lib.hid hM
      clear hcr hu hr hM hg hB hx
      cases hq : isB st 1 3 with
      | false =>
        have HN := Lib.hid (show ¬ NodesR L from fun h => by have := (nodesR_at h HX.out).1; rw [hq] at this; cases this)
        have hs := fun W => state_spec st W
        rw [hq] at hs
        clear hq
        go_wp2_with (go_at_call 66; refine (hs _).mono ?_; rintro e w' ⟨rfl, rfl⟩)
        go_ret
        exact resB_no HN.out HB.out
      | true =>
      have HQ := Lib.hid hq
      have hs := fun W => state_spec st W
      rw [hq] at hs
      clear hq
      by_cases h4 : M.length ≤ 4
      rotate_left
      · have HN := Lib.hid (show ¬ NodesR L from fun h => h4 (nodesR_at h HX.out).2.1)
        have hd : decide ((4 : Int) < (M.length : Int)) = true := decide_eq_true (by omega)
        go_wp2_with (go_at_call 66; refine (hs _).mono ?_; rintro e w' ⟨rfl, rfl⟩)
        go_ret
        exact resB_no HN.out HB.out
      have hd : decide ((4 : Int) < (M.length : Int)) = false := decide_eq_false (by omega)
      go_wp2_with (first | (go_at_call 66; refine (hs _).mono ?_; rintro e w' ⟨rfl, rfl⟩) | fail)
      refine (spansA_spec ba M.length bc (gt M) _ (by omega) (pa_of (mv_rd R_Span_ok HM.out (w' := _) (Below.refl _ _)) (Nat.le_refl _))).mono ?_
      intro e w5 h
      obtain ⟨z, rfl, hz, hb⟩ := resB_elim h
      have HZ := Lib.hid hz
      have HB5 := Lib.hid (HB.out.trans (hb.mono hsz))
      clear h hz hb hs hd
      cases z with
      | false =>
        have HN := Lib.hid (show ¬ NodesR L from fun h => by have := HZ.out.2 (nodesR_at h HX.out).2.2; cases this)
        go_wp2
        go_ret
        exact resB_no HN.out HB5.out
      | true =>
        have HO2 := Lib.hid (okTo_step HO.out HX.out ⟨HQ.out, h4, HZ.out.1 rfl⟩)
        go_wp2
        go_roundw
        case rel => exact ⟨k + 1, by omega, by go_num, HO2, HB5.out⟩
        case measure => simp [intOf]; omega
    · have hdl : decide ((k : Int) < (L.length : Int)) = false := decide_eq_false (by omega)
      obtain rfl : k = L.length := by omega
      have HY := Lib.hid (nodesR_all h1 h6 HO.out)
      clear hB
      go_wp2
      go_ret
      exact resB_yes HY.out HB.out
set_option maxRecDepth 100000 in
set_option maxHeartbeats 3200000 in
theorem nodes_impl {L : List D_Node} {a : Option Addr} {cap : Nat} {W : World} (h : RdSl R_Node W W.heap.size L a cap) :
    Calls Try.prog 19 #[.slice a L.length cap] W (IsB (nodesB L) W) := by
  refine Calls.mono ?_ fun e w' h => resB_is nodesB_iff h
  have hn := nd_len h
  have H := Lib.hid h
  clear h
  cases h16 : isB (L.length : Int) 1 6 with
  | false =>
    have HN := Lib.hid (show ¬ NodesR L from fun h => by have h1 := h.1.1; have h2 := h.1.2; rw [(isB_iff _ _ _).2 ⟨by omega, by omega⟩] at h16; cases h16)
    have hs := fun W => is_impl (L.length : Int) 1 6 W
    rw [h16] at hs
    clear h16
    go_enter Try.func19, Try.ntmps19
    go_wp2_with (go_at_call 67; refine (hs _).mono ?_; rintro e w' ⟨rfl, rfl⟩)
    go_ret
    exact resB_no HN.out (Below.refl _ _)
  | true =>
  have h1 : 1 ≤ L.length := by have := ((isB_iff _ _ _).1 h16).1; omega
  have h6 : L.length ≤ 6 := by have := ((isB_iff _ _ _).1 h16).2; omega
  have hs := fun W => is_impl (L.length : Int) 1 6 W
  rw [h16] at hs
  clear h16
  go_enter Try.func19, Try.ntmps19
  go_wp2_with (go_at_call 67; refine (hs _).mono ?_; rintro e w' ⟨rfl, rfl⟩)
  clear hs
  go_loopw [11] (fun i wr => ∃ k : Nat, k ≤ L.length ∧ i = .int .i64 k ∧ Hid (okTo L k) ∧ Below W.heap.size W wr) (fun i _ => L.length - (intOf i).toNat)
  case atStart => exact ⟨0, Nat.zero_le _, rfl, Lib.hid okTo_zero, Below.refl _ _⟩
  case round =>
    obtain ⟨k, hk, rfl, HO, hB⟩ := hrel
    have HB := Lib.hid hB
    have hsz := hB.size
    by_cases hlt : k < L.length
    · skip
      obtain ⟨x, hx⟩ := el_some hlt
      have HX := Lib.hid hx
      have hcr := mv_rd R_Node_ok H.out hB
      obtain ⟨g, o, us, rfl, hg, hu, hr⟩ := hcr.at_ hx
      obtain ⟨st, M⟩ := x
      obtain ⟨ba, bc, rfl, hM⟩ := rd_Node hr
      have e0 : wr.cell? ⟨g, o + k * 2, none⟩ = some (.int .i64 st) := by simpa [size_NodeS] using hu 0 _ rfl
      have e1 : wr.cell? ⟨g, o + k * 2 + 1, none⟩ = some (.slice ba M.length bc) := by simpa [size_NodeS, Nat.add_assoc] using hu 1 _ rfl
      have hi0 : (0 : Int) ≤ (k : Int) := Int.natCast_nonneg _
      have hi1 : (k : Int) < (L.length : Int) := by omega
      have HG := Lib.hid hg
      have HM := Lib.hid hM
      clear hcr hu hr hM hg hB hx
      cases hq : isB st 1 3 with
      | false =>
        have HN := Lib.hid (show ¬ NodesR L from fun h => by have := (nodesR_at h HX.out).1; rw [hq] at this; cases this)
        have hs := fun W => state_impl st W
        rw [hq] at hs
        clear hq
        go_wp2_with (go_at_call 64; refine (hs _).mono ?_; rintro e w' ⟨rfl, rfl⟩)
        go_ret
        exact resB_no HN.out (HB.out.trans (Below.mono (B := wr.heap.size) (by repeat (first | exact Below.refl _ _ | refine Below.drew ?_ | refine Below.setCell ?_ (by first | omega | (simp; done) | (simp; omega)) _ | refine Below.alloc ?_ (by first | omega | (simp; done) | (simp; omega)) _)) hsz))
      | true =>
      have HQ := Lib.hid hq
      have hs := fun W => state_impl st W
      rw [hq] at hs
      clear hq
      by_cases h4 : M.length ≤ 4
      rotate_left
      · have HN := Lib.hid (show ¬ NodesR L from fun h => h4 (nodesR_at h HX.out).2.1)
        have hd : decide ((4 : Int) < (M.length : Int)) = true := decide_eq_true (by omega)
        go_wp2_with (go_at_call 64; refine (hs _).mono ?_; rintro e w' ⟨rfl, rfl⟩)
        go_ret
        exact resB_no HN.out (HB.out.trans (Below.mono (B := wr.heap.size) (by repeat (first | exact Below.refl _ _ | refine Below.drew ?_ | refine Below.setCell ?_ (by first | omega | (simp; done) | (simp; omega)) _ | refine Below.alloc ?_ (by first | omega | (simp; done) | (simp; omega)) _)) hsz))
      have hd : decide ((4 : Int) < (M.length : Int)) = false := decide_eq_false (by omega)
      go_wp2_with (first | (go_at_call 64; refine (hs _).mono ?_; rintro e w' ⟨rfl, rfl⟩) | fail)
      refine (spans_impl ba M.length bc (gt M) _ (by omega) (pa_of (mv_rd R_Span_ok HM.out (w' := _) (by repeat (first | exact Below.refl _ _ | refine Below.drew ?_ | refine Below.setCell ?_ (by first | omega | (simp; done) | (simp; omega)) _ | refine Below.alloc ?_ (by first | omega | (simp; done) | (simp; omega)) _))) (Nat.le_refl _))).mono ?_
      intro e w5 h
      obtain ⟨z, rfl, hz, hb⟩ := resB_elim h
      have HZ := Lib.hid hz
      have HB5 := Lib.hid ((HB.out.trans (Below.mono (B := wr.heap.size) (by repeat (first | exact Below.refl _ _ | refine Below.drew ?_ | refine Below.setCell ?_ (by first | omega | (simp; done) | (simp; omega)) _ | refine Below.alloc ?_ (by first | omega | (simp; done) | (simp; omega)) _)) hsz)).trans (hb.mono (by simp; omega)))
      clear h hz hb hs hd
      cases z with
      | false =>
        have HN := Lib.hid (show ¬ NodesR L from fun h => by have := HZ.out.2 (nodesR_at h HX.out).2.2; cases this)
        go_wp2
        go_ret
        exact resB_no HN.out HB5.out
      | true =>
        have HO2 := Lib.hid (okTo_step HO.out HX.out ⟨HQ.out, h4, HZ.out.1 rfl⟩)
        go_wp2
        go_roundw
        case rel => exact ⟨k + 1, by omega, by go_num, HO2, HB5.out⟩
        case measure => simp [intOf]; omega
    · have hdl : decide ((k : Int) < (L.length : Int)) = false := decide_eq_false (by omega)
      obtain rfl : k = L.length := by omega
      have HY := Lib.hid (nodesR_all h1 h6 HO.out)
      clear hB
      go_wp2
      go_ret
      exact resB_yes HY.out HB.out
end Go.Proofs.Ytfciojkibklkfaa.RepC
end
