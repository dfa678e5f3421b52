/- Of this claim's texts the part 2: AppN LDraw5 FlatR LabBelow Sp SpPairs SpRight DkE DkS DkT DkB DkI. -/
import Derived.Deep.QuietTactic
import Derived.BigQuiet
import Derived.Lib.AppendZeros
import Derived.Test.YtphklknaagjmpaaDoorRows
import Derived.WalkKit
import Derived.ProofKit
import Derived.Below
import Derived.LoopTactic
import Derived.Deep.RegionWith
import Derived.Deep.RegionHeld3
import Derived.Deep.DeepCutAuto
import Derived.RegionTactic
import Derived.WalkSpells
import Derived.WalkLawsBesides
import Derived.IntWalk
import Derived.Lib.Hide
import Derived.Laws.MakeOwn
import Derived.Laws.Entries
import Derived.Laws.StructEq
import Derived.Test.YtphklknaagjmpaaDoorPk1
section
namespace Go.Proofs.YtphklknaagjmpaaDoor.RepC
open Go.RowKit RowC ValC
set_option linter.unusedVariables false
set_option maxRecDepth 100000
theorem below_own {B : Nat} {w w' : World} {v : Value} (h : w.grownBy w' v.ownBlock) (hv : ∀ k, v.ownBlock = some k → B ≤ k) (hB : B ≤ w.heap.size) : Below B w w' :=
  ⟨h.os, h.tape, h.output, h.size, fun k hk => h.block k (Nat.lt_of_lt_of_le hk hB) (fun e => by have := hv k e.symm; omega)⟩
theorem app_el {P : Program} {α : Type} {E : Rp α} (hE : Ok E) {w : World} {lo hi : Nat} {T : TypeId} {v : Value} {L : List α} {xs : List Value} {Sf : Nat → Nat → Prop} (h : App E w lo hi T v L xs Sf) {t ty : TypeId} {i : TypeInfo} {z : Value} {bytes : Nat} (ht : P.underlying t = some (.slice T)) (hi' : P.info? T = some i) (hz : i.zero = some z) (hsize : i.size = E.size) (hby : i.bytes = bytes) (hzs : z.cells.size = E.size) (hpos : 0 < E.size)
    {x : α} {cs : Array Value} (hx : ∀ w' : World, E.ow w' (fun _ => False) x cs.toList) (hlo : lo ≤ hi) (hL : L.length + 1 ≤ maxLen) (hLb : (L.length + 1) * bytes ≤ 140737488355328) :
    ∃ a c w' xs' Sf', (Builtin.append_ #[t, t] ty #[v, .slice (some ⟨w.heap.size, 0, none⟩) 1 1]).run P (w.alloc (.cells cs T)) = .ok (.slice a (L ++ [x]).length c) w' ∧ App E w' lo w'.heap.size T (.slice a (L ++ [x]).length c) (L ++ [x]) xs' Sf' ∧ Below lo w w' := by
  have hb := Blk.new w T cs
  have hbl : Below w.heap.size w (w.alloc (.cells cs T)) := (Below.refl _ _).alloc (Nat.le_refl _) _
  have h1 := h.call hE hbl
  obtain ⟨v', w', xs', Sf', hr, hA, hg, _, _⟩ := h1.app2 (P := P) hE ht hi' hz hsize hby hzs hpos (x := x) (us := cs.toList) (Sx := fun _ => False) (blk := w.heap.size) (c := 1) (ty := ty) (fun p y hp => hb.at_ p (by simpa using hp)) (hx _) (fun k hk => hk.elim) hlo hL hLb
  obtain ⟨a, c, rfl⟩ := hA.isSlice
  have hle := h.le
  exact ⟨a, c, w', xs', Sf', hr, hA, (hbl.mono (by omega)).trans (below_own hg (fun k hk => (h.blk k hk).1) (by have := hbl.size; omega))⟩
theorem App.new_ {α : Type} {E : Rp α} {w0 w : World} {hi : Nat} {T : TypeId} {a : Option Addr} {c : Nat} {L : List α} {xs : List Value} {Sf : Nat → Nat → Prop} (h : App E w w0.heap.size hi T (.slice a L.length c) L xs Sf) (hb : Below w0.heap.size w0 w) : NewS E L w0 (.returned (.slice a L.length c)) w := by
  obtain ⟨a', c', e, ho⟩ := h.done
  cases e
  exact ⟨a, c, rfl, ho.more fun k hk => ⟨hk.1, Nat.lt_of_lt_of_le hk.2 h.le⟩, hb⟩
theorem infoLetter : ∃ i, Tryd.prog.info? 48 = some i ∧ i.zero = some (.agg #[.int .i64 0, .int .i64 0, .int .i64 0, .int .i64 0, .int .i64 0, .int .i64 0]) ∧ i.size = 6 ∧ i.bytes = 48 := by
  have h : (Tryd.prog.info? 48).map (fun i => (i.zero, i.size, i.bytes)) = some (some (.agg #[.int .i64 0, .int .i64 0, .int .i64 0, .int .i64 0, .int .i64 0, .int .i64 0]), 6, 48) := by kernel_rfl
  cases hx : Tryd.prog.info? 48 with
  | none => rw [hx] at h; simp at h
  | some i => rw [hx] at h; simp at h; exact ⟨i, rfl, h.1, h.2.1, h.2.2⟩
theorem infoI64 : ∃ i, Tryd.prog.info? 2 = some i ∧ i.zero = some (.int .i64 0) ∧ i.size = 1 ∧ i.bytes = 8 := by
  have h : (Tryd.prog.info? 2).map (fun i => (i.zero, i.size, i.bytes)) = some (some (.int .i64 0), 1, 8) := by kernel_rfl
  cases hx : Tryd.prog.info? 2 with
  | none => rw [hx] at h; simp at h
  | some i => rw [hx] at h; simp at h; exact ⟨i, rfl, h.1, h.2.1, h.2.2⟩
theorem app_letter {w : World} {lo hi : Nat} {v : Value} {L : List D_Letter} {xs : List Value} {Sf : Nat → Nat → Prop} (h : App R_Letter w lo hi 48 v L xs Sf) (x0 x1 x2 x3 x4 x5 : Int) (hlo : lo ≤ hi) (hL : L.length + 1 ≤ 2932031007402) :
    ∃ a c w' xs' Sf', (Builtin.append_ #[23, 23] 23 #[v, .slice (some ⟨w.heap.size, 0, none⟩) 1 1]).run Tryd.prog (w.alloc (.cells #[.int .i64 x0, .int .i64 x1, .int .i64 x2, .int .i64 x3, .int .i64 x4, .int .i64 x5] 48)) = .ok (.slice a (L ++ [((x0, x1), (x2, x3), x4, x5)]).length c) w' ∧ App R_Letter w' lo w'.heap.size 48 (.slice a (L ++ [((x0, x1), (x2, x3), x4, x5)]).length c) (L ++ [((x0, x1), (x2, x3), x4, x5)]) xs' Sf' ∧ Below lo w w' := by
  obtain ⟨i, hi', hz, hs, hby⟩ := infoLetter
  exact app_el R_Letter_ok h Tryd.underlying23 hi' hz hs hby rfl (by decide) (fun w' => mkow_Letter) hlo (by unfold maxLen; omega) (by omega)
theorem app_int {w : World} {lo hi : Nat} {v : Value} {L : List Int} {xs : List Value} {Sf : Nat → Nat → Prop} (h : App I w lo hi 2 v L xs Sf) (x : Int) (hlo : lo ≤ hi) (hL : L.length + 1 ≤ 17592186044416) :
    ∃ a c w' xs' Sf', (Builtin.append_ #[39, 39] 39 #[v, .slice (some ⟨w.heap.size, 0, none⟩) 1 1]).run Tryd.prog (w.alloc (.cells #[.int .i64 x] 2)) = .ok (.slice a (L ++ [x]).length c) w' ∧ App I w' lo w'.heap.size 2 (.slice a (L ++ [x]).length c) (L ++ [x]) xs' Sf' ∧ Below lo w w' := by
  obtain ⟨i, hi', hz, hs, hby⟩ := infoI64
  exact app_el I_ok h Tryd.underlying39 hi' hz hs hby rfl (by decide) (fun w' => rfl) hlo (by unfold maxLen; omega) (by omega)
end Go.Proofs.YtphklknaagjmpaaDoor.RepC
end
section
namespace Go.Proofs.YtphklknaagjmpaaDoor.DrawC
open Go.RowKit RepC
set_option linter.unusedVariables false
set_option linter.unusedSimpArgs false
theorem but_far {g : Nat} {a w w' : World} (h : But g a w) (k : Below a.heap.size w w') : But g a w' :=
  ⟨k.os.trans h.os, k.tape.trans h.tape, k.output.trans h.output, Nat.le_trans h.size k.size, fun i hi hg => (k.block i hi).trans (h.block i hi hg)⟩
abbrev Sx (gb n g : Nat) (b : Option Addr) (len cap : Nat) (la sa : Int) (wr V : World) : Prop :=
  V.cell? ⟨gb, n * 2, none⟩ = some (.int .i64 la) ∧ V.cell? ⟨gb, n * 2 + 1, none⟩ = some (.int .i64 sa) ∧ Src g b len cap V ∧ But g wr V
section
variable {gb n g : Nat} {b : Option Addr} {len cap : Nat} {la sa : Int} {wr V V' : World}
end
end Go.Proofs.YtphklknaagjmpaaDoor.DrawC
end
section
namespace Go.Proofs.YtphklknaagjmpaaDoor.RepC
open Go.RowKit RowC ValC
set_option linter.unusedVariables false
set_option maxRecDepth 100000
theorem append_none {P : Program} {w : World} {base : Nat} {t ty e : TypeId} {i : TypeInfo} {size : Nat} (ht : P.underlying t = some (.slice e)) (hi : P.info? e = some i) {v : Value} {n : Nat} {xs : List Value} (hown : w.ownsRow base e size v n xs) (c : Nat) :
    (Builtin.append_ #[t, t] ty #[v, .slice none 0 c]).run P w = .ok v w := by
  rcases hown.2 with ⟨rfl, rfl⟩ | ⟨g, cap, cur, rfl, _, _, hnc, _⟩
  · simp [Builtin.append_, run_underlying ht, sizeOf, typeInfo, hi, Builtin.lenOf, Builtin.firstCells]
  · simp [Builtin.append_, run_underlying ht, sizeOf, typeInfo, hi, Builtin.lenOf, Builtin.firstCells, hnc, storeCells]
structure FRow {α : Type} (E : Rp α) (f : α → List Value) (w : World) (lo : Nat) (T : TypeId) (v : Value) (L : List α) : Prop where
  own : w.ownsRow lo T E.size v L.length (L.flatMap f)
  blk : ∀ k, v.ownBlock = some k → lo ≤ k ∧ k < w.heap.size
section
variable {α : Type} {E : Rp α} {f : α → List Value} {w w' : World} {lo : Nat} {T : TypeId} {v : Value} {L : List α}
theorem FRow.none_ (E : Rp α) (f : α → List Value) (w : World) (lo : Nat) (T : TypeId) : FRow E f w lo T (.slice none 0 0) [] := ⟨⟨by simp, .inl ⟨rfl, rfl⟩⟩, fun k hk => by cases hk⟩
theorem FRow.made (E : Rp α) (f : α → List Value) (w : World) (T : TypeId) : FRow E f (w.alloc (.cells #[] T)) w.heap.size T (.slice (some ⟨w.heap.size, 0, none⟩) 0 0) [] :=
  ⟨(App.made E w T).own, fun k hk => (by cases hk; exact ⟨Nat.le_refl _, by simp⟩)⟩
theorem FRow.isSlice (h : FRow E f w lo T v L) : ∃ a cap, v = .slice a L.length cap := by
  obtain ⟨_, h2⟩ := h.own
  rcases h2 with ⟨rfl, h0⟩ | ⟨g, cap, cur, rfl, _⟩
  · exact ⟨none, 0, by rw [h0]⟩
  · exact ⟨_, _, rfl⟩
theorem FRow.mv (h : FRow E f w lo T v L) (hs : w.heap.size ≤ w'.heap.size) (hb : ∀ k, v.ownBlock = some k → w'.heap[k]? = w.heap[k]?) : FRow E f w' lo T v L := by
  refine ⟨?_, fun k hk => ⟨(h.blk k hk).1, Nat.lt_of_lt_of_le (h.blk k hk).2 hs⟩⟩
  obtain ⟨h1, h2⟩ := h.own
  refine ⟨h1, ?_⟩
  rcases h2 with h2 | ⟨g, cap, cur, rfl, hlo, hg, h3⟩
  · exact .inl h2
  · exact .inr ⟨g, cap, cur, rfl, hlo, (hb g rfl).trans hg, h3⟩
theorem FRow.call (h : FRow E f w lo T v L) (hb : Below w.heap.size w w') : FRow E f w' lo T v L := h.mv hb.size fun k hk => hb.block k (h.blk k hk).2
theorem flatMap_len (hE : Ok E) (hF : Flat E f) (w : World) : ∀ M : List α, (M.flatMap f).length = M.length * E.size
  | [] => by simp
  | y :: ys => by
    have hy : (f y).length = E.size := hE.ow_len (hF.ow w (fun _ => False) y)
    simp only [List.flatMap_cons, List.length_append, List.length_cons, flatMap_len hE hF w ys, hy, Nat.add_mul, Nat.one_mul]
    omega
theorem flatMap_at (hE : Ok E) (hF : Flat E f) (w : World) : ∀ (M : List α) (q : Nat) (x : α), M[q]? = some x → ∀ j d, (f x)[j]? = some d → (M.flatMap f)[q * E.size + j]? = some d
  | [], q, x, hq, j, d, hj => by simp at hq
  | y :: ys, q, x, hq, j, d, hj => by
    have hy : (f y).length = E.size := hE.ow_len (hF.ow w (fun _ => False) y)
    simp only [List.flatMap_cons]
    cases q with
    | zero =>
      simp at hq
      subst hq
      rw [Nat.zero_mul, Nat.zero_add, List.getElem?_append_left (List.getElem?_eq_some_iff.1 hj).1]
      exact hj
    | succ q =>
      rw [List.getElem?_append_right (by rw [hy, Nat.add_mul, Nat.one_mul]; omega), hy, Nat.add_mul, Nat.one_mul, show q * E.size + E.size + j - E.size = q * E.size + j by omega]
      exact flatMap_at hE hF w ys q x (by simpa using hq) j d hj
theorem flatMap_cells (hE : Ok E) (hF : Flat E f) (w : World) (g : Nat) : ∀ (M : List α) (b : Nat), (∀ i x, M[i]? = some x → CellsAt w g (b + i * E.size) (f x)) → CellsAt w g b (M.flatMap f)
  | [], b, _ => CellsAt.nil
  | y :: ys, b, hc => by
    have hy : (f y).length = E.size := hE.ow_len (hF.ow w (fun _ => False) y)
    simp only [List.flatMap_cons]
    refine CellsAt.app.2 ⟨by simpa using hc 0 y rfl, ?_⟩
    rw [hy]
    refine flatMap_cells hE hF w g ys _ fun i x hx => ?_
    have := hc (i + 1) x (by simpa using hx)
    rw [Nat.add_mul, Nat.one_mul] at this
    rw [show b + E.size + i * E.size = b + (i * E.size + E.size) by omega]
    exact this
theorem FRow.more (hE : Ok E) (hF : Flat E f) {P : Program} (h : FRow E f w lo T v L) {t ty : TypeId} {i : TypeInfo} {z : Value} {bytes : Nat} (ht : P.underlying t = some (.slice T)) (hi : P.info? T = some i) (hz : i.zero = some z) (hsize : i.size = E.size) (hby : i.bytes = bytes) (hzs : z.cells.size = E.size) (hpos : 0 < E.size)
    {M : List α} {a : Option Addr} {cap : Nat} (hM : RdSl E w w.heap.size M a cap) (hlo : lo ≤ w.heap.size) (hL : L.length + M.length ≤ maxLen) (hLb : (L.length + M.length) * bytes ≤ 140737488355328) :
    ∃ a' c' w', (Builtin.append_ #[t, t] ty #[v, .slice a M.length cap]).run P w = .ok (.slice a' (L ++ M).length c') w' ∧ FRow E f w' lo T (.slice a' (L ++ M).length c') (L ++ M) ∧ Below lo w w' := by
  cases a with
  | none =>
    have h0 : M = [] := by
      cases M with
      | nil => rfl
      | cons y ys => obtain ⟨g, o, ha, _⟩ := hM.2.2 (by simp); cases ha
    subst h0
    obtain ⟨a', c', rfl⟩ := h.isSlice
    simp only [List.append_nil]
    exact ⟨a', c', w, append_none ht hi h.own cap, h, Below.refl _ _⟩
  | some x =>
    obtain ⟨news, hlen, hcells, hone, hnews⟩ : ∃ news : List Value, news.length = M.length * E.size ∧ (∀ j u, news[j]? = some u → w.cell? (x.add j) = some u) ∧ (∀ u ∈ news, u.oneCell' = true) ∧ news = M.flatMap f := by
      refine ⟨M.flatMap f, flatMap_len hE hF w M, fun j u hj => ?_, fun u hu => ?_, rfl⟩
      · cases M with
        | nil => simp at hj
        | cons y ys =>
          obtain ⟨g, o, ha, hg, hel⟩ := hM.2.2 (by simp)
          cases ha
          have hall := flatMap_cells hE hF w g (y :: ys) o fun i x hx => by
            obtain ⟨us, hu, hr⟩ := hel i x hx
            rw [← hF.rd hr]
            exact hu
          have hadd : (⟨g, o, none⟩ : Addr).add j = ⟨g, o + j, none⟩ := by unfold Addr.add; split <;> simp_all
          rw [hadd]
          exact hall j u hj
      · obtain ⟨y, hy, hu⟩ := List.mem_flatMap.1 hu
        exact hE.one (hE.ow_rd (B := 0) (hF.ow w (fun _ => False) y) (fun k h => h.elim)) u hu
    obtain ⟨v', w', hrun, hown, hgr, _, hat⟩ := run_append_own_at (P := P) w lo t ty T i z E.size bytes ht hi hz hsize hby hzs hpos v L.length _ h.own x M.length cap news hlen hcells hone hL hLb hlo
    rw [hnews, ← List.flatMap_append, ← List.length_append] at hown
    have hb : Below lo w w' := below_own hgr (fun k hk => (h.blk k hk).1) hlo
    have hF2 : FRow E f w' lo T v' (L ++ M) := ⟨hown, fun k hk => by
      rcases hat with e | e
      · rw [e] at hk; exact ⟨(h.blk k hk).1, Nat.lt_of_lt_of_le (h.blk k hk).2 hb.size⟩
      · rw [e] at hk
        cases hk
        rcases hown.2 with ⟨hn, _⟩ | ⟨g, cap', cur, hv, hlog, hgg, _⟩
        · rw [hn] at e; cases e
        · rw [hv] at e
          cases e
          exact ⟨hlog, (Array.getElem?_eq_some_iff.1 hgg).1⟩⟩
    obtain ⟨a', c', rfl⟩ := hF2.isSlice
    exact ⟨a', c', w', hrun, hF2, hb⟩
theorem FRow.sl (hE : Ok E) (hF : Flat E f) (h : FRow E f w lo T v L) : ∃ a c, v = .slice a L.length c ∧ OwSl E w (fun k => v.ownBlock = some k) L a c := by
  obtain ⟨hx, h2⟩ := h.own
  rcases h2 with ⟨rfl, h0⟩ | ⟨g, cap, cur, rfl, hlo, hg, hnc, hm, hc, htk⟩
  · have : L = [] := List.eq_nil_of_length_eq_zero h0
    subst this
    exact ⟨none, 0, rfl, Nat.le_refl _, Nat.zero_le _, fun h => absurd h (Nat.lt_irrefl _)⟩
  · refine ⟨_, cap, rfl, hnc, hm, fun _ => ⟨g, fun _ _ => False, rfl, rfl, fun j => by simp [World.frozen?, hg], fun i k h => h.elim, fun i j k _ h => h.elim, fun q x hq => ⟨f x, fun j d hj => ?_, hF.ow _ _ _⟩⟩⟩
    have h4 := flatMap_at hE hF w L q x hq j d hj
    rw [← htk] at h4
    have h5 : cur.toList[q * E.size + j]? = some d := by
      rw [List.getElem?_take] at h4
      split at h4
      · exact h4
      · cases h4
    exact (cell_of_row w g _ cur _ _ hg).trans (by simpa using h5)
end
theorem flat_Letter : Flat R_Letter (fun x => [.int .i64 x.1.1, .int .i64 x.1.2, .int .i64 x.2.1.1, .int .i64 x.2.1.2, .int .i64 x.2.2.1, .int .i64 x.2.2.2]) := ⟨fun {W B x us} h => by obtain ⟨⟨a, b⟩, ⟨c, d⟩, e, g⟩ := x; exact rd_Letter h, fun W S x => by obtain ⟨⟨a, b⟩, ⟨c, d⟩, e, g⟩ := x; exact mkow_Letter⟩
abbrev LRow (w : World) (lo : Nat) (v : Value) (L : List D_Letter) : Prop := FRow R_Letter (fun x => [.int .i64 x.1.1, .int .i64 x.1.2, .int .i64 x.2.1.1, .int .i64 x.2.1.2, .int .i64 x.2.2.1, .int .i64 x.2.2.2]) w lo 48 v L
theorem LRow.more {w : World} {lo : Nat} {v : Value} {L M : List D_Letter} {a : Option Addr} {cap : Nat} (h : LRow w lo v L) (hM : RdSl R_Letter w w.heap.size M a cap) (hlo : lo ≤ w.heap.size) (hL : L.length + M.length ≤ 2932031007402) :
    ∃ a' c' w', (Builtin.append_ #[23, 23] 23 #[v, .slice a M.length cap]).run Tryd.prog w = .ok (.slice a' (L ++ M).length c') w' ∧ LRow w' lo (.slice a' (L ++ M).length c') (L ++ M) ∧ Below lo w w' := by
  obtain ⟨i, hi', hz, hs, hby⟩ := infoLetter
  exact FRow.more R_Letter_ok flat_Letter h Tryd.underlying23 hi' hz hs hby rfl (by decide) hM hlo (by unfold maxLen; omega) (by omega)
theorem rd_one {w : World} {g : Nat} (x0 x1 x2 x3 x4 x5 : Int) (h : Blk w g 48 #[.int .i64 x0, .int .i64 x1, .int .i64 x2, .int .i64 x3, .int .i64 x4, .int .i64 x5]) : RdSl R_Letter w w.heap.size [((x0, x1), (x2, x3), x4, x5)] (some ⟨g, 0, none⟩) 1 := by
  refine ⟨Nat.le_refl _, by unfold maxLen; omega, fun _ => ⟨g, 0, rfl, h.lt, fun i x hx => ?_⟩⟩
  cases i with
  | zero =>
    simp at hx
    subst hx
    refine ⟨[.int .i64 x0, .int .i64 x1, .int .i64 x2, .int .i64 x3, .int .i64 x4, .int .i64 x5], fun j c hj => ?_, mkrd_Letter⟩
    simpa using h.at_ j (by simpa using hj)
  | succ i => simp at hx
theorem LRow.grown {w : World} {n : Nat} (h0 : 0 < n) (hn : n ≤ 1099511627776) : ∃ c w', (Builtin.append_ #[23, 3] 23 #[.slice none 0 0, .int .i64 n]).run Tryd.prog w = .ok (.slice (some ⟨w.heap.size, 0, none⟩) n c) w' ∧ LRow w' w.heap.size (.slice (some ⟨w.heap.size, 0, none⟩) 0 c) [] ∧ Below w.heap.size w w' ∧ n ≤ c := by
  obtain ⟨i, hi', hz, hs, hby⟩ := infoLetter
  have hge := grownCap_ge w n 0 48
  refine ⟨_, _, Lib.run_append_nil_zeros w 23 3 23 48 i _ .i64 .i64 Tryd.underlying23 Tryd.underlying3 hi' hz n h0 (by rw [hs]; decide) (by omega) (by rw [hby]; omega), ⟨⟨by simp, .inr ⟨w.heap.size, _, _, rfl, Nat.le_refl _, heap_alloc_new w.drew _, Nat.zero_le _, grownCap_le_maxLen _ _ _ _ (by unfold maxLen; omega), ?_, by simp⟩⟩, fun k hk => (by cases hk; exact ⟨Nat.le_refl _, by simp⟩)⟩, ((Below.refl _ _).drew).alloc (by simp) _, hge⟩
  rw [Array.size_append, size_zeroCells, size_zeroCells]
  show _ * 6 + _ * 6 = _
  rw [← Nat.add_mul]
  congr 1
  omega
end Go.Proofs.YtphklknaagjmpaaDoor.RepC
end
section
namespace Go.Proofs.YtphklknaagjmpaaDoor.LabC
open Go.RowKit KeptC
theorem inits (w : World) (l s m t : Int) (k k' : TypeId) : KS w (w.heap.size + 2) [(w.heap.size, 0, .int .i64 l), (w.heap.size, 1, .int .i64 s), (w.heap.size + 1, 0, .int .i64 m), (w.heap.size + 1, 1, .int .i64 t)] ((w.alloc (.cells #[.int .i64 l, .int .i64 s] k)).alloc (.cells #[.int .i64 m, .int .i64 t] k')) :=
  ⟨by simp, by simp, by simp, ((Below.refl _ _).alloc (Nat.le_refl _) _).alloc (by simp) _, by simp⟩
theorem rs_w (l s : Int) (w : World) : Calls Tryd.prog 31 #[.agg #[.int .i64 l, .int .i64 s]] w fun e w' => e = .returned (.bool (rB l s)) ∧ Below w.heap.size w w' :=
  (right_spec l s w).mono fun e w' ⟨he, hw⟩ => ⟨he, by rw [← hw]; exact (Below.refl _ _).alloc (Nat.le_refl _) _⟩
theorem ri_w (l s : Int) (w : World) : Calls Tryd.prog 29 #[.agg #[.int .i64 l, .int .i64 s]] w fun e w' => e = .returned (.bool (rB l s)) ∧ Below w.heap.size w w' :=
  (right_impl l s w).mono fun e w' ⟨he, hw⟩ => ⟨he, by rw [← hw]; exact (Below.refl _ _).alloc (Nat.le_refl _) _⟩
def belowB (l s m t : Int) : Bool := rB l s && (rB m t && bB l s m t)
theorem below_yes {l s m t : Int} (h1 : rB l s = true) (h2 : rB m t = true) : belowB l s m t = bB l s m t := by simp [belowB, h1, h2]
theorem below_no1 {l s m t : Int} (h1 : rB l s = false) : belowB l s m t = false := by simp [belowB, h1]
theorem below_no2 {l s m t : Int} (h1 : rB m t = false) : belowB l s m t = false := by simp [belowB, h1]
theorem eq_below (l s m t : Int) : bB l s m t = ((minV l m == l) && (bits BinOp.and IntKind.i64 s t == s)) := by
  have h : decide (l ≤ m) = (minV l m == l) := by
    rw [Bool.eq_iff_iff]; simp [minV]; omega
  unfold bB
  rw [h]
theorem two_ways (a b : Bool) : a = false ∧ (a && b) = false ∨ (a = true ∧ b = false) ∧ (a && b) = false ∨ (a = true ∧ b = true) ∧ (a && b) = true := by cases a <;> cases b <;> simp
set_option maxRecDepth 100000 in
set_option maxHeartbeats 1600000 in
theorem below_impl (l s m t : Int) (w : World) :
    Calls Tryd.prog 72 #[lab l s, lab m t] w fun e w' => e = .returned (.bool (belowB l s m t)) ∧ Below w.heap.size w w' := by
  by_cases h1 : rB l s = true
  · by_cases h2 : rB m t = true
    · rw [below_yes h1 h2, eq_below]
      have HM : ∀ w, Calls Tryd.prog 73 #[lab l s, lab m t] w fun e w' => e = .returned (lab (minV l m) (bits BinOp.and IntKind.i64 s t)) ∧ Below w.heap.size w w' := by
        intro w
        have := meet_impl l s m t w
        rw [meet_yes h1 h2] at this
        exact this
      generalize minV l m = p at *
      generalize bits BinOp.and IntKind.i64 s t = q at *
      unfold lab at *
      rcases two_ways (p == l) (q == s) with ⟨g1, g⟩ | ⟨⟨g1, g2⟩, g⟩ | ⟨⟨g1, g2⟩, g⟩
      all_goals
        rw [g]
        clear g
        go_enter Tryd.func72, Tryd.ntmps72
        go_wp2_with fail
        go_region_held3 (fun W => W.cell? ⟨w.heap.size, 0, none⟩ = some (.int .i64 l) ∧ W.cell? ⟨w.heap.size, 1, none⟩ = some (.int .i64 s) ∧ W.cell? ⟨w.heap.size + 1, 0, none⟩ = some (.int .i64 m) ∧ W.cell? ⟨w.heap.size + 1, 1, none⟩ = some (.int .i64 t) ∧ KS w (w.heap.size + 2) ([(w.heap.size, 0, .int .i64 l), (w.heap.size, 1, .int .i64 s), (w.heap.size + 1, 0, .int .i64 m), (w.heap.size + 1, 1, .int .i64 t)]) W)
          (exact ((fun (h : KS w (w.heap.size + 2) ([(w.heap.size, 0, .int .i64 l), (w.heap.size, 1, .int .i64 s), (w.heap.size + 1, 0, .int .i64 m), (w.heap.size + 1, 1, .int .i64 t)]) _) => ⟨h.at (by simp), h.at (by simp), h.at (by simp), h.at (by simp), h⟩) (by (repeat (first | assumption | exact inits w l s m t _ _ | refine KS.drew ?_ | refine KS.alloc ?_ _ | refine KS.set ?_ (by first | omega | (simp <;> omega)) _)))))
          (first | (go_at_call 29; refine (ri_w _ _ _).mono ?_; rintro e w1 ⟨rfl, hb⟩; have hL := KS.call (w := w) (base := w.heap.size + 2) (L := [(w.heap.size, 0, .int .i64 l), (w.heap.size, 1, .int .i64 s), (w.heap.size + 1, 0, .int .i64 m), (w.heap.size + 1, 1, .int .i64 t)]) (by (repeat (first | assumption | exact inits w l s m t _ _ | refine KS.drew ?_ | refine KS.alloc ?_ _ | refine KS.set ?_ (by first | omega | (simp <;> omega)) _))) hb; have hz := hL.size; have hs := hb.size; (try simp at hs); (try have hqC := join hqC hb); (try have hqC := join_alloc hqC hb); (try have hqC := join_drew hqC hb); (try have hqB := join hqB hb); (try have hqB := join_alloc hqB hb); (try have hqB := join_drew hqB hb); (try have hqA := join hqA hb); (try have hqA := join_alloc hqA hb); (try have hqA := join_drew hqA hb); (first | (have hqD' := hqC; have hqD := hb) | (have hqB' := hqB; have hqC := hb) | (have hqA' := hqA; have hqB := hb) | have hqA := hb); (try (have hrA := rules hqA; obtain ⟨hrA1, hrA2, hrA3, hrA4⟩ := hrA)); (try (have hrB := rules hqB; obtain ⟨hrB1, hrB2, hrB3, hrB4⟩ := hrB)); (try (have hrC := rules hqC; obtain ⟨hrC1, hrC2, hrC3, hrC4⟩ := hrC)); (try (have hrD := rules hqD; obtain ⟨hrD1, hrD2, hrD3, hrD4⟩ := hrD))) | (go_at_call 73; refine (HM _).mono ?_; rintro e w1 ⟨rfl, hb⟩; have hL := KS.call (w := w) (base := w.heap.size + 2) (L := [(w.heap.size, 0, .int .i64 l), (w.heap.size, 1, .int .i64 s), (w.heap.size + 1, 0, .int .i64 m), (w.heap.size + 1, 1, .int .i64 t)]) (by (repeat (first | assumption | exact inits w l s m t _ _ | refine KS.drew ?_ | refine KS.alloc ?_ _ | refine KS.set ?_ (by first | omega | (simp <;> omega)) _))) hb; have hz := hL.size; have hs := hb.size; (try simp at hs); (try have hqC := join hqC hb); (try have hqC := join_alloc hqC hb); (try have hqC := join_drew hqC hb); (try have hqB := join hqB hb); (try have hqB := join_alloc hqB hb); (try have hqB := join_drew hqB hb); (try have hqA := join hqA hb); (try have hqA := join_alloc hqA hb); (try have hqA := join_drew hqA hb); (first | (have hqD' := hqC; have hqD := hb) | (have hqB' := hqB; have hqC := hb) | (have hqA' := hqA; have hqB := hb) | have hqA := hb); (try (have hrA := rules hqA; obtain ⟨hrA1, hrA2, hrA3, hrA4⟩ := hrA)); (try (have hrB := rules hqB; obtain ⟨hrB1, hrB2, hrB3, hrB4⟩ := hrB)); (try (have hrC := rules hqC; obtain ⟨hrC1, hrC2, hrC3, hrC4⟩ := hrC)); (try (have hrD := rules hqD; obtain ⟨hrD1, hrD2, hrD3, hrD4⟩ := hrD))))
        go_wp2_with fail
        go_ret
        exact ⟨rfl, KS.below (base := w.heap.size + 2) (L := [(w.heap.size, 0, .int .i64 l), (w.heap.size, 1, .int .i64 s), (w.heap.size + 1, 0, .int .i64 m), (w.heap.size + 1, 1, .int .i64 t)]) (by (repeat (first | assumption | exact inits w l s m t _ _ | refine KS.drew ?_ | refine KS.alloc ?_ _ | refine KS.set ?_ (by first | omega | (simp <;> omega)) _)))⟩
    · have h2' : rB m t = false := by simpa using h2
      rw [below_no2 h2']
      clear h2
      unfold lab
      go_enter Tryd.func72, Tryd.ntmps72
      go_wp2_with fail
      go_region_with (first | (go_at_call 29; refine (right_impl _ _ _).mono ?_; unfold labO; rintro e w1 ⟨rfl, rfl⟩))
      all_goals go_wp2
      all_goals go_ret
      all_goals refine ⟨rfl, ?_⟩
      all_goals repeat (first | exact Below.refl _ _ | refine Below.setCell ?_ (by simp <;> omega) _ | refine Below.drew ?_ | refine Below.alloc ?_ (by simp <;> omega) _)
  · have h1' : rB l s = false := by simpa using h1
    rw [below_no1 h1']
    clear h1
    unfold lab
    go_enter Tryd.func72, Tryd.ntmps72
    go_wp2_with fail
    go_region_with (first | (go_at_call 29; refine (right_impl _ _ _).mono ?_; unfold labO; rintro e w1 ⟨rfl, rfl⟩))
    all_goals go_wp2
    all_goals go_ret
    all_goals refine ⟨rfl, ?_⟩
    all_goals repeat (first | exact Below.refl _ _ | refine Below.setCell ?_ (by simp <;> omega) _ | refine Below.drew ?_ | refine Below.alloc ?_ (by simp <;> omega) _)
end Go.Proofs.YtphklknaagjmpaaDoor.LabC
end
section
namespace Go.Proofs.YtphklknaagjmpaaDoor.SpanC
open Go.RowKit KeptC
def isB (n lo hi : Int) : Bool := decide (lo ≤ n) && decide (n ≤ hi)
theorem isB_iff (n lo hi : Int) : isB n lo hi = true ↔ lo ≤ n ∧ n ≤ hi := by simp [isB]
theorem is_spec (n lo hi : Int) (w : World) :
    Calls Tryd.prog 26 #[.int .i64 n, .int .i64 lo, .int .i64 hi] w fun e w' => e = .returned (.bool (isB n lo hi)) ∧ w = w' := by
  by_cases h1 : lo ≤ n
  · by_cases h2 : n ≤ hi
    · have hb : isB n lo hi = true := by simp [isB, h1, h2]
      rw [hb]; clear hb
      go_enter Tryd.func26, Tryd.ntmps26
      go_wp2
      go_ret
      exact ⟨rfl, rfl⟩
    · have hb : isB n lo hi = false := by simp [isB, h1, h2]
      rw [hb]; clear hb
      have h2' : decide (n ≤ hi) = false := by simpa using h2
      go_enter Tryd.func26, Tryd.ntmps26
      go_wp2
      go_ret
      exact ⟨rfl, rfl⟩
  · have hb : isB n lo hi = false := by simp [isB, h1]
    rw [hb]; clear hb
    have h1' : decide (lo ≤ n) = false := by simpa using h1
    go_enter Tryd.func26, Tryd.ntmps26
    go_wp2
    go_ret
    exact ⟨rfl, rfl⟩
end Go.Proofs.YtphklknaagjmpaaDoor.SpanC
end
section
namespace Go.Proofs.YtphklknaagjmpaaDoor.SpanC
open Go.RowKit KeptC
structure Fill (w : World) (n : Nat) (f : Nat → Int × Int) (k : Nat) (W : World) : Prop where
  cells : ∀ j, j < n → ∃ u v, W.cell? ⟨w.heap.size, j * 2, none⟩ = some u ∧ W.cell? ⟨w.heap.size, j * 2 + 1, none⟩ = some v ∧ (j < k → u = .int .i64 (f j).1 ∧ v = .int .i64 (f j).2)
  soft : ∀ j, W.frozen? ⟨w.heap.size, j, none⟩ = false
  below : Below w.heap.size w W
  lt : w.heap.size < W.heap.size
theorem Fill.call {w W W1 : World} {n k : Nat} {f : Nat → Int × Int} (h : Fill w n f k W) (hb : Below W.heap.size W W1) : Fill w n f k W1 := by
  refine ⟨fun j hj => ?_, fun j => (hb.frozen (p := ⟨w.heap.size, j, none⟩) h.lt).trans (h.soft j), h.below.trans (hb.mono (Nat.le_of_lt h.lt)), Nat.lt_of_lt_of_le h.lt hb.size⟩
  obtain ⟨u, v, hu, hv, hk⟩ := h.cells j hj
  exact ⟨u, v, (hb.cell (p := ⟨w.heap.size, j * 2, none⟩) h.lt).trans hu, (hb.cell (p := ⟨w.heap.size, j * 2 + 1, none⟩) h.lt).trans hv, hk⟩
theorem Fill.put {w W : World} {n k : Nat} {f : Nat → Int × Int} (h : Fill w n f k W) (hk : k < n) :
    Fill w n f (k + 1) ((W.setCell ⟨w.heap.size, k * 2, none⟩ (.int .i64 (f k).1)).setCell ⟨w.heap.size, k * 2 + 1, none⟩ (.int .i64 (f k).2)) := by
  have ne : ∀ a b : Nat, a ≠ b → (⟨w.heap.size, a, none⟩ : Addr) ≠ ⟨w.heap.size, b, none⟩ := fun a b hab e => hab (by injection e)
  obtain ⟨u0, v0, hu0, hv0, _⟩ := h.cells k hk
  refine ⟨fun j hj => ?_, fun j => by simpa using h.soft j, (h.below.setCell (Nat.le_refl _) _).setCell (Nat.le_refl _) _, by simpa using h.lt⟩
  by_cases e : j = k
  · subst e
    refine ⟨.int .i64 (f j).1, .int .i64 (f j).2, ?_, ?_, fun _ => ⟨rfl, rfl⟩⟩
    · rw [World.cell?_setCell_other _ _ _ _ (ne _ _ (by omega)), World.cell?_setCell_same' _ _ _ (by rw [hu0]; rfl)]
    · rw [World.cell?_setCell_same' _ _ _ (by rw [World.cell?_setCell_other _ _ _ _ (ne _ _ (by omega)), hv0]; rfl)]
  · obtain ⟨u, v, hu, hv, hlt⟩ := h.cells j hj
    refine ⟨u, v, ?_, ?_, fun hj' => hlt (by omega)⟩
    · rw [World.cell?_setCell_other _ _ _ _ (ne _ _ (by omega)), World.cell?_setCell_other _ _ _ _ (ne _ _ (by omega))]; exact hu
    · rw [World.cell?_setCell_other _ _ _ _ (ne _ _ (by omega)), World.cell?_setCell_other _ _ _ _ (ne _ _ (by omega))]; exact hv
def PRow (w : World) (b o n : Nat) (f : Nat → Int × Int) : Prop := ∀ i, i < n → w.cell? ⟨b, o + i * 2, none⟩ = some (.int .i64 (f i).1) ∧ w.cell? ⟨b, o + i * 2 + 1, none⟩ = some (.int .i64 (f i).2)
theorem PRow.below {w W : World} {b o n B : Nat} {f : Nat → Int × Int} (h : PRow w b o n f) (hb : Below B w W) (hB : b < B) : PRow W b o n f := fun i hi =>
  ⟨(hb.cell (p := ⟨b, o + i * 2, none⟩) hB).trans (h i hi).1, (hb.cell (p := ⟨b, o + i * 2 + 1, none⟩) hB).trans (h i hi).2⟩
theorem Fill.row {w W : World} {n : Nat} {f : Nat → Int × Int} (h : Fill w n f n W) : PRow W w.heap.size 0 n f := fun i hi => by
  obtain ⟨u, v, hu, hv, he⟩ := h.cells i hi
  obtain ⟨rfl, rfl⟩ := he hi
  exact ⟨by simpa using hu, by simpa using hv⟩
end Go.Proofs.YtphklknaagjmpaaDoor.SpanC
end
section
namespace Go.Proofs.YtphklknaagjmpaaDoor.SpanC
open Go.RowKit KeptC
set_option linter.unusedSimpArgs false
def ResB (P : Prop) (w : World) (e : Ending) (w' : World) : Prop := ∃ b : Bool, e = .returned (.bool b) ∧ (b = true ↔ P) ∧ Below w.heap.size w w'
theorem resB_yes {P : Prop} {w w' : World} (h : P) (hb : Below w.heap.size w w') : ResB P w (.returned (.bool true)) w' := ⟨true, rfl, by simp [h], hb⟩
theorem resB_no {P : Prop} {w w' : World} (h : ¬ P) (hb : Below w.heap.size w w') : ResB P w (.returned (.bool false)) w' := ⟨false, rfl, by simp [h], hb⟩
theorem resB_elim {P : Prop} {w : World} {e : Ending} {w' : World} (h : ResB P w e w') : ∃ b : Bool, e = .returned (.bool b) ∧ (b = true ↔ P) ∧ Below w.heap.size w w' := h
end Go.Proofs.YtphklknaagjmpaaDoor.SpanC
end
section
namespace Go.Proofs.YtphklknaagjmpaaDoor.RepC
open Go.RowKit RowC ValC SpanC KeptC
set_option linter.unusedVariables false
set_option linter.unusedSimpArgs false
theorem eq_letter_run (a b c d t v a' b' c' d' t' v' : Int) (w : World) : (binOp .eql 48 (.agg #[.int .i64 a, .int .i64 b, .int .i64 c, .int .i64 d, .int .i64 t, .int .i64 v]) (.agg #[.int .i64 a', .int .i64 b', .int .i64 c', .int .i64 d', .int .i64 t', .int .i64 v'])).run Tryd.prog w = .ok (.bool (((a, b), (c, d), t, v) == (((a', b'), (c', d'), t', v') : D_Letter))) w := by
  go_simp
  repeat' split
  all_goals simp_all
theorem eq_label_run (a b a' b' : Int) (w : World) : (binOp .eql 27 (.agg #[.int .i64 a, .int .i64 b]) (.agg #[.int .i64 a', .int .i64 b'])).run Tryd.prog w = .ok (.bool ((a, b) == ((a', b') : D_Label))) w := by
  go_simp
  repeat' split
  all_goals simp_all
theorem eq_letter_at {a b c d t v a' b' c' d' t' v' : Int} {q : Bool} (h : (((a, b), (c, d), t, v) == (((a', b'), (c', d'), t', v') : D_Letter)) = q) (w : World) : (binOp .eql 48 (.agg #[.int .i64 a, .int .i64 b, .int .i64 c, .int .i64 d, .int .i64 t, .int .i64 v]) (.agg #[.int .i64 a', .int .i64 b', .int .i64 c', .int .i64 d', .int .i64 t', .int .i64 v'])).run Tryd.prog w = .ok (.bool q) w := h ▸ eq_letter_run a b c d t v a' b' c' d' t' v' w
theorem eq_label_at {a b a' b' : Int} {q : Bool} (h : ((a, b) == ((a', b') : D_Label)) = q) (w : World) : (binOp .eql 27 (.agg #[.int .i64 a, .int .i64 b]) (.agg #[.int .i64 a', .int .i64 b'])).run Tryd.prog w = .ok (.bool q) w := h ▸ eq_label_run a b a' b' w
theorem bx1 (W : World) (c0 : Array Value) (T0 : TypeId) : Below W.heap.size W (W.alloc (.cells c0 T0)) ∧ Blk (W.alloc (.cells c0 T0)) W.heap.size T0 c0 := ⟨(Below.refl _ _).alloc (Nat.le_refl _) _, Blk.new _ _ _⟩
theorem bx2 (W : World) (c0 c1 : Array Value) (T0 T1 : TypeId) : Below W.heap.size W ((W.alloc (.cells c0 T0)).alloc (.cells c1 T1)) ∧ Blk ((W.alloc (.cells c0 T0)).alloc (.cells c1 T1)) W.heap.size T0 c0 ∧ Blk ((W.alloc (.cells c0 T0)).alloc (.cells c1 T1)) (W.heap.size + 1) T1 c1 := by
  refine ⟨((Below.refl _ _).alloc (Nat.le_refl _) _).alloc (by simp) _, (Blk.new _ _ _).alloc _, ?_⟩
  have h := Blk.new (W.alloc (.cells c0 T0)) T1 c1
  simpa only [World.size_alloc] using h
theorem bx3 (W : World) (c0 c1 c2 : Array Value) (T0 T1 T2 : TypeId) : Below W.heap.size W (((W.alloc (.cells c0 T0)).alloc (.cells c1 T1)).alloc (.cells c2 T2)) ∧ Blk (((W.alloc (.cells c0 T0)).alloc (.cells c1 T1)).alloc (.cells c2 T2)) W.heap.size T0 c0 ∧ Blk (((W.alloc (.cells c0 T0)).alloc (.cells c1 T1)).alloc (.cells c2 T2)) (W.heap.size + 1) T1 c1 ∧ Blk (((W.alloc (.cells c0 T0)).alloc (.cells c1 T1)).alloc (.cells c2 T2)) (W.heap.size + 1 + 1) T2 c2 := by
  have h := bx2 W c0 c1 T0 T1
  refine ⟨h.1.alloc h.1.size _, h.2.1.alloc _, h.2.2.alloc _, ?_⟩
  have h := Blk.new ((W.alloc (.cells c0 T0)).alloc (.cells c1 T1)) T2 c2
  simpa only [World.size_alloc] using h
def HasCh (P : List D_Letter) (f t : D_Label) : Prop := ∃ x ∈ P, x.1 = f ∧ x.2.1 = t
theorem hasCh_nil (f t : D_Label) : ¬ HasCh [] f t := fun ⟨x, h, _⟩ => by cases h
theorem hasCh_step {P : List D_Letter} {f t : D_Label} {k : Nat} {x : D_Letter} (hA : ¬ HasCh (P.take k) f t) (hx : P[k]? = some x) (h : ¬ (x.1 = f ∧ x.2.1 = t)) : ¬ HasCh (P.take (k + 1)) f t := by
  rintro ⟨y, hy, h1⟩
  rw [List.take_add_one, hx] at hy
  rcases List.mem_append.1 hy with h2 | h2
  · exact hA ⟨y, h2, h1⟩
  · simp at h2; subst h2; exact h h1
theorem hasCh_here {P : List D_Letter} {f t : D_Label} {k : Nat} {x : D_Letter} (hx : P[k]? = some x) (h1 : x.1 = f) (h2 : x.2.1 = t) : HasCh P f t := ⟨x, List.mem_of_getElem? hx, h1, h2⟩
theorem hasCh_end {P : List D_Letter} {f t : D_Label} {k : Nat} (hk : P.length ≤ k) (hA : ¬ HasCh (P.take k) f t) : ¬ HasCh P f t := by rwa [List.take_of_length_le hk] at hA
def PairOk (P : List D_Letter) (i : Nat) (x : D_Letter) : Prop := LabC.rB x.1.1 x.1.2 = true ∧ LabC.rB x.2.1.1 x.2.1.2 = true ∧ x.2.2.1 = 0 ∧ x.2.2.2 = 0 ∧ x ∉ P.take i
def PairsG (P : List D_Letter) : Prop := ∀ (i : Nat) (x : D_Letter), P[i]? = some x → PairOk P i x
def PairsR (P : List D_Letter) : Prop := P.length ≤ 4 ∧ PairsG P
def LetOk (P : List D_Letter) (now : Int) (L : List D_Letter) (i : Nat) (x : D_Letter) : Prop := HasCh P x.1 x.2.1 ∧ isB x.2.2.1 0 now = true ∧ isB x.2.2.2 0 1000000 = true ∧ ∀ y, 0 < i → L[i - 1]? = some y → y.2.2.1 ≤ x.2.2.1
def LettersR (P : List D_Letter) (now : Int) (L : List D_Letter) (most : Int) : Prop := (L.length : Int) ≤ most ∧ ∀ (i : Nat) (x : D_Letter), L[i]? = some x → LetOk P now L i x
def cntAt (n : Int) : List D_Letter → Nat
  | [] => 0
  | x :: xs => (if x.2.2.1 = n then 1 else 0) + cntAt n xs
theorem cntAt_app (n : Int) : ∀ (L M : List D_Letter), cntAt n (L ++ M) = cntAt n L + cntAt n M
  | [], M => by simp [cntAt]
  | x :: xs, M => by simp only [List.cons_append, cntAt, cntAt_app n xs M]; omega
theorem cntAt_take {n : Int} {L : List D_Letter} {k : Nat} {x : D_Letter} (h : L[k]? = some x) : cntAt n (L.take (k + 1)) = cntAt n (L.take k) + (if x.2.2.1 = n then 1 else 0) := by
  rw [List.take_add_one, h, Option.toList_some, cntAt_app]
  simp [cntAt]
theorem cntAt_le (n : Int) : ∀ L : List D_Letter, cntAt n L ≤ L.length
  | [] => Nat.le_refl _
  | x :: xs => by have := cntAt_le n xs; simp only [cntAt, List.length_cons]; split <;> omega
def DeskR (P B A : List D_Letter) (u n : Int) : Prop := PairsR P ∧ isB n 0 999900 = true ∧ LettersR P n B 6 ∧ LettersR P n A 20 ∧ isB u 0 2 = true ∧ (∀ x ∈ B, x ∈ A) ∧ u = (cntAt n A : Nat)
theorem mem_step {A : List D_Letter} {y : D_Letter} {k : Nat} {x : D_Letter} (hA : y ∉ A.take k) (hx : A[k]? = some x) (h : (x == y) = false) : y ∉ A.take (k + 1) := by
  rw [List.take_add_one, hx]
  simp only [Option.toList_some, List.mem_append, List.mem_singleton, not_or]
  exact ⟨hA, fun e => by subst e; simp at h⟩
end Go.Proofs.YtphklknaagjmpaaDoor.RepC
end
section
namespace Go.Proofs.YtphklknaagjmpaaDoor.RepC
open Go.RowKit RowC ValC SpanC KeptC
set_option linter.unusedVariables false
set_option linter.unusedSimpArgs false
set_option maxRecDepth 100000 in
set_option maxHeartbeats 3200000 in
theorem pair_spec {P : List D_Letter} {a0 : Option Addr} {c0 : Nat} {a1 a2 : Option Addr} {n1 d1 n2 d2 : Nat} {u n f0 f1 t0 t1 : Int} {W : World} (hP : RdSl R_Letter W W.heap.size P a0 c0) :
    Calls Tryd.prog 27 #[.agg #[.slice a0 P.length c0, .slice a1 n1 d1, .slice a2 n2 d2, .int .i64 u, .int .i64 n], .agg #[.int .i64 f0, .int .i64 f1], .agg #[.int .i64 t0, .int .i64 t1]] W (ResB (HasCh P (f0, f1) (t0, t1)) W) := by
  have hn : P.length ≤ 9223372036854775807 := by have h1 := hP.1; have h2 := hP.2.1; unfold maxLen at h2; omega
  have H := Lib.hid hP
  clear hP
  obtain ⟨hb0, hp0, hf0, ht0⟩ := bx3 W #[.slice a0 P.length c0, .slice a1 n1 d1, .slice a2 n2 d2, .int .i64 u, .int .i64 n] #[.int .i64 f0, .int .i64 f1] #[.int .i64 t0, .int .i64 t1] 25 27 27
  have HB0 := Lib.hid hb0
  have HP0 := Lib.hid hp0
  have HF0 := Lib.hid hf0
  have HT0 := Lib.hid ht0
  clear hb0 hp0 hf0 ht0
  go_enter Tryd.func27, Tryd.ntmps27
  go_wp2
  go_loopw [7] (fun i wr => ∃ k : Nat, k ≤ P.length ∧ i = .int .i64 k ∧ Hid (¬ HasCh (P.take k) (f0, f1) (t0, t1)) ∧ Below W.heap.size W wr ∧ Hid (Blk wr (W.heap.size) 25 #[.slice a0 P.length c0, .slice a1 n1 d1, .slice a2 n2 d2, .int .i64 u, .int .i64 n]) ∧ Hid (Blk wr (W.heap.size + 1) 27 #[.int .i64 f0, .int .i64 f1]) ∧ Hid (Blk wr (W.heap.size + 1 + 1) 27 #[.int .i64 t0, .int .i64 t1])) (fun i _ => P.length - (intOf i).toNat)
  case atStart => exact ⟨0, Nat.zero_le _, rfl, Lib.hid (hasCh_nil _ _), HB0.out, HP0, HF0, HT0⟩
  case round =>
    obtain ⟨k, hk, rfl, HA, hB, HP, HF_, HT⟩ := hrel
    have HB := Lib.hid hB
    have hsz := hB.size
    have hD0 := HP.out.at_ 0 rfl
    have hpl := HP.out.lt
    by_cases hlt : k < P.length
    · obtain ⟨⟨⟨x0, x1⟩, ⟨x2, x3⟩, x4, x5⟩, hx⟩ := el_some hlt
      have Hhx := Lib.hid hx
      obtain ⟨g, o, us, rfl, hgg, hu, hr⟩ := (H.out.below R_Letter_ok hB).at_ hx
      obtain rfl := rd_Letter hr
      have e0 : wr.cell? ⟨g, o + k * 6, none⟩ = some (.int .i64 x0) := by simpa [size_LetterS, Nat.add_assoc] using hu 0 _ rfl
      have e1 : wr.cell? ⟨g, o + k * 6 + 1, none⟩ = some (.int .i64 x1) := by simpa [size_LetterS, Nat.add_assoc] using hu 1 _ rfl
      have e2 : wr.cell? ⟨g, o + k * 6 + 2, none⟩ = some (.int .i64 x2) := by simpa [size_LetterS, Nat.add_assoc] using hu 2 _ rfl
      have e3 : wr.cell? ⟨g, o + k * 6 + 3, none⟩ = some (.int .i64 x3) := by simpa [size_LetterS, Nat.add_assoc] using hu 3 _ rfl
      have e4 : wr.cell? ⟨g, o + k * 6 + 4, none⟩ = some (.int .i64 x4) := by simpa [size_LetterS, Nat.add_assoc] using hu 4 _ rfl
      have e5 : wr.cell? ⟨g, o + k * 6 + 5, none⟩ = some (.int .i64 x5) := by simpa [size_LetterS, Nat.add_assoc] using hu 5 _ rfl
      have hgl : g < wr.heap.size := Nat.lt_of_lt_of_le hgg hsz
      have hi0 : (0 : Int) ≤ (k : Int) := Int.natCast_nonneg _
      have hi1 : (k : Int) < (P.length : Int) := by omega
      have hD0 := HP.out.at_ 0 rfl
      clear hB hx hu hr
      obtain ⟨b1, h1⟩ : ∃ b, (((x0, x1) : D_Label) == (f0, f1)) = b := ⟨_, rfl⟩
      obtain ⟨b2, h2⟩ : ∃ b, (((x2, x3) : D_Label) == (t0, t1)) = b := ⟨_, rfl⟩
      have q1 := eq_label_at h1
      have q2 := eq_label_at h2
      have H1 := Lib.hid h1
      have H2 := Lib.hid h2
      clear h1 h2
      cases b1 with
      | false =>
        have HC := Lib.hid (hasCh_step HA.out Hhx.out (fun h => by have := H1.out; rw [show ((x0, x1) : D_Label) = (f0, f1) from h.1] at this; simp at this))
        go_wp2_with fail
        refine wp_region_held_drew (S := (fun V => Below (wr).heap.size (wr) V)) (by kernel_rfl) ((Below.refl _ _).drew) (fun hHeld => ?_)
        refine tk 0 hHeld ?_
        refine tk 1 hHeld ?_ (hy := fun w hSw => by (try dsimp only at hSw); have k0 := (hSw.cell (p := ⟨W.heap.size, 0, none⟩) HP.out.lt).trans (HP.out.at_ 0 rfl); clear hSw; go_simp; try with_reducible rfl)
        refine tk 2 hHeld ?_
        refine tk 3 hHeld ?_
        refine tk 4 hHeld ?_
        refine tk 5 hHeld ?_ (hy := fun w hSw => by (try dsimp only at hSw); have k0 := (hSw.cell (p := ⟨g, o + k * 6, none⟩) hgl).trans e0; have k1 := (hSw.cell (p := ⟨g, o + k * 6 + 1, none⟩) hgl).trans e1; clear hSw; go_simp; try with_reducible rfl)
        refine tk 6 hHeld ?_ (hy := fun w hSw => by (try dsimp only at hSw); have k0 := (hSw.cell (p := ⟨W.heap.size + 1, 0, none⟩) HF_.out.lt).trans (HF_.out.at_ 0 rfl); have k1 := (hSw.cell (p := ⟨W.heap.size + 1, 1, none⟩) HF_.out.lt).trans (HF_.out.at_ 1 rfl); clear hSw; go_simp; try with_reducible rfl)
        refine tk 7 hHeld ?_
        refine tk 8 hHeld ?_
        refine tn 9 hHeld ?_
        refine tn 10 hHeld ?_
        refine tn 11 hHeld ?_
        refine tn 12 hHeld ?_
        refine tn 13 hHeld ?_
        refine tn 14 hHeld ?_
        refine tn 15 hHeld ?_
        refine tn 16 hHeld ?_
        refine tk 17 hHeld ?_
        refine rd0 ?_
        have HF := Lib.hid hHeld
        clear hHeld
        have HB3 := Lib.hid (HB.out.trans (HF.out.mono hsz))
        have HP3 := Lib.hid (HP.out.call HF.out)
        have HF3 := Lib.hid (HF_.out.call HF.out)
        have HT3 := Lib.hid (HT.out.call HF.out)
        clear HF
        go_wp2
        go_roundw
        case rel => exact ⟨k + 1, by omega, by go_num, HC, HB3.out, HP3, HF3, HT3⟩
        case measure => simp [intOf]; omega
      | true =>
        cases b2 with
        | false =>
          have HC := Lib.hid (hasCh_step HA.out Hhx.out (fun h => by have := H2.out; rw [show ((x2, x3) : D_Label) = (t0, t1) from h.2] at this; simp at this))
          go_wp2_with fail
          refine wp_region_held_drew (S := (fun V => Below (wr).heap.size (wr) V)) (by kernel_rfl) ((Below.refl _ _).drew) (fun hHeld => ?_)
          refine tk 0 hHeld ?_
          refine tk 1 hHeld ?_ (hy := fun w hSw => by (try dsimp only at hSw); have k0 := (hSw.cell (p := ⟨W.heap.size, 0, none⟩) HP.out.lt).trans (HP.out.at_ 0 rfl); clear hSw; go_simp; try with_reducible rfl)
          refine tk 2 hHeld ?_
          refine tk 3 hHeld ?_
          refine tk 4 hHeld ?_
          refine tk 5 hHeld ?_ (hy := fun w hSw => by (try dsimp only at hSw); have k0 := (hSw.cell (p := ⟨g, o + k * 6, none⟩) hgl).trans e0; have k1 := (hSw.cell (p := ⟨g, o + k * 6 + 1, none⟩) hgl).trans e1; clear hSw; go_simp; try with_reducible rfl)
          refine tk 6 hHeld ?_ (hy := fun w hSw => by (try dsimp only at hSw); have k0 := (hSw.cell (p := ⟨W.heap.size + 1, 0, none⟩) HF_.out.lt).trans (HF_.out.at_ 0 rfl); have k1 := (hSw.cell (p := ⟨W.heap.size + 1, 1, none⟩) HF_.out.lt).trans (HF_.out.at_ 1 rfl); clear hSw; go_simp; try with_reducible rfl)
          refine tk 7 hHeld ?_
          refine tk 8 hHeld ?_
          refine tk 9 hHeld ?_
          refine tk 10 hHeld ?_ (hy := fun w hSw => by (try dsimp only at hSw); have k0 := (hSw.cell (p := ⟨W.heap.size, 0, none⟩) HP.out.lt).trans (HP.out.at_ 0 rfl); clear hSw; go_simp; try with_reducible rfl)
          refine tk 11 hHeld ?_
          refine tk 12 hHeld ?_
          refine tk 13 hHeld ?_
          refine tk 14 hHeld ?_ (hy := fun w hSw => by (try dsimp only at hSw); have k0 := (hSw.cell (p := ⟨g, o + k * 6 + 2, none⟩) hgl).trans e2; have k1 := (hSw.cell (p := ⟨g, o + k * 6 + 3, none⟩) hgl).trans e3; clear hSw; go_simp; try with_reducible rfl)
          refine tk 15 hHeld ?_ (hy := fun w hSw => by (try dsimp only at hSw); have k0 := (hSw.cell (p := ⟨W.heap.size + 1 + 1, 0, none⟩) HT.out.lt).trans (HT.out.at_ 0 rfl); have k1 := (hSw.cell (p := ⟨W.heap.size + 1 + 1, 1, none⟩) HT.out.lt).trans (HT.out.at_ 1 rfl); clear hSw; go_simp; try with_reducible rfl)
          refine tk 16 hHeld ?_
          refine tk 17 hHeld ?_
          refine rd0 ?_
          have HF := Lib.hid hHeld
          clear hHeld
          have HB3 := Lib.hid (HB.out.trans (HF.out.mono hsz))
          have HP3 := Lib.hid (HP.out.call HF.out)
          have HF3 := Lib.hid (HF_.out.call HF.out)
          have HT3 := Lib.hid (HT.out.call HF.out)
          clear HF
          go_wp2
          go_roundw
          case rel => exact ⟨k + 1, by omega, by go_num, HC, HB3.out, HP3, HF3, HT3⟩
          case measure => simp [intOf]; omega
        | true =>
          have HY := Lib.hid (show HasCh P (f0, f1) (t0, t1) from hasCh_here Hhx.out (beq_iff_eq.1 H1.out) (beq_iff_eq.1 H2.out))
          go_wp2_with fail
          refine wp_region_held_drew (S := (fun V => Below (wr).heap.size (wr) V)) (by kernel_rfl) ((Below.refl _ _).drew) (fun hHeld => ?_)
          refine tk 0 hHeld ?_
          refine tk 1 hHeld ?_ (hy := fun w hSw => by (try dsimp only at hSw); have k0 := (hSw.cell (p := ⟨W.heap.size, 0, none⟩) HP.out.lt).trans (HP.out.at_ 0 rfl); clear hSw; go_simp; try with_reducible rfl)
          refine tk 2 hHeld ?_
          refine tk 3 hHeld ?_
          refine tk 4 hHeld ?_
          refine tk 5 hHeld ?_ (hy := fun w hSw => by (try dsimp only at hSw); have k0 := (hSw.cell (p := ⟨g, o + k * 6, none⟩) hgl).trans e0; have k1 := (hSw.cell (p := ⟨g, o + k * 6 + 1, none⟩) hgl).trans e1; clear hSw; go_simp; try with_reducible rfl)
          refine tk 6 hHeld ?_ (hy := fun w hSw => by (try dsimp only at hSw); have k0 := (hSw.cell (p := ⟨W.heap.size + 1, 0, none⟩) HF_.out.lt).trans (HF_.out.at_ 0 rfl); have k1 := (hSw.cell (p := ⟨W.heap.size + 1, 1, none⟩) HF_.out.lt).trans (HF_.out.at_ 1 rfl); clear hSw; go_simp; try with_reducible rfl)
          refine tk 7 hHeld ?_
          refine tk 8 hHeld ?_
          refine tk 9 hHeld ?_
          refine tk 10 hHeld ?_ (hy := fun w hSw => by (try dsimp only at hSw); have k0 := (hSw.cell (p := ⟨W.heap.size, 0, none⟩) HP.out.lt).trans (HP.out.at_ 0 rfl); clear hSw; go_simp; try with_reducible rfl)
          refine tk 11 hHeld ?_
          refine tk 12 hHeld ?_
          refine tk 13 hHeld ?_
          refine tk 14 hHeld ?_ (hy := fun w hSw => by (try dsimp only at hSw); have k0 := (hSw.cell (p := ⟨g, o + k * 6 + 2, none⟩) hgl).trans e2; have k1 := (hSw.cell (p := ⟨g, o + k * 6 + 3, none⟩) hgl).trans e3; clear hSw; go_simp; try with_reducible rfl)
          refine tk 15 hHeld ?_ (hy := fun w hSw => by (try dsimp only at hSw); have k0 := (hSw.cell (p := ⟨W.heap.size + 1 + 1, 0, none⟩) HT.out.lt).trans (HT.out.at_ 0 rfl); have k1 := (hSw.cell (p := ⟨W.heap.size + 1 + 1, 1, none⟩) HT.out.lt).trans (HT.out.at_ 1 rfl); clear hSw; go_simp; try with_reducible rfl)
          refine tk 16 hHeld ?_
          refine tk 17 hHeld ?_
          refine rd0 ?_
          have HF := Lib.hid hHeld
          clear hHeld
          have HB3 := Lib.hid (HB.out.trans (HF.out.mono hsz))
          clear HF
          go_wp2
          go_ret
          exact resB_yes HY.out HB3.out
    · have HN := Lib.hid (hasCh_end (by omega) HA.out)
      have hd : decide ((k : Int) < (P.length : Int)) = false := decide_eq_false (by omega)
      clear hB
      go_wp2
      go_ret
      exact resB_no HN.out HB.out
set_option maxRecDepth 100000 in
set_option maxHeartbeats 3200000 in
theorem rs_at (l s : Int) {b : Bool} (hb : LabC.rB l s = b) (w : World) : Calls Tryd.prog 31 #[.agg #[.int .i64 l, .int .i64 s]] w fun e w' => e = .returned (.bool b) ∧ Below w.heap.size w w' := by
  subst hb; exact LabC.rs_w l s w
set_option maxRecDepth 100000 in
set_option maxHeartbeats 3200000 in
theorem pairs_spec {P : List D_Letter} {a0 : Option Addr} {c0 : Nat} {W : World} (hP : RdSl R_Letter W W.heap.size P a0 c0) :
    Calls Tryd.prog 38 #[.slice a0 P.length c0] W (ResB (PairsR P) W) := by
  have hn : P.length ≤ 9223372036854775807 := by have h1 := hP.1; have h2 := hP.2.1; unfold maxLen at h2; omega
  have H := Lib.hid hP
  clear hP
  go_enter Tryd.func38, Tryd.ntmps38
  go_wp2
  go_loopw [3] (fun i wr => ∃ k : Nat, k ≤ P.length ∧ i = .int .i64 k ∧ Hid (∀ (j : Nat) (x : D_Letter), j < k → P[j]? = some x → PairOk P j x) ∧ Below W.heap.size W wr) (fun i _ => P.length - (intOf i).toNat)
  case atStart => exact ⟨0, Nat.zero_le _, rfl, Lib.hid fun j x h => absurd h (Nat.not_lt_zero _), Below.refl _ _⟩
  case round =>
    obtain ⟨k, hk, rfl, HA, hB⟩ := hrel
    have HB := Lib.hid hB
    have hsz := hB.size
    by_cases hlt : k < P.length
    · obtain ⟨⟨⟨x0, x1⟩, ⟨x2, x3⟩, x4, x5⟩, hx⟩ := el_some hlt
      have Hhx := Lib.hid hx
      obtain ⟨g, o, us, rfl, hgg, hu, hr⟩ := (H.out.below R_Letter_ok hB).at_ hx
      obtain rfl := rd_Letter hr
      have e0 : wr.cell? ⟨g, o + k * 6, none⟩ = some (.int .i64 x0) := by simpa [size_LetterS, Nat.add_assoc] using hu 0 _ rfl
      have e1 : wr.cell? ⟨g, o + k * 6 + 1, none⟩ = some (.int .i64 x1) := by simpa [size_LetterS, Nat.add_assoc] using hu 1 _ rfl
      have e2 : wr.cell? ⟨g, o + k * 6 + 2, none⟩ = some (.int .i64 x2) := by simpa [size_LetterS, Nat.add_assoc] using hu 2 _ rfl
      have e3 : wr.cell? ⟨g, o + k * 6 + 3, none⟩ = some (.int .i64 x3) := by simpa [size_LetterS, Nat.add_assoc] using hu 3 _ rfl
      have e4 : wr.cell? ⟨g, o + k * 6 + 4, none⟩ = some (.int .i64 x4) := by simpa [size_LetterS, Nat.add_assoc] using hu 4 _ rfl
      have e5 : wr.cell? ⟨g, o + k * 6 + 5, none⟩ = some (.int .i64 x5) := by simpa [size_LetterS, Nat.add_assoc] using hu 5 _ rfl
      have hgl : g < wr.heap.size := Nat.lt_of_lt_of_le hgg hsz
      have hi0 : (0 : Int) ≤ (k : Int) := Int.natCast_nonneg _
      have hi1 : (k : Int) < (P.length : Int) := by omega
      clear hB hx hu hr
      obtain ⟨b1, h1⟩ : ∃ b, LabC.rB x0 x1 = b := ⟨_, rfl⟩
      obtain ⟨b2, h2⟩ : ∃ b, LabC.rB x2 x3 = b := ⟨_, rfl⟩
      have H1 := Lib.hid h1
      have H2 := Lib.hid h2
      clear h1 h2
      go_wp2_with fail
      refine (rs_at x0 x1 H1.out _).mono ?_
      rintro e w1 ⟨rfl, hb⟩
      have HB1 := Lib.hid (HB.out.trans (hb.mono hsz))
      have hsz1 := HB1.out.size
      replace e0 := (hb.cell (p := ⟨g, _, none⟩) hgl).trans e0
      replace e1 := (hb.cell (p := ⟨g, _, none⟩) hgl).trans e1
      replace e2 := (hb.cell (p := ⟨g, _, none⟩) hgl).trans e2
      replace e3 := (hb.cell (p := ⟨g, _, none⟩) hgl).trans e3
      replace e4 := (hb.cell (p := ⟨g, _, none⟩) hgl).trans e4
      replace e5 := (hb.cell (p := ⟨g, _, none⟩) hgl).trans e5
      have hgl0 := Nat.lt_of_lt_of_le hgl hb.size
      clear hb
      cases b1 with
      | false =>
        have HN := Lib.hid (show ¬ PairsR P from fun h => by have := (h.2 k _ Hhx.out).1; rw [show LabC.rB x0 x1 = false from H1.out] at this; cases this)
        go_wp2
        go_ret
        exact resB_no HN.out HB1.out
      | true =>
        go_wp2_with fail
        refine (rs_at x2 x3 H2.out _).mono ?_
        rintro e w2 ⟨rfl, hb⟩
        have HB2 := Lib.hid (HB1.out.trans (hb.mono hsz1))
        have hsz2 := HB2.out.size
        replace e0 := (hb.cell (p := ⟨g, _, none⟩) hgl0).trans e0
        replace e1 := (hb.cell (p := ⟨g, _, none⟩) hgl0).trans e1
        replace e2 := (hb.cell (p := ⟨g, _, none⟩) hgl0).trans e2
        replace e3 := (hb.cell (p := ⟨g, _, none⟩) hgl0).trans e3
        replace e4 := (hb.cell (p := ⟨g, _, none⟩) hgl0).trans e4
        replace e5 := (hb.cell (p := ⟨g, _, none⟩) hgl0).trans e5
        have hgl1 := Nat.lt_of_lt_of_le hgl0 hb.size
        clear hb
        cases b2 with
        | false =>
          have HN := Lib.hid (show ¬ PairsR P from fun h => by have := (h.2 k _ Hhx.out).2.1; rw [show LabC.rB x2 x3 = false from H2.out] at this; cases this)
          go_wp2
          go_ret
          exact resB_no HN.out HB2.out
        | true =>
          by_cases h4 : x4 = 0
          rotate_left
          · have hd : (x4 != 0) = true := by simpa using h4
            have HN := Lib.hid (show ¬ PairsR P from fun h => h4 (h.2 k _ Hhx.out).2.2.1)
            go_wp2
            go_ret
            exact resB_no HN.out HB2.out
          by_cases h5 : x5 = 0
          rotate_left
          · have hd : (x5 != 0) = true := by simpa using h5
            have hd4 : (x4 != 0) = false := by simpa using h4
            have HN := Lib.hid (show ¬ PairsR P from fun h => h5 (h.2 k _ Hhx.out).2.2.2.1)
            go_wp2
            go_ret
            exact resB_no HN.out HB2.out
          subst h4 h5
          go_wp2
          go_loopw [4] (fun i wr => ∃ m : Nat, m ≤ k ∧ i = .int .i64 m ∧ Hid (((x0, x1), (x2, x3), (0 : Int), (0 : Int)) ∉ P.take m) ∧ Below w2.heap.size w2 wr) (fun i _ => k - (intOf i).toNat)
          case atStart => exact ⟨0, Nat.zero_le _, rfl, Lib.hid (by simp), Below.refl _ _⟩
          case round =>
            obtain ⟨m, hm, rfl, HM, hB⟩ := hrel
            have HBm := Lib.hid hB
            have hszm := hB.size
            by_cases hmt : m < k
            · have hml : m < P.length := by omega
              obtain ⟨⟨⟨y0, y1⟩, ⟨y2, y3⟩, y4, y5⟩, hy⟩ := el_some hml
              have Hhy := Lib.hid hy
              obtain ⟨g2, o2, us, hag2, hgg2, hu, hr⟩ := (H.out.below R_Letter_ok ((HB2.out).trans (hB.mono hsz2))).at_ hy
              obtain rfl := rd_Letter hr
              have d0 : wr.cell? ⟨g2, o2 + m * 6, none⟩ = some (.int .i64 y0) := by simpa [size_LetterS, Nat.add_assoc] using hu 0 _ rfl
              have d1 : wr.cell? ⟨g2, o2 + m * 6 + 1, none⟩ = some (.int .i64 y1) := by simpa [size_LetterS, Nat.add_assoc] using hu 1 _ rfl
              have d2 : wr.cell? ⟨g2, o2 + m * 6 + 2, none⟩ = some (.int .i64 y2) := by simpa [size_LetterS, Nat.add_assoc] using hu 2 _ rfl
              have d3 : wr.cell? ⟨g2, o2 + m * 6 + 3, none⟩ = some (.int .i64 y3) := by simpa [size_LetterS, Nat.add_assoc] using hu 3 _ rfl
              have d4 : wr.cell? ⟨g2, o2 + m * 6 + 4, none⟩ = some (.int .i64 y4) := by simpa [size_LetterS, Nat.add_assoc] using hu 4 _ rfl
              have d5 : wr.cell? ⟨g2, o2 + m * 6 + 5, none⟩ = some (.int .i64 y5) := by simpa [size_LetterS, Nat.add_assoc] using hu 5 _ rfl
              obtain ⟨rfl, rfl⟩ : g2 = g ∧ o2 = o := by cases hag2; exact ⟨rfl, rfl⟩
              have hgl2 : g2 < wr.heap.size := Nat.lt_of_lt_of_le (Nat.lt_of_lt_of_le hgl1 (Nat.le_refl _)) hszm
              have hj0 : (0 : Int) ≤ (m : Int) := Int.natCast_nonneg _
              have hj1 : (m : Int) < (P.length : Int) := by omega
              have hj2 : (m : Int) < (k : Int) := by omega
              have f0 := (hB.cell (p := ⟨g2, _, none⟩) hgl1).trans e0
              have f1 := (hB.cell (p := ⟨g2, _, none⟩) hgl1).trans e1
              have f2 := (hB.cell (p := ⟨g2, _, none⟩) hgl1).trans e2
              have f3 := (hB.cell (p := ⟨g2, _, none⟩) hgl1).trans e3
              have f4 := (hB.cell (p := ⟨g2, _, none⟩) hgl1).trans e4
              have f5 := (hB.cell (p := ⟨g2, _, none⟩) hgl1).trans e5
              clear hB hy hu hr
              obtain ⟨b3, h3⟩ : ∃ b, (((y0, y1), (y2, y3), y4, y5) == (((x0, x1), (x2, x3), 0, 0) : D_Letter)) = b := ⟨_, rfl⟩
              have q3 := eq_letter_at h3
              have H3 := Lib.hid h3
              clear h3
              cases b3 with
              | true =>
                have HN := Lib.hid (show ¬ PairsR P from fun h => (h.2 k _ Hhx.out).2.2.2.2 (by rw [← beq_iff_eq.1 H3.out]; exact List.mem_take_iff_getElem.2 (by have h2 := List.getElem?_eq_some_iff.1 Hhy.out; obtain ⟨h3, h4⟩ := h2; exact ⟨m, by omega, h4⟩)))
                go_wp2_with fail
                refine wp_region_held_drew (S := (fun V => Below (wr).heap.size (wr) V)) (by kernel_rfl) ((Below.refl _ _).drew) (fun hHeld => ?_)
                refine tk 0 hHeld ?_
                refine tk 1 hHeld ?_
                refine tk 2 hHeld ?_
                refine tk 3 hHeld ?_ (hy := fun w hSw => by (try dsimp only at hSw); have k0 := (hSw.cell (p := ⟨g2, o2 + m * 6, none⟩) hgl2).trans d0; have k1 := (hSw.cell (p := ⟨g2, o2 + m * 6 + 1, none⟩) hgl2).trans d1; have k2 := (hSw.cell (p := ⟨g2, o2 + m * 6 + 2, none⟩) hgl2).trans d2; have k3 := (hSw.cell (p := ⟨g2, o2 + m * 6 + 3, none⟩) hgl2).trans d3; have k4 := (hSw.cell (p := ⟨g2, o2 + m * 6 + 4, none⟩) hgl2).trans d4; have k5 := (hSw.cell (p := ⟨g2, o2 + m * 6 + 5, none⟩) hgl2).trans d5; clear hSw; go_simp; try with_reducible rfl)
                refine tk 4 hHeld ?_
                refine tk 5 hHeld ?_
                refine tk 6 hHeld ?_
                refine tk 7 hHeld ?_ (hy := fun w hSw => by (try dsimp only at hSw); have k0 := (hSw.cell (p := ⟨g2, o2 + k * 6, none⟩) hgl2).trans f0; have k1 := (hSw.cell (p := ⟨g2, o2 + k * 6 + 1, none⟩) hgl2).trans f1; have k2 := (hSw.cell (p := ⟨g2, o2 + k * 6 + 2, none⟩) hgl2).trans f2; have k3 := (hSw.cell (p := ⟨g2, o2 + k * 6 + 3, none⟩) hgl2).trans f3; have k4 := (hSw.cell (p := ⟨g2, o2 + k * 6 + 4, none⟩) hgl2).trans f4; have k5 := (hSw.cell (p := ⟨g2, o2 + k * 6 + 5, none⟩) hgl2).trans f5; clear hSw; go_simp; try with_reducible rfl)
                refine tk 8 hHeld ?_
                refine rd0 ?_
                have HF := Lib.hid hHeld
                clear hHeld
                have HB4 := Lib.hid (HB2.out.trans ((HBm.out.trans (HF.out.mono hszm)).mono hsz2))
                clear HF
                go_wp2
                go_ret
                exact resB_no HN.out HB4.out
              | false =>
                have HC := Lib.hid (mem_step HM.out Hhy.out H3.out)
                go_wp2_with fail
                refine wp_region_held_drew (S := (fun V => Below (wr).heap.size (wr) V)) (by kernel_rfl) ((Below.refl _ _).drew) (fun hHeld => ?_)
                refine tk 0 hHeld ?_
                refine tk 1 hHeld ?_
                refine tk 2 hHeld ?_
                refine tk 3 hHeld ?_ (hy := fun w hSw => by (try dsimp only at hSw); have k0 := (hSw.cell (p := ⟨g2, o2 + m * 6, none⟩) hgl2).trans d0; have k1 := (hSw.cell (p := ⟨g2, o2 + m * 6 + 1, none⟩) hgl2).trans d1; have k2 := (hSw.cell (p := ⟨g2, o2 + m * 6 + 2, none⟩) hgl2).trans d2; have k3 := (hSw.cell (p := ⟨g2, o2 + m * 6 + 3, none⟩) hgl2).trans d3; have k4 := (hSw.cell (p := ⟨g2, o2 + m * 6 + 4, none⟩) hgl2).trans d4; have k5 := (hSw.cell (p := ⟨g2, o2 + m * 6 + 5, none⟩) hgl2).trans d5; clear hSw; go_simp; try with_reducible rfl)
                refine tk 4 hHeld ?_
                refine tk 5 hHeld ?_
                refine tk 6 hHeld ?_
                refine tk 7 hHeld ?_ (hy := fun w hSw => by (try dsimp only at hSw); have k0 := (hSw.cell (p := ⟨g2, o2 + k * 6, none⟩) hgl2).trans f0; have k1 := (hSw.cell (p := ⟨g2, o2 + k * 6 + 1, none⟩) hgl2).trans f1; have k2 := (hSw.cell (p := ⟨g2, o2 + k * 6 + 2, none⟩) hgl2).trans f2; have k3 := (hSw.cell (p := ⟨g2, o2 + k * 6 + 3, none⟩) hgl2).trans f3; have k4 := (hSw.cell (p := ⟨g2, o2 + k * 6 + 4, none⟩) hgl2).trans f4; have k5 := (hSw.cell (p := ⟨g2, o2 + k * 6 + 5, none⟩) hgl2).trans f5; clear hSw; go_simp; try with_reducible rfl)
                refine tk 8 hHeld ?_
                refine rd0 ?_
                have HF := Lib.hid hHeld
                clear hHeld
                have HB4 := Lib.hid (HBm.out.trans (HF.out.mono hszm))
                clear HF
                go_wp2
                go_roundw
                case rel => exact ⟨m + 1, by omega, by go_num, HC, HB4.out⟩
                case measure => simp [intOf]; omega
            · have hd : decide ((m : Int) < (k : Int)) = false := decide_eq_false (by omega)
              have HS := Lib.hid (show ∀ (j : Nat) (x : D_Letter), j < k + 1 → P[j]? = some x → PairOk P j x from fun j y hj hy => by
                by_cases e : j = k
                · subst e
                  have := Hhx.out
                  rw [hy] at this
                  obtain rfl := Option.some.inj this
                  exact ⟨H1.out, H2.out, rfl, rfl, by have h := HM.out; rwa [show m = j by omega] at h⟩
                · exact HA.out j y (by omega) hy)
              have HB5 := Lib.hid (HB2.out.trans (HBm.out.mono hsz2))
              clear hB
              go_wp2
              go_roundw
              case rel => exact ⟨k + 1, by omega, by go_num, HS, HB5.out⟩
              case measure => simp [intOf]; omega
    · have hd1 : decide ((k : Int) < (P.length : Int)) = false := decide_eq_false (by omega)
      by_cases n6 : P.length ≤ 4
      · have hd4 : decide ((P.length : Int) ≤ 4) = true := decide_eq_true (by omega)
        have HY := Lib.hid (show PairsR P from ⟨n6, fun i x hx => HA.out i x (by have := el_lt hx; omega) hx⟩)
        clear hB
        go_wp2
        go_ret
        exact resB_yes HY.out HB.out
      · have hd4 : decide ((P.length : Int) ≤ 4) = false := decide_eq_false (by omega)
        have HN := Lib.hid (show ¬ PairsR P from fun h => n6 h.1)
        clear hB
        go_wp2
        go_ret
        exact resB_no HN.out HB.out
end Go.Proofs.YtphklknaagjmpaaDoor.RepC
end
section
namespace Go.Proofs.YtphklknaagjmpaaDoor.RepC
open Go.RowKit RowC ValC SpanC KeptC
set_option linter.unusedVariables false
set_option linter.unusedSimpArgs false
theorem gmvS {α : Type} {E : Rp α} {L : List α} {a : Option Addr} {c : Nat} {w w' : World} (h : RdSl E w w.heap.size L a c) (hb : Below w.heap.size w w') (hE : Ok E := by first | exact R_Letter_ok | exact I_ok) : RdSl E w' w'.heap.size L a c := (h.below hE hb).more hE hb.size
theorem is_at (n lo hi : Int) {b : Bool} (hb : isB n lo hi = b) (w : World) : Calls Tryd.prog 26 #[.int .i64 n, .int .i64 lo, .int .i64 hi] w fun e w' => e = .returned (.bool b) ∧ Below w.heap.size w w' :=
  (is_spec n lo hi w).mono fun e w' ⟨h1, h2⟩ => ⟨by rw [h1, hb], by rw [← h2]; exact Below.refl _ _⟩
theorem pair_at {P : List D_Letter} {a0 : Option Addr} {c0 : Nat} {a1 a2 : Option Addr} {n1 d1 n2 d2 : Nat} {u n f0 f1 t0 t1 : Int} {W : World} (hP : RdSl R_Letter W W.heap.size P a0 c0) {b : Bool} (hb : b = true ↔ HasCh P (f0, f1) (t0, t1)) :
    Calls Tryd.prog 27 #[.agg #[.slice a0 P.length c0, .slice a1 n1 d1, .slice a2 n2 d2, .int .i64 u, .int .i64 n], .agg #[.int .i64 f0, .int .i64 f1], .agg #[.int .i64 t0, .int .i64 t1]] W fun e w' => e = .returned (.bool b) ∧ Below W.heap.size W w' :=
  (pair_spec hP).mono fun e w' h => by
    obtain ⟨q, rfl, hq, hbl⟩ := resB_elim h
    exact ⟨by rw [show q = b from Bool.eq_iff_iff.2 (hq.trans hb.symm)], hbl⟩
set_option maxRecDepth 100000 in
set_option maxHeartbeats 4000000 in
theorem letters_spec {P L : List D_Letter} {a0 la : Option Addr} {c0 lc : Nat} {a1 a2 : Option Addr} {n1 d1 n2 d2 : Nat} {u n most : Int} {W : World} (hP : RdSl R_Letter W W.heap.size P a0 c0) (hL : RdSl R_Letter W W.heap.size L la lc) :
    Calls Tryd.prog 40 #[.agg #[.slice a0 P.length c0, .slice a1 n1 d1, .slice a2 n2 d2, .int .i64 u, .int .i64 n], .slice la L.length lc, .int .i64 most] W (ResB (LettersR P n L most) W) := by
  have hn : L.length ≤ 9223372036854775807 := by have h1 := hL.1; have h2 := hL.2.1; unfold maxLen at h2; omega
  have HP := Lib.hid hP
  have H := Lib.hid hL
  clear hP hL
  obtain ⟨hb0, hp0⟩ := bx1 W #[.slice a0 P.length c0, .slice a1 n1 d1, .slice a2 n2 d2, .int .i64 u, .int .i64 n] 25
  have HB0 := Lib.hid hb0
  have HD0 := Lib.hid hp0
  clear hb0 hp0
  by_cases hm : (L.length : Int) ≤ most
  rotate_left
  · have hd : decide ((L.length : Int) > most) = true := decide_eq_true (by omega)
    have HN := Lib.hid (show ¬ LettersR P n L most from fun h => hm h.1)
    go_enter Tryd.func40, Tryd.ntmps40
    go_wp2
    go_ret
    exact resB_no HN.out HB0.out
  have HM := Lib.hid hm
  have hd : decide ((L.length : Int) > most) = false := decide_eq_false (by omega)
  clear hm
  go_enter Tryd.func40, Tryd.ntmps40
  go_wp2
  go_loopw [7] (fun i wr => ∃ k : Nat, k ≤ L.length ∧ i = .int .i64 k ∧ Hid (∀ (j : Nat) (x : D_Letter), j < k → L[j]? = some x → LetOk P n L j x) ∧ Below W.heap.size W wr ∧ Hid (Blk wr (W.heap.size) 25 #[.slice a0 P.length c0, .slice a1 n1 d1, .slice a2 n2 d2, .int .i64 u, .int .i64 n])) (fun i _ => L.length - (intOf i).toNat)
  case atStart => exact ⟨0, Nat.zero_le _, rfl, Lib.hid fun j x h => absurd h (Nat.not_lt_zero _), HB0.out, HD0⟩
  case round =>
    obtain ⟨k, hk, rfl, HA, hB, HD⟩ := hrel
    have HB := Lib.hid hB
    have hsz := hB.size
    by_cases hlt : k < L.length
    · obtain ⟨⟨⟨x0, x1⟩, ⟨x2, x3⟩, x4, x5⟩, hx⟩ := el_some hlt
      have Hhx := Lib.hid hx
      obtain ⟨g, o, us, rfl, hgg, hu, hr⟩ := (H.out.below R_Letter_ok hB).at_ hx
      obtain rfl := rd_Letter hr
      have e0 : wr.cell? ⟨g, o + k * 6, none⟩ = some (.int .i64 x0) := by simpa [size_LetterS, Nat.add_assoc] using hu 0 _ rfl
      have e1 : wr.cell? ⟨g, o + k * 6 + 1, none⟩ = some (.int .i64 x1) := by simpa [size_LetterS, Nat.add_assoc] using hu 1 _ rfl
      have e2 : wr.cell? ⟨g, o + k * 6 + 2, none⟩ = some (.int .i64 x2) := by simpa [size_LetterS, Nat.add_assoc] using hu 2 _ rfl
      have e3 : wr.cell? ⟨g, o + k * 6 + 3, none⟩ = some (.int .i64 x3) := by simpa [size_LetterS, Nat.add_assoc] using hu 3 _ rfl
      have e4 : wr.cell? ⟨g, o + k * 6 + 4, none⟩ = some (.int .i64 x4) := by simpa [size_LetterS, Nat.add_assoc] using hu 4 _ rfl
      have e5 : wr.cell? ⟨g, o + k * 6 + 5, none⟩ = some (.int .i64 x5) := by simpa [size_LetterS, Nat.add_assoc] using hu 5 _ rfl
      have hi0 : (0 : Int) ≤ (k : Int) := Int.natCast_nonneg _
      have hi1 : (k : Int) < (L.length : Int) := by omega
      clear hB hx hu hr
      obtain ⟨b2, h2⟩ : ∃ b, isB x4 0 n = b := ⟨_, rfl⟩
      obtain ⟨b3, h3⟩ : ∃ b, isB x5 0 1000000 = b := ⟨_, rfl⟩
      have H2 := Lib.hid h2
      have H3 := Lib.hid h3
      clear h2 h3
      have hrp := HP.out.below R_Letter_ok HB.out
      have HX0 := Lib.hid (show Below wr.heap.size wr (wr.alloc (.cells #[.int .i64 x0, .int .i64 x1, .int .i64 x2, .int .i64 x3, .int .i64 x4, .int .i64 x5] 48)) from (Below.refl _ _).alloc (Nat.le_refl _) _)
      have HXB := Lib.hid (Blk.new wr 48 #[.int .i64 x0, .int .i64 x1, .int .i64 x2, .int .i64 x3, .int .i64 x4, .int .i64 x5])
      have HDX := Lib.hid (HD.out.call HX0.out)
      have HPX := Lib.hid (gmvS (hrp.more R_Letter_ok hsz) HX0.out)
      have HBX := Lib.hid (HB.out.trans (HX0.out.mono hsz))
      have hgl : g < (wr.alloc (.cells #[.int .i64 x0, .int .i64 x1, .int .i64 x2, .int .i64 x3, .int .i64 x4, .int .i64 x5] 48)).heap.size := Nat.lt_of_lt_of_le (Nat.lt_of_lt_of_le hgg hsz) HX0.out.size
      have hgw : g < wr.heap.size := Nat.lt_of_lt_of_le hgg hsz
      have HO : Hid (∀ y, 0 < k → L[k - 1]? = some y → ∃ us, CellsAt wr g (o + (k - 1) * R_Letter.size) us ∧ R_Letter.rd wr wr.heap.size y us) := Lib.hid fun y hk0 hy => by
        obtain ⟨g', o', us, h1, _, h2, h3⟩ := (H.out.below R_Letter_ok HB.out).at_ hy
        cases h1
        exact ⟨us, h2, R_Letter_ok.rd_more h3 hsz⟩
      clear hrp
      go_wp2_with fail
      obtain ⟨wx, hwx⟩ : ∃ w, w = wr.alloc (.cells #[.int .i64 x0, .int .i64 x1, .int .i64 x2, .int .i64 x3, .int .i64 x4, .int .i64 x5] 48) := ⟨_, rfl⟩
      rw [← hwx] at HXB HDX HPX HBX hgl HX0
      rw [← hwx]
      clear hwx
      have HXX := HXB
      have HDD := HDX
      have HPP := HPX
      have HHB := HBX.out.size
      obtain ⟨q1, HQ⟩ : ∃ q : Bool, Hid (q = true ↔ HasCh P (x0, x1) (x2, x3)) := by
        by_cases h : HasCh P (x0, x1) (x2, x3)
        · exact ⟨true, Lib.hid (by simp [h])⟩
        · exact ⟨false, Lib.hid (by simp [h])⟩
      cases q1 with
      | false =>
        have HN := Lib.hid (show ¬ LettersR P n L most from fun h => by have h1 := h.2 k _ Hhx.out; exact absurd (HQ.out.2 h1.1) (by simp))
        refine wp_region_held_drew (S := (fun V => Below (wx).heap.size (wx) V)) (by kernel_rfl) ((Below.refl _ _).drew) (fun hHeld => ?_)
        refine tk 0 hHeld ?_ (hy := fun w hSw => by (try dsimp only at hSw); have k0 := (hSw.cell (p := ⟨W.heap.size, 0, none⟩) HDD.out.lt).trans (HDD.out.at_ 0 rfl); have k1 := (hSw.cell (p := ⟨W.heap.size, 1, none⟩) HDD.out.lt).trans (HDD.out.at_ 1 rfl); have k2 := (hSw.cell (p := ⟨W.heap.size, 2, none⟩) HDD.out.lt).trans (HDD.out.at_ 2 rfl); have k3 := (hSw.cell (p := ⟨W.heap.size, 3, none⟩) HDD.out.lt).trans (HDD.out.at_ 3 rfl); have k4 := (hSw.cell (p := ⟨W.heap.size, 4, none⟩) HDD.out.lt).trans (HDD.out.at_ 4 rfl); clear hSw; go_simp; try with_reducible rfl)
        refine tk 1 hHeld ?_
        refine tk 2 hHeld ?_ (hy := fun w hSw => by (try dsimp only at hSw); have k0 := (hSw.cell (p := ⟨wr.heap.size, 0, none⟩) HXX.out.lt).trans (HXX.out.at_ 0 rfl); have k1 := (hSw.cell (p := ⟨wr.heap.size, 1, none⟩) HXX.out.lt).trans (HXX.out.at_ 1 rfl); clear hSw; go_simp; try with_reducible rfl)
        refine tk 3 hHeld ?_
        refine tk 4 hHeld ?_ (hy := fun w hSw => by (try dsimp only at hSw); have k0 := (hSw.cell (p := ⟨wr.heap.size, 2, none⟩) HXX.out.lt).trans (HXX.out.at_ 2 rfl); have k1 := (hSw.cell (p := ⟨wr.heap.size, 3, none⟩) HXX.out.lt).trans (HXX.out.at_ 3 rfl); clear hSw; go_simp; try with_reducible rfl)
        refine rd1 5 (fun K hK => ?_)
        go_simp
        go_at_call 27
        refine (pair_at (gmvS HPP.out hHeld) HQ.out).mono ?_
        rintro e v1 ⟨rfl, hb⟩
        refine hK.out _ _ (hHeld.trans (hb.mono hHeld.size)) (fun hHeld => ?_)
        clear hK K hb
        refine tk 6 hHeld ?_
        refine tk 7 hHeld ?_
        refine tn 8 hHeld ?_
        refine tn 9 hHeld ?_
        refine tn 10 hHeld ?_
        refine tn 11 hHeld ?_
        refine tn 12 hHeld ?_
        refine tn 13 hHeld ?_
        refine tk 14 hHeld ?_
        refine tk 15 hHeld ?_
        refine tn 16 hHeld ?_
        refine tn 17 hHeld ?_
        refine tn 18 hHeld ?_
        refine tn 19 hHeld ?_
        refine tk 20 hHeld ?_
        refine tk 21 hHeld ?_
        refine tn 22 hHeld ?_
        refine tn 23 hHeld ?_
        refine tn 24 hHeld ?_
        refine tn 25 hHeld ?_
        refine tn 26 hHeld ?_
        refine tn 27 hHeld ?_
        refine tn 28 hHeld ?_
        refine tn 29 hHeld ?_
        refine tn 30 hHeld ?_
        refine tn 31 hHeld ?_
        refine tn 32 hHeld ?_
        refine tn 33 hHeld ?_
        refine tn 34 hHeld ?_
        refine tk 35 hHeld ?_
        refine rd0 ?_
        have HF := Lib.hid hHeld
        clear hHeld
        have HB3 := Lib.hid (HBX.out.trans (HF.out.mono HHB))
        clear HF
        go_wp2
        go_ret
        exact resB_no HN.out HB3.out
      | true =>
        cases b2 with
        | false =>
          have HN := Lib.hid (show ¬ LettersR P n L most from fun h => by have h1 := h.2 k _ Hhx.out; have h2 := h1.2.1; rw [show isB x4 0 n = false from H2.out] at h2; cases h2)
          refine wp_region_held_drew (S := (fun V => Below (wx).heap.size (wx) V)) (by kernel_rfl) ((Below.refl _ _).drew) (fun hHeld => ?_)
          refine tk 0 hHeld ?_ (hy := fun w hSw => by (try dsimp only at hSw); have k0 := (hSw.cell (p := ⟨W.heap.size, 0, none⟩) HDD.out.lt).trans (HDD.out.at_ 0 rfl); have k1 := (hSw.cell (p := ⟨W.heap.size, 1, none⟩) HDD.out.lt).trans (HDD.out.at_ 1 rfl); have k2 := (hSw.cell (p := ⟨W.heap.size, 2, none⟩) HDD.out.lt).trans (HDD.out.at_ 2 rfl); have k3 := (hSw.cell (p := ⟨W.heap.size, 3, none⟩) HDD.out.lt).trans (HDD.out.at_ 3 rfl); have k4 := (hSw.cell (p := ⟨W.heap.size, 4, none⟩) HDD.out.lt).trans (HDD.out.at_ 4 rfl); clear hSw; go_simp; try with_reducible rfl)
          refine tk 1 hHeld ?_
          refine tk 2 hHeld ?_ (hy := fun w hSw => by (try dsimp only at hSw); have k0 := (hSw.cell (p := ⟨wr.heap.size, 0, none⟩) HXX.out.lt).trans (HXX.out.at_ 0 rfl); have k1 := (hSw.cell (p := ⟨wr.heap.size, 1, none⟩) HXX.out.lt).trans (HXX.out.at_ 1 rfl); clear hSw; go_simp; try with_reducible rfl)
          refine tk 3 hHeld ?_
          refine tk 4 hHeld ?_ (hy := fun w hSw => by (try dsimp only at hSw); have k0 := (hSw.cell (p := ⟨wr.heap.size, 2, none⟩) HXX.out.lt).trans (HXX.out.at_ 2 rfl); have k1 := (hSw.cell (p := ⟨wr.heap.size, 3, none⟩) HXX.out.lt).trans (HXX.out.at_ 3 rfl); clear hSw; go_simp; try with_reducible rfl)
          refine rd1 5 (fun K hK => ?_)
          go_simp
          go_at_call 27
          refine (pair_at (gmvS HPP.out hHeld) HQ.out).mono ?_
          rintro e v1 ⟨rfl, hb⟩
          refine hK.out _ _ (hHeld.trans (hb.mono hHeld.size)) (fun hHeld => ?_)
          clear hK K hb
          refine tk 6 hHeld ?_
          refine tk 7 hHeld ?_
          refine tk 8 hHeld ?_
          refine tk 9 hHeld ?_ (hy := fun w hSw => by (try dsimp only at hSw); have k0 := (hSw.cell (p := ⟨wr.heap.size, 4, none⟩) HXX.out.lt).trans (HXX.out.at_ 4 rfl); clear hSw; go_simp; try with_reducible rfl)
          refine tk 10 hHeld ?_
          refine tk 11 hHeld ?_ (hy := fun w hSw => by (try dsimp only at hSw); have k0 := (hSw.cell (p := ⟨W.heap.size, 4, none⟩) HDD.out.lt).trans (HDD.out.at_ 4 rfl); clear hSw; go_simp; try with_reducible rfl)
          refine rd1 12 (fun K hK => ?_)
          go_simp
          go_at_call 26
          refine (is_at x4 0 n H2.out _).mono ?_
          rintro e v2 ⟨rfl, hb⟩
          refine hK.out _ _ (hHeld.trans (hb.mono hHeld.size)) (fun hHeld => ?_)
          clear hK K hb
          refine tk 13 hHeld ?_
          refine tk 14 hHeld ?_
          refine tk 15 hHeld ?_
          refine tn 16 hHeld ?_
          refine tn 17 hHeld ?_
          refine tn 18 hHeld ?_
          refine tn 19 hHeld ?_
          refine tk 20 hHeld ?_
          refine tk 21 hHeld ?_
          refine tn 22 hHeld ?_
          refine tn 23 hHeld ?_
          refine tn 24 hHeld ?_
          refine tn 25 hHeld ?_
          refine tn 26 hHeld ?_
          refine tn 27 hHeld ?_
          refine tn 28 hHeld ?_
          refine tn 29 hHeld ?_
          refine tn 30 hHeld ?_
          refine tn 31 hHeld ?_
          refine tn 32 hHeld ?_
          refine tn 33 hHeld ?_
          refine tn 34 hHeld ?_
          refine tk 35 hHeld ?_
          refine rd0 ?_
          have HF := Lib.hid hHeld
          clear hHeld
          have HB3 := Lib.hid (HBX.out.trans (HF.out.mono HHB))
          clear HF
          go_wp2
          go_ret
          exact resB_no HN.out HB3.out
        | true =>
          cases b3 with
          | false =>
            have HN := Lib.hid (show ¬ LettersR P n L most from fun h => by have h1 := h.2 k _ Hhx.out; have h2 := h1.2.2.1; rw [show isB x5 0 1000000 = false from H3.out] at h2; cases h2)
            refine wp_region_held_drew (S := (fun V => Below (wx).heap.size (wx) V)) (by kernel_rfl) ((Below.refl _ _).drew) (fun hHeld => ?_)
            refine tk 0 hHeld ?_ (hy := fun w hSw => by (try dsimp only at hSw); have k0 := (hSw.cell (p := ⟨W.heap.size, 0, none⟩) HDD.out.lt).trans (HDD.out.at_ 0 rfl); have k1 := (hSw.cell (p := ⟨W.heap.size, 1, none⟩) HDD.out.lt).trans (HDD.out.at_ 1 rfl); have k2 := (hSw.cell (p := ⟨W.heap.size, 2, none⟩) HDD.out.lt).trans (HDD.out.at_ 2 rfl); have k3 := (hSw.cell (p := ⟨W.heap.size, 3, none⟩) HDD.out.lt).trans (HDD.out.at_ 3 rfl); have k4 := (hSw.cell (p := ⟨W.heap.size, 4, none⟩) HDD.out.lt).trans (HDD.out.at_ 4 rfl); clear hSw; go_simp; try with_reducible rfl)
            refine tk 1 hHeld ?_
            refine tk 2 hHeld ?_ (hy := fun w hSw => by (try dsimp only at hSw); have k0 := (hSw.cell (p := ⟨wr.heap.size, 0, none⟩) HXX.out.lt).trans (HXX.out.at_ 0 rfl); have k1 := (hSw.cell (p := ⟨wr.heap.size, 1, none⟩) HXX.out.lt).trans (HXX.out.at_ 1 rfl); clear hSw; go_simp; try with_reducible rfl)
            refine tk 3 hHeld ?_
            refine tk 4 hHeld ?_ (hy := fun w hSw => by (try dsimp only at hSw); have k0 := (hSw.cell (p := ⟨wr.heap.size, 2, none⟩) HXX.out.lt).trans (HXX.out.at_ 2 rfl); have k1 := (hSw.cell (p := ⟨wr.heap.size, 3, none⟩) HXX.out.lt).trans (HXX.out.at_ 3 rfl); clear hSw; go_simp; try with_reducible rfl)
            refine rd1 5 (fun K hK => ?_)
            go_simp
            go_at_call 27
            refine (pair_at (gmvS HPP.out hHeld) HQ.out).mono ?_
            rintro e v1 ⟨rfl, hb⟩
            refine hK.out _ _ (hHeld.trans (hb.mono hHeld.size)) (fun hHeld => ?_)
            clear hK K hb
            refine tk 6 hHeld ?_
            refine tk 7 hHeld ?_
            refine tk 8 hHeld ?_
            refine tk 9 hHeld ?_ (hy := fun w hSw => by (try dsimp only at hSw); have k0 := (hSw.cell (p := ⟨wr.heap.size, 4, none⟩) HXX.out.lt).trans (HXX.out.at_ 4 rfl); clear hSw; go_simp; try with_reducible rfl)
            refine tk 10 hHeld ?_
            refine tk 11 hHeld ?_ (hy := fun w hSw => by (try dsimp only at hSw); have k0 := (hSw.cell (p := ⟨W.heap.size, 4, none⟩) HDD.out.lt).trans (HDD.out.at_ 4 rfl); clear hSw; go_simp; try with_reducible rfl)
            refine rd1 12 (fun K hK => ?_)
            go_simp
            go_at_call 26
            refine (is_at x4 0 n H2.out _).mono ?_
            rintro e v2 ⟨rfl, hb⟩
            refine hK.out _ _ (hHeld.trans (hb.mono hHeld.size)) (fun hHeld => ?_)
            clear hK K hb
            refine tk 13 hHeld ?_
            refine tk 14 hHeld ?_
            refine tk 15 hHeld ?_
            refine tk 16 hHeld ?_
            refine tk 17 hHeld ?_ (hy := fun w hSw => by (try dsimp only at hSw); have k0 := (hSw.cell (p := ⟨wr.heap.size, 5, none⟩) HXX.out.lt).trans (HXX.out.at_ 5 rfl); clear hSw; go_simp; try with_reducible rfl)
            refine rd1 18 (fun K hK => ?_)
            go_simp
            go_at_call 26
            refine (is_at x5 0 1000000 H3.out _).mono ?_
            rintro e v3 ⟨rfl, hb⟩
            refine hK.out _ _ (hHeld.trans (hb.mono hHeld.size)) (fun hHeld => ?_)
            clear hK K hb
            refine tk 19 hHeld ?_
            refine tk 20 hHeld ?_
            refine tk 21 hHeld ?_
            refine tn 22 hHeld ?_
            refine tn 23 hHeld ?_
            refine tn 24 hHeld ?_
            refine tn 25 hHeld ?_
            refine tn 26 hHeld ?_
            refine tn 27 hHeld ?_
            refine tn 28 hHeld ?_
            refine tn 29 hHeld ?_
            refine tn 30 hHeld ?_
            refine tn 31 hHeld ?_
            refine tn 32 hHeld ?_
            refine tn 33 hHeld ?_
            refine tn 34 hHeld ?_
            refine tk 35 hHeld ?_
            refine rd0 ?_
            have HF := Lib.hid hHeld
            clear hHeld
            have HB3 := Lib.hid (HBX.out.trans (HF.out.mono HHB))
            clear HF
            go_wp2
            go_ret
            exact resB_no HN.out HB3.out
          | true =>
            by_cases hk0 : 0 < k
            rotate_left
            · skip
              obtain rfl : k = 0 := by omega
              have HOK := Lib.hid (show ∀ y, 0 < 0 → L[0 - 1]? = some y → y.2.2.1 ≤ x4 from fun y h => absurd h (Nat.lt_irrefl _))
              have HS := Lib.hid (show ∀ (j : Nat) (x : D_Letter), j < 0 + 1 → L[j]? = some x → LetOk P n L j x from fun j y hj hy => by
                by_cases e : j = 0
                · subst e
                  have := Hhx.out
                  rw [hy] at this
                  obtain rfl := Option.some.inj this
                  exact ⟨HQ.out.1 rfl, H2.out, H3.out, HOK.out⟩
                · exact HA.out j y (by omega) hy)
              refine wp_region_held_drew (S := (fun V => Below (wx).heap.size (wx) V)) (by kernel_rfl) ((Below.refl _ _).drew) (fun hHeld => ?_)
              refine tk 0 hHeld ?_ (hy := fun w hSw => by (try dsimp only at hSw); have k0 := (hSw.cell (p := ⟨W.heap.size, 0, none⟩) HDD.out.lt).trans (HDD.out.at_ 0 rfl); have k1 := (hSw.cell (p := ⟨W.heap.size, 1, none⟩) HDD.out.lt).trans (HDD.out.at_ 1 rfl); have k2 := (hSw.cell (p := ⟨W.heap.size, 2, none⟩) HDD.out.lt).trans (HDD.out.at_ 2 rfl); have k3 := (hSw.cell (p := ⟨W.heap.size, 3, none⟩) HDD.out.lt).trans (HDD.out.at_ 3 rfl); have k4 := (hSw.cell (p := ⟨W.heap.size, 4, none⟩) HDD.out.lt).trans (HDD.out.at_ 4 rfl); clear hSw; go_simp; try with_reducible rfl)
              refine tk 1 hHeld ?_
              refine tk 2 hHeld ?_ (hy := fun w hSw => by (try dsimp only at hSw); have k0 := (hSw.cell (p := ⟨wr.heap.size, 0, none⟩) HXX.out.lt).trans (HXX.out.at_ 0 rfl); have k1 := (hSw.cell (p := ⟨wr.heap.size, 1, none⟩) HXX.out.lt).trans (HXX.out.at_ 1 rfl); clear hSw; go_simp; try with_reducible rfl)
              refine tk 3 hHeld ?_
              refine tk 4 hHeld ?_ (hy := fun w hSw => by (try dsimp only at hSw); have k0 := (hSw.cell (p := ⟨wr.heap.size, 2, none⟩) HXX.out.lt).trans (HXX.out.at_ 2 rfl); have k1 := (hSw.cell (p := ⟨wr.heap.size, 3, none⟩) HXX.out.lt).trans (HXX.out.at_ 3 rfl); clear hSw; go_simp; try with_reducible rfl)
              refine rd1 5 (fun K hK => ?_)
              go_simp
              go_at_call 27
              refine (pair_at (gmvS HPP.out hHeld) HQ.out).mono ?_
              rintro e v1 ⟨rfl, hb⟩
              refine hK.out _ _ (hHeld.trans (hb.mono hHeld.size)) (fun hHeld => ?_)
              clear hK K hb
              refine tk 6 hHeld ?_
              refine tk 7 hHeld ?_
              refine tk 8 hHeld ?_
              refine tk 9 hHeld ?_ (hy := fun w hSw => by (try dsimp only at hSw); have k0 := (hSw.cell (p := ⟨wr.heap.size, 4, none⟩) HXX.out.lt).trans (HXX.out.at_ 4 rfl); clear hSw; go_simp; try with_reducible rfl)
              refine tk 10 hHeld ?_
              refine tk 11 hHeld ?_ (hy := fun w hSw => by (try dsimp only at hSw); have k0 := (hSw.cell (p := ⟨W.heap.size, 4, none⟩) HDD.out.lt).trans (HDD.out.at_ 4 rfl); clear hSw; go_simp; try with_reducible rfl)
              refine rd1 12 (fun K hK => ?_)
              go_simp
              go_at_call 26
              refine (is_at x4 0 n H2.out _).mono ?_
              rintro e v2 ⟨rfl, hb⟩
              refine hK.out _ _ (hHeld.trans (hb.mono hHeld.size)) (fun hHeld => ?_)
              clear hK K hb
              refine tk 13 hHeld ?_
              refine tk 14 hHeld ?_
              refine tk 15 hHeld ?_
              refine tk 16 hHeld ?_
              refine tk 17 hHeld ?_ (hy := fun w hSw => by (try dsimp only at hSw); have k0 := (hSw.cell (p := ⟨wr.heap.size, 5, none⟩) HXX.out.lt).trans (HXX.out.at_ 5 rfl); clear hSw; go_simp; try with_reducible rfl)
              refine rd1 18 (fun K hK => ?_)
              go_simp
              go_at_call 26
              refine (is_at x5 0 1000000 H3.out _).mono ?_
              rintro e v3 ⟨rfl, hb⟩
              refine hK.out _ _ (hHeld.trans (hb.mono hHeld.size)) (fun hHeld => ?_)
              clear hK K hb
              refine tk 19 hHeld ?_
              refine tk 20 hHeld ?_
              refine tk 21 hHeld ?_
              refine tk 22 hHeld ?_
              refine tk 23 hHeld ?_
              refine tk 24 hHeld ?_
              refine tn 25 hHeld ?_
              refine tn 26 hHeld ?_
              refine tn 27 hHeld ?_
              refine tn 28 hHeld ?_
              refine tn 29 hHeld ?_
              refine tn 30 hHeld ?_
              refine tn 31 hHeld ?_
              refine tn 32 hHeld ?_
              refine tn 33 hHeld ?_
              refine tk 34 hHeld ?_
              refine tk 35 hHeld ?_
              refine rd0 ?_
              have HF := Lib.hid hHeld
              clear hHeld
              have HB3 := Lib.hid (HBX.out.trans (HF.out.mono HHB))
              have HD3 := Lib.hid (HDD.out.call HF.out)
              clear HF
              go_wp2
              go_roundw
              case rel => exact ⟨0 + 1, by omega, by go_num, HS, HB3.out, HD3⟩
              case measure => simp [intOf]; omega
            have hdk : decide ((k : Int) > 0) = true := decide_eq_true (by omega)
            obtain ⟨⟨⟨y0, y1⟩, ⟨y2, y3⟩, y4, y5⟩, hy⟩ := el_some (L := L) (k := k - 1) (by omega)
            obtain ⟨us, hu, hr⟩ := HO.out _ hk0 hy
            obtain rfl := rd_Letter hr
            have hkm : (k : Int) - 1 = ((k - 1 : Nat) : Int) := by omega
            have hkw : IntKind.i64.wrap ((k - 1 : Nat) : Int) = ((k - 1 : Nat) : Int) := IntWalk.i64_in _ (by omega)
            have hpv : wx.cell? ⟨g, o + (k - 1) * 6 + 4, none⟩ = some (.int .i64 y4) := (HX0.out.cell (p := ⟨g, _, none⟩) hgw).trans (by simpa [size_LetterS, Nat.add_assoc] using hu 4 _ rfl)
            have hkz : (0 : Int) ≤ ((k - 1 : Nat) : Int) := Int.natCast_nonneg _
            have hkl : ((k - 1 : Nat) : Int) < (L.length : Int) := by omega
            have HY1 := Lib.hid hy
            clear hu hr hy
            by_cases ho : y4 ≤ x4
            rotate_left
            · skip
              have hgo : decide (y4 > x4) = true := decide_eq_true (by omega)
              have HN := Lib.hid (show ¬ LettersR P n L most from fun h => by have h1 := h.2 k _ Hhx.out; have h2 : y4 ≤ x4 := h1.2.2.2 _ hk0 HY1.out; omega)
              refine wp_region_held_drew (S := (fun V => Below (wx).heap.size (wx) V)) (by kernel_rfl) ((Below.refl _ _).drew) (fun hHeld => ?_)
              refine tk 0 hHeld ?_ (hy := fun w hSw => by (try dsimp only at hSw); have k0 := (hSw.cell (p := ⟨W.heap.size, 0, none⟩) HDD.out.lt).trans (HDD.out.at_ 0 rfl); have k1 := (hSw.cell (p := ⟨W.heap.size, 1, none⟩) HDD.out.lt).trans (HDD.out.at_ 1 rfl); have k2 := (hSw.cell (p := ⟨W.heap.size, 2, none⟩) HDD.out.lt).trans (HDD.out.at_ 2 rfl); have k3 := (hSw.cell (p := ⟨W.heap.size, 3, none⟩) HDD.out.lt).trans (HDD.out.at_ 3 rfl); have k4 := (hSw.cell (p := ⟨W.heap.size, 4, none⟩) HDD.out.lt).trans (HDD.out.at_ 4 rfl); clear hSw; go_simp; try with_reducible rfl)
              refine tk 1 hHeld ?_
              refine tk 2 hHeld ?_ (hy := fun w hSw => by (try dsimp only at hSw); have k0 := (hSw.cell (p := ⟨wr.heap.size, 0, none⟩) HXX.out.lt).trans (HXX.out.at_ 0 rfl); have k1 := (hSw.cell (p := ⟨wr.heap.size, 1, none⟩) HXX.out.lt).trans (HXX.out.at_ 1 rfl); clear hSw; go_simp; try with_reducible rfl)
              refine tk 3 hHeld ?_
              refine tk 4 hHeld ?_ (hy := fun w hSw => by (try dsimp only at hSw); have k0 := (hSw.cell (p := ⟨wr.heap.size, 2, none⟩) HXX.out.lt).trans (HXX.out.at_ 2 rfl); have k1 := (hSw.cell (p := ⟨wr.heap.size, 3, none⟩) HXX.out.lt).trans (HXX.out.at_ 3 rfl); clear hSw; go_simp; try with_reducible rfl)
              refine rd1 5 (fun K hK => ?_)
              go_simp
              go_at_call 27
              refine (pair_at (gmvS HPP.out hHeld) HQ.out).mono ?_
              rintro e v1 ⟨rfl, hb⟩
              refine hK.out _ _ (hHeld.trans (hb.mono hHeld.size)) (fun hHeld => ?_)
              clear hK K hb
              refine tk 6 hHeld ?_
              refine tk 7 hHeld ?_
              refine tk 8 hHeld ?_
              refine tk 9 hHeld ?_ (hy := fun w hSw => by (try dsimp only at hSw); have k0 := (hSw.cell (p := ⟨wr.heap.size, 4, none⟩) HXX.out.lt).trans (HXX.out.at_ 4 rfl); clear hSw; go_simp; try with_reducible rfl)
              refine tk 10 hHeld ?_
              refine tk 11 hHeld ?_ (hy := fun w hSw => by (try dsimp only at hSw); have k0 := (hSw.cell (p := ⟨W.heap.size, 4, none⟩) HDD.out.lt).trans (HDD.out.at_ 4 rfl); clear hSw; go_simp; try with_reducible rfl)
              refine rd1 12 (fun K hK => ?_)
              go_simp
              go_at_call 26
              refine (is_at x4 0 n H2.out _).mono ?_
              rintro e v2 ⟨rfl, hb⟩
              refine hK.out _ _ (hHeld.trans (hb.mono hHeld.size)) (fun hHeld => ?_)
              clear hK K hb
              refine tk 13 hHeld ?_
              refine tk 14 hHeld ?_
              refine tk 15 hHeld ?_
              refine tk 16 hHeld ?_
              refine tk 17 hHeld ?_ (hy := fun w hSw => by (try dsimp only at hSw); have k0 := (hSw.cell (p := ⟨wr.heap.size, 5, none⟩) HXX.out.lt).trans (HXX.out.at_ 5 rfl); clear hSw; go_simp; try with_reducible rfl)
              refine rd1 18 (fun K hK => ?_)
              go_simp
              go_at_call 26
              refine (is_at x5 0 1000000 H3.out _).mono ?_
              rintro e v3 ⟨rfl, hb⟩
              refine hK.out _ _ (hHeld.trans (hb.mono hHeld.size)) (fun hHeld => ?_)
              clear hK K hb
              refine tk 19 hHeld ?_
              refine tk 20 hHeld ?_
              refine tk 21 hHeld ?_
              refine tk 22 hHeld ?_
              refine tk 23 hHeld ?_
              refine tk 24 hHeld ?_
              refine tk 25 hHeld ?_
              refine tk 26 hHeld ?_
              refine tk 27 hHeld ?_
              refine tk 28 hHeld ?_
              refine tk 29 hHeld ?_
              refine tk 30 hHeld ?_ (hy := fun w hSw => by (try dsimp only at hSw); have k0 := (hSw.cell (p := ⟨g, _, none⟩) hgl).trans hpv; clear hSw; go_simp; try with_reducible rfl)
              refine tk 31 hHeld ?_
              refine tk 32 hHeld ?_ (hy := fun w hSw => by (try dsimp only at hSw); have k0 := (hSw.cell (p := ⟨wr.heap.size, 4, none⟩) HXX.out.lt).trans (HXX.out.at_ 4 rfl); clear hSw; go_simp; try with_reducible rfl)
              refine tk 33 hHeld ?_
              refine tk 34 hHeld ?_
              refine tk 35 hHeld ?_
              refine rd0 ?_
              have HF := Lib.hid hHeld
              clear hHeld
              have HB3 := Lib.hid (HBX.out.trans (HF.out.mono HHB))
              clear HF
              go_wp2
              go_ret
              exact resB_no HN.out HB3.out
            have hgo : decide (y4 > x4) = false := decide_eq_false (by omega)
            have HOK := Lib.hid (show ∀ y, 0 < k → L[k - 1]? = some y → y.2.2.1 ≤ x4 from fun y _ hy => by have := HY1.out; rw [hy] at this; obtain rfl := Option.some.inj this; exact ho)
            have HS := Lib.hid (show ∀ (j : Nat) (x : D_Letter), j < k + 1 → L[j]? = some x → LetOk P n L j x from fun j y hj hy => by
              by_cases e : j = k
              · subst e
                have := Hhx.out
                rw [hy] at this
                obtain rfl := Option.some.inj this
                exact ⟨HQ.out.1 rfl, H2.out, H3.out, HOK.out⟩
              · exact HA.out j y (by omega) hy)
            refine wp_region_held_drew (S := (fun V => Below (wx).heap.size (wx) V)) (by kernel_rfl) ((Below.refl _ _).drew) (fun hHeld => ?_)
            refine tk 0 hHeld ?_ (hy := fun w hSw => by (try dsimp only at hSw); have k0 := (hSw.cell (p := ⟨W.heap.size, 0, none⟩) HDD.out.lt).trans (HDD.out.at_ 0 rfl); have k1 := (hSw.cell (p := ⟨W.heap.size, 1, none⟩) HDD.out.lt).trans (HDD.out.at_ 1 rfl); have k2 := (hSw.cell (p := ⟨W.heap.size, 2, none⟩) HDD.out.lt).trans (HDD.out.at_ 2 rfl); have k3 := (hSw.cell (p := ⟨W.heap.size, 3, none⟩) HDD.out.lt).trans (HDD.out.at_ 3 rfl); have k4 := (hSw.cell (p := ⟨W.heap.size, 4, none⟩) HDD.out.lt).trans (HDD.out.at_ 4 rfl); clear hSw; go_simp; try with_reducible rfl)
            refine tk 1 hHeld ?_
            refine tk 2 hHeld ?_ (hy := fun w hSw => by (try dsimp only at hSw); have k0 := (hSw.cell (p := ⟨wr.heap.size, 0, none⟩) HXX.out.lt).trans (HXX.out.at_ 0 rfl); have k1 := (hSw.cell (p := ⟨wr.heap.size, 1, none⟩) HXX.out.lt).trans (HXX.out.at_ 1 rfl); clear hSw; go_simp; try with_reducible rfl)
            refine tk 3 hHeld ?_
            refine tk 4 hHeld ?_ (hy := fun w hSw => by (try dsimp only at hSw); have k0 := (hSw.cell (p := ⟨wr.heap.size, 2, none⟩) HXX.out.lt).trans (HXX.out.at_ 2 rfl); have k1 := (hSw.cell (p := ⟨wr.heap.size, 3, none⟩) HXX.out.lt).trans (HXX.out.at_ 3 rfl); clear hSw; go_simp; try with_reducible rfl)
            refine rd1 5 (fun K hK => ?_)
            go_simp
            go_at_call 27
            refine (pair_at (gmvS HPP.out hHeld) HQ.out).mono ?_
            rintro e v1 ⟨rfl, hb⟩
            refine hK.out _ _ (hHeld.trans (hb.mono hHeld.size)) (fun hHeld => ?_)
            clear hK K hb
            refine tk 6 hHeld ?_
            refine tk 7 hHeld ?_
            refine tk 8 hHeld ?_
            refine tk 9 hHeld ?_ (hy := fun w hSw => by (try dsimp only at hSw); have k0 := (hSw.cell (p := ⟨wr.heap.size, 4, none⟩) HXX.out.lt).trans (HXX.out.at_ 4 rfl); clear hSw; go_simp; try with_reducible rfl)
            refine tk 10 hHeld ?_
            refine tk 11 hHeld ?_ (hy := fun w hSw => by (try dsimp only at hSw); have k0 := (hSw.cell (p := ⟨W.heap.size, 4, none⟩) HDD.out.lt).trans (HDD.out.at_ 4 rfl); clear hSw; go_simp; try with_reducible rfl)
            refine rd1 12 (fun K hK => ?_)
            go_simp
            go_at_call 26
            refine (is_at x4 0 n H2.out _).mono ?_
            rintro e v2 ⟨rfl, hb⟩
            refine hK.out _ _ (hHeld.trans (hb.mono hHeld.size)) (fun hHeld => ?_)
            clear hK K hb
            refine tk 13 hHeld ?_
            refine tk 14 hHeld ?_
            refine tk 15 hHeld ?_
            refine tk 16 hHeld ?_
            refine tk 17 hHeld ?_ (hy := fun w hSw => by (try dsimp only at hSw); have k0 := (hSw.cell (p := ⟨wr.heap.size, 5, none⟩) HXX.out.lt).trans (HXX.out.at_ 5 rfl); clear hSw; go_simp; try with_reducible rfl)
            refine rd1 18 (fun K hK => ?_)
            go_simp
            go_at_call 26
            refine (is_at x5 0 1000000 H3.out _).mono ?_
            rintro e v3 ⟨rfl, hb⟩
            refine hK.out _ _ (hHeld.trans (hb.mono hHeld.size)) (fun hHeld => ?_)
            clear hK K hb
            refine tk 19 hHeld ?_
            refine tk 20 hHeld ?_
            refine tk 21 hHeld ?_
            refine tk 22 hHeld ?_
            refine tk 23 hHeld ?_
            refine tk 24 hHeld ?_
            refine tk 25 hHeld ?_
            refine tk 26 hHeld ?_
            refine tk 27 hHeld ?_
            refine tk 28 hHeld ?_
            refine tk 29 hHeld ?_
            refine tk 30 hHeld ?_ (hy := fun w hSw => by (try dsimp only at hSw); have k0 := (hSw.cell (p := ⟨g, _, none⟩) hgl).trans hpv; clear hSw; go_simp; try with_reducible rfl)
            refine tk 31 hHeld ?_
            refine tk 32 hHeld ?_ (hy := fun w hSw => by (try dsimp only at hSw); have k0 := (hSw.cell (p := ⟨wr.heap.size, 4, none⟩) HXX.out.lt).trans (HXX.out.at_ 4 rfl); clear hSw; go_simp; try with_reducible rfl)
            refine tk 33 hHeld ?_
            refine tk 34 hHeld ?_
            refine tk 35 hHeld ?_
            refine rd0 ?_
            have HF := Lib.hid hHeld
            clear hHeld
            have HB3 := Lib.hid (HBX.out.trans (HF.out.mono HHB))
            have HD3 := Lib.hid (HDD.out.call HF.out)
            clear HF
            go_wp2
            go_roundw
            case rel => exact ⟨k + 1, by omega, by go_num, HS, HB3.out, HD3⟩
            case measure => simp [intOf]; omega
    · have hd1 : decide ((k : Int) < (L.length : Int)) = false := decide_eq_false (by omega)
      have HY := Lib.hid (show LettersR P n L most from ⟨HM.out, fun i x hx => HA.out i x (by have := el_lt hx; omega) hx⟩)
      clear hB
      go_wp2
      go_ret
      exact resB_yes HY.out HB.out
end Go.Proofs.YtphklknaagjmpaaDoor.RepC
end
section
namespace Go.Proofs.YtphklknaagjmpaaDoor.RepC
open Go.RowKit RowC ValC SpanC KeptC
set_option linter.unusedVariables false
set_option linter.unusedSimpArgs false
theorem now_at (n : Int) {b : Bool} (hb : isB n 0 999900 = b) (w : World) : Calls Tryd.prog 39 #[.int .i64 n] w fun e w' => e = .returned (.bool b) ∧ Below w.heap.size w w' := by
  subst hb
  go_enter Tryd.func39, Tryd.ntmps39
  go_wp2_with (go_at_call 26; refine (is_spec _ _ _ _).mono ?_; rintro e w' ⟨rfl, rfl⟩)
  go_ret
  exact ⟨rfl, Below.refl _ _⟩
theorem resB_at {p : Prop} {b : Bool} (hb : b = true ↔ p) {w : World} {e : Ending} {w' : World} (h : ResB p w e w') : e = .returned (.bool b) ∧ Below w.heap.size w w' := by
  obtain ⟨q, rfl, hq, hbl⟩ := resB_elim h
  exact ⟨by rw [show q = b from Bool.eq_iff_iff.2 (hq.trans hb.symm)], hbl⟩
theorem nameB (p : Prop) : ∃ b : Bool, Hid (b = true ↔ p) := by
  by_cases h : p
  · exact ⟨true, Lib.hid (by simp [h])⟩
  · exact ⟨false, Lib.hid (by simp [h])⟩
set_option maxRecDepth 100000 in
set_option maxHeartbeats 4000000 in
theorem box_spec {P B A : List D_Letter} {pa ba aa : Option Addr} {pc bc ac : Nat} {u n : Int} {W : World} (hP : RdSl R_Letter W W.heap.size P pa pc) (hB : RdSl R_Letter W W.heap.size B ba bc) (hA : RdSl R_Letter W W.heap.size A aa ac) :
    Calls Tryd.prog 16 #[.agg #[.slice pa P.length pc, .slice ba B.length bc, .slice aa A.length ac, .int .i64 u, .int .i64 n]] W (ResB (DeskR P B A u n) W) := by
  have hnP : P.length ≤ 9223372036854775807 := by have h1 := hP.1; have h2 := hP.2.1; unfold maxLen at h2; omega
  have hnB : B.length ≤ 9223372036854775807 := by have h1 := hB.1; have h2 := hB.2.1; unfold maxLen at h2; omega
  have hnA : A.length ≤ 9223372036854775807 := by have h1 := hA.1; have h2 := hA.2.1; unfold maxLen at h2; omega
  have HP0 := Lib.hid hP
  have HB0' := Lib.hid hB
  have HA0' := Lib.hid hA
  obtain ⟨hb0, hp0⟩ := bx1 W #[.slice pa P.length pc, .slice ba B.length bc, .slice aa A.length ac, .int .i64 u, .int .i64 n] 25
  have HB0 := Lib.hid hb0
  have HD0 := Lib.hid hp0
  have HPw := Lib.hid (gmvS hP hb0)
  have HBw := Lib.hid (gmvS hB hb0)
  have HAw := Lib.hid (gmvS hA hb0)
  clear hb0 hp0 hP hB hA
  by_cases h4 : P.length ≤ 4
  rotate_left
  · have hd : decide ((P.length : Int) > 4) = true := decide_eq_true (by omega)
    have HN := Lib.hid (show ¬ DeskR P B A u n from fun h => h4 h.1.1)
    go_enter Tryd.func16, Tryd.ntmps16
    go_wp2
    go_ret
    exact resB_no HN.out HB0.out
  have hd : decide ((P.length : Int) > 4) = false := decide_eq_false (by omega)
  obtain ⟨q1, Q1⟩ := nameB (PairsR P)
  obtain ⟨q2, Q2⟩ : ∃ b, Hid (isB n 0 999900 = b) := ⟨_, Lib.hid rfl⟩
  obtain ⟨q3, Q3⟩ := nameB (LettersR P n B 6)
  obtain ⟨q4, Q4⟩ := nameB (LettersR P n A 20)
  obtain ⟨q5, Q5⟩ : ∃ b, Hid (isB u 0 2 = b) := ⟨_, Lib.hid rfl⟩
  go_enter Tryd.func16, Tryd.ntmps16
  obtain ⟨W1, hW1⟩ : ∃ w, w = W.alloc (.cells #[.slice pa P.length pc, .slice ba B.length bc, .slice aa A.length ac, .int .i64 u, .int .i64 n] 25) := ⟨_, rfl⟩
  rw [← hW1] at HB0 HD0 HPw HBw HAw
  have hz0 := HB0.out.size
  go_wp2_with fail
  rw [← hW1]
  clear hW1
  refine ((pairs_spec HPw.out).mono (fun _ _ => resB_at Q1.out)).mono ?_
  rintro e w1 ⟨rfl, hb⟩
  have HB1 := Lib.hid (HB0.out.trans (hb.mono hz0))
  have hz1 := HB1.out.size
  have HD1 := Lib.hid (HD0.out.call hb)
  replace HPw := Lib.hid (gmvS HPw.out hb)
  replace HBw := Lib.hid (gmvS HBw.out hb)
  replace HAw := Lib.hid (gmvS HAw.out hb)
  have d1_0 := HD1.out.at_ 0 rfl
  have d1_1 := HD1.out.at_ 1 rfl
  have d1_2 := HD1.out.at_ 2 rfl
  have d1_3 := HD1.out.at_ 3 rfl
  have d1_4 := HD1.out.at_ 4 rfl
  clear hb
  cases q1 with
  | false =>
    have HN := Lib.hid (show ¬ DeskR P B A u n from fun h => by have := Q1.out.2 h.1; cases this)
    go_wp2
    go_ret
    exact resB_no HN.out HB1.out
  | true =>
    go_wp2_with fail
    refine (now_at n Q2.out _).mono ?_
    rintro e w2 ⟨rfl, hb⟩
    have HB2 := Lib.hid (HB1.out.trans (hb.mono hz1))
    have hz2 := HB2.out.size
    have HD2 := Lib.hid (HD1.out.call hb)
    replace HPw := Lib.hid (gmvS HPw.out hb)
    replace HBw := Lib.hid (gmvS HBw.out hb)
    replace HAw := Lib.hid (gmvS HAw.out hb)
    have d2_0 := HD2.out.at_ 0 rfl
    have d2_1 := HD2.out.at_ 1 rfl
    have d2_2 := HD2.out.at_ 2 rfl
    have d2_3 := HD2.out.at_ 3 rfl
    have d2_4 := HD2.out.at_ 4 rfl
    clear hb
    cases q2 with
    | false =>
      have HN := Lib.hid (show ¬ DeskR P B A u n from fun h => by have h2 := h.2.1; rw [Q2.out] at h2; cases h2)
      go_wp2
      go_ret
      exact resB_no HN.out HB2.out
    | true =>
      go_wp2_with fail
      refine ((letters_spec HPw.out HBw.out).mono (fun _ _ => resB_at Q3.out)).mono ?_
      rintro e w3 ⟨rfl, hb⟩
      have HB3 := Lib.hid (HB2.out.trans (hb.mono hz2))
      have hz3 := HB3.out.size
      have HD3 := Lib.hid (HD2.out.call hb)
      replace HPw := Lib.hid (gmvS HPw.out hb)
      replace HBw := Lib.hid (gmvS HBw.out hb)
      replace HAw := Lib.hid (gmvS HAw.out hb)
      have d3_0 := HD3.out.at_ 0 rfl
      have d3_1 := HD3.out.at_ 1 rfl
      have d3_2 := HD3.out.at_ 2 rfl
      have d3_3 := HD3.out.at_ 3 rfl
      have d3_4 := HD3.out.at_ 4 rfl
      clear hb
      cases q3 with
      | false =>
        have HN := Lib.hid (show ¬ DeskR P B A u n from fun h => by have := Q3.out.2 h.2.2.1; cases this)
        go_wp2
        go_ret
        exact resB_no HN.out HB3.out
      | true =>
        go_wp2_with fail
        refine ((letters_spec HPw.out HAw.out).mono (fun _ _ => resB_at Q4.out)).mono ?_
        rintro e w4 ⟨rfl, hb⟩
        have HB4 := Lib.hid (HB3.out.trans (hb.mono hz3))
        have hz4 := HB4.out.size
        have HD4 := Lib.hid (HD3.out.call hb)
        replace HPw := Lib.hid (gmvS HPw.out hb)
        replace HBw := Lib.hid (gmvS HBw.out hb)
        replace HAw := Lib.hid (gmvS HAw.out hb)
        have d4_0 := HD4.out.at_ 0 rfl
        have d4_1 := HD4.out.at_ 1 rfl
        have d4_2 := HD4.out.at_ 2 rfl
        have d4_3 := HD4.out.at_ 3 rfl
        have d4_4 := HD4.out.at_ 4 rfl
        clear hb
        cases q4 with
        | false =>
          have HN := Lib.hid (show ¬ DeskR P B A u n from fun h => by have := Q4.out.2 h.2.2.2.1; cases this)
          go_wp2
          go_ret
          exact resB_no HN.out HB4.out
        | true =>
          go_wp2_with fail
          refine (is_at u 0 2 Q5.out _).mono ?_
          rintro e w5 ⟨rfl, hb⟩
          have HB5 := Lib.hid (HB4.out.trans (hb.mono hz4))
          have hz5 := HB5.out.size
          have HD5 := Lib.hid (HD4.out.call hb)
          replace HPw := Lib.hid (gmvS HPw.out hb)
          replace HBw := Lib.hid (gmvS HBw.out hb)
          replace HAw := Lib.hid (gmvS HAw.out hb)
          have d5_0 := HD5.out.at_ 0 rfl
          have d5_1 := HD5.out.at_ 1 rfl
          have d5_2 := HD5.out.at_ 2 rfl
          have d5_3 := HD5.out.at_ 3 rfl
          have d5_4 := HD5.out.at_ 4 rfl
          clear hb
          cases q5 with
          | false =>
            have HN := Lib.hid (show ¬ DeskR P B A u n from fun h => by have h2 := h.2.2.2.2.1; rw [Q5.out] at h2; cases h2)
            go_wp2
            go_ret
            exact resB_no HN.out HB5.out
          | true =>
            go_wp2
            go_loopw [3, 4] (fun c i wr => ∃ k : Nat, k ≤ A.length ∧ i = .int .i64 k ∧ c = .int .i64 (cntAt n (A.take k) : Nat) ∧ Below W.heap.size W wr ∧ Hid (Blk wr (W.heap.size) 25 #[.slice pa P.length pc, .slice ba B.length bc, .slice aa A.length ac, .int .i64 u, .int .i64 n])) (fun _ i _ => A.length - (intOf i).toNat)
            case atStart => exact ⟨0, Nat.zero_le _, rfl, rfl, HB5.out, HD5⟩
            case round =>
              obtain ⟨k, hk, rfl, rfl, hB, HD⟩ := hrel
              have HB := Lib.hid hB
              have hsz := hB.size
              have r0 := HD.out.at_ 0 rfl
              have r1 := HD.out.at_ 1 rfl
              have r2 := HD.out.at_ 2 rfl
              have r3 := HD.out.at_ 3 rfl
              have r4 := HD.out.at_ 4 rfl
              by_cases hlt : k < A.length
              · obtain ⟨⟨⟨x0, x1⟩, ⟨x2, x3⟩, x4, x5⟩, hx⟩ := el_some hlt
                have Hhx := Lib.hid hx
                obtain ⟨g, o, us, rfl, hgg, hu, hr⟩ := (HA0'.out.below R_Letter_ok hB).at_ hx
                obtain rfl := rd_Letter hr
                have e0 : wr.cell? ⟨g, o + k * 6, none⟩ = some (.int .i64 x0) := by simpa [size_LetterS, Nat.add_assoc] using hu 0 _ rfl
                have e1 : wr.cell? ⟨g, o + k * 6 + 1, none⟩ = some (.int .i64 x1) := by simpa [size_LetterS, Nat.add_assoc] using hu 1 _ rfl
                have e2 : wr.cell? ⟨g, o + k * 6 + 2, none⟩ = some (.int .i64 x2) := by simpa [size_LetterS, Nat.add_assoc] using hu 2 _ rfl
                have e3 : wr.cell? ⟨g, o + k * 6 + 3, none⟩ = some (.int .i64 x3) := by simpa [size_LetterS, Nat.add_assoc] using hu 3 _ rfl
                have e4 : wr.cell? ⟨g, o + k * 6 + 4, none⟩ = some (.int .i64 x4) := by simpa [size_LetterS, Nat.add_assoc] using hu 4 _ rfl
                have e5 : wr.cell? ⟨g, o + k * 6 + 5, none⟩ = some (.int .i64 x5) := by simpa [size_LetterS, Nat.add_assoc] using hu 5 _ rfl
                have hgl : g < wr.heap.size := Nat.lt_of_lt_of_le hgg hsz
                have hi0 : (0 : Int) ≤ (k : Int) := Int.natCast_nonneg _
                have hi1 : (k : Int) < (A.length : Int) := by omega
                have hcl := cntAt_le n (A.take k)
                have hcl2 : (A.take k).length ≤ k := by rw [List.length_take]; omega
                have HCT := Lib.hid (cntAt_take (n := n) Hhx.out)
                clear hB hx hu hr
                obtain ⟨m, hm⟩ : ∃ m : Nat, cntAt n (A.take k) = m := ⟨_, rfl⟩
                rw [hm] at hcl HCT ⊢
                clear hm
                by_cases hn4 : x4 = n
                · have hbe : (x4 == n) = true := beq_iff_eq.2 hn4
                  have HC := Lib.hid (show cntAt n (A.take (k + 1)) = m + 1 from by rw [HCT.out]; simp [hn4])
                  go_wp2_with fail
                  refine wp_region_held_drew (S := (fun V => Below (wr).heap.size (wr) V)) (by kernel_rfl) ((Below.refl _ _).drew) (fun hHeld => ?_)
                  refine tk 0 hHeld ?_
                  refine tk 1 hHeld ?_ (hy := fun w hSw => by (try dsimp only at hSw); have k0 := (hSw.cell (p := ⟨W.heap.size, 2, none⟩) HD.out.lt).trans (HD.out.at_ 2 rfl); clear hSw; go_simp; try with_reducible rfl)
                  refine tk 2 hHeld ?_
                  refine tk 3 hHeld ?_
                  refine tk 4 hHeld ?_
                  refine tk 5 hHeld ?_ (hy := fun w hSw => by (try dsimp only at hSw); have k0 := (hSw.cell (p := ⟨g, o + k * 6 + 4, none⟩) hgl).trans e4; clear hSw; go_simp; try with_reducible rfl)
                  refine tk 6 hHeld ?_
                  refine tk 7 hHeld ?_ (hy := fun w hSw => by (try dsimp only at hSw); have k0 := (hSw.cell (p := ⟨W.heap.size, 4, none⟩) HD.out.lt).trans (HD.out.at_ 4 rfl); clear hSw; go_simp; try with_reducible rfl)
                  refine tk 8 hHeld ?_
                  refine rd0 ?_
                  have HF := Lib.hid hHeld
                  clear hHeld
                  have HB3 := Lib.hid (HB.out.trans (HF.out.mono hsz))
                  have HD3 := Lib.hid (HD.out.call HF.out)
                  clear HF
                  go_wp2
                  go_roundw
                  case rel => exact ⟨k + 1, by omega, by go_num, by rw [HC.out]; go_num, HB3.out, HD3⟩
                  case measure => simp [intOf]; omega
                · have hbe : (x4 == n) = false := by simpa using hn4
                  have HC := Lib.hid (show cntAt n (A.take (k + 1)) = m from by rw [HCT.out]; simp [hn4])
                  go_wp2_with fail
                  refine wp_region_held_drew (S := (fun V => Below (wr).heap.size (wr) V)) (by kernel_rfl) ((Below.refl _ _).drew) (fun hHeld => ?_)
                  refine tk 0 hHeld ?_
                  refine tk 1 hHeld ?_ (hy := fun w hSw => by (try dsimp only at hSw); have k0 := (hSw.cell (p := ⟨W.heap.size, 2, none⟩) HD.out.lt).trans (HD.out.at_ 2 rfl); clear hSw; go_simp; try with_reducible rfl)
                  refine tk 2 hHeld ?_
                  refine tk 3 hHeld ?_
                  refine tk 4 hHeld ?_
                  refine tk 5 hHeld ?_ (hy := fun w hSw => by (try dsimp only at hSw); have k0 := (hSw.cell (p := ⟨g, o + k * 6 + 4, none⟩) hgl).trans e4; clear hSw; go_simp; try with_reducible rfl)
                  refine tk 6 hHeld ?_
                  refine tk 7 hHeld ?_ (hy := fun w hSw => by (try dsimp only at hSw); have k0 := (hSw.cell (p := ⟨W.heap.size, 4, none⟩) HD.out.lt).trans (HD.out.at_ 4 rfl); clear hSw; go_simp; try with_reducible rfl)
                  refine tk 8 hHeld ?_
                  refine rd0 ?_
                  have HF := Lib.hid hHeld
                  clear hHeld
                  have HB3 := Lib.hid (HB.out.trans (HF.out.mono hsz))
                  have HD3 := Lib.hid (HD.out.call HF.out)
                  clear HF
                  go_wp2
                  go_roundw
                  case rel => exact ⟨k + 1, by omega, by go_num, by rw [HC.out], HB3.out, HD3⟩
                  case measure => simp [intOf]; omega
              · obtain rfl : k = A.length := by omega
                have hd : decide ((A.length : Int) < (A.length : Int)) = false := decide_eq_false (by omega)
                have HCF := Lib.hid (show cntAt n (A.take A.length) = cntAt n A from by rw [List.take_length])
                obtain ⟨m, hm⟩ : ∃ m : Nat, cntAt n (A.take A.length) = m := ⟨_, rfl⟩
                have HM := Lib.hid (hm.symm.trans HCF.out)
                rw [hm]
                clear hB hm HCF
                go_wp2
                go_loopw [5] (fun i wr => ∃ k : Nat, k ≤ B.length ∧ i = .int .i64 k ∧ Hid (∀ (j : Nat) (x : D_Letter), j < k → B[j]? = some x → x ∈ A) ∧ Below W.heap.size W wr ∧ Hid (Blk wr (W.heap.size) 25 #[.slice pa P.length pc, .slice ba B.length bc, .slice aa A.length ac, .int .i64 u, .int .i64 n])) (fun i _ => B.length - (intOf i).toNat)
                case atStart => exact ⟨0, Nat.zero_le _, rfl, Lib.hid fun j x h => absurd h (Nat.not_lt_zero _), HB.out, HD⟩
                case round =>
                  obtain ⟨k, hk, rfl, HIN, hB, HD⟩ := hrel
                  have HB := Lib.hid hB
                  have hsz := hB.size
                  have r0 := HD.out.at_ 0 rfl
                  have r1 := HD.out.at_ 1 rfl
                  have r2 := HD.out.at_ 2 rfl
                  have r3 := HD.out.at_ 3 rfl
                  have r4 := HD.out.at_ 4 rfl
                  by_cases hlt : k < B.length
                  · obtain ⟨⟨⟨x0, x1⟩, ⟨x2, x3⟩, x4, x5⟩, hx⟩ := el_some hlt
                    have Hhx := Lib.hid hx
                    obtain ⟨g, o, us, rfl, hgg, hu, hr⟩ := (HB0'.out.below R_Letter_ok hB).at_ hx
                    obtain rfl := rd_Letter hr
                    have e0 : wr.cell? ⟨g, o + k * 6, none⟩ = some (.int .i64 x0) := by simpa [size_LetterS, Nat.add_assoc] using hu 0 _ rfl
                    have e1 : wr.cell? ⟨g, o + k * 6 + 1, none⟩ = some (.int .i64 x1) := by simpa [size_LetterS, Nat.add_assoc] using hu 1 _ rfl
                    have e2 : wr.cell? ⟨g, o + k * 6 + 2, none⟩ = some (.int .i64 x2) := by simpa [size_LetterS, Nat.add_assoc] using hu 2 _ rfl
                    have e3 : wr.cell? ⟨g, o + k * 6 + 3, none⟩ = some (.int .i64 x3) := by simpa [size_LetterS, Nat.add_assoc] using hu 3 _ rfl
                    have e4 : wr.cell? ⟨g, o + k * 6 + 4, none⟩ = some (.int .i64 x4) := by simpa [size_LetterS, Nat.add_assoc] using hu 4 _ rfl
                    have e5 : wr.cell? ⟨g, o + k * 6 + 5, none⟩ = some (.int .i64 x5) := by simpa [size_LetterS, Nat.add_assoc] using hu 5 _ rfl
                    have hgl : g < wr.heap.size := Nat.lt_of_lt_of_le hgg hsz
                    have hi0 : (0 : Int) ≤ (k : Int) := Int.natCast_nonneg _
                    have hi1 : (k : Int) < (B.length : Int) := by omega
                    clear hB hx hu hr
                    obtain ⟨wq, hwq⟩ : ∃ x, x = wr := ⟨_, rfl⟩
                    rw [← hwq]
                    rw [← hwq] at e0 e1 e2 e3 e4 e5 HB hsz HD r0 r1 r2 r3 r4 hgl
                    clear hwq
                    go_wp2
                    go_loopw [6, 7] (fun f i wr => ∃ m : Nat, ∃ b : Bool, m ≤ A.length ∧ i = .int .i64 m ∧ f = .bool b ∧ Hid (b = true ↔ ((x0, x1), (x2, x3), x4, x5) ∈ A.take m) ∧ Below wq.heap.size wq wr) (fun _ i _ => A.length - (intOf i).toNat)
                    case atStart => exact ⟨0, false, Nat.zero_le _, rfl, rfl, Lib.hid (by simp), Below.refl _ _⟩
                    case round =>
                      obtain ⟨m, b, hm, rfl, rfl, HIM, hB⟩ := hrel
                      have HBm := Lib.hid hB
                      have hszm := hB.size
                      have HDm := Lib.hid (HD.out.call hB)
                      have s0 := HDm.out.at_ 0 rfl
                      have s1 := HDm.out.at_ 1 rfl
                      have s2 := HDm.out.at_ 2 rfl
                      by_cases hmt : m < A.length
                      · have hj0 : (0 : Int) ≤ (m : Int) := Int.natCast_nonneg _
                        have hj1 : (m : Int) < (A.length : Int) := by omega
                        cases b with
                        | true =>
                          have HC := Lib.hid (show true = true ↔ ((x0, x1), (x2, x3), x4, x5) ∈ A.take (m + 1) from by
                            rw [List.take_add_one]
                            simp [HIM.out.1 rfl])
                          clear hB
                          go_wp2_with fail
                          refine wp_region_held_drew (S := (fun V => Below (wr).heap.size (wr) V)) (by kernel_rfl) ((Below.refl _ _).drew) (fun hHeld => ?_)
                          refine tk 0 hHeld ?_
                          refine tk 1 hHeld ?_
                          refine tn 2 hHeld ?_
                          refine tn 3 hHeld ?_
                          refine tn 4 hHeld ?_
                          refine tn 5 hHeld ?_
                          refine tn 6 hHeld ?_
                          refine tn 7 hHeld ?_
                          refine tn 8 hHeld ?_
                          refine tn 9 hHeld ?_
                          refine tn 10 hHeld ?_
                          refine tn 11 hHeld ?_
                          refine tn 12 hHeld ?_
                          refine tk 13 hHeld ?_
                          refine tk 14 hHeld ?_
                          refine rd0 ?_
                          have HF := Lib.hid hHeld
                          clear hHeld
                          have HB4 := Lib.hid (HBm.out.trans (HF.out.mono hszm))
                          clear HF
                          go_wp2
                          go_roundw
                          case rel => exact ⟨m + 1, true, by omega, by go_num, rfl, Lib.hid (by simpa using HC.out), HB4.out⟩
                          case measure => simp [intOf]; omega
                        | false =>
                          obtain ⟨⟨⟨y0, y1⟩, ⟨y2, y3⟩, y4, y5⟩, hy⟩ := el_some hmt
                          have Hhy := Lib.hid hy
                          obtain ⟨g2, o2, us, rfl, hgg2, hu, hr⟩ := (HA0'.out.below R_Letter_ok (HB.out.trans (hB.mono hsz))).at_ hy
                          obtain rfl := rd_Letter hr
                          have d0 : wr.cell? ⟨g2, o2 + m * 6, none⟩ = some (.int .i64 y0) := by simpa [size_LetterS, Nat.add_assoc] using hu 0 _ rfl
                          have d1 : wr.cell? ⟨g2, o2 + m * 6 + 1, none⟩ = some (.int .i64 y1) := by simpa [size_LetterS, Nat.add_assoc] using hu 1 _ rfl
                          have d2 : wr.cell? ⟨g2, o2 + m * 6 + 2, none⟩ = some (.int .i64 y2) := by simpa [size_LetterS, Nat.add_assoc] using hu 2 _ rfl
                          have d3 : wr.cell? ⟨g2, o2 + m * 6 + 3, none⟩ = some (.int .i64 y3) := by simpa [size_LetterS, Nat.add_assoc] using hu 3 _ rfl
                          have d4 : wr.cell? ⟨g2, o2 + m * 6 + 4, none⟩ = some (.int .i64 y4) := by simpa [size_LetterS, Nat.add_assoc] using hu 4 _ rfl
                          have d5 : wr.cell? ⟨g2, o2 + m * 6 + 5, none⟩ = some (.int .i64 y5) := by simpa [size_LetterS, Nat.add_assoc] using hu 5 _ rfl
                          have hgl2 : g2 < wr.heap.size := Nat.lt_of_lt_of_le (Nat.lt_of_lt_of_le hgg2 hsz) hszm
                          have hglb : g < wr.heap.size := Nat.lt_of_lt_of_le hgl hszm
                          have f0 := (hB.cell (p := ⟨g, _, none⟩) hgl).trans e0
                          have f1 := (hB.cell (p := ⟨g, _, none⟩) hgl).trans e1
                          have f2 := (hB.cell (p := ⟨g, _, none⟩) hgl).trans e2
                          have f3 := (hB.cell (p := ⟨g, _, none⟩) hgl).trans e3
                          have f4 := (hB.cell (p := ⟨g, _, none⟩) hgl).trans e4
                          have f5 := (hB.cell (p := ⟨g, _, none⟩) hgl).trans e5
                          clear hB hy hu hr
                          obtain ⟨b3, h3⟩ : ∃ b, (((y0, y1), (y2, y3), y4, y5) == (((x0, x1), (x2, x3), x4, x5) : D_Letter)) = b := ⟨_, rfl⟩
                          have q3 := eq_letter_at h3
                          have HC := Lib.hid (show b3 = true ↔ ((x0, x1), (x2, x3), x4, x5) ∈ A.take (m + 1) from by
                            rw [List.take_add_one, Hhy.out]
                            have hno : ((x0, x1), (x2, x3), x4, x5) ∉ A.take m := fun h => by have := HIM.out.2 h; cases this
                            rw [← h3]
                            simp only [Option.toList_some, List.mem_append, List.mem_singleton]
                            constructor
                            · intro h; exact .inr (beq_iff_eq.1 h).symm
                            · rintro (h | h)
                              · exact absurd h hno
                              · exact beq_iff_eq.2 h.symm)
                          clear h3
                          go_wp2_with fail
                          refine wp_region_held_drew (S := (fun V => Below (wr).heap.size (wr) V)) (by kernel_rfl) ((Below.refl _ _).drew) (fun hHeld => ?_)
                          refine tk 0 hHeld ?_
                          refine tk 1 hHeld ?_
                          refine tk 2 hHeld ?_
                          refine tk 3 hHeld ?_ (hy := fun w hSw => by (try dsimp only at hSw); have k0 := (hSw.cell (p := ⟨W.heap.size, 2, none⟩) HDm.out.lt).trans (HDm.out.at_ 2 rfl); clear hSw; go_simp; try with_reducible rfl)
                          refine tk 4 hHeld ?_
                          refine tk 5 hHeld ?_
                          refine tk 6 hHeld ?_ (hy := fun w hSw => by (try dsimp only at hSw); have k0 := (hSw.cell (p := ⟨g2, o2 + m * 6, none⟩) hgl2).trans d0; have k1 := (hSw.cell (p := ⟨g2, o2 + m * 6 + 1, none⟩) hgl2).trans d1; have k2 := (hSw.cell (p := ⟨g2, o2 + m * 6 + 2, none⟩) hgl2).trans d2; have k3 := (hSw.cell (p := ⟨g2, o2 + m * 6 + 3, none⟩) hgl2).trans d3; have k4 := (hSw.cell (p := ⟨g2, o2 + m * 6 + 4, none⟩) hgl2).trans d4; have k5 := (hSw.cell (p := ⟨g2, o2 + m * 6 + 5, none⟩) hgl2).trans d5; clear hSw; go_simp; try with_reducible rfl)
                          refine tk 7 hHeld ?_
                          refine tk 8 hHeld ?_ (hy := fun w hSw => by (try dsimp only at hSw); have k0 := (hSw.cell (p := ⟨W.heap.size, 1, none⟩) HDm.out.lt).trans (HDm.out.at_ 1 rfl); clear hSw; go_simp; try with_reducible rfl)
                          refine tk 9 hHeld ?_
                          refine tk 10 hHeld ?_
                          refine tk 11 hHeld ?_ (hy := fun w hSw => by (try dsimp only at hSw); have k0 := (hSw.cell (p := ⟨g, o + k * 6, none⟩) hglb).trans f0; have k1 := (hSw.cell (p := ⟨g, o + k * 6 + 1, none⟩) hglb).trans f1; have k2 := (hSw.cell (p := ⟨g, o + k * 6 + 2, none⟩) hglb).trans f2; have k3 := (hSw.cell (p := ⟨g, o + k * 6 + 3, none⟩) hglb).trans f3; have k4 := (hSw.cell (p := ⟨g, o + k * 6 + 4, none⟩) hglb).trans f4; have k5 := (hSw.cell (p := ⟨g, o + k * 6 + 5, none⟩) hglb).trans f5; clear hSw; go_simp; try with_reducible rfl)
                          refine tk 12 hHeld ?_
                          refine tk 13 hHeld ?_
                          refine tk 14 hHeld ?_
                          refine rd0 ?_
                          have HF := Lib.hid hHeld
                          clear hHeld
                          have HB4 := Lib.hid (HBm.out.trans (HF.out.mono hszm))
                          clear HF
                          go_wp2
                          go_roundw
                          case rel => exact ⟨m + 1, b3, by omega, by go_num, rfl, HC, HB4.out⟩
                          case measure => simp [intOf]; omega
                      · have hd : decide ((m : Int) < (A.length : Int)) = false := decide_eq_false (by omega)
                        have HE := Lib.hid (show b = true ↔ ((x0, x1), (x2, x3), x4, x5) ∈ A from by have h := HIM.out; rwa [List.take_of_length_le (by omega)] at h)
                        have HB5 := Lib.hid (HB.out.trans (HBm.out.mono hsz))
                        clear hB
                        cases b with
                        | false =>
                          have HN := Lib.hid (show ¬ DeskR P B A u n from fun h => by have := HE.out.2 (h.2.2.2.2.2.1 _ (List.mem_of_getElem? Hhx.out)); cases this)
                          go_wp2
                          go_ret
                          exact resB_no HN.out HB5.out
                        | true =>
                          have HS := Lib.hid (show ∀ (j : Nat) (x : D_Letter), j < k + 1 → B[j]? = some x → x ∈ A from fun j y hj hy => by
                            by_cases e : j = k
                            · subst e
                              have := Hhx.out
                              rw [hy] at this
                              obtain rfl := Option.some.inj this
                              exact HE.out.1 rfl
                            · exact HIN.out j y (by omega) hy)
                          go_wp2
                          go_roundw
                          case rel => exact ⟨k + 1, by omega, by go_num, HS, HB5.out, HDm⟩
                          case measure => simp [intOf]; omega
                  · have hd : decide ((k : Int) < (B.length : Int)) = false := decide_eq_false (by omega)
                    have HALL := Lib.hid (show ∀ x ∈ B, x ∈ A from fun x hx => by
                      obtain ⟨j, hj⟩ := List.mem_iff_getElem?.1 hx
                      exact HIN.out j x (by have := el_lt hj; omega) hj)
                    clear hB
                    by_cases hu : (m : Int) = u
                    · have hbe : ((m : Int) == u) = true := beq_iff_eq.2 hu
                      have HY := Lib.hid (show DeskR P B A u n from ⟨Q1.out.1 (by first | rfl | trivial), Q2.out, Q3.out.1 (by first | rfl | trivial), Q4.out.1 (by first | rfl | trivial), Q5.out, HALL.out, by rw [← hu, HM.out]⟩)
                      clear hu
                      go_wp2
                      go_ret
                      exact resB_yes HY.out HB.out
                    · have hbe : ((m : Int) == u) = false := by simpa using hu
                      have HN := Lib.hid (show ¬ DeskR P B A u n from fun h => hu (by rw [h.2.2.2.2.2.2, HM.out]))
                      clear hu
                      go_wp2
                      go_ret
                      exact resB_no HN.out HB.out
end Go.Proofs.YtphklknaagjmpaaDoor.RepC
end
section
namespace Go.Proofs.YtphklknaagjmpaaDoor.RepC
open Go.RowKit RowC ValC SpanC KeptC
set_option linter.unusedVariables false
set_option linter.unusedSimpArgs false
def IxR (p : Prop) (w : World) (e : Ending) (w' : World) : Prop := ∃ i : Int, e = .returned (.int .i64 i) ∧ (0 ≤ i ↔ p) ∧ Below w.heap.size w w'
theorem ixR_elim {p : Prop} {w : World} {e : Ending} {w' : World} (h : IxR p w e w') : ∃ i : Int, e = .returned (.int .i64 i) ∧ (0 ≤ i ↔ p) ∧ Below w.heap.size w w' := h
theorem mem_step2 {A : List D_Letter} {y : D_Letter} {k : Nat} {x : D_Letter} (hA : y ∉ A.take k) (hx : A[k]? = some x) (h : (y == x) = false) : y ∉ A.take (k + 1) := by
  rw [List.take_add_one, hx]
  simp only [Option.toList_some, List.mem_append, List.mem_singleton, not_or]
  exact ⟨hA, fun e => by subst e; simp at h⟩
theorem filter_step {α : Type} (p : α → Bool) {L : List α} {k : Nat} {x : α} (hx : L[k]? = some x) : (L.take (k + 1)).filter p = (L.take k).filter p ++ (if p x then [x] else []) := by
  rw [List.take_add_one, hx, Option.toList_some, List.filter_append]
  congr 1
  simp [List.filter]
  split <;> simp_all
set_option maxRecDepth 100000 in
set_option maxHeartbeats 3200000 in
theorem index_letter {L : List D_Letter} {la : Option Addr} {lc : Nat} {y0 y1 y2 y3 y4 y5 : Int} {W : World} (hL : RdSl R_Letter W W.heap.size L la lc) :
    Calls Tryd.prog 51 #[.slice la L.length lc, .agg #[.int .i64 y0, .int .i64 y1, .int .i64 y2, .int .i64 y3, .int .i64 y4, .int .i64 y5]] W (IxR (((y0, y1), (y2, y3), y4, y5) ∈ L) W) := by
  have hn : L.length ≤ 9223372036854775807 := by have h1 := hL.1; have h2 := hL.2.1; unfold maxLen at h2; omega
  have H := Lib.hid hL
  clear hL
  obtain ⟨hb0, hp0⟩ := bx1 W #[.int .i64 y0, .int .i64 y1, .int .i64 y2, .int .i64 y3, .int .i64 y4, .int .i64 y5] 48
  have HB0 := Lib.hid hb0
  have HP0 := Lib.hid hp0
  clear hb0 hp0
  go_enter Tryd.func51, Tryd.ntmps51
  go_wp2
  go_loopw [8] (fun i wr => ∃ k : Nat, k ≤ L.length ∧ i = .int .i64 k ∧ Hid (((y0, y1), (y2, y3), y4, y5) ∉ L.take k) ∧ Below W.heap.size W wr ∧ Hid (Blk wr W.heap.size 48 #[.int .i64 y0, .int .i64 y1, .int .i64 y2, .int .i64 y3, .int .i64 y4, .int .i64 y5])) (fun i _ => L.length - (intOf i).toNat)
  case atStart => exact ⟨0, Nat.zero_le _, rfl, Lib.hid (by simp), HB0.out, HP0⟩
  case round =>
    obtain ⟨k, hk, rfl, HA, hB, HP⟩ := hrel
    have HB := Lib.hid hB
    have hsz := hB.size
    by_cases hlt : k < L.length
    · obtain ⟨⟨⟨x0, x1⟩, ⟨x2, x3⟩, x4, x5⟩, hx⟩ := el_some hlt
      have Hhx := Lib.hid hx
      obtain ⟨g, o, us, rfl, hgg, hu, hr⟩ := (H.out.below R_Letter_ok hB).at_ hx
      obtain rfl := rd_Letter hr
      have e0 : wr.cell? ⟨g, o + k * 6, none⟩ = some (.int .i64 x0) := by simpa [size_LetterS, Nat.add_assoc] using hu 0 _ rfl
      have e1 : wr.cell? ⟨g, o + k * 6 + 1, none⟩ = some (.int .i64 x1) := by simpa [size_LetterS, Nat.add_assoc] using hu 1 _ rfl
      have e2 : wr.cell? ⟨g, o + k * 6 + 2, none⟩ = some (.int .i64 x2) := by simpa [size_LetterS, Nat.add_assoc] using hu 2 _ rfl
      have e3 : wr.cell? ⟨g, o + k * 6 + 3, none⟩ = some (.int .i64 x3) := by simpa [size_LetterS, Nat.add_assoc] using hu 3 _ rfl
      have e4 : wr.cell? ⟨g, o + k * 6 + 4, none⟩ = some (.int .i64 x4) := by simpa [size_LetterS, Nat.add_assoc] using hu 4 _ rfl
      have e5 : wr.cell? ⟨g, o + k * 6 + 5, none⟩ = some (.int .i64 x5) := by simpa [size_LetterS, Nat.add_assoc] using hu 5 _ rfl
      have hgl : g < wr.heap.size := Nat.lt_of_lt_of_le hgg hsz
      have hi0 : (0 : Int) ≤ (k : Int) := Int.natCast_nonneg _
      have hi1 : (k : Int) < (L.length : Int) := by omega
      clear hB hx hu hr
      obtain ⟨b1, h1⟩ : ∃ b, ((((y0, y1), (y2, y3), y4, y5) : D_Letter) == ((x0, x1), (x2, x3), x4, x5)) = b := ⟨_, rfl⟩
      have q1 := eq_letter_at h1
      have H1 := Lib.hid h1
      clear h1
      cases b1 with
      | false =>
        have HC := Lib.hid (mem_step2 HA.out Hhx.out H1.out)
        go_wp2_with fail
        refine wp_region_held_drew (S := (fun V => Below (wr).heap.size (wr) V)) (by kernel_rfl) ((Below.refl _ _).drew) (fun hHeld => ?_)
        refine tk 0 hHeld ?_ (hy := fun w hSw => by (try dsimp only at hSw); have k0 := (hSw.cell (p := ⟨W.heap.size, 0, none⟩) HP.out.lt).trans (HP.out.at_ 0 rfl); have k1 := (hSw.cell (p := ⟨W.heap.size, 1, none⟩) HP.out.lt).trans (HP.out.at_ 1 rfl); have k2 := (hSw.cell (p := ⟨W.heap.size, 2, none⟩) HP.out.lt).trans (HP.out.at_ 2 rfl); have k3 := (hSw.cell (p := ⟨W.heap.size, 3, none⟩) HP.out.lt).trans (HP.out.at_ 3 rfl); have k4 := (hSw.cell (p := ⟨W.heap.size, 4, none⟩) HP.out.lt).trans (HP.out.at_ 4 rfl); have k5 := (hSw.cell (p := ⟨W.heap.size, 5, none⟩) HP.out.lt).trans (HP.out.at_ 5 rfl); clear hSw; go_simp; try with_reducible rfl)
        refine tk 1 hHeld ?_
        refine tk 2 hHeld ?_
        refine tk 3 hHeld ?_
        refine tk 4 hHeld ?_ (hy := fun w hSw => by (try dsimp only at hSw); have k0 := (hSw.cell (p := ⟨g, o + k * 6, none⟩) hgl).trans e0; have k1 := (hSw.cell (p := ⟨g, o + k * 6 + 1, none⟩) hgl).trans e1; have k2 := (hSw.cell (p := ⟨g, o + k * 6 + 2, none⟩) hgl).trans e2; have k3 := (hSw.cell (p := ⟨g, o + k * 6 + 3, none⟩) hgl).trans e3; have k4 := (hSw.cell (p := ⟨g, o + k * 6 + 4, none⟩) hgl).trans e4; have k5 := (hSw.cell (p := ⟨g, o + k * 6 + 5, none⟩) hgl).trans e5; clear hSw; go_simp; try with_reducible rfl)
        refine tk 5 hHeld ?_
        refine rd0 ?_
        have HF := Lib.hid hHeld
        clear hHeld
        have HB3 := Lib.hid (HB.out.trans (HF.out.mono hsz))
        have HP3 := Lib.hid (HP.out.call HF.out)
        clear HF
        go_wp2
        go_roundw
        case rel => exact ⟨k + 1, by omega, by go_num, HC, HB3.out, HP3⟩
        case measure => simp [intOf]; omega
      | true =>
        have HY := Lib.hid (show ((y0, y1), (y2, y3), y4, y5) ∈ L from by rw [beq_iff_eq.1 H1.out]; exact List.mem_of_getElem? Hhx.out)
        go_wp2_with fail
        refine wp_region_held_drew (S := (fun V => Below (wr).heap.size (wr) V)) (by kernel_rfl) ((Below.refl _ _).drew) (fun hHeld => ?_)
        refine tk 0 hHeld ?_ (hy := fun w hSw => by (try dsimp only at hSw); have k0 := (hSw.cell (p := ⟨W.heap.size, 0, none⟩) HP.out.lt).trans (HP.out.at_ 0 rfl); have k1 := (hSw.cell (p := ⟨W.heap.size, 1, none⟩) HP.out.lt).trans (HP.out.at_ 1 rfl); have k2 := (hSw.cell (p := ⟨W.heap.size, 2, none⟩) HP.out.lt).trans (HP.out.at_ 2 rfl); have k3 := (hSw.cell (p := ⟨W.heap.size, 3, none⟩) HP.out.lt).trans (HP.out.at_ 3 rfl); have k4 := (hSw.cell (p := ⟨W.heap.size, 4, none⟩) HP.out.lt).trans (HP.out.at_ 4 rfl); have k5 := (hSw.cell (p := ⟨W.heap.size, 5, none⟩) HP.out.lt).trans (HP.out.at_ 5 rfl); clear hSw; go_simp; try with_reducible rfl)
        refine tk 1 hHeld ?_
        refine tk 2 hHeld ?_
        refine tk 3 hHeld ?_
        refine tk 4 hHeld ?_ (hy := fun w hSw => by (try dsimp only at hSw); have k0 := (hSw.cell (p := ⟨g, o + k * 6, none⟩) hgl).trans e0; have k1 := (hSw.cell (p := ⟨g, o + k * 6 + 1, none⟩) hgl).trans e1; have k2 := (hSw.cell (p := ⟨g, o + k * 6 + 2, none⟩) hgl).trans e2; have k3 := (hSw.cell (p := ⟨g, o + k * 6 + 3, none⟩) hgl).trans e3; have k4 := (hSw.cell (p := ⟨g, o + k * 6 + 4, none⟩) hgl).trans e4; have k5 := (hSw.cell (p := ⟨g, o + k * 6 + 5, none⟩) hgl).trans e5; clear hSw; go_simp; try with_reducible rfl)
        refine tk 5 hHeld ?_
        refine rd0 ?_
        have HF := Lib.hid hHeld
        clear hHeld
        have HB3 := Lib.hid (HB.out.trans (HF.out.mono hsz))
        clear HF
        go_wp2
        go_ret
        exact ⟨_, rfl, ⟨fun _ => HY.out, fun _ => hi0⟩, HB3.out⟩
    · have HN := Lib.hid (show ((y0, y1), (y2, y3), y4, y5) ∉ L from by have h := HA.out; rw [List.take_of_length_le (by omega)] at h; exact h)
      have hd : decide ((k : Int) < (L.length : Int)) = false := decide_eq_false (by omega)
      clear hB
      go_wp2
      go_ret
      exact ⟨_, rfl, ⟨fun h => by omega, fun h => absurd h HN.out⟩, HB.out⟩
set_option maxRecDepth 100000 in
set_option maxHeartbeats 1600000 in
theorem contains_letter {L : List D_Letter} {la : Option Addr} {lc : Nat} {y0 y1 y2 y3 y4 y5 : Int} {W : World} (hL : RdSl R_Letter W W.heap.size L la lc) :
    Calls Tryd.prog 48 #[.slice la L.length lc, .agg #[.int .i64 y0, .int .i64 y1, .int .i64 y2, .int .i64 y3, .int .i64 y4, .int .i64 y5]] W (ResB (((y0, y1), (y2, y3), y4, y5) ∈ L) W) := by
  obtain ⟨hb0, hp0⟩ := bx1 W #[.int .i64 y0, .int .i64 y1, .int .i64 y2, .int .i64 y3, .int .i64 y4, .int .i64 y5] 48
  have HB0 := Lib.hid hb0
  have H := Lib.hid (gmvS hL hb0)
  have HZ := HB0.out.size
  clear hL hb0 hp0
  go_enter Tryd.func48, Tryd.ntmps48
  go_wp2_with fail
  refine (index_letter H.out).mono ?_
  intro e w1 h
  obtain ⟨i, rfl, hi, hb⟩ := ixR_elim h
  have HB1 := Lib.hid (HB0.out.trans (hb.mono HZ))
  have HI := Lib.hid hi
  clear h hi hb
  by_cases h0 : 0 ≤ i
  · have hd : decide (0 ≤ i) = true := decide_eq_true h0
    have HY := Lib.hid (HI.out.1 h0)
    clear h0
    go_wp2
    go_ret
    exact resB_yes HY.out HB1.out
  · have hd : decide (0 ≤ i) = false := decide_eq_false h0
    have HY := Lib.hid (show ((y0, y1), (y2, y3), y4, y5) ∉ L from fun h => h0 (HI.out.2 h))
    clear h0
    go_wp2
    go_ret
    exact resB_no HY.out HB1.out
theorem within_at (n lo hi : Int) {b : Bool} (hb : isB n lo hi = b) (w : World) : Calls Tryd.prog 47 #[.int .i64 n, .int .i64 lo, .int .i64 hi] w fun e w' => e = .returned (.bool b) ∧ Below w.heap.size w w' := by
  subst hb
  unfold isB
  by_cases h1 : lo ≤ n
  · have d1 : decide (lo ≤ n) = true := decide_eq_true h1
    have d1' : decide (n ≥ lo) = true := decide_eq_true h1
    go_enter Tryd.func47, Tryd.ntmps47
    go_wp2
    go_ret
    exact ⟨by simp [d1], Below.refl _ _⟩
  · have d1 : decide (lo ≤ n) = false := decide_eq_false h1
    have d1' : decide (n ≥ lo) = false := decide_eq_false h1
    go_enter Tryd.func47, Tryd.ntmps47
    go_wp2
    go_ret
    exact ⟨by simp [d1], Below.refl _ _⟩
theorem isNow_at (n : Int) {b : Bool} (hb : isB n 0 999900 = b) (w : World) : Calls Tryd.prog 33 #[.int .i64 n] w fun e w' => e = .returned (.bool b) ∧ Below w.heap.size w w' := by
  go_enter Tryd.func33, Tryd.ntmps33
  go_wp2_with (go_at_call 47; refine (within_at n 0 999900 hb _).mono ?_; rintro e w' ⟨rfl, hb2⟩)
  go_ret
  exact ⟨rfl, hb2⟩
theorem word_at (n : Int) {b : Bool} (hb : isB n 0 1000000 = b) (w : World) : Calls Tryd.prog 42 #[.int .i64 n] w fun e w' => e = .returned (.bool b) ∧ Below w.heap.size w w' := by
  go_enter Tryd.func42, Tryd.ntmps42
  go_wp2_with (go_at_call 47; refine (within_at n 0 1000000 hb _).mono ?_; rintro e w' ⟨rfl, hb2⟩)
  go_ret
  exact ⟨rfl, hb2⟩
def Picks (T : TypeId) (v : Value) (p : D_Letter → Bool) : Prop := ∃ f : Nat, (∀ w : World, (Go.method 249 T v "loop.example/g00658/impl.picks").run Tryd.prog w = .ok (f, v) w) ∧ (∀ (args : Array Value) (w : World), (callFunc f args).run Tryd.prog w = .ok (.enter f args) w) ∧
  ∀ (x0 x1 x2 x3 x4 x5 : Int) (w : World), Calls Tryd.prog f #[v, .agg #[.int .i64 x0, .int .i64 x1, .int .i64 x2, .int .i64 x3, .int .i64 x4, .int .i64 x5]] w fun e w' => e = .returned (.bool (p ((x0, x1), (x2, x3), x4, x5))) ∧ Below w.heap.size w w'
set_option maxRecDepth 100000 in
theorem picks_chan (f0 f1 t0 t1 : Int) : Picks 80 (.agg #[.int .i64 f0, .int .i64 f1, .int .i64 t0, .int .i64 t1]) (fun x => x.1 == (f0, f1) && x.2.1 == (t0, t1)) := by
  refine ⟨74, fun w => by kernel_rfl, fun args w => rfl, fun x0 x1 x2 x3 x4 x5 w => ?_⟩
  obtain ⟨hb0, _⟩ := bx2 w #[.int .i64 f0, .int .i64 f1, .int .i64 t0, .int .i64 t1] #[.int .i64 x0, .int .i64 x1, .int .i64 x2, .int .i64 x3, .int .i64 x4, .int .i64 x5] 80 48
  obtain ⟨b1, h1⟩ : ∃ b, (((x0, x1) : D_Label) == (f0, f1)) = b := ⟨_, rfl⟩
  obtain ⟨b2, h2⟩ : ∃ b, (((x2, x3) : D_Label) == (t0, t1)) = b := ⟨_, rfl⟩
  have q1 := eq_label_at h1
  have q2 := eq_label_at h2
  have HR := Lib.hid (show (((x0, x1) : D_Label) == (f0, f1) && ((x2, x3) : D_Label) == (t0, t1)) = (b1 && b2) from by rw [h1, h2])
  have HB0 := Lib.hid hb0
  clear h1 h2 hb0
  go_enter Tryd.func74, Tryd.ntmps74
  cases b1 with
  | false =>
    go_wp2
    go_ret
    exact ⟨by show _ = Ending.returned (Value.bool _); rw [HR.out]; rfl, HB0.out⟩
  | true =>
    go_wp2
    go_ret
    exact ⟨by show _ = Ending.returned (Value.bool _); rw [HR.out]; rfl, HB0.out⟩
set_option maxRecDepth 100000 in
theorem picks_at (n : Int) : Picks 83 (.agg #[.int .i64 n]) (fun x => x.2.2.1 == n) := by
  refine ⟨75, fun w => by kernel_rfl, fun args w => rfl, fun x0 x1 x2 x3 x4 x5 w => ?_⟩
  obtain ⟨hb0, _⟩ := bx2 w #[.int .i64 n] #[.int .i64 x0, .int .i64 x1, .int .i64 x2, .int .i64 x3, .int .i64 x4, .int .i64 x5] 83 48
  have HB0 := Lib.hid hb0
  clear hb0
  go_enter Tryd.func75, Tryd.ntmps75
  go_wp2
  go_ret
  exact ⟨rfl, HB0.out⟩
set_option maxRecDepth 100000 in
theorem picks_read (l s : Int) : Picks 65 (.agg #[.int .i64 l, .int .i64 s]) (fun x => LabC.belowB x.2.1.1 x.2.1.2 l s) := by
  refine ⟨71, fun w => by kernel_rfl, fun args w => rfl, fun x0 x1 x2 x3 x4 x5 w => ?_⟩
  obtain ⟨hb0, _⟩ := bx2 w #[.int .i64 l, .int .i64 s] #[.int .i64 x0, .int .i64 x1, .int .i64 x2, .int .i64 x3, .int .i64 x4, .int .i64 x5] 65 48
  have HB0 := Lib.hid hb0
  have HZ := hb0.size
  clear hb0
  go_enter Tryd.func71, Tryd.ntmps71
  go_wp2_with fail
  refine (LabC.below_impl x2 x3 l s _).mono ?_
  rintro e w1 ⟨rfl, hb⟩
  have HB1 := Lib.hid (HB0.out.trans (hb.mono HZ))
  clear hb
  go_wp2
  go_ret
  exact ⟨rfl, HB1.out⟩
set_option maxRecDepth 100000 in
set_option maxHeartbeats 3200000 in
theorem picked_impl {L : List D_Letter} {la : Option Addr} {lc : Nat} {T : TypeId} {v : Value} {p : D_Letter → Bool} {W : World} (hn : L.length ≤ 1073741824) (hp : Picks T v p) (hL : RdSl R_Letter W W.heap.size L la lc) :
    Calls Tryd.prog 45 #[.slice la L.length lc, .iface T v] W (NewS R_Letter (L.filter p) W) := by
  have H := Lib.hid hL
  obtain ⟨f, hm, hcf, hf⟩ := hp
  have HFC := Lib.hid hf
  clear hL hf
  go_enter Tryd.func45, Tryd.ntmps45
  go_wp2
  go_loopw [5, 10] (fun o i wr => ∃ k : Nat, k ≤ L.length ∧ i = .int .i64 k ∧ (∃ a c xs Sf hi, o = .slice a ((L.take k).filter p).length c ∧ W.heap.size ≤ hi ∧ App R_Letter wr W.heap.size hi 48 (.slice a ((L.take k).filter p).length c) ((L.take k).filter p) xs Sf) ∧ Below W.heap.size W wr) (fun _ i _ => L.length - (intOf i).toNat)
  case atStart => exact ⟨0, Nat.zero_le _, rfl, ⟨none, 0, _, _, _, rfl, Nat.le_refl _, App.none_ R_Letter W 48 (Nat.le_refl _)⟩, Below.refl _ _⟩
  case round =>
    obtain ⟨k, hk, rfl, ⟨oa, oc, xs, Sf, hi, rfl, hlo, hO⟩, hB⟩ := hrel
    have HB := Lib.hid hB
    have HO := Lib.hid hO
    have hsz := hB.size
    by_cases hlt : k < L.length
    · obtain ⟨⟨⟨x0, x1⟩, ⟨x2, x3⟩, x4, x5⟩, hx⟩ := el_some hlt
      have Hhx := Lib.hid hx
      obtain ⟨g, o, us, rfl, hgg, hu, hr⟩ := (H.out.below R_Letter_ok hB).at_ hx
      obtain rfl := rd_Letter hr
      have e0 : wr.cell? ⟨g, o + k * 6, none⟩ = some (.int .i64 x0) := by simpa [size_LetterS, Nat.add_assoc] using hu 0 _ rfl
      have e1 : wr.cell? ⟨g, o + k * 6 + 1, none⟩ = some (.int .i64 x1) := by simpa [size_LetterS, Nat.add_assoc] using hu 1 _ rfl
      have e2 : wr.cell? ⟨g, o + k * 6 + 2, none⟩ = some (.int .i64 x2) := by simpa [size_LetterS, Nat.add_assoc] using hu 2 _ rfl
      have e3 : wr.cell? ⟨g, o + k * 6 + 3, none⟩ = some (.int .i64 x3) := by simpa [size_LetterS, Nat.add_assoc] using hu 3 _ rfl
      have e4 : wr.cell? ⟨g, o + k * 6 + 4, none⟩ = some (.int .i64 x4) := by simpa [size_LetterS, Nat.add_assoc] using hu 4 _ rfl
      have e5 : wr.cell? ⟨g, o + k * 6 + 5, none⟩ = some (.int .i64 x5) := by simpa [size_LetterS, Nat.add_assoc] using hu 5 _ rfl
      have hgl : g < wr.heap.size := Nat.lt_of_lt_of_le hgg hsz
      have hi0 : (0 : Int) ≤ (k : Int) := Int.natCast_nonneg _
      have hi1 : (k : Int) < (L.length : Int) := by omega
      have HST := Lib.hid (filter_step p Hhx.out)
      have hfl : ((L.take k).filter p).length ≤ k := Nat.le_trans (List.length_filter_le _ _) (by rw [List.length_take]; omega)
      clear hB hx hu hr hO
      obtain ⟨M, hM⟩ : ∃ M, (L.take k).filter p = M := ⟨_, rfl⟩
      rw [hM] at HO HST hfl ⊢
      clear hM
      obtain ⟨b, hbp⟩ : ∃ b, p ((x0, x1), (x2, x3), x4, x5) = b := ⟨_, rfl⟩
      have HP := Lib.hid hbp
      clear hbp
      have HX0 := Lib.hid (show Below wr.heap.size wr (wr.alloc (.cells #[.int .i64 x0, .int .i64 x1, .int .i64 x2, .int .i64 x3, .int .i64 x4, .int .i64 x5] 48)) from (Below.refl _ _).alloc (Nat.le_refl _) _)
      have HXB := Lib.hid (Blk.new wr 48 #[.int .i64 x0, .int .i64 x1, .int .i64 x2, .int .i64 x3, .int .i64 x4, .int .i64 x5])
      obtain ⟨wx, hwx⟩ : ∃ w, w = wr.alloc (.cells #[.int .i64 x0, .int .i64 x1, .int .i64 x2, .int .i64 x3, .int .i64 x4, .int .i64 x5] 48) := ⟨_, rfl⟩
      rw [← hwx] at HX0 HXB
      have HBX := Lib.hid (HB.out.trans (HX0.out.mono hsz))
      have hzx := HBX.out.size
      have HOX := Lib.hid (HO.out.call R_Letter_ok HX0.out)
      have m0 := hm wx
      go_wp2_with fail
      rw [← hwx]
      clear hwx
      refine (HFC.out x0 x1 x2 x3 x4 x5 wx).mono ?_
      rintro e w1 ⟨rfl, hb⟩
      have HB1 := Lib.hid (HBX.out.trans (hb.mono hzx))
      have HO1 := Lib.hid (HOX.out.call R_Letter_ok hb)
      have HX1 := Lib.hid (HXB.out.call hb)
      have hz1 := HB1.out.size
      have hhi := HO1.out.le
      clear hb m0
      rw [HP.out]
      cases b with
      | false =>
        have HE := Lib.hid (show (L.take (k + 1)).filter p = M from by rw [HST.out, HP.out]; simp)
        go_wp2
        go_roundw
        case rel => exact ⟨k + 1, by omega, by go_num, by rw [HE.out]; exact ⟨oa, oc, xs, Sf, hi, rfl, hlo, HO1.out⟩, HB1.out⟩
        case measure => simp [intOf]; omega
      | true =>
        have HE := Lib.hid (show (L.take (k + 1)).filter p = M ++ [((x0, x1), (x2, x3), x4, x5)] from by rw [HST.out, HP.out]; simp)
        obtain ⟨na, nc, w2, xs2, Sf2, hr, hA2, hb2⟩ := app_letter HO1.out x0 x1 x2 x3 x4 x5 hlo (by omega)
        have HR := Lib.hid hr
        have HA2 := Lib.hid hA2
        have HB2 := Lib.hid (HB1.out.trans hb2)
        have hz2 := HB2.out.size
        have p0 := HX1.out.at_ 0 rfl
        have p1 := HX1.out.at_ 1 rfl
        have p2 := HX1.out.at_ 2 rfl
        have p3 := HX1.out.at_ 3 rfl
        have p4 := HX1.out.at_ 4 rfl
        have p5 := HX1.out.at_ 5 rfl
        clear hr hA2 hb2
        go_wp2_with (at_builtin; refine wpList_app rfl (.tmp 17) (.tmp 19) 23 rfl rfl rfl HR.out ?_)
        go_roundw
        case rel => exact ⟨k + 1, by omega, by go_num, by rw [HE.out]; exact ⟨na, nc, xs2, Sf2, _, by simp, hz2, HA2.out⟩, HB2.out⟩
        case measure => simp [intOf]; omega
    · obtain rfl : k = L.length := by omega
      have hd : decide ((L.length : Int) < (L.length : Int)) = false := decide_eq_false (by omega)
      have HE := Lib.hid (show (L.take L.length).filter p = L.filter p from by rw [List.take_length])
      rw [HE.out] at HO ⊢
      clear hB hO HE
      go_wp2
      go_ret
      exact HO.out.new_ HB.out
end Go.Proofs.YtphklknaagjmpaaDoor.RepC
end
