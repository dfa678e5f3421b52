/- Of this claim's texts the part 13: FlatA FlatB CfP. -/
import Derived.Lib.AppendZeros
import Derived.Lib.SlicesCompact
import Derived.Sort.Statements
import Derived.Test.YtlgflddljhldhaaGreatPN6
import Derived.Test.YtlgflddljhldhaaGreatPN7
import Derived.Test.YtlgflddljhldhaaGreatPN9
import Derived.Test.YtlgflddljhldhaaGreatPN11
section
namespace Go.Proofs.YtlgflddljhldhaaGreat.RepC
open Go.RowKit RowC ValC
set_option linter.unusedVariables false
set_option linter.unusedSimpArgs false
set_option maxRecDepth 100000
theorem below_own {B : Nat} {w w' : World} {v : Value} (h : w.grownBy w' v.ownBlock) (hv : ∀ k, v.ownBlock = some k → B ≤ k) (hB : B ≤ w.heap.size) : Below B w w' :=
  ⟨h.os, h.tape, h.output, h.size, fun k hk => h.block k (Nat.lt_of_lt_of_le hk hB) (fun e => by have := hv k e.symm; omega)⟩
section
variable {α : Type} {E : Rp α} {f : α → List Value} {w w' : World} {lo : Nat} {T : TypeId} {v : Value} {L : List α}
theorem append_none {P : Program} {w : World} {base : Nat} {t ty e : TypeId} {i : TypeInfo} {size : Nat} (ht : P.underlying t = some (.slice e)) (hi : P.info? e = some i) {v : Value} {n : Nat} {xs : List Value} (hown : w.ownsRow base e size v n xs) (c : Nat) :
    (Builtin.append_ #[t, t] ty #[v, .slice none 0 c]).run P w = .ok v w := by
  rcases hown.2 with ⟨rfl, rfl⟩ | ⟨g, cap, cur, rfl, _, _, hnc, _⟩
  · simp [Builtin.append_, run_underlying ht, sizeOf, typeInfo, hi, Builtin.lenOf, Builtin.firstCells]
  · simp [Builtin.append_, run_underlying ht, sizeOf, typeInfo, hi, Builtin.lenOf, Builtin.firstCells, hnc, storeCells]
structure FRow {α : Type} (E : Rp α) (f : α → List Value) (w : World) (lo : Nat) (T : TypeId) (v : Value) (L : List α) : Prop where
  own : w.ownsRow lo T E.size v L.length (L.flatMap f)
  blk : ∀ k, v.ownBlock = some k → lo ≤ k ∧ k < w.heap.size
theorem FRow.none_ (E : Rp α) (f : α → List Value) (w : World) (lo : Nat) (T : TypeId) : FRow E f w lo T (.slice none 0 0) [] := ⟨⟨by simp, .inl ⟨rfl, rfl⟩⟩, fun k hk => by cases hk⟩
theorem FRow.made (E : Rp α) (f : α → List Value) (w : World) (T : TypeId) : FRow E f (w.alloc (.cells #[] T)) w.heap.size T (.slice (some ⟨w.heap.size, 0, none⟩) 0 0) [] :=
  ⟨(App.made E w T).own, fun k hk => (by cases hk; exact ⟨Nat.le_refl _, by simp⟩)⟩
theorem FRow.isSlice (h : FRow E f w lo T v L) : ∃ a cap, v = .slice a L.length cap := by
  obtain ⟨_, h2⟩ := h.own
  rcases h2 with ⟨rfl, h0⟩ | ⟨g, cap, cur, rfl, _⟩
  · exact ⟨none, 0, by rw [h0]⟩
  · exact ⟨_, _, rfl⟩
theorem FRow.mv (h : FRow E f w lo T v L) (hs : w.heap.size ≤ w'.heap.size) (hb : ∀ k, v.ownBlock = some k → w'.heap[k]? = w.heap[k]?) : FRow E f w' lo T v L := by
  refine ⟨?_, fun k hk => ⟨(h.blk k hk).1, Nat.lt_of_lt_of_le (h.blk k hk).2 hs⟩⟩
  obtain ⟨h1, h2⟩ := h.own
  refine ⟨h1, ?_⟩
  rcases h2 with h2 | ⟨g, cap, cur, rfl, hlo, hg, h3⟩
  · exact .inl h2
  · exact .inr ⟨g, cap, cur, rfl, hlo, (hb g rfl).trans hg, h3⟩
theorem FRow.call (h : FRow E f w lo T v L) (hb : Below w.heap.size w w') : FRow E f w' lo T v L := h.mv hb.size fun k hk => hb.block k (h.blk k hk).2
theorem flatMap_len (hE : Ok E) (hF : Flat E f) (w : World) : ∀ M : List α, (M.flatMap f).length = M.length * E.size
  | [] => by simp
  | y :: ys => by
    have hy : (f y).length = E.size := hE.ow_len (hF.ow w (fun _ => False) y)
    simp only [List.flatMap_cons, List.length_append, List.length_cons, flatMap_len hE hF w ys, hy, Nat.add_mul, Nat.one_mul]
    omega
theorem flatMap_at (hE : Ok E) (hF : Flat E f) (w : World) : ∀ (M : List α) (q : Nat) (x : α), M[q]? = some x → ∀ j d, (f x)[j]? = some d → (M.flatMap f)[q * E.size + j]? = some d
  | [], q, x, hq, j, d, hj => by simp at hq
  | y :: ys, q, x, hq, j, d, hj => by
    have hy : (f y).length = E.size := hE.ow_len (hF.ow w (fun _ => False) y)
    simp only [List.flatMap_cons]
    cases q with
    | zero =>
      simp at hq
      subst hq
      rw [Nat.zero_mul, Nat.zero_add, List.getElem?_append_left (List.getElem?_eq_some_iff.1 hj).1]
      exact hj
    | succ q =>
      rw [List.getElem?_append_right (by rw [hy, Nat.add_mul, Nat.one_mul]; omega), hy, Nat.add_mul, Nat.one_mul, show q * E.size + E.size + j - E.size = q * E.size + j by omega]
      exact flatMap_at hE hF w ys q x (by simpa using hq) j d hj
theorem flatMap_cells (hE : Ok E) (hF : Flat E f) (w : World) (g : Nat) : ∀ (M : List α) (b : Nat), (∀ i x, M[i]? = some x → CellsAt w g (b + i * E.size) (f x)) → CellsAt w g b (M.flatMap f)
  | [], b, _ => CellsAt.nil
  | y :: ys, b, hc => by
    have hy : (f y).length = E.size := hE.ow_len (hF.ow w (fun _ => False) y)
    simp only [List.flatMap_cons]
    refine CellsAt.app.2 ⟨by simpa using hc 0 y rfl, ?_⟩
    rw [hy]
    refine flatMap_cells hE hF w g ys _ fun i x hx => ?_
    have := hc (i + 1) x (by simpa using hx)
    rw [Nat.add_mul, Nat.one_mul] at this
    rw [show b + E.size + i * E.size = b + (i * E.size + E.size) by omega]
    exact this
theorem FRow.more (hE : Ok E) (hF : Flat E f) {P : Program} (h : FRow E f w lo T v L) {t ty : TypeId} {i : TypeInfo} {z : Value} {bytes : Nat} (ht : P.underlying t = some (.slice T)) (hi : P.info? T = some i) (hz : i.zero = some z) (hsize : i.size = E.size) (hby : i.bytes = bytes) (hzs : z.cells.size = E.size) (hpos : 0 < E.size)
    {M : List α} {a : Option Addr} {cap : Nat} (hM : RdSl E w w.heap.size M a cap) (hlo : lo ≤ w.heap.size) (hL : L.length + M.length ≤ maxLen) (hLb : (L.length + M.length) * bytes ≤ 140737488355328) :
    ∃ a' c' w', (Builtin.append_ #[t, t] ty #[v, .slice a M.length cap]).run P w = .ok (.slice a' (L ++ M).length c') w' ∧ FRow E f w' lo T (.slice a' (L ++ M).length c') (L ++ M) ∧ Below lo w w' := by
  cases a with
  | none =>
    have h0 : M = [] := by
      cases M with
      | nil => rfl
      | cons y ys => obtain ⟨g, o, ha, _⟩ := hM.2.2 (by simp); cases ha
    subst h0
    obtain ⟨a', c', rfl⟩ := h.isSlice
    simp only [List.append_nil]
    exact ⟨a', c', w, append_none ht hi h.own cap, h, Below.refl _ _⟩
  | some x =>
    obtain ⟨news, hlen, hcells, hone, hnews⟩ : ∃ news : List Value, news.length = M.length * E.size ∧ (∀ j u, news[j]? = some u → w.cell? (x.add j) = some u) ∧ (∀ u ∈ news, u.oneCell' = true) ∧ news = M.flatMap f := by
      refine ⟨M.flatMap f, flatMap_len hE hF w M, fun j u hj => ?_, fun u hu => ?_, rfl⟩
      · cases M with
        | nil => simp at hj
        | cons y ys =>
          obtain ⟨g, o, ha, hg, hel⟩ := hM.2.2 (by simp)
          cases ha
          have hall := flatMap_cells hE hF w g (y :: ys) o fun i x hx => by
            obtain ⟨us, hu, hr⟩ := hel i x hx
            rw [← hF.rd hr]
            exact hu
          have hadd : (⟨g, o, none⟩ : Addr).add j = ⟨g, o + j, none⟩ := by unfold Addr.add; split <;> simp_all
          rw [hadd]
          exact hall j u hj
      · obtain ⟨y, hy, hu⟩ := List.mem_flatMap.1 hu
        exact hE.one (hE.ow_rd (B := 0) (hF.ow w (fun _ => False) y) (fun k h => h.elim)) u hu
    obtain ⟨v', w', hrun, hown, hgr, _, hat⟩ := run_append_own_at (P := P) w lo t ty T i z E.size bytes ht hi hz hsize hby hzs hpos v L.length _ h.own x M.length cap news hlen hcells hone hL hLb hlo
    rw [hnews, ← List.flatMap_append, ← List.length_append] at hown
    have hb : Below lo w w' := below_own hgr (fun k hk => (h.blk k hk).1) hlo
    have hF2 : FRow E f w' lo T v' (L ++ M) := ⟨hown, fun k hk => by
      rcases hat with e | e
      · rw [e] at hk; exact ⟨(h.blk k hk).1, Nat.lt_of_lt_of_le (h.blk k hk).2 hb.size⟩
      · rw [e] at hk
        cases hk
        rcases hown.2 with ⟨hn, _⟩ | ⟨g, cap', cur, hv, hlog, hgg, _⟩
        · rw [hn] at e; cases e
        · rw [hv] at e
          cases e
          exact ⟨hlog, (Array.getElem?_eq_some_iff.1 hgg).1⟩⟩
    obtain ⟨a', c', rfl⟩ := hF2.isSlice
    exact ⟨a', c', w', hrun, hF2, hb⟩
theorem FRow.sl (hE : Ok E) (hF : Flat E f) (h : FRow E f w lo T v L) : ∃ a c, v = .slice a L.length c ∧ OwSl E w (fun k => v.ownBlock = some k) L a c := by
  obtain ⟨hx, h2⟩ := h.own
  rcases h2 with ⟨rfl, h0⟩ | ⟨g, cap, cur, rfl, hlo, hg, hnc, hm, hc, htk⟩
  · have : L = [] := List.eq_nil_of_length_eq_zero h0
    subst this
    exact ⟨none, 0, rfl, Nat.le_refl _, Nat.zero_le _, fun h => absurd h (Nat.lt_irrefl _)⟩
  · refine ⟨_, cap, rfl, hnc, hm, fun _ => ⟨g, fun _ _ => False, rfl, rfl, fun j => by simp [World.frozen?, hg], fun i k h => h.elim, fun i j k _ h => h.elim, fun q x hq => ⟨f x, fun j d hj => ?_, hF.ow _ _ _⟩⟩⟩
    have h4 := flatMap_at hE hF w L q x hq j d hj
    rw [← htk] at h4
    have h5 : cur.toList[q * E.size + j]? = some d := by
      rw [List.getElem?_take] at h4
      split at h4
      · exact h4
      · cases h4
    exact (cell_of_row w g _ cur _ _ hg).trans (by simpa using h5)
end
theorem FRow.news {α : Type} {E : Rp α} {f : α → List Value} (hE : Ok E) (hF : Flat E f) {W w : World} {lo : Nat} {T : TypeId} {v : Value} {L : List α} (h : FRow E f w lo T v L) (hlo : W.heap.size ≤ lo) (hb : Below W.heap.size W w) : NewS E L W (.returned v) w := by
  obtain ⟨a, c, rfl, ho⟩ := h.sl hE hF
  exact ⟨a, c, rfl, ho.more fun k hk => ⟨Nat.le_trans hlo (h.blk k hk).1, (h.blk k hk).2⟩, hb⟩
end Go.Proofs.YtlgflddljhldhaaGreat.RepC
end
section
namespace Go.Proofs.YtlgflddljhldhaaGreat.RepC
open Go.RowKit RowC ValC
set_option linter.unusedVariables false
set_option linter.unusedSimpArgs false
set_option maxRecDepth 100000
section
variable {α : Type} {E : Rp α} {f : α → List Value} {w w' : World} {lo : Nat} {T : TypeId} {v : Value} {L : List α}
theorem infoLb : ∃ i, Tryz.prog.info? 47 = some i ∧ i.zero = some (.agg #[.int .i64 0, .int .i64 0]) ∧ i.size = 2 ∧ i.bytes = 16 := by
  have h : (Tryz.prog.info? 47).map (fun i => (i.zero, i.size, i.bytes)) = some (some (.agg #[.int .i64 0, .int .i64 0]), 2, 16) := by kernel_rfl
  cases hx : Tryz.prog.info? 47 with
  | none => rw [hx] at h; simp at h
  | some i => rw [hx] at h; simp at h; exact ⟨i, rfl, h.1, h.2.1, h.2.2⟩
theorem infoIn : ∃ i, Tryz.prog.info? 2 = some i ∧ i.zero = some (.int .i64 0) ∧ i.size = 1 ∧ i.bytes = 8 := by
  have h : (Tryz.prog.info? 2).map (fun i => (i.zero, i.size, i.bytes)) = some (some (.int .i64 0), 1, 8) := by kernel_rfl
  cases hx : Tryz.prog.info? 2 with
  | none => rw [hx] at h; simp at h
  | some i => rw [hx] at h; simp at h; exact ⟨i, rfl, h.1, h.2.1, h.2.2⟩
theorem flat_I : Flat I (fun x => [.int .i64 x]) := ⟨fun {W B x us} h => h, fun W S x => rfl⟩
abbrev BRow (w : World) (lo : Nat) (v : Value) (L : List D_Label) : Prop := FRow R_Label (fun x => [.int .i64 x.1, .int .i64 x.2]) w lo 47 v L
theorem BRow.more {w : World} {lo : Nat} {v : Value} {L M : List D_Label} {a : Option Addr} {cap : Nat} (h : BRow w lo v L) (hM : RdSl R_Label w w.heap.size M a cap) (hlo : lo ≤ w.heap.size) (hL : L.length + M.length ≤ 8796093022208) :
    ∃ a' c' w', (Builtin.append_ #[119, 119] 119 #[v, .slice a M.length cap]).run Tryz.prog w = .ok (.slice a' (L ++ M).length c') w' ∧ BRow w' lo (.slice a' (L ++ M).length c') (L ++ M) ∧ Below lo w w' := by
  obtain ⟨i, hi', hz, hs, hby⟩ := infoLb
  exact FRow.more R_Label_ok flat_Label h Tryz.underlying119 hi' hz hs hby rfl (by decide) hM hlo (by unfold maxLen; omega) (by omega)
theorem rd_oneL {w : World} {g : Nat} (x0 x1 : Int) (h : Blk w g 47 #[.int .i64 x0, .int .i64 x1]) : RdSl R_Label w w.heap.size [(x0, x1)] (some ⟨g, 0, none⟩) 1 := by
  refine ⟨Nat.le_refl _, by unfold maxLen; omega, fun _ => ⟨g, 0, rfl, h.lt, fun i x hx => ?_⟩⟩
  cases i with
  | zero =>
    simp at hx
    subst hx
    refine ⟨[.int .i64 x0, .int .i64 x1], fun j c hj => ?_, mkrd_Label⟩
    simpa using h.at_ j (by simpa using hj)
  | succ i => simp at hx
theorem rd_oneI {w : World} {g : Nat} (x : Int) (h : Blk w g 2 #[.int .i64 x]) : RdSl I w w.heap.size [x] (some ⟨g, 0, none⟩) 1 := by
  refine ⟨Nat.le_refl _, by unfold maxLen; omega, fun _ => ⟨g, 0, rfl, h.lt, fun i x hx => ?_⟩⟩
  cases i with
  | zero =>
    simp at hx
    subst hx
    refine ⟨[.int .i64 x], fun j c hj => ?_, rfl⟩
    simpa using h.at_ j (by simpa using hj)
  | succ i => simp at hx
theorem BRow.grown {w : World} {n : Nat} (h0 : 0 < n) (hn : n ≤ 1099511627776) : ∃ c w', (Builtin.append_ #[119, 3] 119 #[.slice none 0 0, .int .i64 n]).run Tryz.prog w = .ok (.slice (some ⟨w.heap.size, 0, none⟩) n c) w' ∧ BRow w' w.heap.size (.slice (some ⟨w.heap.size, 0, none⟩) 0 c) [] ∧ Below w.heap.size w w' ∧ n ≤ c := by
  obtain ⟨i, hi', hz, hs, hby⟩ := infoLb
  have hge := grownCap_ge w n 0 47
  refine ⟨_, _, Lib.run_append_nil_zeros w 119 3 119 47 i _ .i64 .i64 Tryz.underlying119 Tryz.underlying3 hi' hz n h0 (by rw [hs]; decide) (by omega) (by rw [hby]; omega), ⟨⟨by simp, .inr ⟨w.heap.size, _, _, rfl, Nat.le_refl _, heap_alloc_new w.drew _, Nat.zero_le _, grownCap_le_maxLen _ _ _ _ (by unfold maxLen; omega), ?_, by simp⟩⟩, fun k hk => (by cases hk; exact ⟨Nat.le_refl _, by simp⟩)⟩, ((Below.refl _ _).drew).alloc (by simp) _, hge⟩
  rw [Array.size_append, size_zeroCells, size_zeroCells]
  show _ * 2 + _ * 2 = _
  rw [← Nat.add_mul]
  congr 1
  omega
end
end Go.Proofs.YtlgflddljhldhaaGreat.RepC
end
section
namespace Go.Proofs.YtlgflddljhldhaaGreat.CfC
open Go.Lib Go.Sort
set_option linter.unusedVariables false
set_option linter.unusedSimpArgs false
abbrev Lb := Int × Int
def ltB (a b : Lb) : Prop := a.1 < b.1 ∨ a.1 = b.1 ∧ a.2 < b.2
def labAt (k : Nat) : Lb := (((k / 8 : Nat) : Int), ((k % 8 : Nat) : Int))
def labsTo (C : List (List Lb)) (n : Nat) : List Lb := ((List.range n).map labAt).filter (fun a => decide (∃ x ∈ C, a ∈ x))
def labsOf (C : List (List Lb)) : List Lb := labsTo C 32
theorem labsTo_yes {C : List (List Lb)} {k : Nat} (h : ∃ x ∈ C, labAt k ∈ x) : labsTo C (k + 1) = labsTo C k ++ [labAt k] := by
  unfold labsTo
  rw [List.range_succ, List.map_append, List.filter_append]
  simp only [List.map_cons, List.map_nil, List.filter_cons, decide_eq_true h, List.filter_nil, if_true]
theorem labsTo_no {C : List (List Lb)} {k : Nat} (h : ¬ ∃ x ∈ C, labAt k ∈ x) : labsTo C (k + 1) = labsTo C k := by
  unfold labsTo
  rw [List.range_succ, List.map_append, List.filter_append]
  simp only [List.map_cons, List.map_nil, List.filter_cons, decide_eq_false h, List.filter_nil, Bool.false_eq_true, if_false, List.append_nil]
theorem labsTo_len (C : List (List Lb)) (n : Nat) : (labsTo C n).length ≤ n := by
  unfold labsTo
  exact Nat.le_trans (List.length_filter_le _ _) (by simp)
theorem mem_labs {C : List (List Lb)} {a : Lb} : a ∈ labsOf C ↔ LabC.rP a.1 a.2 ∧ ∃ x ∈ C, a ∈ x := by
  unfold labsOf labsTo
  rw [List.mem_filter, List.mem_map]
  constructor
  · rintro ⟨⟨k, hk, rfl⟩, h⟩
    rw [List.mem_range] at hk
    refine ⟨?_, of_decide_eq_true h⟩
    show 0 ≤ ((k / 8 : Nat) : Int) ∧ ((k / 8 : Nat) : Int) ≤ 3 ∧ 0 ≤ ((k % 8 : Nat) : Int) ∧ ((k % 8 : Nat) : Int) ≤ 7
    omega
  · rintro ⟨⟨h1, h2, h3, h4⟩, h⟩
    obtain ⟨l, s⟩ := a
    refine ⟨⟨(8 * l + s).toNat, ?_, ?_⟩, decide_eq_true h⟩
    · rw [List.mem_range]; simp only at h1 h2 h3 h4; omega
    · show ((((8 * l + s).toNat / 8 : Nat) : Int), (((8 * l + s).toNat % 8 : Nat) : Int)) = (l, s)
      simp only at h1 h2 h3 h4
      rw [Prod.mk.injEq]
      omega
theorem labs_sorted (C : List (List Lb)) (n : Nat) : (labsTo C n).Pairwise ltB := by
  unfold labsTo
  refine List.Pairwise.filter _ ?_
  rw [List.pairwise_map]
  refine List.Pairwise.imp ?_ List.pairwise_lt_range
  intro i j h
  show ((i / 8 : Nat) : Int) < ((j / 8 : Nat) : Int) ∨ ((i / 8 : Nat) : Int) = ((j / 8 : Nat) : Int) ∧ ((i % 8 : Nat) : Int) < ((j % 8 : Nat) : Int)
  omega
theorem ltB_trans {a b c : Lb} (h1 : ltB a b) (h2 : ltB b c) : ltB a c := by unfold ltB at *; omega
theorem ltB_irrefl {a : Lb} (h : ltB a a) : False := by unfold ltB at h; omega
theorem ltB_total (a b : Lb) : ltB a b ∨ a = b ∨ ltB b a := by
  unfold ltB
  obtain ⟨p, q⟩ := a
  obtain ⟨r, s⟩ := b
  simp only [Prod.mk.injEq]
  omega
theorem sorted_eq : ∀ {L M : List Lb}, L.Pairwise ltB → M.Pairwise ltB → (∀ a, a ∈ L ↔ a ∈ M) → L = M
  | [], [], _, _, _ => rfl
  | [], y :: ys, _, _, h => by have := (h y).2 List.mem_cons_self; cases this
  | x :: xs, [], _, _, h => by have := (h x).1 List.mem_cons_self; cases this
  | x :: xs, y :: ys, hL, hM, h => by
    rw [List.pairwise_cons] at hL hM
    have hxy : x = y := by
      rcases List.mem_cons.1 ((h x).1 List.mem_cons_self) with e | e
      · exact e
      · rcases List.mem_cons.1 ((h y).2 List.mem_cons_self) with e2 | e2
        · exact e2.symm
        · exact (ltB_irrefl (ltB_trans (hL.1 _ e2) (hM.1 _ e))).elim
    subst hxy
    rw [sorted_eq hL.2 hM.2 fun a => ?_]
    constructor
    · intro ha
      rcases List.mem_cons.1 ((h a).1 (List.mem_cons_of_mem _ ha)) with e | e
      · subst e; exact (ltB_irrefl (hL.1 _ ha)).elim
      · exact e
    · intro ha
      rcases List.mem_cons.1 ((h a).2 (List.mem_cons_of_mem _ ha)) with e | e
      · subst e; exact (ltB_irrefl (hM.1 _ ha)).elim
      · exact e
theorem sorted_len {L M : List Lb} (hL : L.Pairwise ltB) (hM : M.Pairwise ltB) (h : ∀ a, a ∈ L → a ∈ M) : L.length ≤ M.length := by
  have e : L = M.filter (fun a => decide (a ∈ L)) := sorted_eq hL (hM.filter _) fun a => by
    rw [List.mem_filter]
    exact ⟨fun ha => ⟨h a ha, decide_eq_true ha⟩, fun ha => of_decide_eq_true ha.2⟩
  rw [e]
  exact List.length_filter_le _ _
theorem compact_sorted {d : Array Lb} (hs : ∀ i j, i < j → j < d.size → ¬ ltB d[j]! d[i]!) :
    ∀ m, m ≤ d.size → (compactUpTo d m).Pairwise ltB ∧ (∀ a, a ∈ compactUpTo d m ↔ ∃ j, j < m ∧ d[j]! = a) ∧ (∀ a ∈ compactUpTo d m, a = d[m - 1]! ∨ ltB a d[m - 1]!)
  | 0, _ => by
    refine ⟨List.Pairwise.nil, fun a => ⟨fun h => (by cases h), fun ⟨j, h, _⟩ => absurd h (Nat.not_lt_zero _)⟩, fun a h => (by cases h)⟩
  | m + 1, hm => by
    obtain ⟨h1, h2, h3⟩ := compact_sorted hs m (by omega)
    rw [compactUpTo_succ]
    show _ ∧ _ ∧ ∀ a ∈ _, a = d[m]! ∨ ltB a d[m]!
    by_cases hk : keeps d m = true
    · rw [if_pos hk]
      have hlt : ∀ a ∈ compactUpTo d m, ltB a d[m]! := fun a ha => by
        by_cases hm0 : m = 0
        · subst hm0; cases ha
        · have hne : d[m]! ≠ d[m - 1]! := by
            have := of_decide_eq_true hk
            rcases this with h | h
            · exact absurd h hm0
            · exact h
          have hl : ltB d[m - 1]! d[m]! := by
            rcases ltB_total d[m - 1]! d[m]! with h | h | h
            · exact h
            · exact absurd h.symm hne
            · exact absurd h (hs (m - 1) m (by omega) (by omega))
          rcases h3 a ha with e | e
          · rw [e]; exact hl
          · exact ltB_trans e hl
      refine ⟨?_, fun a => ?_, fun a ha => ?_⟩
      · rw [List.pairwise_append]
        refine ⟨h1, List.pairwise_singleton _ _, fun a ha b hb => ?_⟩
        rw [List.mem_singleton] at hb
        subst hb
        exact hlt a ha
      · rw [List.mem_append, List.mem_singleton, h2]
        constructor
        · rintro (⟨j, hj, e⟩ | e)
          · exact ⟨j, by omega, e⟩
          · exact ⟨m, by omega, e.symm⟩
        · rintro ⟨j, hj, e⟩
          by_cases hjm : j = m
          · right; subst hjm; exact e.symm
          · left; exact ⟨j, by omega, e⟩
      · rw [List.mem_append, List.mem_singleton] at ha
        rcases ha with ha | ha
        · right; exact hlt a ha
        · left; exact ha
    · rw [if_neg hk, List.append_nil]
      have hk' : m ≠ 0 ∧ d[m]! = d[m - 1]! := by
        have h : ¬ (m = 0 ∨ d[m]! ≠ d[m - 1]!) := fun h => hk (decide_eq_true h)
        exact ⟨fun e => h (Or.inl e), Classical.byContradiction fun e => h (Or.inr e)⟩
      refine ⟨h1, fun a => ?_, fun a ha => ?_⟩
      · rw [h2]
        constructor
        · rintro ⟨j, hj, e⟩; exact ⟨j, by omega, e⟩
        · rintro ⟨j, hj, e⟩
          by_cases hjm : j = m
          · subst hjm; exact ⟨j - 1, by omega, hk'.2 ▸ e⟩
          · exact ⟨j, by omega, e⟩
      · rw [hk'.2]; exact h3 a ha
abbrev Pr3 := Lb × Lb × Int
abbrev Qt := Lb × Int
def okP (labs : List Lb) (P : List Pr3) (i : Nat) (x : Pr3) : Prop := x.1 ∈ labs ∧ x.2.1 ∈ labs ∧ LabC.bB x.1.1 x.1.2 x.2.1.1 x.2.1.2 = false ∧ SpanC.isB x.2.2 1 3 = true ∧ ∀ (k : Nat) y, k < i → P[k]? = some y → ¬ (y.1 = x.1 ∧ y.2.1 = x.2.1)
def PairsR (labs : List Lb) (P : List Pr3) : Prop := P.length ≤ 4 ∧ ∀ (i : Nat) x, P[i]? = some x → okP labs P i x
def okQ (labs : List Lb) (Q : List Qt) (i : Nat) (x : Qt) : Prop := x.1 ∈ labs ∧ SpanC.isB x.2 1 9 = true ∧ (0 < i → ∀ y, Q[i - 1]? = some y → ltB y.1 x.1)
def QuotasR (labs : List Lb) (Q : List Qt) : Prop := ∀ (i : Nat) x, Q[i]? = some x → okQ labs Q i x
theorem quotas_sorted {labs : List Lb} : ∀ {Q : List Qt}, QuotasR labs Q → (Q.map (·.1)).Pairwise ltB
  | [], _ => List.Pairwise.nil
  | [x], _ => List.pairwise_singleton _ _
  | x :: y :: t, h => by
    have ht : QuotasR labs (y :: t) := fun i z hz => by
      obtain ⟨h1, h2, h3⟩ := h (i + 1) z (by simpa using hz)
      refine ⟨h1, h2, fun hi w hw => h3 (by omega) w ?_⟩
      show (x :: y :: t)[i]? = some w
      obtain ⟨i', rfl⟩ : ∃ i', i = i' + 1 := ⟨i - 1, by omega⟩
      simpa using hw
    have hp := quotas_sorted ht
    rw [List.map_cons]
    refine List.pairwise_cons.2 ⟨fun a ha => ?_, hp⟩
    have hxy : ltB x.1 y.1 := (h 1 y rfl).2.2 (by omega) x rfl
    rw [List.map_cons] at ha hp
    rcases List.mem_cons.1 ha with e | e
    · rw [e]; exact hxy
    · exact ltB_trans hxy ((List.pairwise_cons.1 hp).1 a e)
theorem quotas_len {labs : List Lb} {Q : List Qt} (hl : labs.Pairwise ltB) (h : QuotasR labs Q) : Q.length ≤ labs.length := by
  refine Nat.le_trans (Nat.le_of_eq (show (Q.map (·.1)).length = Q.length from List.length_map _).symm) ?_
  refine sorted_len (quotas_sorted h) hl fun a ha => ?_
  obtain ⟨x, hx, rfl⟩ := List.mem_map.1 ha
  obtain ⟨i, hi⟩ := List.getElem?_of_mem hx
  exact (h i x hi).1
end Go.Proofs.YtlgflddljhldhaaGreat.CfC
end
