/- Of this claim's texts the part 27: MlCw HalfG HalfR MlCp. -/
import Derived.Test.YtlgflddljhldhaaGreatPN23
section
namespace Go.Proofs.YtlgflddljhldhaaGreat.RepC
open Go.RowKit RowC ValC SpanC KeptC
set_option linter.unusedVariables false
set_option linter.unusedSimpArgs false
set_option maxRecDepth 100000
theorem rd_twoS {α : Type} {E : Rp α} {w : World} {g : Nat} {t : TypeId} {L M : List α} {a b : Option Addr} {c d : Nat} (h : Blk w g t #[.slice a L.length c, .slice b M.length d]) (hL : RdSl E w w.heap.size L a c) (hM : RdSl E w w.heap.size M b d) : RdSl (Sl E) w w.heap.size [L, M] (some ⟨g, 0, none⟩) 2 := by
  refine ⟨Nat.le_refl _, by unfold maxLen; omega, fun _ => ⟨g, 0, rfl, h.lt, fun i z hz => ?_⟩⟩
  match i, hz with
  | 0, hz =>
    simp at hz
    subst hz
    exact ⟨[.slice a L.length c], fun j u hj => by match j, hj with | 0, hj => simp at hj; subst hj; exact h.at_ 0 rfl | j + 1, hj => simp at hj, a, c, rfl, hL⟩
  | 1, hz =>
    simp at hz
    subst hz
    exact ⟨[.slice b M.length d], fun j u hj => by match j, hj with | 0, hj => simp at hj; subst hj; exact h.at_ 1 rfl | j + 1, hj => simp at hj, b, d, rfl, hM⟩
  | i + 2, hz => simp at hz
set_option maxHeartbeats 1600000 in
theorem moreI_impl {L M : List Int} {a b : Option Addr} {c d : Nat} {W : World} (hn : L.length + M.length ≤ 1073741824) (hL : RdSl I W W.heap.size L a c) (hM : RdSl I W W.heap.size M b d) :
    Calls Tryz.prog 49 #[.slice a L.length c, .slice b M.length d] W (NewS I (L ++ M) W) := by
  obtain ⟨w0, hw0⟩ : ∃ w, w = W.alloc (.cells #[.slice a L.length c, .slice b M.length d] 70) := ⟨_, rfl⟩
  have hb0 : Below W.heap.size W w0 := by rw [hw0]; exact (Below.refl _ _).alloc (Nat.le_refl _) _
  have hbl : Blk w0 W.heap.size 70 #[.slice a L.length c, .slice b M.length d] := by rw [hw0]; exact Blk.new _ _ _
  have hC := rd_twoS hbl ((hL.below I_ok hb0).more I_ok hb0.size) ((hM.below I_ok hb0).more I_ok hb0.size)
  have hf : ([L, M] : List (List Int)).flatten = L ++ M := by simp
  have HC := Lib.hid hC
  have HB0 := Lib.hid hb0
  have HF := Lib.hid hf
  have HN := Lib.hid (show ([L, M] : List (List Int)).flatten.length ≤ 1073741824 from by rw [hf, List.length_append]; exact hn)
  clear hbl hC hb0 hf hL hM hn
  go_enter Tryz.func49, Tryz.ntmps49
  go_wp2_with fail
  rw [← hw0]
  clear hw0
  refine (concatI HN.out HC.out).mono ?_
  intro e w1 h
  obtain ⟨v, lo, rfl, hlo, hlw, hrow, hb⟩ := newI_elim h
  have HB1 := Lib.hid (HB0.out.trans (hb.mono HB0.out.size))
  have hlo0 : W.heap.size ≤ lo := Nat.le_trans HB0.out.size hlo
  have HR := Lib.hid hrow
  clear h hrow hb
  go_wp2
  go_ret
  have hr := HR.out
  rw [HF.out] at hr
  exact hr.news I_ok flat_In hlo0 HB1.out
set_option maxHeartbeats 1600000 in
theorem moreN_impl {L M : List D_Note} {a b : Option Addr} {c d : Nat} {W : World} (hn : L.length + M.length ≤ 1073741824) (hL : RdSl R_Note W W.heap.size L a c) (hM : RdSl R_Note W W.heap.size M b d) :
    Calls Tryz.prog 50 #[.slice a L.length c, .slice b M.length d] W (NewS R_Note (L ++ M) W) := by
  obtain ⟨w0, hw0⟩ : ∃ w, w = W.alloc (.cells #[.slice a L.length c, .slice b M.length d] 71) := ⟨_, rfl⟩
  have hb0 : Below W.heap.size W w0 := by rw [hw0]; exact (Below.refl _ _).alloc (Nat.le_refl _) _
  have hbl : Blk w0 W.heap.size 71 #[.slice a L.length c, .slice b M.length d] := by rw [hw0]; exact Blk.new _ _ _
  have hC := rd_twoS hbl ((hL.below R_Note_ok hb0).more R_Note_ok hb0.size) ((hM.below R_Note_ok hb0).more R_Note_ok hb0.size)
  have hf : ([L, M] : List (List D_Note)).flatten = L ++ M := by simp
  have HC := Lib.hid hC
  have HB0 := Lib.hid hb0
  have HF := Lib.hid hf
  have HN := Lib.hid (show ([L, M] : List (List D_Note)).flatten.length ≤ 1073741824 from by rw [hf, List.length_append]; exact hn)
  clear hbl hC hb0 hf hL hM hn
  go_enter Tryz.func50, Tryz.ntmps50
  go_wp2_with fail
  rw [← hw0]
  clear hw0
  refine (concatN HN.out HC.out).mono ?_
  intro e w1 h
  obtain ⟨v, lo, rfl, hlo, hlw, hrow, hb⟩ := newN_elim h
  have HB1 := Lib.hid (HB0.out.trans (hb.mono HB0.out.size))
  have hlo0 : W.heap.size ≤ lo := Nat.le_trans HB0.out.size hlo
  have HR := Lib.hid hrow
  clear h hrow hb
  go_wp2
  go_ret
  have hr := HR.out
  rw [HF.out] at hr
  exact hr.news R_Note_ok flat_Note hlo0 HB1.out
end Go.Proofs.YtlgflddljhldhaaGreat.RepC
end
section
namespace Go.Proofs.YtlgflddljhldhaaGreat.RepC
open Go.RowKit RowC ValC
set_option linter.unusedVariables false
structure Half {α : Type} (E : Rp α) (B : Nat) (w : World) (lo hi : Nat) (T : TypeId) (v : Value) (L : List α) (k : Nat) (xs : List Value) (Sf : Nat → Nat → Prop) : Prop where
  own : w.ownsRow lo T E.size v L.length xs
  el : ∀ i x, i < k → L[i]? = some x → ∃ us, (∀ j c, us[j]? = some c → xs[i * E.size + j]? = some c) ∧ E.ow w (Sf i) x us
  rest : ∀ i x, k ≤ i → L[i]? = some x → ∃ us, (∀ j c, us[j]? = some c → xs[i * E.size + j]? = some c) ∧ E.rd w B x us
  sub : ∀ i q, Sf i q → lo ≤ q ∧ q < hi ∧ v.ownBlock ≠ some q ∧ i < k
  dis : ∀ i j q, i < j → Sf i q → ¬ Sf j q
  blk : ∀ q, v.ownBlock = some q → lo ≤ q ∧ q < hi
  le : hi ≤ w.heap.size
  base : B ≤ lo
  top : B ≤ w.heap.size
section
variable {α : Type} {E : Rp α} {B : Nat} {w w' w1 : World} {lo hi g n c : Nat} {T : TypeId} {v : Value} {L : List α} {k : Nat} {xs : List Value} {Sf : Nat → Nat → Prop}
theorem Half.done (h : Half E B w lo hi T v L L.length xs Sf) : App E w lo hi T v L xs Sf :=
  ⟨h.own, fun i x hx => h.el i x (List.getElem?_eq_some_iff.1 hx).1 hx, fun i q hq => ⟨(h.sub i q hq).1, (h.sub i q hq).2.1, (h.sub i q hq).2.2.1⟩, h.dis, h.blk, h.le⟩
theorem Half.mv (hE : Ok E) (h : Half E B w lo hi T v L k xs Sf) (hs : w.heap.size ≤ w'.heap.size) (hb : ∀ q, (v.ownBlock = some q ∨ ∃ i, Sf i q) → w'.heap[q]? = w.heap[q]?) (hB : Below B w w') : Half E B w' lo hi T v L k xs Sf := by
  refine ⟨?_, fun i x hi hx => ?_, fun i x hi hx => ?_, h.sub, h.dis, h.blk, Nat.le_trans h.le hs, h.base, Nat.le_trans h.top hs⟩
  · obtain ⟨h1, h2⟩ := h.own
    refine ⟨h1, ?_⟩
    rcases h2 with h2 | ⟨g, cap, cur, rfl, hlo, hg, h3⟩
    · exact .inl h2
    · exact .inr ⟨g, cap, cur, rfl, hlo, (hb g (.inl rfl)).trans hg, h3⟩
  · obtain ⟨us, h1, h2⟩ := h.el i x hi hx
    exact ⟨us, h1, hE.ow_keep h2 fun q hq => hb q (.inr ⟨i, hq⟩)⟩
  · obtain ⟨us, h1, h2⟩ := h.rest i x hi hx
    exact ⟨us, h1, hE.rd_below h2 hB⟩
theorem Half.call (hE : Ok E) (h : Half E B w lo hi T v L k xs Sf) (hb : Below w.heap.size w w') : Half E B w' lo hi T v L k xs Sf := by
  have hle := h.le
  refine h.mv hE hb.size (fun q hq => hb.block q ?_) (hb.mono h.top)
  rcases hq with hq | ⟨i, hq⟩
  · have := h.blk q hq; omega
  · have := h.sub i q hq; omega
theorem Half.at_ (h : Half E B w lo hi T (.slice (some ⟨g, 0, none⟩) n c) L k xs Sf) {i : Nat} {x : α} (hi : k ≤ i) (hx : L[i]? = some x) : ∃ us, CellsAt w g (i * E.size) us ∧ E.rd w B x us ∧ (∀ j c, us[j]? = some c → xs[i * E.size + j]? = some c) := by
  obtain ⟨us, h1, h2⟩ := h.rest i x hi hx
  refine ⟨us, fun j d hj => ?_, h2, h1⟩
  have h4 := h1 j d hj
  rcases h.own.2 with ⟨e, _⟩ | ⟨g', cap, cur, e, hlo, hg, hn, hm, hc, ht⟩
  · cases e
  · cases e
    rw [← ht] at h4
    have h5 : cur.toList[i * E.size + j]? = some d := by
      rw [List.getElem?_take] at h4
      split at h4
      · exact h4
      · cases h4
    exact (cell_of_row w _ _ cur _ _ hg).trans (by simpa using h5)
theorem Half.soft (h : Half E B w lo hi T (.slice (some ⟨g, 0, none⟩) n c) L k xs Sf) (j : Nat) : w.frozen? ⟨g, j, none⟩ = false := by
  rcases h.own.2 with ⟨e, _⟩ | ⟨g', cap, cur, e, hlo, hg, hn, hm, hc, ht⟩
  · cases e
  · cases e
    simp [World.frozen?, hg]
theorem Half.step (hE : Ok E) (h : Half E B w lo hi T (.slice (some ⟨g, 0, none⟩) n c) L k xs Sf) {x : α} (hx : L[k]? = some x) {us : List Value} (hus : ∀ j c, us[j]? = some c → xs[k * E.size + j]? = some c) {p : Nat} (hp : p < E.size) (hul : us.length = E.size) {u : Value}
    (hb : Below w.heap.size w w1) (ho : E.ow w1 (Rg w.heap.size w1.heap.size) x (us.set p u)) :
    ∃ xs' Sf', Half E B (w1.setCell ⟨g, k * E.size + p, none⟩ u) lo w1.heap.size T (.slice (some ⟨g, 0, none⟩) n c) L (k + 1) xs' Sf' ∧ (∀ i q, Sf' i q → Sf i q ∨ Rg w.heap.size w1.heap.size q) := by
  have hle := h.le
  have hbs := hb.size
  have hgb := h.blk g rfl
  have hgl : g < w.heap.size := by omega
  have hkL := (List.getElem?_eq_some_iff.1 hx).1
  have hbB := h.base
  have hsz : (w1.setCell ⟨g, k * E.size + p, none⟩ u).heap.size = w1.heap.size := by simp [World.setCell]
  have hmul : (k + 1) * E.size ≤ L.length * E.size := Nat.mul_le_mul_right _ (by omega)
  rw [Nat.add_mul, Nat.one_mul] at hmul
  have far : ∀ q, q ≠ g → (w1.setCell ⟨g, k * E.size + p, none⟩ u).heap[q]? = w1.heap[q]? := fun q hq => Below.heap_setCell _ _ _ _ hq
  have hB2 : Below B w (w1.setCell ⟨g, k * E.size + p, none⟩ u) := (hb.mono h.top).setCell (p := ⟨g, k * E.size + p, none⟩) (by show B ≤ g; omega) u
  have idx : ∀ i j, i ≠ k → j < E.size → i * E.size + j ≠ k * E.size + p := fun i j hik hj e => by
    have := mul_lt_el (i := k) (j := i) hj (Ne.symm hik)
    rw [Nat.add_mul, Nat.one_mul] at this
    omega
  refine ⟨xs.set (k * E.size + p) u, fun i q => if i = k then Rg w.heap.size w1.heap.size q else Sf i q, ⟨⟨?_, ?_⟩, fun i y hi hy => ?_, fun i y hi hy => ?_, fun i q hq => ?_, fun i j q hij hi => ?_, fun q hq => ?_, by rw [hsz]; exact Nat.le_refl _, h.base, by rw [hsz]; exact Nat.le_trans h.top hbs⟩, fun i q hq => by
    by_cases e : i = k
    · simp only [e, if_true] at hq; exact .inr hq
    · simp only [e, if_false] at hq; exact .inl hq⟩
  · rw [List.length_set]; exact h.own.1
  · rcases h.own.2 with ⟨e, _⟩ | ⟨g', cap, cur, e, hlo, hg, hn, hm, hc, ht⟩
    · cases e
    · cases e
      refine .inr ⟨g, _, cur.setIfInBounds (k * E.size + p) u, rfl, hlo, ?_, hn, hm, by rw [Array.size_setIfInBounds]; exact hc, ?_⟩
      · have h1 : w1.heap[g]? = some (.cells cur T (0, 0)) := (hb.block g hgl).trans hg
        simp [World.setCell, Array.getElem?_modify, h1]
      · rw [Array.toList_setIfInBounds, List.take_set, ht]
  · by_cases e : i = k
    · subst e
      rw [hx] at hy
      obtain rfl := Option.some.inj hy
      refine ⟨us.set p u, fun j d hj => ?_, ?_⟩
      · by_cases ej : j = p
        · subst ej
          rw [List.getElem?_set_self (by omega)] at hj
          cases hj
          rw [List.getElem?_set_self (by rw [h.own.1]; omega)]
        · rw [List.getElem?_set_ne (Ne.symm ej)] at hj
          rw [List.getElem?_set_ne (by omega)]
          exact hus j d hj
      · simp only [if_true]
        exact hE.ow_keep ho fun q hq => far q (by have := hq.1; omega)
    · obtain ⟨vs, h1, h2⟩ := h.el i y (by omega) hy
      refine ⟨vs, fun j d hj => ?_, ?_⟩
      · have hj2 : j < E.size := by rw [← hE.ow_len h2]; exact (List.getElem?_eq_some_iff.1 hj).1
        rw [List.getElem?_set_ne (fun e2 => idx i j e hj2 e2.symm)]
        exact h1 j d hj
      · simp only [e, if_false]
        exact hE.ow_keep h2 fun q hq => (far q (fun e2 => (h.sub i q hq).2.2.1 (by rw [e2]; rfl))).trans (hb.block q (by have := (h.sub i q hq).2.1; omega))
  · obtain ⟨vs, h1, h2⟩ := h.rest i y (by omega) hy
    refine ⟨vs, fun j d hj => ?_, hE.rd_below h2 hB2⟩
    have hj2 : j < E.size := by rw [← hE.rd_len h2]; exact (List.getElem?_eq_some_iff.1 hj).1
    rw [List.getElem?_set_ne (fun e2 => idx i j (by omega) hj2 e2.symm)]
    exact h1 j d hj
  · by_cases e : i = k
    · simp only [e, if_true] at hq
      have := hq.1
      have := hq.2
      refine ⟨by omega, by omega, fun e2 => ?_, by omega⟩
      have e3 : g = q := Option.some.inj e2
      omega
    · simp only [e, if_false] at hq
      have := h.sub i q hq
      exact ⟨this.1, by omega, this.2.2.1, by omega⟩
  · by_cases e1 : i = k
    · subst e1
      simp only [if_true] at hi
      simp only [show j ≠ i by omega, if_false]
      intro hj
      have h1 := (h.sub j q hj).2.1
      have h2 := hi.1
      omega
    · simp only [e1, if_false] at hi
      by_cases e2 : j = k
      · simp only [e2, if_true]
        intro hj
        have h1 := (h.sub i q hi).2.1
        have h2 := hj.1
        omega
      · simp only [e2, if_false]
        exact h.dis i j q hij hi
  · have := h.blk q hq
    omega
end
theorem row_cells {α : Type} {E : Rp α} (hE : Ok E) {w : World} {B g o : Nat} {L : List α} (hel : ∀ i x, L[i]? = some x → ∃ us, CellsAt w g (o + i * E.size) us ∧ E.rd w B x us) :
    ∃ xs : List Value, xs.length = L.length * E.size ∧ CellsAt w g o xs ∧ (∀ u ∈ xs, u.oneCell' = true) ∧ ∀ i x, L[i]? = some x → ∃ us, (∀ j c, us[j]? = some c → xs[i * E.size + j]? = some c) ∧ E.rd w B x us := by
  have key : ∀ n, n ≤ L.length → ∃ xs : List Value, xs.length = n * E.size ∧ CellsAt w g o xs ∧ (∀ u ∈ xs, u.oneCell' = true) ∧ ∀ i x, i < n → L[i]? = some x → ∃ us, (∀ j c, us[j]? = some c → xs[i * E.size + j]? = some c) ∧ E.rd w B x us := by
    intro n
    induction n with
    | zero => exact fun _ => ⟨[], by simp, CellsAt.nil, fun u hu => by simp at hu, fun i x h => absurd h (Nat.not_lt_zero _)⟩
    | succ n ih =>
      intro hn
      obtain ⟨xs, h1, h2, h3, h4⟩ := ih (by omega)
      obtain ⟨x, hx⟩ := el_some (L := L) (k := n) (by omega)
      obtain ⟨us, hu, hr⟩ := hel n x hx
      have hul := hE.rd_len hr
      refine ⟨xs ++ us, by rw [List.length_append, h1, hul, Nat.add_mul, Nat.one_mul], CellsAt.app.2 ⟨h2, by rw [h1]; exact hu⟩, fun u hu2 => ?_, fun i y hi hy => ?_⟩
      · rcases List.mem_append.1 hu2 with h | h
        · exact h3 u h
        · exact hE.one hr u h
      · by_cases e : i = n
        · subst e
          rw [hx] at hy
          obtain rfl := Option.some.inj hy
          refine ⟨us, fun j c hj => ?_, hr⟩
          rw [List.getElem?_append_right (by omega), h1, Nat.add_sub_cancel_left]
          exact hj
        · obtain ⟨vs, h5, h6⟩ := h4 i y (by omega) hy
          refine ⟨vs, fun j c hj => ?_, h6⟩
          have h7 := h5 j c hj
          rw [List.getElem?_append_left (List.getElem?_eq_some_iff.1 h7).1]
          exact h7
  obtain ⟨xs, h1, h2, h3, h4⟩ := key L.length (Nat.le_refl _)
  exact ⟨xs, h1, h2, h3, fun i x hx => h4 i x (List.getElem?_eq_some_iff.1 hx).1 hx⟩
theorem app_half {α : Type} {E : Rp α} (hE : Ok E) {P : Program} {L : List α} {a : Option Addr} {cap : Nat} {w : World} {t ty T : TypeId} {i : TypeInfo} {z : Value} {bytes : Nat} (ht : P.underlying t = some (.slice T)) (hi : P.info? T = some i) (hz : i.zero = some z) (hsize : i.size = E.size) (hby : i.bytes = bytes)
    (hzs : z.cells.size = E.size) (hpos : 0 < E.size) (hn : L.length ≤ maxLen) (hnb : L.length * bytes ≤ 140737488355328) (h : RdSl E w w.heap.size L a cap) :
    ∃ a' c' w' xs, (Builtin.append_ #[t, t] ty #[.slice (some ⟨w.heap.size, 0, none⟩) 0 0, .slice a L.length cap]).run P (w.alloc (.cells #[] T)) = .ok (.slice a' L.length c') w' ∧ Half E w.heap.size w' w.heap.size w'.heap.size T (.slice a' L.length c') L 0 xs (fun _ _ => False) ∧ Below w.heap.size w w' := by
  have hbel : Below w.heap.size w (w.alloc (.cells #[] T)) := (Below.refl _ _).alloc (Nat.le_refl _) _
  by_cases h0 : L.length = 0
  · have hL : L = [] := List.eq_nil_of_length_eq_zero h0
    subst hL
    refine ⟨_, _, _, [], app_nil ht hi _ a 0 cap, ⟨(App.made E w T).own, fun i x hi => absurd hi (Nat.not_lt_zero _), fun i x _ hx => by simp at hx, fun i q hq => hq.elim, fun i j q _ hq => hq.elim, fun q hq => ?_, Nat.le_refl _, Nat.le_refl _, hbel.size⟩, hbel⟩
    cases hq
    exact ⟨Nat.le_refl _, by simp⟩
  · obtain ⟨g, o, rfl, hg, hel⟩ := h.2.2 (by omega)
    obtain ⟨xs, h1, h2, h3, h4⟩ := row_cells hE hel
    obtain ⟨v', w', hrun, hown, hgr, hnone, hat⟩ := run_append_own_at (P := P) (w.alloc (.cells #[] T)) w.heap.size t ty T i z E.size bytes ht hi hz hsize hby hzs hpos _ 0 [] (App.made E w T).own ⟨g, o, none⟩ L.length cap xs h1
      (fun j u hj => by
        have hadd : (⟨g, o, none⟩ : Addr).add j = ⟨g, o + j, none⟩ := by unfold Addr.add; split <;> simp_all
        rw [hadd]
        exact (hbel.cell (p := ⟨g, o + j, none⟩) hg).trans (h2 j u hj)) h3 (by omega) (by simpa using hnb) (by simp)
    rw [Nat.zero_add, List.nil_append] at hown
    have hb2 : Below w.heap.size w w' := hbel.trans (by
      refine ⟨hgr.os, hgr.tape, hgr.output, hgr.size, fun k hk => hgr.block k (by simp; omega) (fun e => by cases e; exact Nat.lt_irrefl _ hk)⟩)
    rcases hown.2 with ⟨hn0, hL0⟩ | ⟨g', cap', cur, rfl, hlo, hgg, hnc, hm, hc, htk⟩
    · omega
    · have hgl : g' < w'.heap.size := (Array.getElem?_eq_some_iff.1 hgg).1
      refine ⟨_, cap', w', xs, hrun, ⟨hown, fun i x hi => absurd hi (Nat.not_lt_zero _), fun i x _ hx => ?_, fun i q hq => hq.elim, fun i j q _ hq => hq.elim, fun q hq => ?_, Nat.le_refl _, Nat.le_refl _, hb2.size⟩, hb2⟩
      · obtain ⟨us, h5, h6⟩ := h4 i x hx
        exact ⟨us, h5, hE.rd_below h6 hb2⟩
      · cases hq
        exact ⟨hlo, hgl⟩
end Go.Proofs.YtlgflddljhldhaaGreat.RepC
end
section
namespace Go.Proofs.YtlgflddljhldhaaGreat.RepC
open Go.RowKit RowC ValC
set_option linter.unusedVariables false
set_option linter.unusedSimpArgs false
def HalfR {α : Type} (E : Rp α) (T : TypeId) (L : List α) (w : World) (e : Ending) (w' : World) : Prop := ∃ a cap xs, e = .returned (.slice a L.length cap) ∧ Half E w.heap.size w' w.heap.size w'.heap.size T (.slice a L.length cap) L 0 xs (fun _ _ => False) ∧ Below w.heap.size w w'
theorem halfR_elim {α : Type} {E : Rp α} {T : TypeId} {L : List α} {w : World} {e : Ending} {w' : World} (h : HalfR E T L w e w') : ∃ a cap xs, e = .returned (.slice a L.length cap) ∧ Half E w.heap.size w' w.heap.size w'.heap.size T (.slice a L.length cap) L 0 xs (fun _ _ => False) ∧ Below w.heap.size w w' := h
theorem half_nil {α : Type} (E : Rp α) (T : TypeId) (w : World) : Half E w.heap.size w w.heap.size w.heap.size T (.slice none 0 0) ([] : List α) 0 [] (fun _ _ => False) :=
  ⟨⟨by simp, .inl ⟨rfl, rfl⟩⟩, fun i x hi => absurd hi (Nat.not_lt_zero _), fun i x _ hx => by simp at hx, fun i q hq => hq.elim, fun i j q _ hq => hq.elim, fun q hq => (by cases hq), Nat.le_refl _, Nat.le_refl _, Nat.le_refl _⟩
end Go.Proofs.YtlgflddljhldhaaGreat.RepC
end
section
namespace Go.Proofs.YtlgflddljhldhaaGreat.RepC
open Go.RowKit RowC ValC SpanC KeptC
set_option linter.unusedVariables false
set_option linter.unusedSimpArgs false
theorem Half.step3 {α : Type} {E : Rp α} {B : Nat} {w w1 : World} {lo hi g n c : Nat} {T : TypeId} {L : List α} {k : Nat} {xs : List Value} {Sf : Nat → Nat → Prop} (hE : Ok E) (h3 : E.size = 3) (h : Half E B w lo hi T (.slice (some ⟨g, 0, none⟩) n c) L k xs Sf) {x : α} (hx : L[k]? = some x) {v0 v1 v2 : Value}
    (hb : Below w.heap.size w w1) (ho : E.ow w1 (Rg w.heap.size w1.heap.size) x [v0, v1, v2]) :
    ∃ xs' Sf', Half E B (((w1.setCell ⟨g, k * 3, none⟩ v0).setCell ⟨g, k * 3 + 1, none⟩ v1).setCell ⟨g, k * 3 + 2, none⟩ v2) lo w1.heap.size T (.slice (some ⟨g, 0, none⟩) n c) L (k + 1) xs' Sf' := by
  have hle := h.le
  have hbs := hb.size
  have hgb := h.blk g rfl
  have hgl : g < w.heap.size := by omega
  have hkL := (List.getElem?_eq_some_iff.1 hx).1
  have hbB := h.base
  have hxl := h.own.1
  rw [h3] at hxl
  obtain ⟨W2, hW2⟩ : ∃ W2, W2 = ((w1.setCell ⟨g, k * 3, none⟩ v0).setCell ⟨g, k * 3 + 1, none⟩ v1).setCell ⟨g, k * 3 + 2, none⟩ v2 := ⟨_, rfl⟩
  rw [← hW2]
  have hsz : W2.heap.size = w1.heap.size := by rw [hW2]; simp [World.setCell]
  have far : ∀ q, q ≠ g → W2.heap[q]? = w1.heap[q]? := fun q hq => by
    rw [hW2]
    exact (Below.heap_setCell _ _ _ _ hq).trans ((Below.heap_setCell _ _ _ _ hq).trans (Below.heap_setCell _ _ _ _ hq))
  have hB2 : Below B w W2 := by
    rw [hW2]
    exact (((hb.mono h.top).setCell (p := ⟨g, k * 3, none⟩) (by show B ≤ g; omega) v0).setCell (p := ⟨g, k * 3 + 1, none⟩) (by show B ≤ g; omega) v1).setCell (p := ⟨g, k * 3 + 2, none⟩) (by show B ≤ g; omega) v2
  have near : ∀ j d, ([v0, v1, v2] : List Value)[j]? = some d → (((xs.set (k * 3) v0).set (k * 3 + 1) v1).set (k * 3 + 2) v2)[k * E.size + j]? = some d := fun j d hj => by
    rw [h3]
    match j, hj with
    | 0, hj => simp at hj; subst hj; rw [List.getElem?_set_ne (by omega), List.getElem?_set_ne (by omega), Nat.add_zero, List.getElem?_set_self (by omega)]
    | 1, hj => simp at hj; subst hj; rw [List.getElem?_set_ne (by omega), List.getElem?_set_self (by rw [List.length_set]; omega)]
    | 2, hj => simp at hj; subst hj; rw [List.getElem?_set_self (by rw [List.length_set, List.length_set]; omega)]
    | j + 3, hj => simp at hj
  have other : ∀ i j d, i ≠ k → j < 3 → xs[i * E.size + j]? = some d → (((xs.set (k * 3) v0).set (k * 3 + 1) v1).set (k * 3 + 2) v2)[i * E.size + j]? = some d := fun i j d hik hj hd => by
    rw [h3] at hd ⊢
    have h1 : i * 3 + j ≠ k * 3 ∧ i * 3 + j ≠ k * 3 + 1 ∧ i * 3 + j ≠ k * 3 + 2 := by omega
    rw [List.getElem?_set_ne (Ne.symm h1.2.2), List.getElem?_set_ne (Ne.symm h1.2.1), List.getElem?_set_ne (Ne.symm h1.1)]
    exact hd
  refine ⟨((xs.set (k * 3) v0).set (k * 3 + 1) v1).set (k * 3 + 2) v2, fun i q => if i = k then Rg w.heap.size w1.heap.size q else Sf i q, ⟨⟨?_, ?_⟩, fun i y hi hy => ?_, fun i y hi hy => ?_, fun i q hq => ?_, fun i j q hij hi => ?_, fun q hq => ?_, by rw [hsz]; exact Nat.le_refl _, h.base, by rw [hsz]; exact Nat.le_trans h.top hbs⟩⟩
  · rw [List.length_set, List.length_set, List.length_set]; exact h.own.1
  · rcases h.own.2 with ⟨e, _⟩ | ⟨g', cap, cur, e, hlo, hg, hn, hm, hc, ht⟩
    · cases e
    · cases e
      refine .inr ⟨g, _, ((cur.setIfInBounds (k * 3) v0).setIfInBounds (k * 3 + 1) v1).setIfInBounds (k * 3 + 2) v2, rfl, hlo, ?_, hn, hm, by rw [Array.size_setIfInBounds, Array.size_setIfInBounds, Array.size_setIfInBounds]; exact hc, ?_⟩
      · have h1 : w1.heap[g]? = some (.cells cur T (0, 0)) := (hb.block g hgl).trans hg
        rw [hW2]
        simp [World.setCell, Array.getElem?_modify, h1]
      · rw [Array.toList_setIfInBounds, Array.toList_setIfInBounds, Array.toList_setIfInBounds, List.take_set, List.take_set, List.take_set, ht]
  · by_cases e : i = k
    · subst e
      rw [hx] at hy
      obtain rfl := Option.some.inj hy
      refine ⟨[v0, v1, v2], near, ?_⟩
      simp only [if_true]
      exact hE.ow_keep ho fun q hq => far q (by have := hq.1; omega)
    · obtain ⟨vs, h1, h2⟩ := h.el i y (by omega) hy
      refine ⟨vs, fun j d hj => ?_, ?_⟩
      · exact other i j d e (by rw [← h3, ← hE.ow_len h2]; exact (List.getElem?_eq_some_iff.1 hj).1) (h1 j d hj)
      · simp only [e, if_false]
        exact hE.ow_keep h2 fun q hq => (far q (fun e2 => (h.sub i q hq).2.2.1 (by rw [e2]; rfl))).trans (hb.block q (by have := (h.sub i q hq).2.1; omega))
  · obtain ⟨vs, h1, h2⟩ := h.rest i y (by omega) hy
    exact ⟨vs, fun j d hj => other i j d (by omega) (by rw [← h3, ← hE.rd_len h2]; exact (List.getElem?_eq_some_iff.1 hj).1) (h1 j d hj), hE.rd_below h2 hB2⟩
  · by_cases e : i = k
    · simp only [e, if_true] at hq
      have := hq.1
      have := hq.2
      refine ⟨by omega, by omega, fun e2 => ?_, by omega⟩
      have e3 : g = q := Option.some.inj e2
      omega
    · simp only [e, if_false] at hq
      have := h.sub i q hq
      exact ⟨this.1, by omega, this.2.2.1, by omega⟩
  · by_cases e1 : i = k
    · subst e1
      simp only [if_true] at hi
      simp only [show j ≠ i by omega, if_false]
      intro hj
      have h1 := (h.sub j q hj).2.1
      have h2 := hi.1
      omega
    · simp only [e1, if_false] at hi
      by_cases e2 : j = k
      · simp only [e2, if_true]
        intro hj
        have h1 := (h.sub i q hi).2.1
        have h2 := hj.1
        omega
      · simp only [e2, if_false]
        exact h.dis i j q hij hi
  · have := h.blk q hq
    omega
set_option maxHeartbeats 1600000 in
theorem clone_box {L : List D_Box} {a : Option Addr} {cap : Nat} {W : World} (hn : L.length ≤ 1048576) (h : RdSl R_Box W W.heap.size L a cap) :
    Calls Tryz.prog 83 #[.slice a L.length cap] W (HalfR R_Box 73 L W) := by
  have qT : ∀ (w : World) (a : Option Addr) (n c n' c' : Nat), (binOp .eql 34 (.slice a n c) (.slice none n' c')).run Tryz.prog w = .ok (.bool a.isNone) w := fun w a n c n' c' => Lib.run_eql_slice_nil w _ _ a n c n' c' Tryz.underlying34
  cases a with
  | none =>
    have h0 : L.length = 0 := by
      by_cases hp : 0 < L.length
      · obtain ⟨g, o, he, _⟩ := h.2.2 hp
        cases he
      · omega
    have hL : L = [] := List.eq_nil_of_length_eq_zero h0
    subst hL
    go_enter Tryz.func83, Tryz.ntmps83
    go_wp2
    go_ret
    exact ⟨none, 0, _, rfl, half_nil R_Box _ _, Below.refl _ _⟩
  | some x =>
    obtain ⟨iL, hiL, hzL1, hsL, hbL⟩ := infoBox
    obtain ⟨a', c', w5, xs, hr, hos, hb⟩ := app_half (P := Tryz.prog) (ty := 34) R_Box_ok Tryz.underlying34 hiL hzL1 hsL hbL rfl (by decide) (by unfold maxLen; omega) (by omega) h
    clear hiL hzL1 hsL hbL
    have HR := Lib.hid hr
    have HO := Lib.hid hos
    have HB := Lib.hid hb
    clear hr hos hb h
    go_enter Tryz.func83, Tryz.ntmps83
    go_wp2_with (at_builtin; refine wpList_app rfl (.tmp 5) (.tmp 6) 34 rfl rfl rfl HR.out ?_)
    go_ret
    exact ⟨a', c', xs, rfl, HO.out, HB.out⟩
theorem nil_rd {α : Type} {E : Rp α} {W : World} {B : Nat} : RdSl E W B ([] : List α) none 0 := ⟨Nat.le_refl _, by unfold maxLen; omega, fun h => absurd h (Nat.lt_irrefl _)⟩
theorem same_I {L : List Int} {a : Option Addr} {c : Nat} {W : World} (hn : L.length ≤ 1073741824) (hL : RdSl I W W.heap.size L a c) : Calls Tryz.prog 49 #[.slice a L.length c, .slice none 0 0] W (NewS I L W) := by
  have h := moreI_impl (M := []) (b := none) (d := 0) (by simpa using hn) hL nil_rd
  rw [List.append_nil] at h
  exact h
theorem same_N {L : List D_Note} {a : Option Addr} {c : Nat} {W : World} (hn : L.length ≤ 1073741824) (hL : RdSl R_Note W W.heap.size L a c) : Calls Tryz.prog 50 #[.slice a L.length c, .slice none 0 0] W (NewS R_Note L W) := by
  have h := moreN_impl (M := []) (b := none) (d := 0) (by simpa using hn) hL nil_rd
  rw [List.append_nil] at h
  exact h
set_option maxRecDepth 100000 in
set_option maxHeartbeats 6400000 in
theorem copied_m {M : List D_Box} {xa : Option Addr} {xc : Nat} {W : World} (hn : M.length ≤ 4096) (hM : ∀ x ∈ M, x.1.length ≤ 1048576 ∧ x.2.1.length ≤ 1048576 ∧ x.2.2.length ≤ 1048576) (hX : RdSl R_Box W W.heap.size M xa xc) :
    Calls Tryz.prog 48 #[.agg #[.slice xa M.length xc]] W (NewV R_Mail M W) := by
  have HS := Lib.hid hM
  clear hM
  obtain ⟨w0, hw0⟩ : ∃ w, w = (W.alloc (.cells #[.slice xa M.length xc] 36)).alloc (.cells #[.slice none 0 0] 36) := ⟨_, rfl⟩
  have hb0 : Below W.heap.size W w0 := by rw [hw0]; exact ((Below.refl _ _).alloc (Nat.le_refl _) _).alloc (by simp) _
  have x0_ : Blk w0 (W.heap.size) 36 #[.slice xa M.length xc] := by
    have h9 := Blk.new W 36 #[.slice xa M.length xc]
    try simp only [World.size_alloc] at h9
    rw [hw0]; exact (h9.alloc _)
  have X0 := Lib.hid x0_
  have x1_ : Blk w0 (W.heap.size + 1) 36 #[.slice none 0 0] := by
    have h9 := Blk.new (W.alloc (.cells #[.slice xa M.length xc] 36)) 36 #[.slice none 0 0]
    try simp only [World.size_alloc] at h9
    rw [hw0]; exact h9
  have X1 := Lib.hid x1_
  have HX := Lib.hid (rd_mv R_Box_ok hX hb0)
  have HB0 := Lib.hid hb0
  have hz0 := hb0.size
  clear hb0 hX x0_ x1_
  go_enter Tryz.func48, Tryz.ntmps48
  go_upto_region 1 with fail
  rw [← hw0]
  clear hw0
  have q0 := X0.out.at_ 0 rfl
  go_wp2_with fail
  refine (clone_box (by omega) HX.out).mono ?_
  intro e v1 h
  obtain ⟨ja, jc, xs0, rfl, hh, hb⟩ := halfR_elim h
  have HH1 := Lib.hid hh
  have X3 := Lib.hid (X1.out.call hb)
  have HB1 := Lib.hid hb
  have hz1 := hb.size
  clear h hh hb q0
  go_wp2
  go_loopw [11] (fun i wr => ∃ k : Nat, k ≤ M.length ∧ i = .int .i64 k ∧ Hid (∃ hi xs Sf, Half R_Box w0.heap.size wr w0.heap.size hi 73 (.slice ja M.length jc) M k xs Sf) ∧ Below w0.heap.size w0 wr) (fun i _ => M.length - (intOf i).toNat)
  case atStart => exact ⟨0, Nat.zero_le _, rfl, Lib.hid ⟨_, _, _, HH1.out⟩, HB1.out⟩
  case round =>
    obtain ⟨k, hk, rfl, HH, hB⟩ := hrel
    obtain ⟨hi, xs, Sf, hh⟩ := HH.out
    have HHx := Lib.hid hh
    have HB := Lib.hid hB
    have hsz := hB.size
    by_cases hlt : k < M.length
    · have hdl : decide ((k : Int) < (M.length : Int)) = true := decide_eq_true (by omega)
      obtain ⟨⟨F, G, L⟩, hx⟩ := el_some hlt
      have HXx := Lib.hid hx
      obtain ⟨hl0, hl1, hl2⟩ := HS.out _ (List.mem_of_getElem? hx)
      have HL0 := Lib.hid (show F.length ≤ 1073741824 from Nat.le_trans hl0 (by omega))
      have HL1 := Lib.hid (show G.length ≤ 1073741824 from Nat.le_trans hl1 (by omega))
      have HL2 := Lib.hid (show L.length ≤ 1073741824 from Nat.le_trans hl2 (by omega))
      obtain ⟨g, rfl⟩ : ∃ g, ja = some ⟨g, 0, none⟩ := by
        obtain ⟨h0, h1⟩ := hh.own
        rcases h1 with ⟨e, h1⟩ | ⟨g, c', cur, e, _⟩
        · omega
        · cases e; exact ⟨g, rfl⟩
      obtain ⟨us, hu, hr, hus⟩ := HHx.out.at_ (Nat.le_refl _) hx
      have hgb := HHx.out.blk g rfl
      have hgl : g < wr.heap.size := Nat.lt_of_lt_of_le hgb.2 HHx.out.le
      obtain ⟨fa, fc, ga, gc, la, lc, rfl, k_F, k_G, k_L⟩ := rd_Box hr
      have e0 : wr.cell? ⟨g, k * 3, none⟩ = some (.slice fa F.length fc) := by simpa [size_BoxS, Nat.add_assoc] using hu 0 _ rfl
      have e1 : wr.cell? ⟨g, k * 3 + 1, none⟩ = some (.slice ga G.length gc) := by simpa [size_BoxS, Nat.add_assoc] using hu 1 _ rfl
      have e2 : wr.cell? ⟨g, k * 3 + 2, none⟩ = some (.slice la L.length lc) := by simpa [size_BoxS, Nat.add_assoc] using hu 2 _ rfl
      have E0 := Lib.hid e0
      have E1 := Lib.hid e1
      have E2 := Lib.hid e2
      have hi0 : (0 : Int) ≤ (k : Int) := Int.natCast_nonneg _
      have hi1 : (k : Int) < (M.length : Int) := by omega
      obtain ⟨w2, hw2⟩ : ∃ w, w = wr.alloc (.cells #[.slice fa F.length fc, .slice ga G.length gc, .slice la L.length lc] 73) := ⟨_, rfl⟩
      have hb2 : Below wr.heap.size wr w2 := by rw [hw2]; exact (Below.refl _ _).alloc (Nat.le_refl _) _
      have T2 := Lib.hid (show Blk w2 wr.heap.size 73 #[.slice fa F.length fc, .slice ga G.length gc, .slice la L.length lc] from by rw [hw2]; exact Blk.new _ _ _)
      have HB2 := Lib.hid hb2
      have hz2 := hb2.size
      have HKF := Lib.hid ((k_F.below I_ok (hb2.mono hsz)).more I_ok (Nat.le_trans hsz hb2.size))
      have HKG := Lib.hid ((k_G.below I_ok (hb2.mono hsz)).more I_ok (Nat.le_trans hsz hb2.size))
      have HKL := Lib.hid ((k_L.below R_Note_ok (hb2.mono hsz)).more R_Note_ok (Nat.le_trans hsz hb2.size))
      clear hB hx hu hr hh hb2 k_F k_G k_L hus hl0 hl1 hl2
      go_upto_region 5 with fail
      rw [← hw2]
      clear hw2 e0 e1 e2
      refine kregion [13] (S := (fun V => Below w2.heap.size w2 V)) (by kernel_rfl) ((Below.refl _ _).drew) (fun hHeld => ?_)
      refine kp 0 ?_
      refine kp 1 ?_
      refine kp 2 ?_
      refine kk 3 hHeld ?_ (hy := fun w hSw => by (try dsimp only at hSw); have k0 := (hSw.cell (p := ⟨wr.heap.size, 0, none⟩) T2.out.lt).trans (T2.out.at_ 0 rfl); clear hSw; go_simp; try with_reducible rfl)
      refine kp 5 ?_
      refine kk 6 hHeld ?_ (hy := fun w hSw => by (try dsimp only at hSw); have k0 := (hSw.cell (p := ⟨wr.heap.size, 1, none⟩) T2.out.lt).trans (T2.out.at_ 1 rfl); clear hSw; go_simp; try with_reducible rfl)
      refine kp 8 ?_
      refine kk 9 hHeld ?_ (hy := fun w hSw => by (try dsimp only at hSw); have k0 := (hSw.cell (p := ⟨wr.heap.size, 2, none⟩) T2.out.lt).trans (T2.out.at_ 2 rfl); clear hSw; go_simp; try with_reducible rfl)
      refine kr (rs := [4]) (by kernel_rfl) (by simp) (AllK.cons rfl (fun K hK => ?_) AllK.nil)
      go_simp
      go_at_call 49
      refine (same_I HL0.out (rd_mv I_ok HKF.out hHeld)).mono ?_
      intro e u1 h
      obtain ⟨p0, r0, rfl, ho, hb⟩ := newS_elim h
      have HO0 := Lib.hid (show OwSl I u1 (Rg w2.heap.size u1.heap.size) F p0 r0 from ho)
      have HZ0 := Lib.hid (show w2.heap.size ≤ u1.heap.size from hb.size)
      refine hK.out _ _ (hHeld.trans (hb.mono hHeld.size)) (fun hHeld => ?_)
      clear hK K h ho hb
      refine kr (rs := [7]) (by kernel_rfl) (by simp) (AllK.cons rfl (fun K hK => ?_) AllK.nil)
      go_simp
      go_at_call 49
      refine (same_I HL1.out (rd_mv I_ok HKG.out hHeld)).mono ?_
      intro e u2 h
      obtain ⟨p1, r1, rfl, ho, hb⟩ := newS_elim h
      have HO1 := Lib.hid (show OwSl I u2 (Rg u1.heap.size u2.heap.size) G p1 r1 from ho)
      have HZ1 := Lib.hid (show u1.heap.size ≤ u2.heap.size from hb.size)
      have HO0 := Lib.hid (HO0.out.keep I_ok fun q hq => hb.block q (by have h1 := hq.2; omega))
      refine hK.out _ _ (hHeld.trans (hb.mono hHeld.size)) (fun hHeld => ?_)
      clear hK K h ho hb
      refine kr (rs := [10]) (by kernel_rfl) (by simp) (AllK.cons rfl (fun K hK => ?_) AllK.nil)
      go_simp
      go_at_call 50
      refine (same_N HL2.out (rd_mv R_Note_ok HKL.out hHeld)).mono ?_
      intro e u3 h
      obtain ⟨p2, r2, rfl, ho, hb⟩ := newS_elim h
      have HO2 := Lib.hid (show OwSl R_Note u3 (Rg u2.heap.size u3.heap.size) L p2 r2 from ho)
      have HZ2 := Lib.hid (show u2.heap.size ≤ u3.heap.size from hb.size)
      have HO0 := Lib.hid (HO0.out.keep I_ok fun q hq => hb.block q (by have h1 := hq.2; have y1 := HZ1.out; omega))
      have HO1 := Lib.hid (HO1.out.keep I_ok fun q hq => hb.block q (by have h1 := hq.2; omega))
      refine hK.out _ _ (hHeld.trans (hb.mono hHeld.size)) (fun hHeld => ?_)
      clear hK K h ho hb
      refine kp 11 ?_
      refine kp 12 ?_
      refine kr (rs := [13]) (by kernel_rfl) (by simp) (AllK.last (by simp) rfl (fun K hK => ?_))
      have hbw : Below wr.heap.size wr u3 := HB2.out.trans (hHeld.mono hz2)
      have hox : R_Box.ow u3 (Rg wr.heap.size u3.heap.size) (F, G, L) [.slice p0 F.length r0, .slice p1 G.length r1, .slice p2 L.length r2] := mkow_Box (T0 := Rg w2.heap.size u1.heap.size) (T1 := Rg u1.heap.size u2.heap.size) (T2 := Rg u2.heap.size u3.heap.size) (fun q hq => by have h1 := HZ1.out; have h2 := HZ2.out; exact ⟨by have := hq.1; omega, by have := hq.2; omega⟩) (fun q hq => by have h1 := HZ1.out; have h2 := HZ2.out; have h0 := HZ0.out; exact ⟨by have := hq.1; omega, by have := hq.2; omega⟩) (fun q hq => by have h1 := HZ1.out; have h2 := HZ2.out; have h0 := HZ0.out; exact ⟨by have := hq.1; omega, by have := hq.2; omega⟩) (fun q h1 h2 => by have := h1.2; have := h2.1; omega) (fun q h1 h2 => by have := h1.2; have := h2.1; have := HZ1.out; omega) (fun q h1 h2 => by have := h1.2; have := h2.1; omega) HO0.out HO1.out HO2.out
      obtain ⟨xs', Sf', hH⟩ := HHx.out.step3 R_Box_ok size_BoxS HXx.out hbw hox
      have HH5 := Lib.hid (show ∃ hi xs Sf, Half R_Box w0.heap.size _ w0.heap.size hi 73 (.slice (some ⟨g, 0, none⟩) M.length jc) M (k + 1) xs Sf from ⟨_, _, _, hH⟩)
      have HBN := Lib.hid ((((HB.out.trans (hbw.mono hsz)).setCell (p := ⟨g, k * 3, none⟩) hgb.1 (.slice p0 F.length r0)).setCell (p := ⟨g, k * 3 + 1, none⟩) hgb.1 (.slice p1 G.length r1)).setCell (p := ⟨g, k * 3 + 2, none⟩) hgb.1 (.slice p2 L.length r2))
      have a0 := (hbw.cell (p := ⟨g, k * 3, none⟩) hgl).trans E0.out
      have b0 := (hbw.frozen (p := ⟨g, k * 3, none⟩) hgl).trans (HHx.out.soft (k * 3))
      have a1 := (hbw.cell (p := ⟨g, k * 3 + 1, none⟩) hgl).trans E1.out
      have b1 := (hbw.frozen (p := ⟨g, k * 3 + 1, none⟩) hgl).trans (HHx.out.soft (k * 3 + 1))
      have a2 := (hbw.cell (p := ⟨g, k * 3 + 2, none⟩) hgl).trans E2.out
      have b2 := (hbw.frozen (p := ⟨g, k * 3 + 2, none⟩) hgl).trans (HHx.out.soft (k * 3 + 2))
      clear hH hox hbw hHeld
      go_simp
      refine hK.out _ _ ?_
      clear hK K a0 b0 a1 b1 a2 b2
      refine k0 ?_
      go_wp2
      go_roundw
      case rel => exact ⟨k + 1, by omega, by go_num, HH5, HBN.out⟩
      case measure => simp [intOf]; omega
    · have hdl : decide ((k : Int) < (M.length : Int)) = false := decide_eq_false (by omega)
      obtain rfl : k = M.length := by omega
      obtain ⟨ra, rc, hv, ho⟩ := HHx.out.done.done
      have HO := Lib.hid (show OwSl R_Box wr (Rg w0.heap.size wr.heap.size) M ja jc from by cases hv; exact ho.more fun q hq => ⟨hq.1, Nat.lt_of_lt_of_le hq.2 HHx.out.le⟩)
      have X4 := Lib.hid (X1.out.call hB)
      have HBZ := Lib.hid (HB0.out.trans (hB.mono hz0))
      have q1 := X4.out.at_ 0 rfl
      have s1 := X4.out.soft 0
      clear hB hv ho hh
      go_wp2
      refine bodyPost_ret (v := .agg #[.slice ja M.length jc]) (by simp [results, Tryz.results48, go_sem, *]) rfl ⟨[.slice ja M.length jc], rfl, ?_, HBZ.out.setCell (p := ⟨W.heap.size + 1, 0, none⟩) (by show W.heap.size ≤ W.heap.size + 1; omega) _⟩
      have hl := X1.out.lt
      have hfin := mkow_Mail (W := wr.setCell ⟨W.heap.size + 1, 0, none⟩ (.slice ja M.length jc)) (S := Rg W.heap.size wr.heap.size) (T0 := Rg w0.heap.size wr.heap.size) (fun q hq => ⟨Nat.le_trans hz0 hq.1, hq.2⟩) (HO.out.keep R_Box_ok fun q hq => Below.heap_setCell _ _ _ _ (fun e => by have h1 := hq.1; have e2 : q = W.heap.size + 1 := e; omega))
      simpa [World.setCell] using hfin
end Go.Proofs.YtlgflddljhldhaaGreat.RepC
end
