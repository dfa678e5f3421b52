/- Of this claim's texts the part 21: Kp ARw MlB. -/
import Derived.Test.YtlgflddljhldhaaGreatPL5
import Derived.Test.YtlgflddljhldhaaGreatPL13
section
namespace Go.Proofs.YtlgflddljhldhaaGreat
section
variable {P : Program} {ops : Array Oper} {Q : Exit → Act → World → Prop} {md : Region.Mode} {S : World → Prop} {fs : List Nat}
def wpK (P : Program) (md : Region.Mode) (ops : Array Oper) (Q : Exit → Act → World → Prop) (S : World → Prop) (fs : List Nat) : Nat → Array Bool → Act → World → Prop
  | 0, l, a, w => Region.ready md ops l = [] ∧ Q .normal a w
  | n + 1, l, a, w => (Region.ready md ops l = [] → Q .normal a w) ∧ ∀ i ∈ Region.ready md ops l, wpOp P ops Q i (fun a' w' => (i ∈ fs ∨ (S w → S w')) ∧ wpK P md ops Q S fs n (l.setIfInBounds i true) a' w') a w
theorem wpK_any : ∀ (n : Nat) (l : Array Bool) (a : Act) (w : World), wpK P md ops Q S fs n l a w → wpAny P md ops Q n l a w
  | 0, _, _, _, h => h
  | n + 1, _, _, _, h => ⟨h.1, fun i hi => wpOp_mono (fun a' w' k => wpK_any n _ a' w' k.2) (h.2 i hi)⟩
def behind (md : Region.Mode) (ops : Array Oper) (f i : Nat) : Bool := match ops[f]? with
  | some o => o.after.any fun e => Region.binds md e && e.on == i
  | none => false
theorem behind_not {f i : Nat} {l : Array Bool} (hb : behind md ops f i = true) (hi : l.getD i true = false) : f ∉ Region.ready md ops l := fun h => by
  obtain ⟨_, o, ho, hall⟩ := mem_ready.1 h
  unfold behind at hb
  rw [ho] at hb
  simp only [Array.any_eq_true', Bool.and_eq_true, beq_iff_eq] at hb
  obtain ⟨e, he, h1, h2⟩ := hb
  have h3 := hall e he h1
  rw [h2] at h3
  by_cases hlt : i < l.size
  · simp [Array.getD, hlt] at hi h3
    rw [hi] at h3
    cases h3
  · simp [Array.getD, hlt] at h3
theorem wpK_first {R : World → Prop} {i : Nat} {oi : Oper} {v : Value} (hi : ops[i]? = some oi) (hsel : ∀ (j : Nat) (o : Oper) cs b, ops[j]? = some o → o.op ≠ .select cs b) (hQ : ∀ c a w, Q (.panic c) (a.put oi.dst v) w → Q (.panic c) a w) (hb : (∀ w, R w) ∨ (R = S ∧ fs.all (fun f => behind md ops f i) = true)) :
    ∀ (n : Nat) (l : Array Bool) (a : Act) (w : World), (∀ j oj, ops[j]? = some oj → j ≠ i → l.getD j true = false → (∀ e ∈ oj.after, Region.binds md e = true → e.on ≠ i) → oi.apart ops oj = true) → i ∈ Region.ready md ops l → YieldsIf P ops R oi v a → R w →
      wpK P md ops Q S fs n (l.setIfInBounds i true) (a.put oi.dst v) w → wpK P md ops Q S fs (n + 1) l a w := by
  intro n
  induction n with
  | zero =>
    intro l a w _ hr hy hS H
    refine ⟨fun h => (by rw [h] at hr; cases hr), fun j hj => ?_⟩
    rcases Nat.decEq j i with hne | he
    · have h0 := ready_mono hj hne
      rw [H.1] at h0
      cases h0
    · subst he
      exact hy.wpOp hi hS ⟨.inr fun h => h, H⟩
  | succ n ih =>
    intro l a w hfree hr hy hS H
    have hun := (mem_ready.1 hr).1
    refine ⟨fun h => (by rw [h] at hr; cases hr), fun j hj => ?_⟩
    rcases Nat.decEq j i with hne | he
    · have hstep : ∀ w', (j ∈ fs ∨ (S w → S w')) → R w' := fun w' h => by
        rcases hb with hb | ⟨hb, hf⟩
        · exact hb w'
        · subst hb
          exact (h.resolve_left fun e => behind_not (List.all_eq_true.1 hf j e) hun hj) hS
      obtain ⟨hju, oj, hoj, hall⟩ := mem_ready.1 hj
      have hno : ∀ e ∈ oj.after, Region.binds md e = true → e.on ≠ i := fun e he hbd heq => by
        have h1 := hall e he hbd
        rw [heq] at h1
        by_cases hlt : i < l.size
        · simp [Array.getD, hlt] at hun h1
          rw [hun] at h1
          cases h1
        · simp [Array.getD, hlt] at h1
      refine wpOp_mono (fun a' w' k => ⟨k.2.1, ih (l.setIfInBounds j true) a' w' (fun q oq hq hqi hqu hqn => ?_) (ready_mono hr (Ne.symm hne)) k.1 (hstep w' k.2.1) ?_⟩) (wpOp_putIf hoj (hfree j oj hoj hne hju hno) (fun cs b => hsel i oi cs b hi) (fun cs b => hsel j oj cs b hoj) hQ hy (H.2 j (ready_mono hj hne)))
      · refine hfree q oq hq hqi ?_ hqn
        rcases Nat.decEq j q with hjq | hjq
        · rw [getD_set_ne true hjq] at hqu
          exact hqu
        · subst hjq
          exact hju
      · rw [Array.setIfInBounds_comm _ _ hne]
        exact k.2.2
    · subst he
      exact hy.wpOp hi hS ⟨.inr fun h => h, H⟩
theorem kk (i : Nat) {oi : Oper} {v : Value} {n : Nat} {l : Array Bool} {a a' : Act} {w : World} (hS : S w)
    (h : wpK P md ops Q S fs n (l.setIfInBounds i true) a' w)
    (hi : ops[i]? = some oi := by rfl) (hs : Region.noSelect ops = true := by kernel_rfl)
    (hf : Region.free md ops l i = true := by kernel_rfl) (hr : (Region.ready md ops l).contains i = true := by kernel_rfl) (hb : fs.all (fun f => behind md ops f i) = true := by kernel_rfl)
    (hw : Region.wanted oi (yielded ops a.tmps) = true := by kernel_rfl)
    (hy : ∀ w, S w → (execOp a.eval oi).run P w = .ok (.value v) w := by
      intro w hSw; (try dsimp only at hSw); go_simp; try with_reducible rfl)
    (hQ : ∀ c a w, Q (.panic c) (a.put oi.dst v) w → Q (.panic c) a w := by exact fun _ _ _ h => h)
    (ha : a.put oi.dst v = a' := by
      first | (simp only [Act.put, List.getElem_toArray, List.getElem_cons_succ, List.getElem_cons_zero, List.setIfInBounds_toArray, List.set_cons_zero, List.set_cons_succ]; done) | (simp only [Act.put, List.getElem_toArray, List.getElem_cons_succ, List.getElem_cons_zero, List.setIfInBounds_toArray, List.set_cons_zero, List.set_cons_succ]; exact rfl) | exact rfl) :
    wpK P md ops Q S fs (n + 1) l a w := by
  subst ha
  exact wpK_first hi (Region.noSelect_spec hs) hQ (.inr ⟨rfl, hb⟩) n l a w (Region.free_spec hi hf) (by simpa using hr) (Or.inl ⟨hw, hy⟩) hS h
theorem kp (i : Nat) {oi : Oper} {v : Value} {n : Nat} {l : Array Bool} {a a' : Act} {w : World}
    (h : wpK P md ops Q S fs n (l.setIfInBounds i true) a' w)
    (hi : ops[i]? = some oi := by rfl) (hs : Region.noSelect ops = true := by kernel_rfl)
    (hf : Region.free md ops l i = true := by kernel_rfl) (hr : (Region.ready md ops l).contains i = true := by kernel_rfl)
    (hw : Region.wanted oi (yielded ops a.tmps) = true := by kernel_rfl)
    (hy : ∀ w, True → (execOp a.eval oi).run P w = .ok (.value v) w := by
      intro w hSw; clear hSw; go_simp; try with_reducible rfl)
    (hQ : ∀ c a w, Q (.panic c) (a.put oi.dst v) w → Q (.panic c) a w := by exact fun _ _ _ h => h)
    (ha : a.put oi.dst v = a' := by
      first | (simp only [Act.put, List.getElem_toArray, List.getElem_cons_succ, List.getElem_cons_zero, List.setIfInBounds_toArray, List.set_cons_zero, List.set_cons_succ]; done) | (simp only [Act.put, List.getElem_toArray, List.getElem_cons_succ, List.getElem_cons_zero, List.setIfInBounds_toArray, List.set_cons_zero, List.set_cons_succ]; exact rfl) | exact rfl) :
    wpK P md ops Q S fs (n + 1) l a w := by
  subst ha
  exact wpK_first (R := fun _ => True) hi (Region.noSelect_spec hs) hQ (.inl fun _ => trivial) n l a w (Region.free_spec hi hf) (by simpa using hr) (Or.inl ⟨hw, hy⟩) trivial h
def AllK (P : Program) (md : Region.Mode) (ops : Array Oper) (Q : Exit → Act → World → Prop) (S : World → Prop) (fs : List Nat) (n : Nat) (l : Array Bool) (a : Act) (w : World) (rs : List Nat) : Prop :=
  ∀ i ∈ rs, wpOp P ops Q i (fun a' w' => (i ∈ fs ∨ (S w → S w')) ∧ wpK P md ops Q S fs n (l.setIfInBounds i true) a' w') a w
theorem AllK.nil {n : Nat} {l : Array Bool} {a : Act} {w : World} : AllK P md ops Q S fs n l a w [] := fun _ h => by cases h
theorem AllK.cons {n : Nat} {l : Array Bool} {a : Act} {w : World} {i : Nat} {o : Oper} {rs : List Nat} (ho : ops[i]? = some o)
    (h : ∀ K' : Act → World → Prop, Shut (∀ a w, S w → (S w → wpK P md ops Q S fs n (l.setIfInBounds i true) a w) → K' a w) → if Region.wanted o (yielded ops a.tmps) = true then Oper.wp P o a w K' Q else K' (a.put o.dst undef) w)
    (hs : AllK P md ops Q S fs n l a w rs) : AllK P md ops Q S fs n l a w (i :: rs) := fun j hj => by
  rcases List.mem_cons.1 hj with e | hj
  · subst e
    exact wpOp_step ho fun K' hK => h K' fun a w hS hW => hK a w ⟨.inr fun _ => hS, hW hS⟩
  · exact hs j hj
theorem AllK.last {n : Nat} {l : Array Bool} {a : Act} {w : World} {i : Nat} {o : Oper} (hi : i ∈ fs) (ho : ops[i]? = some o)
    (h : ∀ K' : Act → World → Prop, Shut (∀ a w, wpK P md ops Q S fs n (l.setIfInBounds i true) a w → K' a w) → if Region.wanted o (yielded ops a.tmps) = true then Oper.wp P o a w K' Q else K' (a.put o.dst undef) w) : AllK P md ops Q S fs n l a w [i] := fun j hj => by
  obtain rfl := List.mem_singleton.1 hj
  exact wpOp_step ho fun K' hK => h K' fun a w hW => hK a w ⟨.inl hi, hW⟩
theorem kr {rs : List Nat} {n : Nat} {l : Array Bool} {a a' : Act} {w : World} (hr : Region.ready md ops l = rs) (hne : rs ≠ []) (h : AllK P md ops Q S fs n l a' w rs)
    (ha : a = a' := by
      first | (simp only [Act.put, List.getElem_toArray, List.getElem_cons_succ, List.getElem_cons_zero, List.setIfInBounds_toArray, List.set_cons_zero, List.set_cons_succ]; done) | (simp only [Act.put, List.getElem_toArray, List.getElem_cons_succ, List.getElem_cons_zero, List.setIfInBounds_toArray, List.set_cons_zero, List.set_cons_succ]; exact rfl) | exact rfl) : wpK P md ops Q S fs (n + 1) l a w := by
  subst ha
  exact ⟨fun h0 => absurd (hr ▸ h0) hne, hr ▸ h⟩
theorem k0 {n : Nat} {l : Array Bool} {a a' : Act} {w : World} (h : Q .normal a' w)
    (ha : a = a' := by
      first | (simp only [Act.put, List.getElem_toArray, List.getElem_cons_succ, List.getElem_cons_zero, List.setIfInBounds_toArray, List.set_cons_zero, List.set_cons_succ]; done) | (simp only [Act.put, List.getElem_toArray, List.getElem_cons_succ, List.getElem_cons_zero, List.setIfInBounds_toArray, List.set_cons_zero, List.set_cons_succ]; exact rfl) | exact rfl)
    (hr : Region.ready md ops l = [] := by kernel_rfl) : wpK P md ops Q S fs n l a w := by
  subst ha
  cases n with
  | zero => exact ⟨hr, h⟩
  | succ n => exact ⟨fun _ => h, by rw [hr]; simp⟩
theorem kregion {id : Nat} {a : Act} {w : World} (fs : List Nat) (hm : P.follows .mixedOrders = true) (hS : S w.drew) (h : S w.drew → wpK P .any ops Q S fs ops.size (Array.replicate ops.size false) a w.drew) : (Code.region id ops true).wp P Q a w :=
  wp_region_any hm (wpK_any _ _ _ _ (h hS))
end
end Go.Proofs.YtlgflddljhldhaaGreat
end
section
namespace Go.Proofs.YtlgflddljhldhaaGreat.RepC
open Go.RowKit RowC ValC
set_option linter.unusedVariables false
set_option linter.unusedSimpArgs false
set_option maxRecDepth 100000
theorem infoOf {t : TypeId} {z : Value} {n b : Nat} (h : (Tryz.prog.info? t).map (fun i => (i.zero, i.size, i.bytes)) = some (some z, n, b)) : ∃ i, Tryz.prog.info? t = some i ∧ i.zero = some z ∧ i.size = n ∧ i.bytes = b := by
  cases hx : Tryz.prog.info? t with
  | none => rw [hx] at h; simp at h
  | some i => rw [hx] at h; simp at h; exact ⟨i, rfl, h.1, h.2.1, h.2.2⟩
def AppS {α : Type} (E : Rp α) (w : World) (base top : Nat) (T : TypeId) (v : Value) (L : List α) (S : Nat → Prop) : Prop :=
  ∃ lo hi xs Sf, base ≤ lo ∧ lo ≤ hi ∧ hi ≤ top ∧ App E w lo hi T v L xs Sf ∧ ∀ k, S k ↔ (v.ownBlock = some k ∨ ∃ i, Sf i k)
section
variable {α : Type} {E : Rp α} {w w' : World} {base top : Nat} {T : TypeId} {v : Value} {L : List α} {S : Nat → Prop}
theorem AppS.none_ (E : Rp α) (w : World) (T : TypeId) : AppS E w w.heap.size w.heap.size T (.slice none 0 0) [] (fun _ => False) :=
  ⟨_, _, _, _, Nat.le_refl _, Nat.le_refl _, Nat.le_refl _, App.none_ E w T (Nat.le_refl _), fun k => ⟨fun h => h.elim, fun h => h.elim (fun h => by cases h) fun ⟨_, h⟩ => h⟩⟩
theorem AppS.bnd (h : AppS E w base top T v L S) {k : Nat} (hk : S k) : base ≤ k ∧ k < top := by
  obtain ⟨lo, hi, xs, Sf, h1, h2, h3, hA, hS⟩ := h
  rcases (hS k).1 hk with h | ⟨i, h⟩
  · have := hA.blk k h; omega
  · have := hA.sub i k h; omega
theorem AppS.isSlice (h : AppS E w base top T v L S) : ∃ a c, v = .slice a L.length c := by
  obtain ⟨lo, hi, xs, Sf, h1, h2, h3, hA, hS⟩ := h
  exact hA.isSlice
theorem AppS.mv (hE : Ok E) (h : AppS E w base top T v L S) (hs : w.heap.size ≤ w'.heap.size) (hb : ∀ k, S k → w'.heap[k]? = w.heap[k]?) : AppS E w' base top T v L S := by
  obtain ⟨lo, hi, xs, Sf, h1, h2, h3, hA, hS⟩ := h
  exact ⟨lo, hi, xs, Sf, h1, h2, h3, hA.mv2 hE hs (fun k hk => hb k ((hS k).2 (.inl hk))) (fun i k hk => hb k ((hS k).2 (.inr ⟨i, hk⟩))), hS⟩
theorem AppS.call (hE : Ok E) (h : AppS E w base top T v L S) (ht : top ≤ w.heap.size) (hb : Below w.heap.size w w') : AppS E w' base top T v L S :=
  h.mv hE hb.size fun k hk => hb.block k (Nat.lt_of_lt_of_le (h.bnd hk).2 ht)
theorem AppS.rise {top' : Nat} (h : AppS E w base top T v L S) (ht : top ≤ top') : AppS E w base top' T v L S := by
  obtain ⟨lo, hi, xs, Sf, h1, h2, h3, hA, hS⟩ := h
  exact ⟨lo, hi, xs, Sf, h1, h2, Nat.le_trans h3 ht, hA, hS⟩
theorem AppS.done (hE : Ok E) (h : AppS E w base top T v L S) : ∃ a c, v = .slice a L.length c ∧ OwSl E w (Rg base top) L a c := by
  obtain ⟨lo, hi, xs, Sf, h1, h2, h3, hA, hS⟩ := h
  obtain ⟨a, c, rfl, hO⟩ := hA.done
  exact ⟨a, c, rfl, hO.more (fun k hk => ⟨Nat.le_trans h1 hk.1, Nat.lt_of_lt_of_le hk.2 h3⟩)⟩
theorem AppS.app {P : Program} (hE : Ok E) (h : AppS E w base top T v L S) {t ty : TypeId} {i : TypeInfo} {z : Value} {bytes : Nat} (ht : P.underlying t = some (.slice T)) (hi' : P.info? T = some i) (hz : i.zero = some z) (hsize : i.size = E.size) (hby : i.bytes = bytes) (hzs : z.cells.size = E.size) (hpos : 0 < E.size)
    {x : α} {us : List Value} {Sx : Nat → Prop} {blk c : Nat} (hrow : ∀ j u, us[j]? = some u → w.cell? ⟨blk, j, none⟩ = some u) (hx : E.ow w Sx x us) (hS : ∀ k, Sx k → top ≤ k ∧ k < w.heap.size) (htop : top ≤ w.heap.size) (hL : L.length + 1 ≤ maxLen) (hLb : (L.length + 1) * bytes ≤ 140737488355328) :
    ∃ v' w' S', (Builtin.append_ #[t, t] ty #[v, .slice (some ⟨blk, 0, none⟩) 1 c]).run P w = .ok v' w' ∧ AppS E w' base w'.heap.size T v' (L ++ [x]) S' ∧ w.grownBy w' v.ownBlock ∧ (∀ k, v.ownBlock = some k → S k) ∧ ∀ k, S' k → S k ∨ top ≤ k := by
  obtain ⟨lo, hi, xs, Sf, h1, h2, h3, hA, hSS⟩ := h
  obtain ⟨v', w', xs', Sf', hrun, hA', hg, hown, hsub⟩ := hA.app2 (ty := ty) (c := c) hE ht hi' hz hsize hby hzs hpos hrow hx (fun k hk => ⟨by have := hS k hk; omega, (hS k hk).2⟩) h2 hL hLb
  refine ⟨v', w', fun k => v'.ownBlock = some k ∨ ∃ i, Sf' i k, hrun, ⟨lo, w'.heap.size, xs', Sf', h1, ?_, Nat.le_refl _, hA', fun k => Iff.rfl⟩, hg, fun k hk => (hSS k).2 (.inl hk), fun k hk => ?_⟩
  · have := hg.size; omega
  · rcases hk with hk | ⟨i, hk⟩
    · rcases hown k hk with h | h
      · exact .inl ((hSS k).2 (.inl h))
      · exact .inr (by omega)
    · rcases hsub i k hk with h | h
      · exact .inl ((hSS k).2 (.inr ⟨i, h⟩))
      · exact .inr (hS k h).1
end
def ARow {α : Type} (E : Rp α) (w : World) (lo : Nat) (T : TypeId) (v : Value) (L : List α) : Prop := ∃ S, AppS E w lo w.heap.size T v L S
section
variable {α : Type} {E : Rp α} {w w' : World} {lo : Nat} {T : TypeId} {v : Value} {L : List α}
theorem ARow.none_ (E : Rp α) (w : World) (T : TypeId) : ARow E w w.heap.size T (.slice none 0 0) [] := ⟨_, AppS.none_ E w T⟩
theorem ARow.made (E : Rp α) (w : World) (T : TypeId) : ARow E (w.alloc (.cells #[] T)) w.heap.size T (.slice (some ⟨w.heap.size, 0, none⟩) 0 0) [] :=
  ⟨_, _, _, _, _, Nat.le_refl _, Nat.le_succ _, by simp, App.made E w T, fun k => Iff.rfl⟩
theorem ARow.call (hE : Ok E) (h : ARow E w lo T v L) (hb : Below w.heap.size w w') : ARow E w' lo T v L := by
  obtain ⟨S, h⟩ := h
  exact ⟨S, (h.call hE (Nat.le_refl _) hb).rise hb.size⟩
theorem ARow.isSlice (h : ARow E w lo T v L) : ∃ a c, v = .slice a L.length c := by obtain ⟨S, h⟩ := h; exact h.isSlice
theorem ARow.base (h : ARow E w lo T v L) : lo ≤ w.heap.size := by
  obtain ⟨S, a, b, xs, Sf, h1, h2, h3, _⟩ := h
  omega
theorem ARow.app {P : Program} (hE : Ok E) (h : ARow E w lo T v L) (hb : Below w.heap.size w w') {t ty : TypeId} {i : TypeInfo} {z : Value} {bytes : Nat} (ht : P.underlying t = some (.slice T)) (hi' : P.info? T = some i) (hz : i.zero = some z) (hsize : i.size = E.size) (hby : i.bytes = bytes) (hzs : z.cells.size = E.size) (hpos : 0 < E.size)
    {x : α} {us : List Value} {blk c : Nat} (hrow : ∀ j u, us[j]? = some u → w'.cell? ⟨blk, j, none⟩ = some u) (hx : E.ow w' (Rg w.heap.size w'.heap.size) x us) (hL : L.length + 1 ≤ maxLen) (hLb : (L.length + 1) * bytes ≤ 140737488355328) :
    ∃ a' c' w2, (Builtin.append_ #[t, t] ty #[v, .slice (some ⟨blk, 0, none⟩) 1 c]).run P w' = .ok (.slice a' (L ++ [x]).length c') w2 ∧ ARow E w2 lo T (.slice a' (L ++ [x]).length c') (L ++ [x]) ∧ Below lo w' w2 := by
  obtain ⟨S, h⟩ := h
  have h' := h.call hE (Nat.le_refl _) hb
  obtain ⟨v', w2, S', hrun, hA, hg, ho, _⟩ := h'.app (ty := ty) (c := c) hE ht hi' hz hsize hby hzs hpos hrow hx (fun k hk => hk) hb.size hL hLb
  have hA2 : ARow E w2 lo T v' (L ++ [x]) := ⟨S', hA⟩
  obtain ⟨a', c', rfl⟩ := hA2.isSlice
  have hlo := ARow.base (show ARow E w lo T v L from ⟨S, h⟩)
  exact ⟨a', c', w2, hrun, hA2, below_own hg (fun k hk => (h.bnd (ho k hk)).1) (Nat.le_trans hlo hb.size)⟩
theorem ARow.news (hE : Ok E) {W : World} (h : ARow E w lo T v L) (hlo : W.heap.size ≤ lo) (hb : Below W.heap.size W w) : NewS E L W (.returned v) w := by
  obtain ⟨S, h⟩ := h
  obtain ⟨a, c, rfl, ho⟩ := h.done hE
  exact ⟨a, c, rfl, ho.more fun k hk => ⟨Nat.le_trans hlo hk.1, hk.2⟩, hb⟩
end
end Go.Proofs.YtlgflddljhldhaaGreat.RepC
end
section
namespace Go.Proofs.YtlgflddljhldhaaGreat.RepC
open Go.RowKit RowC ValC
set_option linter.unusedVariables false
set_option linter.unusedSimpArgs false
set_option maxRecDepth 100000
section
variable {α : Type} {E : Rp α} {f : α → List Value} {w w' : World} {lo : Nat} {T : TypeId} {v : Value} {L : List α}
theorem FRow.low {lo' : Nat} (h : FRow E f w lo T v L) (hl : lo' ≤ lo) : FRow E f w lo' T v L := by
  refine ⟨?_, fun k hk => ⟨Nat.le_trans hl (h.blk k hk).1, (h.blk k hk).2⟩⟩
  obtain ⟨h1, h2⟩ := h.own
  refine ⟨h1, ?_⟩
  rcases h2 with h2 | ⟨g, cap, cur, rfl, hlo, h3⟩
  · exact .inl h2
  · exact .inr ⟨g, cap, cur, rfl, Nat.le_trans hl hlo, h3⟩
theorem FRow.keep (h : FRow E f w lo T v L) (hb : ∀ k, v.ownBlock = some k → w'.heap[k]? = w.heap[k]?) : FRow E f w' lo T v L := by
  refine ⟨?_, fun k hk => ⟨(h.blk k hk).1, ?_⟩⟩
  · obtain ⟨h1, h2⟩ := h.own
    refine ⟨h1, ?_⟩
    rcases h2 with h2 | ⟨g, cap, cur, rfl, hlo, hg, h3⟩
    · exact .inl h2
    · exact .inr ⟨g, cap, cur, rfl, hlo, (hb g rfl).trans hg, h3⟩
  · have h1 := hb k hk
    rw [Array.getElem?_eq_getElem (h.blk k hk).2] at h1
    exact (Array.getElem?_eq_some_iff.1 h1).1
theorem FRow.emp (hE : Ok E) (hF : Flat E f) {P : Program} {g : Nat} (hr : FRow E f w lo T (.slice (some ⟨g, 0, none⟩) 0 0) []) {t ty : TypeId} {i : TypeInfo} {z : Value} {bytes : Nat} (ht : P.underlying t = some (.slice T)) (hi : P.info? T = some i) (hz : i.zero = some z) (hsize : i.size = E.size) (hby : i.bytes = bytes) (hzs : z.cells.size = E.size) (hpos : 0 < E.size)
    {M : List α} {a : Option Addr} {cap : Nat} (hM : RdSl E w w.heap.size M a cap) (hlo : lo ≤ w.heap.size) (hL : M.length ≤ maxLen) (hLb : M.length * bytes ≤ 140737488355328) :
    ∃ a' c' w', (Builtin.append_ #[t, t] ty #[.slice (some ⟨g, 0, none⟩) 0 0, .slice a M.length cap]).run P w = .ok (.slice a' M.length c') w' ∧ FRow E f w' lo T (.slice a' M.length c') M ∧ Below w.heap.size w w' ∧ ∀ k, (Value.slice a' M.length c').ownBlock = some k → k = g ∨ (w.heap.size ≤ k ∧ k < w'.heap.size) := by
  by_cases h0 : M.length = 0
  · have h1 : M = [] := List.eq_nil_of_length_eq_zero h0
    subst h1
    exact ⟨_, _, w, app_nil ht hi _ a 0 cap, hr, Below.refl _ _, fun k hk => .inl (by cases hk; rfl)⟩
  · obtain ⟨g', o, rfl, hg, hel⟩ := hM.2.2 (by omega)
    have hall := flatMap_cells hE hF w g' M o fun q x hx => by
      obtain ⟨us, hu, hrd⟩ := hel q x hx
      rw [← hF.rd hrd]
      exact hu
    have hlen := flatMap_len hE hF w M
    have hge := grownCap_ge w M.length 0 T
    have hrun := run_append_grow (P := P) w t ty T i z ht hi hz ⟨g, 0, none⟩ 0 0 [] (by simp) (by simp) ⟨g', o, none⟩ M.length cap (M.flatMap f) (by rw [hsize]; exact hlen) (fun j u hj => by
      have hadd : (⟨g', o, none⟩ : Addr).add j = ⟨g', o + j, none⟩ := by unfold Addr.add; split <;> simp_all
      rw [hadd]
      exact hall j u hj) (by omega) (by unfold maxLen at hL; omega) (by rw [Nat.zero_add, nextslicecap_zero (by omega), hby]; omega)
    simp only [Nat.zero_add, show (([] : List Value).toArray ++ (M.flatMap f).toArray) = (M.flatMap f).toArray from by simp] at hrun
    refine ⟨_, _, _, hrun, ⟨⟨hlen, .inr ⟨w.heap.size, _, _, rfl, hlo, heap_alloc_new w.drew _, hge, grownCap_le_maxLen _ _ _ _ hL, ?_, ?_⟩⟩, fun k hk => ?_⟩, (Below.refl _ w).drew.alloc (Nat.le_refl _) _, fun k hk => .inr ?_⟩
    · simp only [Array.size_append, List.size_toArray, size_zeroCells, hzs, hlen, ← Nat.add_mul]
      congr 1
      omega
    · simp only [Array.toList_append]
      rw [← hlen]
      exact List.take_left
    · cases hk
      exact ⟨hlo, by simp⟩
    · cases hk
      exact ⟨Nat.le_refl _, by simp⟩
end
def GrS {α : Type} (E : Rp α) (f : α → List Value) (T : TypeId) : Rp (List α) := { Sl E with ow := fun W S L cs => ∃ v lo, cs = [v] ∧ FRow E f W lo T v L ∧ ∀ k, v.ownBlock = some k → S k }
theorem GrS_sl {α : Type} {E : Rp α} {f : α → List Value} {T : TypeId} (hE : Ok E) (hF : Flat E f) {W : World} {S : Nat → Prop} {L : List α} {cs : List Value} (h : (GrS E f T).ow W S L cs) : (Sl E).ow W S L cs := by
  obtain ⟨v, lo, rfl, hr, hS⟩ := h
  obtain ⟨a, c, rfl, ho⟩ := hr.sl hE hF
  exact ⟨a, c, rfl, ho.more hS⟩
theorem GrS_ok {α : Type} {E : Rp α} {f : α → List Value} {T : TypeId} (hE : Ok E) (hF : Flat E f) : Ok (GrS E f T) where
  rd_len h := (Sl_ok hE).rd_len h
  ow_len h := by obtain ⟨v, lo, rfl, _⟩ := h; rfl
  rd_below h hb := (Sl_ok hE).rd_below h hb
  rd_more h hb := (Sl_ok hE).rd_more h hb
  ow_keep h hb := by obtain ⟨v, lo, rfl, hr, hS⟩ := h; exact ⟨v, lo, rfl, hr.keep fun k hk => hb k (hS k hk), hS⟩
  ow_more h hT := by obtain ⟨v, lo, rfl, hr, hS⟩ := h; exact ⟨v, lo, rfl, hr, fun k hk => hT k (hS k hk)⟩
  ow_rd h hB := (Sl_ok hE).ow_rd (GrS_sl hE hF h) hB
  one h := (Sl_ok hE).one h
def fI (x : Int) : List Value := [.int .i64 x]
def fN (x : D_Note) : List Value := [.int .i64 x.1, .int .i64 x.2]
theorem flat_Note : Flat R_Note fN := ⟨fun {W B x us} h => by obtain ⟨a, b⟩ := x; exact rd_Note h, fun W S x => by obtain ⟨a, b⟩ := x; exact mkow_Note⟩
theorem flat_In : Flat I fI := flat_I
abbrev IRw (w : World) (lo : Nat) (v : Value) (L : List Int) : Prop := FRow I fI w lo 2 v L
abbrev NRw (w : World) (lo : Nat) (v : Value) (L : List D_Note) : Prop := FRow R_Note fN w lo 75 v L
theorem infoNote : ∃ i, Tryz.prog.info? 75 = some i ∧ i.zero = some (.agg #[.int .i64 0, .int .i64 0]) ∧ i.size = 2 ∧ i.bytes = 16 := infoOf (by kernel_rfl)
theorem infoBox : ∃ i, Tryz.prog.info? 73 = some i ∧ i.zero = some (.agg #[.slice none 0 0, .slice none 0 0, .slice none 0 0]) ∧ i.size = 3 ∧ i.bytes = 72 := infoOf (by kernel_rfl)
theorem IRw.emp {w : World} {lo g : Nat} (hr : IRw w lo (.slice (some ⟨g, 0, none⟩) 0 0) []) {M : List Int} {a : Option Addr} {cap : Nat} (hM : RdSl I w w.heap.size M a cap) (hlo : lo ≤ w.heap.size) (hL : M.length ≤ 1048576) :
    ∃ a' c' w', (Builtin.append_ #[70, 70] 70 #[.slice (some ⟨g, 0, none⟩) 0 0, .slice a M.length cap]).run Tryz.prog w = .ok (.slice a' M.length c') w' ∧ IRw w' lo (.slice a' M.length c') M ∧ Below w.heap.size w w' ∧ ∀ k, (Value.slice a' M.length c').ownBlock = some k → k = g ∨ (w.heap.size ≤ k ∧ k < w'.heap.size) := by
  obtain ⟨i, hi', hz, hs, hby⟩ := infoIn
  exact FRow.emp I_ok flat_In hr Tryz.underlying70 hi' hz hs hby rfl (by decide) hM hlo (by unfold maxLen; omega) (by omega)
theorem NRw.emp {w : World} {lo g : Nat} (hr : NRw w lo (.slice (some ⟨g, 0, none⟩) 0 0) []) {M : List D_Note} {a : Option Addr} {cap : Nat} (hM : RdSl R_Note w w.heap.size M a cap) (hlo : lo ≤ w.heap.size) (hL : M.length ≤ 1048576) :
    ∃ a' c' w', (Builtin.append_ #[71, 71] 71 #[.slice (some ⟨g, 0, none⟩) 0 0, .slice a M.length cap]).run Tryz.prog w = .ok (.slice a' M.length c') w' ∧ NRw w' lo (.slice a' M.length c') M ∧ Below w.heap.size w w' ∧ ∀ k, (Value.slice a' M.length c').ownBlock = some k → k = g ∨ (w.heap.size ≤ k ∧ k < w'.heap.size) := by
  obtain ⟨i, hi', hz, hs, hby⟩ := infoNote
  exact FRow.emp R_Note_ok flat_Note hr Tryz.underlying71 hi' hz hs hby rfl (by decide) hM hlo (by unfold maxLen; omega) (by omega)
def GrI : Rp (List Int) := GrS I fI 2
def GrN : Rp (List D_Note) := GrS R_Note fN 75
theorem GrI_ok : Ok GrI := GrS_ok I_ok flat_In
theorem GrN_ok : Ok GrN := GrS_ok R_Note_ok flat_Note
def R_BoxG : Rp D_Box := Pr GrI (Pr GrI GrN)
theorem R_BoxG_ok : Ok R_BoxG := Pr_ok GrI_ok (Pr_ok GrI_ok GrN_ok)
theorem size_BoxG : R_BoxG.size = 3 := rfl
theorem mkow_BoxG {w : World} {l0 l1 l2 : Nat} {v0 v1 v2 : Value} {F G : List Int} {L : List D_Note} {S : Nat → Prop} (h0 : IRw w l0 v0 F) (h1 : IRw w l1 v1 G) (h2 : NRw w l2 v2 L)
    (d01 : ∀ k, v0.ownBlock = some k → v1.ownBlock ≠ some k) (d02 : ∀ k, v0.ownBlock = some k → v2.ownBlock ≠ some k) (d12 : ∀ k, v1.ownBlock = some k → v2.ownBlock ≠ some k)
    (s0 : ∀ k, v0.ownBlock = some k → S k) (s1 : ∀ k, v1.ownBlock = some k → S k) (s2 : ∀ k, v2.ownBlock = some k → S k) : R_BoxG.ow w S (F, G, L) [v0, v1, v2] :=
  ⟨[v0], [v1, v2], fun k => v0.ownBlock = some k, fun k => v1.ownBlock = some k ∨ v2.ownBlock = some k, rfl, s0, fun k hk => hk.elim (s1 k) (s2 k), fun k hk h => h.elim (d01 k hk) (d02 k hk), ⟨v0, l0, rfl, h0, fun k hk => hk⟩,
    [v1], [v2], fun k => v1.ownBlock = some k, fun k => v2.ownBlock = some k, rfl, fun k hk => .inl hk, fun k hk => .inr hk, d12, ⟨v1, l1, rfl, h1, fun k hk => hk⟩, ⟨v2, l2, rfl, h2, fun k hk => hk⟩⟩
theorem boxG_weak {W : World} {S : Nat → Prop} {b : D_Box} {cs : List Value} (h : R_BoxG.ow W S b cs) : R_Box.ow W S b cs := by
  obtain ⟨us, vs, S1, S2, rfl, a1, a2, a3, h1, us2, vs2, S3, S4, rfl, b1, b2, b3, h2, h3⟩ := h
  exact ⟨us, us2 ++ vs2, S1, S2, rfl, a1, a2, a3, GrS_sl I_ok flat_In h1, us2, vs2, S3, S4, rfl, b1, b2, b3, GrS_sl I_ok flat_In h2, GrS_sl R_Note_ok flat_Note h3⟩
theorem boxesG_weak {W : World} {S : Nat → Prop} {L : List D_Box} {a : Option Addr} {c : Nat} (h : OwSl R_BoxG W S L a c) : OwSl R_Box W S L a c := by
  refine ⟨h.1, h.2.1, fun hn => ?_⟩
  obtain ⟨g, Sf, ha, hg, hf, hs, hd, hc⟩ := h.2.2 hn
  refine ⟨g, Sf, ha, hg, hf, hs, hd, fun i x hx => ?_⟩
  obtain ⟨us, hu, hr⟩ := hc i x hx
  exact ⟨us, hu, boxG_weak hr⟩
end Go.Proofs.YtlgflddljhldhaaGreat.RepC
end
