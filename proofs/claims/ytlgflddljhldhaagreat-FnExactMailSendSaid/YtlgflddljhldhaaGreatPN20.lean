/- Of this claim's texts the part 20: Kp ARw MlB MlK. -/
import Derived.Test.YtlgflddljhldhaaGreatPN5
import Derived.Test.YtlgflddljhldhaaGreatPN12
import Derived.Test.YtlgflddljhldhaaGreatPN13
section
namespace Go.Proofs.YtlgflddljhldhaaGreat
section
variable {P : Program} {ops : Array Oper} {Q : Exit → Act → World → Prop} {md : Region.Mode} {S : World → Prop} {fs : List Nat}
def wpK (P : Program) (md : Region.Mode) (ops : Array Oper) (Q : Exit → Act → World → Prop) (S : World → Prop) (fs : List Nat) : Nat → Array Bool → Act → World → Prop
  | 0, l, a, w => Region.ready md ops l = [] ∧ Q .normal a w
  | n + 1, l, a, w => (Region.ready md ops l = [] → Q .normal a w) ∧ ∀ i ∈ Region.ready md ops l, wpOp P ops Q i (fun a' w' => (i ∈ fs ∨ (S w → S w')) ∧ wpK P md ops Q S fs n (l.setIfInBounds i true) a' w') a w
theorem wpK_any : ∀ (n : Nat) (l : Array Bool) (a : Act) (w : World), wpK P md ops Q S fs n l a w → wpAny P md ops Q n l a w
  | 0, _, _, _, h => h
  | n + 1, _, _, _, h => ⟨h.1, fun i hi => wpOp_mono (fun a' w' k => wpK_any n _ a' w' k.2) (h.2 i hi)⟩
def behind (md : Region.Mode) (ops : Array Oper) (f i : Nat) : Bool := match ops[f]? with
  | some o => o.after.any fun e => Region.binds md e && e.on == i
  | none => false
theorem behind_not {f i : Nat} {l : Array Bool} (hb : behind md ops f i = true) (hi : l.getD i true = false) : f ∉ Region.ready md ops l := fun h => by
  obtain ⟨_, o, ho, hall⟩ := mem_ready.1 h
  unfold behind at hb
  rw [ho] at hb
  simp only [Array.any_eq_true', Bool.and_eq_true, beq_iff_eq] at hb
  obtain ⟨e, he, h1, h2⟩ := hb
  have h3 := hall e he h1
  rw [h2] at h3
  by_cases hlt : i < l.size
  · simp [Array.getD, hlt] at hi h3
    rw [hi] at h3
    cases h3
  · simp [Array.getD, hlt] at h3
theorem wpK_first {R : World → Prop} {i : Nat} {oi : Oper} {v : Value} (hi : ops[i]? = some oi) (hsel : ∀ (j : Nat) (o : Oper) cs b, ops[j]? = some o → o.op ≠ .select cs b) (hQ : ∀ c a w, Q (.panic c) (a.put oi.dst v) w → Q (.panic c) a w) (hb : (∀ w, R w) ∨ (R = S ∧ fs.all (fun f => behind md ops f i) = true)) :
    ∀ (n : Nat) (l : Array Bool) (a : Act) (w : World), (∀ j oj, ops[j]? = some oj → j ≠ i → l.getD j true = false → (∀ e ∈ oj.after, Region.binds md e = true → e.on ≠ i) → oi.apart ops oj = true) → i ∈ Region.ready md ops l → YieldsIf P ops R oi v a → R w →
      wpK P md ops Q S fs n (l.setIfInBounds i true) (a.put oi.dst v) w → wpK P md ops Q S fs (n + 1) l a w := by
  intro n
  induction n with
  | zero =>
    intro l a w _ hr hy hS H
    refine ⟨fun h => (by rw [h] at hr; cases hr), fun j hj => ?_⟩
    rcases Nat.decEq j i with hne | he
    · have h0 := ready_mono hj hne
      rw [H.1] at h0
      cases h0
    · subst he
      exact hy.wpOp hi hS ⟨.inr fun h => h, H⟩
  | succ n ih =>
    intro l a w hfree hr hy hS H
    have hun := (mem_ready.1 hr).1
    refine ⟨fun h => (by rw [h] at hr; cases hr), fun j hj => ?_⟩
    rcases Nat.decEq j i with hne | he
    · have hstep : ∀ w', (j ∈ fs ∨ (S w → S w')) → R w' := fun w' h => by
        rcases hb with hb | ⟨hb, hf⟩
        · exact hb w'
        · subst hb
          exact (h.resolve_left fun e => behind_not (List.all_eq_true.1 hf j e) hun hj) hS
      obtain ⟨hju, oj, hoj, hall⟩ := mem_ready.1 hj
      have hno : ∀ e ∈ oj.after, Region.binds md e = true → e.on ≠ i := fun e he hbd heq => by
        have h1 := hall e he hbd
        rw [heq] at h1
        by_cases hlt : i < l.size
        · simp [Array.getD, hlt] at hun h1
          rw [hun] at h1
          cases h1
        · simp [Array.getD, hlt] at h1
      refine wpOp_mono (fun a' w' k => ⟨k.2.1, ih (l.setIfInBounds j true) a' w' (fun q oq hq hqi hqu hqn => ?_) (ready_mono hr (Ne.symm hne)) k.1 (hstep w' k.2.1) ?_⟩) (wpOp_putIf hoj (hfree j oj hoj hne hju hno) (fun cs b => hsel i oi cs b hi) (fun cs b => hsel j oj cs b hoj) hQ hy (H.2 j (ready_mono hj hne)))
      · refine hfree q oq hq hqi ?_ hqn
        rcases Nat.decEq j q with hjq | hjq
        · rw [getD_set_ne true hjq] at hqu
          exact hqu
        · subst hjq
          exact hju
      · rw [Array.setIfInBounds_comm _ _ hne]
        exact k.2.2
    · subst he
      exact hy.wpOp hi hS ⟨.inr fun h => h, H⟩
theorem kk (i : Nat) {oi : Oper} {v : Value} {n : Nat} {l : Array Bool} {a a' : Act} {w : World} (hS : S w)
    (h : wpK P md ops Q S fs n (l.setIfInBounds i true) a' w)
    (hi : ops[i]? = some oi := by rfl) (hs : Region.noSelect ops = true := by kernel_rfl)
    (hf : Region.free md ops l i = true := by kernel_rfl) (hr : (Region.ready md ops l).contains i = true := by kernel_rfl) (hb : fs.all (fun f => behind md ops f i) = true := by kernel_rfl)
    (hw : Region.wanted oi (yielded ops a.tmps) = true := by kernel_rfl)
    (hy : ∀ w, S w → (execOp a.eval oi).run P w = .ok (.value v) w := by
      intro w hSw; (try dsimp only at hSw); go_simp; try with_reducible rfl)
    (hQ : ∀ c a w, Q (.panic c) (a.put oi.dst v) w → Q (.panic c) a w := by exact fun _ _ _ h => h)
    (ha : a.put oi.dst v = a' := by
      first | (simp only [Act.put, List.getElem_toArray, List.getElem_cons_succ, List.getElem_cons_zero, List.setIfInBounds_toArray, List.set_cons_zero, List.set_cons_succ]; done) | (simp only [Act.put, List.getElem_toArray, List.getElem_cons_succ, List.getElem_cons_zero, List.setIfInBounds_toArray, List.set_cons_zero, List.set_cons_succ]; exact rfl) | exact rfl) :
    wpK P md ops Q S fs (n + 1) l a w := by
  subst ha
  exact wpK_first hi (Region.noSelect_spec hs) hQ (.inr ⟨rfl, hb⟩) n l a w (Region.free_spec hi hf) (by simpa using hr) (Or.inl ⟨hw, hy⟩) hS h
theorem kp (i : Nat) {oi : Oper} {v : Value} {n : Nat} {l : Array Bool} {a a' : Act} {w : World}
    (h : wpK P md ops Q S fs n (l.setIfInBounds i true) a' w)
    (hi : ops[i]? = some oi := by rfl) (hs : Region.noSelect ops = true := by kernel_rfl)
    (hf : Region.free md ops l i = true := by kernel_rfl) (hr : (Region.ready md ops l).contains i = true := by kernel_rfl)
    (hw : Region.wanted oi (yielded ops a.tmps) = true := by kernel_rfl)
    (hy : ∀ w, True → (execOp a.eval oi).run P w = .ok (.value v) w := by
      intro w hSw; clear hSw; go_simp; try with_reducible rfl)
    (hQ : ∀ c a w, Q (.panic c) (a.put oi.dst v) w → Q (.panic c) a w := by exact fun _ _ _ h => h)
    (ha : a.put oi.dst v = a' := by
      first | (simp only [Act.put, List.getElem_toArray, List.getElem_cons_succ, List.getElem_cons_zero, List.setIfInBounds_toArray, List.set_cons_zero, List.set_cons_succ]; done) | (simp only [Act.put, List.getElem_toArray, List.getElem_cons_succ, List.getElem_cons_zero, List.setIfInBounds_toArray, List.set_cons_zero, List.set_cons_succ]; exact rfl) | exact rfl) :
    wpK P md ops Q S fs (n + 1) l a w := by
  subst ha
  exact wpK_first (R := fun _ => True) hi (Region.noSelect_spec hs) hQ (.inl fun _ => trivial) n l a w (Region.free_spec hi hf) (by simpa using hr) (Or.inl ⟨hw, hy⟩) trivial h
def AllK (P : Program) (md : Region.Mode) (ops : Array Oper) (Q : Exit → Act → World → Prop) (S : World → Prop) (fs : List Nat) (n : Nat) (l : Array Bool) (a : Act) (w : World) (rs : List Nat) : Prop :=
  ∀ i ∈ rs, wpOp P ops Q i (fun a' w' => (i ∈ fs ∨ (S w → S w')) ∧ wpK P md ops Q S fs n (l.setIfInBounds i true) a' w') a w
theorem AllK.nil {n : Nat} {l : Array Bool} {a : Act} {w : World} : AllK P md ops Q S fs n l a w [] := fun _ h => by cases h
theorem AllK.cons {n : Nat} {l : Array Bool} {a : Act} {w : World} {i : Nat} {o : Oper} {rs : List Nat} (ho : ops[i]? = some o)
    (h : ∀ K' : Act → World → Prop, Shut (∀ a w, S w → (S w → wpK P md ops Q S fs n (l.setIfInBounds i true) a w) → K' a w) → if Region.wanted o (yielded ops a.tmps) = true then Oper.wp P o a w K' Q else K' (a.put o.dst undef) w)
    (hs : AllK P md ops Q S fs n l a w rs) : AllK P md ops Q S fs n l a w (i :: rs) := fun j hj => by
  rcases List.mem_cons.1 hj with e | hj
  · subst e
    exact wpOp_step ho fun K' hK => h K' fun a w hS hW => hK a w ⟨.inr fun _ => hS, hW hS⟩
  · exact hs j hj
theorem AllK.last {n : Nat} {l : Array Bool} {a : Act} {w : World} {i : Nat} {o : Oper} (hi : i ∈ fs) (ho : ops[i]? = some o)
    (h : ∀ K' : Act → World → Prop, Shut (∀ a w, wpK P md ops Q S fs n (l.setIfInBounds i true) a w → K' a w) → if Region.wanted o (yielded ops a.tmps) = true then Oper.wp P o a w K' Q else K' (a.put o.dst undef) w) : AllK P md ops Q S fs n l a w [i] := fun j hj => by
  obtain rfl := List.mem_singleton.1 hj
  exact wpOp_step ho fun K' hK => h K' fun a w hW => hK a w ⟨.inl hi, hW⟩
theorem kr {rs : List Nat} {n : Nat} {l : Array Bool} {a a' : Act} {w : World} (hr : Region.ready md ops l = rs) (hne : rs ≠ []) (h : AllK P md ops Q S fs n l a' w rs)
    (ha : a = a' := by
      first | (simp only [Act.put, List.getElem_toArray, List.getElem_cons_succ, List.getElem_cons_zero, List.setIfInBounds_toArray, List.set_cons_zero, List.set_cons_succ]; done) | (simp only [Act.put, List.getElem_toArray, List.getElem_cons_succ, List.getElem_cons_zero, List.setIfInBounds_toArray, List.set_cons_zero, List.set_cons_succ]; exact rfl) | exact rfl) : wpK P md ops Q S fs (n + 1) l a w := by
  subst ha
  exact ⟨fun h0 => absurd (hr ▸ h0) hne, hr ▸ h⟩
theorem k0 {n : Nat} {l : Array Bool} {a a' : Act} {w : World} (h : Q .normal a' w)
    (ha : a = a' := by
      first | (simp only [Act.put, List.getElem_toArray, List.getElem_cons_succ, List.getElem_cons_zero, List.setIfInBounds_toArray, List.set_cons_zero, List.set_cons_succ]; done) | (simp only [Act.put, List.getElem_toArray, List.getElem_cons_succ, List.getElem_cons_zero, List.setIfInBounds_toArray, List.set_cons_zero, List.set_cons_succ]; exact rfl) | exact rfl)
    (hr : Region.ready md ops l = [] := by kernel_rfl) : wpK P md ops Q S fs n l a w := by
  subst ha
  cases n with
  | zero => exact ⟨hr, h⟩
  | succ n => exact ⟨fun _ => h, by rw [hr]; simp⟩
theorem kregion {id : Nat} {a : Act} {w : World} (fs : List Nat) (hm : P.follows .mixedOrders = true) (hS : S w.drew) (h : S w.drew → wpK P .any ops Q S fs ops.size (Array.replicate ops.size false) a w.drew) : (Code.region id ops true).wp P Q a w :=
  wp_region_any hm (wpK_any _ _ _ _ (h hS))
end
end Go.Proofs.YtlgflddljhldhaaGreat
end
section
namespace Go.Proofs.YtlgflddljhldhaaGreat.RepC
open Go.RowKit RowC ValC
set_option linter.unusedVariables false
set_option linter.unusedSimpArgs false
set_option maxRecDepth 100000
theorem infoOf {t : TypeId} {z : Value} {n b : Nat} (h : (Tryz.prog.info? t).map (fun i => (i.zero, i.size, i.bytes)) = some (some z, n, b)) : ∃ i, Tryz.prog.info? t = some i ∧ i.zero = some z ∧ i.size = n ∧ i.bytes = b := by
  cases hx : Tryz.prog.info? t with
  | none => rw [hx] at h; simp at h
  | some i => rw [hx] at h; simp at h; exact ⟨i, rfl, h.1, h.2.1, h.2.2⟩
def AppS {α : Type} (E : Rp α) (w : World) (base top : Nat) (T : TypeId) (v : Value) (L : List α) (S : Nat → Prop) : Prop :=
  ∃ lo hi xs Sf, base ≤ lo ∧ lo ≤ hi ∧ hi ≤ top ∧ App E w lo hi T v L xs Sf ∧ ∀ k, S k ↔ (v.ownBlock = some k ∨ ∃ i, Sf i k)
section
variable {α : Type} {E : Rp α} {w w' : World} {base top : Nat} {T : TypeId} {v : Value} {L : List α} {S : Nat → Prop}
theorem AppS.none_ (E : Rp α) (w : World) (T : TypeId) : AppS E w w.heap.size w.heap.size T (.slice none 0 0) [] (fun _ => False) :=
  ⟨_, _, _, _, Nat.le_refl _, Nat.le_refl _, Nat.le_refl _, App.none_ E w T (Nat.le_refl _), fun k => ⟨fun h => h.elim, fun h => h.elim (fun h => by cases h) fun ⟨_, h⟩ => h⟩⟩
theorem AppS.bnd (h : AppS E w base top T v L S) {k : Nat} (hk : S k) : base ≤ k ∧ k < top := by
  obtain ⟨lo, hi, xs, Sf, h1, h2, h3, hA, hS⟩ := h
  rcases (hS k).1 hk with h | ⟨i, h⟩
  · have := hA.blk k h; omega
  · have := hA.sub i k h; omega
theorem AppS.isSlice (h : AppS E w base top T v L S) : ∃ a c, v = .slice a L.length c := by
  obtain ⟨lo, hi, xs, Sf, h1, h2, h3, hA, hS⟩ := h
  exact hA.isSlice
theorem AppS.mv (hE : Ok E) (h : AppS E w base top T v L S) (hs : w.heap.size ≤ w'.heap.size) (hb : ∀ k, S k → w'.heap[k]? = w.heap[k]?) : AppS E w' base top T v L S := by
  obtain ⟨lo, hi, xs, Sf, h1, h2, h3, hA, hS⟩ := h
  exact ⟨lo, hi, xs, Sf, h1, h2, h3, hA.mv2 hE hs (fun k hk => hb k ((hS k).2 (.inl hk))) (fun i k hk => hb k ((hS k).2 (.inr ⟨i, hk⟩))), hS⟩
theorem AppS.call (hE : Ok E) (h : AppS E w base top T v L S) (ht : top ≤ w.heap.size) (hb : Below w.heap.size w w') : AppS E w' base top T v L S :=
  h.mv hE hb.size fun k hk => hb.block k (Nat.lt_of_lt_of_le (h.bnd hk).2 ht)
theorem AppS.rise {top' : Nat} (h : AppS E w base top T v L S) (ht : top ≤ top') : AppS E w base top' T v L S := by
  obtain ⟨lo, hi, xs, Sf, h1, h2, h3, hA, hS⟩ := h
  exact ⟨lo, hi, xs, Sf, h1, h2, Nat.le_trans h3 ht, hA, hS⟩
theorem AppS.done (hE : Ok E) (h : AppS E w base top T v L S) : ∃ a c, v = .slice a L.length c ∧ OwSl E w (Rg base top) L a c := by
  obtain ⟨lo, hi, xs, Sf, h1, h2, h3, hA, hS⟩ := h
  obtain ⟨a, c, rfl, hO⟩ := hA.done
  exact ⟨a, c, rfl, hO.more (fun k hk => ⟨Nat.le_trans h1 hk.1, Nat.lt_of_lt_of_le hk.2 h3⟩)⟩
theorem AppS.app {P : Program} (hE : Ok E) (h : AppS E w base top T v L S) {t ty : TypeId} {i : TypeInfo} {z : Value} {bytes : Nat} (ht : P.underlying t = some (.slice T)) (hi' : P.info? T = some i) (hz : i.zero = some z) (hsize : i.size = E.size) (hby : i.bytes = bytes) (hzs : z.cells.size = E.size) (hpos : 0 < E.size)
    {x : α} {us : List Value} {Sx : Nat → Prop} {blk c : Nat} (hrow : ∀ j u, us[j]? = some u → w.cell? ⟨blk, j, none⟩ = some u) (hx : E.ow w Sx x us) (hS : ∀ k, Sx k → top ≤ k ∧ k < w.heap.size) (htop : top ≤ w.heap.size) (hL : L.length + 1 ≤ maxLen) (hLb : (L.length + 1) * bytes ≤ 140737488355328) :
    ∃ v' w' S', (Builtin.append_ #[t, t] ty #[v, .slice (some ⟨blk, 0, none⟩) 1 c]).run P w = .ok v' w' ∧ AppS E w' base w'.heap.size T v' (L ++ [x]) S' ∧ w.grownBy w' v.ownBlock ∧ (∀ k, v.ownBlock = some k → S k) ∧ ∀ k, S' k → S k ∨ top ≤ k := by
  obtain ⟨lo, hi, xs, Sf, h1, h2, h3, hA, hSS⟩ := h
  obtain ⟨v', w', xs', Sf', hrun, hA', hg, hown, hsub⟩ := hA.app2 (ty := ty) (c := c) hE ht hi' hz hsize hby hzs hpos hrow hx (fun k hk => ⟨by have := hS k hk; omega, (hS k hk).2⟩) h2 hL hLb
  refine ⟨v', w', fun k => v'.ownBlock = some k ∨ ∃ i, Sf' i k, hrun, ⟨lo, w'.heap.size, xs', Sf', h1, ?_, Nat.le_refl _, hA', fun k => Iff.rfl⟩, hg, fun k hk => (hSS k).2 (.inl hk), fun k hk => ?_⟩
  · have := hg.size; omega
  · rcases hk with hk | ⟨i, hk⟩
    · rcases hown k hk with h | h
      · exact .inl ((hSS k).2 (.inl h))
      · exact .inr (by omega)
    · rcases hsub i k hk with h | h
      · exact .inl ((hSS k).2 (.inr ⟨i, h⟩))
      · exact .inr (hS k h).1
end
def ARow {α : Type} (E : Rp α) (w : World) (lo : Nat) (T : TypeId) (v : Value) (L : List α) : Prop := ∃ S, AppS E w lo w.heap.size T v L S
section
variable {α : Type} {E : Rp α} {w w' : World} {lo : Nat} {T : TypeId} {v : Value} {L : List α}
theorem ARow.none_ (E : Rp α) (w : World) (T : TypeId) : ARow E w w.heap.size T (.slice none 0 0) [] := ⟨_, AppS.none_ E w T⟩
theorem ARow.made (E : Rp α) (w : World) (T : TypeId) : ARow E (w.alloc (.cells #[] T)) w.heap.size T (.slice (some ⟨w.heap.size, 0, none⟩) 0 0) [] :=
  ⟨_, _, _, _, _, Nat.le_refl _, Nat.le_succ _, by simp, App.made E w T, fun k => Iff.rfl⟩
theorem ARow.call (hE : Ok E) (h : ARow E w lo T v L) (hb : Below w.heap.size w w') : ARow E w' lo T v L := by
  obtain ⟨S, h⟩ := h
  exact ⟨S, (h.call hE (Nat.le_refl _) hb).rise hb.size⟩
theorem ARow.isSlice (h : ARow E w lo T v L) : ∃ a c, v = .slice a L.length c := by obtain ⟨S, h⟩ := h; exact h.isSlice
theorem ARow.base (h : ARow E w lo T v L) : lo ≤ w.heap.size := by
  obtain ⟨S, a, b, xs, Sf, h1, h2, h3, _⟩ := h
  omega
theorem ARow.app {P : Program} (hE : Ok E) (h : ARow E w lo T v L) (hb : Below w.heap.size w w') {t ty : TypeId} {i : TypeInfo} {z : Value} {bytes : Nat} (ht : P.underlying t = some (.slice T)) (hi' : P.info? T = some i) (hz : i.zero = some z) (hsize : i.size = E.size) (hby : i.bytes = bytes) (hzs : z.cells.size = E.size) (hpos : 0 < E.size)
    {x : α} {us : List Value} {blk c : Nat} (hrow : ∀ j u, us[j]? = some u → w'.cell? ⟨blk, j, none⟩ = some u) (hx : E.ow w' (Rg w.heap.size w'.heap.size) x us) (hL : L.length + 1 ≤ maxLen) (hLb : (L.length + 1) * bytes ≤ 140737488355328) :
    ∃ a' c' w2, (Builtin.append_ #[t, t] ty #[v, .slice (some ⟨blk, 0, none⟩) 1 c]).run P w' = .ok (.slice a' (L ++ [x]).length c') w2 ∧ ARow E w2 lo T (.slice a' (L ++ [x]).length c') (L ++ [x]) ∧ Below lo w' w2 := by
  obtain ⟨S, h⟩ := h
  have h' := h.call hE (Nat.le_refl _) hb
  obtain ⟨v', w2, S', hrun, hA, hg, ho, _⟩ := h'.app (ty := ty) (c := c) hE ht hi' hz hsize hby hzs hpos hrow hx (fun k hk => hk) hb.size hL hLb
  have hA2 : ARow E w2 lo T v' (L ++ [x]) := ⟨S', hA⟩
  obtain ⟨a', c', rfl⟩ := hA2.isSlice
  have hlo := ARow.base (show ARow E w lo T v L from ⟨S, h⟩)
  exact ⟨a', c', w2, hrun, hA2, below_own hg (fun k hk => (h.bnd (ho k hk)).1) (Nat.le_trans hlo hb.size)⟩
theorem ARow.news (hE : Ok E) {W : World} (h : ARow E w lo T v L) (hlo : W.heap.size ≤ lo) (hb : Below W.heap.size W w) : NewS E L W (.returned v) w := by
  obtain ⟨S, h⟩ := h
  obtain ⟨a, c, rfl, ho⟩ := h.done hE
  exact ⟨a, c, rfl, ho.more fun k hk => ⟨Nat.le_trans hlo hk.1, hk.2⟩, hb⟩
end
end Go.Proofs.YtlgflddljhldhaaGreat.RepC
end
section
namespace Go.Proofs.YtlgflddljhldhaaGreat.RepC
open Go.RowKit RowC ValC
set_option linter.unusedVariables false
set_option linter.unusedSimpArgs false
set_option maxRecDepth 100000
section
variable {α : Type} {E : Rp α} {f : α → List Value} {w w' : World} {lo : Nat} {T : TypeId} {v : Value} {L : List α}
theorem FRow.low {lo' : Nat} (h : FRow E f w lo T v L) (hl : lo' ≤ lo) : FRow E f w lo' T v L := by
  refine ⟨?_, fun k hk => ⟨Nat.le_trans hl (h.blk k hk).1, (h.blk k hk).2⟩⟩
  obtain ⟨h1, h2⟩ := h.own
  refine ⟨h1, ?_⟩
  rcases h2 with h2 | ⟨g, cap, cur, rfl, hlo, h3⟩
  · exact .inl h2
  · exact .inr ⟨g, cap, cur, rfl, Nat.le_trans hl hlo, h3⟩
theorem FRow.keep (h : FRow E f w lo T v L) (hb : ∀ k, v.ownBlock = some k → w'.heap[k]? = w.heap[k]?) : FRow E f w' lo T v L := by
  refine ⟨?_, fun k hk => ⟨(h.blk k hk).1, ?_⟩⟩
  · obtain ⟨h1, h2⟩ := h.own
    refine ⟨h1, ?_⟩
    rcases h2 with h2 | ⟨g, cap, cur, rfl, hlo, hg, h3⟩
    · exact .inl h2
    · exact .inr ⟨g, cap, cur, rfl, hlo, (hb g rfl).trans hg, h3⟩
  · have h1 := hb k hk
    rw [Array.getElem?_eq_getElem (h.blk k hk).2] at h1
    exact (Array.getElem?_eq_some_iff.1 h1).1
theorem FRow.emp (hE : Ok E) (hF : Flat E f) {P : Program} {g : Nat} (hr : FRow E f w lo T (.slice (some ⟨g, 0, none⟩) 0 0) []) {t ty : TypeId} {i : TypeInfo} {z : Value} {bytes : Nat} (ht : P.underlying t = some (.slice T)) (hi : P.info? T = some i) (hz : i.zero = some z) (hsize : i.size = E.size) (hby : i.bytes = bytes) (hzs : z.cells.size = E.size) (hpos : 0 < E.size)
    {M : List α} {a : Option Addr} {cap : Nat} (hM : RdSl E w w.heap.size M a cap) (hlo : lo ≤ w.heap.size) (hL : M.length ≤ maxLen) (hLb : M.length * bytes ≤ 140737488355328) :
    ∃ a' c' w', (Builtin.append_ #[t, t] ty #[.slice (some ⟨g, 0, none⟩) 0 0, .slice a M.length cap]).run P w = .ok (.slice a' M.length c') w' ∧ FRow E f w' lo T (.slice a' M.length c') M ∧ Below w.heap.size w w' ∧ ∀ k, (Value.slice a' M.length c').ownBlock = some k → k = g ∨ (w.heap.size ≤ k ∧ k < w'.heap.size) := by
  by_cases h0 : M.length = 0
  · have h1 : M = [] := List.eq_nil_of_length_eq_zero h0
    subst h1
    exact ⟨_, _, w, app_nil ht hi _ a 0 cap, hr, Below.refl _ _, fun k hk => .inl (by cases hk; rfl)⟩
  · obtain ⟨g', o, rfl, hg, hel⟩ := hM.2.2 (by omega)
    have hall := flatMap_cells hE hF w g' M o fun q x hx => by
      obtain ⟨us, hu, hrd⟩ := hel q x hx
      rw [← hF.rd hrd]
      exact hu
    have hlen := flatMap_len hE hF w M
    have hge := grownCap_ge w M.length 0 T
    have hrun := run_append_grow (P := P) w t ty T i z ht hi hz ⟨g, 0, none⟩ 0 0 [] (by simp) (by simp) ⟨g', o, none⟩ M.length cap (M.flatMap f) (by rw [hsize]; exact hlen) (fun j u hj => by
      have hadd : (⟨g', o, none⟩ : Addr).add j = ⟨g', o + j, none⟩ := by unfold Addr.add; split <;> simp_all
      rw [hadd]
      exact hall j u hj) (by omega) (by unfold maxLen at hL; omega) (by rw [Nat.zero_add, nextslicecap_zero (by omega), hby]; omega)
    simp only [Nat.zero_add, show (([] : List Value).toArray ++ (M.flatMap f).toArray) = (M.flatMap f).toArray from by simp] at hrun
    refine ⟨_, _, _, hrun, ⟨⟨hlen, .inr ⟨w.heap.size, _, _, rfl, hlo, heap_alloc_new w.drew _, hge, grownCap_le_maxLen _ _ _ _ hL, ?_, ?_⟩⟩, fun k hk => ?_⟩, (Below.refl _ w).drew.alloc (Nat.le_refl _) _, fun k hk => .inr ?_⟩
    · simp only [Array.size_append, List.size_toArray, size_zeroCells, hzs, hlen, ← Nat.add_mul]
      congr 1
      omega
    · simp only [Array.toList_append]
      rw [← hlen]
      exact List.take_left
    · cases hk
      exact ⟨hlo, by simp⟩
    · cases hk
      exact ⟨Nat.le_refl _, by simp⟩
end
def GrS {α : Type} (E : Rp α) (f : α → List Value) (T : TypeId) : Rp (List α) := { Sl E with ow := fun W S L cs => ∃ v lo, cs = [v] ∧ FRow E f W lo T v L ∧ ∀ k, v.ownBlock = some k → S k }
theorem GrS_sl {α : Type} {E : Rp α} {f : α → List Value} {T : TypeId} (hE : Ok E) (hF : Flat E f) {W : World} {S : Nat → Prop} {L : List α} {cs : List Value} (h : (GrS E f T).ow W S L cs) : (Sl E).ow W S L cs := by
  obtain ⟨v, lo, rfl, hr, hS⟩ := h
  obtain ⟨a, c, rfl, ho⟩ := hr.sl hE hF
  exact ⟨a, c, rfl, ho.more hS⟩
theorem GrS_ok {α : Type} {E : Rp α} {f : α → List Value} {T : TypeId} (hE : Ok E) (hF : Flat E f) : Ok (GrS E f T) where
  rd_len h := (Sl_ok hE).rd_len h
  ow_len h := by obtain ⟨v, lo, rfl, _⟩ := h; rfl
  rd_below h hb := (Sl_ok hE).rd_below h hb
  rd_more h hb := (Sl_ok hE).rd_more h hb
  ow_keep h hb := by obtain ⟨v, lo, rfl, hr, hS⟩ := h; exact ⟨v, lo, rfl, hr.keep fun k hk => hb k (hS k hk), hS⟩
  ow_more h hT := by obtain ⟨v, lo, rfl, hr, hS⟩ := h; exact ⟨v, lo, rfl, hr, fun k hk => hT k (hS k hk)⟩
  ow_rd h hB := (Sl_ok hE).ow_rd (GrS_sl hE hF h) hB
  one h := (Sl_ok hE).one h
def fI (x : Int) : List Value := [.int .i64 x]
def fN (x : D_Note) : List Value := [.int .i64 x.1, .int .i64 x.2]
theorem flat_Note : Flat R_Note fN := ⟨fun {W B x us} h => by obtain ⟨a, b⟩ := x; exact rd_Note h, fun W S x => by obtain ⟨a, b⟩ := x; exact mkow_Note⟩
theorem flat_In : Flat I fI := flat_I
abbrev IRw (w : World) (lo : Nat) (v : Value) (L : List Int) : Prop := FRow I fI w lo 2 v L
abbrev NRw (w : World) (lo : Nat) (v : Value) (L : List D_Note) : Prop := FRow R_Note fN w lo 75 v L
theorem infoNote : ∃ i, Tryz.prog.info? 75 = some i ∧ i.zero = some (.agg #[.int .i64 0, .int .i64 0]) ∧ i.size = 2 ∧ i.bytes = 16 := infoOf (by kernel_rfl)
theorem infoBox : ∃ i, Tryz.prog.info? 73 = some i ∧ i.zero = some (.agg #[.slice none 0 0, .slice none 0 0, .slice none 0 0]) ∧ i.size = 3 ∧ i.bytes = 72 := infoOf (by kernel_rfl)
theorem IRw.emp {w : World} {lo g : Nat} (hr : IRw w lo (.slice (some ⟨g, 0, none⟩) 0 0) []) {M : List Int} {a : Option Addr} {cap : Nat} (hM : RdSl I w w.heap.size M a cap) (hlo : lo ≤ w.heap.size) (hL : M.length ≤ 1048576) :
    ∃ a' c' w', (Builtin.append_ #[70, 70] 70 #[.slice (some ⟨g, 0, none⟩) 0 0, .slice a M.length cap]).run Tryz.prog w = .ok (.slice a' M.length c') w' ∧ IRw w' lo (.slice a' M.length c') M ∧ Below w.heap.size w w' ∧ ∀ k, (Value.slice a' M.length c').ownBlock = some k → k = g ∨ (w.heap.size ≤ k ∧ k < w'.heap.size) := by
  obtain ⟨i, hi', hz, hs, hby⟩ := infoIn
  exact FRow.emp I_ok flat_In hr Tryz.underlying70 hi' hz hs hby rfl (by decide) hM hlo (by unfold maxLen; omega) (by omega)
theorem NRw.emp {w : World} {lo g : Nat} (hr : NRw w lo (.slice (some ⟨g, 0, none⟩) 0 0) []) {M : List D_Note} {a : Option Addr} {cap : Nat} (hM : RdSl R_Note w w.heap.size M a cap) (hlo : lo ≤ w.heap.size) (hL : M.length ≤ 1048576) :
    ∃ a' c' w', (Builtin.append_ #[71, 71] 71 #[.slice (some ⟨g, 0, none⟩) 0 0, .slice a M.length cap]).run Tryz.prog w = .ok (.slice a' M.length c') w' ∧ NRw w' lo (.slice a' M.length c') M ∧ Below w.heap.size w w' ∧ ∀ k, (Value.slice a' M.length c').ownBlock = some k → k = g ∨ (w.heap.size ≤ k ∧ k < w'.heap.size) := by
  obtain ⟨i, hi', hz, hs, hby⟩ := infoNote
  exact FRow.emp R_Note_ok flat_Note hr Tryz.underlying71 hi' hz hs hby rfl (by decide) hM hlo (by unfold maxLen; omega) (by omega)
def GrI : Rp (List Int) := GrS I fI 2
def GrN : Rp (List D_Note) := GrS R_Note fN 75
theorem GrI_ok : Ok GrI := GrS_ok I_ok flat_In
theorem GrN_ok : Ok GrN := GrS_ok R_Note_ok flat_Note
def R_BoxG : Rp D_Box := Pr GrI (Pr GrI GrN)
theorem R_BoxG_ok : Ok R_BoxG := Pr_ok GrI_ok (Pr_ok GrI_ok GrN_ok)
theorem size_BoxG : R_BoxG.size = 3 := rfl
theorem mkow_BoxG {w : World} {l0 l1 l2 : Nat} {v0 v1 v2 : Value} {F G : List Int} {L : List D_Note} {S : Nat → Prop} (h0 : IRw w l0 v0 F) (h1 : IRw w l1 v1 G) (h2 : NRw w l2 v2 L)
    (d01 : ∀ k, v0.ownBlock = some k → v1.ownBlock ≠ some k) (d02 : ∀ k, v0.ownBlock = some k → v2.ownBlock ≠ some k) (d12 : ∀ k, v1.ownBlock = some k → v2.ownBlock ≠ some k)
    (s0 : ∀ k, v0.ownBlock = some k → S k) (s1 : ∀ k, v1.ownBlock = some k → S k) (s2 : ∀ k, v2.ownBlock = some k → S k) : R_BoxG.ow w S (F, G, L) [v0, v1, v2] :=
  ⟨[v0], [v1, v2], fun k => v0.ownBlock = some k, fun k => v1.ownBlock = some k ∨ v2.ownBlock = some k, rfl, s0, fun k hk => hk.elim (s1 k) (s2 k), fun k hk h => h.elim (d01 k hk) (d02 k hk), ⟨v0, l0, rfl, h0, fun k hk => hk⟩,
    [v1], [v2], fun k => v1.ownBlock = some k, fun k => v2.ownBlock = some k, rfl, fun k hk => .inl hk, fun k hk => .inr hk, d12, ⟨v1, l1, rfl, h1, fun k hk => hk⟩, ⟨v2, l2, rfl, h2, fun k hk => hk⟩⟩
theorem boxG_weak {W : World} {S : Nat → Prop} {b : D_Box} {cs : List Value} (h : R_BoxG.ow W S b cs) : R_Box.ow W S b cs := by
  obtain ⟨us, vs, S1, S2, rfl, a1, a2, a3, h1, us2, vs2, S3, S4, rfl, b1, b2, b3, h2, h3⟩ := h
  exact ⟨us, us2 ++ vs2, S1, S2, rfl, a1, a2, a3, GrS_sl I_ok flat_In h1, us2, vs2, S3, S4, rfl, b1, b2, b3, GrS_sl I_ok flat_In h2, GrS_sl R_Note_ok flat_Note h3⟩
theorem boxesG_weak {W : World} {S : Nat → Prop} {L : List D_Box} {a : Option Addr} {c : Nat} (h : OwSl R_BoxG W S L a c) : OwSl R_Box W S L a c := by
  refine ⟨h.1, h.2.1, fun hn => ?_⟩
  obtain ⟨g, Sf, ha, hg, hf, hs, hd, hc⟩ := h.2.2 hn
  refine ⟨g, Sf, ha, hg, hf, hs, hd, fun i x hx => ?_⟩
  obtain ⟨us, hu, hr⟩ := hc i x hx
  exact ⟨us, hu, boxG_weak hr⟩
end Go.Proofs.YtlgflddljhldhaaGreat.RepC
end
section
namespace Go.Proofs.YtlgflddljhldhaaGreat.RepC
open Go.RowKit RowC ValC SpanC KeptC
set_option linter.unusedVariables false
set_option linter.unusedSimpArgs false
theorem ARow.far {α : Type} {E : Rp α} (hE : Ok E) {w : World} {lo : Nat} {T : TypeId} {v : Value} {L : List α} (h : ARow E w lo T v L) {p : Addr} (hp : p.block < lo) (u : Value) : ARow E (w.setCell p u) lo T v L := by
  obtain ⟨S, h⟩ := h
  have e : (w.setCell p u).heap.size = w.heap.size := by simp [World.setCell]
  refine ⟨S, ?_⟩
  rw [e]
  exact h.mv hE (by rw [e]; exact Nat.le_refl _) fun k hk => Below.heap_setCell _ _ _ _ (fun q => by have := (h.bnd hk).1; omega)
theorem ARow.owsl {α : Type} {E : Rp α} (hE : Ok E) {w : World} {lo : Nat} {T : TypeId} {v : Value} {L : List α} (h : ARow E w lo T v L) : ∃ a c, v = .slice a L.length c ∧ OwSl E w (Rg lo w.heap.size) L a c := by
  obtain ⟨S, h⟩ := h
  exact h.done hE
theorem app_box2 {w w' : World} {lo : Nat} {v : Value} {L : List D_Box} (h : ARow R_BoxG w lo 73 v L) (hb : Below w.heap.size w w') {x : D_Box} {v0 v1 v2 : Value} {blk : Nat} (hc : Blk w' blk 73 #[v0, v1, v2]) (hx : R_BoxG.ow w' (Rg w.heap.size w'.heap.size) x [v0, v1, v2]) (hL : L.length ≤ 4096) :
    ∃ a' c' w2, (Builtin.append_ #[34, 34] 34 #[v, .slice (some ⟨blk, 0, none⟩) 1 1]).run Tryz.prog w' = .ok (.slice a' (L ++ [x]).length c') w2 ∧ ARow R_BoxG w2 lo 73 (.slice a' (L ++ [x]).length c') (L ++ [x]) ∧ Below lo w' w2 ∧ ∀ k, w.heap.size ≤ k → k < w'.heap.size → w2.heap[k]? = w'.heap[k]? := by
  obtain ⟨i, hi', hz, hs, hby⟩ := infoBox
  obtain ⟨S, h⟩ := h
  have h' := h.call R_BoxG_ok (Nat.le_refl _) hb
  obtain ⟨v', w2, S', hrun, hA, hg, ho, _⟩ := h'.app (P := Tryz.prog) (ty := 34) (c := 1) R_BoxG_ok Tryz.underlying34 hi' hz hs hby rfl (by decide) (us := [v0, v1, v2]) (fun j u hj => hc.at_ j (by simpa using hj)) hx (fun k hk => hk) hb.size (by unfold maxLen; omega) (by omega)
  have hA2 : ARow R_BoxG w2 lo 73 v' (L ++ [x]) := ⟨S', hA⟩
  obtain ⟨a', c', rfl⟩ := hA2.isSlice
  have hlo := ARow.base (show ARow R_BoxG w lo 73 v L from ⟨S, h⟩)
  exact ⟨a', c', w2, hrun, hA2, below_own hg (fun k hk => (h.bnd (ho k hk)).1) (Nat.le_trans hlo hb.size), fun k h1 h2 => hg.block k h2 (fun e => by have := (h.bnd (ho k e.symm)).2; omega)⟩
theorem one_set {w : World} {g : Nat} {t : TypeId} {x : Value} (h : Blk w g t #[x]) (v : Value) : Blk (w.setCell ⟨g, 0, none⟩ v) g t #[v] := Blk.as (h.set 0 v) (by rfl)
theorem take_box {L : List D_Box} {k : Nat} {x : D_Box} (h : L[k]? = some x) : L.take k ++ [x] = L.take (k + 1) := by rw [List.take_add_one, h, Option.toList_some]
set_option maxRecDepth 100000 in
set_option maxHeartbeats 6400000 in
theorem copy15_spec {M : List D_Box} {xa : Option Addr} {xc : Nat} {W : World} (hn : M.length ≤ 4096) (hM : ∀ x ∈ M, x.1.length ≤ 1048576 ∧ x.2.1.length ≤ 1048576 ∧ x.2.2.length ≤ 1048576) (hX : RdSl R_Box W W.heap.size M xa xc) :
    Calls Tryz.prog 38 #[.agg #[.slice xa M.length xc]] W (NewV (Sl R_BoxG) M W) := by
  have HXW := Lib.hid hX
  have HS := Lib.hid hM
  clear hM
  obtain ⟨w0, hw0⟩ : ∃ w, w = ((W.alloc (.cells #[.slice xa M.length xc] 36)).alloc (.cells #[.slice none 0 0] 36)).alloc (.cells #[.slice none 0 0] 36) := ⟨_, rfl⟩
  have hb0 : Below W.heap.size W w0 := by rw [hw0]; exact (((Below.refl _ _).alloc (Nat.le_refl _) _).alloc (by simp) _).alloc (by simp <;> omega) _
  have x0_ : Blk w0 (W.heap.size) 36 #[.slice xa M.length xc] := by
    have h9 := Blk.new W 36 #[.slice xa M.length xc]
    try simp only [World.size_alloc] at h9
    rw [hw0]; exact ((h9.alloc _).alloc _)
  have X0 := Lib.hid x0_
  have x1_ : Blk w0 (W.heap.size + 1) 36 #[.slice none 0 0] := by
    have h9 := Blk.new (W.alloc (.cells #[.slice xa M.length xc] 36)) 36 #[.slice none 0 0]
    try simp only [World.size_alloc] at h9
    rw [hw0]; exact (h9.alloc _)
  have X1 := Lib.hid x1_
  have x2_ : Blk w0 (W.heap.size + 1 + 1) 36 #[.slice none 0 0] := by
    have h9 := Blk.new ((W.alloc (.cells #[.slice xa M.length xc] 36)).alloc (.cells #[.slice none 0 0] 36)) 36 #[.slice none 0 0]
    try simp only [World.size_alloc] at h9
    rw [hw0]; exact h9
  have X2 := Lib.hid x2_
  have HX := Lib.hid (rd_mv R_Box_ok hX hb0)
  have HB0 := Lib.hid hb0
  have hz0 := hb0.size
  clear hb0 hX x0_ x1_ x2_
  go_enter Tryz.func38, Tryz.ntmps38
  go_wp2
  rw [← hw0]
  have hs3 : w0.heap.size = W.heap.size + 1 + 1 + 1 := by rw [hw0]; simp
  have HS3 := Lib.hid hs3
  clear hw0 hs3
  go_loopw [4] (fun i wr => ∃ k : Nat, k ≤ M.length ∧ i = .int .i64 k ∧ (∃ va vc, Hid (Blk wr (W.heap.size + 1 + 1) 36 #[.slice va k vc]) ∧ Hid (ARow R_BoxG wr w0.heap.size 73 (.slice va k vc) (M.take k))) ∧ Below (W.heap.size + 1 + 1) w0 wr) (fun i _ => M.length - (intOf i).toNat)
  case atStart => exact ⟨0, Nat.zero_le _, rfl, ⟨none, 0, X2, Lib.hid (ARow.none_ R_BoxG w0 73)⟩, Below.refl _ _⟩
  case round =>
    obtain ⟨k, hk, rfl, ⟨va, vc, HT, HR⟩, hB⟩ := hrel
    obtain ⟨wo, rfl⟩ : ∃ x, x = wr := ⟨_, rfl⟩
    have HB := Lib.hid hB
    have hsz := hB.size
    have HBW := Lib.hid (HB0.out.trans (hB.mono (show W.heap.size ≤ W.heap.size + 1 + 1 by omega)))
    have q0 : wo.cell? ⟨W.heap.size, 0, none⟩ = some (.slice xa M.length xc) := (hB.cell (p := ⟨W.heap.size, 0, none⟩) (by show W.heap.size < W.heap.size + 1 + 1; omega)).trans (X0.out.at_ 0 rfl)
    by_cases hlt : k < M.length
    · have hdl : decide ((k : Int) < (M.length : Int)) = true := decide_eq_true (by omega)
      obtain ⟨⟨F, G, L⟩, hx⟩ := el_some hlt
      have HTK := Lib.hid (take_box hx)
      have hll := HS.out _ (List.mem_of_getElem? hx)
      obtain ⟨hl0, hl1, hl2⟩ := hll
      have HL0 := Lib.hid (show F.length ≤ 1048576 from hl0)
      have HL1 := Lib.hid (show G.length ≤ 1048576 from hl1)
      have HL2 := Lib.hid (show L.length ≤ 1048576 from hl2)
      obtain ⟨g, o, us, rfl, hg, hu, hr⟩ := (rd_mv R_Box_ok HXW.out HBW.out).at_ hx
      obtain ⟨fa, fc, ga, gc, la, lc, rfl, k_F, k_G, k_L⟩ := rd_Box hr
      have e0 : wo.cell? ⟨g, o + k * 3, none⟩ = some (.slice fa F.length fc) := by simpa [size_BoxS, Nat.add_assoc] using hu 0 _ rfl
      have e1 : wo.cell? ⟨g, o + k * 3 + 1, none⟩ = some (.slice ga G.length gc) := by simpa [size_BoxS, Nat.add_assoc] using hu 1 _ rfl
      have e2 : wo.cell? ⟨g, o + k * 3 + 2, none⟩ = some (.slice la L.length lc) := by simpa [size_BoxS, Nat.add_assoc] using hu 2 _ rfl
      have hi0 : (0 : Int) ≤ (k : Int) := Int.natCast_nonneg _
      have hi1 : (k : Int) < (M.length : Int) := by omega
      obtain ⟨w1, hw1⟩ : ∃ w, w = wo.alloc (.cells #[.slice fa F.length fc, .slice ga G.length gc, .slice la L.length lc] 73) := ⟨_, rfl⟩
      have hb1 : Below wo.heap.size wo w1 := by rw [hw1]; exact (Below.refl _ _).alloc (Nat.le_refl _) _
      have T := Lib.hid (show Blk w1 wo.heap.size 73 #[.slice fa F.length fc, .slice ga G.length gc, .slice la L.length lc] from by rw [hw1]; exact Blk.new _ _ _)
      have HB1 := Lib.hid hb1
      have HT1 := Lib.hid (HT.out.call hb1)
      have HKF := Lib.hid (rd_mv I_ok k_F hb1)
      have HKG := Lib.hid (rd_mv I_ok k_G hb1)
      have HKL := Lib.hid (rd_mv R_Note_ok k_L hb1)
      have hz1 := hb1.size
      have HRL := Lib.hid (show W.heap.size + 1 + 1 < w0.heap.size from by have := HS3.out; omega)
      clear hx hu hr hg k_F k_G k_L hl0 hl1 hl2 hB
      go_upto_region 6 with fail
      rw [← hw1]
      clear hw1 hb1 e0 e1 e2 q0
      have HW0 := Lib.hid (show w0.heap.size ≤ w1.heap.size from Nat.le_trans hsz hz1)
      refine kregion [18] (S := (fun V => Below w0.heap.size w1 V ∧ Blk V wo.heap.size 73 #[.slice fa F.length fc, .slice ga G.length gc, .slice la L.length lc])) (by kernel_rfl) ⟨(Below.refl _ _).drew, T.out⟩ (fun hHeld => ?_)
      obtain ⟨wd, hwd⟩ : ∃ w, w = w1.drew := ⟨_, rfl⟩
      have HBU := Lib.hid (show Below w1.heap.size w1 wd from by rw [hwd]; exact (Below.refl _ _).drew)
      rw [← hwd] at hHeld
      rw [← hwd]
      clear hwd
      refine kk 0 hHeld ?_
      refine kk 1 hHeld ?_ (hy := fun w hSw => by (try dsimp only at hSw); have k0 := (hSw.1.cell (p := ⟨W.heap.size + 1 + 1, 0, none⟩) HRL.out).trans (HT1.out.at_ 0 rfl); clear hSw; go_simp; try with_reducible rfl)
      refine kk 3 hHeld ?_
      refine kk 4 hHeld ?_ (hy := fun w hSw => by (try dsimp only at hSw); have k0 := hSw.2.at_ 0 rfl; clear hSw; go_simp; try with_reducible rfl)
      refine kk 7 hHeld ?_
      refine kk 8 hHeld ?_ (hy := fun w hSw => by (try dsimp only at hSw); have k0 := hSw.2.at_ 1 rfl; clear hSw; go_simp; try with_reducible rfl)
      refine kk 11 hHeld ?_
      refine kk 12 hHeld ?_ (hy := fun w hSw => by (try dsimp only at hSw); have k0 := hSw.2.at_ 2 rfl; clear hSw; go_simp; try with_reducible rfl)
      refine kr (rs := [2, 6, 10]) (by kernel_rfl) (by simp) ?_
      refine AllK.cons rfl (fun K hK => ?_) (AllK.cons rfl (fun K hK => ?_) (AllK.cons rfl (fun K hK => ?_) (AllK.nil)))
      · skip
        go_simp
        obtain ⟨u_1, hw⟩ : ∃ w', w' = wd.alloc (.cells #[] 2) := ⟨_, rfl⟩
        have hb : Below wd.heap.size wd u_1 := by rw [hw]; exact (Below.refl _ _).alloc (Nat.le_refl _) _
        have hrow : IRw u_1 w1.heap.size (.slice (some ⟨wd.heap.size, 0, none⟩) 0 0) [] := by rw [hw]; exact (FRow.made I fI wd 2).low HBU.out.size
        have hlt0 : wd.heap.size < u_1.heap.size := by rw [hw]; simp
        rw [← hw]
        clear hw
        have HE0 := Lib.hid hrow
        have HZ_1 := Lib.hid hlt0
        have hS2 := And.intro (hHeld.1.trans (hb.mono (Nat.le_trans HW0.out HBU.out.size))) (hHeld.2.call hb)
        have HBU := Lib.hid (HBU.out.trans (hb.mono HBU.out.size))
        refine hK.out _ _ hS2 (fun hHeld => ?_)
        clear hK K hb hrow hlt0 hS2
        refine kr (rs := [5, 6, 10]) (by kernel_rfl) (by simp) ?_
        refine AllK.cons rfl (fun K hK => ?_) (AllK.cons rfl (fun K hK => ?_) (AllK.cons rfl (fun K hK => ?_) (AllK.nil)))
        · skip
          obtain ⟨x0, c0, u_2, hr, hrow, hb, hq⟩ := IRw.emp HE0.out (rd_mv I_ok HKF.out HBU.out) HBU.out.size HL0.out
          have HRUN := Lib.hid hr
          clear hr
          have HM0 := Lib.hid hrow
          have HQ0 := Lib.hid hq
          have HZ_2 := Lib.hid hb.size
          refine step_app rfl (.tmp 21) (.tmp 23) 70 rfl rfl rfl HRUN.out ?_
          have hS2 := And.intro (hHeld.1.trans (hb.mono (Nat.le_trans HW0.out HBU.out.size))) (hHeld.2.call hb)
          have HBU := Lib.hid (HBU.out.trans (hb.mono HBU.out.size))
          refine hK.out _ _ hS2 (fun hHeld => ?_)
          clear hK K hb hrow hq HRUN hS2 HE0
          refine kr (rs := [6, 10]) (by kernel_rfl) (by simp) ?_
          refine AllK.cons rfl (fun K hK => ?_) (AllK.cons rfl (fun K hK => ?_) (AllK.nil))
          · skip
            go_simp
            obtain ⟨u_3, hw⟩ : ∃ w', w' = u_2.alloc (.cells #[] 2) := ⟨_, rfl⟩
            have hb : Below u_2.heap.size u_2 u_3 := by rw [hw]; exact (Below.refl _ _).alloc (Nat.le_refl _) _
            have hrow : IRw u_3 w1.heap.size (.slice (some ⟨u_2.heap.size, 0, none⟩) 0 0) [] := by rw [hw]; exact (FRow.made I fI u_2 2).low HBU.out.size
            have hlt0 : u_2.heap.size < u_3.heap.size := by rw [hw]; simp
            rw [← hw]
            clear hw
            have HM0 := Lib.hid (FRow.call HM0.out hb)
            have HE1 := Lib.hid hrow
            have HZ_3 := Lib.hid hlt0
            have hS2 := And.intro (hHeld.1.trans (hb.mono (Nat.le_trans HW0.out HBU.out.size))) (hHeld.2.call hb)
            have HBU := Lib.hid (HBU.out.trans (hb.mono HBU.out.size))
            refine hK.out _ _ hS2 (fun hHeld => ?_)
            clear hK K hb hrow hlt0 hS2
            refine kr (rs := [9, 10]) (by kernel_rfl) (by simp) ?_
            refine AllK.cons rfl (fun K hK => ?_) (AllK.cons rfl (fun K hK => ?_) (AllK.nil))
            · skip
              obtain ⟨x1, c1, u_4, hr, hrow, hb, hq⟩ := IRw.emp HE1.out (rd_mv I_ok HKG.out HBU.out) HBU.out.size HL1.out
              have HRUN := Lib.hid hr
              clear hr
              have HM0 := Lib.hid (FRow.call HM0.out hb)
              have HM1 := Lib.hid hrow
              have HQ1 := Lib.hid hq
              have HZ_4 := Lib.hid hb.size
              refine step_app rfl (.tmp 25) (.tmp 27) 70 rfl rfl rfl HRUN.out ?_
              have hS2 := And.intro (hHeld.1.trans (hb.mono (Nat.le_trans HW0.out HBU.out.size))) (hHeld.2.call hb)
              have HBU := Lib.hid (HBU.out.trans (hb.mono HBU.out.size))
              refine hK.out _ _ hS2 (fun hHeld => ?_)
              clear hK K hb hrow hq HRUN hS2 HE1
              refine kr (rs := [10]) (by kernel_rfl) (by simp) ?_
              refine AllK.cons rfl (fun K hK => ?_) (AllK.nil)
              go_simp
              obtain ⟨u_5, hw⟩ : ∃ w', w' = u_4.alloc (.cells #[] 75) := ⟨_, rfl⟩
              have hb : Below u_4.heap.size u_4 u_5 := by rw [hw]; exact (Below.refl _ _).alloc (Nat.le_refl _) _
              have hrow : NRw u_5 w1.heap.size (.slice (some ⟨u_4.heap.size, 0, none⟩) 0 0) [] := by rw [hw]; exact (FRow.made R_Note fN u_4 75).low HBU.out.size
              have hlt0 : u_4.heap.size < u_5.heap.size := by rw [hw]; simp
              rw [← hw]
              clear hw
              have HM0 := Lib.hid (FRow.call HM0.out hb)
              have HM1 := Lib.hid (FRow.call HM1.out hb)
              have HE2 := Lib.hid hrow
              have HZ_5 := Lib.hid hlt0
              have hS2 := And.intro (hHeld.1.trans (hb.mono (Nat.le_trans HW0.out HBU.out.size))) (hHeld.2.call hb)
              have HBU := Lib.hid (HBU.out.trans (hb.mono HBU.out.size))
              refine hK.out _ _ hS2 (fun hHeld => ?_)
              clear hK K hb hrow hlt0 hS2
              refine kr (rs := [13]) (by kernel_rfl) (by simp) ?_
              refine AllK.cons rfl (fun K hK => ?_) (AllK.nil)
              obtain ⟨x2, c2, u_6, hr, hrow, hb, hq⟩ := NRw.emp HE2.out (rd_mv R_Note_ok HKL.out HBU.out) HBU.out.size HL2.out
              have HRUN := Lib.hid hr
              clear hr
              have HM0 := Lib.hid (FRow.call HM0.out hb)
              have HM1 := Lib.hid (FRow.call HM1.out hb)
              have HM2 := Lib.hid hrow
              have HQ2 := Lib.hid hq
              have HZ_6 := Lib.hid hb.size
              refine step_app rfl (.tmp 29) (.tmp 31) 71 rfl rfl rfl HRUN.out ?_
              have hS2 := And.intro (hHeld.1.trans (hb.mono (Nat.le_trans HW0.out HBU.out.size))) (hHeld.2.call hb)
              have HBU := Lib.hid (HBU.out.trans (hb.mono HBU.out.size))
              refine hK.out _ _ hS2 (fun hHeld => ?_)
              clear hK K hb hrow hq HRUN hS2 HE2
              refine kk 14 hHeld ?_
              refine kr (rs := [15]) (by kernel_rfl) (by simp) ?_
              refine AllK.cons rfl (fun K hK => ?_) (AllK.nil)
              obtain ⟨u5, hw⟩ : ∃ w', w' = u_6.alloc (.cells #[.slice x0 F.length c0, .slice x1 G.length c1, .slice x2 L.length c2] 73) := ⟨_, rfl⟩
              have hb : Below u_6.heap.size u_6 u5 := by rw [hw]; exact (Below.refl _ _).alloc (Nat.le_refl _) _
              have hbl : Blk u5 u_6.heap.size 73 #[.slice x0 F.length c0, .slice x1 G.length c1, .slice x2 L.length c2] := by rw [hw]; exact Blk.new _ _ _
              have D01 := Lib.hid (show ∀ k, (Value.slice x0 F.length c0).ownBlock = some k → (Value.slice x1 G.length c1).ownBlock ≠ some k from fun k h1 h2 => by have y1 := HQ0.out k h1; have y2 := HQ1.out k h2; have z1 := HZ_1.out; have z2 := HZ_2.out; have z3 := HZ_3.out; have z4 := HZ_4.out; have z5 := HZ_5.out; have z6 := HZ_6.out; omega)
              have D02 := Lib.hid (show ∀ k, (Value.slice x0 F.length c0).ownBlock = some k → (Value.slice x2 L.length c2).ownBlock ≠ some k from fun k h1 h2 => by have y1 := HQ0.out k h1; have y2 := HQ2.out k h2; have z1 := HZ_1.out; have z2 := HZ_2.out; have z3 := HZ_3.out; have z4 := HZ_4.out; have z5 := HZ_5.out; have z6 := HZ_6.out; omega)
              have D12 := Lib.hid (show ∀ k, (Value.slice x1 G.length c1).ownBlock = some k → (Value.slice x2 L.length c2).ownBlock ≠ some k from fun k h1 h2 => by have y1 := HQ1.out k h1; have y2 := HQ2.out k h2; have z1 := HZ_1.out; have z2 := HZ_2.out; have z3 := HZ_3.out; have z4 := HZ_4.out; have z5 := HZ_5.out; have z6 := HZ_6.out; omega)
              have hbu := HBU.out.trans (hb.mono HBU.out.size)
              have hox : R_BoxG.ow u5 (Rg wo.heap.size u5.heap.size) (F, G, L) [.slice x0 F.length c0, .slice x1 G.length c1, .slice x2 L.length c2] := mkow_BoxG (FRow.call HM0.out hb) (FRow.call HM1.out hb) (FRow.call HM2.out hb) D01.out D02.out D12.out (fun k hk => by have h1 := HM0.out.blk k hk; have h2 := hb.size; exact ⟨by omega, by omega⟩) (fun k hk => by have h1 := HM1.out.blk k hk; have h2 := hb.size; exact ⟨by omega, by omega⟩) (fun k hk => by have h1 := HM2.out.blk k hk; have h2 := hb.size; exact ⟨by omega, by omega⟩)
              obtain ⟨a6, c6, u6, hr6, hr7, hb6, hk6⟩ := app_box2 HR.out (HB1.out.trans (hbu.mono hz1)) hbl hox (by rw [List.length_take]; omega)
              have hlen : (M.take (k + 1)).length = k + 1 := by rw [List.length_take]; omega
              rw [HTK.out, hlen] at hr6 hr7
              have HRUN := Lib.hid hr6
              rw [hw] at HRUN
              have HR6 := Lib.hid hr7
              have hS2 := And.intro (hHeld.1.trans (hb.mono (Nat.le_trans HW0.out HBU.out.size))) (hHeld.2.call hb)
              have hS3 := And.intro (hS2.1.trans hb6) ((hk6 wo.heap.size (Nat.le_refl _) hS2.2.lt).trans hS2.2)
              have HS3x := Lib.hid hS3
              have HB6 := Lib.hid (HB.out.trans ((HB1.out.mono (show W.heap.size + 1 + 1 ≤ wo.heap.size by have := HRL.out; omega)).trans (hS3.1.mono (Nat.le_of_lt HRL.out))))
              rw [hw] at hS2
              go_simp
              refine hK.out _ _ hS2 (fun hHeld => ?_)
              clear hK K hb hw hbl hbu hox hr6 hr7 hb6 hk6 hS2 hS3 hlen
              refine kr (rs := [16]) (by kernel_rfl) (by simp) ?_
              refine AllK.cons rfl (fun K hK => ?_) (AllK.nil)
              refine step_app rfl (.tmp 20) (.tmp 34) 34 rfl rfl rfl HRUN.out ?_
              refine hK.out _ _ HS3x.out (fun hHeld => ?_)
              clear hK K HRUN
              refine kk 17 hHeld ?_
              refine kr (rs := [18]) (by kernel_rfl) (by simp) (AllK.last (by simp) rfl (fun K hK => ?_))
              have HT6 := Lib.hid (show Blk u6 (W.heap.size + 1 + 1) 36 #[.slice va k vc] from (hHeld.1.block (W.heap.size + 1 + 1) HRL.out).trans HT1.out)
              have t0 := HT6.out.at_ 0 rfl
              have s0 := HT6.out.soft 0
              go_simp
              refine hK.out _ _ ?_
              clear hK K t0 s0
              have HT9 := Lib.hid (one_set HT6.out (.slice a6 (k + 1) c6))
              have HR9 := Lib.hid (HR6.out.far R_BoxG_ok (p := ⟨W.heap.size + 1 + 1, 0, none⟩) HRL.out (.slice a6 (k + 1) c6))
              have HB9 := Lib.hid ((HB6.out).setCell (p := ⟨W.heap.size + 1 + 1, 0, none⟩) (Nat.le_refl _) (.slice a6 (k + 1) c6))
              clear hHeld
              refine k0 ?_
              go_wp2
              go_roundw
              case rel => exact ⟨k + 1, by omega, by go_num, ⟨a6, c6, HT9, HR9⟩, HB9.out⟩
              case measure => simp [intOf]; omega
            · skip
              go_simp
              obtain ⟨u_9, hw⟩ : ∃ w', w' = u_3.alloc (.cells #[] 75) := ⟨_, rfl⟩
              have hb : Below u_3.heap.size u_3 u_9 := by rw [hw]; exact (Below.refl _ _).alloc (Nat.le_refl _) _
              have hrow : NRw u_9 w1.heap.size (.slice (some ⟨u_3.heap.size, 0, none⟩) 0 0) [] := by rw [hw]; exact (FRow.made R_Note fN u_3 75).low HBU.out.size
              have hlt0 : u_3.heap.size < u_9.heap.size := by rw [hw]; simp
              rw [← hw]
              clear hw
              have HE1 := Lib.hid (FRow.call HE1.out hb)
              have HM0 := Lib.hid (FRow.call HM0.out hb)
              have HE2 := Lib.hid hrow
              have HZ_9 := Lib.hid hlt0
              have hS2 := And.intro (hHeld.1.trans (hb.mono (Nat.le_trans HW0.out HBU.out.size))) (hHeld.2.call hb)
              have HBU := Lib.hid (HBU.out.trans (hb.mono HBU.out.size))
              refine hK.out _ _ hS2 (fun hHeld => ?_)
              clear hK K hb hrow hlt0 hS2
              refine kr (rs := [9]) (by kernel_rfl) (by simp) ?_
              refine AllK.cons rfl (fun K hK => ?_) (AllK.nil)
              obtain ⟨x1, c1, u_10, hr, hrow, hb, hq⟩ := IRw.emp HE1.out (rd_mv I_ok HKG.out HBU.out) HBU.out.size HL1.out
              have HRUN := Lib.hid hr
              clear hr
              have HE2 := Lib.hid (FRow.call HE2.out hb)
              have HM0 := Lib.hid (FRow.call HM0.out hb)
              have HM1 := Lib.hid hrow
              have HQ1 := Lib.hid hq
              have HZ_10 := Lib.hid hb.size
              refine step_app rfl (.tmp 25) (.tmp 27) 70 rfl rfl rfl HRUN.out ?_
              have hS2 := And.intro (hHeld.1.trans (hb.mono (Nat.le_trans HW0.out HBU.out.size))) (hHeld.2.call hb)
              have HBU := Lib.hid (HBU.out.trans (hb.mono HBU.out.size))
              refine hK.out _ _ hS2 (fun hHeld => ?_)
              clear hK K hb hrow hq HRUN hS2 HE1
              refine kr (rs := [13]) (by kernel_rfl) (by simp) ?_
              refine AllK.cons rfl (fun K hK => ?_) (AllK.nil)
              obtain ⟨x2, c2, u_11, hr, hrow, hb, hq⟩ := NRw.emp HE2.out (rd_mv R_Note_ok HKL.out HBU.out) HBU.out.size HL2.out
              have HRUN := Lib.hid hr
              clear hr
              have HM0 := Lib.hid (FRow.call HM0.out hb)
              have HM1 := Lib.hid (FRow.call HM1.out hb)
              have HM2 := Lib.hid hrow
              have HQ2 := Lib.hid hq
              have HZ_11 := Lib.hid hb.size
              refine step_app rfl (.tmp 29) (.tmp 31) 71 rfl rfl rfl HRUN.out ?_
              have hS2 := And.intro (hHeld.1.trans (hb.mono (Nat.le_trans HW0.out HBU.out.size))) (hHeld.2.call hb)
              have HBU := Lib.hid (HBU.out.trans (hb.mono HBU.out.size))
              refine hK.out _ _ hS2 (fun hHeld => ?_)
              clear hK K hb hrow hq HRUN hS2 HE2
              refine kk 14 hHeld ?_
              refine kr (rs := [15]) (by kernel_rfl) (by simp) ?_
              refine AllK.cons rfl (fun K hK => ?_) (AllK.nil)
              obtain ⟨u5, hw⟩ : ∃ w', w' = u_11.alloc (.cells #[.slice x0 F.length c0, .slice x1 G.length c1, .slice x2 L.length c2] 73) := ⟨_, rfl⟩
              have hb : Below u_11.heap.size u_11 u5 := by rw [hw]; exact (Below.refl _ _).alloc (Nat.le_refl _) _
              have hbl : Blk u5 u_11.heap.size 73 #[.slice x0 F.length c0, .slice x1 G.length c1, .slice x2 L.length c2] := by rw [hw]; exact Blk.new _ _ _
              have D01 := Lib.hid (show ∀ k, (Value.slice x0 F.length c0).ownBlock = some k → (Value.slice x1 G.length c1).ownBlock ≠ some k from fun k h1 h2 => by have y1 := HQ0.out k h1; have y2 := HQ1.out k h2; have z1 := HZ_1.out; have z2 := HZ_2.out; have z3 := HZ_3.out; have z9 := HZ_9.out; have z10 := HZ_10.out; have z11 := HZ_11.out; omega)
              have D02 := Lib.hid (show ∀ k, (Value.slice x0 F.length c0).ownBlock = some k → (Value.slice x2 L.length c2).ownBlock ≠ some k from fun k h1 h2 => by have y1 := HQ0.out k h1; have y2 := HQ2.out k h2; have z1 := HZ_1.out; have z2 := HZ_2.out; have z3 := HZ_3.out; have z9 := HZ_9.out; have z10 := HZ_10.out; have z11 := HZ_11.out; omega)
              have D12 := Lib.hid (show ∀ k, (Value.slice x1 G.length c1).ownBlock = some k → (Value.slice x2 L.length c2).ownBlock ≠ some k from fun k h1 h2 => by have y1 := HQ1.out k h1; have y2 := HQ2.out k h2; have z1 := HZ_1.out; have z2 := HZ_2.out; have z3 := HZ_3.out; have z9 := HZ_9.out; have z10 := HZ_10.out; have z11 := HZ_11.out; omega)
              have hbu := HBU.out.trans (hb.mono HBU.out.size)
              have hox : R_BoxG.ow u5 (Rg wo.heap.size u5.heap.size) (F, G, L) [.slice x0 F.length c0, .slice x1 G.length c1, .slice x2 L.length c2] := mkow_BoxG (FRow.call HM0.out hb) (FRow.call HM1.out hb) (FRow.call HM2.out hb) D01.out D02.out D12.out (fun k hk => by have h1 := HM0.out.blk k hk; have h2 := hb.size; exact ⟨by omega, by omega⟩) (fun k hk => by have h1 := HM1.out.blk k hk; have h2 := hb.size; exact ⟨by omega, by omega⟩) (fun k hk => by have h1 := HM2.out.blk k hk; have h2 := hb.size; exact ⟨by omega, by omega⟩)
              obtain ⟨a6, c6, u6, hr6, hr7, hb6, hk6⟩ := app_box2 HR.out (HB1.out.trans (hbu.mono hz1)) hbl hox (by rw [List.length_take]; omega)
              have hlen : (M.take (k + 1)).length = k + 1 := by rw [List.length_take]; omega
              rw [HTK.out, hlen] at hr6 hr7
              have HRUN := Lib.hid hr6
              rw [hw] at HRUN
              have HR6 := Lib.hid hr7
              have hS2 := And.intro (hHeld.1.trans (hb.mono (Nat.le_trans HW0.out HBU.out.size))) (hHeld.2.call hb)
              have hS3 := And.intro (hS2.1.trans hb6) ((hk6 wo.heap.size (Nat.le_refl _) hS2.2.lt).trans hS2.2)
              have HS3x := Lib.hid hS3
              have HB6 := Lib.hid (HB.out.trans ((HB1.out.mono (show W.heap.size + 1 + 1 ≤ wo.heap.size by have := HRL.out; omega)).trans (hS3.1.mono (Nat.le_of_lt HRL.out))))
              rw [hw] at hS2
              go_simp
              refine hK.out _ _ hS2 (fun hHeld => ?_)
              clear hK K hb hw hbl hbu hox hr6 hr7 hb6 hk6 hS2 hS3 hlen
              refine kr (rs := [16]) (by kernel_rfl) (by simp) ?_
              refine AllK.cons rfl (fun K hK => ?_) (AllK.nil)
              refine step_app rfl (.tmp 20) (.tmp 34) 34 rfl rfl rfl HRUN.out ?_
              refine hK.out _ _ HS3x.out (fun hHeld => ?_)
              clear hK K HRUN
              refine kk 17 hHeld ?_
              refine kr (rs := [18]) (by kernel_rfl) (by simp) (AllK.last (by simp) rfl (fun K hK => ?_))
              have HT6 := Lib.hid (show Blk u6 (W.heap.size + 1 + 1) 36 #[.slice va k vc] from (hHeld.1.block (W.heap.size + 1 + 1) HRL.out).trans HT1.out)
              have t0 := HT6.out.at_ 0 rfl
              have s0 := HT6.out.soft 0
              go_simp
              refine hK.out _ _ ?_
              clear hK K t0 s0
              have HT9 := Lib.hid (one_set HT6.out (.slice a6 (k + 1) c6))
              have HR9 := Lib.hid (HR6.out.far R_BoxG_ok (p := ⟨W.heap.size + 1 + 1, 0, none⟩) HRL.out (.slice a6 (k + 1) c6))
              have HB9 := Lib.hid ((HB6.out).setCell (p := ⟨W.heap.size + 1 + 1, 0, none⟩) (Nat.le_refl _) (.slice a6 (k + 1) c6))
              clear hHeld
              refine k0 ?_
              go_wp2
              go_roundw
              case rel => exact ⟨k + 1, by omega, by go_num, ⟨a6, c6, HT9, HR9⟩, HB9.out⟩
              case measure => simp [intOf]; omega
          · skip
            go_simp
            obtain ⟨u_14, hw⟩ : ∃ w', w' = u_2.alloc (.cells #[] 75) := ⟨_, rfl⟩
            have hb : Below u_2.heap.size u_2 u_14 := by rw [hw]; exact (Below.refl _ _).alloc (Nat.le_refl _) _
            have hrow : NRw u_14 w1.heap.size (.slice (some ⟨u_2.heap.size, 0, none⟩) 0 0) [] := by rw [hw]; exact (FRow.made R_Note fN u_2 75).low HBU.out.size
            have hlt0 : u_2.heap.size < u_14.heap.size := by rw [hw]; simp
            rw [← hw]
            clear hw
            have HM0 := Lib.hid (FRow.call HM0.out hb)
            have HE2 := Lib.hid hrow
            have HZ_14 := Lib.hid hlt0
            have hS2 := And.intro (hHeld.1.trans (hb.mono (Nat.le_trans HW0.out HBU.out.size))) (hHeld.2.call hb)
            have HBU := Lib.hid (HBU.out.trans (hb.mono HBU.out.size))
            refine hK.out _ _ hS2 (fun hHeld => ?_)
            clear hK K hb hrow hlt0 hS2
            refine kr (rs := [6]) (by kernel_rfl) (by simp) ?_
            refine AllK.cons rfl (fun K hK => ?_) (AllK.nil)
            go_simp
            obtain ⟨u_15, hw⟩ : ∃ w', w' = u_14.alloc (.cells #[] 2) := ⟨_, rfl⟩
            have hb : Below u_14.heap.size u_14 u_15 := by rw [hw]; exact (Below.refl _ _).alloc (Nat.le_refl _) _
            have hrow : IRw u_15 w1.heap.size (.slice (some ⟨u_14.heap.size, 0, none⟩) 0 0) [] := by rw [hw]; exact (FRow.made I fI u_14 2).low HBU.out.size
            have hlt0 : u_14.heap.size < u_15.heap.size := by rw [hw]; simp
            rw [← hw]
            clear hw
            have HE2 := Lib.hid (FRow.call HE2.out hb)
            have HM0 := Lib.hid (FRow.call HM0.out hb)
            have HE1 := Lib.hid hrow
            have HZ_15 := Lib.hid hlt0
            have hS2 := And.intro (hHeld.1.trans (hb.mono (Nat.le_trans HW0.out HBU.out.size))) (hHeld.2.call hb)
            have HBU := Lib.hid (HBU.out.trans (hb.mono HBU.out.size))
            refine hK.out _ _ hS2 (fun hHeld => ?_)
            clear hK K hb hrow hlt0 hS2
            refine kr (rs := [9]) (by kernel_rfl) (by simp) ?_
            refine AllK.cons rfl (fun K hK => ?_) (AllK.nil)
            obtain ⟨x1, c1, u_16, hr, hrow, hb, hq⟩ := IRw.emp HE1.out (rd_mv I_ok HKG.out HBU.out) HBU.out.size HL1.out
            have HRUN := Lib.hid hr
            clear hr
            have HE2 := Lib.hid (FRow.call HE2.out hb)
            have HM0 := Lib.hid (FRow.call HM0.out hb)
            have HM1 := Lib.hid hrow
            have HQ1 := Lib.hid hq
            have HZ_16 := Lib.hid hb.size
            refine step_app rfl (.tmp 25) (.tmp 27) 70 rfl rfl rfl HRUN.out ?_
            have hS2 := And.intro (hHeld.1.trans (hb.mono (Nat.le_trans HW0.out HBU.out.size))) (hHeld.2.call hb)
            have HBU := Lib.hid (HBU.out.trans (hb.mono HBU.out.size))
            refine hK.out _ _ hS2 (fun hHeld => ?_)
            clear hK K hb hrow hq HRUN hS2 HE1
            refine kr (rs := [13]) (by kernel_rfl) (by simp) ?_
            refine AllK.cons rfl (fun K hK => ?_) (AllK.nil)
            obtain ⟨x2, c2, u_17, hr, hrow, hb, hq⟩ := NRw.emp HE2.out (rd_mv R_Note_ok HKL.out HBU.out) HBU.out.size HL2.out
            have HRUN := Lib.hid hr
            clear hr
            have HM0 := Lib.hid (FRow.call HM0.out hb)
            have HM1 := Lib.hid (FRow.call HM1.out hb)
            have HM2 := Lib.hid hrow
            have HQ2 := Lib.hid hq
            have HZ_17 := Lib.hid hb.size
            refine step_app rfl (.tmp 29) (.tmp 31) 71 rfl rfl rfl HRUN.out ?_
            have hS2 := And.intro (hHeld.1.trans (hb.mono (Nat.le_trans HW0.out HBU.out.size))) (hHeld.2.call hb)
            have HBU := Lib.hid (HBU.out.trans (hb.mono HBU.out.size))
            refine hK.out _ _ hS2 (fun hHeld => ?_)
            clear hK K hb hrow hq HRUN hS2 HE2
            refine kk 14 hHeld ?_
            refine kr (rs := [15]) (by kernel_rfl) (by simp) ?_
            refine AllK.cons rfl (fun K hK => ?_) (AllK.nil)
            obtain ⟨u5, hw⟩ : ∃ w', w' = u_17.alloc (.cells #[.slice x0 F.length c0, .slice x1 G.length c1, .slice x2 L.length c2] 73) := ⟨_, rfl⟩
            have hb : Below u_17.heap.size u_17 u5 := by rw [hw]; exact (Below.refl _ _).alloc (Nat.le_refl _) _
            have hbl : Blk u5 u_17.heap.size 73 #[.slice x0 F.length c0, .slice x1 G.length c1, .slice x2 L.length c2] := by rw [hw]; exact Blk.new _ _ _
            have D01 := Lib.hid (show ∀ k, (Value.slice x0 F.length c0).ownBlock = some k → (Value.slice x1 G.length c1).ownBlock ≠ some k from fun k h1 h2 => by have y1 := HQ0.out k h1; have y2 := HQ1.out k h2; have z1 := HZ_1.out; have z2 := HZ_2.out; have z14 := HZ_14.out; have z15 := HZ_15.out; have z16 := HZ_16.out; have z17 := HZ_17.out; omega)
            have D02 := Lib.hid (show ∀ k, (Value.slice x0 F.length c0).ownBlock = some k → (Value.slice x2 L.length c2).ownBlock ≠ some k from fun k h1 h2 => by have y1 := HQ0.out k h1; have y2 := HQ2.out k h2; have z1 := HZ_1.out; have z2 := HZ_2.out; have z14 := HZ_14.out; have z15 := HZ_15.out; have z16 := HZ_16.out; have z17 := HZ_17.out; omega)
            have D12 := Lib.hid (show ∀ k, (Value.slice x1 G.length c1).ownBlock = some k → (Value.slice x2 L.length c2).ownBlock ≠ some k from fun k h1 h2 => by have y1 := HQ1.out k h1; have y2 := HQ2.out k h2; have z1 := HZ_1.out; have z2 := HZ_2.out; have z14 := HZ_14.out; have z15 := HZ_15.out; have z16 := HZ_16.out; have z17 := HZ_17.out; omega)
            have hbu := HBU.out.trans (hb.mono HBU.out.size)
            have hox : R_BoxG.ow u5 (Rg wo.heap.size u5.heap.size) (F, G, L) [.slice x0 F.length c0, .slice x1 G.length c1, .slice x2 L.length c2] := mkow_BoxG (FRow.call HM0.out hb) (FRow.call HM1.out hb) (FRow.call HM2.out hb) D01.out D02.out D12.out (fun k hk => by have h1 := HM0.out.blk k hk; have h2 := hb.size; exact ⟨by omega, by omega⟩) (fun k hk => by have h1 := HM1.out.blk k hk; have h2 := hb.size; exact ⟨by omega, by omega⟩) (fun k hk => by have h1 := HM2.out.blk k hk; have h2 := hb.size; exact ⟨by omega, by omega⟩)
            obtain ⟨a6, c6, u6, hr6, hr7, hb6, hk6⟩ := app_box2 HR.out (HB1.out.trans (hbu.mono hz1)) hbl hox (by rw [List.length_take]; omega)
            have hlen : (M.take (k + 1)).length = k + 1 := by rw [List.length_take]; omega
            rw [HTK.out, hlen] at hr6 hr7
            have HRUN := Lib.hid hr6
            rw [hw] at HRUN
            have HR6 := Lib.hid hr7
            have hS2 := And.intro (hHeld.1.trans (hb.mono (Nat.le_trans HW0.out HBU.out.size))) (hHeld.2.call hb)
            have hS3 := And.intro (hS2.1.trans hb6) ((hk6 wo.heap.size (Nat.le_refl _) hS2.2.lt).trans hS2.2)
            have HS3x := Lib.hid hS3
            have HB6 := Lib.hid (HB.out.trans ((HB1.out.mono (show W.heap.size + 1 + 1 ≤ wo.heap.size by have := HRL.out; omega)).trans (hS3.1.mono (Nat.le_of_lt HRL.out))))
            rw [hw] at hS2
            go_simp
            refine hK.out _ _ hS2 (fun hHeld => ?_)
            clear hK K hb hw hbl hbu hox hr6 hr7 hb6 hk6 hS2 hS3 hlen
            refine kr (rs := [16]) (by kernel_rfl) (by simp) ?_
            refine AllK.cons rfl (fun K hK => ?_) (AllK.nil)
            refine step_app rfl (.tmp 20) (.tmp 34) 34 rfl rfl rfl HRUN.out ?_
            refine hK.out _ _ HS3x.out (fun hHeld => ?_)
            clear hK K HRUN
            refine kk 17 hHeld ?_
            refine kr (rs := [18]) (by kernel_rfl) (by simp) (AllK.last (by simp) rfl (fun K hK => ?_))
            have HT6 := Lib.hid (show Blk u6 (W.heap.size + 1 + 1) 36 #[.slice va k vc] from (hHeld.1.block (W.heap.size + 1 + 1) HRL.out).trans HT1.out)
            have t0 := HT6.out.at_ 0 rfl
            have s0 := HT6.out.soft 0
            go_simp
            refine hK.out _ _ ?_
            clear hK K t0 s0
            have HT9 := Lib.hid (one_set HT6.out (.slice a6 (k + 1) c6))
            have HR9 := Lib.hid (HR6.out.far R_BoxG_ok (p := ⟨W.heap.size + 1 + 1, 0, none⟩) HRL.out (.slice a6 (k + 1) c6))
            have HB9 := Lib.hid ((HB6.out).setCell (p := ⟨W.heap.size + 1 + 1, 0, none⟩) (Nat.le_refl _) (.slice a6 (k + 1) c6))
            clear hHeld
            refine k0 ?_
            go_wp2
            go_roundw
            case rel => exact ⟨k + 1, by omega, by go_num, ⟨a6, c6, HT9, HR9⟩, HB9.out⟩
            case measure => simp [intOf]; omega
        · skip
          go_simp
          obtain ⟨u_20, hw⟩ : ∃ w', w' = u_1.alloc (.cells #[] 2) := ⟨_, rfl⟩
          have hb : Below u_1.heap.size u_1 u_20 := by rw [hw]; exact (Below.refl _ _).alloc (Nat.le_refl _) _
          have hrow : IRw u_20 w1.heap.size (.slice (some ⟨u_1.heap.size, 0, none⟩) 0 0) [] := by rw [hw]; exact (FRow.made I fI u_1 2).low HBU.out.size
          have hlt0 : u_1.heap.size < u_20.heap.size := by rw [hw]; simp
          rw [← hw]
          clear hw
          have HE0 := Lib.hid (FRow.call HE0.out hb)
          have HE1 := Lib.hid hrow
          have HZ_20 := Lib.hid hlt0
          have hS2 := And.intro (hHeld.1.trans (hb.mono (Nat.le_trans HW0.out HBU.out.size))) (hHeld.2.call hb)
          have HBU := Lib.hid (HBU.out.trans (hb.mono HBU.out.size))
          refine hK.out _ _ hS2 (fun hHeld => ?_)
          clear hK K hb hrow hlt0 hS2
          refine kr (rs := [5, 10]) (by kernel_rfl) (by simp) ?_
          refine AllK.cons rfl (fun K hK => ?_) (AllK.cons rfl (fun K hK => ?_) (AllK.nil))
          · skip
            obtain ⟨x0, c0, u_21, hr, hrow, hb, hq⟩ := IRw.emp HE0.out (rd_mv I_ok HKF.out HBU.out) HBU.out.size HL0.out
            have HRUN := Lib.hid hr
            clear hr
            have HE1 := Lib.hid (FRow.call HE1.out hb)
            have HM0 := Lib.hid hrow
            have HQ0 := Lib.hid hq
            have HZ_21 := Lib.hid hb.size
            refine step_app rfl (.tmp 21) (.tmp 23) 70 rfl rfl rfl HRUN.out ?_
            have hS2 := And.intro (hHeld.1.trans (hb.mono (Nat.le_trans HW0.out HBU.out.size))) (hHeld.2.call hb)
            have HBU := Lib.hid (HBU.out.trans (hb.mono HBU.out.size))
            refine hK.out _ _ hS2 (fun hHeld => ?_)
            clear hK K hb hrow hq HRUN hS2 HE0
            refine kr (rs := [9, 10]) (by kernel_rfl) (by simp) ?_
            refine AllK.cons rfl (fun K hK => ?_) (AllK.cons rfl (fun K hK => ?_) (AllK.nil))
            · skip
              obtain ⟨x1, c1, u_22, hr, hrow, hb, hq⟩ := IRw.emp HE1.out (rd_mv I_ok HKG.out HBU.out) HBU.out.size HL1.out
              have HRUN := Lib.hid hr
              clear hr
              have HM0 := Lib.hid (FRow.call HM0.out hb)
              have HM1 := Lib.hid hrow
              have HQ1 := Lib.hid hq
              have HZ_22 := Lib.hid hb.size
              refine step_app rfl (.tmp 25) (.tmp 27) 70 rfl rfl rfl HRUN.out ?_
              have hS2 := And.intro (hHeld.1.trans (hb.mono (Nat.le_trans HW0.out HBU.out.size))) (hHeld.2.call hb)
              have HBU := Lib.hid (HBU.out.trans (hb.mono HBU.out.size))
              refine hK.out _ _ hS2 (fun hHeld => ?_)
              clear hK K hb hrow hq HRUN hS2 HE1
              refine kr (rs := [10]) (by kernel_rfl) (by simp) ?_
              refine AllK.cons rfl (fun K hK => ?_) (AllK.nil)
              go_simp
              obtain ⟨u_23, hw⟩ : ∃ w', w' = u_22.alloc (.cells #[] 75) := ⟨_, rfl⟩
              have hb : Below u_22.heap.size u_22 u_23 := by rw [hw]; exact (Below.refl _ _).alloc (Nat.le_refl _) _
              have hrow : NRw u_23 w1.heap.size (.slice (some ⟨u_22.heap.size, 0, none⟩) 0 0) [] := by rw [hw]; exact (FRow.made R_Note fN u_22 75).low HBU.out.size
              have hlt0 : u_22.heap.size < u_23.heap.size := by rw [hw]; simp
              rw [← hw]
              clear hw
              have HM0 := Lib.hid (FRow.call HM0.out hb)
              have HM1 := Lib.hid (FRow.call HM1.out hb)
              have HE2 := Lib.hid hrow
              have HZ_23 := Lib.hid hlt0
              have hS2 := And.intro (hHeld.1.trans (hb.mono (Nat.le_trans HW0.out HBU.out.size))) (hHeld.2.call hb)
              have HBU := Lib.hid (HBU.out.trans (hb.mono HBU.out.size))
              refine hK.out _ _ hS2 (fun hHeld => ?_)
              clear hK K hb hrow hlt0 hS2
              refine kr (rs := [13]) (by kernel_rfl) (by simp) ?_
              refine AllK.cons rfl (fun K hK => ?_) (AllK.nil)
              obtain ⟨x2, c2, u_24, hr, hrow, hb, hq⟩ := NRw.emp HE2.out (rd_mv R_Note_ok HKL.out HBU.out) HBU.out.size HL2.out
              have HRUN := Lib.hid hr
              clear hr
              have HM0 := Lib.hid (FRow.call HM0.out hb)
              have HM1 := Lib.hid (FRow.call HM1.out hb)
              have HM2 := Lib.hid hrow
              have HQ2 := Lib.hid hq
              have HZ_24 := Lib.hid hb.size
              refine step_app rfl (.tmp 29) (.tmp 31) 71 rfl rfl rfl HRUN.out ?_
              have hS2 := And.intro (hHeld.1.trans (hb.mono (Nat.le_trans HW0.out HBU.out.size))) (hHeld.2.call hb)
              have HBU := Lib.hid (HBU.out.trans (hb.mono HBU.out.size))
              refine hK.out _ _ hS2 (fun hHeld => ?_)
              clear hK K hb hrow hq HRUN hS2 HE2
              refine kk 14 hHeld ?_
              refine kr (rs := [15]) (by kernel_rfl) (by simp) ?_
              refine AllK.cons rfl (fun K hK => ?_) (AllK.nil)
              obtain ⟨u5, hw⟩ : ∃ w', w' = u_24.alloc (.cells #[.slice x0 F.length c0, .slice x1 G.length c1, .slice x2 L.length c2] 73) := ⟨_, rfl⟩
              have hb : Below u_24.heap.size u_24 u5 := by rw [hw]; exact (Below.refl _ _).alloc (Nat.le_refl _) _
              have hbl : Blk u5 u_24.heap.size 73 #[.slice x0 F.length c0, .slice x1 G.length c1, .slice x2 L.length c2] := by rw [hw]; exact Blk.new _ _ _
              have D01 := Lib.hid (show ∀ k, (Value.slice x0 F.length c0).ownBlock = some k → (Value.slice x1 G.length c1).ownBlock ≠ some k from fun k h1 h2 => by have y1 := HQ0.out k h1; have y2 := HQ1.out k h2; have z1 := HZ_1.out; have z20 := HZ_20.out; have z21 := HZ_21.out; have z22 := HZ_22.out; have z23 := HZ_23.out; have z24 := HZ_24.out; omega)
              have D02 := Lib.hid (show ∀ k, (Value.slice x0 F.length c0).ownBlock = some k → (Value.slice x2 L.length c2).ownBlock ≠ some k from fun k h1 h2 => by have y1 := HQ0.out k h1; have y2 := HQ2.out k h2; have z1 := HZ_1.out; have z20 := HZ_20.out; have z21 := HZ_21.out; have z22 := HZ_22.out; have z23 := HZ_23.out; have z24 := HZ_24.out; omega)
              have D12 := Lib.hid (show ∀ k, (Value.slice x1 G.length c1).ownBlock = some k → (Value.slice x2 L.length c2).ownBlock ≠ some k from fun k h1 h2 => by have y1 := HQ1.out k h1; have y2 := HQ2.out k h2; have z1 := HZ_1.out; have z20 := HZ_20.out; have z21 := HZ_21.out; have z22 := HZ_22.out; have z23 := HZ_23.out; have z24 := HZ_24.out; omega)
              have hbu := HBU.out.trans (hb.mono HBU.out.size)
              have hox : R_BoxG.ow u5 (Rg wo.heap.size u5.heap.size) (F, G, L) [.slice x0 F.length c0, .slice x1 G.length c1, .slice x2 L.length c2] := mkow_BoxG (FRow.call HM0.out hb) (FRow.call HM1.out hb) (FRow.call HM2.out hb) D01.out D02.out D12.out (fun k hk => by have h1 := HM0.out.blk k hk; have h2 := hb.size; exact ⟨by omega, by omega⟩) (fun k hk => by have h1 := HM1.out.blk k hk; have h2 := hb.size; exact ⟨by omega, by omega⟩) (fun k hk => by have h1 := HM2.out.blk k hk; have h2 := hb.size; exact ⟨by omega, by omega⟩)
              obtain ⟨a6, c6, u6, hr6, hr7, hb6, hk6⟩ := app_box2 HR.out (HB1.out.trans (hbu.mono hz1)) hbl hox (by rw [List.length_take]; omega)
              have hlen : (M.take (k + 1)).length = k + 1 := by rw [List.length_take]; omega
              rw [HTK.out, hlen] at hr6 hr7
              have HRUN := Lib.hid hr6
              rw [hw] at HRUN
              have HR6 := Lib.hid hr7
              have hS2 := And.intro (hHeld.1.trans (hb.mono (Nat.le_trans HW0.out HBU.out.size))) (hHeld.2.call hb)
              have hS3 := And.intro (hS2.1.trans hb6) ((hk6 wo.heap.size (Nat.le_refl _) hS2.2.lt).trans hS2.2)
              have HS3x := Lib.hid hS3
              have HB6 := Lib.hid (HB.out.trans ((HB1.out.mono (show W.heap.size + 1 + 1 ≤ wo.heap.size by have := HRL.out; omega)).trans (hS3.1.mono (Nat.le_of_lt HRL.out))))
              rw [hw] at hS2
              go_simp
              refine hK.out _ _ hS2 (fun hHeld => ?_)
              clear hK K hb hw hbl hbu hox hr6 hr7 hb6 hk6 hS2 hS3 hlen
              refine kr (rs := [16]) (by kernel_rfl) (by simp) ?_
              refine AllK.cons rfl (fun K hK => ?_) (AllK.nil)
              refine step_app rfl (.tmp 20) (.tmp 34) 34 rfl rfl rfl HRUN.out ?_
              refine hK.out _ _ HS3x.out (fun hHeld => ?_)
              clear hK K HRUN
              refine kk 17 hHeld ?_
              refine kr (rs := [18]) (by kernel_rfl) (by simp) (AllK.last (by simp) rfl (fun K hK => ?_))
              have HT6 := Lib.hid (show Blk u6 (W.heap.size + 1 + 1) 36 #[.slice va k vc] from (hHeld.1.block (W.heap.size + 1 + 1) HRL.out).trans HT1.out)
              have t0 := HT6.out.at_ 0 rfl
              have s0 := HT6.out.soft 0
              go_simp
              refine hK.out _ _ ?_
              clear hK K t0 s0
              have HT9 := Lib.hid (one_set HT6.out (.slice a6 (k + 1) c6))
              have HR9 := Lib.hid (HR6.out.far R_BoxG_ok (p := ⟨W.heap.size + 1 + 1, 0, none⟩) HRL.out (.slice a6 (k + 1) c6))
              have HB9 := Lib.hid ((HB6.out).setCell (p := ⟨W.heap.size + 1 + 1, 0, none⟩) (Nat.le_refl _) (.slice a6 (k + 1) c6))
              clear hHeld
              refine k0 ?_
              go_wp2
              go_roundw
              case rel => exact ⟨k + 1, by omega, by go_num, ⟨a6, c6, HT9, HR9⟩, HB9.out⟩
              case measure => simp [intOf]; omega
            · skip
              go_simp
              obtain ⟨u_27, hw⟩ : ∃ w', w' = u_21.alloc (.cells #[] 75) := ⟨_, rfl⟩
              have hb : Below u_21.heap.size u_21 u_27 := by rw [hw]; exact (Below.refl _ _).alloc (Nat.le_refl _) _
              have hrow : NRw u_27 w1.heap.size (.slice (some ⟨u_21.heap.size, 0, none⟩) 0 0) [] := by rw [hw]; exact (FRow.made R_Note fN u_21 75).low HBU.out.size
              have hlt0 : u_21.heap.size < u_27.heap.size := by rw [hw]; simp
              rw [← hw]
              clear hw
              have HE1 := Lib.hid (FRow.call HE1.out hb)
              have HM0 := Lib.hid (FRow.call HM0.out hb)
              have HE2 := Lib.hid hrow
              have HZ_27 := Lib.hid hlt0
              have hS2 := And.intro (hHeld.1.trans (hb.mono (Nat.le_trans HW0.out HBU.out.size))) (hHeld.2.call hb)
              have HBU := Lib.hid (HBU.out.trans (hb.mono HBU.out.size))
              refine hK.out _ _ hS2 (fun hHeld => ?_)
              clear hK K hb hrow hlt0 hS2
              refine kr (rs := [9]) (by kernel_rfl) (by simp) ?_
              refine AllK.cons rfl (fun K hK => ?_) (AllK.nil)
              obtain ⟨x1, c1, u_28, hr, hrow, hb, hq⟩ := IRw.emp HE1.out (rd_mv I_ok HKG.out HBU.out) HBU.out.size HL1.out
              have HRUN := Lib.hid hr
              clear hr
              have HE2 := Lib.hid (FRow.call HE2.out hb)
              have HM0 := Lib.hid (FRow.call HM0.out hb)
              have HM1 := Lib.hid hrow
              have HQ1 := Lib.hid hq
              have HZ_28 := Lib.hid hb.size
              refine step_app rfl (.tmp 25) (.tmp 27) 70 rfl rfl rfl HRUN.out ?_
              have hS2 := And.intro (hHeld.1.trans (hb.mono (Nat.le_trans HW0.out HBU.out.size))) (hHeld.2.call hb)
              have HBU := Lib.hid (HBU.out.trans (hb.mono HBU.out.size))
              refine hK.out _ _ hS2 (fun hHeld => ?_)
              clear hK K hb hrow hq HRUN hS2 HE1
              refine kr (rs := [13]) (by kernel_rfl) (by simp) ?_
              refine AllK.cons rfl (fun K hK => ?_) (AllK.nil)
              obtain ⟨x2, c2, u_29, hr, hrow, hb, hq⟩ := NRw.emp HE2.out (rd_mv R_Note_ok HKL.out HBU.out) HBU.out.size HL2.out
              have HRUN := Lib.hid hr
              clear hr
              have HM0 := Lib.hid (FRow.call HM0.out hb)
              have HM1 := Lib.hid (FRow.call HM1.out hb)
              have HM2 := Lib.hid hrow
              have HQ2 := Lib.hid hq
              have HZ_29 := Lib.hid hb.size
              refine step_app rfl (.tmp 29) (.tmp 31) 71 rfl rfl rfl HRUN.out ?_
              have hS2 := And.intro (hHeld.1.trans (hb.mono (Nat.le_trans HW0.out HBU.out.size))) (hHeld.2.call hb)
              have HBU := Lib.hid (HBU.out.trans (hb.mono HBU.out.size))
              refine hK.out _ _ hS2 (fun hHeld => ?_)
              clear hK K hb hrow hq HRUN hS2 HE2
              refine kk 14 hHeld ?_
              refine kr (rs := [15]) (by kernel_rfl) (by simp) ?_
              refine AllK.cons rfl (fun K hK => ?_) (AllK.nil)
              obtain ⟨u5, hw⟩ : ∃ w', w' = u_29.alloc (.cells #[.slice x0 F.length c0, .slice x1 G.length c1, .slice x2 L.length c2] 73) := ⟨_, rfl⟩
              have hb : Below u_29.heap.size u_29 u5 := by rw [hw]; exact (Below.refl _ _).alloc (Nat.le_refl _) _
              have hbl : Blk u5 u_29.heap.size 73 #[.slice x0 F.length c0, .slice x1 G.length c1, .slice x2 L.length c2] := by rw [hw]; exact Blk.new _ _ _
              have D01 := Lib.hid (show ∀ k, (Value.slice x0 F.length c0).ownBlock = some k → (Value.slice x1 G.length c1).ownBlock ≠ some k from fun k h1 h2 => by have y1 := HQ0.out k h1; have y2 := HQ1.out k h2; have z1 := HZ_1.out; have z20 := HZ_20.out; have z21 := HZ_21.out; have z27 := HZ_27.out; have z28 := HZ_28.out; have z29 := HZ_29.out; omega)
              have D02 := Lib.hid (show ∀ k, (Value.slice x0 F.length c0).ownBlock = some k → (Value.slice x2 L.length c2).ownBlock ≠ some k from fun k h1 h2 => by have y1 := HQ0.out k h1; have y2 := HQ2.out k h2; have z1 := HZ_1.out; have z20 := HZ_20.out; have z21 := HZ_21.out; have z27 := HZ_27.out; have z28 := HZ_28.out; have z29 := HZ_29.out; omega)
              have D12 := Lib.hid (show ∀ k, (Value.slice x1 G.length c1).ownBlock = some k → (Value.slice x2 L.length c2).ownBlock ≠ some k from fun k h1 h2 => by have y1 := HQ1.out k h1; have y2 := HQ2.out k h2; have z1 := HZ_1.out; have z20 := HZ_20.out; have z21 := HZ_21.out; have z27 := HZ_27.out; have z28 := HZ_28.out; have z29 := HZ_29.out; omega)
              have hbu := HBU.out.trans (hb.mono HBU.out.size)
              have hox : R_BoxG.ow u5 (Rg wo.heap.size u5.heap.size) (F, G, L) [.slice x0 F.length c0, .slice x1 G.length c1, .slice x2 L.length c2] := mkow_BoxG (FRow.call HM0.out hb) (FRow.call HM1.out hb) (FRow.call HM2.out hb) D01.out D02.out D12.out (fun k hk => by have h1 := HM0.out.blk k hk; have h2 := hb.size; exact ⟨by omega, by omega⟩) (fun k hk => by have h1 := HM1.out.blk k hk; have h2 := hb.size; exact ⟨by omega, by omega⟩) (fun k hk => by have h1 := HM2.out.blk k hk; have h2 := hb.size; exact ⟨by omega, by omega⟩)
              obtain ⟨a6, c6, u6, hr6, hr7, hb6, hk6⟩ := app_box2 HR.out (HB1.out.trans (hbu.mono hz1)) hbl hox (by rw [List.length_take]; omega)
              have hlen : (M.take (k + 1)).length = k + 1 := by rw [List.length_take]; omega
              rw [HTK.out, hlen] at hr6 hr7
              have HRUN := Lib.hid hr6
              rw [hw] at HRUN
              have HR6 := Lib.hid hr7
              have hS2 := And.intro (hHeld.1.trans (hb.mono (Nat.le_trans HW0.out HBU.out.size))) (hHeld.2.call hb)
              have hS3 := And.intro (hS2.1.trans hb6) ((hk6 wo.heap.size (Nat.le_refl _) hS2.2.lt).trans hS2.2)
              have HS3x := Lib.hid hS3
              have HB6 := Lib.hid (HB.out.trans ((HB1.out.mono (show W.heap.size + 1 + 1 ≤ wo.heap.size by have := HRL.out; omega)).trans (hS3.1.mono (Nat.le_of_lt HRL.out))))
              rw [hw] at hS2
              go_simp
              refine hK.out _ _ hS2 (fun hHeld => ?_)
              clear hK K hb hw hbl hbu hox hr6 hr7 hb6 hk6 hS2 hS3 hlen
              refine kr (rs := [16]) (by kernel_rfl) (by simp) ?_
              refine AllK.cons rfl (fun K hK => ?_) (AllK.nil)
              refine step_app rfl (.tmp 20) (.tmp 34) 34 rfl rfl rfl HRUN.out ?_
              refine hK.out _ _ HS3x.out (fun hHeld => ?_)
              clear hK K HRUN
              refine kk 17 hHeld ?_
              refine kr (rs := [18]) (by kernel_rfl) (by simp) (AllK.last (by simp) rfl (fun K hK => ?_))
              have HT6 := Lib.hid (show Blk u6 (W.heap.size + 1 + 1) 36 #[.slice va k vc] from (hHeld.1.block (W.heap.size + 1 + 1) HRL.out).trans HT1.out)
              have t0 := HT6.out.at_ 0 rfl
              have s0 := HT6.out.soft 0
              go_simp
              refine hK.out _ _ ?_
              clear hK K t0 s0
              have HT9 := Lib.hid (one_set HT6.out (.slice a6 (k + 1) c6))
              have HR9 := Lib.hid (HR6.out.far R_BoxG_ok (p := ⟨W.heap.size + 1 + 1, 0, none⟩) HRL.out (.slice a6 (k + 1) c6))
              have HB9 := Lib.hid ((HB6.out).setCell (p := ⟨W.heap.size + 1 + 1, 0, none⟩) (Nat.le_refl _) (.slice a6 (k + 1) c6))
              clear hHeld
              refine k0 ?_
              go_wp2
              go_roundw
              case rel => exact ⟨k + 1, by omega, by go_num, ⟨a6, c6, HT9, HR9⟩, HB9.out⟩
              case measure => simp [intOf]; omega
          · skip
            go_simp
            obtain ⟨u_32, hw⟩ : ∃ w', w' = u_20.alloc (.cells #[] 75) := ⟨_, rfl⟩
            have hb : Below u_20.heap.size u_20 u_32 := by rw [hw]; exact (Below.refl _ _).alloc (Nat.le_refl _) _
            have hrow : NRw u_32 w1.heap.size (.slice (some ⟨u_20.heap.size, 0, none⟩) 0 0) [] := by rw [hw]; exact (FRow.made R_Note fN u_20 75).low HBU.out.size
            have hlt0 : u_20.heap.size < u_32.heap.size := by rw [hw]; simp
            rw [← hw]
            clear hw
            have HE0 := Lib.hid (FRow.call HE0.out hb)
            have HE1 := Lib.hid (FRow.call HE1.out hb)
            have HE2 := Lib.hid hrow
            have HZ_32 := Lib.hid hlt0
            have hS2 := And.intro (hHeld.1.trans (hb.mono (Nat.le_trans HW0.out HBU.out.size))) (hHeld.2.call hb)
            have HBU := Lib.hid (HBU.out.trans (hb.mono HBU.out.size))
            refine hK.out _ _ hS2 (fun hHeld => ?_)
            clear hK K hb hrow hlt0 hS2
            refine kr (rs := [5]) (by kernel_rfl) (by simp) ?_
            refine AllK.cons rfl (fun K hK => ?_) (AllK.nil)
            obtain ⟨x0, c0, u_33, hr, hrow, hb, hq⟩ := IRw.emp HE0.out (rd_mv I_ok HKF.out HBU.out) HBU.out.size HL0.out
            have HRUN := Lib.hid hr
            clear hr
            have HE1 := Lib.hid (FRow.call HE1.out hb)
            have HE2 := Lib.hid (FRow.call HE2.out hb)
            have HM0 := Lib.hid hrow
            have HQ0 := Lib.hid hq
            have HZ_33 := Lib.hid hb.size
            refine step_app rfl (.tmp 21) (.tmp 23) 70 rfl rfl rfl HRUN.out ?_
            have hS2 := And.intro (hHeld.1.trans (hb.mono (Nat.le_trans HW0.out HBU.out.size))) (hHeld.2.call hb)
            have HBU := Lib.hid (HBU.out.trans (hb.mono HBU.out.size))
            refine hK.out _ _ hS2 (fun hHeld => ?_)
            clear hK K hb hrow hq HRUN hS2 HE0
            refine kr (rs := [9]) (by kernel_rfl) (by simp) ?_
            refine AllK.cons rfl (fun K hK => ?_) (AllK.nil)
            obtain ⟨x1, c1, u_34, hr, hrow, hb, hq⟩ := IRw.emp HE1.out (rd_mv I_ok HKG.out HBU.out) HBU.out.size HL1.out
            have HRUN := Lib.hid hr
            clear hr
            have HE2 := Lib.hid (FRow.call HE2.out hb)
            have HM0 := Lib.hid (FRow.call HM0.out hb)
            have HM1 := Lib.hid hrow
            have HQ1 := Lib.hid hq
            have HZ_34 := Lib.hid hb.size
            refine step_app rfl (.tmp 25) (.tmp 27) 70 rfl rfl rfl HRUN.out ?_
            have hS2 := And.intro (hHeld.1.trans (hb.mono (Nat.le_trans HW0.out HBU.out.size))) (hHeld.2.call hb)
            have HBU := Lib.hid (HBU.out.trans (hb.mono HBU.out.size))
            refine hK.out _ _ hS2 (fun hHeld => ?_)
            clear hK K hb hrow hq HRUN hS2 HE1
            refine kr (rs := [13]) (by kernel_rfl) (by simp) ?_
            refine AllK.cons rfl (fun K hK => ?_) (AllK.nil)
            obtain ⟨x2, c2, u_35, hr, hrow, hb, hq⟩ := NRw.emp HE2.out (rd_mv R_Note_ok HKL.out HBU.out) HBU.out.size HL2.out
            have HRUN := Lib.hid hr
            clear hr
            have HM0 := Lib.hid (FRow.call HM0.out hb)
            have HM1 := Lib.hid (FRow.call HM1.out hb)
            have HM2 := Lib.hid hrow
            have HQ2 := Lib.hid hq
            have HZ_35 := Lib.hid hb.size
            refine step_app rfl (.tmp 29) (.tmp 31) 71 rfl rfl rfl HRUN.out ?_
            have hS2 := And.intro (hHeld.1.trans (hb.mono (Nat.le_trans HW0.out HBU.out.size))) (hHeld.2.call hb)
            have HBU := Lib.hid (HBU.out.trans (hb.mono HBU.out.size))
            refine hK.out _ _ hS2 (fun hHeld => ?_)
            clear hK K hb hrow hq HRUN hS2 HE2
            refine kk 14 hHeld ?_
            refine kr (rs := [15]) (by kernel_rfl) (by simp) ?_
            refine AllK.cons rfl (fun K hK => ?_) (AllK.nil)
            obtain ⟨u5, hw⟩ : ∃ w', w' = u_35.alloc (.cells #[.slice x0 F.length c0, .slice x1 G.length c1, .slice x2 L.length c2] 73) := ⟨_, rfl⟩
            have hb : Below u_35.heap.size u_35 u5 := by rw [hw]; exact (Below.refl _ _).alloc (Nat.le_refl _) _
            have hbl : Blk u5 u_35.heap.size 73 #[.slice x0 F.length c0, .slice x1 G.length c1, .slice x2 L.length c2] := by rw [hw]; exact Blk.new _ _ _
            have D01 := Lib.hid (show ∀ k, (Value.slice x0 F.length c0).ownBlock = some k → (Value.slice x1 G.length c1).ownBlock ≠ some k from fun k h1 h2 => by have y1 := HQ0.out k h1; have y2 := HQ1.out k h2; have z1 := HZ_1.out; have z20 := HZ_20.out; have z32 := HZ_32.out; have z33 := HZ_33.out; have z34 := HZ_34.out; have z35 := HZ_35.out; omega)
            have D02 := Lib.hid (show ∀ k, (Value.slice x0 F.length c0).ownBlock = some k → (Value.slice x2 L.length c2).ownBlock ≠ some k from fun k h1 h2 => by have y1 := HQ0.out k h1; have y2 := HQ2.out k h2; have z1 := HZ_1.out; have z20 := HZ_20.out; have z32 := HZ_32.out; have z33 := HZ_33.out; have z34 := HZ_34.out; have z35 := HZ_35.out; omega)
            have D12 := Lib.hid (show ∀ k, (Value.slice x1 G.length c1).ownBlock = some k → (Value.slice x2 L.length c2).ownBlock ≠ some k from fun k h1 h2 => by have y1 := HQ1.out k h1; have y2 := HQ2.out k h2; have z1 := HZ_1.out; have z20 := HZ_20.out; have z32 := HZ_32.out; have z33 := HZ_33.out; have z34 := HZ_34.out; have z35 := HZ_35.out; omega)
            have hbu := HBU.out.trans (hb.mono HBU.out.size)
            have hox : R_BoxG.ow u5 (Rg wo.heap.size u5.heap.size) (F, G, L) [.slice x0 F.length c0, .slice x1 G.length c1, .slice x2 L.length c2] := mkow_BoxG (FRow.call HM0.out hb) (FRow.call HM1.out hb) (FRow.call HM2.out hb) D01.out D02.out D12.out (fun k hk => by have h1 := HM0.out.blk k hk; have h2 := hb.size; exact ⟨by omega, by omega⟩) (fun k hk => by have h1 := HM1.out.blk k hk; have h2 := hb.size; exact ⟨by omega, by omega⟩) (fun k hk => by have h1 := HM2.out.blk k hk; have h2 := hb.size; exact ⟨by omega, by omega⟩)
            obtain ⟨a6, c6, u6, hr6, hr7, hb6, hk6⟩ := app_box2 HR.out (HB1.out.trans (hbu.mono hz1)) hbl hox (by rw [List.length_take]; omega)
            have hlen : (M.take (k + 1)).length = k + 1 := by rw [List.length_take]; omega
            rw [HTK.out, hlen] at hr6 hr7
            have HRUN := Lib.hid hr6
            rw [hw] at HRUN
            have HR6 := Lib.hid hr7
            have hS2 := And.intro (hHeld.1.trans (hb.mono (Nat.le_trans HW0.out HBU.out.size))) (hHeld.2.call hb)
            have hS3 := And.intro (hS2.1.trans hb6) ((hk6 wo.heap.size (Nat.le_refl _) hS2.2.lt).trans hS2.2)
            have HS3x := Lib.hid hS3
            have HB6 := Lib.hid (HB.out.trans ((HB1.out.mono (show W.heap.size + 1 + 1 ≤ wo.heap.size by have := HRL.out; omega)).trans (hS3.1.mono (Nat.le_of_lt HRL.out))))
            rw [hw] at hS2
            go_simp
            refine hK.out _ _ hS2 (fun hHeld => ?_)
            clear hK K hb hw hbl hbu hox hr6 hr7 hb6 hk6 hS2 hS3 hlen
            refine kr (rs := [16]) (by kernel_rfl) (by simp) ?_
            refine AllK.cons rfl (fun K hK => ?_) (AllK.nil)
            refine step_app rfl (.tmp 20) (.tmp 34) 34 rfl rfl rfl HRUN.out ?_
            refine hK.out _ _ HS3x.out (fun hHeld => ?_)
            clear hK K HRUN
            refine kk 17 hHeld ?_
            refine kr (rs := [18]) (by kernel_rfl) (by simp) (AllK.last (by simp) rfl (fun K hK => ?_))
            have HT6 := Lib.hid (show Blk u6 (W.heap.size + 1 + 1) 36 #[.slice va k vc] from (hHeld.1.block (W.heap.size + 1 + 1) HRL.out).trans HT1.out)
            have t0 := HT6.out.at_ 0 rfl
            have s0 := HT6.out.soft 0
            go_simp
            refine hK.out _ _ ?_
            clear hK K t0 s0
            have HT9 := Lib.hid (one_set HT6.out (.slice a6 (k + 1) c6))
            have HR9 := Lib.hid (HR6.out.far R_BoxG_ok (p := ⟨W.heap.size + 1 + 1, 0, none⟩) HRL.out (.slice a6 (k + 1) c6))
            have HB9 := Lib.hid ((HB6.out).setCell (p := ⟨W.heap.size + 1 + 1, 0, none⟩) (Nat.le_refl _) (.slice a6 (k + 1) c6))
            clear hHeld
            refine k0 ?_
            go_wp2
            go_roundw
            case rel => exact ⟨k + 1, by omega, by go_num, ⟨a6, c6, HT9, HR9⟩, HB9.out⟩
            case measure => simp [intOf]; omega
        · skip
          go_simp
          obtain ⟨u_38, hw⟩ : ∃ w', w' = u_1.alloc (.cells #[] 75) := ⟨_, rfl⟩
          have hb : Below u_1.heap.size u_1 u_38 := by rw [hw]; exact (Below.refl _ _).alloc (Nat.le_refl _) _
          have hrow : NRw u_38 w1.heap.size (.slice (some ⟨u_1.heap.size, 0, none⟩) 0 0) [] := by rw [hw]; exact (FRow.made R_Note fN u_1 75).low HBU.out.size
          have hlt0 : u_1.heap.size < u_38.heap.size := by rw [hw]; simp
          rw [← hw]
          clear hw
          have HE0 := Lib.hid (FRow.call HE0.out hb)
          have HE2 := Lib.hid hrow
          have HZ_38 := Lib.hid hlt0
          have hS2 := And.intro (hHeld.1.trans (hb.mono (Nat.le_trans HW0.out HBU.out.size))) (hHeld.2.call hb)
          have HBU := Lib.hid (HBU.out.trans (hb.mono HBU.out.size))
          refine hK.out _ _ hS2 (fun hHeld => ?_)
          clear hK K hb hrow hlt0 hS2
          refine kr (rs := [5, 6]) (by kernel_rfl) (by simp) ?_
          refine AllK.cons rfl (fun K hK => ?_) (AllK.cons rfl (fun K hK => ?_) (AllK.nil))
          · skip
            obtain ⟨x0, c0, u_39, hr, hrow, hb, hq⟩ := IRw.emp HE0.out (rd_mv I_ok HKF.out HBU.out) HBU.out.size HL0.out
            have HRUN := Lib.hid hr
            clear hr
            have HE2 := Lib.hid (FRow.call HE2.out hb)
            have HM0 := Lib.hid hrow
            have HQ0 := Lib.hid hq
            have HZ_39 := Lib.hid hb.size
            refine step_app rfl (.tmp 21) (.tmp 23) 70 rfl rfl rfl HRUN.out ?_
            have hS2 := And.intro (hHeld.1.trans (hb.mono (Nat.le_trans HW0.out HBU.out.size))) (hHeld.2.call hb)
            have HBU := Lib.hid (HBU.out.trans (hb.mono HBU.out.size))
            refine hK.out _ _ hS2 (fun hHeld => ?_)
            clear hK K hb hrow hq HRUN hS2 HE0
            refine kr (rs := [6]) (by kernel_rfl) (by simp) ?_
            refine AllK.cons rfl (fun K hK => ?_) (AllK.nil)
            go_simp
            obtain ⟨u_40, hw⟩ : ∃ w', w' = u_39.alloc (.cells #[] 2) := ⟨_, rfl⟩
            have hb : Below u_39.heap.size u_39 u_40 := by rw [hw]; exact (Below.refl _ _).alloc (Nat.le_refl _) _
            have hrow : IRw u_40 w1.heap.size (.slice (some ⟨u_39.heap.size, 0, none⟩) 0 0) [] := by rw [hw]; exact (FRow.made I fI u_39 2).low HBU.out.size
            have hlt0 : u_39.heap.size < u_40.heap.size := by rw [hw]; simp
            rw [← hw]
            clear hw
            have HE2 := Lib.hid (FRow.call HE2.out hb)
            have HM0 := Lib.hid (FRow.call HM0.out hb)
            have HE1 := Lib.hid hrow
            have HZ_40 := Lib.hid hlt0
            have hS2 := And.intro (hHeld.1.trans (hb.mono (Nat.le_trans HW0.out HBU.out.size))) (hHeld.2.call hb)
            have HBU := Lib.hid (HBU.out.trans (hb.mono HBU.out.size))
            refine hK.out _ _ hS2 (fun hHeld => ?_)
            clear hK K hb hrow hlt0 hS2
            refine kr (rs := [9]) (by kernel_rfl) (by simp) ?_
            refine AllK.cons rfl (fun K hK => ?_) (AllK.nil)
            obtain ⟨x1, c1, u_41, hr, hrow, hb, hq⟩ := IRw.emp HE1.out (rd_mv I_ok HKG.out HBU.out) HBU.out.size HL1.out
            have HRUN := Lib.hid hr
            clear hr
            have HE2 := Lib.hid (FRow.call HE2.out hb)
            have HM0 := Lib.hid (FRow.call HM0.out hb)
            have HM1 := Lib.hid hrow
            have HQ1 := Lib.hid hq
            have HZ_41 := Lib.hid hb.size
            refine step_app rfl (.tmp 25) (.tmp 27) 70 rfl rfl rfl HRUN.out ?_
            have hS2 := And.intro (hHeld.1.trans (hb.mono (Nat.le_trans HW0.out HBU.out.size))) (hHeld.2.call hb)
            have HBU := Lib.hid (HBU.out.trans (hb.mono HBU.out.size))
            refine hK.out _ _ hS2 (fun hHeld => ?_)
            clear hK K hb hrow hq HRUN hS2 HE1
            refine kr (rs := [13]) (by kernel_rfl) (by simp) ?_
            refine AllK.cons rfl (fun K hK => ?_) (AllK.nil)
            obtain ⟨x2, c2, u_42, hr, hrow, hb, hq⟩ := NRw.emp HE2.out (rd_mv R_Note_ok HKL.out HBU.out) HBU.out.size HL2.out
            have HRUN := Lib.hid hr
            clear hr
            have HM0 := Lib.hid (FRow.call HM0.out hb)
            have HM1 := Lib.hid (FRow.call HM1.out hb)
            have HM2 := Lib.hid hrow
            have HQ2 := Lib.hid hq
            have HZ_42 := Lib.hid hb.size
            refine step_app rfl (.tmp 29) (.tmp 31) 71 rfl rfl rfl HRUN.out ?_
            have hS2 := And.intro (hHeld.1.trans (hb.mono (Nat.le_trans HW0.out HBU.out.size))) (hHeld.2.call hb)
            have HBU := Lib.hid (HBU.out.trans (hb.mono HBU.out.size))
            refine hK.out _ _ hS2 (fun hHeld => ?_)
            clear hK K hb hrow hq HRUN hS2 HE2
            refine kk 14 hHeld ?_
            refine kr (rs := [15]) (by kernel_rfl) (by simp) ?_
            refine AllK.cons rfl (fun K hK => ?_) (AllK.nil)
            obtain ⟨u5, hw⟩ : ∃ w', w' = u_42.alloc (.cells #[.slice x0 F.length c0, .slice x1 G.length c1, .slice x2 L.length c2] 73) := ⟨_, rfl⟩
            have hb : Below u_42.heap.size u_42 u5 := by rw [hw]; exact (Below.refl _ _).alloc (Nat.le_refl _) _
            have hbl : Blk u5 u_42.heap.size 73 #[.slice x0 F.length c0, .slice x1 G.length c1, .slice x2 L.length c2] := by rw [hw]; exact Blk.new _ _ _
            have D01 := Lib.hid (show ∀ k, (Value.slice x0 F.length c0).ownBlock = some k → (Value.slice x1 G.length c1).ownBlock ≠ some k from fun k h1 h2 => by have y1 := HQ0.out k h1; have y2 := HQ1.out k h2; have z1 := HZ_1.out; have z38 := HZ_38.out; have z39 := HZ_39.out; have z40 := HZ_40.out; have z41 := HZ_41.out; have z42 := HZ_42.out; omega)
            have D02 := Lib.hid (show ∀ k, (Value.slice x0 F.length c0).ownBlock = some k → (Value.slice x2 L.length c2).ownBlock ≠ some k from fun k h1 h2 => by have y1 := HQ0.out k h1; have y2 := HQ2.out k h2; have z1 := HZ_1.out; have z38 := HZ_38.out; have z39 := HZ_39.out; have z40 := HZ_40.out; have z41 := HZ_41.out; have z42 := HZ_42.out; omega)
            have D12 := Lib.hid (show ∀ k, (Value.slice x1 G.length c1).ownBlock = some k → (Value.slice x2 L.length c2).ownBlock ≠ some k from fun k h1 h2 => by have y1 := HQ1.out k h1; have y2 := HQ2.out k h2; have z1 := HZ_1.out; have z38 := HZ_38.out; have z39 := HZ_39.out; have z40 := HZ_40.out; have z41 := HZ_41.out; have z42 := HZ_42.out; omega)
            have hbu := HBU.out.trans (hb.mono HBU.out.size)
            have hox : R_BoxG.ow u5 (Rg wo.heap.size u5.heap.size) (F, G, L) [.slice x0 F.length c0, .slice x1 G.length c1, .slice x2 L.length c2] := mkow_BoxG (FRow.call HM0.out hb) (FRow.call HM1.out hb) (FRow.call HM2.out hb) D01.out D02.out D12.out (fun k hk => by have h1 := HM0.out.blk k hk; have h2 := hb.size; exact ⟨by omega, by omega⟩) (fun k hk => by have h1 := HM1.out.blk k hk; have h2 := hb.size; exact ⟨by omega, by omega⟩) (fun k hk => by have h1 := HM2.out.blk k hk; have h2 := hb.size; exact ⟨by omega, by omega⟩)
            obtain ⟨a6, c6, u6, hr6, hr7, hb6, hk6⟩ := app_box2 HR.out (HB1.out.trans (hbu.mono hz1)) hbl hox (by rw [List.length_take]; omega)
            have hlen : (M.take (k + 1)).length = k + 1 := by rw [List.length_take]; omega
            rw [HTK.out, hlen] at hr6 hr7
            have HRUN := Lib.hid hr6
            rw [hw] at HRUN
            have HR6 := Lib.hid hr7
            have hS2 := And.intro (hHeld.1.trans (hb.mono (Nat.le_trans HW0.out HBU.out.size))) (hHeld.2.call hb)
            have hS3 := And.intro (hS2.1.trans hb6) ((hk6 wo.heap.size (Nat.le_refl _) hS2.2.lt).trans hS2.2)
            have HS3x := Lib.hid hS3
            have HB6 := Lib.hid (HB.out.trans ((HB1.out.mono (show W.heap.size + 1 + 1 ≤ wo.heap.size by have := HRL.out; omega)).trans (hS3.1.mono (Nat.le_of_lt HRL.out))))
            rw [hw] at hS2
            go_simp
            refine hK.out _ _ hS2 (fun hHeld => ?_)
            clear hK K hb hw hbl hbu hox hr6 hr7 hb6 hk6 hS2 hS3 hlen
            refine kr (rs := [16]) (by kernel_rfl) (by simp) ?_
            refine AllK.cons rfl (fun K hK => ?_) (AllK.nil)
            refine step_app rfl (.tmp 20) (.tmp 34) 34 rfl rfl rfl HRUN.out ?_
            refine hK.out _ _ HS3x.out (fun hHeld => ?_)
            clear hK K HRUN
            refine kk 17 hHeld ?_
            refine kr (rs := [18]) (by kernel_rfl) (by simp) (AllK.last (by simp) rfl (fun K hK => ?_))
            have HT6 := Lib.hid (show Blk u6 (W.heap.size + 1 + 1) 36 #[.slice va k vc] from (hHeld.1.block (W.heap.size + 1 + 1) HRL.out).trans HT1.out)
            have t0 := HT6.out.at_ 0 rfl
            have s0 := HT6.out.soft 0
            go_simp
            refine hK.out _ _ ?_
            clear hK K t0 s0
            have HT9 := Lib.hid (one_set HT6.out (.slice a6 (k + 1) c6))
            have HR9 := Lib.hid (HR6.out.far R_BoxG_ok (p := ⟨W.heap.size + 1 + 1, 0, none⟩) HRL.out (.slice a6 (k + 1) c6))
            have HB9 := Lib.hid ((HB6.out).setCell (p := ⟨W.heap.size + 1 + 1, 0, none⟩) (Nat.le_refl _) (.slice a6 (k + 1) c6))
            clear hHeld
            refine k0 ?_
            go_wp2
            go_roundw
            case rel => exact ⟨k + 1, by omega, by go_num, ⟨a6, c6, HT9, HR9⟩, HB9.out⟩
            case measure => simp [intOf]; omega
          · skip
            go_simp
            obtain ⟨u_45, hw⟩ : ∃ w', w' = u_38.alloc (.cells #[] 2) := ⟨_, rfl⟩
            have hb : Below u_38.heap.size u_38 u_45 := by rw [hw]; exact (Below.refl _ _).alloc (Nat.le_refl _) _
            have hrow : IRw u_45 w1.heap.size (.slice (some ⟨u_38.heap.size, 0, none⟩) 0 0) [] := by rw [hw]; exact (FRow.made I fI u_38 2).low HBU.out.size
            have hlt0 : u_38.heap.size < u_45.heap.size := by rw [hw]; simp
            rw [← hw]
            clear hw
            have HE0 := Lib.hid (FRow.call HE0.out hb)
            have HE2 := Lib.hid (FRow.call HE2.out hb)
            have HE1 := Lib.hid hrow
            have HZ_45 := Lib.hid hlt0
            have hS2 := And.intro (hHeld.1.trans (hb.mono (Nat.le_trans HW0.out HBU.out.size))) (hHeld.2.call hb)
            have HBU := Lib.hid (HBU.out.trans (hb.mono HBU.out.size))
            refine hK.out _ _ hS2 (fun hHeld => ?_)
            clear hK K hb hrow hlt0 hS2
            refine kr (rs := [5]) (by kernel_rfl) (by simp) ?_
            refine AllK.cons rfl (fun K hK => ?_) (AllK.nil)
            obtain ⟨x0, c0, u_46, hr, hrow, hb, hq⟩ := IRw.emp HE0.out (rd_mv I_ok HKF.out HBU.out) HBU.out.size HL0.out
            have HRUN := Lib.hid hr
            clear hr
            have HE2 := Lib.hid (FRow.call HE2.out hb)
            have HE1 := Lib.hid (FRow.call HE1.out hb)
            have HM0 := Lib.hid hrow
            have HQ0 := Lib.hid hq
            have HZ_46 := Lib.hid hb.size
            refine step_app rfl (.tmp 21) (.tmp 23) 70 rfl rfl rfl HRUN.out ?_
            have hS2 := And.intro (hHeld.1.trans (hb.mono (Nat.le_trans HW0.out HBU.out.size))) (hHeld.2.call hb)
            have HBU := Lib.hid (HBU.out.trans (hb.mono HBU.out.size))
            refine hK.out _ _ hS2 (fun hHeld => ?_)
            clear hK K hb hrow hq HRUN hS2 HE0
            refine kr (rs := [9]) (by kernel_rfl) (by simp) ?_
            refine AllK.cons rfl (fun K hK => ?_) (AllK.nil)
            obtain ⟨x1, c1, u_47, hr, hrow, hb, hq⟩ := IRw.emp HE1.out (rd_mv I_ok HKG.out HBU.out) HBU.out.size HL1.out
            have HRUN := Lib.hid hr
            clear hr
            have HE2 := Lib.hid (FRow.call HE2.out hb)
            have HM0 := Lib.hid (FRow.call HM0.out hb)
            have HM1 := Lib.hid hrow
            have HQ1 := Lib.hid hq
            have HZ_47 := Lib.hid hb.size
            refine step_app rfl (.tmp 25) (.tmp 27) 70 rfl rfl rfl HRUN.out ?_
            have hS2 := And.intro (hHeld.1.trans (hb.mono (Nat.le_trans HW0.out HBU.out.size))) (hHeld.2.call hb)
            have HBU := Lib.hid (HBU.out.trans (hb.mono HBU.out.size))
            refine hK.out _ _ hS2 (fun hHeld => ?_)
            clear hK K hb hrow hq HRUN hS2 HE1
            refine kr (rs := [13]) (by kernel_rfl) (by simp) ?_
            refine AllK.cons rfl (fun K hK => ?_) (AllK.nil)
            obtain ⟨x2, c2, u_48, hr, hrow, hb, hq⟩ := NRw.emp HE2.out (rd_mv R_Note_ok HKL.out HBU.out) HBU.out.size HL2.out
            have HRUN := Lib.hid hr
            clear hr
            have HM0 := Lib.hid (FRow.call HM0.out hb)
            have HM1 := Lib.hid (FRow.call HM1.out hb)
            have HM2 := Lib.hid hrow
            have HQ2 := Lib.hid hq
            have HZ_48 := Lib.hid hb.size
            refine step_app rfl (.tmp 29) (.tmp 31) 71 rfl rfl rfl HRUN.out ?_
            have hS2 := And.intro (hHeld.1.trans (hb.mono (Nat.le_trans HW0.out HBU.out.size))) (hHeld.2.call hb)
            have HBU := Lib.hid (HBU.out.trans (hb.mono HBU.out.size))
            refine hK.out _ _ hS2 (fun hHeld => ?_)
            clear hK K hb hrow hq HRUN hS2 HE2
            refine kk 14 hHeld ?_
            refine kr (rs := [15]) (by kernel_rfl) (by simp) ?_
            refine AllK.cons rfl (fun K hK => ?_) (AllK.nil)
            obtain ⟨u5, hw⟩ : ∃ w', w' = u_48.alloc (.cells #[.slice x0 F.length c0, .slice x1 G.length c1, .slice x2 L.length c2] 73) := ⟨_, rfl⟩
            have hb : Below u_48.heap.size u_48 u5 := by rw [hw]; exact (Below.refl _ _).alloc (Nat.le_refl _) _
            have hbl : Blk u5 u_48.heap.size 73 #[.slice x0 F.length c0, .slice x1 G.length c1, .slice x2 L.length c2] := by rw [hw]; exact Blk.new _ _ _
            have D01 := Lib.hid (show ∀ k, (Value.slice x0 F.length c0).ownBlock = some k → (Value.slice x1 G.length c1).ownBlock ≠ some k from fun k h1 h2 => by have y1 := HQ0.out k h1; have y2 := HQ1.out k h2; have z1 := HZ_1.out; have z38 := HZ_38.out; have z45 := HZ_45.out; have z46 := HZ_46.out; have z47 := HZ_47.out; have z48 := HZ_48.out; omega)
            have D02 := Lib.hid (show ∀ k, (Value.slice x0 F.length c0).ownBlock = some k → (Value.slice x2 L.length c2).ownBlock ≠ some k from fun k h1 h2 => by have y1 := HQ0.out k h1; have y2 := HQ2.out k h2; have z1 := HZ_1.out; have z38 := HZ_38.out; have z45 := HZ_45.out; have z46 := HZ_46.out; have z47 := HZ_47.out; have z48 := HZ_48.out; omega)
            have D12 := Lib.hid (show ∀ k, (Value.slice x1 G.length c1).ownBlock = some k → (Value.slice x2 L.length c2).ownBlock ≠ some k from fun k h1 h2 => by have y1 := HQ1.out k h1; have y2 := HQ2.out k h2; have z1 := HZ_1.out; have z38 := HZ_38.out; have z45 := HZ_45.out; have z46 := HZ_46.out; have z47 := HZ_47.out; have z48 := HZ_48.out; omega)
            have hbu := HBU.out.trans (hb.mono HBU.out.size)
            have hox : R_BoxG.ow u5 (Rg wo.heap.size u5.heap.size) (F, G, L) [.slice x0 F.length c0, .slice x1 G.length c1, .slice x2 L.length c2] := mkow_BoxG (FRow.call HM0.out hb) (FRow.call HM1.out hb) (FRow.call HM2.out hb) D01.out D02.out D12.out (fun k hk => by have h1 := HM0.out.blk k hk; have h2 := hb.size; exact ⟨by omega, by omega⟩) (fun k hk => by have h1 := HM1.out.blk k hk; have h2 := hb.size; exact ⟨by omega, by omega⟩) (fun k hk => by have h1 := HM2.out.blk k hk; have h2 := hb.size; exact ⟨by omega, by omega⟩)
            obtain ⟨a6, c6, u6, hr6, hr7, hb6, hk6⟩ := app_box2 HR.out (HB1.out.trans (hbu.mono hz1)) hbl hox (by rw [List.length_take]; omega)
            have hlen : (M.take (k + 1)).length = k + 1 := by rw [List.length_take]; omega
            rw [HTK.out, hlen] at hr6 hr7
            have HRUN := Lib.hid hr6
            rw [hw] at HRUN
            have HR6 := Lib.hid hr7
            have hS2 := And.intro (hHeld.1.trans (hb.mono (Nat.le_trans HW0.out HBU.out.size))) (hHeld.2.call hb)
            have hS3 := And.intro (hS2.1.trans hb6) ((hk6 wo.heap.size (Nat.le_refl _) hS2.2.lt).trans hS2.2)
            have HS3x := Lib.hid hS3
            have HB6 := Lib.hid (HB.out.trans ((HB1.out.mono (show W.heap.size + 1 + 1 ≤ wo.heap.size by have := HRL.out; omega)).trans (hS3.1.mono (Nat.le_of_lt HRL.out))))
            rw [hw] at hS2
            go_simp
            refine hK.out _ _ hS2 (fun hHeld => ?_)
            clear hK K hb hw hbl hbu hox hr6 hr7 hb6 hk6 hS2 hS3 hlen
            refine kr (rs := [16]) (by kernel_rfl) (by simp) ?_
            refine AllK.cons rfl (fun K hK => ?_) (AllK.nil)
            refine step_app rfl (.tmp 20) (.tmp 34) 34 rfl rfl rfl HRUN.out ?_
            refine hK.out _ _ HS3x.out (fun hHeld => ?_)
            clear hK K HRUN
            refine kk 17 hHeld ?_
            refine kr (rs := [18]) (by kernel_rfl) (by simp) (AllK.last (by simp) rfl (fun K hK => ?_))
            have HT6 := Lib.hid (show Blk u6 (W.heap.size + 1 + 1) 36 #[.slice va k vc] from (hHeld.1.block (W.heap.size + 1 + 1) HRL.out).trans HT1.out)
            have t0 := HT6.out.at_ 0 rfl
            have s0 := HT6.out.soft 0
            go_simp
            refine hK.out _ _ ?_
            clear hK K t0 s0
            have HT9 := Lib.hid (one_set HT6.out (.slice a6 (k + 1) c6))
            have HR9 := Lib.hid (HR6.out.far R_BoxG_ok (p := ⟨W.heap.size + 1 + 1, 0, none⟩) HRL.out (.slice a6 (k + 1) c6))
            have HB9 := Lib.hid ((HB6.out).setCell (p := ⟨W.heap.size + 1 + 1, 0, none⟩) (Nat.le_refl _) (.slice a6 (k + 1) c6))
            clear hHeld
            refine k0 ?_
            go_wp2
            go_roundw
            case rel => exact ⟨k + 1, by omega, by go_num, ⟨a6, c6, HT9, HR9⟩, HB9.out⟩
            case measure => simp [intOf]; omega
      · skip
        go_simp
        obtain ⟨u_51, hw⟩ : ∃ w', w' = wd.alloc (.cells #[] 2) := ⟨_, rfl⟩
        have hb : Below wd.heap.size wd u_51 := by rw [hw]; exact (Below.refl _ _).alloc (Nat.le_refl _) _
        have hrow : IRw u_51 w1.heap.size (.slice (some ⟨wd.heap.size, 0, none⟩) 0 0) [] := by rw [hw]; exact (FRow.made I fI wd 2).low HBU.out.size
        have hlt0 : wd.heap.size < u_51.heap.size := by rw [hw]; simp
        rw [← hw]
        clear hw
        have HE1 := Lib.hid hrow
        have HZ_51 := Lib.hid hlt0
        have hS2 := And.intro (hHeld.1.trans (hb.mono (Nat.le_trans HW0.out HBU.out.size))) (hHeld.2.call hb)
        have HBU := Lib.hid (HBU.out.trans (hb.mono HBU.out.size))
        refine hK.out _ _ hS2 (fun hHeld => ?_)
        clear hK K hb hrow hlt0 hS2
        refine kr (rs := [2, 10]) (by kernel_rfl) (by simp) ?_
        refine AllK.cons rfl (fun K hK => ?_) (AllK.cons rfl (fun K hK => ?_) (AllK.nil))
        · skip
          go_simp
          obtain ⟨u_52, hw⟩ : ∃ w', w' = u_51.alloc (.cells #[] 2) := ⟨_, rfl⟩
          have hb : Below u_51.heap.size u_51 u_52 := by rw [hw]; exact (Below.refl _ _).alloc (Nat.le_refl _) _
          have hrow : IRw u_52 w1.heap.size (.slice (some ⟨u_51.heap.size, 0, none⟩) 0 0) [] := by rw [hw]; exact (FRow.made I fI u_51 2).low HBU.out.size
          have hlt0 : u_51.heap.size < u_52.heap.size := by rw [hw]; simp
          rw [← hw]
          clear hw
          have HE1 := Lib.hid (FRow.call HE1.out hb)
          have HE0 := Lib.hid hrow
          have HZ_52 := Lib.hid hlt0
          have hS2 := And.intro (hHeld.1.trans (hb.mono (Nat.le_trans HW0.out HBU.out.size))) (hHeld.2.call hb)
          have HBU := Lib.hid (HBU.out.trans (hb.mono HBU.out.size))
          refine hK.out _ _ hS2 (fun hHeld => ?_)
          clear hK K hb hrow hlt0 hS2
          refine kr (rs := [5, 10]) (by kernel_rfl) (by simp) ?_
          refine AllK.cons rfl (fun K hK => ?_) (AllK.cons rfl (fun K hK => ?_) (AllK.nil))
          · skip
            obtain ⟨x0, c0, u_53, hr, hrow, hb, hq⟩ := IRw.emp HE0.out (rd_mv I_ok HKF.out HBU.out) HBU.out.size HL0.out
            have HRUN := Lib.hid hr
            clear hr
            have HE1 := Lib.hid (FRow.call HE1.out hb)
            have HM0 := Lib.hid hrow
            have HQ0 := Lib.hid hq
            have HZ_53 := Lib.hid hb.size
            refine step_app rfl (.tmp 21) (.tmp 23) 70 rfl rfl rfl HRUN.out ?_
            have hS2 := And.intro (hHeld.1.trans (hb.mono (Nat.le_trans HW0.out HBU.out.size))) (hHeld.2.call hb)
            have HBU := Lib.hid (HBU.out.trans (hb.mono HBU.out.size))
            refine hK.out _ _ hS2 (fun hHeld => ?_)
            clear hK K hb hrow hq HRUN hS2 HE0
            refine kr (rs := [9, 10]) (by kernel_rfl) (by simp) ?_
            refine AllK.cons rfl (fun K hK => ?_) (AllK.cons rfl (fun K hK => ?_) (AllK.nil))
            · skip
              obtain ⟨x1, c1, u_54, hr, hrow, hb, hq⟩ := IRw.emp HE1.out (rd_mv I_ok HKG.out HBU.out) HBU.out.size HL1.out
              have HRUN := Lib.hid hr
              clear hr
              have HM0 := Lib.hid (FRow.call HM0.out hb)
              have HM1 := Lib.hid hrow
              have HQ1 := Lib.hid hq
              have HZ_54 := Lib.hid hb.size
              refine step_app rfl (.tmp 25) (.tmp 27) 70 rfl rfl rfl HRUN.out ?_
              have hS2 := And.intro (hHeld.1.trans (hb.mono (Nat.le_trans HW0.out HBU.out.size))) (hHeld.2.call hb)
              have HBU := Lib.hid (HBU.out.trans (hb.mono HBU.out.size))
              refine hK.out _ _ hS2 (fun hHeld => ?_)
              clear hK K hb hrow hq HRUN hS2 HE1
              refine kr (rs := [10]) (by kernel_rfl) (by simp) ?_
              refine AllK.cons rfl (fun K hK => ?_) (AllK.nil)
              go_simp
              obtain ⟨u_55, hw⟩ : ∃ w', w' = u_54.alloc (.cells #[] 75) := ⟨_, rfl⟩
              have hb : Below u_54.heap.size u_54 u_55 := by rw [hw]; exact (Below.refl _ _).alloc (Nat.le_refl _) _
              have hrow : NRw u_55 w1.heap.size (.slice (some ⟨u_54.heap.size, 0, none⟩) 0 0) [] := by rw [hw]; exact (FRow.made R_Note fN u_54 75).low HBU.out.size
              have hlt0 : u_54.heap.size < u_55.heap.size := by rw [hw]; simp
              rw [← hw]
              clear hw
              have HM0 := Lib.hid (FRow.call HM0.out hb)
              have HM1 := Lib.hid (FRow.call HM1.out hb)
              have HE2 := Lib.hid hrow
              have HZ_55 := Lib.hid hlt0
              have hS2 := And.intro (hHeld.1.trans (hb.mono (Nat.le_trans HW0.out HBU.out.size))) (hHeld.2.call hb)
              have HBU := Lib.hid (HBU.out.trans (hb.mono HBU.out.size))
              refine hK.out _ _ hS2 (fun hHeld => ?_)
              clear hK K hb hrow hlt0 hS2
              refine kr (rs := [13]) (by kernel_rfl) (by simp) ?_
              refine AllK.cons rfl (fun K hK => ?_) (AllK.nil)
              obtain ⟨x2, c2, u_56, hr, hrow, hb, hq⟩ := NRw.emp HE2.out (rd_mv R_Note_ok HKL.out HBU.out) HBU.out.size HL2.out
              have HRUN := Lib.hid hr
              clear hr
              have HM0 := Lib.hid (FRow.call HM0.out hb)
              have HM1 := Lib.hid (FRow.call HM1.out hb)
              have HM2 := Lib.hid hrow
              have HQ2 := Lib.hid hq
              have HZ_56 := Lib.hid hb.size
              refine step_app rfl (.tmp 29) (.tmp 31) 71 rfl rfl rfl HRUN.out ?_
              have hS2 := And.intro (hHeld.1.trans (hb.mono (Nat.le_trans HW0.out HBU.out.size))) (hHeld.2.call hb)
              have HBU := Lib.hid (HBU.out.trans (hb.mono HBU.out.size))
              refine hK.out _ _ hS2 (fun hHeld => ?_)
              clear hK K hb hrow hq HRUN hS2 HE2
              refine kk 14 hHeld ?_
              refine kr (rs := [15]) (by kernel_rfl) (by simp) ?_
              refine AllK.cons rfl (fun K hK => ?_) (AllK.nil)
              obtain ⟨u5, hw⟩ : ∃ w', w' = u_56.alloc (.cells #[.slice x0 F.length c0, .slice x1 G.length c1, .slice x2 L.length c2] 73) := ⟨_, rfl⟩
              have hb : Below u_56.heap.size u_56 u5 := by rw [hw]; exact (Below.refl _ _).alloc (Nat.le_refl _) _
              have hbl : Blk u5 u_56.heap.size 73 #[.slice x0 F.length c0, .slice x1 G.length c1, .slice x2 L.length c2] := by rw [hw]; exact Blk.new _ _ _
              have D01 := Lib.hid (show ∀ k, (Value.slice x0 F.length c0).ownBlock = some k → (Value.slice x1 G.length c1).ownBlock ≠ some k from fun k h1 h2 => by have y1 := HQ0.out k h1; have y2 := HQ1.out k h2; have z51 := HZ_51.out; have z52 := HZ_52.out; have z53 := HZ_53.out; have z54 := HZ_54.out; have z55 := HZ_55.out; have z56 := HZ_56.out; omega)
              have D02 := Lib.hid (show ∀ k, (Value.slice x0 F.length c0).ownBlock = some k → (Value.slice x2 L.length c2).ownBlock ≠ some k from fun k h1 h2 => by have y1 := HQ0.out k h1; have y2 := HQ2.out k h2; have z51 := HZ_51.out; have z52 := HZ_52.out; have z53 := HZ_53.out; have z54 := HZ_54.out; have z55 := HZ_55.out; have z56 := HZ_56.out; omega)
              have D12 := Lib.hid (show ∀ k, (Value.slice x1 G.length c1).ownBlock = some k → (Value.slice x2 L.length c2).ownBlock ≠ some k from fun k h1 h2 => by have y1 := HQ1.out k h1; have y2 := HQ2.out k h2; have z51 := HZ_51.out; have z52 := HZ_52.out; have z53 := HZ_53.out; have z54 := HZ_54.out; have z55 := HZ_55.out; have z56 := HZ_56.out; omega)
              have hbu := HBU.out.trans (hb.mono HBU.out.size)
              have hox : R_BoxG.ow u5 (Rg wo.heap.size u5.heap.size) (F, G, L) [.slice x0 F.length c0, .slice x1 G.length c1, .slice x2 L.length c2] := mkow_BoxG (FRow.call HM0.out hb) (FRow.call HM1.out hb) (FRow.call HM2.out hb) D01.out D02.out D12.out (fun k hk => by have h1 := HM0.out.blk k hk; have h2 := hb.size; exact ⟨by omega, by omega⟩) (fun k hk => by have h1 := HM1.out.blk k hk; have h2 := hb.size; exact ⟨by omega, by omega⟩) (fun k hk => by have h1 := HM2.out.blk k hk; have h2 := hb.size; exact ⟨by omega, by omega⟩)
              obtain ⟨a6, c6, u6, hr6, hr7, hb6, hk6⟩ := app_box2 HR.out (HB1.out.trans (hbu.mono hz1)) hbl hox (by rw [List.length_take]; omega)
              have hlen : (M.take (k + 1)).length = k + 1 := by rw [List.length_take]; omega
              rw [HTK.out, hlen] at hr6 hr7
              have HRUN := Lib.hid hr6
              rw [hw] at HRUN
              have HR6 := Lib.hid hr7
              have hS2 := And.intro (hHeld.1.trans (hb.mono (Nat.le_trans HW0.out HBU.out.size))) (hHeld.2.call hb)
              have hS3 := And.intro (hS2.1.trans hb6) ((hk6 wo.heap.size (Nat.le_refl _) hS2.2.lt).trans hS2.2)
              have HS3x := Lib.hid hS3
              have HB6 := Lib.hid (HB.out.trans ((HB1.out.mono (show W.heap.size + 1 + 1 ≤ wo.heap.size by have := HRL.out; omega)).trans (hS3.1.mono (Nat.le_of_lt HRL.out))))
              rw [hw] at hS2
              go_simp
              refine hK.out _ _ hS2 (fun hHeld => ?_)
              clear hK K hb hw hbl hbu hox hr6 hr7 hb6 hk6 hS2 hS3 hlen
              refine kr (rs := [16]) (by kernel_rfl) (by simp) ?_
              refine AllK.cons rfl (fun K hK => ?_) (AllK.nil)
              refine step_app rfl (.tmp 20) (.tmp 34) 34 rfl rfl rfl HRUN.out ?_
              refine hK.out _ _ HS3x.out (fun hHeld => ?_)
              clear hK K HRUN
              refine kk 17 hHeld ?_
              refine kr (rs := [18]) (by kernel_rfl) (by simp) (AllK.last (by simp) rfl (fun K hK => ?_))
              have HT6 := Lib.hid (show Blk u6 (W.heap.size + 1 + 1) 36 #[.slice va k vc] from (hHeld.1.block (W.heap.size + 1 + 1) HRL.out).trans HT1.out)
              have t0 := HT6.out.at_ 0 rfl
              have s0 := HT6.out.soft 0
              go_simp
              refine hK.out _ _ ?_
              clear hK K t0 s0
              have HT9 := Lib.hid (one_set HT6.out (.slice a6 (k + 1) c6))
              have HR9 := Lib.hid (HR6.out.far R_BoxG_ok (p := ⟨W.heap.size + 1 + 1, 0, none⟩) HRL.out (.slice a6 (k + 1) c6))
              have HB9 := Lib.hid ((HB6.out).setCell (p := ⟨W.heap.size + 1 + 1, 0, none⟩) (Nat.le_refl _) (.slice a6 (k + 1) c6))
              clear hHeld
              refine k0 ?_
              go_wp2
              go_roundw
              case rel => exact ⟨k + 1, by omega, by go_num, ⟨a6, c6, HT9, HR9⟩, HB9.out⟩
              case measure => simp [intOf]; omega
            · skip
              go_simp
              obtain ⟨u_59, hw⟩ : ∃ w', w' = u_53.alloc (.cells #[] 75) := ⟨_, rfl⟩
              have hb : Below u_53.heap.size u_53 u_59 := by rw [hw]; exact (Below.refl _ _).alloc (Nat.le_refl _) _
              have hrow : NRw u_59 w1.heap.size (.slice (some ⟨u_53.heap.size, 0, none⟩) 0 0) [] := by rw [hw]; exact (FRow.made R_Note fN u_53 75).low HBU.out.size
              have hlt0 : u_53.heap.size < u_59.heap.size := by rw [hw]; simp
              rw [← hw]
              clear hw
              have HE1 := Lib.hid (FRow.call HE1.out hb)
              have HM0 := Lib.hid (FRow.call HM0.out hb)
              have HE2 := Lib.hid hrow
              have HZ_59 := Lib.hid hlt0
              have hS2 := And.intro (hHeld.1.trans (hb.mono (Nat.le_trans HW0.out HBU.out.size))) (hHeld.2.call hb)
              have HBU := Lib.hid (HBU.out.trans (hb.mono HBU.out.size))
              refine hK.out _ _ hS2 (fun hHeld => ?_)
              clear hK K hb hrow hlt0 hS2
              refine kr (rs := [9]) (by kernel_rfl) (by simp) ?_
              refine AllK.cons rfl (fun K hK => ?_) (AllK.nil)
              obtain ⟨x1, c1, u_60, hr, hrow, hb, hq⟩ := IRw.emp HE1.out (rd_mv I_ok HKG.out HBU.out) HBU.out.size HL1.out
              have HRUN := Lib.hid hr
              clear hr
              have HE2 := Lib.hid (FRow.call HE2.out hb)
              have HM0 := Lib.hid (FRow.call HM0.out hb)
              have HM1 := Lib.hid hrow
              have HQ1 := Lib.hid hq
              have HZ_60 := Lib.hid hb.size
              refine step_app rfl (.tmp 25) (.tmp 27) 70 rfl rfl rfl HRUN.out ?_
              have hS2 := And.intro (hHeld.1.trans (hb.mono (Nat.le_trans HW0.out HBU.out.size))) (hHeld.2.call hb)
              have HBU := Lib.hid (HBU.out.trans (hb.mono HBU.out.size))
              refine hK.out _ _ hS2 (fun hHeld => ?_)
              clear hK K hb hrow hq HRUN hS2 HE1
              refine kr (rs := [13]) (by kernel_rfl) (by simp) ?_
              refine AllK.cons rfl (fun K hK => ?_) (AllK.nil)
              obtain ⟨x2, c2, u_61, hr, hrow, hb, hq⟩ := NRw.emp HE2.out (rd_mv R_Note_ok HKL.out HBU.out) HBU.out.size HL2.out
              have HRUN := Lib.hid hr
              clear hr
              have HM0 := Lib.hid (FRow.call HM0.out hb)
              have HM1 := Lib.hid (FRow.call HM1.out hb)
              have HM2 := Lib.hid hrow
              have HQ2 := Lib.hid hq
              have HZ_61 := Lib.hid hb.size
              refine step_app rfl (.tmp 29) (.tmp 31) 71 rfl rfl rfl HRUN.out ?_
              have hS2 := And.intro (hHeld.1.trans (hb.mono (Nat.le_trans HW0.out HBU.out.size))) (hHeld.2.call hb)
              have HBU := Lib.hid (HBU.out.trans (hb.mono HBU.out.size))
              refine hK.out _ _ hS2 (fun hHeld => ?_)
              clear hK K hb hrow hq HRUN hS2 HE2
              refine kk 14 hHeld ?_
              refine kr (rs := [15]) (by kernel_rfl) (by simp) ?_
              refine AllK.cons rfl (fun K hK => ?_) (AllK.nil)
              obtain ⟨u5, hw⟩ : ∃ w', w' = u_61.alloc (.cells #[.slice x0 F.length c0, .slice x1 G.length c1, .slice x2 L.length c2] 73) := ⟨_, rfl⟩
              have hb : Below u_61.heap.size u_61 u5 := by rw [hw]; exact (Below.refl _ _).alloc (Nat.le_refl _) _
              have hbl : Blk u5 u_61.heap.size 73 #[.slice x0 F.length c0, .slice x1 G.length c1, .slice x2 L.length c2] := by rw [hw]; exact Blk.new _ _ _
              have D01 := Lib.hid (show ∀ k, (Value.slice x0 F.length c0).ownBlock = some k → (Value.slice x1 G.length c1).ownBlock ≠ some k from fun k h1 h2 => by have y1 := HQ0.out k h1; have y2 := HQ1.out k h2; have z51 := HZ_51.out; have z52 := HZ_52.out; have z53 := HZ_53.out; have z59 := HZ_59.out; have z60 := HZ_60.out; have z61 := HZ_61.out; omega)
              have D02 := Lib.hid (show ∀ k, (Value.slice x0 F.length c0).ownBlock = some k → (Value.slice x2 L.length c2).ownBlock ≠ some k from fun k h1 h2 => by have y1 := HQ0.out k h1; have y2 := HQ2.out k h2; have z51 := HZ_51.out; have z52 := HZ_52.out; have z53 := HZ_53.out; have z59 := HZ_59.out; have z60 := HZ_60.out; have z61 := HZ_61.out; omega)
              have D12 := Lib.hid (show ∀ k, (Value.slice x1 G.length c1).ownBlock = some k → (Value.slice x2 L.length c2).ownBlock ≠ some k from fun k h1 h2 => by have y1 := HQ1.out k h1; have y2 := HQ2.out k h2; have z51 := HZ_51.out; have z52 := HZ_52.out; have z53 := HZ_53.out; have z59 := HZ_59.out; have z60 := HZ_60.out; have z61 := HZ_61.out; omega)
              have hbu := HBU.out.trans (hb.mono HBU.out.size)
              have hox : R_BoxG.ow u5 (Rg wo.heap.size u5.heap.size) (F, G, L) [.slice x0 F.length c0, .slice x1 G.length c1, .slice x2 L.length c2] := mkow_BoxG (FRow.call HM0.out hb) (FRow.call HM1.out hb) (FRow.call HM2.out hb) D01.out D02.out D12.out (fun k hk => by have h1 := HM0.out.blk k hk; have h2 := hb.size; exact ⟨by omega, by omega⟩) (fun k hk => by have h1 := HM1.out.blk k hk; have h2 := hb.size; exact ⟨by omega, by omega⟩) (fun k hk => by have h1 := HM2.out.blk k hk; have h2 := hb.size; exact ⟨by omega, by omega⟩)
              obtain ⟨a6, c6, u6, hr6, hr7, hb6, hk6⟩ := app_box2 HR.out (HB1.out.trans (hbu.mono hz1)) hbl hox (by rw [List.length_take]; omega)
              have hlen : (M.take (k + 1)).length = k + 1 := by rw [List.length_take]; omega
              rw [HTK.out, hlen] at hr6 hr7
              have HRUN := Lib.hid hr6
              rw [hw] at HRUN
              have HR6 := Lib.hid hr7
              have hS2 := And.intro (hHeld.1.trans (hb.mono (Nat.le_trans HW0.out HBU.out.size))) (hHeld.2.call hb)
              have hS3 := And.intro (hS2.1.trans hb6) ((hk6 wo.heap.size (Nat.le_refl _) hS2.2.lt).trans hS2.2)
              have HS3x := Lib.hid hS3
              have HB6 := Lib.hid (HB.out.trans ((HB1.out.mono (show W.heap.size + 1 + 1 ≤ wo.heap.size by have := HRL.out; omega)).trans (hS3.1.mono (Nat.le_of_lt HRL.out))))
              rw [hw] at hS2
              go_simp
              refine hK.out _ _ hS2 (fun hHeld => ?_)
              clear hK K hb hw hbl hbu hox hr6 hr7 hb6 hk6 hS2 hS3 hlen
              refine kr (rs := [16]) (by kernel_rfl) (by simp) ?_
              refine AllK.cons rfl (fun K hK => ?_) (AllK.nil)
              refine step_app rfl (.tmp 20) (.tmp 34) 34 rfl rfl rfl HRUN.out ?_
              refine hK.out _ _ HS3x.out (fun hHeld => ?_)
              clear hK K HRUN
              refine kk 17 hHeld ?_
              refine kr (rs := [18]) (by kernel_rfl) (by simp) (AllK.last (by simp) rfl (fun K hK => ?_))
              have HT6 := Lib.hid (show Blk u6 (W.heap.size + 1 + 1) 36 #[.slice va k vc] from (hHeld.1.block (W.heap.size + 1 + 1) HRL.out).trans HT1.out)
              have t0 := HT6.out.at_ 0 rfl
              have s0 := HT6.out.soft 0
              go_simp
              refine hK.out _ _ ?_
              clear hK K t0 s0
              have HT9 := Lib.hid (one_set HT6.out (.slice a6 (k + 1) c6))
              have HR9 := Lib.hid (HR6.out.far R_BoxG_ok (p := ⟨W.heap.size + 1 + 1, 0, none⟩) HRL.out (.slice a6 (k + 1) c6))
              have HB9 := Lib.hid ((HB6.out).setCell (p := ⟨W.heap.size + 1 + 1, 0, none⟩) (Nat.le_refl _) (.slice a6 (k + 1) c6))
              clear hHeld
              refine k0 ?_
              go_wp2
              go_roundw
              case rel => exact ⟨k + 1, by omega, by go_num, ⟨a6, c6, HT9, HR9⟩, HB9.out⟩
              case measure => simp [intOf]; omega
          · skip
            go_simp
            obtain ⟨u_64, hw⟩ : ∃ w', w' = u_52.alloc (.cells #[] 75) := ⟨_, rfl⟩
            have hb : Below u_52.heap.size u_52 u_64 := by rw [hw]; exact (Below.refl _ _).alloc (Nat.le_refl _) _
            have hrow : NRw u_64 w1.heap.size (.slice (some ⟨u_52.heap.size, 0, none⟩) 0 0) [] := by rw [hw]; exact (FRow.made R_Note fN u_52 75).low HBU.out.size
            have hlt0 : u_52.heap.size < u_64.heap.size := by rw [hw]; simp
            rw [← hw]
            clear hw
            have HE1 := Lib.hid (FRow.call HE1.out hb)
            have HE0 := Lib.hid (FRow.call HE0.out hb)
            have HE2 := Lib.hid hrow
            have HZ_64 := Lib.hid hlt0
            have hS2 := And.intro (hHeld.1.trans (hb.mono (Nat.le_trans HW0.out HBU.out.size))) (hHeld.2.call hb)
            have HBU := Lib.hid (HBU.out.trans (hb.mono HBU.out.size))
            refine hK.out _ _ hS2 (fun hHeld => ?_)
            clear hK K hb hrow hlt0 hS2
            refine kr (rs := [5]) (by kernel_rfl) (by simp) ?_
            refine AllK.cons rfl (fun K hK => ?_) (AllK.nil)
            obtain ⟨x0, c0, u_65, hr, hrow, hb, hq⟩ := IRw.emp HE0.out (rd_mv I_ok HKF.out HBU.out) HBU.out.size HL0.out
            have HRUN := Lib.hid hr
            clear hr
            have HE1 := Lib.hid (FRow.call HE1.out hb)
            have HE2 := Lib.hid (FRow.call HE2.out hb)
            have HM0 := Lib.hid hrow
            have HQ0 := Lib.hid hq
            have HZ_65 := Lib.hid hb.size
            refine step_app rfl (.tmp 21) (.tmp 23) 70 rfl rfl rfl HRUN.out ?_
            have hS2 := And.intro (hHeld.1.trans (hb.mono (Nat.le_trans HW0.out HBU.out.size))) (hHeld.2.call hb)
            have HBU := Lib.hid (HBU.out.trans (hb.mono HBU.out.size))
            refine hK.out _ _ hS2 (fun hHeld => ?_)
            clear hK K hb hrow hq HRUN hS2 HE0
            refine kr (rs := [9]) (by kernel_rfl) (by simp) ?_
            refine AllK.cons rfl (fun K hK => ?_) (AllK.nil)
            obtain ⟨x1, c1, u_66, hr, hrow, hb, hq⟩ := IRw.emp HE1.out (rd_mv I_ok HKG.out HBU.out) HBU.out.size HL1.out
            have HRUN := Lib.hid hr
            clear hr
            have HE2 := Lib.hid (FRow.call HE2.out hb)
            have HM0 := Lib.hid (FRow.call HM0.out hb)
            have HM1 := Lib.hid hrow
            have HQ1 := Lib.hid hq
            have HZ_66 := Lib.hid hb.size
            refine step_app rfl (.tmp 25) (.tmp 27) 70 rfl rfl rfl HRUN.out ?_
            have hS2 := And.intro (hHeld.1.trans (hb.mono (Nat.le_trans HW0.out HBU.out.size))) (hHeld.2.call hb)
            have HBU := Lib.hid (HBU.out.trans (hb.mono HBU.out.size))
            refine hK.out _ _ hS2 (fun hHeld => ?_)
            clear hK K hb hrow hq HRUN hS2 HE1
            refine kr (rs := [13]) (by kernel_rfl) (by simp) ?_
            refine AllK.cons rfl (fun K hK => ?_) (AllK.nil)
            obtain ⟨x2, c2, u_67, hr, hrow, hb, hq⟩ := NRw.emp HE2.out (rd_mv R_Note_ok HKL.out HBU.out) HBU.out.size HL2.out
            have HRUN := Lib.hid hr
            clear hr
            have HM0 := Lib.hid (FRow.call HM0.out hb)
            have HM1 := Lib.hid (FRow.call HM1.out hb)
            have HM2 := Lib.hid hrow
            have HQ2 := Lib.hid hq
            have HZ_67 := Lib.hid hb.size
            refine step_app rfl (.tmp 29) (.tmp 31) 71 rfl rfl rfl HRUN.out ?_
            have hS2 := And.intro (hHeld.1.trans (hb.mono (Nat.le_trans HW0.out HBU.out.size))) (hHeld.2.call hb)
            have HBU := Lib.hid (HBU.out.trans (hb.mono HBU.out.size))
            refine hK.out _ _ hS2 (fun hHeld => ?_)
            clear hK K hb hrow hq HRUN hS2 HE2
            refine kk 14 hHeld ?_
            refine kr (rs := [15]) (by kernel_rfl) (by simp) ?_
            refine AllK.cons rfl (fun K hK => ?_) (AllK.nil)
            obtain ⟨u5, hw⟩ : ∃ w', w' = u_67.alloc (.cells #[.slice x0 F.length c0, .slice x1 G.length c1, .slice x2 L.length c2] 73) := ⟨_, rfl⟩
            have hb : Below u_67.heap.size u_67 u5 := by rw [hw]; exact (Below.refl _ _).alloc (Nat.le_refl _) _
            have hbl : Blk u5 u_67.heap.size 73 #[.slice x0 F.length c0, .slice x1 G.length c1, .slice x2 L.length c2] := by rw [hw]; exact Blk.new _ _ _
            have D01 := Lib.hid (show ∀ k, (Value.slice x0 F.length c0).ownBlock = some k → (Value.slice x1 G.length c1).ownBlock ≠ some k from fun k h1 h2 => by have y1 := HQ0.out k h1; have y2 := HQ1.out k h2; have z51 := HZ_51.out; have z52 := HZ_52.out; have z64 := HZ_64.out; have z65 := HZ_65.out; have z66 := HZ_66.out; have z67 := HZ_67.out; omega)
            have D02 := Lib.hid (show ∀ k, (Value.slice x0 F.length c0).ownBlock = some k → (Value.slice x2 L.length c2).ownBlock ≠ some k from fun k h1 h2 => by have y1 := HQ0.out k h1; have y2 := HQ2.out k h2; have z51 := HZ_51.out; have z52 := HZ_52.out; have z64 := HZ_64.out; have z65 := HZ_65.out; have z66 := HZ_66.out; have z67 := HZ_67.out; omega)
            have D12 := Lib.hid (show ∀ k, (Value.slice x1 G.length c1).ownBlock = some k → (Value.slice x2 L.length c2).ownBlock ≠ some k from fun k h1 h2 => by have y1 := HQ1.out k h1; have y2 := HQ2.out k h2; have z51 := HZ_51.out; have z52 := HZ_52.out; have z64 := HZ_64.out; have z65 := HZ_65.out; have z66 := HZ_66.out; have z67 := HZ_67.out; omega)
            have hbu := HBU.out.trans (hb.mono HBU.out.size)
            have hox : R_BoxG.ow u5 (Rg wo.heap.size u5.heap.size) (F, G, L) [.slice x0 F.length c0, .slice x1 G.length c1, .slice x2 L.length c2] := mkow_BoxG (FRow.call HM0.out hb) (FRow.call HM1.out hb) (FRow.call HM2.out hb) D01.out D02.out D12.out (fun k hk => by have h1 := HM0.out.blk k hk; have h2 := hb.size; exact ⟨by omega, by omega⟩) (fun k hk => by have h1 := HM1.out.blk k hk; have h2 := hb.size; exact ⟨by omega, by omega⟩) (fun k hk => by have h1 := HM2.out.blk k hk; have h2 := hb.size; exact ⟨by omega, by omega⟩)
            obtain ⟨a6, c6, u6, hr6, hr7, hb6, hk6⟩ := app_box2 HR.out (HB1.out.trans (hbu.mono hz1)) hbl hox (by rw [List.length_take]; omega)
            have hlen : (M.take (k + 1)).length = k + 1 := by rw [List.length_take]; omega
            rw [HTK.out, hlen] at hr6 hr7
            have HRUN := Lib.hid hr6
            rw [hw] at HRUN
            have HR6 := Lib.hid hr7
            have hS2 := And.intro (hHeld.1.trans (hb.mono (Nat.le_trans HW0.out HBU.out.size))) (hHeld.2.call hb)
            have hS3 := And.intro (hS2.1.trans hb6) ((hk6 wo.heap.size (Nat.le_refl _) hS2.2.lt).trans hS2.2)
            have HS3x := Lib.hid hS3
            have HB6 := Lib.hid (HB.out.trans ((HB1.out.mono (show W.heap.size + 1 + 1 ≤ wo.heap.size by have := HRL.out; omega)).trans (hS3.1.mono (Nat.le_of_lt HRL.out))))
            rw [hw] at hS2
            go_simp
            refine hK.out _ _ hS2 (fun hHeld => ?_)
            clear hK K hb hw hbl hbu hox hr6 hr7 hb6 hk6 hS2 hS3 hlen
            refine kr (rs := [16]) (by kernel_rfl) (by simp) ?_
            refine AllK.cons rfl (fun K hK => ?_) (AllK.nil)
            refine step_app rfl (.tmp 20) (.tmp 34) 34 rfl rfl rfl HRUN.out ?_
            refine hK.out _ _ HS3x.out (fun hHeld => ?_)
            clear hK K HRUN
            refine kk 17 hHeld ?_
            refine kr (rs := [18]) (by kernel_rfl) (by simp) (AllK.last (by simp) rfl (fun K hK => ?_))
            have HT6 := Lib.hid (show Blk u6 (W.heap.size + 1 + 1) 36 #[.slice va k vc] from (hHeld.1.block (W.heap.size + 1 + 1) HRL.out).trans HT1.out)
            have t0 := HT6.out.at_ 0 rfl
            have s0 := HT6.out.soft 0
            go_simp
            refine hK.out _ _ ?_
            clear hK K t0 s0
            have HT9 := Lib.hid (one_set HT6.out (.slice a6 (k + 1) c6))
            have HR9 := Lib.hid (HR6.out.far R_BoxG_ok (p := ⟨W.heap.size + 1 + 1, 0, none⟩) HRL.out (.slice a6 (k + 1) c6))
            have HB9 := Lib.hid ((HB6.out).setCell (p := ⟨W.heap.size + 1 + 1, 0, none⟩) (Nat.le_refl _) (.slice a6 (k + 1) c6))
            clear hHeld
            refine k0 ?_
            go_wp2
            go_roundw
            case rel => exact ⟨k + 1, by omega, by go_num, ⟨a6, c6, HT9, HR9⟩, HB9.out⟩
            case measure => simp [intOf]; omega
        · skip
          go_simp
          obtain ⟨u_70, hw⟩ : ∃ w', w' = u_51.alloc (.cells #[] 75) := ⟨_, rfl⟩
          have hb : Below u_51.heap.size u_51 u_70 := by rw [hw]; exact (Below.refl _ _).alloc (Nat.le_refl _) _
          have hrow : NRw u_70 w1.heap.size (.slice (some ⟨u_51.heap.size, 0, none⟩) 0 0) [] := by rw [hw]; exact (FRow.made R_Note fN u_51 75).low HBU.out.size
          have hlt0 : u_51.heap.size < u_70.heap.size := by rw [hw]; simp
          rw [← hw]
          clear hw
          have HE1 := Lib.hid (FRow.call HE1.out hb)
          have HE2 := Lib.hid hrow
          have HZ_70 := Lib.hid hlt0
          have hS2 := And.intro (hHeld.1.trans (hb.mono (Nat.le_trans HW0.out HBU.out.size))) (hHeld.2.call hb)
          have HBU := Lib.hid (HBU.out.trans (hb.mono HBU.out.size))
          refine hK.out _ _ hS2 (fun hHeld => ?_)
          clear hK K hb hrow hlt0 hS2
          refine kr (rs := [2]) (by kernel_rfl) (by simp) ?_
          refine AllK.cons rfl (fun K hK => ?_) (AllK.nil)
          go_simp
          obtain ⟨u_71, hw⟩ : ∃ w', w' = u_70.alloc (.cells #[] 2) := ⟨_, rfl⟩
          have hb : Below u_70.heap.size u_70 u_71 := by rw [hw]; exact (Below.refl _ _).alloc (Nat.le_refl _) _
          have hrow : IRw u_71 w1.heap.size (.slice (some ⟨u_70.heap.size, 0, none⟩) 0 0) [] := by rw [hw]; exact (FRow.made I fI u_70 2).low HBU.out.size
          have hlt0 : u_70.heap.size < u_71.heap.size := by rw [hw]; simp
          rw [← hw]
          clear hw
          have HE1 := Lib.hid (FRow.call HE1.out hb)
          have HE2 := Lib.hid (FRow.call HE2.out hb)
          have HE0 := Lib.hid hrow
          have HZ_71 := Lib.hid hlt0
          have hS2 := And.intro (hHeld.1.trans (hb.mono (Nat.le_trans HW0.out HBU.out.size))) (hHeld.2.call hb)
          have HBU := Lib.hid (HBU.out.trans (hb.mono HBU.out.size))
          refine hK.out _ _ hS2 (fun hHeld => ?_)
          clear hK K hb hrow hlt0 hS2
          refine kr (rs := [5]) (by kernel_rfl) (by simp) ?_
          refine AllK.cons rfl (fun K hK => ?_) (AllK.nil)
          obtain ⟨x0, c0, u_72, hr, hrow, hb, hq⟩ := IRw.emp HE0.out (rd_mv I_ok HKF.out HBU.out) HBU.out.size HL0.out
          have HRUN := Lib.hid hr
          clear hr
          have HE1 := Lib.hid (FRow.call HE1.out hb)
          have HE2 := Lib.hid (FRow.call HE2.out hb)
          have HM0 := Lib.hid hrow
          have HQ0 := Lib.hid hq
          have HZ_72 := Lib.hid hb.size
          refine step_app rfl (.tmp 21) (.tmp 23) 70 rfl rfl rfl HRUN.out ?_
          have hS2 := And.intro (hHeld.1.trans (hb.mono (Nat.le_trans HW0.out HBU.out.size))) (hHeld.2.call hb)
          have HBU := Lib.hid (HBU.out.trans (hb.mono HBU.out.size))
          refine hK.out _ _ hS2 (fun hHeld => ?_)
          clear hK K hb hrow hq HRUN hS2 HE0
          refine kr (rs := [9]) (by kernel_rfl) (by simp) ?_
          refine AllK.cons rfl (fun K hK => ?_) (AllK.nil)
          obtain ⟨x1, c1, u_73, hr, hrow, hb, hq⟩ := IRw.emp HE1.out (rd_mv I_ok HKG.out HBU.out) HBU.out.size HL1.out
          have HRUN := Lib.hid hr
          clear hr
          have HE2 := Lib.hid (FRow.call HE2.out hb)
          have HM0 := Lib.hid (FRow.call HM0.out hb)
          have HM1 := Lib.hid hrow
          have HQ1 := Lib.hid hq
          have HZ_73 := Lib.hid hb.size
          refine step_app rfl (.tmp 25) (.tmp 27) 70 rfl rfl rfl HRUN.out ?_
          have hS2 := And.intro (hHeld.1.trans (hb.mono (Nat.le_trans HW0.out HBU.out.size))) (hHeld.2.call hb)
          have HBU := Lib.hid (HBU.out.trans (hb.mono HBU.out.size))
          refine hK.out _ _ hS2 (fun hHeld => ?_)
          clear hK K hb hrow hq HRUN hS2 HE1
          refine kr (rs := [13]) (by kernel_rfl) (by simp) ?_
          refine AllK.cons rfl (fun K hK => ?_) (AllK.nil)
          obtain ⟨x2, c2, u_74, hr, hrow, hb, hq⟩ := NRw.emp HE2.out (rd_mv R_Note_ok HKL.out HBU.out) HBU.out.size HL2.out
          have HRUN := Lib.hid hr
          clear hr
          have HM0 := Lib.hid (FRow.call HM0.out hb)
          have HM1 := Lib.hid (FRow.call HM1.out hb)
          have HM2 := Lib.hid hrow
          have HQ2 := Lib.hid hq
          have HZ_74 := Lib.hid hb.size
          refine step_app rfl (.tmp 29) (.tmp 31) 71 rfl rfl rfl HRUN.out ?_
          have hS2 := And.intro (hHeld.1.trans (hb.mono (Nat.le_trans HW0.out HBU.out.size))) (hHeld.2.call hb)
          have HBU := Lib.hid (HBU.out.trans (hb.mono HBU.out.size))
          refine hK.out _ _ hS2 (fun hHeld => ?_)
          clear hK K hb hrow hq HRUN hS2 HE2
          refine kk 14 hHeld ?_
          refine kr (rs := [15]) (by kernel_rfl) (by simp) ?_
          refine AllK.cons rfl (fun K hK => ?_) (AllK.nil)
          obtain ⟨u5, hw⟩ : ∃ w', w' = u_74.alloc (.cells #[.slice x0 F.length c0, .slice x1 G.length c1, .slice x2 L.length c2] 73) := ⟨_, rfl⟩
          have hb : Below u_74.heap.size u_74 u5 := by rw [hw]; exact (Below.refl _ _).alloc (Nat.le_refl _) _
          have hbl : Blk u5 u_74.heap.size 73 #[.slice x0 F.length c0, .slice x1 G.length c1, .slice x2 L.length c2] := by rw [hw]; exact Blk.new _ _ _
          have D01 := Lib.hid (show ∀ k, (Value.slice x0 F.length c0).ownBlock = some k → (Value.slice x1 G.length c1).ownBlock ≠ some k from fun k h1 h2 => by have y1 := HQ0.out k h1; have y2 := HQ1.out k h2; have z51 := HZ_51.out; have z70 := HZ_70.out; have z71 := HZ_71.out; have z72 := HZ_72.out; have z73 := HZ_73.out; have z74 := HZ_74.out; omega)
          have D02 := Lib.hid (show ∀ k, (Value.slice x0 F.length c0).ownBlock = some k → (Value.slice x2 L.length c2).ownBlock ≠ some k from fun k h1 h2 => by have y1 := HQ0.out k h1; have y2 := HQ2.out k h2; have z51 := HZ_51.out; have z70 := HZ_70.out; have z71 := HZ_71.out; have z72 := HZ_72.out; have z73 := HZ_73.out; have z74 := HZ_74.out; omega)
          have D12 := Lib.hid (show ∀ k, (Value.slice x1 G.length c1).ownBlock = some k → (Value.slice x2 L.length c2).ownBlock ≠ some k from fun k h1 h2 => by have y1 := HQ1.out k h1; have y2 := HQ2.out k h2; have z51 := HZ_51.out; have z70 := HZ_70.out; have z71 := HZ_71.out; have z72 := HZ_72.out; have z73 := HZ_73.out; have z74 := HZ_74.out; omega)
          have hbu := HBU.out.trans (hb.mono HBU.out.size)
          have hox : R_BoxG.ow u5 (Rg wo.heap.size u5.heap.size) (F, G, L) [.slice x0 F.length c0, .slice x1 G.length c1, .slice x2 L.length c2] := mkow_BoxG (FRow.call HM0.out hb) (FRow.call HM1.out hb) (FRow.call HM2.out hb) D01.out D02.out D12.out (fun k hk => by have h1 := HM0.out.blk k hk; have h2 := hb.size; exact ⟨by omega, by omega⟩) (fun k hk => by have h1 := HM1.out.blk k hk; have h2 := hb.size; exact ⟨by omega, by omega⟩) (fun k hk => by have h1 := HM2.out.blk k hk; have h2 := hb.size; exact ⟨by omega, by omega⟩)
          obtain ⟨a6, c6, u6, hr6, hr7, hb6, hk6⟩ := app_box2 HR.out (HB1.out.trans (hbu.mono hz1)) hbl hox (by rw [List.length_take]; omega)
          have hlen : (M.take (k + 1)).length = k + 1 := by rw [List.length_take]; omega
          rw [HTK.out, hlen] at hr6 hr7
          have HRUN := Lib.hid hr6
          rw [hw] at HRUN
          have HR6 := Lib.hid hr7
          have hS2 := And.intro (hHeld.1.trans (hb.mono (Nat.le_trans HW0.out HBU.out.size))) (hHeld.2.call hb)
          have hS3 := And.intro (hS2.1.trans hb6) ((hk6 wo.heap.size (Nat.le_refl _) hS2.2.lt).trans hS2.2)
          have HS3x := Lib.hid hS3
          have HB6 := Lib.hid (HB.out.trans ((HB1.out.mono (show W.heap.size + 1 + 1 ≤ wo.heap.size by have := HRL.out; omega)).trans (hS3.1.mono (Nat.le_of_lt HRL.out))))
          rw [hw] at hS2
          go_simp
          refine hK.out _ _ hS2 (fun hHeld => ?_)
          clear hK K hb hw hbl hbu hox hr6 hr7 hb6 hk6 hS2 hS3 hlen
          refine kr (rs := [16]) (by kernel_rfl) (by simp) ?_
          refine AllK.cons rfl (fun K hK => ?_) (AllK.nil)
          refine step_app rfl (.tmp 20) (.tmp 34) 34 rfl rfl rfl HRUN.out ?_
          refine hK.out _ _ HS3x.out (fun hHeld => ?_)
          clear hK K HRUN
          refine kk 17 hHeld ?_
          refine kr (rs := [18]) (by kernel_rfl) (by simp) (AllK.last (by simp) rfl (fun K hK => ?_))
          have HT6 := Lib.hid (show Blk u6 (W.heap.size + 1 + 1) 36 #[.slice va k vc] from (hHeld.1.block (W.heap.size + 1 + 1) HRL.out).trans HT1.out)
          have t0 := HT6.out.at_ 0 rfl
          have s0 := HT6.out.soft 0
          go_simp
          refine hK.out _ _ ?_
          clear hK K t0 s0
          have HT9 := Lib.hid (one_set HT6.out (.slice a6 (k + 1) c6))
          have HR9 := Lib.hid (HR6.out.far R_BoxG_ok (p := ⟨W.heap.size + 1 + 1, 0, none⟩) HRL.out (.slice a6 (k + 1) c6))
          have HB9 := Lib.hid ((HB6.out).setCell (p := ⟨W.heap.size + 1 + 1, 0, none⟩) (Nat.le_refl _) (.slice a6 (k + 1) c6))
          clear hHeld
          refine k0 ?_
          go_wp2
          go_roundw
          case rel => exact ⟨k + 1, by omega, by go_num, ⟨a6, c6, HT9, HR9⟩, HB9.out⟩
          case measure => simp [intOf]; omega
      · skip
        go_simp
        obtain ⟨u_77, hw⟩ : ∃ w', w' = wd.alloc (.cells #[] 75) := ⟨_, rfl⟩
        have hb : Below wd.heap.size wd u_77 := by rw [hw]; exact (Below.refl _ _).alloc (Nat.le_refl _) _
        have hrow : NRw u_77 w1.heap.size (.slice (some ⟨wd.heap.size, 0, none⟩) 0 0) [] := by rw [hw]; exact (FRow.made R_Note fN wd 75).low HBU.out.size
        have hlt0 : wd.heap.size < u_77.heap.size := by rw [hw]; simp
        rw [← hw]
        clear hw
        have HE2 := Lib.hid hrow
        have HZ_77 := Lib.hid hlt0
        have hS2 := And.intro (hHeld.1.trans (hb.mono (Nat.le_trans HW0.out HBU.out.size))) (hHeld.2.call hb)
        have HBU := Lib.hid (HBU.out.trans (hb.mono HBU.out.size))
        refine hK.out _ _ hS2 (fun hHeld => ?_)
        clear hK K hb hrow hlt0 hS2
        refine kr (rs := [2, 6]) (by kernel_rfl) (by simp) ?_
        refine AllK.cons rfl (fun K hK => ?_) (AllK.cons rfl (fun K hK => ?_) (AllK.nil))
        · skip
          go_simp
          obtain ⟨u_78, hw⟩ : ∃ w', w' = u_77.alloc (.cells #[] 2) := ⟨_, rfl⟩
          have hb : Below u_77.heap.size u_77 u_78 := by rw [hw]; exact (Below.refl _ _).alloc (Nat.le_refl _) _
          have hrow : IRw u_78 w1.heap.size (.slice (some ⟨u_77.heap.size, 0, none⟩) 0 0) [] := by rw [hw]; exact (FRow.made I fI u_77 2).low HBU.out.size
          have hlt0 : u_77.heap.size < u_78.heap.size := by rw [hw]; simp
          rw [← hw]
          clear hw
          have HE2 := Lib.hid (FRow.call HE2.out hb)
          have HE0 := Lib.hid hrow
          have HZ_78 := Lib.hid hlt0
          have hS2 := And.intro (hHeld.1.trans (hb.mono (Nat.le_trans HW0.out HBU.out.size))) (hHeld.2.call hb)
          have HBU := Lib.hid (HBU.out.trans (hb.mono HBU.out.size))
          refine hK.out _ _ hS2 (fun hHeld => ?_)
          clear hK K hb hrow hlt0 hS2
          refine kr (rs := [5, 6]) (by kernel_rfl) (by simp) ?_
          refine AllK.cons rfl (fun K hK => ?_) (AllK.cons rfl (fun K hK => ?_) (AllK.nil))
          · skip
            obtain ⟨x0, c0, u_79, hr, hrow, hb, hq⟩ := IRw.emp HE0.out (rd_mv I_ok HKF.out HBU.out) HBU.out.size HL0.out
            have HRUN := Lib.hid hr
            clear hr
            have HE2 := Lib.hid (FRow.call HE2.out hb)
            have HM0 := Lib.hid hrow
            have HQ0 := Lib.hid hq
            have HZ_79 := Lib.hid hb.size
            refine step_app rfl (.tmp 21) (.tmp 23) 70 rfl rfl rfl HRUN.out ?_
            have hS2 := And.intro (hHeld.1.trans (hb.mono (Nat.le_trans HW0.out HBU.out.size))) (hHeld.2.call hb)
            have HBU := Lib.hid (HBU.out.trans (hb.mono HBU.out.size))
            refine hK.out _ _ hS2 (fun hHeld => ?_)
            clear hK K hb hrow hq HRUN hS2 HE0
            refine kr (rs := [6]) (by kernel_rfl) (by simp) ?_
            refine AllK.cons rfl (fun K hK => ?_) (AllK.nil)
            go_simp
            obtain ⟨u_80, hw⟩ : ∃ w', w' = u_79.alloc (.cells #[] 2) := ⟨_, rfl⟩
            have hb : Below u_79.heap.size u_79 u_80 := by rw [hw]; exact (Below.refl _ _).alloc (Nat.le_refl _) _
            have hrow : IRw u_80 w1.heap.size (.slice (some ⟨u_79.heap.size, 0, none⟩) 0 0) [] := by rw [hw]; exact (FRow.made I fI u_79 2).low HBU.out.size
            have hlt0 : u_79.heap.size < u_80.heap.size := by rw [hw]; simp
            rw [← hw]
            clear hw
            have HE2 := Lib.hid (FRow.call HE2.out hb)
            have HM0 := Lib.hid (FRow.call HM0.out hb)
            have HE1 := Lib.hid hrow
            have HZ_80 := Lib.hid hlt0
            have hS2 := And.intro (hHeld.1.trans (hb.mono (Nat.le_trans HW0.out HBU.out.size))) (hHeld.2.call hb)
            have HBU := Lib.hid (HBU.out.trans (hb.mono HBU.out.size))
            refine hK.out _ _ hS2 (fun hHeld => ?_)
            clear hK K hb hrow hlt0 hS2
            refine kr (rs := [9]) (by kernel_rfl) (by simp) ?_
            refine AllK.cons rfl (fun K hK => ?_) (AllK.nil)
            obtain ⟨x1, c1, u_81, hr, hrow, hb, hq⟩ := IRw.emp HE1.out (rd_mv I_ok HKG.out HBU.out) HBU.out.size HL1.out
            have HRUN := Lib.hid hr
            clear hr
            have HE2 := Lib.hid (FRow.call HE2.out hb)
            have HM0 := Lib.hid (FRow.call HM0.out hb)
            have HM1 := Lib.hid hrow
            have HQ1 := Lib.hid hq
            have HZ_81 := Lib.hid hb.size
            refine step_app rfl (.tmp 25) (.tmp 27) 70 rfl rfl rfl HRUN.out ?_
            have hS2 := And.intro (hHeld.1.trans (hb.mono (Nat.le_trans HW0.out HBU.out.size))) (hHeld.2.call hb)
            have HBU := Lib.hid (HBU.out.trans (hb.mono HBU.out.size))
            refine hK.out _ _ hS2 (fun hHeld => ?_)
            clear hK K hb hrow hq HRUN hS2 HE1
            refine kr (rs := [13]) (by kernel_rfl) (by simp) ?_
            refine AllK.cons rfl (fun K hK => ?_) (AllK.nil)
            obtain ⟨x2, c2, u_82, hr, hrow, hb, hq⟩ := NRw.emp HE2.out (rd_mv R_Note_ok HKL.out HBU.out) HBU.out.size HL2.out
            have HRUN := Lib.hid hr
            clear hr
            have HM0 := Lib.hid (FRow.call HM0.out hb)
            have HM1 := Lib.hid (FRow.call HM1.out hb)
            have HM2 := Lib.hid hrow
            have HQ2 := Lib.hid hq
            have HZ_82 := Lib.hid hb.size
            refine step_app rfl (.tmp 29) (.tmp 31) 71 rfl rfl rfl HRUN.out ?_
            have hS2 := And.intro (hHeld.1.trans (hb.mono (Nat.le_trans HW0.out HBU.out.size))) (hHeld.2.call hb)
            have HBU := Lib.hid (HBU.out.trans (hb.mono HBU.out.size))
            refine hK.out _ _ hS2 (fun hHeld => ?_)
            clear hK K hb hrow hq HRUN hS2 HE2
            refine kk 14 hHeld ?_
            refine kr (rs := [15]) (by kernel_rfl) (by simp) ?_
            refine AllK.cons rfl (fun K hK => ?_) (AllK.nil)
            obtain ⟨u5, hw⟩ : ∃ w', w' = u_82.alloc (.cells #[.slice x0 F.length c0, .slice x1 G.length c1, .slice x2 L.length c2] 73) := ⟨_, rfl⟩
            have hb : Below u_82.heap.size u_82 u5 := by rw [hw]; exact (Below.refl _ _).alloc (Nat.le_refl _) _
            have hbl : Blk u5 u_82.heap.size 73 #[.slice x0 F.length c0, .slice x1 G.length c1, .slice x2 L.length c2] := by rw [hw]; exact Blk.new _ _ _
            have D01 := Lib.hid (show ∀ k, (Value.slice x0 F.length c0).ownBlock = some k → (Value.slice x1 G.length c1).ownBlock ≠ some k from fun k h1 h2 => by have y1 := HQ0.out k h1; have y2 := HQ1.out k h2; have z77 := HZ_77.out; have z78 := HZ_78.out; have z79 := HZ_79.out; have z80 := HZ_80.out; have z81 := HZ_81.out; have z82 := HZ_82.out; omega)
            have D02 := Lib.hid (show ∀ k, (Value.slice x0 F.length c0).ownBlock = some k → (Value.slice x2 L.length c2).ownBlock ≠ some k from fun k h1 h2 => by have y1 := HQ0.out k h1; have y2 := HQ2.out k h2; have z77 := HZ_77.out; have z78 := HZ_78.out; have z79 := HZ_79.out; have z80 := HZ_80.out; have z81 := HZ_81.out; have z82 := HZ_82.out; omega)
            have D12 := Lib.hid (show ∀ k, (Value.slice x1 G.length c1).ownBlock = some k → (Value.slice x2 L.length c2).ownBlock ≠ some k from fun k h1 h2 => by have y1 := HQ1.out k h1; have y2 := HQ2.out k h2; have z77 := HZ_77.out; have z78 := HZ_78.out; have z79 := HZ_79.out; have z80 := HZ_80.out; have z81 := HZ_81.out; have z82 := HZ_82.out; omega)
            have hbu := HBU.out.trans (hb.mono HBU.out.size)
            have hox : R_BoxG.ow u5 (Rg wo.heap.size u5.heap.size) (F, G, L) [.slice x0 F.length c0, .slice x1 G.length c1, .slice x2 L.length c2] := mkow_BoxG (FRow.call HM0.out hb) (FRow.call HM1.out hb) (FRow.call HM2.out hb) D01.out D02.out D12.out (fun k hk => by have h1 := HM0.out.blk k hk; have h2 := hb.size; exact ⟨by omega, by omega⟩) (fun k hk => by have h1 := HM1.out.blk k hk; have h2 := hb.size; exact ⟨by omega, by omega⟩) (fun k hk => by have h1 := HM2.out.blk k hk; have h2 := hb.size; exact ⟨by omega, by omega⟩)
            obtain ⟨a6, c6, u6, hr6, hr7, hb6, hk6⟩ := app_box2 HR.out (HB1.out.trans (hbu.mono hz1)) hbl hox (by rw [List.length_take]; omega)
            have hlen : (M.take (k + 1)).length = k + 1 := by rw [List.length_take]; omega
            rw [HTK.out, hlen] at hr6 hr7
            have HRUN := Lib.hid hr6
            rw [hw] at HRUN
            have HR6 := Lib.hid hr7
            have hS2 := And.intro (hHeld.1.trans (hb.mono (Nat.le_trans HW0.out HBU.out.size))) (hHeld.2.call hb)
            have hS3 := And.intro (hS2.1.trans hb6) ((hk6 wo.heap.size (Nat.le_refl _) hS2.2.lt).trans hS2.2)
            have HS3x := Lib.hid hS3
            have HB6 := Lib.hid (HB.out.trans ((HB1.out.mono (show W.heap.size + 1 + 1 ≤ wo.heap.size by have := HRL.out; omega)).trans (hS3.1.mono (Nat.le_of_lt HRL.out))))
            rw [hw] at hS2
            go_simp
            refine hK.out _ _ hS2 (fun hHeld => ?_)
            clear hK K hb hw hbl hbu hox hr6 hr7 hb6 hk6 hS2 hS3 hlen
            refine kr (rs := [16]) (by kernel_rfl) (by simp) ?_
            refine AllK.cons rfl (fun K hK => ?_) (AllK.nil)
            refine step_app rfl (.tmp 20) (.tmp 34) 34 rfl rfl rfl HRUN.out ?_
            refine hK.out _ _ HS3x.out (fun hHeld => ?_)
            clear hK K HRUN
            refine kk 17 hHeld ?_
            refine kr (rs := [18]) (by kernel_rfl) (by simp) (AllK.last (by simp) rfl (fun K hK => ?_))
            have HT6 := Lib.hid (show Blk u6 (W.heap.size + 1 + 1) 36 #[.slice va k vc] from (hHeld.1.block (W.heap.size + 1 + 1) HRL.out).trans HT1.out)
            have t0 := HT6.out.at_ 0 rfl
            have s0 := HT6.out.soft 0
            go_simp
            refine hK.out _ _ ?_
            clear hK K t0 s0
            have HT9 := Lib.hid (one_set HT6.out (.slice a6 (k + 1) c6))
            have HR9 := Lib.hid (HR6.out.far R_BoxG_ok (p := ⟨W.heap.size + 1 + 1, 0, none⟩) HRL.out (.slice a6 (k + 1) c6))
            have HB9 := Lib.hid ((HB6.out).setCell (p := ⟨W.heap.size + 1 + 1, 0, none⟩) (Nat.le_refl _) (.slice a6 (k + 1) c6))
            clear hHeld
            refine k0 ?_
            go_wp2
            go_roundw
            case rel => exact ⟨k + 1, by omega, by go_num, ⟨a6, c6, HT9, HR9⟩, HB9.out⟩
            case measure => simp [intOf]; omega
          · skip
            go_simp
            obtain ⟨u_85, hw⟩ : ∃ w', w' = u_78.alloc (.cells #[] 2) := ⟨_, rfl⟩
            have hb : Below u_78.heap.size u_78 u_85 := by rw [hw]; exact (Below.refl _ _).alloc (Nat.le_refl _) _
            have hrow : IRw u_85 w1.heap.size (.slice (some ⟨u_78.heap.size, 0, none⟩) 0 0) [] := by rw [hw]; exact (FRow.made I fI u_78 2).low HBU.out.size
            have hlt0 : u_78.heap.size < u_85.heap.size := by rw [hw]; simp
            rw [← hw]
            clear hw
            have HE2 := Lib.hid (FRow.call HE2.out hb)
            have HE0 := Lib.hid (FRow.call HE0.out hb)
            have HE1 := Lib.hid hrow
            have HZ_85 := Lib.hid hlt0
            have hS2 := And.intro (hHeld.1.trans (hb.mono (Nat.le_trans HW0.out HBU.out.size))) (hHeld.2.call hb)
            have HBU := Lib.hid (HBU.out.trans (hb.mono HBU.out.size))
            refine hK.out _ _ hS2 (fun hHeld => ?_)
            clear hK K hb hrow hlt0 hS2
            refine kr (rs := [5]) (by kernel_rfl) (by simp) ?_
            refine AllK.cons rfl (fun K hK => ?_) (AllK.nil)
            obtain ⟨x0, c0, u_86, hr, hrow, hb, hq⟩ := IRw.emp HE0.out (rd_mv I_ok HKF.out HBU.out) HBU.out.size HL0.out
            have HRUN := Lib.hid hr
            clear hr
            have HE2 := Lib.hid (FRow.call HE2.out hb)
            have HE1 := Lib.hid (FRow.call HE1.out hb)
            have HM0 := Lib.hid hrow
            have HQ0 := Lib.hid hq
            have HZ_86 := Lib.hid hb.size
            refine step_app rfl (.tmp 21) (.tmp 23) 70 rfl rfl rfl HRUN.out ?_
            have hS2 := And.intro (hHeld.1.trans (hb.mono (Nat.le_trans HW0.out HBU.out.size))) (hHeld.2.call hb)
            have HBU := Lib.hid (HBU.out.trans (hb.mono HBU.out.size))
            refine hK.out _ _ hS2 (fun hHeld => ?_)
            clear hK K hb hrow hq HRUN hS2 HE0
            refine kr (rs := [9]) (by kernel_rfl) (by simp) ?_
            refine AllK.cons rfl (fun K hK => ?_) (AllK.nil)
            obtain ⟨x1, c1, u_87, hr, hrow, hb, hq⟩ := IRw.emp HE1.out (rd_mv I_ok HKG.out HBU.out) HBU.out.size HL1.out
            have HRUN := Lib.hid hr
            clear hr
            have HE2 := Lib.hid (FRow.call HE2.out hb)
            have HM0 := Lib.hid (FRow.call HM0.out hb)
            have HM1 := Lib.hid hrow
            have HQ1 := Lib.hid hq
            have HZ_87 := Lib.hid hb.size
            refine step_app rfl (.tmp 25) (.tmp 27) 70 rfl rfl rfl HRUN.out ?_
            have hS2 := And.intro (hHeld.1.trans (hb.mono (Nat.le_trans HW0.out HBU.out.size))) (hHeld.2.call hb)
            have HBU := Lib.hid (HBU.out.trans (hb.mono HBU.out.size))
            refine hK.out _ _ hS2 (fun hHeld => ?_)
            clear hK K hb hrow hq HRUN hS2 HE1
            refine kr (rs := [13]) (by kernel_rfl) (by simp) ?_
            refine AllK.cons rfl (fun K hK => ?_) (AllK.nil)
            obtain ⟨x2, c2, u_88, hr, hrow, hb, hq⟩ := NRw.emp HE2.out (rd_mv R_Note_ok HKL.out HBU.out) HBU.out.size HL2.out
            have HRUN := Lib.hid hr
            clear hr
            have HM0 := Lib.hid (FRow.call HM0.out hb)
            have HM1 := Lib.hid (FRow.call HM1.out hb)
            have HM2 := Lib.hid hrow
            have HQ2 := Lib.hid hq
            have HZ_88 := Lib.hid hb.size
            refine step_app rfl (.tmp 29) (.tmp 31) 71 rfl rfl rfl HRUN.out ?_
            have hS2 := And.intro (hHeld.1.trans (hb.mono (Nat.le_trans HW0.out HBU.out.size))) (hHeld.2.call hb)
            have HBU := Lib.hid (HBU.out.trans (hb.mono HBU.out.size))
            refine hK.out _ _ hS2 (fun hHeld => ?_)
            clear hK K hb hrow hq HRUN hS2 HE2
            refine kk 14 hHeld ?_
            refine kr (rs := [15]) (by kernel_rfl) (by simp) ?_
            refine AllK.cons rfl (fun K hK => ?_) (AllK.nil)
            obtain ⟨u5, hw⟩ : ∃ w', w' = u_88.alloc (.cells #[.slice x0 F.length c0, .slice x1 G.length c1, .slice x2 L.length c2] 73) := ⟨_, rfl⟩
            have hb : Below u_88.heap.size u_88 u5 := by rw [hw]; exact (Below.refl _ _).alloc (Nat.le_refl _) _
            have hbl : Blk u5 u_88.heap.size 73 #[.slice x0 F.length c0, .slice x1 G.length c1, .slice x2 L.length c2] := by rw [hw]; exact Blk.new _ _ _
            have D01 := Lib.hid (show ∀ k, (Value.slice x0 F.length c0).ownBlock = some k → (Value.slice x1 G.length c1).ownBlock ≠ some k from fun k h1 h2 => by have y1 := HQ0.out k h1; have y2 := HQ1.out k h2; have z77 := HZ_77.out; have z78 := HZ_78.out; have z85 := HZ_85.out; have z86 := HZ_86.out; have z87 := HZ_87.out; have z88 := HZ_88.out; omega)
            have D02 := Lib.hid (show ∀ k, (Value.slice x0 F.length c0).ownBlock = some k → (Value.slice x2 L.length c2).ownBlock ≠ some k from fun k h1 h2 => by have y1 := HQ0.out k h1; have y2 := HQ2.out k h2; have z77 := HZ_77.out; have z78 := HZ_78.out; have z85 := HZ_85.out; have z86 := HZ_86.out; have z87 := HZ_87.out; have z88 := HZ_88.out; omega)
            have D12 := Lib.hid (show ∀ k, (Value.slice x1 G.length c1).ownBlock = some k → (Value.slice x2 L.length c2).ownBlock ≠ some k from fun k h1 h2 => by have y1 := HQ1.out k h1; have y2 := HQ2.out k h2; have z77 := HZ_77.out; have z78 := HZ_78.out; have z85 := HZ_85.out; have z86 := HZ_86.out; have z87 := HZ_87.out; have z88 := HZ_88.out; omega)
            have hbu := HBU.out.trans (hb.mono HBU.out.size)
            have hox : R_BoxG.ow u5 (Rg wo.heap.size u5.heap.size) (F, G, L) [.slice x0 F.length c0, .slice x1 G.length c1, .slice x2 L.length c2] := mkow_BoxG (FRow.call HM0.out hb) (FRow.call HM1.out hb) (FRow.call HM2.out hb) D01.out D02.out D12.out (fun k hk => by have h1 := HM0.out.blk k hk; have h2 := hb.size; exact ⟨by omega, by omega⟩) (fun k hk => by have h1 := HM1.out.blk k hk; have h2 := hb.size; exact ⟨by omega, by omega⟩) (fun k hk => by have h1 := HM2.out.blk k hk; have h2 := hb.size; exact ⟨by omega, by omega⟩)
            obtain ⟨a6, c6, u6, hr6, hr7, hb6, hk6⟩ := app_box2 HR.out (HB1.out.trans (hbu.mono hz1)) hbl hox (by rw [List.length_take]; omega)
            have hlen : (M.take (k + 1)).length = k + 1 := by rw [List.length_take]; omega
            rw [HTK.out, hlen] at hr6 hr7
            have HRUN := Lib.hid hr6
            rw [hw] at HRUN
            have HR6 := Lib.hid hr7
            have hS2 := And.intro (hHeld.1.trans (hb.mono (Nat.le_trans HW0.out HBU.out.size))) (hHeld.2.call hb)
            have hS3 := And.intro (hS2.1.trans hb6) ((hk6 wo.heap.size (Nat.le_refl _) hS2.2.lt).trans hS2.2)
            have HS3x := Lib.hid hS3
            have HB6 := Lib.hid (HB.out.trans ((HB1.out.mono (show W.heap.size + 1 + 1 ≤ wo.heap.size by have := HRL.out; omega)).trans (hS3.1.mono (Nat.le_of_lt HRL.out))))
            rw [hw] at hS2
            go_simp
            refine hK.out _ _ hS2 (fun hHeld => ?_)
            clear hK K hb hw hbl hbu hox hr6 hr7 hb6 hk6 hS2 hS3 hlen
            refine kr (rs := [16]) (by kernel_rfl) (by simp) ?_
            refine AllK.cons rfl (fun K hK => ?_) (AllK.nil)
            refine step_app rfl (.tmp 20) (.tmp 34) 34 rfl rfl rfl HRUN.out ?_
            refine hK.out _ _ HS3x.out (fun hHeld => ?_)
            clear hK K HRUN
            refine kk 17 hHeld ?_
            refine kr (rs := [18]) (by kernel_rfl) (by simp) (AllK.last (by simp) rfl (fun K hK => ?_))
            have HT6 := Lib.hid (show Blk u6 (W.heap.size + 1 + 1) 36 #[.slice va k vc] from (hHeld.1.block (W.heap.size + 1 + 1) HRL.out).trans HT1.out)
            have t0 := HT6.out.at_ 0 rfl
            have s0 := HT6.out.soft 0
            go_simp
            refine hK.out _ _ ?_
            clear hK K t0 s0
            have HT9 := Lib.hid (one_set HT6.out (.slice a6 (k + 1) c6))
            have HR9 := Lib.hid (HR6.out.far R_BoxG_ok (p := ⟨W.heap.size + 1 + 1, 0, none⟩) HRL.out (.slice a6 (k + 1) c6))
            have HB9 := Lib.hid ((HB6.out).setCell (p := ⟨W.heap.size + 1 + 1, 0, none⟩) (Nat.le_refl _) (.slice a6 (k + 1) c6))
            clear hHeld
            refine k0 ?_
            go_wp2
            go_roundw
            case rel => exact ⟨k + 1, by omega, by go_num, ⟨a6, c6, HT9, HR9⟩, HB9.out⟩
            case measure => simp [intOf]; omega
        · skip
          go_simp
          obtain ⟨u_91, hw⟩ : ∃ w', w' = u_77.alloc (.cells #[] 2) := ⟨_, rfl⟩
          have hb : Below u_77.heap.size u_77 u_91 := by rw [hw]; exact (Below.refl _ _).alloc (Nat.le_refl _) _
          have hrow : IRw u_91 w1.heap.size (.slice (some ⟨u_77.heap.size, 0, none⟩) 0 0) [] := by rw [hw]; exact (FRow.made I fI u_77 2).low HBU.out.size
          have hlt0 : u_77.heap.size < u_91.heap.size := by rw [hw]; simp
          rw [← hw]
          clear hw
          have HE2 := Lib.hid (FRow.call HE2.out hb)
          have HE1 := Lib.hid hrow
          have HZ_91 := Lib.hid hlt0
          have hS2 := And.intro (hHeld.1.trans (hb.mono (Nat.le_trans HW0.out HBU.out.size))) (hHeld.2.call hb)
          have HBU := Lib.hid (HBU.out.trans (hb.mono HBU.out.size))
          refine hK.out _ _ hS2 (fun hHeld => ?_)
          clear hK K hb hrow hlt0 hS2
          refine kr (rs := [2]) (by kernel_rfl) (by simp) ?_
          refine AllK.cons rfl (fun K hK => ?_) (AllK.nil)
          go_simp
          obtain ⟨u_92, hw⟩ : ∃ w', w' = u_91.alloc (.cells #[] 2) := ⟨_, rfl⟩
          have hb : Below u_91.heap.size u_91 u_92 := by rw [hw]; exact (Below.refl _ _).alloc (Nat.le_refl _) _
          have hrow : IRw u_92 w1.heap.size (.slice (some ⟨u_91.heap.size, 0, none⟩) 0 0) [] := by rw [hw]; exact (FRow.made I fI u_91 2).low HBU.out.size
          have hlt0 : u_91.heap.size < u_92.heap.size := by rw [hw]; simp
          rw [← hw]
          clear hw
          have HE2 := Lib.hid (FRow.call HE2.out hb)
          have HE1 := Lib.hid (FRow.call HE1.out hb)
          have HE0 := Lib.hid hrow
          have HZ_92 := Lib.hid hlt0
          have hS2 := And.intro (hHeld.1.trans (hb.mono (Nat.le_trans HW0.out HBU.out.size))) (hHeld.2.call hb)
          have HBU := Lib.hid (HBU.out.trans (hb.mono HBU.out.size))
          refine hK.out _ _ hS2 (fun hHeld => ?_)
          clear hK K hb hrow hlt0 hS2
          refine kr (rs := [5]) (by kernel_rfl) (by simp) ?_
          refine AllK.cons rfl (fun K hK => ?_) (AllK.nil)
          obtain ⟨x0, c0, u_93, hr, hrow, hb, hq⟩ := IRw.emp HE0.out (rd_mv I_ok HKF.out HBU.out) HBU.out.size HL0.out
          have HRUN := Lib.hid hr
          clear hr
          have HE2 := Lib.hid (FRow.call HE2.out hb)
          have HE1 := Lib.hid (FRow.call HE1.out hb)
          have HM0 := Lib.hid hrow
          have HQ0 := Lib.hid hq
          have HZ_93 := Lib.hid hb.size
          refine step_app rfl (.tmp 21) (.tmp 23) 70 rfl rfl rfl HRUN.out ?_
          have hS2 := And.intro (hHeld.1.trans (hb.mono (Nat.le_trans HW0.out HBU.out.size))) (hHeld.2.call hb)
          have HBU := Lib.hid (HBU.out.trans (hb.mono HBU.out.size))
          refine hK.out _ _ hS2 (fun hHeld => ?_)
          clear hK K hb hrow hq HRUN hS2 HE0
          refine kr (rs := [9]) (by kernel_rfl) (by simp) ?_
          refine AllK.cons rfl (fun K hK => ?_) (AllK.nil)
          obtain ⟨x1, c1, u_94, hr, hrow, hb, hq⟩ := IRw.emp HE1.out (rd_mv I_ok HKG.out HBU.out) HBU.out.size HL1.out
          have HRUN := Lib.hid hr
          clear hr
          have HE2 := Lib.hid (FRow.call HE2.out hb)
          have HM0 := Lib.hid (FRow.call HM0.out hb)
          have HM1 := Lib.hid hrow
          have HQ1 := Lib.hid hq
          have HZ_94 := Lib.hid hb.size
          refine step_app rfl (.tmp 25) (.tmp 27) 70 rfl rfl rfl HRUN.out ?_
          have hS2 := And.intro (hHeld.1.trans (hb.mono (Nat.le_trans HW0.out HBU.out.size))) (hHeld.2.call hb)
          have HBU := Lib.hid (HBU.out.trans (hb.mono HBU.out.size))
          refine hK.out _ _ hS2 (fun hHeld => ?_)
          clear hK K hb hrow hq HRUN hS2 HE1
          refine kr (rs := [13]) (by kernel_rfl) (by simp) ?_
          refine AllK.cons rfl (fun K hK => ?_) (AllK.nil)
          obtain ⟨x2, c2, u_95, hr, hrow, hb, hq⟩ := NRw.emp HE2.out (rd_mv R_Note_ok HKL.out HBU.out) HBU.out.size HL2.out
          have HRUN := Lib.hid hr
          clear hr
          have HM0 := Lib.hid (FRow.call HM0.out hb)
          have HM1 := Lib.hid (FRow.call HM1.out hb)
          have HM2 := Lib.hid hrow
          have HQ2 := Lib.hid hq
          have HZ_95 := Lib.hid hb.size
          refine step_app rfl (.tmp 29) (.tmp 31) 71 rfl rfl rfl HRUN.out ?_
          have hS2 := And.intro (hHeld.1.trans (hb.mono (Nat.le_trans HW0.out HBU.out.size))) (hHeld.2.call hb)
          have HBU := Lib.hid (HBU.out.trans (hb.mono HBU.out.size))
          refine hK.out _ _ hS2 (fun hHeld => ?_)
          clear hK K hb hrow hq HRUN hS2 HE2
          refine kk 14 hHeld ?_
          refine kr (rs := [15]) (by kernel_rfl) (by simp) ?_
          refine AllK.cons rfl (fun K hK => ?_) (AllK.nil)
          obtain ⟨u5, hw⟩ : ∃ w', w' = u_95.alloc (.cells #[.slice x0 F.length c0, .slice x1 G.length c1, .slice x2 L.length c2] 73) := ⟨_, rfl⟩
          have hb : Below u_95.heap.size u_95 u5 := by rw [hw]; exact (Below.refl _ _).alloc (Nat.le_refl _) _
          have hbl : Blk u5 u_95.heap.size 73 #[.slice x0 F.length c0, .slice x1 G.length c1, .slice x2 L.length c2] := by rw [hw]; exact Blk.new _ _ _
          have D01 := Lib.hid (show ∀ k, (Value.slice x0 F.length c0).ownBlock = some k → (Value.slice x1 G.length c1).ownBlock ≠ some k from fun k h1 h2 => by have y1 := HQ0.out k h1; have y2 := HQ1.out k h2; have z77 := HZ_77.out; have z91 := HZ_91.out; have z92 := HZ_92.out; have z93 := HZ_93.out; have z94 := HZ_94.out; have z95 := HZ_95.out; omega)
          have D02 := Lib.hid (show ∀ k, (Value.slice x0 F.length c0).ownBlock = some k → (Value.slice x2 L.length c2).ownBlock ≠ some k from fun k h1 h2 => by have y1 := HQ0.out k h1; have y2 := HQ2.out k h2; have z77 := HZ_77.out; have z91 := HZ_91.out; have z92 := HZ_92.out; have z93 := HZ_93.out; have z94 := HZ_94.out; have z95 := HZ_95.out; omega)
          have D12 := Lib.hid (show ∀ k, (Value.slice x1 G.length c1).ownBlock = some k → (Value.slice x2 L.length c2).ownBlock ≠ some k from fun k h1 h2 => by have y1 := HQ1.out k h1; have y2 := HQ2.out k h2; have z77 := HZ_77.out; have z91 := HZ_91.out; have z92 := HZ_92.out; have z93 := HZ_93.out; have z94 := HZ_94.out; have z95 := HZ_95.out; omega)
          have hbu := HBU.out.trans (hb.mono HBU.out.size)
          have hox : R_BoxG.ow u5 (Rg wo.heap.size u5.heap.size) (F, G, L) [.slice x0 F.length c0, .slice x1 G.length c1, .slice x2 L.length c2] := mkow_BoxG (FRow.call HM0.out hb) (FRow.call HM1.out hb) (FRow.call HM2.out hb) D01.out D02.out D12.out (fun k hk => by have h1 := HM0.out.blk k hk; have h2 := hb.size; exact ⟨by omega, by omega⟩) (fun k hk => by have h1 := HM1.out.blk k hk; have h2 := hb.size; exact ⟨by omega, by omega⟩) (fun k hk => by have h1 := HM2.out.blk k hk; have h2 := hb.size; exact ⟨by omega, by omega⟩)
          obtain ⟨a6, c6, u6, hr6, hr7, hb6, hk6⟩ := app_box2 HR.out (HB1.out.trans (hbu.mono hz1)) hbl hox (by rw [List.length_take]; omega)
          have hlen : (M.take (k + 1)).length = k + 1 := by rw [List.length_take]; omega
          rw [HTK.out, hlen] at hr6 hr7
          have HRUN := Lib.hid hr6
          rw [hw] at HRUN
          have HR6 := Lib.hid hr7
          have hS2 := And.intro (hHeld.1.trans (hb.mono (Nat.le_trans HW0.out HBU.out.size))) (hHeld.2.call hb)
          have hS3 := And.intro (hS2.1.trans hb6) ((hk6 wo.heap.size (Nat.le_refl _) hS2.2.lt).trans hS2.2)
          have HS3x := Lib.hid hS3
          have HB6 := Lib.hid (HB.out.trans ((HB1.out.mono (show W.heap.size + 1 + 1 ≤ wo.heap.size by have := HRL.out; omega)).trans (hS3.1.mono (Nat.le_of_lt HRL.out))))
          rw [hw] at hS2
          go_simp
          refine hK.out _ _ hS2 (fun hHeld => ?_)
          clear hK K hb hw hbl hbu hox hr6 hr7 hb6 hk6 hS2 hS3 hlen
          refine kr (rs := [16]) (by kernel_rfl) (by simp) ?_
          refine AllK.cons rfl (fun K hK => ?_) (AllK.nil)
          refine step_app rfl (.tmp 20) (.tmp 34) 34 rfl rfl rfl HRUN.out ?_
          refine hK.out _ _ HS3x.out (fun hHeld => ?_)
          clear hK K HRUN
          refine kk 17 hHeld ?_
          refine kr (rs := [18]) (by kernel_rfl) (by simp) (AllK.last (by simp) rfl (fun K hK => ?_))
          have HT6 := Lib.hid (show Blk u6 (W.heap.size + 1 + 1) 36 #[.slice va k vc] from (hHeld.1.block (W.heap.size + 1 + 1) HRL.out).trans HT1.out)
          have t0 := HT6.out.at_ 0 rfl
          have s0 := HT6.out.soft 0
          go_simp
          refine hK.out _ _ ?_
          clear hK K t0 s0
          have HT9 := Lib.hid (one_set HT6.out (.slice a6 (k + 1) c6))
          have HR9 := Lib.hid (HR6.out.far R_BoxG_ok (p := ⟨W.heap.size + 1 + 1, 0, none⟩) HRL.out (.slice a6 (k + 1) c6))
          have HB9 := Lib.hid ((HB6.out).setCell (p := ⟨W.heap.size + 1 + 1, 0, none⟩) (Nat.le_refl _) (.slice a6 (k + 1) c6))
          clear hHeld
          refine k0 ?_
          go_wp2
          go_roundw
          case rel => exact ⟨k + 1, by omega, by go_num, ⟨a6, c6, HT9, HR9⟩, HB9.out⟩
          case measure => simp [intOf]; omega
    · have hdl : decide ((k : Int) < (M.length : Int)) = false := decide_eq_false (by omega)
      obtain rfl : k = M.length := by omega
      obtain ⟨a9, c9, he, ho⟩ := HR.out.owsl R_BoxG_ok
      rw [List.take_length] at he ho
      cases he
      have HO := Lib.hid ho
      have t0 := HT.out.at_ 0 rfl
      have X1b := (hB.block (W.heap.size + 1) (by show W.heap.size + 1 < W.heap.size + 1 + 1; omega)).trans X1.out
      have X1c : Blk wo (W.heap.size + 1) 36 #[.slice none 0 0] := X1b
      have q1 := X1c.at_ 0 rfl
      have s1 := X1c.soft 0
      clear hB ho X1b X1c
      go_wp2
      refine bodyPost_ret (v := .agg #[.slice va M.length vc]) (by simp [results, Tryz.results38, go_sem, *]) rfl ⟨[.slice va M.length vc], rfl, ⟨va, vc, rfl, (HO.out.keep R_BoxG_ok fun q hq => Below.heap_setCell _ _ _ _ (fun e => by have h1 := hq.1; have h2 := HS3.out; have e2 : q = W.heap.size + 1 := e; omega)).more fun q hq => ⟨by have h1 := hq.1; have h2 := HS3.out; omega, by have h1 := hq.2; simpa [World.setCell] using h1⟩⟩, HBW.out.setCell (p := ⟨W.heap.size + 1, 0, none⟩) (by show W.heap.size ≤ W.heap.size + 1; omega) _⟩
end Go.Proofs.YtlgflddljhldhaaGreat.RepC
end
