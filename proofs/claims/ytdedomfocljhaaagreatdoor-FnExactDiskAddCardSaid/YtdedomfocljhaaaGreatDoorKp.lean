/- A region walked under a condition that need not hold behind its last operation: general. -/
import Derived.Test.YtdedomfocljhaaaGreatDoorTk
namespace Go.Proofs.YtdedomfocljhaaaGreatDoor

section
variable {P : Program} {ops : Array Oper} {Q : Exit → Act → World → Prop} {md : Region.Mode} {S : World → Prop} {fs : List Nat}

/-- whatever order comes: S holds behind every operation but those of fs -/
def wpK (P : Program) (md : Region.Mode) (ops : Array Oper) (Q : Exit → Act → World → Prop) (S : World → Prop) (fs : List Nat) : Nat → Array Bool → Act → World → Prop
  | 0, l, a, w => Region.ready md ops l = [] ∧ Q .normal a w
  | n + 1, l, a, w => (Region.ready md ops l = [] → Q .normal a w) ∧ ∀ i ∈ Region.ready md ops l, wpOp P ops Q i (fun a' w' => (i ∈ fs ∨ (S w → S w')) ∧ wpK P md ops Q S fs n (l.setIfInBounds i true) a' w') a w
theorem wpK_any : ∀ (n : Nat) (l : Array Bool) (a : Act) (w : World), wpK P md ops Q S fs n l a w → wpAny P md ops Q n l a w
  | 0, _, _, _, h => h
  | n + 1, _, _, _, h => ⟨h.1, fun i hi => wpOp_mono (fun a' w' k => wpK_any n _ a' w' k.2) (h.2 i hi)⟩
/-- number f waits for number i -/
def behind (md : Region.Mode) (ops : Array Oper) (f i : Nat) : Bool := match ops[f]? with
  | some o => o.after.any fun e => Region.binds md e && e.on == i
  | none => false
theorem behind_not {f i : Nat} {l : Array Bool} (hb : behind md ops f i = true) (hi : l.getD i true = false) : f ∉ Region.ready md ops l := fun h => by
  obtain ⟨_, o, ho, hall⟩ := mem_ready.1 h
  unfold behind at hb
  rw [ho] at hb
  simp only [Array.any_eq_true', Bool.and_eq_true, beq_iff_eq] at hb
  obtain ⟨e, he, h1, h2⟩ := hb
  have h3 := hall e he h1
  rw [h2] at h3
  by_cases hlt : i < l.size
  · simp [Array.getD, hlt] at hi h3
    rw [hi] at h3
    cases h3
  · simp [Array.getD, hlt] at h3
theorem wpK_first {R : World → Prop} {i : Nat} {oi : Oper} {v : Value} (hi : ops[i]? = some oi) (hsel : ∀ (j : Nat) (o : Oper) cs b, ops[j]? = some o → o.op ≠ .select cs b) (hQ : ∀ c a w, Q (.panic c) (a.put oi.dst v) w → Q (.panic c) a w) (hb : (∀ w, R w) ∨ (R = S ∧ fs.all (fun f => behind md ops f i) = true)) :
    ∀ (n : Nat) (l : Array Bool) (a : Act) (w : World), (∀ j oj, ops[j]? = some oj → j ≠ i → l.getD j true = false → (∀ e ∈ oj.after, Region.binds md e = true → e.on ≠ i) → oi.apart ops oj = true) → i ∈ Region.ready md ops l → YieldsIf P ops R oi v a → R w →
      wpK P md ops Q S fs n (l.setIfInBounds i true) (a.put oi.dst v) w → wpK P md ops Q S fs (n + 1) l a w := by
  intro n
  induction n with
  | zero =>
    intro l a w _ hr hy hS H
    refine ⟨fun h => (by rw [h] at hr; cases hr), fun j hj => ?_⟩
    rcases Nat.decEq j i with hne | he
    · have h0 := ready_mono hj hne
      rw [H.1] at h0
      cases h0
    · subst he
      exact hy.wpOp hi hS ⟨.inr fun h => h, H⟩
  | succ n ih =>
    intro l a w hfree hr hy hS H
    have hun := (mem_ready.1 hr).1
    refine ⟨fun h => (by rw [h] at hr; cases hr), fun j hj => ?_⟩
    rcases Nat.decEq j i with hne | he
    · have hstep : ∀ w', (j ∈ fs ∨ (S w → S w')) → R w' := fun w' h => by
        rcases hb with hb | ⟨hb, hf⟩
        · exact hb w'
        · subst hb
          exact (h.resolve_left fun e => behind_not (List.all_eq_true.1 hf j e) hun hj) hS
      obtain ⟨hju, oj, hoj, hall⟩ := mem_ready.1 hj
      have hno : ∀ e ∈ oj.after, Region.binds md e = true → e.on ≠ i := fun e he hbd heq => by
        have h1 := hall e he hbd
        rw [heq] at h1
        by_cases hlt : i < l.size
        · simp [Array.getD, hlt] at hun h1
          rw [hun] at h1
          cases h1
        · simp [Array.getD, hlt] at h1
      refine wpOp_mono (fun a' w' k => ⟨k.2.1, ih (l.setIfInBounds j true) a' w' (fun q oq hq hqi hqu hqn => ?_) (ready_mono hr (Ne.symm hne)) k.1 (hstep w' k.2.1) ?_⟩) (wpOp_putIf hoj (hfree j oj hoj hne hju hno) (fun cs b => hsel i oi cs b hi) (fun cs b => hsel j oj cs b hoj) hQ hy (H.2 j (ready_mono hj hne)))
      · refine hfree q oq hq hqi ?_ hqn
        rcases Nat.decEq j q with hjq | hjq
        · rw [getD_set_ne true hjq] at hqu
          exact hqu
        · subst hjq
          exact hju
      · rw [Array.setIfInBounds_comm _ _ hne]
        exact k.2.2
    · subst he
      exact hy.wpOp hi hS ⟨.inr fun h => h, H⟩

/-- an operation taken first -/
theorem kk (i : Nat) {oi : Oper} {v : Value} {n : Nat} {l : Array Bool} {a a' : Act} {w : World} (hS : S w)
    (h : wpK P md ops Q S fs n (l.setIfInBounds i true) a' w)
    (hi : ops[i]? = some oi := by rfl) (hs : Region.noSelect ops = true := by kernel_rfl)
    (hf : Region.free md ops l i = true := by kernel_rfl) (hr : (Region.ready md ops l).contains i = true := by kernel_rfl) (hb : fs.all (fun f => behind md ops f i) = true := by kernel_rfl)
    (hw : Region.wanted oi (yielded ops a.tmps) = true := by kernel_rfl)
    (hy : ∀ w, S w → (execOp a.eval oi).run P w = .ok (.value v) w := by
      intro w hSw; (try dsimp only at hSw); go_simp; try with_reducible rfl)
    (hQ : ∀ c a w, Q (.panic c) (a.put oi.dst v) w → Q (.panic c) a w := by exact fun _ _ _ h => h)
    (ha : a.put oi.dst v = a' := by
      first | (simp only [Act.put, List.getElem_toArray, List.getElem_cons_succ, List.getElem_cons_zero, List.setIfInBounds_toArray, List.set_cons_zero, List.set_cons_succ]; done) | (simp only [Act.put, List.getElem_toArray, List.getElem_cons_succ, List.getElem_cons_zero, List.setIfInBounds_toArray, List.set_cons_zero, List.set_cons_succ]; exact rfl) | exact rfl) :
    wpK P md ops Q S fs (n + 1) l a w := by
  subst ha
  exact wpK_first hi (Region.noSelect_spec hs) hQ (.inr ⟨rfl, hb⟩) n l a w (Region.free_spec hi hf) (by simpa using hr) (Or.inl ⟨hw, hy⟩) hS h
/-- an operation that asks nothing of the world, taken first -/
theorem kp (i : Nat) {oi : Oper} {v : Value} {n : Nat} {l : Array Bool} {a a' : Act} {w : World}
    (h : wpK P md ops Q S fs n (l.setIfInBounds i true) a' w)
    (hi : ops[i]? = some oi := by rfl) (hs : Region.noSelect ops = true := by kernel_rfl)
    (hf : Region.free md ops l i = true := by kernel_rfl) (hr : (Region.ready md ops l).contains i = true := by kernel_rfl)
    (hw : Region.wanted oi (yielded ops a.tmps) = true := by kernel_rfl)
    (hy : ∀ w, True → (execOp a.eval oi).run P w = .ok (.value v) w := by
      intro w hSw; clear hSw; go_simp; try with_reducible rfl)
    (hQ : ∀ c a w, Q (.panic c) (a.put oi.dst v) w → Q (.panic c) a w := by exact fun _ _ _ h => h)
    (ha : a.put oi.dst v = a' := by
      first | (simp only [Act.put, List.getElem_toArray, List.getElem_cons_succ, List.getElem_cons_zero, List.setIfInBounds_toArray, List.set_cons_zero, List.set_cons_succ]; done) | (simp only [Act.put, List.getElem_toArray, List.getElem_cons_succ, List.getElem_cons_zero, List.setIfInBounds_toArray, List.set_cons_zero, List.set_cons_succ]; exact rfl) | exact rfl) :
    wpK P md ops Q S fs (n + 1) l a w := by
  subst ha
  exact wpK_first (R := fun _ => True) hi (Region.noSelect_spec hs) hQ (.inl fun _ => trivial) n l a w (Region.free_spec hi hf) (by simpa using hr) (Or.inl ⟨hw, hy⟩) trivial h
/-- those that may come up now -/
def AllK (P : Program) (md : Region.Mode) (ops : Array Oper) (Q : Exit → Act → World → Prop) (S : World → Prop) (fs : List Nat) (n : Nat) (l : Array Bool) (a : Act) (w : World) (rs : List Nat) : Prop :=
  ∀ i ∈ rs, wpOp P ops Q i (fun a' w' => (i ∈ fs ∨ (S w → S w')) ∧ wpK P md ops Q S fs n (l.setIfInBounds i true) a' w') a w
theorem AllK.nil {n : Nat} {l : Array Bool} {a : Act} {w : World} : AllK P md ops Q S fs n l a w [] := fun _ h => by cases h
theorem AllK.cons {n : Nat} {l : Array Bool} {a : Act} {w : World} {i : Nat} {o : Oper} {rs : List Nat} (ho : ops[i]? = some o)
    (h : ∀ K' : Act → World → Prop, Shut (∀ a w, S w → (S w → wpK P md ops Q S fs n (l.setIfInBounds i true) a w) → K' a w) → if Region.wanted o (yielded ops a.tmps) = true then Oper.wp P o a w K' Q else K' (a.put o.dst undef) w)
    (hs : AllK P md ops Q S fs n l a w rs) : AllK P md ops Q S fs n l a w (i :: rs) := fun j hj => by
  rcases List.mem_cons.1 hj with e | hj
  · subst e
    exact wpOp_step ho fun K' hK => h K' fun a w hS hW => hK a w ⟨.inr fun _ => hS, hW hS⟩
  · exact hs j hj
theorem AllK.last {n : Nat} {l : Array Bool} {a : Act} {w : World} {i : Nat} {o : Oper} (hi : i ∈ fs) (ho : ops[i]? = some o)
    (h : ∀ K' : Act → World → Prop, Shut (∀ a w, wpK P md ops Q S fs n (l.setIfInBounds i true) a w → K' a w) → if Region.wanted o (yielded ops a.tmps) = true then Oper.wp P o a w K' Q else K' (a.put o.dst undef) w) : AllK P md ops Q S fs n l a w [i] := fun j hj => by
  obtain rfl := List.mem_singleton.1 hj
  exact wpOp_step ho fun K' hK => h K' fun a w hW => hK a w ⟨.inl hi, hW⟩
theorem kr {rs : List Nat} {n : Nat} {l : Array Bool} {a a' : Act} {w : World} (hr : Region.ready md ops l = rs) (hne : rs ≠ []) (h : AllK P md ops Q S fs n l a' w rs)
    (ha : a = a' := by
      first | (simp only [Act.put, List.getElem_toArray, List.getElem_cons_succ, List.getElem_cons_zero, List.setIfInBounds_toArray, List.set_cons_zero, List.set_cons_succ]; done) | (simp only [Act.put, List.getElem_toArray, List.getElem_cons_succ, List.getElem_cons_zero, List.setIfInBounds_toArray, List.set_cons_zero, List.set_cons_succ]; exact rfl) | exact rfl) : wpK P md ops Q S fs (n + 1) l a w := by
  subst ha
  exact ⟨fun h0 => absurd (hr ▸ h0) hne, hr ▸ h⟩
theorem k0 {n : Nat} {l : Array Bool} {a a' : Act} {w : World} (h : Q .normal a' w)
    (ha : a = a' := by
      first | (simp only [Act.put, List.getElem_toArray, List.getElem_cons_succ, List.getElem_cons_zero, List.setIfInBounds_toArray, List.set_cons_zero, List.set_cons_succ]; done) | (simp only [Act.put, List.getElem_toArray, List.getElem_cons_succ, List.getElem_cons_zero, List.setIfInBounds_toArray, List.set_cons_zero, List.set_cons_succ]; exact rfl) | exact rfl)
    (hr : Region.ready md ops l = [] := by kernel_rfl) : wpK P md ops Q S fs n l a w := by
  subst ha
  cases n with
  | zero => exact ⟨hr, h⟩
  | succ n => exact ⟨fun _ => h, by rw [hr]; simp⟩
/-- the beginning -/
theorem kregion {id : Nat} {a : Act} {w : World} (fs : List Nat) (hm : P.follows .mixedOrders = true) (hS : S w.drew) (h : S w.drew → wpK P .any ops Q S fs ops.size (Array.replicate ops.size false) a w.drew) : (Code.region id ops true).wp P Q a w :=
  wp_region_any hm (wpK_any _ _ _ _ (h hS))
end

end Go.Proofs.YtdedomfocljhaaaGreatDoor
