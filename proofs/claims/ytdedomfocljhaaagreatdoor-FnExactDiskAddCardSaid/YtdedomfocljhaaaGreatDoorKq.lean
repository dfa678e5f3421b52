/- A region walked under a condition that need not hold behind its last operation: general. -/
import Derived.Test.YtdedomfocljhaaaGreatDoorKp
namespace Go.Proofs.YtdedomfocljhaaaGreatDoor

section
variable {P : Program} {ops : Array Oper} {Q : Exit → Act → World → Prop} {md : Region.Mode} {S T : World → Prop} {fs gs : List Nat}

/-- whatever order comes: S holds behind every operation but those of fs -/
def wpK2 (P : Program) (md : Region.Mode) (ops : Array Oper) (Q : Exit → Act → World → Prop) (S T : World → Prop) (fs gs : List Nat) : Nat → Array Bool → Act → World → Prop
  | 0, l, a, w => Region.ready md ops l = [] ∧ Q .normal a w
  | n + 1, l, a, w => (Region.ready md ops l = [] → Q .normal a w) ∧ ∀ i ∈ Region.ready md ops l, wpOp P ops Q i (fun a' w' => (i ∈ fs ∨ (S w → S w')) ∧ (i ∈ gs ∨ (T w → T w')) ∧ wpK2 P md ops Q S T fs gs n (l.setIfInBounds i true) a' w') a w
theorem wpK2_any : ∀ (n : Nat) (l : Array Bool) (a : Act) (w : World), wpK2 P md ops Q S T fs gs n l a w → wpAny P md ops Q n l a w
  | 0, _, _, _, h => h
  | n + 1, _, _, _, h => ⟨h.1, fun i hi => wpOp_mono (fun a' w' k => wpK2_any n _ a' w' k.2.2) (h.2 i hi)⟩
theorem wpK2_first {R : World → Prop} {i : Nat} {oi : Oper} {v : Value} (hi : ops[i]? = some oi) (hsel : ∀ (j : Nat) (o : Oper) cs b, ops[j]? = some o → o.op ≠ .select cs b) (hQ : ∀ c a w, Q (.panic c) (a.put oi.dst v) w → Q (.panic c) a w) (hb : (∀ w, R w) ∨ (R = S ∧ fs.all (fun f => behind md ops f i) = true) ∨ (R = T ∧ gs.all (fun f => behind md ops f i) = true)) :
    ∀ (n : Nat) (l : Array Bool) (a : Act) (w : World), (∀ j oj, ops[j]? = some oj → j ≠ i → l.getD j true = false → (∀ e ∈ oj.after, Region.binds md e = true → e.on ≠ i) → oi.apart ops oj = true) → i ∈ Region.ready md ops l → YieldsIf P ops R oi v a → R w →
      wpK2 P md ops Q S T fs gs n (l.setIfInBounds i true) (a.put oi.dst v) w → wpK2 P md ops Q S T fs gs (n + 1) l a w := by
  intro n
  induction n with
  | zero =>
    intro l a w _ hr hy hS H
    refine ⟨fun h => (by rw [h] at hr; cases hr), fun j hj => ?_⟩
    rcases Nat.decEq j i with hne | he
    · have h0 := ready_mono hj hne
      rw [H.1] at h0
      cases h0
    · subst he
      exact hy.wpOp hi hS ⟨.inr fun h => h, .inr fun h => h, H⟩
  | succ n ih =>
    intro l a w hfree hr hy hS H
    have hun := (mem_ready.1 hr).1
    refine ⟨fun h => (by rw [h] at hr; cases hr), fun j hj => ?_⟩
    rcases Nat.decEq j i with hne | he
    · have hstep : ∀ w', (j ∈ fs ∨ (S w → S w')) → (j ∈ gs ∨ (T w → T w')) → R w' := fun w' h h2 => by
        rcases hb with hb | ⟨hb, hf⟩ | ⟨hb, hf⟩
        · exact hb w'
        · subst hb
          exact (h.resolve_left fun e => behind_not (List.all_eq_true.1 hf j e) hun hj) hS
        · subst hb
          exact (h2.resolve_left fun e => behind_not (List.all_eq_true.1 hf j e) hun hj) hS
      obtain ⟨hju, oj, hoj, hall⟩ := mem_ready.1 hj
      have hno : ∀ e ∈ oj.after, Region.binds md e = true → e.on ≠ i := fun e he hbd heq => by
        have h1 := hall e he hbd
        rw [heq] at h1
        by_cases hlt : i < l.size
        · simp [Array.getD, hlt] at hun h1
          rw [hun] at h1
          cases h1
        · simp [Array.getD, hlt] at h1
      refine wpOp_mono (fun a' w' k => ⟨k.2.1, k.2.2.1, ih (l.setIfInBounds j true) a' w' (fun q oq hq hqi hqu hqn => ?_) (ready_mono hr (Ne.symm hne)) k.1 (hstep w' k.2.1 k.2.2.1) ?_⟩) (wpOp_putIf hoj (hfree j oj hoj hne hju hno) (fun cs b => hsel i oi cs b hi) (fun cs b => hsel j oj cs b hoj) hQ hy (H.2 j (ready_mono hj hne)))
      · refine hfree q oq hq hqi ?_ hqn
        rcases Nat.decEq j q with hjq | hjq
        · rw [getD_set_ne true hjq] at hqu
          exact hqu
        · subst hjq
          exact hju
      · rw [Array.setIfInBounds_comm _ _ hne]
        exact k.2.2.2
    · subst he
      exact hy.wpOp hi hS ⟨.inr fun h => h, .inr fun h => h, H⟩

/-- an operation taken first -/
theorem kk2 (i : Nat) {oi : Oper} {v : Value} {n : Nat} {l : Array Bool} {a a' : Act} {w : World} (hS : S w)
    (h : wpK2 P md ops Q S T fs gs n (l.setIfInBounds i true) a' w)
    (hi : ops[i]? = some oi := by rfl) (hs : Region.noSelect ops = true := by kernel_rfl)
    (hf : Region.free md ops l i = true := by kernel_rfl) (hr : (Region.ready md ops l).contains i = true := by kernel_rfl) (hb : fs.all (fun f => behind md ops f i) = true := by kernel_rfl)
    (hw : Region.wanted oi (yielded ops a.tmps) = true := by kernel_rfl)
    (hy : ∀ w, S w → (execOp a.eval oi).run P w = .ok (.value v) w := by
      intro w hSw; (try dsimp only at hSw); go_simp; try with_reducible rfl)
    (hQ : ∀ c a w, Q (.panic c) (a.put oi.dst v) w → Q (.panic c) a w := by exact fun _ _ _ h => h)
    (ha : a.put oi.dst v = a' := by
      first | (simp only [Act.put, List.getElem_toArray, List.getElem_cons_succ, List.getElem_cons_zero, List.setIfInBounds_toArray, List.set_cons_zero, List.set_cons_succ]; done) | (simp only [Act.put, List.getElem_toArray, List.getElem_cons_succ, List.getElem_cons_zero, List.setIfInBounds_toArray, List.set_cons_zero, List.set_cons_succ]; exact rfl) | exact rfl) :
    wpK2 P md ops Q S T fs gs (n + 1) l a w := by
  subst ha
  exact wpK2_first hi (Region.noSelect_spec hs) hQ (.inr (.inl ⟨rfl, hb⟩)) n l a w (Region.free_spec hi hf) (by simpa using hr) (Or.inl ⟨hw, hy⟩) hS h
/-- an operation taken first, by the second condition -/
theorem kl2 (i : Nat) {oi : Oper} {v : Value} {n : Nat} {l : Array Bool} {a a' : Act} {w : World} (hS : T w)
    (h : wpK2 P md ops Q S T fs gs n (l.setIfInBounds i true) a' w)
    (hi : ops[i]? = some oi := by rfl) (hs : Region.noSelect ops = true := by kernel_rfl)
    (hf : Region.free md ops l i = true := by kernel_rfl) (hr : (Region.ready md ops l).contains i = true := by kernel_rfl) (hb : gs.all (fun f => behind md ops f i) = true := by kernel_rfl)
    (hw : Region.wanted oi (yielded ops a.tmps) = true := by kernel_rfl)
    (hy : ∀ w, T w → (execOp a.eval oi).run P w = .ok (.value v) w := by
      intro w hSw; (try dsimp only at hSw); go_simp; try with_reducible rfl)
    (hQ : ∀ c a w, Q (.panic c) (a.put oi.dst v) w → Q (.panic c) a w := by exact fun _ _ _ h => h)
    (ha : a.put oi.dst v = a' := by
      first | (simp only [Act.put, List.getElem_toArray, List.getElem_cons_succ, List.getElem_cons_zero, List.setIfInBounds_toArray, List.set_cons_zero, List.set_cons_succ]; done) | (simp only [Act.put, List.getElem_toArray, List.getElem_cons_succ, List.getElem_cons_zero, List.setIfInBounds_toArray, List.set_cons_zero, List.set_cons_succ]; exact rfl) | exact rfl) :
    wpK2 P md ops Q S T fs gs (n + 1) l a w := by
  subst ha
  exact wpK2_first hi (Region.noSelect_spec hs) hQ (.inr (.inr ⟨rfl, hb⟩)) n l a w (Region.free_spec hi hf) (by simpa using hr) (Or.inl ⟨hw, hy⟩) hS h
/-- an operation that asks nothing of the world, taken first -/
theorem kp2 (i : Nat) {oi : Oper} {v : Value} {n : Nat} {l : Array Bool} {a a' : Act} {w : World}
    (h : wpK2 P md ops Q S T fs gs n (l.setIfInBounds i true) a' w)
    (hi : ops[i]? = some oi := by rfl) (hs : Region.noSelect ops = true := by kernel_rfl)
    (hf : Region.free md ops l i = true := by kernel_rfl) (hr : (Region.ready md ops l).contains i = true := by kernel_rfl)
    (hw : Region.wanted oi (yielded ops a.tmps) = true := by kernel_rfl)
    (hy : ∀ w, True → (execOp a.eval oi).run P w = .ok (.value v) w := by
      intro w hSw; clear hSw; go_simp; try with_reducible rfl)
    (hQ : ∀ c a w, Q (.panic c) (a.put oi.dst v) w → Q (.panic c) a w := by exact fun _ _ _ h => h)
    (ha : a.put oi.dst v = a' := by
      first | (simp only [Act.put, List.getElem_toArray, List.getElem_cons_succ, List.getElem_cons_zero, List.setIfInBounds_toArray, List.set_cons_zero, List.set_cons_succ]; done) | (simp only [Act.put, List.getElem_toArray, List.getElem_cons_succ, List.getElem_cons_zero, List.setIfInBounds_toArray, List.set_cons_zero, List.set_cons_succ]; exact rfl) | exact rfl) :
    wpK2 P md ops Q S T fs gs (n + 1) l a w := by
  subst ha
  exact wpK2_first (R := fun _ => True) hi (Region.noSelect_spec hs) hQ (.inl fun _ => trivial) n l a w (Region.free_spec hi hf) (by simpa using hr) (Or.inl ⟨hw, hy⟩) trivial h
/-- those that may come up now -/
def AllK2 (P : Program) (md : Region.Mode) (ops : Array Oper) (Q : Exit → Act → World → Prop) (S T : World → Prop) (fs gs : List Nat) (n : Nat) (l : Array Bool) (a : Act) (w : World) (rs : List Nat) : Prop :=
  ∀ i ∈ rs, wpOp P ops Q i (fun a' w' => (i ∈ fs ∨ (S w → S w')) ∧ (i ∈ gs ∨ (T w → T w')) ∧ wpK2 P md ops Q S T fs gs n (l.setIfInBounds i true) a' w') a w
theorem AllK2.nil {n : Nat} {l : Array Bool} {a : Act} {w : World} : AllK2 P md ops Q S T fs gs n l a w [] := fun _ h => by cases h
theorem AllK2.cons {n : Nat} {l : Array Bool} {a : Act} {w : World} {i : Nat} {o : Oper} {rs : List Nat} (ho : ops[i]? = some o)
    (h : ∀ K' : Act → World → Prop, Shut (∀ a w, S w → T w → (S w → T w → wpK2 P md ops Q S T fs gs n (l.setIfInBounds i true) a w) → K' a w) → if Region.wanted o (yielded ops a.tmps) = true then Oper.wp P o a w K' Q else K' (a.put o.dst undef) w)
    (hs : AllK2 P md ops Q S T fs gs n l a w rs) : AllK2 P md ops Q S T fs gs n l a w (i :: rs) := fun j hj => by
  rcases List.mem_cons.1 hj with e | hj
  · subst e
    exact wpOp_step ho fun K' hK => h K' fun a w hS hT hW => hK a w ⟨.inr fun _ => hS, .inr fun _ => hT, hW hS hT⟩
  · exact hs j hj
/-- one behind which the first need not hold -/
theorem AllK2.half {n : Nat} {l : Array Bool} {a : Act} {w : World} {i : Nat} {o : Oper} {rs : List Nat} (hi : i ∈ fs) (ho : ops[i]? = some o)
    (h : ∀ K' : Act → World → Prop, Shut (∀ a w, T w → (T w → wpK2 P md ops Q S T fs gs n (l.setIfInBounds i true) a w) → K' a w) → if Region.wanted o (yielded ops a.tmps) = true then Oper.wp P o a w K' Q else K' (a.put o.dst undef) w)
    (hs : AllK2 P md ops Q S T fs gs n l a w rs) : AllK2 P md ops Q S T fs gs n l a w (i :: rs) := fun j hj => by
  rcases List.mem_cons.1 hj with e | hj
  · subst e
    exact wpOp_step ho fun K' hK => h K' fun a w hT hW => hK a w ⟨.inl hi, .inr fun _ => hT, hW hT⟩
  · exact hs j hj
theorem AllK2.last {n : Nat} {l : Array Bool} {a : Act} {w : World} {i : Nat} {o : Oper} (hi : i ∈ fs) (hg : i ∈ gs) (ho : ops[i]? = some o)
    (h : ∀ K' : Act → World → Prop, Shut (∀ a w, wpK2 P md ops Q S T fs gs n (l.setIfInBounds i true) a w → K' a w) → if Region.wanted o (yielded ops a.tmps) = true then Oper.wp P o a w K' Q else K' (a.put o.dst undef) w) : AllK2 P md ops Q S T fs gs n l a w [i] := fun j hj => by
  obtain rfl := List.mem_singleton.1 hj
  exact wpOp_step ho fun K' hK => h K' fun a w hW => hK a w ⟨.inl hi, .inl hg, hW⟩
theorem kr2 {rs : List Nat} {n : Nat} {l : Array Bool} {a a' : Act} {w : World} (hr : Region.ready md ops l = rs) (hne : rs ≠ []) (h : AllK2 P md ops Q S T fs gs n l a' w rs)
    (ha : a = a' := by
      first | (simp only [Act.put, List.getElem_toArray, List.getElem_cons_succ, List.getElem_cons_zero, List.setIfInBounds_toArray, List.set_cons_zero, List.set_cons_succ]; done) | (simp only [Act.put, List.getElem_toArray, List.getElem_cons_succ, List.getElem_cons_zero, List.setIfInBounds_toArray, List.set_cons_zero, List.set_cons_succ]; exact rfl) | exact rfl) : wpK2 P md ops Q S T fs gs (n + 1) l a w := by
  subst ha
  exact ⟨fun h0 => absurd (hr ▸ h0) hne, hr ▸ h⟩
theorem k02 {n : Nat} {l : Array Bool} {a a' : Act} {w : World} (h : Q .normal a' w)
    (ha : a = a' := by
      first | (simp only [Act.put, List.getElem_toArray, List.getElem_cons_succ, List.getElem_cons_zero, List.setIfInBounds_toArray, List.set_cons_zero, List.set_cons_succ]; done) | (simp only [Act.put, List.getElem_toArray, List.getElem_cons_succ, List.getElem_cons_zero, List.setIfInBounds_toArray, List.set_cons_zero, List.set_cons_succ]; exact rfl) | exact rfl)
    (hr : Region.ready md ops l = [] := by kernel_rfl) : wpK2 P md ops Q S T fs gs n l a w := by
  subst ha
  cases n with
  | zero => exact ⟨hr, h⟩
  | succ n => exact ⟨fun _ => h, by rw [hr]; simp⟩
/-- the beginning -/
theorem kregion2 {id : Nat} {a : Act} {w : World} (fs gs : List Nat) (hm : P.follows .mixedOrders = true) (hS : S w.drew) (hT : T w.drew) (h : S w.drew → T w.drew → wpK2 P .any ops Q S T fs gs ops.size (Array.replicate ops.size false) a w.drew) : (Code.region id ops true).wp P Q a w :=
  wp_region_any hm (wpK2_any _ _ _ _ (h hS hT))
end

end Go.Proofs.YtdedomfocljhaaaGreatDoor
