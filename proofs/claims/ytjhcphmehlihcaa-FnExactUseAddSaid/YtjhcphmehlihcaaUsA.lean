/- Rows of uses that grow; the list that a map of accounts shows; the halves of a list. -/
import Derived.Test.YtjhcphmehlihcaaAccO
import Derived.Test.YtjhcphmehlihcaaNApp
import Derived.Test.YtjhcphmehlihcaaUsU1
namespace Go.Proofs.Ytjhcphmehlihcaa.RepC
open Go.RowKit RowC ValC SpanC KeptC NameC SortC Go.ChangeShapes Go.Maps
set_option linter.unusedVariables false
set_option linter.unusedSimpArgs false
set_option maxRecDepth 100000

theorem infoUse : (Try.prog.info? 68).map (fun i => (i.zero, i.size, i.bytes)) = some (some (.agg #[.int .i64 0, .int .i64 0, .string ⟨#[]⟩, .int .i64 0]), 4, 40) := by kernel_rfl
theorem infoUse2 : ∃ i, Try.prog.info? 68 = some i ∧ i.zero = some (.agg #[.int .i64 0, .int .i64 0, .string ⟨#[]⟩, .int .i64 0]) ∧ i.size = 4 ∧ i.bytes = 40 := by
  have h := infoUse
  cases hx : Try.prog.info? 68 with
  | none => rw [hx] at h; simp at h
  | some i => rw [hx] at h; simp at h; exact ⟨i, rfl, h.1, h.2.1, h.2.2⟩
/-- a row of uses of the call's own, from block lo on -/
def URow (w : World) (lo : Nat) (v : Value) (L : List D_Use) : Prop := ∃ xs hi, lo ≤ hi ∧ App R_Use w lo hi 68 v L xs (fun _ _ => False)
section
variable {w w' : World} {lo : Nat} {v : Value} {L : List D_Use}
theorem URow.none_ (w : World) : URow w w.heap.size (.slice none 0 0) [] := ⟨[], w.heap.size, Nat.le_refl _, App.none_ _ _ _ (Nat.le_refl _)⟩
theorem URow.made (w : World) : URow (w.alloc (.cells #[] 68)) w.heap.size (.slice (some ⟨w.heap.size, 0, none⟩) 0 0) [] := ⟨[], _, Nat.le_succ _, App.made _ _ _⟩
theorem URow.call (h : URow w lo v L) (hb : Below w.heap.size w w') : URow w' lo v L := by
  obtain ⟨xs, hi, h0, h1⟩ := h
  exact ⟨xs, hi, h0, h1.call R_Use_ok hb⟩
theorem URow.blk (h : URow w lo v L) {k : Nat} (hk : v.ownBlock = some k) : lo ≤ k ∧ k < w.heap.size := by
  obtain ⟨xs, hi, h0, h1⟩ := h
  exact ⟨(h1.blk k hk).1, Nat.lt_of_lt_of_le (h1.blk k hk).2 h1.le⟩
theorem URow.isSlice (h : URow w lo v L) : ∃ a cap, v = .slice a L.length cap := by
  obtain ⟨xs, hi, h0, h1⟩ := h
  exact h1.isSlice
theorem URow.app1 (h : URow w lo v L) {x0 x1 x3 : Int} {x2 : ByteArray} {g c : Nat} (hrow : Blk w g 68 #[.int .i64 x0, .int .i64 x1, .string x2, .int .i64 x3]) (hs : x2.size ≤ maxLen) (hL : L.length ≤ 1000000) :
    ∃ v' w', (Builtin.append_ #[23, 23] 23 #[v, .slice (some ⟨g, 0, none⟩) 1 c]).run Try.prog w = .ok v' w' ∧ URow w' lo v' (L ++ [((x0, x1), x2, x3)]) ∧ w.grownBy w' v.ownBlock := by
  obtain ⟨xs, hi, h0, h1⟩ := h
  obtain ⟨i, hi', hz, hsz, hby⟩ := infoUse2
  obtain ⟨v', w', xs', Sf', hr, h2, hg, _, h4⟩ := App.app2 (P := Try.prog) (x := ((x0, x1), x2, x3)) (us := [.int .i64 x0, .int .i64 x1, .string x2, .int .i64 x3]) (Sx := fun _ => False) (ty := 23) (c := c) R_Use_ok h1 Try.underlying23 hi' hz hsz hby rfl (by decide) (fun j u hj => hrow.at_ j (by simpa using hj)) (mkow_Use hs) (fun k hk => hk.elim) h0 (by unfold maxLen; omega) (by omega)
  have e : Sf' = fun _ _ => False := by funext i k; exact propext ⟨fun hk => (h4 i k hk).elim id id, fun hk => hk.elim⟩
  subst e
  exact ⟨v', w', hr, ⟨xs', _, Nat.le_trans h0 (Nat.le_trans h1.le hg.size), h2⟩, hg⟩
theorem URow.news (h : URow w' lo v L) {w : World} (hlo : w.heap.size ≤ lo) (hb : Below w.heap.size w w') : NewS R_Use L w (.returned v) w' := by
  obtain ⟨xs, hi, h0, h1⟩ := h
  obtain ⟨a, c, rfl, ho⟩ := h1.done
  exact ⟨a, c, rfl, ho.more fun k hk => ⟨Nat.le_trans hlo hk.1, Nat.lt_of_lt_of_le hk.2 h1.le⟩, hb⟩
end
/-! ### the list of a map -/
def mkU (F : AC → Option Int) (a : AC) : D_Use := (a.1, a.2, (F a).getD 0)
theorem mkU_ku (F : AC → Option Int) (a : AC) : ku (mkU F a) = a := rfl
theorem sorted_eq : ∀ (xs ys : List AC), xs.Pairwise ltA → ys.Pairwise ltA → (∀ a, a ∈ xs ↔ a ∈ ys) → xs = ys
  | [], [], _, _, _ => rfl
  | [], y :: ys, _, _, h => by have := (h y).2 (by simp); simp at this
  | x :: xs, [], _, _, h => by have := (h x).1 (by simp); simp at this
  | x :: xs, y :: ys, h1, h2, h => by
    obtain ⟨p1, p2⟩ := List.pairwise_cons.1 h1
    obtain ⟨q1, q2⟩ := List.pairwise_cons.1 h2
    have e : x = y := by
      have hx : x = y ∨ x ∈ ys := by simpa using (h x).1 (by simp)
      have hy : y = x ∨ y ∈ xs := by simpa using (h y).2 (by simp)
      rcases hx with hx | hx
      · exact hx
      · rcases hy with hy | hy
        · exact hy.symm
        · exact absurd (ltA_trans (p1 y hy) (q1 x hx)) (ltA_irrefl x)
    subst e
    rw [sorted_eq xs ys p2 q2 fun a => ⟨fun ha => ?_, fun ha => ?_⟩]
    · have h3 : a = x ∨ a ∈ ys := by simpa using (h a).1 (by simp [ha])
      rcases h3 with h3 | h3
      · exact absurd (h3 ▸ p1 a ha) (ltA_irrefl _)
      · exact h3
    · have h3 : a = x ∨ a ∈ xs := by simpa using (h a).2 (by simp [ha])
      rcases h3 with h3 | h3
      · exact absurd (h3 ▸ q1 a ha) (ltA_irrefl _)
      · exact h3
theorem FU_cons (x : D_Use) (L : List D_Use) (a : AC) : FU (x :: L) a = if ku x = a then some x.2.2 else FU L a := by
  unfold FU
  by_cases e : ku x = a
  · rw [if_pos e]
    simp only [List.find?_cons, decide_eq_true e, Option.map_some]
  · rw [if_neg e]
    simp only [List.find?_cons, decide_eq_false e]
theorem FU_some {L : List D_Use} {a : AC} : (FU L a).isSome = true ↔ a ∈ L.map ku := by
  induction L with
  | nil => simp [FU_nil]
  | cons x L ih =>
    rw [FU_cons, List.map_cons, List.mem_cons]
    by_cases e : ku x = a
    · simp [e]
    · rw [if_neg e, ih]
      exact ⟨.inr, fun h => h.elim (fun h => absurd h.symm e) id⟩
theorem FU_out {L : List D_Use} {a : AC} (h : a ∉ L.map ku) : FU L a = none := by
  cases hf : FU L a with
  | none => rfl
  | some v => exact absurd (FU_some.1 (by rw [hf]; rfl)) h
theorem FU_mem : ∀ {L : List D_Use} {x : D_Use}, (L.map ku).Pairwise ltA → x ∈ L → FU L (ku x) = some x.2.2
  | [], x, _, h => by simp at h
  | y :: L, x, hp, h => by
    rw [List.map_cons, List.pairwise_cons] at hp
    rw [FU_cons]
    rcases List.mem_cons.1 h with h | h
    · rw [h, if_pos rfl]
    · have hne : ku y ≠ ku x := fun e => ltA_irrefl (ku x) (by have := hp.1 (ku x) (List.mem_map_of_mem h); rwa [e] at this)
      rw [if_neg hne]
      exact FU_mem hp.2 h
theorem uses_eq {L : List D_Use} {F : AC → Option Int} {xs : List AC} (hs : (L.map ku).Pairwise ltA) (hw : ∀ x ∈ L, WfA (ku x)) (hF : ∀ a, WfA a → F a = FU L a) (h : AllOf F xs) (hp : xs.Pairwise ltA) : xs.map (mkU F) = L := by
  have e : xs = L.map ku := sorted_eq _ _ hp hs fun a => by
    constructor
    · intro ha
      have hwa := h.2.1 a ha
      have h1 := (h.2.2 a hwa).1 ha
      rw [hF a hwa] at h1
      exact FU_some.1 h1
    · intro ha
      obtain ⟨x, hx, rfl⟩ := List.mem_map.1 ha
      have hwa := hw x hx
      refine (h.2.2 _ hwa).2 ?_
      rw [hF _ hwa]
      exact FU_some.2 ha
  rw [e, List.map_map]
  conv => rhs; rw [← List.map_id L]
  refine List.map_congr_left fun x hx => ?_
  show mkU F (ku x) = x
  unfold mkU
  rw [hF _ (hw x hx), FU_mem hs hx]
  rfl
theorem usesR_keys {L : List D_Use} (h : UsesR L) : (L.map ku).Pairwise ltA := by
  rw [List.pairwise_iff_getElem]
  intro i j hi hj hij
  rw [List.getElem_map, List.getElem_map]
  have hi' : i < L.length := by simpa using hi
  have hj' : j < L.length := by simpa using hj
  exact usTo_lt (usesR_to h L.length) (Nat.le_refl _) (List.getElem?_eq_getElem hi') hij hj' (List.getElem?_eq_getElem hj')
theorem usesR_keyed {L : List D_Use} (h : UsesR L) : ∀ x ∈ L, WfA (ku x) ∧ (Lit.int .i64 x.2.2).wf = true ∧ 1 ≤ x.2.2 ∧ x.2.2 ≤ 100000 ∧ x.2.1.size ≤ 8000 := fun x hx => by
  obtain ⟨k, hk⟩ := List.getElem?_of_mem hx
  obtain ⟨h1, h2⟩ := usesR_wf h hk
  obtain ⟨⟨_, h4, h5⟩, _⟩ := h.2 k x hk
  have b3 := (isB_iff _ _ _).1 h5
  have b2 := h4.2.1
  exact ⟨h1, h2, b3.1, b3.2, by omega⟩
/-! ### the halves -/
def half (v : Int) : Option Int := if v / 2 = 0 then none else some (v / 2)
def halfU (x : D_Use) : Option D_Use := (half x.2.2).map fun v => (x.1, x.2.1, v)
def halfL (L : List D_Use) : List D_Use := L.filterMap halfU
theorem halfU_ku {x y : D_Use} (h : halfU x = some y) : ku y = ku x ∧ half x.2.2 = some y.2.2 := by
  unfold halfU at h
  cases hv : half x.2.2 with
  | none => rw [hv] at h; cases h
  | some v => rw [hv] at h; cases h; exact ⟨rfl, rfl⟩
theorem half_keys : ∀ {L : List D_Use} {a : AC}, a ∈ (halfL L).map ku → a ∈ L.map ku := fun {L a} h => by
  obtain ⟨y, hy, rfl⟩ := List.mem_map.1 h
  obtain ⟨x, hx, e⟩ := List.mem_filterMap.1 hy
  rw [(halfU_ku e).1]
  exact List.mem_map_of_mem hx
theorem half_sorted : ∀ {L : List D_Use}, (L.map ku).Pairwise ltA → ((halfL L).map ku).Pairwise ltA
  | [], _ => List.Pairwise.nil
  | x :: L, h => by
    rw [List.map_cons, List.pairwise_cons] at h
    have ih := half_sorted h.2
    unfold halfL at ih ⊢
    rw [List.filterMap_cons]
    cases e : halfU x with
    | none => exact ih
    | some y =>
      simp only [List.map_cons]
      refine List.pairwise_cons.2 ⟨fun a ha => ?_, ih⟩
      rw [(halfU_ku e).1]
      exact h.1 a (half_keys ha)
theorem half_FU : ∀ {L : List D_Use} (a : AC), (L.map ku).Pairwise ltA → FU (halfL L) a = (FU L a).bind half
  | [], a, _ => rfl
  | x :: L, a, h => by
    rw [List.map_cons, List.pairwise_cons] at h
    have ih := half_FU a h.2
    rw [FU_cons]
    by_cases e : ku x = a
    · rw [if_pos e]
      have hn : a ∉ L.map ku := fun ha => ltA_irrefl a (by have := h.1 a ha; rwa [e] at this)
      have hn2 : a ∉ (halfL L).map ku := fun ha => hn (half_keys ha)
      have e2 : halfL (x :: L) = (match halfU x with | some y => [y] | none => []) ++ halfL L := by
        unfold halfL
        rw [List.filterMap_cons]
        cases halfU x <;> rfl
      rw [e2]
      cases hh : halfU x with
      | none =>
        have hv : half x.2.2 = none := by
          unfold halfU at hh
          cases hv : half x.2.2 with
          | none => rfl
          | some v => rw [hv] at hh; cases hh
        simp only [List.nil_append, Option.bind_some, hv]
        exact FU_out hn2
      | some y =>
        simp only [List.singleton_append, Option.bind_some]
        rw [FU_cons, if_pos ((halfU_ku hh).1.trans e), (halfU_ku hh).2]
    · rw [if_neg e, ← ih]
      unfold halfL
      rw [List.filterMap_cons]
      cases hh : halfU x with
      | none => rfl
      | some y =>
        show FU (y :: List.filterMap halfU L) a = _
        rw [FU_cons, if_neg (fun e2 => e ((halfU_ku hh).1.symm.trans e2))]
theorem halfL_take {L : List D_Use} {k : Nat} {x : D_Use} (hx : L[k]? = some x) : halfL (L.take (k + 1)) = halfL (L.take k) ++ (match halfU x with | some y => [y] | none => []) := by
  rw [List.take_add_one, hx]
  unfold halfL
  rw [List.filterMap_append]
  show _ ++ List.filterMap halfU [x] = _
  rw [List.filterMap_cons]
  cases halfU x <;> rfl
theorem halfL_len (L : List D_Use) : (halfL L).length ≤ L.length := List.length_filterMap_le _ _
theorem half_uses {L : List D_Use} (hR : UsesR L) {F : AC → Option Int} {xs : List AC} (hF : ∀ a, WfA a → F a = (FU L a).bind half) (h : AllOf F xs) (hp : xs.Pairwise ltA) : xs.map (mkU F) = halfL L :=
  uses_eq (half_sorted (usesR_keys hR)) (fun y hy => by
    obtain ⟨x, hx, e⟩ := List.mem_filterMap.1 hy
    rw [(halfU_ku e).1]
    exact (usesR_keyed hR x hx).1) (fun a ha => (hF a ha).trans (half_FU a (usesR_keys hR)).symm) h hp
end Go.Proofs.Ytjhcphmehlihcaa.RepC
