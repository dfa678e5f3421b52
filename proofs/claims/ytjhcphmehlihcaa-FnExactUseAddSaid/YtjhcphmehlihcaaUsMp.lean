/- Accounts as keys; maps from accounts to numbers. -/
import Derived.Test.YtjhcphmehlihcaaAccS
import Derived.Maps.RangeWalk
import Derived.Maps.OwnSet
import Derived.WideKeyEntry
import Derived.DeepKeys4
import Derived.MapViews
import Derived.ChangeSame
import Derived.ChangeArms
namespace Go.Proofs.Ytjhcphmehlihcaa.RepC
open Go.RowKit RowC ValC SpanC KeptC Go.ChangeShapes Go.Maps SortC
set_option linter.unusedVariables false
set_option linter.unusedSimpArgs false
set_option maxRecDepth 100000

theorem a_laid : laidOutB Try.prog = true := by kernel_rfl
theorem a_row : (65 : TypeId) < Try.prog.types.size := of_decide_eq_true (by kernel_rfl)
theorem a_wide : (match Try.prog.underlying 65 with | some (.array _ _) | some (.struct _) => true | _ => false) = true := by rw [Try.underlying65]
theorem a_law : WideMaps.KeyLaw Try.prog 65 := deep_law_laid a_laid (m := 3) (by omega) a_row (by kernel_rfl) a_wide
theorem a_keyed : Keyed Try.prog 65 := Keyed.of_law a_law
theorem a_deep : Try.prog.keyTypeAt (Try.prog.types.size + 1) 65 = true := by kernel_rfl
theorem a_cells : Try.prog.cellsOf 65 = 3 := by kernel_rfl
theorem a_c2 : Try.prog.cellsOf 25 = 2 := by kernel_rfl
theorem a_c1 : Try.prog.cellsOf 2 = 1 := by kernel_rfl
theorem a_cs : Try.prog.cellsOf 9 = 1 := by kernel_rfl
def accV (a : AC) : Value := .agg #[.int .i64 a.1.1, .int .i64 a.1.2, .string a.2]
theorem a_formed (a : AC) : (accV a).formed Try.prog 65 = true := by simp [accV, Value.formed, Try.underlying65, a_cells]
def WfA (a : AC) : Prop := (Lit.int .i64 a.1.1).wf = true ∧ (Lit.int .i64 a.1.2).wf = true ∧ a.2.size ≤ maxLen
def KA (a : AC) : Lit := (DataW.agg [.agg [.lit (.int .i64 a.1.1), .lit (.int .i64 a.1.2)], .lit (.string a.2.data.toList)] : DataW Value).asKey
theorem str_mk {H : Type} {enc : TypeId × Value → H} {w : World} {base : Nat} {sp : Nat → Bool} {held : Bool} {t : TypeId} {s : ByteArray} (m : Nat) (ht : Try.prog.underlying t = some .string) (hs : s.size ≤ maxLen) : DataW.trod enc Try.prog w base sp held (m + 1) t [.string s] = some (.lit (.string s.data.toList), []) := by
  simp [DataW.trod, ht, hs]
theorem keyA {a : AC} (h : WfA a) : keyOf Try.prog 65 (accV a) = some (KA a) := by
  obtain ⟨h1, h2, h3⟩ := h
  have h : DataW.Trod (H := Value) (fun x => x.2) Try.prog { (default : World) with heap := #[] } 0 (fun _ => true) true 65 (accV a) (.agg [.agg [.lit (.int .i64 a.1.1), .lit (.int .i64 a.1.2)], .lit (.string a.2.data.toList)]) [] := by
    refine ⟨3, ?_⟩
    refine trod_struct2_mk (y0 := (.agg [.lit (.int .i64 a.1.1), .lit (.int .i64 a.1.2)], [])) (y1 := (.lit (.string a.2.data.toList), [])) Try.underlying65 ?_ ?_ ?_
    · rw [a_cells]; rfl
    · show DataW.trod _ Try.prog _ 0 _ true 2 25 (([Value.int .i64 a.1.1, Value.int .i64 a.1.2, Value.string a.2].drop 0).take (Try.prog.cellsOf 25)) = _
      rw [a_c2]
      refine trod_struct2_mk (y0 := (.lit (.int .i64 a.1.1), [])) (y1 := (.lit (.int .i64 a.1.2), [])) Try.underlying25 ?_ ?_ ?_
      · rw [a_c2]; rfl
      · show DataW.trod _ Try.prog _ 0 _ true 1 2 (([Value.int .i64 a.1.1, Value.int .i64 a.1.2].drop 0).take (Try.prog.cellsOf 2)) = _
        rw [a_c1]
        exact trod_int_mk 0 Try.underlying2 h1
      · show DataW.trod _ Try.prog _ 0 _ true 1 2 (([Value.int .i64 a.1.1, Value.int .i64 a.1.2].drop 1).take (Try.prog.cellsOf 2)) = _
        rw [a_c1]
        exact trod_int_mk 0 Try.underlying2 h2
    · show DataW.trod _ Try.prog _ 0 _ true 2 9 (([Value.int .i64 a.1.1, Value.int .i64 a.1.2, Value.string a.2].drop 2).take (Try.prog.cellsOf 9)) = _
      rw [a_cs]
      exact str_mk 1 Try.underlying9 h3
  exact (keyOf_asKey a_deep a_wide (a_formed a) h).1
theorem accV_inj {a b : AC} (h : accV a = accV b) : a = b := by
  simp only [accV, Value.agg.injEq] at h
  have e := congrArg Array.toList h
  simp at e
  obtain ⟨⟨a0, a1⟩, a2⟩ := a
  obtain ⟨⟨b0, b1⟩, b2⟩ := b
  simp at e
  obtain ⟨rfl, rfl, rfl⟩ := e
  rfl
theorem KA_inj {a b : AC} (h1 : WfA a) (h2 : WfA b) (h : KA a = KA b) : a = b := accV_inj (a_keyed.inj (keyA h1) (h ▸ keyA h2))
theorem KA_lit {a : AC} (h : WfA a) : WideAt.IsKeyLit (KA a) := a_keyed.key (keyA h)
theorem a_zero (w : World) : (zeroValue 2).run Try.prog w = .ok (.int .i64 0) w := by kernel_rfl
noncomputable abbrev elU : Value → Option (DataW Value × List MemPlace) := plainElem Try.prog 2
def numD (v : Int) : DataW Value := .lit (.int .i64 v)
/-- the map in block b shows F -/
structure MpU (w : World) (b n : Nat) (D : DataW Value) (F : AC → Option Int) : Prop where
  own : w.ownsMap Try.prog 65 elU b n D
  yes : ∀ a v, WfA a → F a = some v → Maps.has D (KA a) = true ∧ D.atKey (KA a) (numD 0) = numD v
  no : ∀ a, WfA a → F a = none → Maps.has D (KA a) = false
  keys : ∀ kl, Maps.has D kl = true → ∃ a v, WfA a ∧ kl = KA a ∧ F a = some v
theorem ownA_congr {w w' : World} {b n : Nat} {D : DataW Value} (h : w.ownsMap Try.prog 65 elU b n D) (hb : w'.heap[b]? = w.heap[b]?) : w'.ownsMap Try.prog 65 elU b n D := by
  obtain ⟨es, clock, h1, F, h2, h3⟩ := h
  exact ⟨es, clock, hb.trans h1, F, h2, h3⟩
section
variable {w w' : World} {b n : Nat} {D : DataW Value} {F : AC → Option Int}
theorem MpU.lt (h : MpU w b n D F) : b < w.heap.size := h.own.lt
theorem MpU.new (w : World) : MpU (w.alloc (.map #[] 0)) w.heap.size 0 (.map []) (fun _ => none) where
  own := World.ownsMap_made w _ _ _
  yes a v _ h := by cases h
  no a _ _ := by simp [Maps.has]
  keys kl h := by simp [Maps.has] at h
theorem MpU.keep (h : MpU w b n D F) (hb : w'.heap[b]? = w.heap[b]?) : MpU w' b n D F := ⟨ownA_congr h.own hb, h.yes, h.no, h.keys⟩
theorem MpU.call (h : MpU w b n D F) (hb : Below w.heap.size w w') : MpU w' b n D F := h.keep (hb.block b h.lt)
theorem MpU.ext {G : AC → Option Int} (h : MpU w b n D F) (e : ∀ a, WfA a → F a = G a) : MpU w b n D G :=
  ⟨h.own, fun a v ha hv => h.yes a v ha ((e a ha).trans hv), fun a ha hv => h.no a ha ((e a ha).trans hv), fun kl hk => by
    obtain ⟨a, v, ha, e1, e2⟩ := h.keys kl hk
    exact ⟨a, v, ha, e1, (e a ha) ▸ e2⟩⟩
theorem turned_grown {w w' : World} {b : Nat} (h : w.mapTurned w' b) : w.grownBy w' (some b) := h.grown
/-- m[a] = v -/
theorem MpU.put (h : MpU w b n D F) (hn : n < 1000000) {a : AC} (ha : WfA a) {v : Int} (hv : (Lit.int .i64 v).wf = true) :
    ∃ w', (Instr.mapUpdate 62 (.map (some b)) (accV a) (.int .i64 v)).run Try.prog w = .ok () w' ∧ MpU w' b (n + 1) (D.put (KA a) (numD v)) (fun x => if x = a then some v else F x) ∧ w.mapTurned w' b := by
  obtain ⟨w', hrun, hown, ht⟩ := h.own.store a_keyed Try.underlying62 (by unfold maxLen; omega) (keyA ha) (plainElem_int Try.underlying2 hv)
  refine ⟨w', hrun, ⟨hown, fun x u hx hu => ?_, fun x hx hu => ?_, fun kl hk => ?_⟩, ht⟩
  · by_cases e : x = a
    · subst e
      rw [if_pos rfl] at hu
      cases hu
      exact ⟨has_put_same h.own.isMap (KA_lit hx) _, atKey_put_same h.own.isMap (KA_lit hx) _ _⟩
    · rw [if_neg e] at hu
      have hne : KA x ≠ KA a := fun he => e (KA_inj hx ha he)
      rw [has_put_other hne, atKey_put_other hne]
      exact h.yes x u hx hu
  · by_cases e : x = a
    · rw [if_pos e] at hu; cases hu
    · rw [if_neg e] at hu
      rw [has_put_other fun he => e (KA_inj hx ha he)]
      exact h.no x hx hu
  · by_cases e : kl = KA a
    · exact ⟨a, v, ha, e, if_pos rfl⟩
    · rw [has_put_other e] at hk
      obtain ⟨x, u, hx, e1, e2⟩ := h.keys kl hk
      exact ⟨x, u, hx, e1, by rw [if_neg (fun he => e (by rw [e1, he]))]; exact e2⟩
theorem MpU.atKey (h : MpU w b n D F) {a : AC} (ha : WfA a) : D.atKey (KA a) (numD 0) = numD ((F a).getD 0) ∧ Maps.has D (KA a) = (F a).isSome := by
  cases hf : F a with
  | none =>
    have := h.no a ha hf
    exact ⟨atKey_of_not_has this _, this⟩
  | some v =>
    have := h.yes a v ha hf
    exact ⟨this.2, this.1⟩
/-- m[a] -/
theorem MpU.look (h : MpU w b n D F) {a : AC} (ha : WfA a) : (Instr.lookup 62 (.map (some b)) (accV a) false).run Try.prog w = .ok (.int .i64 ((F a).getD 0)) w := by
  obtain ⟨c, hrun, hat, _⟩ := h.own.lookup_int a_keyed Try.underlying62 Try.underlying2 (a_zero w) (keyA ha)
  have h1 := (h.atKey ha).1
  unfold numD at h1
  rw [hat] at h1
  injection h1 with h1
  injection h1 with _ h1
  rw [hrun, h1]
/-- v, ok := m[a] -/
theorem MpU.lookok (h : MpU w b n D F) {a : AC} (ha : WfA a) : (Instr.lookup 62 (.map (some b)) (accV a) true).run Try.prog w = .ok (.tuple #[.int .i64 ((F a).getD 0), .bool (F a).isSome]) w := by
  obtain ⟨v, ps, hrun, hv⟩ := h.own.look_ok a_keyed Try.underlying62 (a_zero w) (plainElem_int (H := Value) Try.underlying2 (q := .i64) (a := 0) (by decide)) (keyA ha)
  obtain ⟨c, rfl, hc, _⟩ := plainElem_int_inv Try.underlying2 hv
  have h1 := (h.atKey ha).1
  unfold numD at h1
  have hc1 := congrArg Prod.fst hc
  simp only at hc1
  rw [hc1] at h1
  injection h1 with h1
  injection h1 with _ h1
  rw [hrun, h1, (h.atKey ha).2]
/-- delete(m, a) -/
theorem MpU.drop (h : MpU w b n D F) {a : AC} (ha : WfA a) (ty : TypeId) :
    ∃ w', (Builtin.delete_ #[62, 65] ty #[.map (some b), accV a]).run Try.prog w = .ok (.tuple #[]) w' ∧ MpU w' b n (D.del (KA a)) (fun x => if x = a then none else F x) ∧ w.mapTurned w' b := by
  obtain ⟨w', hrun, hown, ht⟩ := h.own.drop a_keyed Try.underlying62 (keyA ha) ty
  refine ⟨w', hrun, ⟨hown, fun x u hx hu => ?_, fun x hx hu => ?_, fun kl hk => ?_⟩, ht⟩
  · by_cases e : x = a
    · rw [if_pos e] at hu; cases hu
    · rw [if_neg e] at hu
      have hne : KA x ≠ KA a := fun he => e (KA_inj hx ha he)
      rw [has_del_other hne, atKey_del_other hne]
      exact h.yes x u hx hu
  · by_cases e : x = a
    · rw [e]; exact has_del_same
    · rw [if_neg e] at hu
      rw [has_del_other fun he => e (KA_inj hx ha he)]
      exact h.no x hx hu
  · by_cases e : kl = KA a
    · rw [e, has_del_same] at hk; cases hk
    · rw [has_del_other e] at hk
      obtain ⟨x, u, hx, e1, e2⟩ := h.keys kl hk
      exact ⟨x, u, hx, e1, by rw [if_neg (fun he => e (by rw [e1, he]))]; exact e2⟩
end
/-! ### what a list of uses shows as a map -/
def ku (x : D_Use) : AC := (x.1, x.2.1)
def FU (L : List D_Use) (a : AC) : Option Int := (L.find? fun x => decide (ku x = a)).map fun x => x.2.2
theorem FU_nil (a : AC) : FU [] a = none := rfl
theorem FU_app {L : List D_Use} {x : D_Use} (h : ∀ y ∈ L, ku y ≠ ku x) (a : AC) : FU (L ++ [x]) a = if a = ku x then some x.2.2 else FU L a := by
  unfold FU
  rw [List.find?_append]
  by_cases e : a = ku x
  · subst e
    rw [if_pos rfl]
    have : L.find? (fun y => decide (ku y = ku x)) = none := List.find?_eq_none.2 fun y hy => by simpa using h y hy
    rw [this]
    simp
  · rw [if_neg e]
    have : ([x].find? fun y => decide (ku y = a)) = none := by
      have hd : decide (ku x = a) = false := decide_eq_false fun he => e he.symm
      simp only [List.find?_cons, hd, List.find?_nil]
    rw [this]
    simp
theorem FU_hit {L : List D_Use} {k : Nat} {x : D_Use} {a : AC} (h : ∀ i y, i < k → L[i]? = some y → ku y ≠ a) (hx : L[k]? = some x) (e : ku x = a) : FU L a = some x.2.2 := by
  unfold FU
  obtain ⟨hk, rfl⟩ := List.getElem?_eq_some_iff.1 hx
  have h1 : L = L.take k ++ L[k] :: L.drop (k + 1) := by
    conv => lhs; rw [← List.take_append_drop k L, List.drop_eq_getElem_cons hk]
  have h2 : (L.take k).find? (fun y => decide (ku y = a)) = none := List.find?_eq_none.2 fun y hy => by
    obtain ⟨i, hi, rfl⟩ := List.getElem_of_mem hy
    have hl := hi
    rw [List.length_take] at hl
    rw [List.getElem_take]
    simpa using h i _ (by omega) (List.getElem?_eq_getElem (by omega))
  have h3 : L.find? (fun y => decide (ku y = a)) = some L[k] := by
    conv => lhs; rw [h1]
    have hd : decide (ku L[k] = a) = true := decide_eq_true e
    rw [List.find?_append, h2]
    simp only [List.find?_cons, hd, Option.none_or]
  rw [h3]; rfl
theorem FU_miss {L : List D_Use} {a : AC} (h : ∀ i y, i < L.length → L[i]? = some y → ku y ≠ a) : FU L a = none := by
  unfold FU
  have : L.find? (fun y => decide (ku y = a)) = none := List.find?_eq_none.2 fun y hy => by
    obtain ⟨i, hi, rfl⟩ := List.getElem_of_mem hy
    simpa using h i _ hi (List.getElem?_eq_getElem hi)
  rw [this]; rfl
theorem usTo_lt {L : List D_Use} {k : Nat} (h : usTo L k) (hk : k ≤ L.length) {i : Nat} {x : D_Use} (hx : L[i]? = some x) : ∀ {j : Nat} {y : D_Use}, i < j → j < k → L[j]? = some y → ltU x y := by
  intro j
  induction j with
  | zero => intro y hij; omega
  | succ j ih =>
    intro y hij hj hy
    obtain ⟨z, hz⟩ := el_of (L := L) (k := j) (by omega)
    have h1 := (h (j + 1) y hj hy).2.1 z (by omega) hz
    by_cases e : i = j
    · subst e; rw [hx] at hz; cases hz; exact h1
    · exact ltU_trans (ih (by omega) (by omega) hz) h1
theorem ltU_ku {x y : D_Use} (h : ltU x y) : ku x ≠ ku y := fun e => ltA_irrefl (ku y) (by have : ltA (ku x) (ku y) := h; rwa [e] at this)
theorem wf64 {v : Int} (h1 : -9223372036854775808 ≤ v) (h2 : v ≤ 9223372036854775807) : (Lit.int .i64 v).wf = true := by
  have e1 : IntKind.i64.min = -9223372036854775808 := by decide
  have e2 : IntKind.i64.max = 9223372036854775807 := by decide
  show (decide (IntKind.i64.min ≤ v) && decide (v ≤ IntKind.i64.max)) = true
  rw [e1, e2]
  simp only [Bool.and_eq_true, decide_eq_true_eq]
  exact ⟨h1, h2⟩
/-- the keys of the first k and of the next are different -/
theorem usesR_new {L : List D_Use} (h : UsesR L) {k : Nat} {x : D_Use} (hx : L[k]? = some x) : ∀ y ∈ L.take k, ku y ≠ ku x := fun y hy => by
  obtain ⟨i, hi, rfl⟩ := List.getElem_of_mem hy
  have hl := hi
  rw [List.length_take] at hl
  rw [List.getElem_take]
  exact ltU_ku (usTo_lt (usesR_to h (k + 1)) (List.getElem?_eq_some_iff.1 hx).1 (List.getElem?_eq_getElem (by omega)) (by omega) (by omega) hx)
theorem usesR_wf {L : List D_Use} (h : UsesR L) {k : Nat} {x : D_Use} (hx : L[k]? = some x) : WfA (ku x) ∧ (Lit.int .i64 x.2.2).wf = true := by
  obtain ⟨⟨h1, h2, h3⟩, _⟩ := h.2 k x hx
  have b1 : 0 ≤ x.1.1 ∧ x.1.1 ≤ 3 ∧ 0 ≤ x.1.2 ∧ x.1.2 ≤ 7 := by simpa [LabC.rB_iff, LabC.rP] using h1
  have b3 := (isB_iff _ _ _).1 h3
  have b2 := h2.2.1
  exact ⟨⟨wf64 (by simp only [ku]; omega) (by simp only [ku]; omega), wf64 (by simp only [ku]; omega) (by simp only [ku]; omega), by unfold maxLen; simp only [ku]; omega⟩, wf64 (by omega) (by omega)⟩
end Go.Proofs.Ytjhcphmehlihcaa.RepC
