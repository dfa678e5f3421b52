/- Of this claim's texts the part 2: HalfG HalfR ARw Sp WiA Lab LabJoin LabBelow Clr CfP CfS Lift Opn JobO PlOpn CfM CfG CfO. -/
import Derived.OwnWalk
import Derived.Test.YtelhmacfljffhaaGreatRows
import Derived.WalkKit
import Derived.ProofKit
import Derived.Below
import Derived.LoopTactic
import Derived.BigQuiet
import Derived.Deep.QuietTactic
import Derived.Deep.RegionWith
import Derived.Deep.RegionHeld3
import Derived.Deep.DeepCutAuto
import Derived.RegionTactic
import Derived.WalkSpells
import Derived.WalkLawsBesides
import Derived.IntWalk
import Derived.Lib.Hide
import Derived.StillTailTactics
import Derived.Lib.SlicesCompact
import Derived.Sort.Statements
import Derived.OpenShut
import Derived.Carry
import Derived.ChangeOld
import Derived.Lib.SmallJoins
import Derived.Deep.Slices
import Derived.Test.YtelhmacfljffhaaGreatPN1
section
namespace Go.Proofs.YtelhmacfljffhaaGreat.RepC
open Go.RowKit RowC ValC
set_option linter.unusedVariables false
structure Half {α : Type} (E : Rp α) (B : Nat) (w : World) (lo hi : Nat) (T : TypeId) (v : Value) (L : List α) (k : Nat) (xs : List Value) (Sf : Nat → Nat → Prop) : Prop where
  own : w.ownsRow lo T E.size v L.length xs
  el : ∀ i x, i < k → L[i]? = some x → ∃ us, (∀ j c, us[j]? = some c → xs[i * E.size + j]? = some c) ∧ E.ow w (Sf i) x us
  rest : ∀ i x, k ≤ i → L[i]? = some x → ∃ us, (∀ j c, us[j]? = some c → xs[i * E.size + j]? = some c) ∧ E.rd w B x us
  sub : ∀ i q, Sf i q → lo ≤ q ∧ q < hi ∧ v.ownBlock ≠ some q ∧ i < k
  dis : ∀ i j q, i < j → Sf i q → ¬ Sf j q
  blk : ∀ q, v.ownBlock = some q → lo ≤ q ∧ q < hi
  le : hi ≤ w.heap.size
  base : B ≤ lo
  top : B ≤ w.heap.size
section
variable {α : Type} {E : Rp α} {B : Nat} {w w' w1 : World} {lo hi g n c : Nat} {T : TypeId} {v : Value} {L : List α} {k : Nat} {xs : List Value} {Sf : Nat → Nat → Prop}
theorem Half.done (h : Half E B w lo hi T v L L.length xs Sf) : App E w lo hi T v L xs Sf :=
  ⟨h.own, fun i x hx => h.el i x (List.getElem?_eq_some_iff.1 hx).1 hx, fun i q hq => ⟨(h.sub i q hq).1, (h.sub i q hq).2.1, (h.sub i q hq).2.2.1⟩, h.dis, h.blk, h.le⟩
theorem Half.mv (hE : Ok E) (h : Half E B w lo hi T v L k xs Sf) (hs : w.heap.size ≤ w'.heap.size) (hb : ∀ q, (v.ownBlock = some q ∨ ∃ i, Sf i q) → w'.heap[q]? = w.heap[q]?) (hB : Below B w w') : Half E B w' lo hi T v L k xs Sf := by
  refine ⟨?_, fun i x hi hx => ?_, fun i x hi hx => ?_, h.sub, h.dis, h.blk, Nat.le_trans h.le hs, h.base, Nat.le_trans h.top hs⟩
  · obtain ⟨h1, h2⟩ := h.own
    refine ⟨h1, ?_⟩
    rcases h2 with h2 | ⟨g, cap, cur, rfl, hlo, hg, h3⟩
    · exact .inl h2
    · exact .inr ⟨g, cap, cur, rfl, hlo, (hb g (.inl rfl)).trans hg, h3⟩
  · obtain ⟨us, h1, h2⟩ := h.el i x hi hx
    exact ⟨us, h1, hE.ow_keep h2 fun q hq => hb q (.inr ⟨i, hq⟩)⟩
  · obtain ⟨us, h1, h2⟩ := h.rest i x hi hx
    exact ⟨us, h1, hE.rd_below h2 hB⟩
theorem Half.call (hE : Ok E) (h : Half E B w lo hi T v L k xs Sf) (hb : Below w.heap.size w w') : Half E B w' lo hi T v L k xs Sf := by
  have hle := h.le
  refine h.mv hE hb.size (fun q hq => hb.block q ?_) (hb.mono h.top)
  rcases hq with hq | ⟨i, hq⟩
  · have := h.blk q hq; omega
  · have := h.sub i q hq; omega
theorem Half.at_ (h : Half E B w lo hi T (.slice (some ⟨g, 0, none⟩) n c) L k xs Sf) {i : Nat} {x : α} (hi : k ≤ i) (hx : L[i]? = some x) : ∃ us, CellsAt w g (i * E.size) us ∧ E.rd w B x us ∧ (∀ j c, us[j]? = some c → xs[i * E.size + j]? = some c) := by
  obtain ⟨us, h1, h2⟩ := h.rest i x hi hx
  refine ⟨us, fun j d hj => ?_, h2, h1⟩
  have h4 := h1 j d hj
  rcases h.own.2 with ⟨e, _⟩ | ⟨g', cap, cur, e, hlo, hg, hn, hm, hc, ht⟩
  · cases e
  · cases e
    rw [← ht] at h4
    have h5 : cur.toList[i * E.size + j]? = some d := by
      rw [List.getElem?_take] at h4
      split at h4
      · exact h4
      · cases h4
    exact (cell_of_row w _ _ cur _ _ hg).trans (by simpa using h5)
theorem Half.soft (h : Half E B w lo hi T (.slice (some ⟨g, 0, none⟩) n c) L k xs Sf) (j : Nat) : w.frozen? ⟨g, j, none⟩ = false := by
  rcases h.own.2 with ⟨e, _⟩ | ⟨g', cap, cur, e, hlo, hg, hn, hm, hc, ht⟩
  · cases e
  · cases e
    simp [World.frozen?, hg]
theorem Half.step (hE : Ok E) (h : Half E B w lo hi T (.slice (some ⟨g, 0, none⟩) n c) L k xs Sf) {x : α} (hx : L[k]? = some x) {us : List Value} (hus : ∀ j c, us[j]? = some c → xs[k * E.size + j]? = some c) {p : Nat} (hp : p < E.size) (hul : us.length = E.size) {u : Value}
    (hb : Below w.heap.size w w1) (ho : E.ow w1 (Rg w.heap.size w1.heap.size) x (us.set p u)) :
    ∃ xs' Sf', Half E B (w1.setCell ⟨g, k * E.size + p, none⟩ u) lo w1.heap.size T (.slice (some ⟨g, 0, none⟩) n c) L (k + 1) xs' Sf' ∧ (∀ i q, Sf' i q → Sf i q ∨ Rg w.heap.size w1.heap.size q) := by
  have hle := h.le
  have hbs := hb.size
  have hgb := h.blk g rfl
  have hgl : g < w.heap.size := by omega
  have hkL := (List.getElem?_eq_some_iff.1 hx).1
  have hbB := h.base
  have hsz : (w1.setCell ⟨g, k * E.size + p, none⟩ u).heap.size = w1.heap.size := by simp [World.setCell]
  have hmul : (k + 1) * E.size ≤ L.length * E.size := Nat.mul_le_mul_right _ (by omega)
  rw [Nat.add_mul, Nat.one_mul] at hmul
  have far : ∀ q, q ≠ g → (w1.setCell ⟨g, k * E.size + p, none⟩ u).heap[q]? = w1.heap[q]? := fun q hq => Below.heap_setCell _ _ _ _ hq
  have hB2 : Below B w (w1.setCell ⟨g, k * E.size + p, none⟩ u) := (hb.mono h.top).setCell (p := ⟨g, k * E.size + p, none⟩) (by show B ≤ g; omega) u
  have idx : ∀ i j, i ≠ k → j < E.size → i * E.size + j ≠ k * E.size + p := fun i j hik hj e => by
    have := mul_lt_el (i := k) (j := i) hj (Ne.symm hik)
    rw [Nat.add_mul, Nat.one_mul] at this
    omega
  refine ⟨xs.set (k * E.size + p) u, fun i q => if i = k then Rg w.heap.size w1.heap.size q else Sf i q, ⟨⟨?_, ?_⟩, fun i y hi hy => ?_, fun i y hi hy => ?_, fun i q hq => ?_, fun i j q hij hi => ?_, fun q hq => ?_, by rw [hsz]; exact Nat.le_refl _, h.base, by rw [hsz]; exact Nat.le_trans h.top hbs⟩, fun i q hq => by
    by_cases e : i = k
    · simp only [e, if_true] at hq; exact .inr hq
    · simp only [e, if_false] at hq; exact .inl hq⟩
  · rw [List.length_set]; exact h.own.1
  · rcases h.own.2 with ⟨e, _⟩ | ⟨g', cap, cur, e, hlo, hg, hn, hm, hc, ht⟩
    · cases e
    · cases e
      refine .inr ⟨g, _, cur.setIfInBounds (k * E.size + p) u, rfl, hlo, ?_, hn, hm, by rw [Array.size_setIfInBounds]; exact hc, ?_⟩
      · have h1 : w1.heap[g]? = some (.cells cur T (0, 0)) := (hb.block g hgl).trans hg
        simp [World.setCell, Array.getElem?_modify, h1]
      · rw [Array.toList_setIfInBounds, List.take_set, ht]
  · by_cases e : i = k
    · subst e
      rw [hx] at hy
      obtain rfl := Option.some.inj hy
      refine ⟨us.set p u, fun j d hj => ?_, ?_⟩
      · by_cases ej : j = p
        · subst ej
          rw [List.getElem?_set_self (by omega)] at hj
          cases hj
          rw [List.getElem?_set_self (by rw [h.own.1]; omega)]
        · rw [List.getElem?_set_ne (Ne.symm ej)] at hj
          rw [List.getElem?_set_ne (by omega)]
          exact hus j d hj
      · simp only [if_true]
        exact hE.ow_keep ho fun q hq => far q (by have := hq.1; omega)
    · obtain ⟨vs, h1, h2⟩ := h.el i y (by omega) hy
      refine ⟨vs, fun j d hj => ?_, ?_⟩
      · have hj2 : j < E.size := by rw [← hE.ow_len h2]; exact (List.getElem?_eq_some_iff.1 hj).1
        rw [List.getElem?_set_ne (fun e2 => idx i j e hj2 e2.symm)]
        exact h1 j d hj
      · simp only [e, if_false]
        exact hE.ow_keep h2 fun q hq => (far q (fun e2 => (h.sub i q hq).2.2.1 (by rw [e2]; rfl))).trans (hb.block q (by have := (h.sub i q hq).2.1; omega))
  · obtain ⟨vs, h1, h2⟩ := h.rest i y (by omega) hy
    refine ⟨vs, fun j d hj => ?_, hE.rd_below h2 hB2⟩
    have hj2 : j < E.size := by rw [← hE.rd_len h2]; exact (List.getElem?_eq_some_iff.1 hj).1
    rw [List.getElem?_set_ne (fun e2 => idx i j (by omega) hj2 e2.symm)]
    exact h1 j d hj
  · by_cases e : i = k
    · simp only [e, if_true] at hq
      have := hq.1
      have := hq.2
      refine ⟨by omega, by omega, fun e2 => ?_, by omega⟩
      have e3 : g = q := Option.some.inj e2
      omega
    · simp only [e, if_false] at hq
      have := h.sub i q hq
      exact ⟨this.1, by omega, this.2.2.1, by omega⟩
  · by_cases e1 : i = k
    · subst e1
      simp only [if_true] at hi
      simp only [show j ≠ i by omega, if_false]
      intro hj
      have h1 := (h.sub j q hj).2.1
      have h2 := hi.1
      omega
    · simp only [e1, if_false] at hi
      by_cases e2 : j = k
      · simp only [e2, if_true]
        intro hj
        have h1 := (h.sub i q hi).2.1
        have h2 := hj.1
        omega
      · simp only [e2, if_false]
        exact h.dis i j q hij hi
  · have := h.blk q hq
    omega
end
theorem row_cells {α : Type} {E : Rp α} (hE : Ok E) {w : World} {B g o : Nat} {L : List α} (hel : ∀ i x, L[i]? = some x → ∃ us, CellsAt w g (o + i * E.size) us ∧ E.rd w B x us) :
    ∃ xs : List Value, xs.length = L.length * E.size ∧ CellsAt w g o xs ∧ (∀ u ∈ xs, u.oneCell' = true) ∧ ∀ i x, L[i]? = some x → ∃ us, (∀ j c, us[j]? = some c → xs[i * E.size + j]? = some c) ∧ E.rd w B x us := by
  have key : ∀ n, n ≤ L.length → ∃ xs : List Value, xs.length = n * E.size ∧ CellsAt w g o xs ∧ (∀ u ∈ xs, u.oneCell' = true) ∧ ∀ i x, i < n → L[i]? = some x → ∃ us, (∀ j c, us[j]? = some c → xs[i * E.size + j]? = some c) ∧ E.rd w B x us := by
    intro n
    induction n with
    | zero => exact fun _ => ⟨[], by simp, CellsAt.nil, fun u hu => by simp at hu, fun i x h => absurd h (Nat.not_lt_zero _)⟩
    | succ n ih =>
      intro hn
      obtain ⟨xs, h1, h2, h3, h4⟩ := ih (by omega)
      obtain ⟨x, hx⟩ := el_some (L := L) (k := n) (by omega)
      obtain ⟨us, hu, hr⟩ := hel n x hx
      have hul := hE.rd_len hr
      refine ⟨xs ++ us, by rw [List.length_append, h1, hul, Nat.add_mul, Nat.one_mul], CellsAt.app.2 ⟨h2, by rw [h1]; exact hu⟩, fun u hu2 => ?_, fun i y hi hy => ?_⟩
      · rcases List.mem_append.1 hu2 with h | h
        · exact h3 u h
        · exact hE.one hr u h
      · by_cases e : i = n
        · subst e
          rw [hx] at hy
          obtain rfl := Option.some.inj hy
          refine ⟨us, fun j c hj => ?_, hr⟩
          rw [List.getElem?_append_right (by omega), h1, Nat.add_sub_cancel_left]
          exact hj
        · obtain ⟨vs, h5, h6⟩ := h4 i y (by omega) hy
          refine ⟨vs, fun j c hj => ?_, h6⟩
          have h7 := h5 j c hj
          rw [List.getElem?_append_left (List.getElem?_eq_some_iff.1 h7).1]
          exact h7
  obtain ⟨xs, h1, h2, h3, h4⟩ := key L.length (Nat.le_refl _)
  exact ⟨xs, h1, h2, h3, fun i x hx => h4 i x (List.getElem?_eq_some_iff.1 hx).1 hx⟩
theorem app_half {α : Type} {E : Rp α} (hE : Ok E) {P : Program} {L : List α} {a : Option Addr} {cap : Nat} {w : World} {t ty T : TypeId} {i : TypeInfo} {z : Value} {bytes : Nat} (ht : P.underlying t = some (.slice T)) (hi : P.info? T = some i) (hz : i.zero = some z) (hsize : i.size = E.size) (hby : i.bytes = bytes)
    (hzs : z.cells.size = E.size) (hpos : 0 < E.size) (hn : L.length ≤ maxLen) (hnb : L.length * bytes ≤ 140737488355328) (h : RdSl E w w.heap.size L a cap) :
    ∃ a' c' w' xs, (Builtin.append_ #[t, t] ty #[.slice (some ⟨w.heap.size, 0, none⟩) 0 0, .slice a L.length cap]).run P (w.alloc (.cells #[] T)) = .ok (.slice a' L.length c') w' ∧ Half E w.heap.size w' w.heap.size w'.heap.size T (.slice a' L.length c') L 0 xs (fun _ _ => False) ∧ Below w.heap.size w w' := by
  have hbel : Below w.heap.size w (w.alloc (.cells #[] T)) := (Below.refl _ _).alloc (Nat.le_refl _) _
  by_cases h0 : L.length = 0
  · have hL : L = [] := List.eq_nil_of_length_eq_zero h0
    subst hL
    refine ⟨_, _, _, [], app_nil ht hi _ a 0 cap, ⟨(App.made E w T).own, fun i x hi => absurd hi (Nat.not_lt_zero _), fun i x _ hx => by simp at hx, fun i q hq => hq.elim, fun i j q _ hq => hq.elim, fun q hq => ?_, Nat.le_refl _, Nat.le_refl _, hbel.size⟩, hbel⟩
    cases hq
    exact ⟨Nat.le_refl _, by simp⟩
  · obtain ⟨g, o, rfl, hg, hel⟩ := h.2.2 (by omega)
    obtain ⟨xs, h1, h2, h3, h4⟩ := row_cells hE hel
    obtain ⟨v', w', hrun, hown, hgr, hnone, hat⟩ := run_append_own_at (P := P) (w.alloc (.cells #[] T)) w.heap.size t ty T i z E.size bytes ht hi hz hsize hby hzs hpos _ 0 [] (App.made E w T).own ⟨g, o, none⟩ L.length cap xs h1
      (fun j u hj => by
        have hadd : (⟨g, o, none⟩ : Addr).add j = ⟨g, o + j, none⟩ := by unfold Addr.add; split <;> simp_all
        rw [hadd]
        exact (hbel.cell (p := ⟨g, o + j, none⟩) hg).trans (h2 j u hj)) h3 (by omega) (by simpa using hnb) (by simp)
    rw [Nat.zero_add, List.nil_append] at hown
    have hb2 : Below w.heap.size w w' := hbel.trans (by
      refine ⟨hgr.os, hgr.tape, hgr.output, hgr.size, fun k hk => hgr.block k (by simp; omega) (fun e => by cases e; exact Nat.lt_irrefl _ hk)⟩)
    rcases hown.2 with ⟨hn0, hL0⟩ | ⟨g', cap', cur, rfl, hlo, hgg, hnc, hm, hc, htk⟩
    · omega
    · have hgl : g' < w'.heap.size := (Array.getElem?_eq_some_iff.1 hgg).1
      refine ⟨_, cap', w', xs, hrun, ⟨hown, fun i x hi => absurd hi (Nat.not_lt_zero _), fun i x _ hx => ?_, fun i q hq => hq.elim, fun i j q _ hq => hq.elim, fun q hq => ?_, Nat.le_refl _, Nat.le_refl _, hb2.size⟩, hb2⟩
      · obtain ⟨us, h5, h6⟩ := h4 i x hx
        exact ⟨us, h5, hE.rd_below h6 hb2⟩
      · cases hq
        exact ⟨hlo, hgl⟩
end Go.Proofs.YtelhmacfljffhaaGreat.RepC
end
section
namespace Go.Proofs.YtelhmacfljffhaaGreat.RepC
open Go.RowKit RowC ValC
set_option linter.unusedVariables false
set_option linter.unusedSimpArgs false
def HalfR {α : Type} (E : Rp α) (T : TypeId) (L : List α) (w : World) (e : Ending) (w' : World) : Prop := ∃ a cap xs, e = .returned (.slice a L.length cap) ∧ Half E w.heap.size w' w.heap.size w'.heap.size T (.slice a L.length cap) L 0 xs (fun _ _ => False) ∧ Below w.heap.size w w'
theorem halfR_elim {α : Type} {E : Rp α} {T : TypeId} {L : List α} {w : World} {e : Ending} {w' : World} (h : HalfR E T L w e w') : ∃ a cap xs, e = .returned (.slice a L.length cap) ∧ Half E w.heap.size w' w.heap.size w'.heap.size T (.slice a L.length cap) L 0 xs (fun _ _ => False) ∧ Below w.heap.size w w' := h
theorem half_nil {α : Type} (E : Rp α) (T : TypeId) (w : World) : Half E w.heap.size w w.heap.size w.heap.size T (.slice none 0 0) ([] : List α) 0 [] (fun _ _ => False) :=
  ⟨⟨by simp, .inl ⟨rfl, rfl⟩⟩, fun i x hi => absurd hi (Nat.not_lt_zero _), fun i x _ hx => by simp at hx, fun i q hq => hq.elim, fun i j q _ hq => hq.elim, fun q hq => (by cases hq), Nat.le_refl _, Nat.le_refl _, Nat.le_refl _⟩
end Go.Proofs.YtelhmacfljffhaaGreat.RepC
end
section
namespace Go.Proofs.YtelhmacfljffhaaGreat.RepC
open Go.RowKit RowC ValC
set_option linter.unusedVariables false
set_option linter.unusedSimpArgs false
set_option maxRecDepth 100000
theorem infoOf {t : TypeId} {z : Value} {n b : Nat} (h : (Tryz.prog.info? t).map (fun i => (i.zero, i.size, i.bytes)) = some (some z, n, b)) : ∃ i, Tryz.prog.info? t = some i ∧ i.zero = some z ∧ i.size = n ∧ i.bytes = b := by
  cases hx : Tryz.prog.info? t with
  | none => rw [hx] at h; simp at h
  | some i => rw [hx] at h; simp at h; exact ⟨i, rfl, h.1, h.2.1, h.2.2⟩
def AppS {α : Type} (E : Rp α) (w : World) (base top : Nat) (T : TypeId) (v : Value) (L : List α) (S : Nat → Prop) : Prop :=
  ∃ lo hi xs Sf, base ≤ lo ∧ lo ≤ hi ∧ hi ≤ top ∧ App E w lo hi T v L xs Sf ∧ ∀ k, S k ↔ (v.ownBlock = some k ∨ ∃ i, Sf i k)
section
variable {α : Type} {E : Rp α} {w w' : World} {base top : Nat} {T : TypeId} {v : Value} {L : List α} {S : Nat → Prop}
theorem AppS.none_ (E : Rp α) (w : World) (T : TypeId) : AppS E w w.heap.size w.heap.size T (.slice none 0 0) [] (fun _ => False) :=
  ⟨_, _, _, _, Nat.le_refl _, Nat.le_refl _, Nat.le_refl _, App.none_ E w T (Nat.le_refl _), fun k => ⟨fun h => h.elim, fun h => h.elim (fun h => by cases h) fun ⟨_, h⟩ => h⟩⟩
theorem AppS.bnd (h : AppS E w base top T v L S) {k : Nat} (hk : S k) : base ≤ k ∧ k < top := by
  obtain ⟨lo, hi, xs, Sf, h1, h2, h3, hA, hS⟩ := h
  rcases (hS k).1 hk with h | ⟨i, h⟩
  · have := hA.blk k h; omega
  · have := hA.sub i k h; omega
theorem AppS.isSlice (h : AppS E w base top T v L S) : ∃ a c, v = .slice a L.length c := by
  obtain ⟨lo, hi, xs, Sf, h1, h2, h3, hA, hS⟩ := h
  exact hA.isSlice
theorem AppS.mv (hE : Ok E) (h : AppS E w base top T v L S) (hs : w.heap.size ≤ w'.heap.size) (hb : ∀ k, S k → w'.heap[k]? = w.heap[k]?) : AppS E w' base top T v L S := by
  obtain ⟨lo, hi, xs, Sf, h1, h2, h3, hA, hS⟩ := h
  exact ⟨lo, hi, xs, Sf, h1, h2, h3, hA.mv2 hE hs (fun k hk => hb k ((hS k).2 (.inl hk))) (fun i k hk => hb k ((hS k).2 (.inr ⟨i, hk⟩))), hS⟩
theorem AppS.call (hE : Ok E) (h : AppS E w base top T v L S) (ht : top ≤ w.heap.size) (hb : Below w.heap.size w w') : AppS E w' base top T v L S :=
  h.mv hE hb.size fun k hk => hb.block k (Nat.lt_of_lt_of_le (h.bnd hk).2 ht)
theorem AppS.rise {top' : Nat} (h : AppS E w base top T v L S) (ht : top ≤ top') : AppS E w base top' T v L S := by
  obtain ⟨lo, hi, xs, Sf, h1, h2, h3, hA, hS⟩ := h
  exact ⟨lo, hi, xs, Sf, h1, h2, Nat.le_trans h3 ht, hA, hS⟩
theorem AppS.done (hE : Ok E) (h : AppS E w base top T v L S) : ∃ a c, v = .slice a L.length c ∧ OwSl E w (Rg base top) L a c := by
  obtain ⟨lo, hi, xs, Sf, h1, h2, h3, hA, hS⟩ := h
  obtain ⟨a, c, rfl, hO⟩ := hA.done
  exact ⟨a, c, rfl, hO.more (fun k hk => ⟨Nat.le_trans h1 hk.1, Nat.lt_of_lt_of_le hk.2 h3⟩)⟩
theorem AppS.app {P : Program} (hE : Ok E) (h : AppS E w base top T v L S) {t ty : TypeId} {i : TypeInfo} {z : Value} {bytes : Nat} (ht : P.underlying t = some (.slice T)) (hi' : P.info? T = some i) (hz : i.zero = some z) (hsize : i.size = E.size) (hby : i.bytes = bytes) (hzs : z.cells.size = E.size) (hpos : 0 < E.size)
    {x : α} {us : List Value} {Sx : Nat → Prop} {blk c : Nat} (hrow : ∀ j u, us[j]? = some u → w.cell? ⟨blk, j, none⟩ = some u) (hx : E.ow w Sx x us) (hS : ∀ k, Sx k → top ≤ k ∧ k < w.heap.size) (htop : top ≤ w.heap.size) (hL : L.length + 1 ≤ maxLen) (hLb : (L.length + 1) * bytes ≤ 140737488355328) :
    ∃ v' w' S', (Builtin.append_ #[t, t] ty #[v, .slice (some ⟨blk, 0, none⟩) 1 c]).run P w = .ok v' w' ∧ AppS E w' base w'.heap.size T v' (L ++ [x]) S' ∧ w.grownBy w' v.ownBlock ∧ (∀ k, v.ownBlock = some k → S k) ∧ ∀ k, S' k → S k ∨ top ≤ k := by
  obtain ⟨lo, hi, xs, Sf, h1, h2, h3, hA, hSS⟩ := h
  obtain ⟨v', w', xs', Sf', hrun, hA', hg, hown, hsub⟩ := hA.app2 (ty := ty) (c := c) hE ht hi' hz hsize hby hzs hpos hrow hx (fun k hk => ⟨by have := hS k hk; omega, (hS k hk).2⟩) h2 hL hLb
  refine ⟨v', w', fun k => v'.ownBlock = some k ∨ ∃ i, Sf' i k, hrun, ⟨lo, w'.heap.size, xs', Sf', h1, ?_, Nat.le_refl _, hA', fun k => Iff.rfl⟩, hg, fun k hk => (hSS k).2 (.inl hk), fun k hk => ?_⟩
  · have := hg.size; omega
  · rcases hk with hk | ⟨i, hk⟩
    · rcases hown k hk with h | h
      · exact .inl ((hSS k).2 (.inl h))
      · exact .inr (by omega)
    · rcases hsub i k hk with h | h
      · exact .inl ((hSS k).2 (.inr ⟨i, h⟩))
      · exact .inr (hS k h).1
end
def ARow {α : Type} (E : Rp α) (w : World) (lo : Nat) (T : TypeId) (v : Value) (L : List α) : Prop := ∃ S, AppS E w lo w.heap.size T v L S
section
variable {α : Type} {E : Rp α} {w w' : World} {lo : Nat} {T : TypeId} {v : Value} {L : List α}
theorem ARow.none_ (E : Rp α) (w : World) (T : TypeId) : ARow E w w.heap.size T (.slice none 0 0) [] := ⟨_, AppS.none_ E w T⟩
theorem ARow.made (E : Rp α) (w : World) (T : TypeId) : ARow E (w.alloc (.cells #[] T)) w.heap.size T (.slice (some ⟨w.heap.size, 0, none⟩) 0 0) [] :=
  ⟨_, _, _, _, _, Nat.le_refl _, Nat.le_succ _, by simp, App.made E w T, fun k => Iff.rfl⟩
theorem ARow.call (hE : Ok E) (h : ARow E w lo T v L) (hb : Below w.heap.size w w') : ARow E w' lo T v L := by
  obtain ⟨S, h⟩ := h
  exact ⟨S, (h.call hE (Nat.le_refl _) hb).rise hb.size⟩
theorem ARow.isSlice (h : ARow E w lo T v L) : ∃ a c, v = .slice a L.length c := by obtain ⟨S, h⟩ := h; exact h.isSlice
theorem ARow.base (h : ARow E w lo T v L) : lo ≤ w.heap.size := by
  obtain ⟨S, a, b, xs, Sf, h1, h2, h3, _⟩ := h
  omega
theorem ARow.app {P : Program} (hE : Ok E) (h : ARow E w lo T v L) (hb : Below w.heap.size w w') {t ty : TypeId} {i : TypeInfo} {z : Value} {bytes : Nat} (ht : P.underlying t = some (.slice T)) (hi' : P.info? T = some i) (hz : i.zero = some z) (hsize : i.size = E.size) (hby : i.bytes = bytes) (hzs : z.cells.size = E.size) (hpos : 0 < E.size)
    {x : α} {us : List Value} {blk c : Nat} (hrow : ∀ j u, us[j]? = some u → w'.cell? ⟨blk, j, none⟩ = some u) (hx : E.ow w' (Rg w.heap.size w'.heap.size) x us) (hL : L.length + 1 ≤ maxLen) (hLb : (L.length + 1) * bytes ≤ 140737488355328) :
    ∃ a' c' w2, (Builtin.append_ #[t, t] ty #[v, .slice (some ⟨blk, 0, none⟩) 1 c]).run P w' = .ok (.slice a' (L ++ [x]).length c') w2 ∧ ARow E w2 lo T (.slice a' (L ++ [x]).length c') (L ++ [x]) ∧ Below lo w' w2 := by
  obtain ⟨S, h⟩ := h
  have h' := h.call hE (Nat.le_refl _) hb
  obtain ⟨v', w2, S', hrun, hA, hg, ho, _⟩ := h'.app (ty := ty) (c := c) hE ht hi' hz hsize hby hzs hpos hrow hx (fun k hk => hk) hb.size hL hLb
  have hA2 : ARow E w2 lo T v' (L ++ [x]) := ⟨S', hA⟩
  obtain ⟨a', c', rfl⟩ := hA2.isSlice
  have hlo := ARow.base (show ARow E w lo T v L from ⟨S, h⟩)
  exact ⟨a', c', w2, hrun, hA2, below_own hg (fun k hk => (h.bnd (ho k hk)).1) (Nat.le_trans hlo hb.size)⟩
theorem ARow.news (hE : Ok E) {W : World} (h : ARow E w lo T v L) (hlo : W.heap.size ≤ lo) (hb : Below W.heap.size W w) : NewS E L W (.returned v) w := by
  obtain ⟨S, h⟩ := h
  obtain ⟨a, c, rfl, ho⟩ := h.done hE
  exact ⟨a, c, rfl, ho.more fun k hk => ⟨Nat.le_trans hlo hk.1, hk.2⟩, hb⟩
end
end Go.Proofs.YtelhmacfljffhaaGreat.RepC
end
section
namespace Go.Proofs.YtelhmacfljffhaaGreat.SpanC
open Go.RowKit KeptC
def isB (n lo hi : Int) : Bool := decide (lo ≤ n) && decide (n ≤ hi)
theorem isB_iff (n lo hi : Int) : isB n lo hi = true ↔ lo ≤ n ∧ n ≤ hi := by simp [isB]
theorem is_spec (n lo hi : Int) (w : World) :
    Calls Tryz.prog 67 #[.int .i64 n, .int .i64 lo, .int .i64 hi] w fun e w' => e = .returned (.bool (isB n lo hi)) ∧ w = w' := by
  by_cases h1 : lo ≤ n
  · by_cases h2 : n ≤ hi
    · have hb : isB n lo hi = true := by simp [isB, h1, h2]
      rw [hb]; clear hb
      go_enter Tryz.func67, Tryz.ntmps67
      go_wp2
      go_ret
      exact ⟨rfl, rfl⟩
    · have hb : isB n lo hi = false := by simp [isB, h1, h2]
      rw [hb]; clear hb
      have h2' : decide (n ≤ hi) = false := by simpa using h2
      go_enter Tryz.func67, Tryz.ntmps67
      go_wp2
      go_ret
      exact ⟨rfl, rfl⟩
  · have hb : isB n lo hi = false := by simp [isB, h1]
    rw [hb]; clear hb
    have h1' : decide (lo ≤ n) = false := by simpa using h1
    go_enter Tryz.func67, Tryz.ntmps67
    go_wp2
    go_ret
    exact ⟨rfl, rfl⟩
theorem is_impl (n lo hi : Int) (w : World) :
    Calls Tryz.prog 90 #[.int .i64 n, .int .i64 lo, .int .i64 hi] w fun e w' => e = .returned (.bool (isB n lo hi)) ∧ w = w' := by
  by_cases h1 : lo ≤ n
  · by_cases h2 : n ≤ hi
    · have hb : isB n lo hi = true := by simp [isB, h1, h2]
      rw [hb]; clear hb
      go_enter Tryz.func90, Tryz.ntmps90
      go_wp2
      go_ret
      exact ⟨rfl, rfl⟩
    · have hb : isB n lo hi = false := by simp [isB, h1, h2]
      rw [hb]; clear hb
      have h2' : decide (n ≤ hi) = false := by simpa using h2
      go_enter Tryz.func90, Tryz.ntmps90
      go_wp2
      go_ret
      exact ⟨rfl, rfl⟩
  · have hb : isB n lo hi = false := by simp [isB, h1]
    rw [hb]; clear hb
    have h1' : decide (lo ≤ n) = false := by simpa using h1
    go_enter Tryz.func90, Tryz.ntmps90
    go_wp2
    go_ret
    exact ⟨rfl, rfl⟩
theorem time_spec (n : Int) (w : World) :
    Calls Tryz.prog 134 #[.int .i64 n] w fun e w' => e = .returned (.bool (isB n 0 1000000)) ∧ w = w' := by
  go_enter Tryz.func134, Tryz.ntmps134
  go_wp2_with (go_at_call 67; refine (is_spec _ _ _ _).mono ?_; rintro e w' ⟨rfl, rfl⟩)
  go_ret
  exact ⟨rfl, rfl⟩
theorem time_impl (n : Int) (w : World) :
    Calls Tryz.prog 183 #[.int .i64 n] w fun e w' => e = .returned (.bool (isB n 0 1000000)) ∧ w = w' := by
  go_enter Tryz.func183, Tryz.ntmps183
  go_wp2_with (go_at_call 90; refine (is_impl _ _ _ _).mono ?_; rintro e w' ⟨rfl, rfl⟩)
  go_ret
  exact ⟨rfl, rfl⟩
def spB (a b : Int) : Bool := isB a 0 1000000 && (decide (a < b) && decide (b ≤ 1000000))
theorem right_spec (a b : Int) (w : World) :
    Calls Tryz.prog 132 #[.agg #[.int .i64 a, .int .i64 b]] w fun e w' => e = .returned (.bool (spB a b)) ∧ Below w.heap.size w w' := by
  have hB : Below w.heap.size w (w.alloc (.cells #[.int .i64 a, .int .i64 b] 172)) := (Below.refl _ _).alloc (Nat.le_refl _) _
  have HB := Lib.hid hB
  clear hB
  cases h1 : isB a 0 1000000 with
  | true =>
    by_cases h2 : a < b
    · by_cases h3 : b ≤ 1000000
      · have hb : spB a b = true := by simp [spB, h1, h2, h3]
        rw [hb]; clear hb
        have hc := fun W => time_spec a W
        rw [h1] at hc
        clear h1
        go_enter Tryz.func132, Tryz.ntmps132
        go_wp2_with (go_at_call 134; refine (hc _).mono ?_; rintro e w' ⟨rfl, rfl⟩)
        go_ret
        exact ⟨rfl, HB.out⟩
      · have hb : spB a b = false := by simp [spB, h3]
        rw [hb]; clear hb
        have h3' : decide (b ≤ 1000000) = false := by simpa using h3
        have hc := fun W => time_spec a W
        rw [h1] at hc
        clear h1
        go_enter Tryz.func132, Tryz.ntmps132
        go_wp2_with (go_at_call 134; refine (hc _).mono ?_; rintro e w' ⟨rfl, rfl⟩)
        go_ret
        exact ⟨rfl, HB.out⟩
    · have hb : spB a b = false := by simp [spB, h2]
      rw [hb]; clear hb
      have h2' : decide (a < b) = false := by simpa using h2
      have hc := fun W => time_spec a W
      rw [h1] at hc
      clear h1
      go_enter Tryz.func132, Tryz.ntmps132
      go_wp2_with (go_at_call 134; refine (hc _).mono ?_; rintro e w' ⟨rfl, rfl⟩)
      go_ret
      exact ⟨rfl, HB.out⟩
  | false =>
    have hb : spB a b = false := by simp [spB, h1]
    rw [hb]; clear hb
    have hc := fun W => time_spec a W
    rw [h1] at hc
    clear h1
    go_enter Tryz.func132, Tryz.ntmps132
    go_wp2_with (go_at_call 134; refine (hc _).mono ?_; rintro e w' ⟨rfl, rfl⟩)
    go_ret
    exact ⟨rfl, HB.out⟩
theorem right_impl (a b : Int) (w : World) :
    Calls Tryz.prog 146 #[.agg #[.int .i64 a, .int .i64 b]] w fun e w' => e = .returned (.bool (spB a b)) ∧ Below w.heap.size w w' := by
  have hB : Below w.heap.size w (w.alloc (.cells #[.int .i64 a, .int .i64 b] 172)) := (Below.refl _ _).alloc (Nat.le_refl _) _
  have HB := Lib.hid hB
  clear hB
  cases h1 : isB a 0 1000000 with
  | true =>
    by_cases h2 : a < b
    · by_cases h3 : b ≤ 1000000
      · have hb : spB a b = true := by simp [spB, h1, h2, h3]
        rw [hb]; clear hb
        have hc := fun W => time_impl a W
        rw [h1] at hc
        clear h1
        go_enter Tryz.func146, Tryz.ntmps146
        go_wp2_with (go_at_call 183; refine (hc _).mono ?_; rintro e w' ⟨rfl, rfl⟩)
        go_ret
        exact ⟨rfl, HB.out⟩
      · have hb : spB a b = false := by simp [spB, h3]
        rw [hb]; clear hb
        have h3' : decide (b ≤ 1000000) = false := by simpa using h3
        have hc := fun W => time_impl a W
        rw [h1] at hc
        clear h1
        go_enter Tryz.func146, Tryz.ntmps146
        go_wp2_with (go_at_call 183; refine (hc _).mono ?_; rintro e w' ⟨rfl, rfl⟩)
        go_ret
        exact ⟨rfl, HB.out⟩
    · have hb : spB a b = false := by simp [spB, h2]
      rw [hb]; clear hb
      have h2' : decide (a < b) = false := by simpa using h2
      have hc := fun W => time_impl a W
      rw [h1] at hc
      clear h1
      go_enter Tryz.func146, Tryz.ntmps146
      go_wp2_with (go_at_call 183; refine (hc _).mono ?_; rintro e w' ⟨rfl, rfl⟩)
      go_ret
      exact ⟨rfl, HB.out⟩
  | false =>
    have hb : spB a b = false := by simp [spB, h1]
    rw [hb]; clear hb
    have hc := fun W => time_impl a W
    rw [h1] at hc
    clear h1
    go_enter Tryz.func146, Tryz.ntmps146
    go_wp2_with (go_at_call 183; refine (hc _).mono ?_; rintro e w' ⟨rfl, rfl⟩)
    go_ret
    exact ⟨rfl, HB.out⟩
end Go.Proofs.YtelhmacfljffhaaGreat.SpanC
end
section
namespace Go.Proofs.YtelhmacfljffhaaGreat.RepC
open Go.RowKit RowC ValC SpanC KeptC
set_option linter.unusedVariables false
set_option linter.unusedSimpArgs false
theorem wi_at (n lo hi : Int) {b : Bool} (hb : isB n lo hi = b) (w : World) :
    Calls Tryz.prog 90 #[.int .i64 n, .int .i64 lo, .int .i64 hi] w fun e w' => e = .returned (.bool b) ∧ w = w' := by
  subst hb
  exact is_impl n lo hi w
theorem isB_io {n lo hi : Int} : isB n lo hi = true ↔ lo ≤ n ∧ n ≤ hi := isB_iff n lo hi
end Go.Proofs.YtelhmacfljffhaaGreat.RepC
end
section
namespace Go.Proofs.YtelhmacfljffhaaGreat.LabC
open Go.RowKit
def rP (l s : Int) : Prop := 0 ≤ l ∧ l ≤ 3 ∧ 0 ≤ s ∧ s ≤ 7
def rB (l s : Int) : Bool := decide (0 ≤ l) && (decide (l ≤ 3) && (decide (0 ≤ s) && decide (s ≤ 7)))
theorem rB_iff (l s : Int) : rB l s = true ↔ rP l s := by unfold rB rP; simp
def isB (n lo hi : Int) : Bool := decide (lo ≤ n) && decide (n ≤ hi)
def lab (l s : Int) : Value := .agg #[.int .i64 l, .int .i64 s]
theorem is_any (n lo hi : Int) (w : World) :
    Calls Tryz.prog 67 #[.int .i64 n, .int .i64 lo, .int .i64 hi] w fun e w' => e = .returned (.bool (isB n lo hi)) ∧ w = w' := by
  by_cases h1 : lo ≤ n
  · by_cases h2 : n ≤ hi
    · have hb : isB n lo hi = true := by simp [isB, h1, h2]
      rw [hb]; clear hb
      go_enter Tryz.func67, Tryz.ntmps67
      go_wp2
      go_ret
      exact ⟨rfl, rfl⟩
    · have hb : isB n lo hi = false := by simp [isB, h1, h2]
      rw [hb]; clear hb
      have h2' : decide (n ≤ hi) = false := by simpa using h2
      go_enter Tryz.func67, Tryz.ntmps67
      go_wp2
      go_ret
      exact ⟨rfl, rfl⟩
  · have hb : isB n lo hi = false := by simp [isB, h1]
    rw [hb]; clear hb
    have h1' : decide (lo ≤ n) = false := by simpa using h1
    go_enter Tryz.func67, Tryz.ntmps67
    go_wp2
    go_ret
    exact ⟨rfl, rfl⟩
def labO (l s : Int) : Obj := .cells #[.int .i64 l, .int .i64 s] 67
theorem right_spec (l s : Int) (w : World) :
    Calls Tryz.prog 76 #[lab l s] w fun e w' => e = .returned (.bool (rB l s)) ∧ w.alloc (labO l s) = w' := by
  unfold lab
  by_cases h1 : isB l 0 3 = true
  · have hb : rB l s = isB s 0 7 := by simp [isB] at h1; simp [rB, isB, h1]
    rw [hb]; clear hb
    go_enter Tryz.func76, Tryz.ntmps76
    go_wp2_with (go_at_call 67; refine (is_any _ _ _ _).mono ?_; rintro e w' ⟨rfl, rfl⟩)
    go_ret
    exact ⟨rfl, rfl⟩
  · have h1' : isB l 0 3 = false := by simpa using h1
    have hb : rB l s = false := by
      simp [isB] at h1; simp [rB]; omega
    rw [hb]; clear hb h1
    go_enter Tryz.func76, Tryz.ntmps76
    go_wp2_with (go_at_call 67; refine (is_any _ _ _ _).mono ?_; rintro e w' ⟨rfl, rfl⟩)
    go_ret
    exact ⟨rfl, rfl⟩
theorem le_f {a b : Int} (h : ¬ a ≤ b) : decide (a ≤ b) = false := by simpa using h
theorem right_impl (l s : Int) (w : World) :
    Calls Tryz.prog 96 #[lab l s] w fun e w' => e = .returned (.bool (rB l s)) ∧ w.alloc (labO l s) = w' := by
  unfold lab
  by_cases h1 : 0 ≤ l
  · by_cases h2 : l ≤ 3
    · by_cases h3 : 0 ≤ s
      · by_cases h4 : s ≤ 7
        · have hb : rB l s = true := by rw [rB_iff]; exact ⟨h1, h2, h3, h4⟩
          rw [hb]; clear hb
          go_enter Tryz.func96, Tryz.ntmps96
          go_wp2
          go_ret
          exact ⟨rfl, rfl⟩
        · have hb : rB l s = false := by simp [rB]; omega
          rw [hb]; clear hb
          have g := le_f h4
          go_enter Tryz.func96, Tryz.ntmps96
          go_wp2
          go_ret
          exact ⟨rfl, rfl⟩
      · have hb : rB l s = false := by simp [rB]; omega
        rw [hb]; clear hb
        have g := le_f h3
        go_enter Tryz.func96, Tryz.ntmps96
        go_wp2
        go_ret
        exact ⟨rfl, rfl⟩
    · have hb : rB l s = false := by simp [rB]; omega
      rw [hb]; clear hb
      have g := le_f h2
      go_enter Tryz.func96, Tryz.ntmps96
      go_wp2
      go_ret
      exact ⟨rfl, rfl⟩
  · have hb : rB l s = false := by simp [rB]; omega
    rw [hb]; clear hb
    have g := le_f h1
    go_enter Tryz.func96, Tryz.ntmps96
    go_wp2
    go_ret
    exact ⟨rfl, rfl⟩
def minV (a b : Int) : Int := if a < b then a else b
def bB (l s m t : Int) : Bool := decide (l ≤ m) && (bits BinOp.and IntKind.i64 s t == s)
theorem below2_spec (l s m t : Int) (w : World) :
    Calls Tryz.prog 131 #[lab l s, lab m t] w fun e w' => e = .returned (.bool (bB l s m t)) ∧ (w.alloc (labO l s)).alloc (labO m t) = w' := by
  unfold lab
  by_cases h : l ≤ m
  · have hb : bB l s m t = (bits BinOp.and IntKind.i64 s t == s) := by simp [bB, h]
    rw [hb]; clear hb
    go_enter Tryz.func131, Tryz.ntmps131
    go_wp2
    go_ret
    exact ⟨rfl, rfl⟩
  · have hb : bB l s m t = false := by simp [bB, h]
    rw [hb]; clear hb
    have g := le_f h
    go_enter Tryz.func131, Tryz.ntmps131
    go_wp2
    go_ret
    exact ⟨rfl, rfl⟩
def meetV (l s m t : Int) : Value := if rB l s = true ∧ rB m t = true then lab (minV l m) (bits BinOp.and IntKind.i64 s t) else lab 0 0
theorem min_lt {a b : Int} (h : a < b) : a = minV a b := by unfold minV; split <;> omega
theorem min_ge {a b : Int} (h : b ≤ a) : b = minV a b := by unfold minV; split <;> omega
end Go.Proofs.YtelhmacfljffhaaGreat.LabC
end
section
namespace Go.Proofs.YtelhmacfljffhaaGreat.LabC
open Go.RowKit
theorem meet_yes {l s m t : Int} (h1 : rB l s = true) (h2 : rB m t = true) : meetV l s m t = lab (minV l m) (bits BinOp.and IntKind.i64 s t) := by unfold meetV; rw [if_pos ⟨h1, h2⟩]
theorem meet_no1 {l s m t : Int} (h1 : rB l s = false) : meetV l s m t = .agg #[.int .i64 0, .int .i64 0] := by unfold meetV; rw [if_neg (by simp [h1])]; rfl
theorem meet_no2 {l s m t : Int} (h1 : rB m t = false) : meetV l s m t = .agg #[.int .i64 0, .int .i64 0] := by unfold meetV; rw [if_neg (by simp [h1])]; rfl
set_option maxRecDepth 100000 in
set_option maxHeartbeats 1600000 in
theorem meet_impl (l s m t : Int) (w : World) :
    Calls Tryz.prog 180 #[lab l s, lab m t] w fun e w' => e = .returned (meetV l s m t) ∧ Below w.heap.size w w' := by
  by_cases h1 : rB l s = true
  · by_cases h2 : rB m t = true
    · rw [meet_yes h1 h2]
      unfold lab
      go_enter Tryz.func180, Tryz.ntmps180
      go_wp2_with (go_at_call 96; refine (right_impl _ _ _).mono ?_; unfold labO; rintro e w1 ⟨rfl, rfl⟩)
      all_goals
        refine bodyPost_ret (v := .agg #[.int .i64 (minV l m), .int .i64 (bits BinOp.and IntKind.i64 s t)]) (by simp [results, Tryz.results180, go_sem]; first | exact min_lt ‹_› | exact min_ge ‹_› | (unfold minV; split <;> omega)) rfl ⟨rfl, ?_⟩
        repeat (first | exact Below.refl _ _ | refine Below.setCell ?_ (by simp <;> omega) _ | refine Below.drew ?_ | refine Below.alloc ?_ (by simp <;> omega) _)
    · have h2' : rB m t = false := by simpa using h2
      rw [meet_no2 h2']
      clear h2
      unfold lab
      go_enter Tryz.func180, Tryz.ntmps180
      go_wp2_with (go_at_call 96; refine (right_impl _ _ _).mono ?_; unfold labO; rintro e w1 ⟨rfl, rfl⟩)
      refine bodyPost_ret (v := .agg #[.int .i64 0, .int .i64 0]) (by simp [results, Tryz.results180, go_sem]) rfl ⟨rfl, ?_⟩
      repeat (first | exact Below.refl _ _ | refine Below.setCell ?_ (by simp <;> omega) _ | refine Below.drew ?_ | refine Below.alloc ?_ (by simp <;> omega) _)
  · have h1' : rB l s = false := by simpa using h1
    rw [meet_no1 h1']
    clear h1
    unfold lab
    go_enter Tryz.func180, Tryz.ntmps180
    go_wp2_with (go_at_call 96; refine (right_impl _ _ _).mono ?_; unfold labO; rintro e w1 ⟨rfl, rfl⟩)
    refine bodyPost_ret (v := .agg #[.int .i64 0, .int .i64 0]) (by simp [results, Tryz.results180, go_sem]) rfl ⟨rfl, ?_⟩
    repeat (first | exact Below.refl _ _ | refine Below.setCell ?_ (by simp <;> omega) _ | refine Below.drew ?_ | refine Below.alloc ?_ (by simp <;> omega) _)
end Go.Proofs.YtelhmacfljffhaaGreat.LabC
end
section
namespace Go.Proofs.YtelhmacfljffhaaGreat.LabC
open Go.RowKit KeptC
theorem inits (w : World) (l s m t : Int) (k k' : TypeId) : KS w (w.heap.size + 2) [(w.heap.size, 0, .int .i64 l), (w.heap.size, 1, .int .i64 s), (w.heap.size + 1, 0, .int .i64 m), (w.heap.size + 1, 1, .int .i64 t)] ((w.alloc (.cells #[.int .i64 l, .int .i64 s] k)).alloc (.cells #[.int .i64 m, .int .i64 t] k')) :=
  ⟨by simp, by simp, by simp, ((Below.refl _ _).alloc (Nat.le_refl _) _).alloc (by simp) _, by simp⟩
theorem ri_w (l s : Int) (w : World) : Calls Tryz.prog 96 #[.agg #[.int .i64 l, .int .i64 s]] w fun e w' => e = .returned (.bool (rB l s)) ∧ Below w.heap.size w w' :=
  (right_impl l s w).mono fun e w' ⟨he, hw⟩ => ⟨he, by rw [← hw]; exact (Below.refl _ _).alloc (Nat.le_refl _) _⟩
def belowB (l s m t : Int) : Bool := rB l s && (rB m t && bB l s m t)
theorem below_yes {l s m t : Int} (h1 : rB l s = true) (h2 : rB m t = true) : belowB l s m t = bB l s m t := by simp [belowB, h1, h2]
theorem below_no1 {l s m t : Int} (h1 : rB l s = false) : belowB l s m t = false := by simp [belowB, h1]
theorem below_no2 {l s m t : Int} (h1 : rB m t = false) : belowB l s m t = false := by simp [belowB, h1]
theorem eq_below (l s m t : Int) : bB l s m t = ((minV l m == l) && (bits BinOp.and IntKind.i64 s t == s)) := by
  have h : decide (l ≤ m) = (minV l m == l) := by
    rw [Bool.eq_iff_iff]; simp [minV]; omega
  unfold bB
  rw [h]
theorem two_ways (a b : Bool) : a = false ∧ (a && b) = false ∨ (a = true ∧ b = false) ∧ (a && b) = false ∨ (a = true ∧ b = true) ∧ (a && b) = true := by cases a <;> cases b <;> simp
set_option maxRecDepth 100000 in
set_option maxHeartbeats 1600000 in
theorem below_impl (l s m t : Int) (w : World) :
    Calls Tryz.prog 144 #[lab l s, lab m t] w fun e w' => e = .returned (.bool (belowB l s m t)) ∧ Below w.heap.size w w' := by
  by_cases h1 : rB l s = true
  · by_cases h2 : rB m t = true
    · rw [below_yes h1 h2, eq_below]
      have HM : ∀ w, Calls Tryz.prog 180 #[lab l s, lab m t] w fun e w' => e = .returned (lab (minV l m) (bits BinOp.and IntKind.i64 s t)) ∧ Below w.heap.size w w' := by
        intro w
        have := meet_impl l s m t w
        rw [meet_yes h1 h2] at this
        exact this
      generalize minV l m = p at *
      generalize bits BinOp.and IntKind.i64 s t = q at *
      unfold lab at *
      rcases two_ways (p == l) (q == s) with ⟨g1, g⟩ | ⟨⟨g1, g2⟩, g⟩ | ⟨⟨g1, g2⟩, g⟩
      all_goals
        rw [g]
        clear g
        go_enter Tryz.func144, Tryz.ntmps144
        go_wp2_with fail
        go_region_held3 (fun W => W.cell? ⟨w.heap.size, 0, none⟩ = some (.int .i64 l) ∧ W.cell? ⟨w.heap.size, 1, none⟩ = some (.int .i64 s) ∧ W.cell? ⟨w.heap.size + 1, 0, none⟩ = some (.int .i64 m) ∧ W.cell? ⟨w.heap.size + 1, 1, none⟩ = some (.int .i64 t) ∧ KS w (w.heap.size + 2) ([(w.heap.size, 0, .int .i64 l), (w.heap.size, 1, .int .i64 s), (w.heap.size + 1, 0, .int .i64 m), (w.heap.size + 1, 1, .int .i64 t)]) W)
          (exact ((fun (h : KS w (w.heap.size + 2) ([(w.heap.size, 0, .int .i64 l), (w.heap.size, 1, .int .i64 s), (w.heap.size + 1, 0, .int .i64 m), (w.heap.size + 1, 1, .int .i64 t)]) _) => ⟨h.at (by simp), h.at (by simp), h.at (by simp), h.at (by simp), h⟩) (by (repeat (first | assumption | exact inits w l s m t _ _ | refine KS.drew ?_ | refine KS.alloc ?_ _ | refine KS.set ?_ (by first | omega | (simp <;> omega)) _)))))
          (first | (go_at_call 96; refine (ri_w _ _ _).mono ?_; rintro e w1 ⟨rfl, hb⟩; have hL := KS.call (w := w) (base := w.heap.size + 2) (L := [(w.heap.size, 0, .int .i64 l), (w.heap.size, 1, .int .i64 s), (w.heap.size + 1, 0, .int .i64 m), (w.heap.size + 1, 1, .int .i64 t)]) (by (repeat (first | assumption | exact inits w l s m t _ _ | refine KS.drew ?_ | refine KS.alloc ?_ _ | refine KS.set ?_ (by first | omega | (simp <;> omega)) _))) hb; have hz := hL.size; have hs := hb.size; (try simp at hs); (try have hqC := join hqC hb); (try have hqC := join_alloc hqC hb); (try have hqC := join_drew hqC hb); (try have hqB := join hqB hb); (try have hqB := join_alloc hqB hb); (try have hqB := join_drew hqB hb); (try have hqA := join hqA hb); (try have hqA := join_alloc hqA hb); (try have hqA := join_drew hqA hb); (first | (have hqD' := hqC; have hqD := hb) | (have hqB' := hqB; have hqC := hb) | (have hqA' := hqA; have hqB := hb) | have hqA := hb); (try (have hrA := rules hqA; obtain ⟨hrA1, hrA2, hrA3, hrA4⟩ := hrA)); (try (have hrB := rules hqB; obtain ⟨hrB1, hrB2, hrB3, hrB4⟩ := hrB)); (try (have hrC := rules hqC; obtain ⟨hrC1, hrC2, hrC3, hrC4⟩ := hrC)); (try (have hrD := rules hqD; obtain ⟨hrD1, hrD2, hrD3, hrD4⟩ := hrD))) | (go_at_call 180; refine (HM _).mono ?_; rintro e w1 ⟨rfl, hb⟩; have hL := KS.call (w := w) (base := w.heap.size + 2) (L := [(w.heap.size, 0, .int .i64 l), (w.heap.size, 1, .int .i64 s), (w.heap.size + 1, 0, .int .i64 m), (w.heap.size + 1, 1, .int .i64 t)]) (by (repeat (first | assumption | exact inits w l s m t _ _ | refine KS.drew ?_ | refine KS.alloc ?_ _ | refine KS.set ?_ (by first | omega | (simp <;> omega)) _))) hb; have hz := hL.size; have hs := hb.size; (try simp at hs); (try have hqC := join hqC hb); (try have hqC := join_alloc hqC hb); (try have hqC := join_drew hqC hb); (try have hqB := join hqB hb); (try have hqB := join_alloc hqB hb); (try have hqB := join_drew hqB hb); (try have hqA := join hqA hb); (try have hqA := join_alloc hqA hb); (try have hqA := join_drew hqA hb); (first | (have hqD' := hqC; have hqD := hb) | (have hqB' := hqB; have hqC := hb) | (have hqA' := hqA; have hqB := hb) | have hqA := hb); (try (have hrA := rules hqA; obtain ⟨hrA1, hrA2, hrA3, hrA4⟩ := hrA)); (try (have hrB := rules hqB; obtain ⟨hrB1, hrB2, hrB3, hrB4⟩ := hrB)); (try (have hrC := rules hqC; obtain ⟨hrC1, hrC2, hrC3, hrC4⟩ := hrC)); (try (have hrD := rules hqD; obtain ⟨hrD1, hrD2, hrD3, hrD4⟩ := hrD))))
        go_wp2_with fail
        go_ret
        exact ⟨rfl, KS.below (base := w.heap.size + 2) (L := [(w.heap.size, 0, .int .i64 l), (w.heap.size, 1, .int .i64 s), (w.heap.size + 1, 0, .int .i64 m), (w.heap.size + 1, 1, .int .i64 t)]) (by (repeat (first | assumption | exact inits w l s m t _ _ | refine KS.drew ?_ | refine KS.alloc ?_ _ | refine KS.set ?_ (by first | omega | (simp <;> omega)) _)))⟩
    · have h2' : rB m t = false := by simpa using h2
      rw [below_no2 h2']
      clear h2
      unfold lab
      go_enter Tryz.func144, Tryz.ntmps144
      go_wp2_with fail
      go_region_with (first | (go_at_call 96; refine (right_impl _ _ _).mono ?_; unfold labO; rintro e w1 ⟨rfl, rfl⟩))
      all_goals go_wp2
      all_goals go_ret
      all_goals refine ⟨rfl, ?_⟩
      all_goals repeat (first | exact Below.refl _ _ | refine Below.setCell ?_ (by simp <;> omega) _ | refine Below.drew ?_ | refine Below.alloc ?_ (by simp <;> omega) _)
  · have h1' : rB l s = false := by simpa using h1
    rw [below_no1 h1']
    clear h1
    unfold lab
    go_enter Tryz.func144, Tryz.ntmps144
    go_wp2_with fail
    go_region_with (first | (go_at_call 96; refine (right_impl _ _ _).mono ?_; unfold labO; rintro e w1 ⟨rfl, rfl⟩))
    all_goals go_wp2
    all_goals go_ret
    all_goals refine ⟨rfl, ?_⟩
    all_goals repeat (first | exact Below.refl _ _ | refine Below.setCell ?_ (by simp <;> omega) _ | refine Below.drew ?_ | refine Below.alloc ?_ (by simp <;> omega) _)
end Go.Proofs.YtelhmacfljffhaaGreat.LabC
end
section
namespace Go.Proofs.YtelhmacfljffhaaGreat.RepC
open Go.RowKit RowC ValC SpanC KeptC
set_option linter.unusedVariables false
set_option linter.unusedSimpArgs false
theorem is_at (n lo hi : Int) {b : Bool} (hb : isB n lo hi = b) (w : World) :
    Calls Tryz.prog 67 #[.int .i64 n, .int .i64 lo, .int .i64 hi] w fun e w' => e = .returned (.bool b) ∧ w = w' := by
  subst hb
  exact is_spec n lo hi w
theorem lab_below (l s : Int) {b : Bool} (hb : LabC.rB l s = b) (w : World) :
    Calls Tryz.prog 76 #[.agg #[.int .i64 l, .int .i64 s]] w fun e w' => e = .returned (.bool b) ∧ Below w.heap.size w w' := by
  subst hb
  exact (LabC.right_spec l s w).mono fun _ _ ⟨h1, h2⟩ => ⟨h1, by rw [← h2]; exact (Below.refl _ _).alloc (Nat.le_refl _) _⟩
theorem rd_mv {α : Type} {E : Rp α} (hE : Ok E) {L : List α} {a : Option Addr} {c : Nat} {w w' : World} (h : RdSl E w w.heap.size L a c) (hb : Below w.heap.size w w') : RdSl E w' w'.heap.size L a c := (h.below hE hb).more hE hb.size
theorem resB_at {p : Prop} {b : Bool} (hb : b = true ↔ p) {w : World} {e : Ending} {w' : World} (h : ResB p w e w') : e = .returned (.bool b) ∧ Below w.heap.size w w' := by
  obtain ⟨q, rfl, hq, hbl⟩ := resB_elim h
  exact ⟨by rw [show q = b from Bool.eq_iff_iff.2 (hq.trans hb.symm)], hbl⟩
def IsI (n : Int) (w : World) (e : Ending) (w' : World) : Prop := e = .returned (.int .i64 n) ∧ Below w.heap.size w w'
theorem isI_elim {n : Int} {w : World} {e : Ending} {w' : World} (h : IsI n w e w') : e = .returned (.int .i64 n) ∧ Below w.heap.size w w' := h
theorem size_Lab : R_Label.size = 2 := rfl
def okC (L : List D_Label) (i : Nat) : Prop := ∀ x, L[i]? = some x → LabC.rB x.1 x.2 = true ∧ (0 < i → ∀ y, L[i - 1]? = some y → LabC.bB y.1 y.2 x.1 x.2 = true ∧ y ≠ x)
def ChainR (L : List D_Label) : Prop := 1 ≤ L.length ∧ L.length ≤ 4 ∧ ∀ i, i < L.length → okC L i
theorem okC_first {L : List D_Label} {x : D_Label} (hx : L[0]? = some x) (hr : LabC.rB x.1 x.2 = true) : okC L 0 := fun y hy => by
  rw [hx] at hy; obtain rfl := Option.some.inj hy; exact ⟨hr, fun h => absurd h (Nat.lt_irrefl _)⟩
theorem okC_next {L : List D_Label} {j : Nat} {x y : D_Label} (hx : L[j + 1]? = some x) (hy : L[j]? = some y) (hr : LabC.rB x.1 x.2 = true) (hb : LabC.bB y.1 y.2 x.1 x.2 = true) (hne : y ≠ x) : okC L (j + 1) := fun z hz => by
  rw [hx] at hz; obtain rfl := Option.some.inj hz
  refine ⟨hr, fun _ u hu => ?_⟩
  rw [Nat.add_sub_cancel, hy] at hu
  obtain rfl := Option.some.inj hu
  exact ⟨hb, hne⟩
theorem below2_at (l s m t : Int) {b : Bool} (hb : LabC.bB l s m t = b) (w : World) : Calls Tryz.prog 131 #[.agg #[.int .i64 l, .int .i64 s], .agg #[.int .i64 m, .int .i64 t]] w fun e w' => e = .returned (.bool b) ∧ Below w.heap.size w w' := by
  subst hb
  exact (LabC.below2_spec l s m t w).mono fun e w' ⟨he, hw⟩ => ⟨he, by rw [← hw]; exact ((Below.refl _ _).alloc (Nat.le_refl _) _).alloc (by simp) _⟩
set_option maxRecDepth 100000 in
set_option maxHeartbeats 3200000 in
theorem chain_rd {L : List D_Label} {a : Option Addr} {cap : Nat} {W : World} (h : RdSl R_Label W W.heap.size L a cap) :
    Calls Tryz.prog 130 #[.slice a L.length cap] W (ResB (ChainR L) W) := by
  have H := Lib.hid h
  clear h
  by_cases n1 : 1 ≤ L.length
  rotate_left
  · have hd : decide ((L.length : Int) < 1) = true := decide_eq_true (by omega)
    have HN := Lib.hid (show ¬ ChainR L from fun h => n1 h.1)
    go_enter Tryz.func130, Tryz.ntmps130
    go_wp2
    go_ret
    exact resB_no HN.out (Below.refl _ _)
  have hd1 : decide ((L.length : Int) < 1) = false := decide_eq_false (by omega)
  by_cases n4 : L.length ≤ 4
  rotate_left
  · have hd : decide (4 < (L.length : Int)) = true := decide_eq_true (by omega)
    have HN := Lib.hid (show ¬ ChainR L from fun h => n4 h.2.1)
    go_enter Tryz.func130, Tryz.ntmps130
    go_wp2
    go_ret
    exact resB_no HN.out (Below.refl _ _)
  have hd4 : decide (4 < (L.length : Int)) = false := decide_eq_false (by omega)
  go_enter Tryz.func130, Tryz.ntmps130
  go_wp2
  go_loopw [3] (fun i wr => ∃ k : Nat, k ≤ L.length ∧ i = .int .i64 k ∧ Hid (∀ j, j < k → okC L j) ∧ Below W.heap.size W wr) (fun i _ => L.length - (intOf i).toNat)
  case atStart => exact ⟨0, Nat.zero_le _, rfl, Lib.hid fun j h => absurd h (Nat.not_lt_zero _), Below.refl _ _⟩
  case round =>
    obtain ⟨k, hk, rfl, HA, hB⟩ := hrel
    have HB := Lib.hid hB
    have hsz := hB.size
    by_cases hlt : k < L.length
    · obtain ⟨⟨x0, x1⟩, hx⟩ := el_some hlt
      have HX := Lib.hid hx
      obtain ⟨g, o, us, rfl, hg, hu, hr⟩ := (H.out.below R_Label_ok hB).at_ hx
      obtain rfl := rd_Label hr
      have e0 : wr.cell? ⟨g, o + k * 2, none⟩ = some (.int .i64 x0) := by simpa [size_Lab, Nat.add_assoc] using hu 0 _ rfl
      have e1 : wr.cell? ⟨g, o + k * 2 + 1, none⟩ = some (.int .i64 x1) := by simpa [size_Lab, Nat.add_assoc] using hu 1 _ rfl
      have hgl : g < wr.heap.size := Nat.lt_of_lt_of_le hg hsz
      have hi0 : (0 : Int) ≤ (k : Int) := Int.natCast_nonneg _
      have hi1 : (k : Int) < (L.length : Int) := by omega
      clear hB hx hu hr
      cases hr : LabC.rB x0 x1 with
      | false =>
        have HNo := Lib.hid (show ¬ ChainR L from fun h => by have := (h.2.2 k hlt _ HX.out).1; rw [hr] at this; cases this)
        have HR := Lib.hid hr
        clear hr
        go_wp2_with fail
        refine wp_region_held_drew (S := (fun V => Below (wr).heap.size (wr) V)) (by kernel_rfl) ((Below.refl _ _).drew) (fun hHeld => ?_)
        refine tk 0 hHeld ?_
        refine tk 1 hHeld ?_
        refine tk 2 hHeld ?_
        refine tk 3 hHeld ?_ (hy := fun w hSw => by (try dsimp only at hSw); have k0 := (hSw.cell (p := ⟨g, o + k * 2, none⟩) hgl).trans e0; have k1 := (hSw.cell (p := ⟨g, o + k * 2 + 1, none⟩) hgl).trans e1; clear hSw; go_simp; try with_reducible rfl)
        refine rd1 4 (fun K hK => ?_)
        go_simp
        go_at_call 76
        refine (lab_below x0 x1 HR.out _).mono ?_
        rintro e w1 ⟨rfl, hb⟩
        refine hK.out _ _ (hHeld.trans (hb.mono hHeld.size)) (fun hHeld => ?_)
        clear hK K hb
        refine tk 5 hHeld ?_
        refine tk 6 hHeld ?_
        refine tn 7 hHeld ?_
        refine tn 8 hHeld ?_
        refine tn 9 hHeld ?_
        refine tn 10 hHeld ?_
        refine tn 11 hHeld ?_
        refine tn 12 hHeld ?_
        refine tn 13 hHeld ?_
        refine tn 14 hHeld ?_
        refine tn 15 hHeld ?_
        refine tn 16 hHeld ?_
        refine tn 17 hHeld ?_
        refine tn 18 hHeld ?_
        refine tn 19 hHeld ?_
        refine tn 20 hHeld ?_
        refine tn 21 hHeld ?_
        refine tn 22 hHeld ?_
        refine tn 23 hHeld ?_
        refine tn 24 hHeld ?_
        refine tn 25 hHeld ?_
        refine tn 26 hHeld ?_
        refine tn 27 hHeld ?_
        refine tn 28 hHeld ?_
        refine tn 29 hHeld ?_
        refine tn 30 hHeld ?_
        refine tn 31 hHeld ?_
        refine tn 32 hHeld ?_
        refine tn 33 hHeld ?_
        refine tk 34 hHeld ?_
        refine rd0 ?_
        have HF := Lib.hid hHeld
        clear hHeld
        have HB3 := Lib.hid (HB.out.trans (HF.out.mono hsz))
        clear HF
        go_wp2
        go_ret
        exact resB_no HNo.out HB3.out
      | true =>
        have HR := Lib.hid hr
        clear hr
        rcases Nat.eq_zero_or_pos k with hk0 | hk0
        · subst hk0
          have hz : decide ((0 : Int) < ((0 : Nat) : Int)) = false := rfl
          have HOK := Lib.hid (all_step HA.out (okC_first HX.out HR.out))
          have e0' : wr.cell? ⟨g, o, none⟩ = some (.int .i64 x0) := by simpa using e0
          have e1' : wr.cell? ⟨g, o + 1, none⟩ = some (.int .i64 x1) := by simpa using e1
          clear e0 e1
          go_wp2_with fail
          refine wp_region_held_drew (S := (fun V => Below (wr).heap.size (wr) V)) (by kernel_rfl) ((Below.refl _ _).drew) (fun hHeld => ?_)
          refine tk 0 hHeld ?_
          refine tk 1 hHeld ?_
          refine tk 2 hHeld ?_
          refine tk 3 hHeld ?_ (hy := fun w hSw => by (try dsimp only at hSw); have k0 := (hSw.cell (p := ⟨g, o, none⟩) hgl).trans e0'; have k1 := (hSw.cell (p := ⟨g, o + 1, none⟩) hgl).trans e1'; clear hSw; go_simp; try with_reducible rfl)
          refine rd1 4 (fun K hK => ?_)
          go_simp
          go_at_call 76
          refine (lab_below x0 x1 HR.out _).mono ?_
          rintro e w1 ⟨rfl, hb⟩
          refine hK.out _ _ (hHeld.trans (hb.mono hHeld.size)) (fun hHeld => ?_)
          clear hK K hb
          refine tk 5 hHeld ?_
          refine tk 6 hHeld ?_
          refine tk 7 hHeld ?_
          refine tk 8 hHeld ?_
          refine tk 9 hHeld ?_
          refine tn 10 hHeld ?_
          refine tn 11 hHeld ?_
          refine tn 12 hHeld ?_
          refine tn 13 hHeld ?_
          refine tn 14 hHeld ?_
          refine tn 15 hHeld ?_
          refine tn 16 hHeld ?_
          refine tn 17 hHeld ?_
          refine tn 18 hHeld ?_
          refine tn 19 hHeld ?_
          refine tn 20 hHeld ?_
          refine tn 21 hHeld ?_
          refine tn 22 hHeld ?_
          refine tn 23 hHeld ?_
          refine tn 24 hHeld ?_
          refine tn 25 hHeld ?_
          refine tn 26 hHeld ?_
          refine tn 27 hHeld ?_
          refine tn 28 hHeld ?_
          refine tn 29 hHeld ?_
          refine tn 30 hHeld ?_
          refine tn 31 hHeld ?_
          refine tn 32 hHeld ?_
          refine tk 33 hHeld ?_
          refine tk 34 hHeld ?_
          refine rd0 ?_
          have HF := Lib.hid hHeld
          clear hHeld
          have HB3 := Lib.hid (HB.out.trans (HF.out.mono hsz))
          clear HF
          go_wp2
          go_roundw
          case rel => exact ⟨1, by omega, by go_num, HOK, HB3.out⟩
          case measure => simp [intOf]; omega
        · obtain ⟨j, rfl⟩ : ∃ j, k = j + 1 := ⟨k - 1, by omega⟩
          obtain ⟨⟨y0, y1⟩, hy⟩ := el_some (L := L) (k := j) (by omega)
          have HY := Lib.hid hy
          obtain ⟨g2, o2, us, he, hg2, hu, hr⟩ := (H.out.below R_Label_ok HB.out).at_ hy
          cases he
          obtain rfl := rd_Label hr
          have d0 : wr.cell? ⟨g, o + j * 2, none⟩ = some (.int .i64 y0) := by simpa [size_Lab, Nat.add_assoc] using hu 0 _ rfl
          have d1 : wr.cell? ⟨g, o + j * 2 + 1, none⟩ = some (.int .i64 y1) := by simpa [size_Lab, Nat.add_assoc] using hu 1 _ rfl
          have hj0 : (0 : Int) ≤ (j : Int) := Int.natCast_nonneg _
          have hj1 : (j : Int) < (L.length : Int) := by omega
          have hi0p : (0 : Int) ≤ (j : Int) + 1 := by omega
          have hi1p : (j : Int) + 1 < (L.length : Int) := by omega
          have hjw : IntKind.i64.wrap ((j : Int) + 1 - 1) = (j : Int) := by rw [show (j : Int) + 1 - 1 = (j : Int) by omega]; exact IntWalk.i64_in _ (by omega)
          have hjw2 : IntKind.i64.wrap (j : Int) = (j : Int) := IntWalk.i64_in _ (by omega)
          have hjp : decide ((0 : Int) < (j : Int) + 1) = true := decide_eq_true (by omega)
          clear hy hu hr hg2
          cases hbb : LabC.bB y0 y1 x0 x1 with
          | false =>
            have HNo := Lib.hid (show ¬ ChainR L from fun h => by have := ((h.2.2 (j + 1) hlt _ HX.out).2 (Nat.succ_pos _) (y0, y1) HY.out).1; rw [hbb] at this; cases this)
            have HBB := Lib.hid hbb
            clear hbb
            go_wp2_with fail
            refine wp_region_held_drew (S := (fun V => Below (wr).heap.size (wr) V)) (by kernel_rfl) ((Below.refl _ _).drew) (fun hHeld => ?_)
            refine tk 0 hHeld ?_
            refine tk 1 hHeld ?_
            refine tk 2 hHeld ?_
            refine tk 3 hHeld ?_ (hy := fun w hSw => by (try dsimp only at hSw); have k0 := (hSw.cell (p := ⟨g, o + (j + 1) * 2, none⟩) hgl).trans e0; have k1 := (hSw.cell (p := ⟨g, o + (j + 1) * 2 + 1, none⟩) hgl).trans e1; clear hSw; go_simp; try with_reducible rfl)
            refine rd1 4 (fun K hK => ?_)
            go_simp
            go_at_call 76
            refine (lab_below x0 x1 HR.out _).mono ?_
            rintro e w1 ⟨rfl, hb⟩
            refine hK.out _ _ (hHeld.trans (hb.mono hHeld.size)) (fun hHeld => ?_)
            clear hK K hb
            refine tk 5 hHeld ?_
            refine tk 6 hHeld ?_
            refine tk 7 hHeld ?_
            refine tk 8 hHeld ?_
            refine tk 9 hHeld ?_
            refine tk 10 hHeld ?_
            refine tk 11 hHeld ?_
            refine tk 12 hHeld ?_
            refine tk 13 hHeld ?_
            refine tk 14 hHeld ?_ (hy := fun w hSw => by (try dsimp only at hSw); have k0 := (hSw.cell (p := ⟨g, o + j * 2, none⟩) hgl).trans d0; have k1 := (hSw.cell (p := ⟨g, o + j * 2 + 1, none⟩) hgl).trans d1; clear hSw; go_simp; try with_reducible rfl)
            refine tk 15 hHeld ?_
            refine tk 16 hHeld ?_
            refine tk 17 hHeld ?_
            refine tk 18 hHeld ?_ (hy := fun w hSw => by (try dsimp only at hSw); have k0 := (hSw.cell (p := ⟨g, o + (j + 1) * 2, none⟩) hgl).trans e0; have k1 := (hSw.cell (p := ⟨g, o + (j + 1) * 2 + 1, none⟩) hgl).trans e1; clear hSw; go_simp; try with_reducible rfl)
            refine rd1 19 (fun K hK => ?_)
            go_simp
            go_at_call 131
            refine (below2_at y0 y1 x0 x1 HBB.out _).mono ?_
            rintro e w2 ⟨rfl, hb⟩
            refine hK.out _ _ (hHeld.trans (hb.mono hHeld.size)) (fun hHeld => ?_)
            clear hK K hb
            refine tk 20 hHeld ?_
            refine tk 21 hHeld ?_
            refine tn 22 hHeld ?_
            refine tn 23 hHeld ?_
            refine tn 24 hHeld ?_
            refine tn 25 hHeld ?_
            refine tn 26 hHeld ?_
            refine tn 27 hHeld ?_
            refine tn 28 hHeld ?_
            refine tn 29 hHeld ?_
            refine tn 30 hHeld ?_
            refine tn 31 hHeld ?_
            refine tk 32 hHeld ?_
            refine tk 33 hHeld ?_
            refine tk 34 hHeld ?_
            refine rd0 ?_
            have HF := Lib.hid hHeld
            clear hHeld
            have HB3 := Lib.hid (HB.out.trans (HF.out.mono hsz))
            clear HF
            go_wp2
            go_ret
            exact resB_no HNo.out HB3.out
          | true =>
            have HBB := Lib.hid hbb
            clear hbb
            cases c1 : (y0 == x0) with
            | false =>
              have HOK := Lib.hid (all_step HA.out (okC_next HX.out HY.out HR.out HBB.out (fun e => by have := congrArg Prod.fst e; simp at c1; exact c1 this)))
              go_wp2_with fail
              refine wp_region_held_drew (S := (fun V => Below (wr).heap.size (wr) V)) (by kernel_rfl) ((Below.refl _ _).drew) (fun hHeld => ?_)
              refine tk 0 hHeld ?_
              refine tk 1 hHeld ?_
              refine tk 2 hHeld ?_
              refine tk 3 hHeld ?_ (hy := fun w hSw => by (try dsimp only at hSw); have k0 := (hSw.cell (p := ⟨g, o + (j + 1) * 2, none⟩) hgl).trans e0; have k1 := (hSw.cell (p := ⟨g, o + (j + 1) * 2 + 1, none⟩) hgl).trans e1; clear hSw; go_simp; try with_reducible rfl)
              refine rd1 4 (fun K hK => ?_)
              go_simp
              go_at_call 76
              refine (lab_below x0 x1 HR.out _).mono ?_
              rintro e w1 ⟨rfl, hb⟩
              refine hK.out _ _ (hHeld.trans (hb.mono hHeld.size)) (fun hHeld => ?_)
              clear hK K hb
              refine tk 5 hHeld ?_
              refine tk 6 hHeld ?_
              refine tk 7 hHeld ?_
              refine tk 8 hHeld ?_
              refine tk 9 hHeld ?_
              refine tk 10 hHeld ?_
              refine tk 11 hHeld ?_
              refine tk 12 hHeld ?_
              refine tk 13 hHeld ?_
              refine tk 14 hHeld ?_ (hy := fun w hSw => by (try dsimp only at hSw); have k0 := (hSw.cell (p := ⟨g, o + j * 2, none⟩) hgl).trans d0; have k1 := (hSw.cell (p := ⟨g, o + j * 2 + 1, none⟩) hgl).trans d1; clear hSw; go_simp; try with_reducible rfl)
              refine tk 15 hHeld ?_
              refine tk 16 hHeld ?_
              refine tk 17 hHeld ?_
              refine tk 18 hHeld ?_ (hy := fun w hSw => by (try dsimp only at hSw); have k0 := (hSw.cell (p := ⟨g, o + (j + 1) * 2, none⟩) hgl).trans e0; have k1 := (hSw.cell (p := ⟨g, o + (j + 1) * 2 + 1, none⟩) hgl).trans e1; clear hSw; go_simp; try with_reducible rfl)
              refine rd1 19 (fun K hK => ?_)
              go_simp
              go_at_call 131
              refine (below2_at y0 y1 x0 x1 HBB.out _).mono ?_
              rintro e w2 ⟨rfl, hb⟩
              refine hK.out _ _ (hHeld.trans (hb.mono hHeld.size)) (fun hHeld => ?_)
              clear hK K hb
              refine tk 20 hHeld ?_
              refine tk 21 hHeld ?_
              refine tk 22 hHeld ?_
              refine tk 23 hHeld ?_
              refine tk 24 hHeld ?_
              refine tk 25 hHeld ?_
              refine tk 26 hHeld ?_ (hy := fun w hSw => by (try dsimp only at hSw); have k0 := (hSw.cell (p := ⟨g, o + j * 2, none⟩) hgl).trans d0; have k1 := (hSw.cell (p := ⟨g, o + j * 2 + 1, none⟩) hgl).trans d1; clear hSw; go_simp; try with_reducible rfl)
              refine tk 27 hHeld ?_
              refine tk 28 hHeld ?_
              refine tk 29 hHeld ?_
              refine tk 30 hHeld ?_ (hy := fun w hSw => by (try dsimp only at hSw); have k0 := (hSw.cell (p := ⟨g, o + (j + 1) * 2, none⟩) hgl).trans e0; have k1 := (hSw.cell (p := ⟨g, o + (j + 1) * 2 + 1, none⟩) hgl).trans e1; clear hSw; go_simp; try with_reducible rfl)
              refine tk 31 hHeld ?_
              refine tk 32 hHeld ?_
              refine tk 33 hHeld ?_
              refine tk 34 hHeld ?_
              refine rd0 ?_
              have HF := Lib.hid hHeld
              clear hHeld
              have HB3 := Lib.hid (HB.out.trans (HF.out.mono hsz))
              clear HF
              go_wp2
              go_roundw
              case rel => exact ⟨j + 2, by omega, by go_num, HOK, HB3.out⟩
              case measure => simp [intOf]; omega
            | true =>
              cases c2 : (y1 == x1) with
              | false =>
                have HOK := Lib.hid (all_step HA.out (okC_next HX.out HY.out HR.out HBB.out (fun e => by have := congrArg Prod.snd e; simp at c2; exact c2 this)))
                go_wp2_with fail
                refine wp_region_held_drew (S := (fun V => Below (wr).heap.size (wr) V)) (by kernel_rfl) ((Below.refl _ _).drew) (fun hHeld => ?_)
                refine tk 0 hHeld ?_
                refine tk 1 hHeld ?_
                refine tk 2 hHeld ?_
                refine tk 3 hHeld ?_ (hy := fun w hSw => by (try dsimp only at hSw); have k0 := (hSw.cell (p := ⟨g, o + (j + 1) * 2, none⟩) hgl).trans e0; have k1 := (hSw.cell (p := ⟨g, o + (j + 1) * 2 + 1, none⟩) hgl).trans e1; clear hSw; go_simp; try with_reducible rfl)
                refine rd1 4 (fun K hK => ?_)
                go_simp
                go_at_call 76
                refine (lab_below x0 x1 HR.out _).mono ?_
                rintro e w1 ⟨rfl, hb⟩
                refine hK.out _ _ (hHeld.trans (hb.mono hHeld.size)) (fun hHeld => ?_)
                clear hK K hb
                refine tk 5 hHeld ?_
                refine tk 6 hHeld ?_
                refine tk 7 hHeld ?_
                refine tk 8 hHeld ?_
                refine tk 9 hHeld ?_
                refine tk 10 hHeld ?_
                refine tk 11 hHeld ?_
                refine tk 12 hHeld ?_
                refine tk 13 hHeld ?_
                refine tk 14 hHeld ?_ (hy := fun w hSw => by (try dsimp only at hSw); have k0 := (hSw.cell (p := ⟨g, o + j * 2, none⟩) hgl).trans d0; have k1 := (hSw.cell (p := ⟨g, o + j * 2 + 1, none⟩) hgl).trans d1; clear hSw; go_simp; try with_reducible rfl)
                refine tk 15 hHeld ?_
                refine tk 16 hHeld ?_
                refine tk 17 hHeld ?_
                refine tk 18 hHeld ?_ (hy := fun w hSw => by (try dsimp only at hSw); have k0 := (hSw.cell (p := ⟨g, o + (j + 1) * 2, none⟩) hgl).trans e0; have k1 := (hSw.cell (p := ⟨g, o + (j + 1) * 2 + 1, none⟩) hgl).trans e1; clear hSw; go_simp; try with_reducible rfl)
                refine rd1 19 (fun K hK => ?_)
                go_simp
                go_at_call 131
                refine (below2_at y0 y1 x0 x1 HBB.out _).mono ?_
                rintro e w2 ⟨rfl, hb⟩
                refine hK.out _ _ (hHeld.trans (hb.mono hHeld.size)) (fun hHeld => ?_)
                clear hK K hb
                refine tk 20 hHeld ?_
                refine tk 21 hHeld ?_
                refine tk 22 hHeld ?_
                refine tk 23 hHeld ?_
                refine tk 24 hHeld ?_
                refine tk 25 hHeld ?_
                refine tk 26 hHeld ?_ (hy := fun w hSw => by (try dsimp only at hSw); have k0 := (hSw.cell (p := ⟨g, o + j * 2, none⟩) hgl).trans d0; have k1 := (hSw.cell (p := ⟨g, o + j * 2 + 1, none⟩) hgl).trans d1; clear hSw; go_simp; try with_reducible rfl)
                refine tk 27 hHeld ?_
                refine tk 28 hHeld ?_
                refine tk 29 hHeld ?_
                refine tk 30 hHeld ?_ (hy := fun w hSw => by (try dsimp only at hSw); have k0 := (hSw.cell (p := ⟨g, o + (j + 1) * 2, none⟩) hgl).trans e0; have k1 := (hSw.cell (p := ⟨g, o + (j + 1) * 2 + 1, none⟩) hgl).trans e1; clear hSw; go_simp; try with_reducible rfl)
                refine tk 31 hHeld ?_
                refine tk 32 hHeld ?_
                refine tk 33 hHeld ?_
                refine tk 34 hHeld ?_
                refine rd0 ?_
                have HF := Lib.hid hHeld
                clear hHeld
                have HB3 := Lib.hid (HB.out.trans (HF.out.mono hsz))
                clear HF
                go_wp2
                go_roundw
                case rel => exact ⟨j + 2, by omega, by go_num, HOK, HB3.out⟩
                case measure => simp [intOf]; omega
              | true =>
                have HNo := Lib.hid (show ¬ ChainR L from fun h => ((h.2.2 (j + 1) hlt _ HX.out).2 (Nat.succ_pos _) (y0, y1) HY.out).2 (by rw [beq_iff_eq] at c1 c2; rw [c1, c2]))
                go_wp2_with fail
                refine wp_region_held_drew (S := (fun V => Below (wr).heap.size (wr) V)) (by kernel_rfl) ((Below.refl _ _).drew) (fun hHeld => ?_)
                refine tk 0 hHeld ?_
                refine tk 1 hHeld ?_
                refine tk 2 hHeld ?_
                refine tk 3 hHeld ?_ (hy := fun w hSw => by (try dsimp only at hSw); have k0 := (hSw.cell (p := ⟨g, o + (j + 1) * 2, none⟩) hgl).trans e0; have k1 := (hSw.cell (p := ⟨g, o + (j + 1) * 2 + 1, none⟩) hgl).trans e1; clear hSw; go_simp; try with_reducible rfl)
                refine rd1 4 (fun K hK => ?_)
                go_simp
                go_at_call 76
                refine (lab_below x0 x1 HR.out _).mono ?_
                rintro e w1 ⟨rfl, hb⟩
                refine hK.out _ _ (hHeld.trans (hb.mono hHeld.size)) (fun hHeld => ?_)
                clear hK K hb
                refine tk 5 hHeld ?_
                refine tk 6 hHeld ?_
                refine tk 7 hHeld ?_
                refine tk 8 hHeld ?_
                refine tk 9 hHeld ?_
                refine tk 10 hHeld ?_
                refine tk 11 hHeld ?_
                refine tk 12 hHeld ?_
                refine tk 13 hHeld ?_
                refine tk 14 hHeld ?_ (hy := fun w hSw => by (try dsimp only at hSw); have k0 := (hSw.cell (p := ⟨g, o + j * 2, none⟩) hgl).trans d0; have k1 := (hSw.cell (p := ⟨g, o + j * 2 + 1, none⟩) hgl).trans d1; clear hSw; go_simp; try with_reducible rfl)
                refine tk 15 hHeld ?_
                refine tk 16 hHeld ?_
                refine tk 17 hHeld ?_
                refine tk 18 hHeld ?_ (hy := fun w hSw => by (try dsimp only at hSw); have k0 := (hSw.cell (p := ⟨g, o + (j + 1) * 2, none⟩) hgl).trans e0; have k1 := (hSw.cell (p := ⟨g, o + (j + 1) * 2 + 1, none⟩) hgl).trans e1; clear hSw; go_simp; try with_reducible rfl)
                refine rd1 19 (fun K hK => ?_)
                go_simp
                go_at_call 131
                refine (below2_at y0 y1 x0 x1 HBB.out _).mono ?_
                rintro e w2 ⟨rfl, hb⟩
                refine hK.out _ _ (hHeld.trans (hb.mono hHeld.size)) (fun hHeld => ?_)
                clear hK K hb
                refine tk 20 hHeld ?_
                refine tk 21 hHeld ?_
                refine tk 22 hHeld ?_
                refine tk 23 hHeld ?_
                refine tk 24 hHeld ?_
                refine tk 25 hHeld ?_
                refine tk 26 hHeld ?_ (hy := fun w hSw => by (try dsimp only at hSw); have k0 := (hSw.cell (p := ⟨g, o + j * 2, none⟩) hgl).trans d0; have k1 := (hSw.cell (p := ⟨g, o + j * 2 + 1, none⟩) hgl).trans d1; clear hSw; go_simp; try with_reducible rfl)
                refine tk 27 hHeld ?_
                refine tk 28 hHeld ?_
                refine tk 29 hHeld ?_
                refine tk 30 hHeld ?_ (hy := fun w hSw => by (try dsimp only at hSw); have k0 := (hSw.cell (p := ⟨g, o + (j + 1) * 2, none⟩) hgl).trans e0; have k1 := (hSw.cell (p := ⟨g, o + (j + 1) * 2 + 1, none⟩) hgl).trans e1; clear hSw; go_simp; try with_reducible rfl)
                refine tk 31 hHeld ?_
                refine tk 32 hHeld ?_
                refine tk 33 hHeld ?_
                refine tk 34 hHeld ?_
                refine rd0 ?_
                have HF := Lib.hid hHeld
                clear hHeld
                have HB3 := Lib.hid (HB.out.trans (HF.out.mono hsz))
                clear HF
                go_wp2
                go_ret
                exact resB_no HNo.out HB3.out
    · have HY := Lib.hid (show ChainR L from ⟨n1, n4, fun i hi => HA.out i (by omega)⟩)
      clear hB
      go_wp2
      go_ret
      exact resB_yes HY.out HB.out
set_option maxRecDepth 100000 in
set_option maxHeartbeats 3200000 in
theorem cleared_spec {L : List D_Label} {a : Option Addr} {cap : Nat} {l s : Int} {W : World} (h : RdSl R_Label W W.heap.size L a cap) :
    Calls Tryz.prog 29 #[.slice a L.length cap, .agg #[.int .i64 l, .int .i64 s]] W (ResB ((l, s) ∈ L) W) := by
  have hn : L.length ≤ 9223372036854775807 := by have h1 := h.1; have h2 := h.2.1; unfold maxLen at h2; omega
  have H := Lib.hid h
  clear h
  have HB0 := Lib.hid (show Below W.heap.size W (W.alloc (.cells #[.int .i64 l, .int .i64 s] 67)) from (Below.refl _ _).alloc (Nat.le_refl _) _)
  have HP0 := Lib.hid (Blk.new W 67 #[.int .i64 l, .int .i64 s])
  go_enter Tryz.func29, Tryz.ntmps29
  go_wp2
  go_loopw [5] (fun i wr => ∃ k : Nat, k ≤ L.length ∧ i = .int .i64 k ∧ Hid ((l, s) ∉ L.take k) ∧ Below W.heap.size W wr ∧ Hid (Blk wr W.heap.size 67 #[.int .i64 l, .int .i64 s])) (fun i _ => L.length - (intOf i).toNat)
  case atStart => exact ⟨0, Nat.zero_le _, rfl, Lib.hid (by simp), HB0.out, HP0⟩
  case round =>
    obtain ⟨k, hk, rfl, HA, hB, HP⟩ := hrel
    have HB := Lib.hid hB
    have hsz := hB.size
    by_cases hlt : k < L.length
    · obtain ⟨⟨x0, x1⟩, hx⟩ := el_some hlt
      have HX := Lib.hid hx
      obtain ⟨g, o, us, rfl, hg, hu, hr⟩ := (H.out.below R_Label_ok hB).at_ hx
      obtain rfl := rd_Label hr
      have e0 : wr.cell? ⟨g, o + k * 2, none⟩ = some (.int .i64 x0) := by simpa [size_Lab, Nat.add_assoc] using hu 0 _ rfl
      have e1 : wr.cell? ⟨g, o + k * 2 + 1, none⟩ = some (.int .i64 x1) := by simpa [size_Lab, Nat.add_assoc] using hu 1 _ rfl
      have hgl : g < wr.heap.size := Nat.lt_of_lt_of_le hg hsz
      have hi0 : (0 : Int) ≤ (k : Int) := Int.natCast_nonneg _
      have hi1 : (k : Int) < (L.length : Int) := by omega
      have hq0 := HP.out.at_ 0 rfl
      have hq1 := HP.out.at_ 1 rfl
      have hpl := HP.out.lt
      clear hB hx hu hr
      cases c1 : (x0 == l) with
      | false =>
        have HC := Lib.hid (show (l, s) ∉ L.take (k + 1) from by rw [List.take_add_one, HX.out]; simp at c1 ⊢; exact ⟨HA.out, fun e => absurd e.symm c1⟩)
        go_wp2_with fail
        refine wp_region_held_drew (S := (fun V => Below (wr).heap.size (wr) V)) (by kernel_rfl) ((Below.refl _ _).drew) (fun hHeld => ?_)
        refine tk 0 hHeld ?_
        refine tk 1 hHeld ?_
        refine tk 2 hHeld ?_
        refine tk 3 hHeld ?_ (hy := fun w hSw => by (try dsimp only at hSw); have k0 := (hSw.cell (p := ⟨g, o + k * 2, none⟩) hgl).trans e0; have k1 := (hSw.cell (p := ⟨g, o + k * 2 + 1, none⟩) hgl).trans e1; clear hSw; go_simp; try with_reducible rfl)
        refine tk 4 hHeld ?_ (hy := fun w hSw => by (try dsimp only at hSw); have k0 := (hSw.cell (p := ⟨W.heap.size, 0, none⟩) hpl).trans hq0; have k1 := (hSw.cell (p := ⟨W.heap.size, 1, none⟩) hpl).trans hq1; clear hSw; go_simp; try with_reducible rfl)
        refine tk 5 hHeld ?_
        refine rd0 ?_
        have HF := Lib.hid hHeld
        clear hHeld
        have HB3 := Lib.hid (HB.out.trans (HF.out.mono hsz))
        have HP3 := Lib.hid (HP.out.call HF.out)
        clear HF
        go_wp2
        go_roundw
        case rel => exact ⟨k + 1, by omega, by go_num, HC, HB3.out, HP3⟩
        case measure => simp [intOf]; omega
      | true =>
        cases c2 : (x1 == s) with
        | false =>
          have HC := Lib.hid (show (l, s) ∉ L.take (k + 1) from by rw [List.take_add_one, HX.out]; simp at c2 ⊢; exact ⟨HA.out, fun _ e => absurd e.symm c2⟩)
          go_wp2_with fail
          refine wp_region_held_drew (S := (fun V => Below (wr).heap.size (wr) V)) (by kernel_rfl) ((Below.refl _ _).drew) (fun hHeld => ?_)
          refine tk 0 hHeld ?_
          refine tk 1 hHeld ?_
          refine tk 2 hHeld ?_
          refine tk 3 hHeld ?_ (hy := fun w hSw => by (try dsimp only at hSw); have k0 := (hSw.cell (p := ⟨g, o + k * 2, none⟩) hgl).trans e0; have k1 := (hSw.cell (p := ⟨g, o + k * 2 + 1, none⟩) hgl).trans e1; clear hSw; go_simp; try with_reducible rfl)
          refine tk 4 hHeld ?_ (hy := fun w hSw => by (try dsimp only at hSw); have k0 := (hSw.cell (p := ⟨W.heap.size, 0, none⟩) hpl).trans hq0; have k1 := (hSw.cell (p := ⟨W.heap.size, 1, none⟩) hpl).trans hq1; clear hSw; go_simp; try with_reducible rfl)
          refine tk 5 hHeld ?_
          refine rd0 ?_
          have HF := Lib.hid hHeld
          clear hHeld
          have HB3 := Lib.hid (HB.out.trans (HF.out.mono hsz))
          have HP3 := Lib.hid (HP.out.call HF.out)
          clear HF
          go_wp2
          go_roundw
          case rel => exact ⟨k + 1, by omega, by go_num, HC, HB3.out, HP3⟩
          case measure => simp [intOf]; omega
        | true =>
          have HY := Lib.hid (show (l, s) ∈ L from by rw [beq_iff_eq] at c1 c2; subst c1 c2; exact List.mem_of_getElem? HX.out)
          go_wp2_with fail
          refine wp_region_held_drew (S := (fun V => Below (wr).heap.size (wr) V)) (by kernel_rfl) ((Below.refl _ _).drew) (fun hHeld => ?_)
          refine tk 0 hHeld ?_
          refine tk 1 hHeld ?_
          refine tk 2 hHeld ?_
          refine tk 3 hHeld ?_ (hy := fun w hSw => by (try dsimp only at hSw); have k0 := (hSw.cell (p := ⟨g, o + k * 2, none⟩) hgl).trans e0; have k1 := (hSw.cell (p := ⟨g, o + k * 2 + 1, none⟩) hgl).trans e1; clear hSw; go_simp; try with_reducible rfl)
          refine tk 4 hHeld ?_ (hy := fun w hSw => by (try dsimp only at hSw); have k0 := (hSw.cell (p := ⟨W.heap.size, 0, none⟩) hpl).trans hq0; have k1 := (hSw.cell (p := ⟨W.heap.size, 1, none⟩) hpl).trans hq1; clear hSw; go_simp; try with_reducible rfl)
          refine tk 5 hHeld ?_
          refine rd0 ?_
          have HF := Lib.hid hHeld
          clear hHeld
          have HB3 := Lib.hid (HB.out.trans (HF.out.mono hsz))
          clear HF
          go_wp2
          go_ret
          exact resB_yes HY.out HB3.out
    · have HN := Lib.hid (show (l, s) ∉ L from by have := HA.out; rw [List.take_of_length_le (by omega)] at this; exact this)
      clear hB
      go_wp2
      go_ret
      exact resB_no HN.out HB.out
theorem size_SLab : (Sl R_Label).size = 1 := rfl
def ClearR (C : List (List D_Label)) : Prop := 1 ≤ C.length ∧ C.length ≤ 6 ∧ ∀ (i : Nat) (x : List D_Label), C[i]? = some x → ChainR x
set_option maxRecDepth 100000 in
set_option maxHeartbeats 3200000 in
theorem clear_spec {C : List (List D_Label)} {a : Option Addr} {cap : Nat} {W : World} (h : RdSl (Sl R_Label) W W.heap.size C a cap) :
    Calls Tryz.prog 68 #[.slice a C.length cap] W (ResB (ClearR C) W) := by
  have hn : C.length ≤ 9223372036854775807 := by have h1 := h.1; have h2 := h.2.1; unfold maxLen at h2; omega
  have H := Lib.hid h
  clear h
  go_enter Tryz.func68, Tryz.ntmps68
  go_wp2
  go_loopw [3] (fun i wr => ∃ k : Nat, k ≤ C.length ∧ k ≤ 7 ∧ i = .int .i64 k ∧ Hid (∀ (j : Nat) (x : List D_Label), j < k → C[j]? = some x → ChainR x) ∧ Below W.heap.size W wr) (fun i _ => C.length - (intOf i).toNat)
  case atStart => exact ⟨0, Nat.zero_le _, by omega, rfl, Lib.hid fun j x h => absurd h (Nat.not_lt_zero _), Below.refl _ _⟩
  case round =>
    obtain ⟨k, hk, hk7, rfl, HA, hB⟩ := hrel
    have HB := Lib.hid hB
    have hsz := hB.size
    by_cases hlt : k < C.length
    · have hd1 : decide ((k : Int) < (C.length : Int)) = true := decide_eq_true (by omega)
      by_cases h6 : k ≤ 6
      · have hd2 : decide ((k : Int) ≤ 6) = true := decide_eq_true (by omega)
        obtain ⟨x, hx⟩ := el_some hlt
        have HX := Lib.hid hx
        obtain ⟨g, o, us, rfl, hg, hu, hr⟩ := (H.out.below (Sl_ok R_Label_ok) hB).at_ hx
        obtain ⟨a1, c1, rfl, hx1⟩ := hr
        have e0 : wr.cell? ⟨g, o + k, none⟩ = some (.slice a1 x.length c1) := by simpa [size_SLab] using hu 0 _ rfl
        have hi0 : (0 : Int) ≤ (k : Int) := Int.natCast_nonneg _
        have hi1 : (k : Int) < (C.length : Int) := by omega
        have HR := Lib.hid (hx1.more R_Label_ok hsz)
        clear hB hx hu hx1
        go_wp2_with fail
        refine (chain_rd HR.out).mono ?_
        intro e w2 h
        obtain ⟨q, rfl, hq, hb⟩ := resB_elim h
        have HB2 := Lib.hid (HB.out.trans (hb.mono hsz))
        clear h hb
        cases q with
        | false =>
          have HN := Lib.hid (show ¬ ClearR C from fun h => by have := hq.2 (h.2.2 k _ HX.out); cases this)
          clear hq
          go_wp2
          go_ret
          exact resB_no HN.out HB2.out
        | true =>
          have HS := Lib.hid (show ∀ (j : Nat) (x : List D_Label), j < k + 1 → C[j]? = some x → ChainR x from fun j y hj hy => by
            by_cases e : j = k
            · subst e
              have := HX.out
              rw [hy] at this
              obtain rfl := Option.some.inj this
              exact hq.1 rfl
            · exact HA.out j y (by omega) hy)
          clear hq
          go_wp2
          go_roundw
          case rel => exact ⟨k + 1, by omega, by omega, by go_num, HS, HB2.out⟩
          case measure => simp [intOf]; omega
      · have hd2 : decide ((k : Int) ≤ 6) = false := decide_eq_false (by omega)
        have hd3 : decide ((1 : Int) ≤ (C.length : Int)) = true := decide_eq_true (by omega)
        have hd4 : decide ((C.length : Int) ≤ 6) = false := decide_eq_false (by omega)
        have HN := Lib.hid (show ¬ ClearR C from fun h => by have := h.2.1; omega)
        clear hB
        go_wp2
        go_ret
        exact resB_no HN.out HB.out
    · have hd1 : decide ((k : Int) < (C.length : Int)) = false := decide_eq_false (by omega)
      by_cases n1 : 1 ≤ C.length
      · have hd3 : decide ((1 : Int) ≤ (C.length : Int)) = true := decide_eq_true (by omega)
        by_cases n6 : C.length ≤ 6
        · have hd4 : decide ((C.length : Int) ≤ 6) = true := decide_eq_true (by omega)
          have HY := Lib.hid (show ClearR C from ⟨n1, n6, fun i x hx => HA.out i x (by have := el_lt hx; omega) hx⟩)
          clear hB
          go_wp2
          go_ret
          exact resB_yes HY.out HB.out
        · have hd4 : decide ((C.length : Int) ≤ 6) = false := decide_eq_false (by omega)
          have HN := Lib.hid (show ¬ ClearR C from fun h => n6 h.2.1)
          clear hB
          go_wp2
          go_ret
          exact resB_no HN.out HB.out
      · have hd3 : decide ((1 : Int) ≤ (C.length : Int)) = false := decide_eq_false (by omega)
        have HN := Lib.hid (show ¬ ClearR C from fun h => n1 h.1)
        clear hB
        go_wp2
        go_ret
        exact resB_no HN.out HB.out
end Go.Proofs.YtelhmacfljffhaaGreat.RepC
end
section
namespace Go.Proofs.YtelhmacfljffhaaGreat.CfC
open Go.Lib Go.Sort
set_option linter.unusedVariables false
set_option linter.unusedSimpArgs false
abbrev Lb := Int × Int
def ltB (a b : Lb) : Prop := a.1 < b.1 ∨ a.1 = b.1 ∧ a.2 < b.2
def labAt (k : Nat) : Lb := (((k / 8 : Nat) : Int), ((k % 8 : Nat) : Int))
def labsTo (C : List (List Lb)) (n : Nat) : List Lb := ((List.range n).map labAt).filter (fun a => decide (∃ x ∈ C, a ∈ x))
def labsOf (C : List (List Lb)) : List Lb := labsTo C 32
theorem labsTo_yes {C : List (List Lb)} {k : Nat} (h : ∃ x ∈ C, labAt k ∈ x) : labsTo C (k + 1) = labsTo C k ++ [labAt k] := by
  unfold labsTo
  rw [List.range_succ, List.map_append, List.filter_append]
  simp only [List.map_cons, List.map_nil, List.filter_cons, decide_eq_true h, List.filter_nil, if_true]
theorem labsTo_no {C : List (List Lb)} {k : Nat} (h : ¬ ∃ x ∈ C, labAt k ∈ x) : labsTo C (k + 1) = labsTo C k := by
  unfold labsTo
  rw [List.range_succ, List.map_append, List.filter_append]
  simp only [List.map_cons, List.map_nil, List.filter_cons, decide_eq_false h, List.filter_nil, Bool.false_eq_true, if_false, List.append_nil]
theorem labsTo_len (C : List (List Lb)) (n : Nat) : (labsTo C n).length ≤ n := by
  unfold labsTo
  exact Nat.le_trans (List.length_filter_le _ _) (by simp)
theorem mem_labs {C : List (List Lb)} {a : Lb} : a ∈ labsOf C ↔ LabC.rP a.1 a.2 ∧ ∃ x ∈ C, a ∈ x := by
  unfold labsOf labsTo
  rw [List.mem_filter, List.mem_map]
  constructor
  · rintro ⟨⟨k, hk, rfl⟩, h⟩
    rw [List.mem_range] at hk
    refine ⟨?_, of_decide_eq_true h⟩
    show 0 ≤ ((k / 8 : Nat) : Int) ∧ ((k / 8 : Nat) : Int) ≤ 3 ∧ 0 ≤ ((k % 8 : Nat) : Int) ∧ ((k % 8 : Nat) : Int) ≤ 7
    omega
  · rintro ⟨⟨h1, h2, h3, h4⟩, h⟩
    obtain ⟨l, s⟩ := a
    refine ⟨⟨(8 * l + s).toNat, ?_, ?_⟩, decide_eq_true h⟩
    · rw [List.mem_range]; simp only at h1 h2 h3 h4; omega
    · show ((((8 * l + s).toNat / 8 : Nat) : Int), (((8 * l + s).toNat % 8 : Nat) : Int)) = (l, s)
      simp only at h1 h2 h3 h4
      rw [Prod.mk.injEq]
      omega
theorem labs_sorted (C : List (List Lb)) (n : Nat) : (labsTo C n).Pairwise ltB := by
  unfold labsTo
  refine List.Pairwise.filter _ ?_
  rw [List.pairwise_map]
  refine List.Pairwise.imp ?_ List.pairwise_lt_range
  intro i j h
  show ((i / 8 : Nat) : Int) < ((j / 8 : Nat) : Int) ∨ ((i / 8 : Nat) : Int) = ((j / 8 : Nat) : Int) ∧ ((i % 8 : Nat) : Int) < ((j % 8 : Nat) : Int)
  omega
theorem ltB_trans {a b c : Lb} (h1 : ltB a b) (h2 : ltB b c) : ltB a c := by unfold ltB at *; omega
theorem ltB_irrefl {a : Lb} (h : ltB a a) : False := by unfold ltB at h; omega
theorem ltB_total (a b : Lb) : ltB a b ∨ a = b ∨ ltB b a := by
  unfold ltB
  obtain ⟨p, q⟩ := a
  obtain ⟨r, s⟩ := b
  simp only [Prod.mk.injEq]
  omega
theorem sorted_eq : ∀ {L M : List Lb}, L.Pairwise ltB → M.Pairwise ltB → (∀ a, a ∈ L ↔ a ∈ M) → L = M
  | [], [], _, _, _ => rfl
  | [], y :: ys, _, _, h => by have := (h y).2 List.mem_cons_self; cases this
  | x :: xs, [], _, _, h => by have := (h x).1 List.mem_cons_self; cases this
  | x :: xs, y :: ys, hL, hM, h => by
    rw [List.pairwise_cons] at hL hM
    have hxy : x = y := by
      rcases List.mem_cons.1 ((h x).1 List.mem_cons_self) with e | e
      · exact e
      · rcases List.mem_cons.1 ((h y).2 List.mem_cons_self) with e2 | e2
        · exact e2.symm
        · exact (ltB_irrefl (ltB_trans (hL.1 _ e2) (hM.1 _ e))).elim
    subst hxy
    rw [sorted_eq hL.2 hM.2 fun a => ?_]
    constructor
    · intro ha
      rcases List.mem_cons.1 ((h a).1 (List.mem_cons_of_mem _ ha)) with e | e
      · subst e; exact (ltB_irrefl (hL.1 _ ha)).elim
      · exact e
    · intro ha
      rcases List.mem_cons.1 ((h a).2 (List.mem_cons_of_mem _ ha)) with e | e
      · subst e; exact (ltB_irrefl (hM.1 _ ha)).elim
      · exact e
theorem sorted_len {L M : List Lb} (hL : L.Pairwise ltB) (hM : M.Pairwise ltB) (h : ∀ a, a ∈ L → a ∈ M) : L.length ≤ M.length := by
  have e : L = M.filter (fun a => decide (a ∈ L)) := sorted_eq hL (hM.filter _) fun a => by
    rw [List.mem_filter]
    exact ⟨fun ha => ⟨h a ha, decide_eq_true ha⟩, fun ha => of_decide_eq_true ha.2⟩
  rw [e]
  exact List.length_filter_le _ _
theorem compact_sorted {d : Array Lb} (hs : ∀ i j, i < j → j < d.size → ¬ ltB d[j]! d[i]!) :
    ∀ m, m ≤ d.size → (compactUpTo d m).Pairwise ltB ∧ (∀ a, a ∈ compactUpTo d m ↔ ∃ j, j < m ∧ d[j]! = a) ∧ (∀ a ∈ compactUpTo d m, a = d[m - 1]! ∨ ltB a d[m - 1]!)
  | 0, _ => by
    refine ⟨List.Pairwise.nil, fun a => ⟨fun h => (by cases h), fun ⟨j, h, _⟩ => absurd h (Nat.not_lt_zero _)⟩, fun a h => (by cases h)⟩
  | m + 1, hm => by
    obtain ⟨h1, h2, h3⟩ := compact_sorted hs m (by omega)
    rw [compactUpTo_succ]
    show _ ∧ _ ∧ ∀ a ∈ _, a = d[m]! ∨ ltB a d[m]!
    by_cases hk : keeps d m = true
    · rw [if_pos hk]
      have hlt : ∀ a ∈ compactUpTo d m, ltB a d[m]! := fun a ha => by
        by_cases hm0 : m = 0
        · subst hm0; cases ha
        · have hne : d[m]! ≠ d[m - 1]! := by
            have := of_decide_eq_true hk
            rcases this with h | h
            · exact absurd h hm0
            · exact h
          have hl : ltB d[m - 1]! d[m]! := by
            rcases ltB_total d[m - 1]! d[m]! with h | h | h
            · exact h
            · exact absurd h.symm hne
            · exact absurd h (hs (m - 1) m (by omega) (by omega))
          rcases h3 a ha with e | e
          · rw [e]; exact hl
          · exact ltB_trans e hl
      refine ⟨?_, fun a => ?_, fun a ha => ?_⟩
      · rw [List.pairwise_append]
        refine ⟨h1, List.pairwise_singleton _ _, fun a ha b hb => ?_⟩
        rw [List.mem_singleton] at hb
        subst hb
        exact hlt a ha
      · rw [List.mem_append, List.mem_singleton, h2]
        constructor
        · rintro (⟨j, hj, e⟩ | e)
          · exact ⟨j, by omega, e⟩
          · exact ⟨m, by omega, e.symm⟩
        · rintro ⟨j, hj, e⟩
          by_cases hjm : j = m
          · right; subst hjm; exact e.symm
          · left; exact ⟨j, by omega, e⟩
      · rw [List.mem_append, List.mem_singleton] at ha
        rcases ha with ha | ha
        · right; exact hlt a ha
        · left; exact ha
    · rw [if_neg hk, List.append_nil]
      have hk' : m ≠ 0 ∧ d[m]! = d[m - 1]! := by
        have h : ¬ (m = 0 ∨ d[m]! ≠ d[m - 1]!) := fun h => hk (decide_eq_true h)
        exact ⟨fun e => h (Or.inl e), Classical.byContradiction fun e => h (Or.inr e)⟩
      refine ⟨h1, fun a => ?_, fun a ha => ?_⟩
      · rw [h2]
        constructor
        · rintro ⟨j, hj, e⟩; exact ⟨j, by omega, e⟩
        · rintro ⟨j, hj, e⟩
          by_cases hjm : j = m
          · subst hjm; exact ⟨j - 1, by omega, hk'.2 ▸ e⟩
          · exact ⟨j, by omega, e⟩
      · rw [hk'.2]; exact h3 a ha
abbrev Pr3 := Lb × Lb × Int
abbrev Qt := Lb × Int
def okP (labs : List Lb) (P : List Pr3) (i : Nat) (x : Pr3) : Prop := x.1 ∈ labs ∧ x.2.1 ∈ labs ∧ LabC.bB x.1.1 x.1.2 x.2.1.1 x.2.1.2 = false ∧ SpanC.isB x.2.2 1 3 = true ∧ ∀ (k : Nat) y, k < i → P[k]? = some y → ¬ (y.1 = x.1 ∧ y.2.1 = x.2.1)
def PairsR (labs : List Lb) (P : List Pr3) : Prop := P.length ≤ 4 ∧ ∀ (i : Nat) x, P[i]? = some x → okP labs P i x
def okQ (labs : List Lb) (Q : List Qt) (i : Nat) (x : Qt) : Prop := x.1 ∈ labs ∧ SpanC.isB x.2 1 9 = true ∧ (0 < i → ∀ y, Q[i - 1]? = some y → ltB y.1 x.1)
def QuotasR (labs : List Lb) (Q : List Qt) : Prop := ∀ (i : Nat) x, Q[i]? = some x → okQ labs Q i x
theorem quotas_sorted {labs : List Lb} : ∀ {Q : List Qt}, QuotasR labs Q → (Q.map (·.1)).Pairwise ltB
  | [], _ => List.Pairwise.nil
  | [x], _ => List.pairwise_singleton _ _
  | x :: y :: t, h => by
    have ht : QuotasR labs (y :: t) := fun i z hz => by
      obtain ⟨h1, h2, h3⟩ := h (i + 1) z (by simpa using hz)
      refine ⟨h1, h2, fun hi w hw => h3 (by omega) w ?_⟩
      show (x :: y :: t)[i]? = some w
      obtain ⟨i', rfl⟩ : ∃ i', i = i' + 1 := ⟨i - 1, by omega⟩
      simpa using hw
    have hp := quotas_sorted ht
    rw [List.map_cons]
    refine List.pairwise_cons.2 ⟨fun a ha => ?_, hp⟩
    have hxy : ltB x.1 y.1 := (h 1 y rfl).2.2 (by omega) x rfl
    rw [List.map_cons] at ha hp
    rcases List.mem_cons.1 ha with e | e
    · rw [e]; exact hxy
    · exact ltB_trans hxy ((List.pairwise_cons.1 hp).1 a e)
theorem quotas_len {labs : List Lb} {Q : List Qt} (hl : labs.Pairwise ltB) (h : QuotasR labs Q) : Q.length ≤ labs.length := by
  refine Nat.le_trans (Nat.le_of_eq (show (Q.map (·.1)).length = Q.length from List.length_map _).symm) ?_
  refine sorted_len (quotas_sorted h) hl fun a ha => ?_
  obtain ⟨x, hx, rfl⟩ := List.mem_map.1 ha
  obtain ⟨i, hi⟩ := List.getElem?_of_mem hx
  exact (h i x hi).1
end Go.Proofs.YtelhmacfljffhaaGreat.CfC
end
section
namespace Go.Proofs.YtelhmacfljffhaaGreat.RepC
open Go.RowKit RowC ValC SpanC KeptC CfC
set_option linter.unusedVariables false
set_option linter.unusedSimpArgs false
set_option maxRecDepth 100000 in
set_option maxHeartbeats 1600000 in
theorem labs_spec {C : List (List D_Label)} {a : Option Addr} {cap : Nat} {W : World} (h : RdSl (Sl R_Label) W W.heap.size C a cap) :
    Calls Tryz.prog 28 #[.slice a C.length cap] W (NewS R_Label (labsOf C) W) := by
  have hn : C.length ≤ 9223372036854775807 := by have h1 := h.1; have h2 := h.2.1; unfold maxLen at h2; omega
  have H := Lib.hid h
  clear h
  go_enter Tryz.func28, Tryz.ntmps28
  go_wp2
  go_loopw [3, 4] (fun v i wr => ∃ k lo : Nat, k ≤ 32 ∧ i = .int .i64 k ∧ W.heap.size ≤ lo ∧ lo ≤ wr.heap.size ∧ Hid (BRow wr lo v (labsTo C k)) ∧ Below W.heap.size W wr) (fun _ i _ => 32 - (intOf i).toNat)
  case atStart => exact ⟨0, W.heap.size, by omega, rfl, Nat.le_refl _, by simp, Lib.hid (FRow.made _ _ _ _), (Below.refl _ _).alloc (Nat.le_refl _) _⟩
  case round =>
    obtain ⟨k, lo, hk, rfl, hlo, hlw, HV, hB⟩ := hrel
    obtain ⟨wo, rfl⟩ : ∃ x, x = wr := ⟨_, rfl⟩
    have HB := Lib.hid hB
    have hsz := hB.size
    clear hB
    obtain ⟨va, vc, rfl⟩ := HV.out.isSlice
    by_cases hlt : k < 32
    · have hd : decide ((k : Int) < 32) = true := decide_eq_true (by omega)
      obtain ⟨l, hl⟩ : ∃ l : Int, l = (k : Int) / 8 := ⟨_, rfl⟩
      obtain ⟨s, hs⟩ : ∃ s : Int, s = (k : Int) % 8 := ⟨_, rfl⟩
      have hLA := Lib.hid (show labAt k = (l, s) from by unfold labAt; rw [hl, hs]; rfl)
      obtain ⟨w1, hw1⟩ : ∃ w, w = wo.alloc (.cells #[.int .i64 ((k : Int) / 8), .int .i64 ((k : Int) % 8)] 67) := ⟨_, rfl⟩
      have hbA : Below wo.heap.size wo w1 := by rw [hw1]; exact (Below.refl _ _).alloc (Nat.le_refl _) _
      have HP1 := Lib.hid (show Blk w1 wo.heap.size 67 #[.int .i64 l, .int .i64 s] from by rw [hw1, hl, hs]; exact Blk.new _ _ _)
      clear hl hs
      have HB1 := Lib.hid (HB.out.trans (hbA.mono hsz))
      have HV1 := Lib.hid (HV.out.call hbA)
      have hz1 := HB1.out.size
      have hzA := hbA.size
      clear HV
      go_wp2
      rw [← hw1]
      clear hw1
      go_loopw [6, 7] (fun f i wr => ∃ (j : Nat) (b : Bool), j ≤ C.length ∧ i = .int .i64 j ∧ f = .bool b ∧ Hid (b = true ↔ ∃ x ∈ C.take j, (l, s) ∈ x) ∧ Below w1.heap.size w1 wr) (fun _ i _ => C.length - (intOf i).toNat)
      case atStart => exact ⟨0, false, Nat.zero_le _, rfl, rfl, Lib.hid (by simp), Below.refl _ _⟩
      case round =>
        obtain ⟨j, b, hj, rfl, rfl, HQ0, hB⟩ := hrel
        have HB2 := Lib.hid hB
        have HB3 := Lib.hid (HB1.out.trans (hB.mono hz1))
        have HP3 := Lib.hid (HP1.out.call hB)
        have hz2 := hB.size
        clear hB
        by_cases hjl : j < C.length
        · have hd2 : decide ((j : Int) < (C.length : Int)) = true := decide_eq_true (by omega)
          obtain ⟨x, hx⟩ := el_some hjl
          have HX := Lib.hid (show C.take (j + 1) = C.take j ++ [x] from by rw [List.take_add_one, hx]; rfl)
          cases b with
          | true =>
            have HQ1 := Lib.hid (show ∃ x ∈ C.take (j + 1), (l, s) ∈ x from by
              obtain ⟨y, hy, hm⟩ := HQ0.out.1 rfl
              exact ⟨y, by rw [HX.out]; exact List.mem_append_left _ hy, hm⟩)
            clear hx
            go_wp2_with fail
            refine wp_region_held_drew (S := (fun V => Below (wr).heap.size (wr) V)) (by kernel_rfl) ((Below.refl _ _).drew) (fun hHeld => ?_)
            refine tk 0 hHeld ?_
            refine tk 1 hHeld ?_
            refine tn 2 hHeld ?_
            refine tn 3 hHeld ?_
            refine tn 4 hHeld ?_
            refine tn 5 hHeld ?_
            refine tn 6 hHeld ?_
            refine tn 7 hHeld ?_
            refine tk 8 hHeld ?_
            refine tk 9 hHeld ?_
            refine rd0 ?_
            have HF := Lib.hid hHeld
            clear hHeld
            have HB4 := Lib.hid (HB2.out.trans (HF.out.mono hz2))
            clear HF
            go_wp2
            go_roundw
            case rel => exact ⟨j + 1, true, by omega, by go_num, rfl, Lib.hid ⟨fun _ => HQ1.out, fun _ => rfl⟩, HB4.out⟩
            case measure => simp [intOf]; omega
          | false =>
            obtain ⟨g, o, us, rfl, hg, hu, hr⟩ := (H.out.below (Sl_ok R_Label_ok) HB3.out).at_ hx
            obtain ⟨a1, c1, rfl, k_x⟩ := hr
            have e0 : wr.cell? ⟨g, o + j, none⟩ = some (.slice a1 x.length c1) := by simpa [size_SLab] using hu 0 _ rfl
            have hi0 : (0 : Int) ≤ (j : Int) := Int.natCast_nonneg _
            have hi1 : (j : Int) < (C.length : Int) := by omega
            have HG := Lib.hid (show g < wr.heap.size by omega)
            have HK := Lib.hid (k_x.more R_Label_ok (show W.heap.size ≤ wr.heap.size by omega))
            clear hx hu k_x hg
            go_wp2_with fail
            refine wp_region_held_drew (S := (fun V => Below (wr).heap.size (wr) V)) (by kernel_rfl) ((Below.refl _ _).drew) (fun hHeld => ?_)
            refine tk 0 hHeld ?_
            refine tk 1 hHeld ?_
            refine tk 2 hHeld ?_
            refine tk 3 hHeld ?_
            refine tk 4 hHeld ?_
            refine tk 5 hHeld ?_ (hy := fun w hSw => by (try dsimp only at hSw); have k0 := (hSw.cell (p := ⟨g, o + j, none⟩) HG.out).trans e0; clear hSw; go_simp; try with_reducible rfl)
            refine tk 6 hHeld ?_ (hy := fun w hSw => by (try dsimp only at hSw); have k0 := (hSw.cell (p := ⟨wo.heap.size, 0, none⟩) HP3.out.lt).trans (HP3.out.at_ 0 rfl); have k1 := (hSw.cell (p := ⟨wo.heap.size, 1, none⟩) HP3.out.lt).trans (HP3.out.at_ 1 rfl); clear hSw; go_simp; try with_reducible rfl)
            refine rd1 7 (fun K hK => ?_)
            go_simp
            go_at_call 29
            refine (cleared_spec (rd_mv R_Label_ok HK.out hHeld)).mono ?_
            intro e w4 h
            obtain ⟨q, rfl, hq2, hb⟩ := resB_elim h
            have HQ := Lib.hid hq2
            clear h hq2
            refine hK.out _ _ (hHeld.trans (hb.mono hHeld.size)) (fun hHeld => ?_)
            clear hK K hb
            refine tk 8 hHeld ?_
            refine tk 9 hHeld ?_
            refine rd0 ?_
            have HF := Lib.hid hHeld
            clear hHeld
            have HQ1 := Lib.hid (show q = true ↔ ∃ x ∈ C.take (j + 1), (l, s) ∈ x from by
              rw [HX.out, HQ.out]
              constructor
              · intro hm; exact ⟨x, List.mem_append_right _ (List.mem_singleton.2 rfl), hm⟩
              · rintro ⟨y, hy, hm⟩
                rcases List.mem_append.1 hy with hy | hy
                · exact absurd (HQ0.out.2 ⟨y, hy, hm⟩) (by simp)
                · rw [List.mem_singleton] at hy; subst hy; exact hm)
            have HB4 := Lib.hid (HB2.out.trans (HF.out.mono hz2))
            clear HF
            go_wp2
            go_roundw
            case rel => exact ⟨j + 1, q, by omega, by go_num, rfl, HQ1, HB4.out⟩
            case measure => simp [intOf]; omega
        · have hd2 : decide ((j : Int) < (C.length : Int)) = false := decide_eq_false (by omega)
          have HT := Lib.hid (show C.take j = C from List.take_of_length_le (by omega))
          have HV3 := Lib.hid (HV1.out.call HB2.out)
          cases b with
          | false =>
            have HE := Lib.hid (show labsTo C (k + 1) = labsTo C k from labsTo_no (by
              rw [hLA.out]; intro hm
              rw [← HT.out] at hm
              exact absurd (HQ0.out.2 hm) (by simp)))
            go_wp2
            go_roundw
            case rel => exact ⟨k + 1, lo, by omega, by go_num, hlo, by omega, Lib.hid (by rw [HE.out]; exact HV3.out), HB3.out⟩
            case measure => simp [intOf]; omega
          | true =>
            have HE := Lib.hid (show labsTo C (k + 1) = labsTo C k ++ [(l, s)] from by
              rw [← hLA.out]
              refine labsTo_yes ?_
              rw [hLA.out]
              have := HQ0.out.1 rfl
              rw [HT.out] at this
              exact this)
            have q0 := HP3.out.at_ 0 rfl
            have q1 := HP3.out.at_ 1 rfl
            obtain ⟨w5, hw5⟩ : ∃ w, w = wr.alloc (.cells #[.int .i64 l, .int .i64 s] 67) := ⟨_, rfl⟩
            have hbB : Below wr.heap.size wr w5 := by rw [hw5]; exact (Below.refl _ _).alloc (Nat.le_refl _) _
            have HP5 : Blk w5 wr.heap.size 67 #[.int .i64 l, .int .i64 s] := by rw [hw5]; exact Blk.new _ _ _
            have hlen := labsTo_len C k
            have hz5 := hbB.size
            obtain ⟨a', c', w6, hrun, hrow, hb6⟩ := BRow.more (HV3.out.call hbB) (rd_oneL l s HP5) (show lo ≤ w5.heap.size by omega) (by simp only [List.length_singleton]; omega)
            have HR := Lib.hid hrun
            have HV6 := Lib.hid hrow
            have HB6 := Lib.hid ((HB3.out.trans (hbB.mono (by omega))).trans (hb6.mono (by omega)))
            have hz6 := hb6.size
            rw [hw5] at HR
            have HW5 := Lib.hid hw5
            clear hrun hrow hb6 hbB HP5 hw5
            go_wp2_with (at_builtin; refine wpList_app rfl (.tmp 34) (.tmp 36) 72 rfl rfl rfl HR.out ?_)
            go_roundw
            case rel => exact ⟨k + 1, lo, by omega, by go_num, hlo, by omega, Lib.hid (by rw [HE.out]; simpa using HV6.out), HB6.out⟩
            case measure => simp [intOf]; omega
    · have hd : decide ((k : Int) < 32) = false := decide_eq_false (by omega)
      obtain rfl : k = 32 := by omega
      go_wp2
      go_ret
      exact FRow.news R_Label_ok flat_Label HV.out hlo HB.out
end Go.Proofs.YtelhmacfljffhaaGreat.RepC
end
section
namespace Go.Proofs.YtelhmacfljffhaaGreat.LiftL
open Go.ChangeShapes Go.WideShapes Go.ChangeAt Go.RowKit Go.Joins
section
variable {H : Type} {enc : TypeId × Value → H} {P : Program}
def allRead (P : Program) (ts : List TypeId) : Bool := ts.all fun t => P.readableRec t && decide (t < P.types.size)
theorem trodAll_stays (hl : laidOutB P = true) {W W' : World} (hb : Below W.heap.size W W') : ∀ (ts : List TypeId) (vs : List Value) (ds : List (DataW H)) (ps : List MemPlace), allRead P ts = true →
    DataW.TrodAll enc P W 0 (fun _ => true) true ts vs ds ps → DataW.TrodAll enc P W' 0 (fun b => decide (b < W.heap.size)) true ts vs ds ps
  | [], vs, ds, ps, _, h => by
    obtain ⟨rfl, rfl, rfl⟩ := trodAll_nil h
    exact trodAll_mk0
  | t :: ts, vs, ds, ps, hr, h => by
    obtain ⟨v, vs', d, ds', p, q, rfl, rfl, rfl, h1, h2⟩ := trodAll_cons h
    have hr' : (P.readableRec t = true ∧ t < P.types.size) ∧ allRead P ts = true := by
      unfold allRead at hr
      simpa [List.all_cons, allRead] using hr
    have lt : ∀ x ∈ p, x.block < W.heap.size := by obtain ⟨m, hm⟩ := h1; exact DataW.trod_lt m _ _ _ hm
    exact trodAll_cons_mk (Below.trod hl hr'.1.1 hr'.1.2 h1 hb lt) (trodAll_stays hl hb ts vs' ds' q hr'.2 h2)
theorem var_stays {W W' : World} (hb : Below W.heap.size W W') {n : String} {g : Nat} {cs : Array Value} (hg : P.globalNamed n = some g) (h : W.var? P n = some cs) : W'.var? P n = some cs := by
  have hlt : g < W.heap.size := by
    simp only [World.var?, hg, Option.bind_some] at h
    cases hw : W.heap[g]? with
    | none => rw [hw] at h; simp at h
    | some o => exact (Array.getElem?_eq_some_iff.1 hw).1
  simp only [World.var?, hg, Option.bind_some] at h ⊢
  rw [hb.block g hlt]
  exact h
def varsRead (P : Program) (ns : List String) : Bool := ns.all fun n => match (P.globalNamed n).bind (fun g => (P.globals[g]?).map (·.type)) with | some t => P.readableRec t && decide (t < P.types.size) | none => false
theorem trodVars_stays (hl : laidOutB P = true) {W W' : World} (hb : Below W.heap.size W W') : ∀ (ns : List String) (gs : List (DataW H)) (ps : List MemPlace), varsRead P ns = true →
    DataW.TrodVars enc P W (fun _ => true) ns gs ps → DataW.TrodVars enc P W' (fun b => decide (b < W.heap.size)) ns gs ps
  | [], gs, ps, _, h => by
    obtain ⟨rfl, rfl⟩ := trodVars_none h
    exact rfl
  | n :: ns, [], ps, _, h => by cases h
  | n :: ns, d :: gs, ps, hr, h => by
    obtain ⟨g, t, cs, fuel, p, q, h1, h2, h3, h4, h5, rfl⟩ := h
    have hr' : (P.readableRec t = true ∧ t < P.types.size) ∧ varsRead P ns = true := by
      unfold varsRead at hr
      rw [List.all_cons, Bool.and_eq_true] at hr
      have h0 := hr.1
      rw [h1, Option.bind_some, h2] at h0
      simp only [Bool.and_eq_true, decide_eq_true_eq] at h0
      exact ⟨h0, hr.2⟩
    have lt : ∀ x ∈ p, x.block < W.heap.size := DataW.trod_lt fuel _ _ _ h4
    obtain ⟨fuel', h6⟩ := Below.trod hl hr'.1.1 hr'.1.2 (v := .agg cs) (d := d) (ps := p) ⟨fuel, h4⟩ hb lt
    exact ⟨g, t, cs, fuel', p, q, h1, h2, var_stays hb h1 h3, h6, trodVars_stays hl hb ns gs q hr'.2 h5, rfl⟩
theorem post_law {f : Func} {s : ChangeSpec} {W W' : World} {args : Array Value} {ds gs : List (DataW H)} {before : List MemPlace} {tb : TypeId} (hspec : s.fn H (ds ++ gs) = { results := [.lit (.bool true)], args := ds, vars := gs })
    (hl : laidOutB P = true) (hr : allRead P f.params.toList = true) (hv : varsRead P s.vars = true) (hres : f.resultTypes = #[tb]) (hbool : P.underlying tb = some .bool)
    (hW : DataW.Whole enc P f.params.toList s.vars false W args.toList ds gs before) (hb : Below W.heap.size W W') : s.post enc P f false true false false W args (.bool true) W' := by
  have hW' := hW
  obtain ⟨p, q, hA, hV, rfl, _, _⟩ := hW
  refine ⟨ds, gs, _, [], p, q, hW', ?_, ?_, ?_, hb.frame _, fun h => by cases h⟩
  · rw [hspec, hres]
    exact trodAll_mk1 (shut_bool hbool _)
  · rw [hspec]
    exact trodAll_stays hl hb _ _ _ _ hr hA
  · rw [hspec]
    exact trodVars_stays hl hb _ _ _ hv hV
end
end Go.Proofs.YtelhmacfljffhaaGreat.LiftL
end
section
namespace Go.Proofs.YtelhmacfljffhaaGreat.RepC
open Go.ChangeShapes Go.WideShapes Go.ChangeAt Go.RowKit Go.Joins Go.Deep RowC ValC
set_option linter.unusedVariables false
set_option maxRecDepth 100000
def Opn {α : Type} (E : Rp α) (t : TypeId) : Prop := ∀ {H : Type} (enc : TypeId × Value → H) (W : World) (fuel : Nat) (cs : List Value) (y : DataW H × List MemPlace), DataW.trod enc Tryz.prog W 0 (fun _ => true) true fuel t cs = some y → ∃ d, E.rd W W.heap.size d cs
theorem opn_int {t : TypeId} (ht : Tryz.prog.underlying t = some (.int .i64)) : Opn I t := fun enc W fuel cs y h => by
  obtain ⟨n, rfl, _, _⟩ := DataW.trod_int ht h
  exact ⟨n, rfl⟩
theorem add_addr (b o k : Nat) : (⟨b, o, none⟩ : Addr).add k = ⟨b, o + k, none⟩ := by
  unfold Addr.add; split
  · rename_i hz; rw [hz]; rfl
  · rfl
theorem opn_sl {α : Type} {E : Rp α} {t e : TypeId} (hE : Opn E e) (hp : 0 < E.size) (ht : Tryz.prog.underlying t = some (.slice e)) (hc : Tryz.prog.cellsOf e = E.size) : Opn (Sl E) t := fun enc W fuel cs y h => by
  rcases open_slice ht h with ⟨rfl, _⟩ | ⟨x, n, cap, m, k, D, Pl, rfl, _, hl, hm, hmm, _, hi⟩
  · exact ⟨[], none, 0, rfl, Nat.le_refl _, Nat.zero_le _, fun h => absurd h (Nat.lt_irrefl _)⟩
  · simp only [if_true] at hmm
    rw [hc] at hi
    have hone : ∀ i, i < n → ∃ d us, us.length = E.size ∧ (∀ j, j < E.size → W.cell? ((x.add (i * E.size)).add j) = us[j]?) ∧ E.rd W W.heap.size d us := fun i hin => by
      obtain ⟨us, h1, h2⟩ := hi i (by omega)
      obtain ⟨_, h3, h4⟩ := World.cells?_some h1
      obtain ⟨d, hd⟩ := hE enc W k us _ h2
      exact ⟨d, us, h3, h4, hd⟩
    by_cases hn : n = 0
    · subst hn
      exact ⟨[], some x, cap, rfl, hl, hm, fun h => absurd h (Nat.lt_irrefl _)⟩
    · obtain ⟨d0, us0, l0, c0, _⟩ := hone 0 (by omega)
      have e0 : (x.add (0 * E.size)).add 0 = x := by simp [Addr.add]
      have h0 := c0 0 hp
      rw [e0] at h0
      have hu : ∃ u, us0[0]? = some u := ⟨us0[0], List.getElem?_eq_getElem (by omega)⟩
      obtain ⟨u, hu⟩ := hu
      rw [hu] at h0
      have hsp : x.spot = none := by
        cases hs : x.spot with
        | none => rfl
        | some s => simp [World.cell?, hs] at h0; split at h0 <;> simp at h0
      obtain ⟨b, off, sp⟩ := x
      simp only at hsp
      subst hsp
      have hb := World.block_lt_of_cell? W ⟨b, off, none⟩ h0
      have hall : ∀ q, q ≤ n → ∃ L : List α, L.length = q ∧ ∀ i d, L[i]? = some d → ∃ us, CellsAt W b (off + i * E.size) us ∧ E.rd W W.heap.size d us := by
        intro q
        induction q with
        | zero => exact fun _ => ⟨[], rfl, fun i d hd => by simp at hd⟩
        | succ q ih =>
          intro hq
          obtain ⟨L, hL, hall⟩ := ih (by omega)
          obtain ⟨d, us, hus, hcs, hd⟩ := hone q (by omega)
          refine ⟨L ++ [d], by simp [hL], fun i z hz => ?_⟩
          by_cases hi : i < L.length
          · rw [List.getElem?_append_left hi] at hz
            exact hall i z hz
          · rw [List.getElem?_append_right (by omega)] at hz
            have hi2 : i = q := by
              have := (List.getElem?_eq_some_iff.1 hz).1
              simp at this
              omega
            subst hi2
            simp [hL] at hz
            subst hz
            refine ⟨us, fun j c hj => ?_, hd⟩
            have hj2 := (List.getElem?_eq_some_iff.1 hj).1
            have := hcs j (by omega)
            rw [add_addr, add_addr, hj] at this
            exact this
      obtain ⟨L, hL, hel⟩ := hall n (Nat.le_refl _)
      subst hL
      exact ⟨L, some ⟨b, off, none⟩, cap, rfl, hl, hm, fun _ => ⟨b, off, rfl, hb, hel⟩⟩
theorem fld {H : Type} {enc : TypeId × Value → H} {W : World} {n : Nat} {cs : List Value} {fs : Array Field} {xs : List (DataW H × List MemPlace)} (hf : ∀ (i : Nat) (f : Field), fs[i]? = some f → DataW.trod enc Tryz.prog W 0 (fun _ => true) true n f.type ((cs.drop f.offset).take (Tryz.prog.cellsOf f.type)) = xs[i]?)
    (i : Nat) (t o k : Nat) (h : fs[i]?.map (fun f => (f.type, f.offset)) = some (t, o)) (hc : Tryz.prog.cellsOf t = k) : DataW.trod enc Tryz.prog W 0 (fun _ => true) true n t ((cs.drop o).take k) = xs[i]? := by
  cases e : fs[i]? with
  | none => rw [e] at h; cases h
  | some f =>
    rw [e] at h
    simp only [Option.map_some, Option.some.injEq, Prod.mk.injEq] at h
    obtain ⟨rfl, rfl⟩ := h
    subst hc
    exact hf i f e
theorem open_st {α : Type} {E : Rp α} {t : TypeId} {fs : Array Field} (hO : Opn E t) (ht : Tryz.prog.underlying t = some (.struct fs)) {H : Type} {enc : TypeId × Value → H} {W : World} {base : Nat} {v : Value} {d : DataW H} {p : List MemPlace} (o : Value.okWide Tryz.prog W .any base t v)
    (h : DataW.Trod enc Tryz.prog W 0 (fun _ => true) true t v d p) : ∃ (x : α) (cs : List Value), v = .agg cs.toArray ∧ E.rd W W.heap.size x cs := by
  obtain ⟨cs, rfl, _⟩ := okWide_struct ht o
  obtain ⟨fuel, hf⟩ := h
  obtain ⟨x, hx⟩ := hO enc W fuel _ _ hf
  exact ⟨x, cs.toList, rfl, hx⟩
end Go.Proofs.YtelhmacfljffhaaGreat.RepC
end
section
namespace Go.Proofs.YtelhmacfljffhaaGreat.RepC
open Go.ChangeShapes Go.WideShapes Go.ChangeAt Go.RowKit Go.Joins Go.Deep RowC ValC
set_option linter.unusedVariables false
set_option maxRecDepth 100000
theorem c_int64 : Tryz.prog.cellsOf 2 = 1 := by kernel_rfl
theorem c_Label : Tryz.prog.cellsOf 108 = 2 := by kernel_rfl
theorem opn_i64 : Opn I 2 := opn_int Tryz.underlying2
theorem opn_Label : Opn R_Label 108 := fun enc W fuel cs y h => by
  obtain ⟨xs, n, _, _, hl, hlen, hf⟩ := DataW.trod_struct Tryz.underlying108 h
  rw [c_Label] at hl
  match cs, hl with
  | [c0, c1], _ =>
    have e2 : xs.length = 2 := hlen
    match xs, e2 with
    | [y0, y1], _ =>
      have g0 := fld hf 0 2 0 1 rfl c_int64
      have g1 := fld hf 1 2 1 1 rfl c_int64
      obtain ⟨d0, h0⟩ := opn_i64 enc W n [c0] y0 g0
      obtain ⟨d1, h1⟩ := opn_i64 enc W n [c1] y1 g1
      exact ⟨(d0, d1), [c0], [c1], rfl, h0, h1⟩
end Go.Proofs.YtelhmacfljffhaaGreat.RepC
end
section
namespace Go.Proofs.YtelhmacfljffhaaGreat.RepC
open Go.ChangeShapes Go.WideShapes Go.ChangeAt Go.RowKit Go.Joins Go.Deep RowC ValC
set_option linter.unusedVariables false
set_option maxRecDepth 100000
theorem c_LabelS : Tryz.prog.cellsOf 146 = 1 := by kernel_rfl
theorem c_LabelSS : Tryz.prog.cellsOf 22 = 1 := by kernel_rfl
theorem opn_LabelS : Opn (Sl R_Label) 146 := opn_sl opn_Label (by decide) Tryz.underlying146 c_Label
theorem opn_LabelSS : Opn (Sl (Sl R_Label)) 22 := opn_sl opn_LabelS (by decide) Tryz.underlying22 c_LabelS
end Go.Proofs.YtelhmacfljffhaaGreat.RepC
end
section
namespace Go.Proofs.YtelhmacfljffhaaGreat.RepC
open Go.RowKit RowC ValC
set_option linter.unusedVariables false
set_option linter.unusedSimpArgs false
theorem sizm_PairS : (R_Pair).size = 5 := rfl
set_option maxRecDepth 100000 in
set_option maxHeartbeats 3200000 in
theorem mark_PairS {L : List (D_Pair)} {a : Option Addr} {cap : Nat} {W : World} {S : Nat → Prop} {k : Int} (h0 : 0 ≤ k) (h1 : k + (sumL (R_Pair).cm L : Nat) ≤ 4611686018427387904) (hS : ∀ i, S i → i < W.heap.size) (h : OwSl R_Pair W S L a cap) : Calls Tryz.prog 60 #[.slice a L.length cap, .int .i64 k] W (MarkR R_Pair S L a cap k W) := by
  have hcap := h.1
  have hmax := h.2.1
  have hn : L.length ≤ 9223372036854775807 := by have h2 := h.2.1; unfold maxLen at h2; omega
  have H := Lib.hid h
  have HCAP := Lib.hid hcap
  have HMAX := Lib.hid hmax
  clear h hcap hmax
  rcases Nat.eq_zero_or_pos L.length with hz | hpos
  · have HR := Lib.hid (MarkR.none_ (k := k) H.out hz)
    have HZ := Lib.hid hz
    rw [hz]
    clear hz
    go_enter Tryz.func60, Tryz.ntmps60
    go_wp2
    go_loopw [5, 1] (fun i q wr => i = .int .i64 0 ∧ q = .int .i64 k ∧ wr = W) (fun i _ _ => 0)
    case atStart => exact ⟨rfl, rfl, rfl⟩
    case round =>
      obtain ⟨rfl, rfl, rfl⟩ := hrel
      go_wp2
      go_ret
      exact HR.out
  · obtain ⟨g, Sf, rfl, hrow⟩ := H.out.row hpos
    have HM := Lib.hid (Mkd.start (k := k) hrow)
    clear hrow
    go_enter Tryz.func60, Tryz.ntmps60
    go_wp2
    go_loopw [5, 1] (fun i q wr => ∃ j : Nat, j ≤ L.length ∧ i = .int .i64 j ∧ ∃ (M : List (D_Pair)) (z : Int), q = .int .i64 z ∧ Mkd R_Pair W wr S L g Sf k z j M) (fun i _ _ => L.length - (intOf i).toNat)
    case atStart => exact ⟨0, Nat.zero_le _, rfl, _, _, rfl, HM.out⟩
    case round =>
      obtain ⟨j, hj, rfl, M, z, rfl, hM⟩ := hrel
      have HM2 := Lib.hid hM
      have hSw : ∀ i, S i → i < wr.heap.size := fun i hi => Nat.lt_of_lt_of_le (hS i hi) hM.off.size
      have HSW := Lib.hid hSw
      by_cases hlt : j < L.length
      · obtain ⟨⟨⟨x0, x1⟩, ⟨x2, x3⟩, x4⟩, hx⟩ := el_some hlt
        have HX := Lib.hid hx
        have hcm := sumL_take (R_Pair).cm hx
        have hle := sumL_take_le (R_Pair).cm L (j + 1)
        have hnum := hM.num
        obtain ⟨us, hu, hr⟩ := hM.el hx
        obtain rfl := ow0_Pair hr
        have hgl : g < wr.heap.size := hSw g hM.row.own
        have hi0 : (0 : Int) ≤ (j : Int) := Int.natCast_nonneg _
        have hi1 : (j : Int) < (L.length : Int) := by omega
        have hz0 : 0 ≤ z := by omega
        have e0 : wr.cell? ⟨g, j * 5, none⟩ = some (.int .i64 x0) := by simpa [sizm_PairS, Nat.add_assoc] using hu 0 _ rfl
        have e1 : wr.cell? ⟨g, j * 5 + 1, none⟩ = some (.int .i64 x1) := by simpa [sizm_PairS, Nat.add_assoc] using hu 1 _ rfl
        have e2 : wr.cell? ⟨g, j * 5 + 2, none⟩ = some (.int .i64 x2) := by simpa [sizm_PairS, Nat.add_assoc] using hu 2 _ rfl
        have e3 : wr.cell? ⟨g, j * 5 + 3, none⟩ = some (.int .i64 x3) := by simpa [sizm_PairS, Nat.add_assoc] using hu 3 _ rfl
        have e4 : wr.cell? ⟨g, j * 5 + 4, none⟩ = some (.int .i64 x4) := by simpa [sizm_PairS, Nat.add_assoc] using hu 4 _ rfl
        have s0 := hM.row.soft (j * 5)
        have s1 := hM.row.soft (j * 5 + 1)
        have s2 := hM.row.soft (j * 5 + 2)
        have s3 := hM.row.soft (j * 5 + 3)
        have s4 := hM.row.soft (j * 5 + 4)
        have hcx : R_Pair.cm ((x0, x1), (x2, x3), x4) = 5 := by first | (simp only [R_Pair, R_Label, R_Label, Pr, I, atom, Sl]; done) | (simp only [R_Pair, R_Label, R_Label, Pr, I, atom, Sl]; omega)
        rw [hcm, hcx] at hle
        have hb1 : z + ((5 : Nat) : Int) ≤ 4611686018427387904 := by omega
        have hne : ¬ Sf j g := fun hg => (HM2.out.row.sub j g hg).2 rfl
        have HU0 := Lib.hid (Upd.refl wr g (j * 5) ((j + 1) * 5) (Sf j))
        have HF0 := Lib.hid (Off.refl S wr)
        clear hM hSw hx hu hcm hle hnum
        have hc := putCells_cells g [.int .i64 (z), .int .i64 (z + 1), .int .i64 (z + 1 + 1), .int .i64 (z + 1 + 1 + 1), .int .i64 (z + 1 + 1 + 1 + 1)] wr (j * 5) (fun p hp => by
          match p, hp with
          | 0, _ => exact ⟨_, by simpa [Nat.add_assoc] using e0⟩
          | 1, _ => exact ⟨_, by simpa [Nat.add_assoc] using e1⟩
          | 2, _ => exact ⟨_, by simpa [Nat.add_assoc] using e2⟩
          | 3, _ => exact ⟨_, by simpa [Nat.add_assoc] using e3⟩
          | 4, _ => exact ⟨_, by simpa [Nat.add_assoc] using e4⟩
          | _ + 5, hp => simp at hp; omega)
        have d0 : (putCells wr g (j * 5) [.int .i64 (z), .int .i64 (z + 1), .int .i64 (z + 1 + 1), .int .i64 (z + 1 + 1 + 1), .int .i64 (z + 1 + 1 + 1 + 1)]).cell? ⟨g, j * 5, none⟩ = some (.int .i64 (z)) := by simpa [Nat.add_assoc] using hc 0 _ rfl
        have d1 : (putCells wr g (j * 5) [.int .i64 (z), .int .i64 (z + 1), .int .i64 (z + 1 + 1), .int .i64 (z + 1 + 1 + 1), .int .i64 (z + 1 + 1 + 1 + 1)]).cell? ⟨g, j * 5 + 1, none⟩ = some (.int .i64 (z + 1)) := by simpa [Nat.add_assoc] using hc 1 _ rfl
        have d2 : (putCells wr g (j * 5) [.int .i64 (z), .int .i64 (z + 1), .int .i64 (z + 1 + 1), .int .i64 (z + 1 + 1 + 1), .int .i64 (z + 1 + 1 + 1 + 1)]).cell? ⟨g, j * 5 + 2, none⟩ = some (.int .i64 (z + 1 + 1)) := by simpa [Nat.add_assoc] using hc 2 _ rfl
        have d3 : (putCells wr g (j * 5) [.int .i64 (z), .int .i64 (z + 1), .int .i64 (z + 1 + 1), .int .i64 (z + 1 + 1 + 1), .int .i64 (z + 1 + 1 + 1 + 1)]).cell? ⟨g, j * 5 + 3, none⟩ = some (.int .i64 (z + 1 + 1 + 1)) := by simpa [Nat.add_assoc] using hc 3 _ rfl
        have d4 : (putCells wr g (j * 5) [.int .i64 (z), .int .i64 (z + 1), .int .i64 (z + 1 + 1), .int .i64 (z + 1 + 1 + 1), .int .i64 (z + 1 + 1 + 1 + 1)]).cell? ⟨g, j * 5 + 4, none⟩ = some (.int .i64 (z + 1 + 1 + 1 + 1)) := by simpa [Nat.add_assoc] using hc 4 _ rfl
        have t0 : (putCells wr g (j * 5) [.int .i64 (z), .int .i64 (z + 1), .int .i64 (z + 1 + 1), .int .i64 (z + 1 + 1 + 1), .int .i64 (z + 1 + 1 + 1 + 1)]).frozen? ⟨g, j * 5, none⟩ = false := (putCells_frozen g _ _ wr _).trans s0
        have t1 : (putCells wr g (j * 5) [.int .i64 (z), .int .i64 (z + 1), .int .i64 (z + 1 + 1), .int .i64 (z + 1 + 1 + 1), .int .i64 (z + 1 + 1 + 1 + 1)]).frozen? ⟨g, j * 5 + 1, none⟩ = false := (putCells_frozen g _ _ wr _).trans s1
        have t2 : (putCells wr g (j * 5) [.int .i64 (z), .int .i64 (z + 1), .int .i64 (z + 1 + 1), .int .i64 (z + 1 + 1 + 1), .int .i64 (z + 1 + 1 + 1 + 1)]).frozen? ⟨g, j * 5 + 2, none⟩ = false := (putCells_frozen g _ _ wr _).trans s2
        have t3 : (putCells wr g (j * 5) [.int .i64 (z), .int .i64 (z + 1), .int .i64 (z + 1 + 1), .int .i64 (z + 1 + 1 + 1), .int .i64 (z + 1 + 1 + 1 + 1)]).frozen? ⟨g, j * 5 + 3, none⟩ = false := (putCells_frozen g _ _ wr _).trans s3
        have t4 : (putCells wr g (j * 5) [.int .i64 (z), .int .i64 (z + 1), .int .i64 (z + 1 + 1), .int .i64 (z + 1 + 1 + 1), .int .i64 (z + 1 + 1 + 1 + 1)]).frozen? ⟨g, j * 5 + 4, none⟩ = false := (putCells_frozen g _ _ wr _).trans s4
        have HU1 := Lib.hid (HU0.out.trans (Upd.put wr (Sf j) (g := g) (o := j * 5) (cs := [.int .i64 (z), .int .i64 (z + 1), .int .i64 (z + 1 + 1), .int .i64 (z + 1 + 1 + 1), .int .i64 (z + 1 + 1 + 1 + 1)]) ⟨by omega, by first | (simp; done) | (simp; omega)⟩))
        have HF1 := Lib.hid (HF0.out.trans ((putCells_off g [.int .i64 (z), .int .i64 (z + 1), .int .i64 (z + 1 + 1), .int .i64 (z + 1 + 1 + 1), .int .i64 (z + 1 + 1 + 1 + 1)] wr (j * 5)).more (fun x e => by rw [e]; exact HM2.out.row.own)))
        clear hc
        have hcf : CellsAt (putCells wr g (j * 5) [.int .i64 (z), .int .i64 (z + 1), .int .i64 (z + 1 + 1), .int .i64 (z + 1 + 1 + 1), .int .i64 (z + 1 + 1 + 1 + 1)]) g (j * 5) [.int .i64 (z), .int .i64 (z + 1), .int .i64 (z + 1 + 1), .int .i64 (z + 1 + 1 + 1), .int .i64 (z + 1 + 1 + 1 + 1)] := CellsAt.cons.2 ⟨d0, CellsAt.cons.2 ⟨d1, CellsAt.cons.2 ⟨d2, CellsAt.cons.2 ⟨d3, CellsAt.cons.2 ⟨d4, CellsAt.nil⟩⟩⟩⟩⟩
        have HSTEP := Lib.hid (HM2.out.step R_Pair_ok (w' := (putCells wr g (j * 5) [.int .i64 (z), .int .i64 (z + 1), .int .i64 (z + 1 + 1), .int .i64 (z + 1 + 1 + 1), .int .i64 (z + 1 + 1 + 1 + 1)])) (y := ((z, z + 1), (z + 1 + 1, z + 1 + 1 + 1), z + 1 + 1 + 1 + 1)) (q' := z + 1 + 1 + 1 + 1 + 1) HSW.out HX.out HU1.out HF1.out hcf (mkow_Pair) (mmk_Pair) (by rw [hcx]; omega))
        clear d0 t0 d1 t1 d2 t2 d3 t3 d4 t4
        have hzb : 0 ≤ z + 1 + 1 + 1 + 1 + 1 ∧ z + 1 + 1 + 1 + 1 + 1 ≤ 4611686018427387904 := by omega
        clear hcf hcx
        go_wp2
        go_roundw
        case rel => exact ⟨j + 1, by omega, by go_num, _, _, rfl, by first | exact HSTEP.out | simpa [putCells, Nat.add_assoc, Int.add_assoc] using HSTEP.out⟩
        case measure => simp [intOf]; omega
      · obtain rfl : j = L.length := by omega
        have HR := Lib.hid (HM2.out.done HCAP.out HMAX.out)
        clear hM hSw
        go_wp2
        go_ret
        exact HR.out
theorem sizm_QuotaS : (R_Quota).size = 3 := rfl
set_option maxRecDepth 100000 in
set_option maxHeartbeats 3200000 in
theorem mark_QuotaS {L : List (D_Quota)} {a : Option Addr} {cap : Nat} {W : World} {S : Nat → Prop} {k : Int} (h0 : 0 ≤ k) (h1 : k + (sumL (R_Quota).cm L : Nat) ≤ 4611686018427387904) (hS : ∀ i, S i → i < W.heap.size) (h : OwSl R_Quota W S L a cap) : Calls Tryz.prog 61 #[.slice a L.length cap, .int .i64 k] W (MarkR R_Quota S L a cap k W) := by
  have hcap := h.1
  have hmax := h.2.1
  have hn : L.length ≤ 9223372036854775807 := by have h2 := h.2.1; unfold maxLen at h2; omega
  have H := Lib.hid h
  have HCAP := Lib.hid hcap
  have HMAX := Lib.hid hmax
  clear h hcap hmax
  rcases Nat.eq_zero_or_pos L.length with hz | hpos
  · have HR := Lib.hid (MarkR.none_ (k := k) H.out hz)
    have HZ := Lib.hid hz
    rw [hz]
    clear hz
    go_enter Tryz.func61, Tryz.ntmps61
    go_wp2
    go_loopw [5, 1] (fun i q wr => i = .int .i64 0 ∧ q = .int .i64 k ∧ wr = W) (fun i _ _ => 0)
    case atStart => exact ⟨rfl, rfl, rfl⟩
    case round =>
      obtain ⟨rfl, rfl, rfl⟩ := hrel
      go_wp2
      go_ret
      exact HR.out
  · obtain ⟨g, Sf, rfl, hrow⟩ := H.out.row hpos
    have HM := Lib.hid (Mkd.start (k := k) hrow)
    clear hrow
    go_enter Tryz.func61, Tryz.ntmps61
    go_wp2
    go_loopw [5, 1] (fun i q wr => ∃ j : Nat, j ≤ L.length ∧ i = .int .i64 j ∧ ∃ (M : List (D_Quota)) (z : Int), q = .int .i64 z ∧ Mkd R_Quota W wr S L g Sf k z j M) (fun i _ _ => L.length - (intOf i).toNat)
    case atStart => exact ⟨0, Nat.zero_le _, rfl, _, _, rfl, HM.out⟩
    case round =>
      obtain ⟨j, hj, rfl, M, z, rfl, hM⟩ := hrel
      have HM2 := Lib.hid hM
      have hSw : ∀ i, S i → i < wr.heap.size := fun i hi => Nat.lt_of_lt_of_le (hS i hi) hM.off.size
      have HSW := Lib.hid hSw
      by_cases hlt : j < L.length
      · obtain ⟨⟨⟨x0, x1⟩, x2⟩, hx⟩ := el_some hlt
        have HX := Lib.hid hx
        have hcm := sumL_take (R_Quota).cm hx
        have hle := sumL_take_le (R_Quota).cm L (j + 1)
        have hnum := hM.num
        obtain ⟨us, hu, hr⟩ := hM.el hx
        obtain rfl := ow0_Quota hr
        have hgl : g < wr.heap.size := hSw g hM.row.own
        have hi0 : (0 : Int) ≤ (j : Int) := Int.natCast_nonneg _
        have hi1 : (j : Int) < (L.length : Int) := by omega
        have hz0 : 0 ≤ z := by omega
        have e0 : wr.cell? ⟨g, j * 3, none⟩ = some (.int .i64 x0) := by simpa [sizm_QuotaS, Nat.add_assoc] using hu 0 _ rfl
        have e1 : wr.cell? ⟨g, j * 3 + 1, none⟩ = some (.int .i64 x1) := by simpa [sizm_QuotaS, Nat.add_assoc] using hu 1 _ rfl
        have e2 : wr.cell? ⟨g, j * 3 + 2, none⟩ = some (.int .i64 x2) := by simpa [sizm_QuotaS, Nat.add_assoc] using hu 2 _ rfl
        have s0 := hM.row.soft (j * 3)
        have s1 := hM.row.soft (j * 3 + 1)
        have s2 := hM.row.soft (j * 3 + 2)
        have hcx : R_Quota.cm ((x0, x1), x2) = 3 := by first | (simp only [R_Quota, R_Label, Pr, I, atom, Sl]; done) | (simp only [R_Quota, R_Label, Pr, I, atom, Sl]; omega)
        rw [hcm, hcx] at hle
        have hb1 : z + ((3 : Nat) : Int) ≤ 4611686018427387904 := by omega
        have hne : ¬ Sf j g := fun hg => (HM2.out.row.sub j g hg).2 rfl
        have HU0 := Lib.hid (Upd.refl wr g (j * 3) ((j + 1) * 3) (Sf j))
        have HF0 := Lib.hid (Off.refl S wr)
        clear hM hSw hx hu hcm hle hnum
        have hc := putCells_cells g [.int .i64 (z), .int .i64 (z + 1), .int .i64 (z + 1 + 1)] wr (j * 3) (fun p hp => by
          match p, hp with
          | 0, _ => exact ⟨_, by simpa [Nat.add_assoc] using e0⟩
          | 1, _ => exact ⟨_, by simpa [Nat.add_assoc] using e1⟩
          | 2, _ => exact ⟨_, by simpa [Nat.add_assoc] using e2⟩
          | _ + 3, hp => simp at hp; omega)
        have d0 : (putCells wr g (j * 3) [.int .i64 (z), .int .i64 (z + 1), .int .i64 (z + 1 + 1)]).cell? ⟨g, j * 3, none⟩ = some (.int .i64 (z)) := by simpa [Nat.add_assoc] using hc 0 _ rfl
        have d1 : (putCells wr g (j * 3) [.int .i64 (z), .int .i64 (z + 1), .int .i64 (z + 1 + 1)]).cell? ⟨g, j * 3 + 1, none⟩ = some (.int .i64 (z + 1)) := by simpa [Nat.add_assoc] using hc 1 _ rfl
        have d2 : (putCells wr g (j * 3) [.int .i64 (z), .int .i64 (z + 1), .int .i64 (z + 1 + 1)]).cell? ⟨g, j * 3 + 2, none⟩ = some (.int .i64 (z + 1 + 1)) := by simpa [Nat.add_assoc] using hc 2 _ rfl
        have t0 : (putCells wr g (j * 3) [.int .i64 (z), .int .i64 (z + 1), .int .i64 (z + 1 + 1)]).frozen? ⟨g, j * 3, none⟩ = false := (putCells_frozen g _ _ wr _).trans s0
        have t1 : (putCells wr g (j * 3) [.int .i64 (z), .int .i64 (z + 1), .int .i64 (z + 1 + 1)]).frozen? ⟨g, j * 3 + 1, none⟩ = false := (putCells_frozen g _ _ wr _).trans s1
        have t2 : (putCells wr g (j * 3) [.int .i64 (z), .int .i64 (z + 1), .int .i64 (z + 1 + 1)]).frozen? ⟨g, j * 3 + 2, none⟩ = false := (putCells_frozen g _ _ wr _).trans s2
        have HU1 := Lib.hid (HU0.out.trans (Upd.put wr (Sf j) (g := g) (o := j * 3) (cs := [.int .i64 (z), .int .i64 (z + 1), .int .i64 (z + 1 + 1)]) ⟨by omega, by first | (simp; done) | (simp; omega)⟩))
        have HF1 := Lib.hid (HF0.out.trans ((putCells_off g [.int .i64 (z), .int .i64 (z + 1), .int .i64 (z + 1 + 1)] wr (j * 3)).more (fun x e => by rw [e]; exact HM2.out.row.own)))
        clear hc
        have hcf : CellsAt (putCells wr g (j * 3) [.int .i64 (z), .int .i64 (z + 1), .int .i64 (z + 1 + 1)]) g (j * 3) [.int .i64 (z), .int .i64 (z + 1), .int .i64 (z + 1 + 1)] := CellsAt.cons.2 ⟨d0, CellsAt.cons.2 ⟨d1, CellsAt.cons.2 ⟨d2, CellsAt.nil⟩⟩⟩
        have HSTEP := Lib.hid (HM2.out.step R_Quota_ok (w' := (putCells wr g (j * 3) [.int .i64 (z), .int .i64 (z + 1), .int .i64 (z + 1 + 1)])) (y := ((z, z + 1), z + 1 + 1)) (q' := z + 1 + 1 + 1) HSW.out HX.out HU1.out HF1.out hcf (mkow_Quota) (mmk_Quota) (by rw [hcx]; omega))
        clear d0 t0 d1 t1 d2 t2
        have hzb : 0 ≤ z + 1 + 1 + 1 ∧ z + 1 + 1 + 1 ≤ 4611686018427387904 := by omega
        clear hcf hcx
        go_wp2
        go_roundw
        case rel => exact ⟨j + 1, by omega, by go_num, _, _, rfl, by first | exact HSTEP.out | simpa [putCells, Nat.add_assoc, Int.add_assoc] using HSTEP.out⟩
        case measure => simp [intOf]; omega
      · obtain rfl : j = L.length := by omega
        have HR := Lib.hid (HM2.out.done HCAP.out HMAX.out)
        clear hM hSw
        go_wp2
        go_ret
        exact HR.out
def MarkV_Config (L0 : List (List (D_Label))) (L1 : List (D_Pair)) (L2 : List (D_Quota)) (x3 : Int) (a0 : Option Addr) (c0 : Nat) (a1 : Option Addr) (c1 : Nat) (a2 : Option Addr) (c2 : Nat) (T0 : Nat → Prop) (T1 : Nat → Prop) (T2 : Nat → Prop) (k : Int) (W : World) (e : Ending) (w' : World) : Prop := ∃ z0 z1 z2 : Int, ∃ (y0 : List (List (D_Label))) (y1 : List (D_Pair)) (y2 : List (D_Quota)), e = .returned (.int .i64 z2) ∧ (y0.length = L0.length ∧ mmL (Sl R_Label) y0 k z0 ∧ z0 = k + (sumL ((Sl R_Label)).cm L0 : Nat) ∧ OwSl (Sl R_Label) w' T0 y0 a0 c0) ∧ (y1.length = L1.length ∧ mmL R_Pair y1 z0 z1 ∧ z1 = z0 + (sumL (R_Pair).cm L1 : Nat) ∧ OwSl R_Pair w' T1 y1 a1 c1) ∧ (y2.length = L2.length ∧ mmL R_Quota y2 z1 z2 ∧ z2 = z1 + (sumL (R_Quota).cm L2 : Nat) ∧ OwSl R_Quota w' T2 y2 a2 c2) ∧ Off (fun q => T0 q ∨ T1 q ∨ T2 q) W w'
set_option maxRecDepth 100000 in
set_option maxHeartbeats 1600000 in
theorem mark_Config {L0 : List (List (D_Label))} {L1 : List (D_Pair)} {L2 : List (D_Quota)} {x3 : Int} {a0 : Option Addr} {c0 : Nat} {a1 : Option Addr} {c1 : Nat} {a2 : Option Addr} {c2 : Nat} {W : World} {T0 : Nat → Prop} {T1 : Nat → Prop} {T2 : Nat → Prop} {k : Int} (h0 : 0 ≤ k) (h1 : k + (sumL ((Sl R_Label)).cm L0 : Nat) + (sumL (R_Pair).cm L1 : Nat) + (sumL (R_Quota).cm L2 : Nat) ≤ 4611686018427387904) (hS0 : ∀ q, T0 q → q < W.heap.size) (hS1 : ∀ q, T1 q → q < W.heap.size) (hS2 : ∀ q, T2 q → q < W.heap.size) (hd0_1 : ∀ q, T0 q → T1 q → False) (hd0_2 : ∀ q, T0 q → T2 q → False) (hd1_2 : ∀ q, T1 q → T2 q → False) (h_L0 : OwSl (Sl R_Label) W T0 L0 a0 c0) (h_L1 : OwSl R_Pair W T1 L1 a1 c1) (h_L2 : OwSl R_Quota W T2 L2 a2 c2) : Calls Tryz.prog 16 #[.agg #[.slice a0 L0.length c0, .slice a1 L1.length c1, .slice a2 L2.length c2, .int .i64 x3], .int .i64 k] W (MarkV_Config L0 L1 L2 x3 a0 c0 a1 c1 a2 c2 T0 T1 T2 k W) := by
  have HOFF0 := Lib.hid (show Off (fun q => T0 q ∨ T1 q ∨ T2 q) W (W.alloc (.cells #[.slice a0 L0.length c0, .slice a1 L1.length c1, .slice a2 L2.length c2, .int .i64 x3] 38)) from (Off.refl _ _).alloc _)
  have hP := Blk.new W 38 #[.slice a0 L0.length c0, .slice a1 L1.length c1, .slice a2 L2.length c2, .int .i64 x3]
  have HP0 := Lib.hid hP
  have hz0 : W.heap.size < (W.alloc (.cells #[.slice a0 L0.length c0, .slice a1 L1.length c1, .slice a2 L2.length c2, .int .i64 x3] 38)).heap.size := by simp
  clear hP
  have K_L0 := Lib.hid (OwSl.keep (Sl_ok R_Label_ok) (W' := W.alloc (.cells #[.slice a0 L0.length c0, .slice a1 L1.length c1, .slice a2 L2.length c2, .int .i64 x3] 38)) h_L0 (fun q hq => Below.heap_alloc _ _ _ (hS0 q hq)))
  have HS0 := Lib.hid hS0
  have K_L1 := Lib.hid (OwSl.keep R_Pair_ok (W' := W.alloc (.cells #[.slice a0 L0.length c0, .slice a1 L1.length c1, .slice a2 L2.length c2, .int .i64 x3] 38)) h_L1 (fun q hq => Below.heap_alloc _ _ _ (hS1 q hq)))
  have HS1 := Lib.hid hS1
  have K_L2 := Lib.hid (OwSl.keep R_Quota_ok (W' := W.alloc (.cells #[.slice a0 L0.length c0, .slice a1 L1.length c1, .slice a2 L2.length c2, .int .i64 x3] 38)) h_L2 (fun q hq => Below.heap_alloc _ _ _ (hS2 q hq)))
  have HS2 := Lib.hid hS2
  have HD0_1 := Lib.hid hd0_1
  have HD0_2 := Lib.hid hd0_2
  have HD1_2 := Lib.hid hd1_2
  clear h_L0 h_L1 h_L2 hS0 hS1 hS2 hd0_1 hd0_2 hd1_2
  go_enter Tryz.func16, Tryz.ntmps16
  have hbz : 0 ≤ k ∧ k + (sumL ((Sl R_Label)).cm L0 : Nat) ≤ 4611686018427387904 := by omega
  go_wp2_with fail
  refine (mark_LabelSS (W := W.alloc (.cells #[.slice a0 L0.length c0, .slice a1 L1.length c1, .slice a2 L2.length c2, .int .i64 x3] 38)) hbz.1 hbz.2 (fun q hq => Nat.lt_trans (HS0.out q hq) hz0) K_L0.out).mono ?_
  intro e w1 h
  obtain ⟨y0, z0, rfl, hyl, hmm, hzz, how, hoff⟩ := markR_elim h
  have HP1 := Lib.hid (Blk.off HP0.out hoff hz0 (fun hg => Nat.lt_irrefl _ (HS0.out _ hg)))
  have HOFF1 := Lib.hid (HOFF0.out.trans (hoff.more (fun q hq => Or.inl hq)))
  have hz1 : W.heap.size < w1.heap.size := Nat.lt_of_lt_of_le hz0 hoff.size
  have K_L1 := Lib.hid (K_L1.out.keep R_Pair_ok (fun q hq => hoff.block q (Nat.lt_trans (HS1.out q hq) hz0) (fun hi => HD0_1.out q hi hq)))
  have K_L2 := Lib.hid (K_L2.out.keep R_Quota_ok (fun q hq => hoff.block q (Nat.lt_trans (HS2.out q hq) hz0) (fun hi => HD0_2.out q hi hq)))
  have K_L0 := Lib.hid how
  have HMM0 := Lib.hid hmm
  have HYL0 := Lib.hid hyl
  have HZZ0 := Lib.hid hzz
  have hzn0 : 0 ≤ z0 ∧ z0 ≤ 4611686018427387904 := by omega
  clear h hyl hmm how hoff hzz hbz
  have p1_0 := HP1.out.at_ 0 rfl
  have p1_1 := HP1.out.at_ 1 rfl
  have p1_2 := HP1.out.at_ 2 rfl
  have hbz : 0 ≤ z0 ∧ z0 + (sumL (R_Pair).cm L1 : Nat) ≤ 4611686018427387904 := by have q0 := HZZ0.out; omega
  go_wp2_with fail
  refine (mark_PairS (W := w1) hbz.1 hbz.2 (fun q hq => Nat.lt_trans (HS1.out q hq) hz1) K_L1.out).mono ?_
  intro e w2 h
  obtain ⟨y1, z1, rfl, hyl, hmm, hzz, how, hoff⟩ := markR_elim h
  have HP2 := Lib.hid (Blk.off HP1.out hoff hz1 (fun hg => Nat.lt_irrefl _ (HS1.out _ hg)))
  have HOFF2 := Lib.hid (HOFF1.out.trans (hoff.more (fun q hq => Or.inr (Or.inl hq))))
  have hz2 : W.heap.size < w2.heap.size := Nat.lt_of_lt_of_le hz1 hoff.size
  have K_L0 := Lib.hid (K_L0.out.keep (Sl_ok R_Label_ok) (fun q hq => hoff.block q (Nat.lt_trans (HS0.out q hq) hz1) (fun hi => HD0_1.out q hq hi)))
  have K_L2 := Lib.hid (K_L2.out.keep R_Quota_ok (fun q hq => hoff.block q (Nat.lt_trans (HS2.out q hq) hz1) (fun hi => HD1_2.out q hi hq)))
  have K_L1 := Lib.hid how
  have HMM1 := Lib.hid hmm
  have HYL1 := Lib.hid hyl
  have HZZ1 := Lib.hid hzz
  have hzn1 : 0 ≤ z1 ∧ z1 ≤ 4611686018427387904 := by omega
  clear h hyl hmm how hoff hzz hbz
  have p2_0 := HP2.out.at_ 0 rfl
  have p2_1 := HP2.out.at_ 1 rfl
  have p2_2 := HP2.out.at_ 2 rfl
  have hbz : 0 ≤ z1 ∧ z1 + (sumL (R_Quota).cm L2 : Nat) ≤ 4611686018427387904 := by have q0 := HZZ0.out; have q1 := HZZ1.out; omega
  go_wp2_with fail
  refine (mark_QuotaS (W := w2) hbz.1 hbz.2 (fun q hq => Nat.lt_trans (HS2.out q hq) hz2) K_L2.out).mono ?_
  intro e w3 h
  obtain ⟨y2, z2, rfl, hyl, hmm, hzz, how, hoff⟩ := markR_elim h
  have HP3 := Lib.hid (Blk.off HP2.out hoff hz2 (fun hg => Nat.lt_irrefl _ (HS2.out _ hg)))
  have HOFF3 := Lib.hid (HOFF2.out.trans (hoff.more (fun q hq => Or.inr (Or.inr (hq)))))
  have hz3 : W.heap.size < w3.heap.size := Nat.lt_of_lt_of_le hz2 hoff.size
  have K_L0 := Lib.hid (K_L0.out.keep (Sl_ok R_Label_ok) (fun q hq => hoff.block q (Nat.lt_trans (HS0.out q hq) hz2) (fun hi => HD0_2.out q hq hi)))
  have K_L1 := Lib.hid (K_L1.out.keep R_Pair_ok (fun q hq => hoff.block q (Nat.lt_trans (HS1.out q hq) hz2) (fun hi => HD1_2.out q hq hi)))
  have K_L2 := Lib.hid how
  have HMM2 := Lib.hid hmm
  have HYL2 := Lib.hid hyl
  have HZZ2 := Lib.hid hzz
  have hzn2 : 0 ≤ z2 ∧ z2 ≤ 4611686018427387904 := by omega
  clear h hyl hmm how hoff hzz hbz
  have p3_0 := HP3.out.at_ 0 rfl
  have p3_1 := HP3.out.at_ 1 rfl
  have p3_2 := HP3.out.at_ 2 rfl
  go_wp2
  go_ret
  exact ⟨z0, z1, z2, y0, y1, y2, rfl, ⟨HYL0.out, HMM0.out, HZZ0.out, K_L0.out⟩, ⟨HYL1.out, HMM1.out, HZZ1.out, K_L1.out⟩, ⟨HYL2.out, HMM2.out, HZZ2.out, K_L2.out⟩, HOFF3.out⟩
theorem sizh_PairS : (R_Pair).size = 5 := rfl
set_option maxRecDepth 100000 in
set_option maxHeartbeats 1600000 in
theorem held_PairS {L : List (D_Pair)} {a : Option Addr} {cap : Nat} {W : World} {k k' : Int} (h0 : 0 ≤ k) (h1 : k' ≤ 4611686018427387904) (hm : mmL R_Pair L k k') (h : RdSl R_Pair W W.heap.size L a cap) : Calls Tryz.prog 172 #[.slice a L.length cap, .int .i64 k] W (HeldC k' W) := by
  have hn : L.length ≤ 9223372036854775807 := by have h1 := h.1; have h2 := h.2.1; unfold maxLen at h2; omega
  have H := Lib.hid h
  have HM := Lib.hid hm
  clear h hm
  go_enter Tryz.func172, Tryz.ntmps172
  go_wp2
  go_loopw [5, 1] (fun i q wr => ∃ j : Nat, j ≤ L.length ∧ i = .int .i64 j ∧ (∃ z : Int, q = .int .i64 z ∧ 0 ≤ z ∧ mmL R_Pair (L.drop j) z k') ∧ Below W.heap.size W wr) (fun i _ _ => L.length - (intOf i).toNat)
  case atStart => exact ⟨0, Nat.zero_le _, rfl, ⟨k, rfl, h0, HM.out⟩, Below.refl _ _⟩
  case round =>
    obtain ⟨j, hj, rfl, ⟨z, rfl, hz, hmz⟩, hB⟩ := hrel
    have HB := Lib.hid hB
    have hsz := hB.size
    by_cases hlt : j < L.length
    · obtain ⟨⟨⟨x0, x1⟩, ⟨x2, x3⟩, x4⟩, hx⟩ := el_some hlt
      obtain ⟨k1, hxm, hmn⟩ := mmL_drop hx hmz
      have hzb := mmL_le R_Pair_mn hmn
      have hxb := R_Pair_mn _ _ _ hxm
      obtain ⟨g, o, us, rfl, hg, hu, hr⟩ := (H.out.below R_Pair_ok hB).at_ hx
      have HMN := Lib.hid hmn
      have hi0 : (0 : Int) ≤ (j : Int) := Int.natCast_nonneg _
      have hi1 : (j : Int) < (L.length : Int) := by omega
      obtain rfl := rd_Pair hr
      obtain ⟨rfl, rfl, rfl, rfl, rfl, hk1⟩ := mme_Pair hxm
      have e0 := cells_at hu 0 rfl
      have e1 := cells_at hu 1 rfl
      have e2 := cells_at hu 2 rfl
      have e3 := cells_at hu 3 rfl
      have e4 := cells_at hu 4 rfl
      simp only [sizh_PairS] at e0 e1 e2 e3 e4
      simp only [← Nat.add_assoc, Nat.add_zero] at e0 e1 e2 e3 e4
      have hfin : k1 ≤ 4611686018427387904 := by omega
      have HK1 := Lib.hid hk1
      clear hB hx hu hmz hmn hxm
      have HB2 := Lib.hid HB.out
      go_wp2
      go_roundw
      case rel => exact ⟨j + 1, by omega, by go_num, ⟨_, rfl, by omega, by rw [← HK1.out]; exact HMN.out⟩, HB2.out⟩
      case measure => simp [intOf]; omega
    · obtain rfl : j = L.length := by omega
      have HE := Lib.hid (mmL_end hmz)
      clear hmz hB
      go_wp2
      go_ret
      exact ⟨by rw [HE.out]; rfl, HB.out⟩
theorem sizh_QuotaS : (R_Quota).size = 3 := rfl
set_option maxRecDepth 100000 in
set_option maxHeartbeats 1600000 in
theorem held_QuotaS {L : List (D_Quota)} {a : Option Addr} {cap : Nat} {W : World} {k k' : Int} (h0 : 0 ≤ k) (h1 : k' ≤ 4611686018427387904) (hm : mmL R_Quota L k k') (h : RdSl R_Quota W W.heap.size L a cap) : Calls Tryz.prog 173 #[.slice a L.length cap, .int .i64 k] W (HeldC k' W) := by
  have hn : L.length ≤ 9223372036854775807 := by have h1 := h.1; have h2 := h.2.1; unfold maxLen at h2; omega
  have H := Lib.hid h
  have HM := Lib.hid hm
  clear h hm
  go_enter Tryz.func173, Tryz.ntmps173
  go_wp2
  go_loopw [5, 1] (fun i q wr => ∃ j : Nat, j ≤ L.length ∧ i = .int .i64 j ∧ (∃ z : Int, q = .int .i64 z ∧ 0 ≤ z ∧ mmL R_Quota (L.drop j) z k') ∧ Below W.heap.size W wr) (fun i _ _ => L.length - (intOf i).toNat)
  case atStart => exact ⟨0, Nat.zero_le _, rfl, ⟨k, rfl, h0, HM.out⟩, Below.refl _ _⟩
  case round =>
    obtain ⟨j, hj, rfl, ⟨z, rfl, hz, hmz⟩, hB⟩ := hrel
    have HB := Lib.hid hB
    have hsz := hB.size
    by_cases hlt : j < L.length
    · obtain ⟨⟨⟨x0, x1⟩, x2⟩, hx⟩ := el_some hlt
      obtain ⟨k1, hxm, hmn⟩ := mmL_drop hx hmz
      have hzb := mmL_le R_Quota_mn hmn
      have hxb := R_Quota_mn _ _ _ hxm
      obtain ⟨g, o, us, rfl, hg, hu, hr⟩ := (H.out.below R_Quota_ok hB).at_ hx
      have HMN := Lib.hid hmn
      have hi0 : (0 : Int) ≤ (j : Int) := Int.natCast_nonneg _
      have hi1 : (j : Int) < (L.length : Int) := by omega
      obtain rfl := rd_Quota hr
      obtain ⟨rfl, rfl, rfl, hk1⟩ := mme_Quota hxm
      have e0 := cells_at hu 0 rfl
      have e1 := cells_at hu 1 rfl
      have e2 := cells_at hu 2 rfl
      simp only [sizh_QuotaS] at e0 e1 e2
      simp only [← Nat.add_assoc, Nat.add_zero] at e0 e1 e2
      have hfin : k1 ≤ 4611686018427387904 := by omega
      have HK1 := Lib.hid hk1
      clear hB hx hu hmz hmn hxm
      have HB2 := Lib.hid HB.out
      go_wp2
      go_roundw
      case rel => exact ⟨j + 1, by omega, by go_num, ⟨_, rfl, by omega, by rw [← HK1.out]; exact HMN.out⟩, HB2.out⟩
      case measure => simp [intOf]; omega
    · obtain rfl : j = L.length := by omega
      have HE := Lib.hid (mmL_end hmz)
      clear hmz hB
      go_wp2
      go_ret
      exact ⟨by rw [HE.out]; rfl, HB.out⟩
set_option maxRecDepth 100000 in
set_option maxHeartbeats 1600000 in
theorem held_Config {L0 : List (List (D_Label))} {L1 : List (D_Pair)} {L2 : List (D_Quota)} {x3 : Int} {a0 : Option Addr} {c0 : Nat} {a1 : Option Addr} {c1 : Nat} {a2 : Option Addr} {c2 : Nat} {W : World} {k : Int} {z0 : Int} {z1 : Int} {z2 : Int} (h0 : 0 ≤ k) (h1 : z2 ≤ 4611686018427387904) (hm0 : mmL (Sl R_Label) L0 k z0) (hm1 : mmL R_Pair L1 z0 z1) (hm2 : mmL R_Quota L2 z1 z2) (h_L0 : RdSl (Sl R_Label) W W.heap.size L0 a0 c0) (h_L1 : RdSl R_Pair W W.heap.size L1 a1 c1) (h_L2 : RdSl R_Quota W W.heap.size L2 a2 c2) : Calls Tryz.prog 124 #[.agg #[.slice a0 L0.length c0, .slice a1 L1.length c1, .slice a2 L2.length c2, .int .i64 x3], .int .i64 k] W (HeldC z2 W) := by
  have H_L0 := Lib.hid h_L0
  have H_L1 := Lib.hid h_L1
  have H_L2 := Lib.hid h_L2
  have HM0 := Lib.hid hm0
  have hl0 := mmL_le (Sl_mn R_Label_mn) hm0
  have HM1 := Lib.hid hm1
  have hl1 := mmL_le R_Pair_mn hm1
  have HM2 := Lib.hid hm2
  have hl2 := mmL_le R_Quota_mn hm2
  clear h_L0 h_L1 h_L2 hm0 hm1 hm2
  have HB0 := Lib.hid (show Below W.heap.size W (W.alloc (.cells #[.slice a0 L0.length c0, .slice a1 L1.length c1, .slice a2 L2.length c2, .int .i64 x3] 38)) from (Below.refl _ _).alloc (Nat.le_refl _) _)
  have hP := Blk.new W 38 #[.slice a0 L0.length c0, .slice a1 L1.length c1, .slice a2 L2.length c2, .int .i64 x3]
  have HP0 := Lib.hid hP
  have hz0 : W.heap.size ≤ (W.alloc (.cells #[.slice a0 L0.length c0, .slice a1 L1.length c1, .slice a2 L2.length c2, .int .i64 x3] 38)).heap.size := HB0.out.size
  clear hP
  go_enter Tryz.func124, Tryz.ntmps124
  go_wp2_with fail
  refine (held_LabelSS (k := k) (k' := z0) (by omega) (by omega) HM0.out ((H_L0.out.below (Sl_ok R_Label_ok) HB0.out).more (Sl_ok R_Label_ok) hz0)).mono ?_
  intro e w1 h
  obtain ⟨rfl, hb⟩ := heldC_elim h
  have HP1 := Lib.hid (HP0.out.call hb)
  have HB1 := Lib.hid (HB0.out.trans (hb.mono hz0))
  have hz1 : W.heap.size ≤ w1.heap.size := HB1.out.size
  clear h hb
  have p1_0 := HP1.out.at_ 0 rfl
  have p1_1 := HP1.out.at_ 1 rfl
  have p1_2 := HP1.out.at_ 2 rfl
  have hpos0 : (0 : Int) ≤ z0 := by omega
  go_wp2_with fail
  refine (held_PairS (k := z0) (k' := z1) (by omega) (by omega) HM1.out ((H_L1.out.below R_Pair_ok HB1.out).more R_Pair_ok hz1)).mono ?_
  intro e w2 h
  obtain ⟨rfl, hb⟩ := heldC_elim h
  have HP2 := Lib.hid (HP1.out.call hb)
  have HB2 := Lib.hid (HB1.out.trans (hb.mono hz1))
  have hz2 : W.heap.size ≤ w2.heap.size := HB2.out.size
  clear h hb
  have p2_0 := HP2.out.at_ 0 rfl
  have p2_1 := HP2.out.at_ 1 rfl
  have p2_2 := HP2.out.at_ 2 rfl
  have hpos1 : (0 : Int) ≤ z1 := by omega
  go_wp2_with fail
  refine (held_QuotaS (k := z1) (k' := z2) (by omega) (by omega) HM2.out ((H_L2.out.below R_Quota_ok HB2.out).more R_Quota_ok hz2)).mono ?_
  intro e w3 h
  obtain ⟨rfl, hb⟩ := heldC_elim h
  have HP3 := Lib.hid (HP2.out.call hb)
  have HB3 := Lib.hid (HB2.out.trans (hb.mono hz2))
  have hz3 : W.heap.size ≤ w3.heap.size := HB3.out.size
  clear h hb
  have p3_0 := HP3.out.at_ 0 rfl
  have p3_1 := HP3.out.at_ 1 rfl
  have p3_2 := HP3.out.at_ 2 rfl
  have hpos2 : (0 : Int) ≤ z2 := by omega
  go_wp2
  go_ret
  exact ⟨rfl, HB3.out⟩
end Go.Proofs.YtelhmacfljffhaaGreat.RepC
end
section
namespace Go.Proofs.YtelhmacfljffhaaGreat.RepC
open Go.RowKit RowC ValC
set_option linter.unusedVariables false
set_option linter.unusedSimpArgs false
theorem gsz_Config {d : D_Config} {cs : List Value} {W : World} {l : Int} (h0 : 0 ≤ l) (h1 : l ≤ 1048576) (h : R_Config.rd W W.heap.size d cs) : Calls Tryz.prog 10 #[.agg cs.toArray, .int .i64 l] W (SzC l (R_Config.sz d) W) := by
  obtain ⟨L0, L1, L2, x3⟩ := d
  obtain ⟨a0, c0, a1, c1, a2, c2, rfl, k_L0, k_L1, k_L2⟩ := rd_Config h
  exact sz_Config h0 h1 k_L0 k_L1 k_L2
theorem gto_Config {d : D_Config} {cs : List Value} {W : World} (hsz : R_Config.sz d ≤ 1048576) (h : R_Config.rd W W.heap.size d cs) : Calls Tryz.prog 12 #[.agg cs.toArray] W (NewV R_Config d W) := by
  obtain ⟨L0, L1, L2, x3⟩ := d
  obtain ⟨a0, c0, a1, c1, a2, c2, rfl, k_L0, k_L1, k_L2⟩ := rd_Config h
  exact to_Config hsz k_L0 k_L1 k_L2
theorem geq_Config {d : D_Config} {cs cs' : List Value} {W : World} (h : R_Config.rd W W.heap.size d cs) (h' : R_Config.rd W W.heap.size d cs') : Calls Tryz.prog 15 #[.agg cs.toArray, .agg cs'.toArray] W (IsB true W) := by
  obtain ⟨L0, L1, L2, x3⟩ := d
  obtain ⟨a0, c0, a1, c1, a2, c2, rfl, k_L0, k_L1, k_L2⟩ := rd_Config h
  obtain ⟨a0', c0', a1', c1', a2', c2', rfl, k'_L0, k'_L1, k'_L2⟩ := rd_Config h'
  exact eq_Config k_L0 k_L1 k_L2 k'_L0 k'_L1 k'_L2
theorem owc_Config {W : World} {S : Nat → Prop} {L0 : List (List (D_Label))} {L1 : List (D_Pair)} {L2 : List (D_Quota)} {x3 : Int} {cs : List Value} (h : R_Config.ow W S (L0, L1, L2, x3) cs) : ∃ a0 c0 a1 c1 a2 c2, cs = [.slice a0 L0.length c0, .slice a1 L1.length c1, .slice a2 L2.length c2, .int .i64 x3] ∧ R_Config.ow W S (L0, L1, L2, x3) [.slice a0 L0.length c0, .slice a1 L1.length c1, .slice a2 L2.length c2, .int .i64 x3] := by
  have h0 := h
  obtain ⟨a0, c0, a1, c1, a2, c2, T0, T1, T2, rfl, _⟩ := ow_Config h
  exact ⟨a0, c0, a1, c1, a2, c2, rfl, h0⟩
theorem rdc_Config {W : World} {B : Nat} {L0 : List (List (D_Label))} {L1 : List (D_Pair)} {L2 : List (D_Quota)} {x3 : Int} {cs : List Value} (h : R_Config.rd W B (L0, L1, L2, x3) cs) : ∃ a0 c0 a1 c1 a2 c2, cs = [.slice a0 L0.length c0, .slice a1 L1.length c1, .slice a2 L2.length c2, .int .i64 x3] ∧ R_Config.rd W B (L0, L1, L2, x3) [.slice a0 L0.length c0, .slice a1 L1.length c1, .slice a2 L2.length c2, .int .i64 x3] := by
  have h0 := h
  obtain ⟨a0, c0, a1, c1, a2, c2, rfl, _⟩ := rd_Config h
  exact ⟨a0, c0, a1, c1, a2, c2, rfl, h0⟩
theorem cvd_Config {L0 : List (List (D_Label))} {L1 : List (D_Pair)} {L2 : List (D_Quota)} {x3 : Int} : R_Config.cv (L0, L1, L2, x3) = sumL ((Sl R_Label)).cm L0 + sumL (R_Pair).cm L1 + sumL (R_Quota).cm L2 := by
  simp only [R_Config, Pr, Sl, I, Bo, atom]; omega
set_option maxRecDepth 100000 in
theorem gmark_Config {d : D_Config} {cs : List Value} {W : World} {S : Nat → Prop} {k : Int} (h0 : 0 ≤ k) (h1 : k + (R_Config.cv d : Nat) ≤ 4611686018427387904) (hS : ∀ q, S q → q < W.heap.size) (h : R_Config.ow W S d cs) : Calls Tryz.prog 16 #[.agg cs.toArray, .int .i64 k] W (MarkG R_Config d cs S k W) := by
  obtain ⟨L0, L1, L2, x3⟩ := d
  obtain ⟨a0, c0, a1, c1, a2, c2, T0, T1, T2, rfl, hs0, hs1, hs2, hd0_1, hd0_2, hd1_2, k_L0, k_L1, k_L2⟩ := ow_Config h
  have hcv := cvd_Config (L0 := L0) (L1 := L1) (L2 := L2) (x3 := x3)
  refine (mark_Config h0 (by rw [hcv] at h1; omega) (fun q hq => hS q (hs0 q hq)) (fun q hq => hS q (hs1 q hq)) (fun q hq => hS q (hs2 q hq)) (fun q hi hj => hd0_1 q hi hj) (fun q hi hj => hd0_2 q hi hj) (fun q hi hj => hd1_2 q hi hj) k_L0 k_L1 k_L2).mono fun e w' hh => ?_
  obtain ⟨z0, z1, z2, y0, y1, y2, rfl, ⟨hl0, hm0, hz0, ho0⟩, ⟨hl1, hm1, hz1, ho1⟩, ⟨hl2, hm2, hz2, ho2⟩, hoff⟩ := hh
  have hmk := mkow_Config (x3 := x3) hs0 hs1 hs2 hd0_1 hd0_2 hd1_2 ho0 ho1 ho2
  simp only [hl0, hl1, hl2] at hmk
  exact ⟨(y0, y1, y2, x3), _, rfl, ⟨z0, hm0, ⟨z1, hm1, ⟨z2, hm2, rfl⟩⟩⟩, by rw [hcv]; omega, hmk, hoff.more fun q hq => by rcases hq with hq | hq | hq <;> first | exact hs0 q hq | exact hs1 q hq | exact hs2 q hq⟩
end Go.Proofs.YtelhmacfljffhaaGreat.RepC
end
section
namespace Go.Proofs.YtelhmacfljffhaaGreat.RepC
open Go.RowKit RowC ValC Go.ChangeShapes
set_option maxRecDepth 100000
set_option linter.unusedVariables false
set_option linter.unusedSimpArgs false
theorem c_Pair : Tryz.prog.cellsOf 152 = 5 := by kernel_rfl
theorem opn_Pair : Opn R_Pair 152 := fun enc W fuel cs y h => by
  obtain ⟨xs, n, _, _, hl, hlen, hf⟩ := DataW.trod_struct Tryz.underlying152 h
  rw [c_Pair] at hl
  match cs, hl with
  | [c0, c1, c2, c3, c4], _ =>
    have e2 : xs.length = 3 := hlen
    match xs, e2 with
    | [y0, y1, y2], _ =>
      have g0 := fld hf 0 108 0 2 rfl c_Label
      have g1 := fld hf 1 108 2 2 rfl c_Label
      have g2 := fld hf 2 2 4 1 rfl c_int64
      obtain ⟨d0, h0⟩ := opn_Label enc W n [c0, c1] y0 g0
      obtain ⟨d1, h1⟩ := opn_Label enc W n [c2, c3] y1 g1
      obtain ⟨d2, h2⟩ := opn_i64 enc W n [c4] y2 g2
      exact ⟨(d0, d1, d2), ⟨[c0, c1], [c2, c3, c4], rfl, h0, ⟨[c2, c3], [c4], rfl, h1, h2⟩⟩⟩
theorem c_PairS : Tryz.prog.cellsOf 23 = 1 := by kernel_rfl
theorem opn_PairS : Opn (Sl R_Pair) 23 := opn_sl opn_Pair (by decide) Tryz.underlying23 c_Pair
theorem c_Quota : Tryz.prog.cellsOf 155 = 3 := by kernel_rfl
theorem opn_Quota : Opn R_Quota 155 := fun enc W fuel cs y h => by
  obtain ⟨xs, n, _, _, hl, hlen, hf⟩ := DataW.trod_struct Tryz.underlying155 h
  rw [c_Quota] at hl
  match cs, hl with
  | [c0, c1, c2], _ =>
    have e2 : xs.length = 2 := hlen
    match xs, e2 with
    | [y0, y1], _ =>
      have g0 := fld hf 0 108 0 2 rfl c_Label
      have g1 := fld hf 1 2 2 1 rfl c_int64
      obtain ⟨d0, h0⟩ := opn_Label enc W n [c0, c1] y0 g0
      obtain ⟨d1, h1⟩ := opn_i64 enc W n [c2] y1 g1
      exact ⟨(d0, d1), ⟨[c0, c1], [c2], rfl, h0, h1⟩⟩
theorem c_QuotaS : Tryz.prog.cellsOf 24 = 1 := by kernel_rfl
theorem opn_QuotaS : Opn (Sl R_Quota) 24 := opn_sl opn_Quota (by decide) Tryz.underlying24 c_Quota
theorem c_Config : Tryz.prog.cellsOf 26 = 4 := by kernel_rfl
theorem opn_Config : Opn R_Config 26 := fun enc W fuel cs y h => by
  obtain ⟨xs, n, _, _, hl, hlen, hf⟩ := DataW.trod_struct Tryz.underlying26 h
  rw [c_Config] at hl
  match cs, hl with
  | [c0, c1, c2, c3], _ =>
    have e2 : xs.length = 4 := hlen
    match xs, e2 with
    | [y0, y1, y2, y3], _ =>
      have g0 := fld hf 0 22 0 1 rfl c_LabelSS
      have g1 := fld hf 1 23 1 1 rfl c_PairS
      have g2 := fld hf 2 24 2 1 rfl c_QuotaS
      have g3 := fld hf 3 2 3 1 rfl c_int64
      obtain ⟨d0, h0⟩ := opn_LabelSS enc W n [c0] y0 g0
      obtain ⟨d1, h1⟩ := opn_PairS enc W n [c1] y1 g1
      obtain ⟨d2, h2⟩ := opn_QuotaS enc W n [c2] y2 g2
      obtain ⟨d3, h3⟩ := opn_i64 enc W n [c3] y3 g3
      exact ⟨(d0, d1, d2, d3), ⟨[c0], [c1, c2, c3], rfl, h0, ⟨[c1], [c2, c3], rfl, h1, ⟨[c2], [c3], rfl, h2, h3⟩⟩⟩⟩
theorem open_Config {H : Type} {enc : TypeId × Value → H} {W : World} {base : Nat} {v : Value} {d : DataW H} {p : List MemPlace} (o : Value.okWide Tryz.prog W .any base 26 v) (h : DataW.Trod enc Tryz.prog W 0 (fun _ => true) true 26 v d p) :
    ∃ (L0 : List (List (D_Label))) (L1 : List (D_Pair)) (L2 : List (D_Quota)) (x3 : Int) (a0 : Option Addr) (c0 : Nat) (a1 : Option Addr) (c1 : Nat) (a2 : Option Addr) (c2 : Nat), v = .agg #[.slice a0 L0.length c0, .slice a1 L1.length c1, .slice a2 L2.length c2, .int .i64 x3] ∧ R_Config.rd W W.heap.size (L0, L1, L2, x3) [.slice a0 L0.length c0, .slice a1 L1.length c1, .slice a2 L2.length c2, .int .i64 x3] := by
  obtain ⟨⟨L0, L1, L2, x3⟩, cs, rfl, hr⟩ := open_st opn_Config Tryz.underlying26 o h
  obtain ⟨a0, c0, a1, c1, a2, c2, rfl, h0⟩ := rdc_Config hr
  exact ⟨L0, L1, L2, x3, a0, c0, a1, c1, a2, c2, rfl, h0⟩
end Go.Proofs.YtelhmacfljffhaaGreat.RepC
end
