/- Rows of numbers copied: general in the program. -/
import Derived.Test.YtmmnkdilnlhbfaaRep3
import Derived.Test.YtmmnkdilnlhbfaaJobT
import Derived.Test.YtmmnkdilnlhbfaaNApp
import Derived.OwnWalk
namespace Go.Proofs.Ytmmnkdilnlhbfaa.RepC
open Go.RowKit RowC ValC
set_option linter.unusedVariables false
set_option linter.unusedSimpArgs false

theorem rdt_mv {α : Type} {E : Rp α} (hE : Ok E) {L : List α} {a : Option Addr} {c : Nat} {w w' : World} (h : RdSl E w w.heap.size L a c) (hb : Below w.heap.size w w') : RdSl E w' w'.heap.size L a c := (h.below hE hb).more hE hb.size
theorem own_cap {W : World} {lo : Nat} {T : TypeId} {size n : Nat} {v : Value} {c : Nat → Value} (h : RowO W lo T size v n c) : ∀ a cap, v = .slice a n cap → cap ≤ maxLen := by
  rintro a cap rfl
  rcases h.2 with ⟨h1, h2⟩ | ⟨g, cap', cur, hv, _, _, _, hm, _⟩
  · cases h1
    exact Nat.zero_le _
  · cases hv
    exact hm
/-- a row of numbers of the call's own is a slice of numbers in blocks of its own -/
theorem own_ints {W : World} {lo : Nat} {T : TypeId} {v : Value} {L : List Int} {c : Nat → Value} (h : RowO W lo T 1 v L.length c) (hc : ∀ j x, L[j]? = some x → c j = .int .i64 x) :
    ∃ a cap, v = .slice a L.length cap ∧ OwSl I W (Rg lo W.heap.size) L a cap := by
  obtain ⟨a, cap, rfl⟩ := h.isSlice
  have hm := own_cap h a cap rfl
  by_cases hn : 0 < L.length
  · obtain ⟨g, cap', hv, hlo, hg, hl, hcs, hf⟩ := h.form hn
    cases hv
    refine ⟨_, _, rfl, hl, hm, fun _ => ⟨g, fun _ _ => False, rfl, ⟨hlo, hg⟩, hf, fun i k h => h.elim, fun i j k _ h => h.elim, fun i x hx => ⟨[.int .i64 x], fun j d hd => ?_, rfl⟩⟩⟩
    have hj : j = 0 := by have := (List.getElem?_eq_some_iff.1 hd).1; simp at this; omega
    subst hj
    simp at hd
    subst hd
    have := hcs i (by have := (List.getElem?_eq_some_iff.1 hx).1; omega)
    rw [hc i x hx] at this
    simpa [show I.size = 1 from rfl] using this
  · have hn0 : L.length = 0 := by omega
    refine ⟨a, cap, rfl, ?_, hm, fun h => absurd h hn⟩
    rcases h.2 with ⟨h1, h2⟩ | ⟨g, cap', cur, hv, _, _, hl, _⟩
    · omega
    · omega
theorem info_i64 : ∃ i, Try.prog.info? 2 = some i ∧ i.zero = some (.int .i64 0) ∧ i.size = 1 ∧ i.bytes = 8 := by
  have h : (Try.prog.info? 2).map (fun i => (i.zero, i.size, i.bytes)) = some (some (.int .i64 0), 1, 8) := by kernel_rfl
  cases hx : Try.prog.info? 2 with
  | none => rw [hx] at h; simp at h
  | some i => rw [hx] at h; simp at h; exact ⟨i, rfl, h.1, h.2.1, h.2.2⟩
/-- 'append([]int64{}, l...)': the new slice -/
theorem app_copy {L : List Int} {a : Option Addr} {cap : Nat} {W : World} {ty : TypeId} (hn : L.length ≤ 1048576) (h : RdSl I W W.heap.size L a cap) :
    ∃ a' c' W', (Builtin.append_ #[30, 30] ty #[.slice (some ⟨W.heap.size, 0, none⟩) 0 0, .slice a L.length cap]).run Try.prog (W.alloc (.cells #[] 2)) = .ok (.slice a' L.length c') W' ∧ OwSl I W' (Rg W.heap.size W'.heap.size) L a' c' ∧ Below W.heap.size W W' := by
  obtain ⟨i, hi, hz, hs, hb⟩ := info_i64
  have hbel : Below W.heap.size W (W.alloc (.cells #[] 2)) := (Below.refl _ _).alloc (Nat.le_refl _) _
  have hown := RowO.made0 W W.heap.size 2 1 (fun _ => .int .i64 0) (Nat.le_refl _)
  by_cases h0 : L.length = 0
  · have hL : L = [] := List.eq_nil_of_length_eq_zero h0
    subst hL
    exact ⟨_, _, _, app_nil Try.underlying30 hi _ a 0 cap, ⟨Nat.le_refl _, Nat.zero_le _, fun h => absurd h (Nat.lt_irrefl _)⟩, hbel⟩
  · obtain ⟨g, o, rfl, hg, hel⟩ := h.2.2 (by omega)
    have hcell : ∀ j, j < L.length * 1 → W.cell? ⟨g, o + j, none⟩ = some (.int .i64 (L.getD j 0)) := fun j hj => by
      obtain ⟨us, hu, hr⟩ := hel j (L[j]'(by omega)) (List.getElem?_eq_getElem (by omega))
      obtain rfl : us = [_] := hr
      have := hu 0 _ rfl
      rw [List.getD_eq_getElem?_getD, List.getElem?_eq_getElem (by omega)]
      simpa [show I.size = 1 from rfl] using this
    obtain ⟨v', W', hr, hro, hb2, _, _⟩ := run_app (P := Try.prog) (W.alloc (.cells #[] 2)) W.heap.size 30 ty 2 i _ 1 8 Try.underlying30 hi hz hs hb rfl (by omega) _ 0 _ hown g o L.length cap (fun j => .int .i64 (L.getD j 0))
      (fun j hj => (hbel.cell (p := ⟨g, o + j, none⟩) hg).trans (hcell j hj)) (fun j hj => rfl) (by unfold maxLen; omega) (by omega) (by simp)
    rw [Nat.zero_add] at hro
    obtain ⟨a', c', rfl, hos⟩ := own_ints hro (fun j x hx => by
      have hj := (List.getElem?_eq_some_iff.1 hx).1
      simp [List.getD_eq_getElem?_getD, hx])
    exact ⟨a', c', W', hr, hos, hbel.trans hb2⟩
set_option maxHeartbeats 1600000 in
theorem clone_ints {L : List Int} {a : Option Addr} {cap : Nat} {W : World} (hn : L.length ≤ 1048576) (h : RdSl I W W.heap.size L a cap) :
    Calls Try.prog 110 #[.slice a L.length cap] W (NewS I L W) := by
  have qT : ∀ (w : World) (a : Option Addr) (n c n' c' : Nat), (binOp .eql 30 (.slice a n c) (.slice none n' c')).run Try.prog w = .ok (.bool a.isNone) w := fun w a n c n' c' => Lib.run_eql_slice_nil w _ _ a n c n' c' Try.underlying30
  cases a with
  | none =>
    have h0 : L.length = 0 := by
      by_cases hp : 0 < L.length
      · obtain ⟨g, o, he, _⟩ := h.2.2 hp
        cases he
      · omega
    have hL : L = [] := List.eq_nil_of_length_eq_zero h0
    subst hL
    go_enter Try.func110, Try.ntmps110
    go_wp2
    go_ret
    exact ⟨none, 0, rfl, ⟨Nat.le_refl _, Nat.zero_le _, fun h => absurd h (Nat.lt_irrefl _)⟩, Below.refl _ _⟩
  | some x =>
    obtain ⟨a', c', w5, hr, hos, hb⟩ := app_copy (ty := 30) hn h
    have HR := Lib.hid hr
    have HO := Lib.hid hos
    have HB := Lib.hid hb
    clear hr hos hb h
    go_enter Try.func110, Try.ntmps110
    go_wp2_with (at_builtin; refine wpList_app rfl (.tmp 5) (.tmp 6) 30 rfl rfl rfl HR.out ?_)
    go_ret
    exact ⟨a', c', rfl, HO.out, HB.out⟩

theorem setCell_id {w : World} {g i : Nat} {v : Value} (h : w.cell? ⟨g, i, none⟩ = some v) : w.setCell ⟨g, i, none⟩ v = w := by
  have e : (w.setCell ⟨g, i, none⟩ v).heap = w.heap := by
    unfold World.setCell
    apply Array.ext_getElem?
    intro j
    show (Array.modify _ _ _)[j]? = _
    rw [Array.getElem?_modify]
    by_cases hj : g = j
    · subst hj
      rw [if_pos rfl]
      unfold World.cell? at h
      cases ho : w.heap[g]? with
      | none => rfl
      | some o =>
        rw [ho] at h
        cases o with
        | cells c t f =>
          simp at h
          simp only [Option.map_some, Option.isSome_none, Bool.false_eq_true, if_false]
          congr 2
          apply Array.ext_getElem?
          intro q
          rw [Array.getElem?_setIfInBounds]
          by_cases hq : i = q
          · subst hq
            rw [if_pos rfl]
            have := (Array.getElem?_eq_some_iff.1 h).1
            rw [if_pos this, h]
          · rw [if_neg hq]
        | _ => simp at h
    · rw [if_neg hj]
  have e2 : w.setCell ⟨g, i, none⟩ v = { w with heap := (w.setCell ⟨g, i, none⟩ v).heap } := rfl
  rw [e2, e]
end Go.Proofs.Ytmmnkdilnlhbfaa.RepC
