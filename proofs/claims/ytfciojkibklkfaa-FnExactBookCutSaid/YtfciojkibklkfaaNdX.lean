/- slices.IndexFunc and slices.DeleteFunc at spans: contracts. -/
import Derived.Test.YtfciojkibklkfaaNdK
import Derived.Test.YtfciojkibklkfaaNdP
namespace Go.Proofs.Ytfciojkibklkfaa.RepC
open Go.RowKit RowC ValC SpanC KeptC
set_option linter.unusedVariables false
set_option linter.unusedSimpArgs false

def IxP (L : List D_Span) (p : D_Span → Bool) (W : World) (e : Ending) (w' : World) : Prop :=
  ∃ z : Int, e = .returned (.int .i64 z) ∧ Below W.heap.size W w' ∧ ((z = -1 ∧ ∀ (i : Nat) x, L[i]? = some x → p x = false) ∨ ∃ (q : Nat) (x : D_Span), z = (q : Int) ∧ L[q]? = some x ∧ p x = true ∧ ∀ (i : Nat) y, i < q → L[i]? = some y → p y = false)
theorem ixP_elim {L : List D_Span} {p : D_Span → Bool} {W : World} {e : Ending} {w' : World} (h : IxP L p W e w') : ∃ z : Int, e = .returned (.int .i64 z) ∧ Below W.heap.size W w' ∧ ((z = -1 ∧ ∀ (i : Nat) x, L[i]? = some x → p x = false) ∨ ∃ (q : Nat) (x : D_Span), z = (q : Int) ∧ L[q]? = some x ∧ p x = true ∧ ∀ (i : Nat) y, i < q → L[i]? = some y → p y = false) := h
/-- a predicate on spans that reads one box -/
def PredS (F bx : Nat) (v0 : Value) (p : D_Span → Bool) : Prop := ∀ (w : World) (x0 x1 : Int), w.cell? ⟨bx, 0, none⟩ = some v0 → Calls Try.prog F #[.agg #[.int .i64 x0, .int .i64 x1], .pointer (some ⟨bx, 0, none⟩)] w (IsB (p (x0, x1)) w)
set_option maxRecDepth 100000 in
set_option maxHeartbeats 1600000 in
theorem indexf_spans {F bx : Nat} {v0 : Value} {p : D_Span → Bool} (eg : ∀ args w, (callFunc F args).run Try.prog w = .ok (.enter F args) w) (hp : PredS F bx v0 p) {L : List D_Span} {a : Option Addr} {c : Nat} {W : World} (hbx : W.cell? ⟨bx, 0, none⟩ = some v0) (hbl : bx < W.heap.size) (h : RdSl R_Span W W.heap.size L a c) :
    Calls Try.prog 72 #[.slice a L.length c, .func (.func F) #[] #[.pointer (some ⟨bx, 0, none⟩)]] W (IxP L p W) := by
  have H := Lib.hid h
  have HP := Lib.hid hp
  have HX := Lib.hid hbx
  have hn : L.length ≤ 9223372036854775807 := by have h1 := h.1; have h2 := h.2.1; unfold maxLen at h2; omega
  clear h hp hbx
  go_enter Try.func72, Try.ntmps72
  go_wp2
  go_loopw [8] (fun i wr => ∃ k : Nat, k ≤ L.length ∧ i = .int .i64 k ∧ Hid (∀ i x, i < k → L[i]? = some x → p x = false) ∧ Below W.heap.size W wr) (fun i _ => L.length - (intOf i).toNat)
  case atStart => exact ⟨0, Nat.zero_le _, rfl, Lib.hid fun i x h => absurd h (Nat.not_lt_zero _), Below.refl _ _⟩
  case round =>
    obtain ⟨k, hk, rfl, HA, hB⟩ := hrel
    have HB := Lib.hid hB
    have hsz := hB.size
    by_cases hlt : k < L.length
    · obtain ⟨x, hx⟩ := el_some hlt
      obtain ⟨g, o, us, rfl, hg, hu, hr⟩ := H.out.at_ hx
      obtain ⟨x0, x1⟩ := x
      obtain rfl := rd_Span hr
      have e0 : wr.cell? ⟨g, o + k * 2, none⟩ = some (.int .i64 x0) := (hB.cell (p := ⟨g, o + k * 2, none⟩) hg).trans (by simpa [size_SpanS] using hu 0 _ rfl)
      have e1 : wr.cell? ⟨g, o + k * 2 + 1, none⟩ = some (.int .i64 x1) := (hB.cell (p := ⟨g, o + k * 2 + 1, none⟩) hg).trans (by simpa [size_SpanS, Nat.add_assoc] using hu 1 _ rfl)
      have hi0 : (0 : Int) ≤ (k : Int) := Int.natCast_nonneg _
      have hi1 : (k : Int) < (L.length : Int) := by omega
      have HL := Lib.hid hx
      have hcl := HP.out wr x0 x1 ((hB.cell (p := ⟨bx, 0, none⟩) hbl).trans HX.out)
      have HC := Lib.hid hcl
      clear hB hx hu hr hcl
      go_wp2_with fail
      refine HC.out.mono ?_
      intro e w1 h
      obtain ⟨rfl, hb⟩ := isB_elim h
      have HB1 := Lib.hid (HB.out.trans (hb.mono hsz))
      clear h hb e0 e1
      obtain ⟨b, hb⟩ : ∃ b, p (x0, x1) = b := ⟨_, rfl⟩
      have HBb := Lib.hid hb
      rw [hb]
      clear hb
      cases b with
      | true =>
        go_wp2
        go_ret
        exact ⟨_, rfl, HB1.out, .inr ⟨k, (x0, x1), rfl, HL.out, HBb.out, HA.out⟩⟩
      | false =>
        have HA2 := Lib.hid (show ∀ i x, i < k + 1 → L[i]? = some x → p x = false from fun i x hi hx => by
          rcases Nat.lt_succ_iff_lt_or_eq.1 hi with h | h
          · exact HA.out i x h hx
          · subst h; have h9 := HL.out; rw [hx] at h9; cases h9; exact HBb.out)
        go_wp2
        go_roundw
        case rel => exact ⟨k + 1, by omega, by go_num, HA2, HB1.out⟩
        case measure => simp [intOf]; omega
    · have hdl : decide ((k : Int) < (L.length : Int)) = false := decide_eq_false (by omega)
      obtain rfl : k = L.length := by omega
      clear hB
      go_wp2
      go_ret
      exact ⟨-1, rfl, HB.out, .inl ⟨rfl, fun i x hx => HA.out i x (el_lt hx) hx⟩⟩
/-- clear of spans: what lies ahead stays -/
theorem run_clear_spans (W : World) (g k n c : Nat) (hn : 0 < n) (hc : ∀ j, j < n * 2 → ∃ u, W.cell? ⟨g, k + j, none⟩ = some u) (hf : ∀ j, W.frozen? ⟨g, j, none⟩ = false) :
    ∃ w', (∀ ty, (Builtin.clear_ #[39] ty #[.slice (some ⟨g, k, none⟩) n c]).run Try.prog W = .ok (.tuple #[]) w') ∧ (∀ j, j < k → w'.cell? ⟨g, j, none⟩ = W.cell? ⟨g, j, none⟩) ∧ (∀ j, w'.frozen? ⟨g, j, none⟩ = false) ∧ Off (fun x => x = g) W w' := by
  have hzl : (Builtin.zeroCells (Value.agg #[.int .i64 0, .int .i64 0]).cells n).toList.length = n * 2 := by
    simp [Builtin.zeroCells, Value.cells]
  have hone : ∀ v ∈ (Builtin.zeroCells (Value.agg #[.int .i64 0, .int .i64 0]).cells n).toList, v.oneCell' = true := by
    intro v hv
    simp [Builtin.zeroCells, Value.cells] at hv
    obtain ⟨i, _, rfl⟩ := hv
    rcases Nat.mod_two_eq_zero_or_one i with e | e <;> rw [e] <;> rfl
  have hst := run_storeCells_cells (P := Try.prog) g k (Builtin.zeroCells (Value.agg #[.int .i64 0, .int .i64 0]).cells n).toList 0 W (fun j hj => by rw [hzl] at hj; obtain ⟨u, hu⟩ := hc j hj; rw [Nat.add_zero, hu]; rfl) (fun j _ => hf _) hone
  simp only [Nat.add_zero] at hst
  obtain ⟨iL, hiL, hzL1, hsL, hbL⟩ := infoSpan
  have hv : ∀ w, (zeroValue 25).run Try.prog w = .ok (.agg #[.int .i64 0, .int .i64 0]) w := fun w => by
    simp [zeroValue, typeInfo, hiL, hzL1]
  refine ⟨W.setCells g k (Builtin.zeroCells (Value.agg #[.int .i64 0, .int .i64 0]).cells n).toList, ?_, fun j hj => ?_, fun j => ?_, off_setCells _ _ _ (Off.refl _ _)⟩
  · intro ty
    obtain ⟨m, rfl⟩ : ∃ m, n = m + 1 := ⟨n - 1, by omega⟩
    simp [Builtin.clear_, run_underlying Try.underlying39, hv, hst]
  · exact World.cell?_setCells_out _ _ _ _ _ (fun _ _ => .inl hj)
  · rw [World.frozen?_setCells]; exact hf j
/-- a row of spans that is being thinned: the first j are seen, those of them that stay lie ahead -/
structure DelM (W wr : World) (L : List D_Span) (g : Nat) (p : D_Span → Bool) (j : Nat) : Prop where
  low : ∀ r x, ((L.take j).filter fun y => !p y)[r]? = some x → wr.cell? ⟨g, r * 2, none⟩ = some (.int .i64 x.1) ∧ wr.cell? ⟨g, r * 2 + 1, none⟩ = some (.int .i64 x.2)
  high : ∀ r x, j ≤ r → L[r]? = some x → wr.cell? ⟨g, r * 2, none⟩ = some (.int .i64 x.1) ∧ wr.cell? ⟨g, r * 2 + 1, none⟩ = some (.int .i64 x.2)
  there : ∀ q, q < L.length * 2 → ∃ u, wr.cell? ⟨g, q, none⟩ = some u
  soft : ∀ q, wr.frozen? ⟨g, q, none⟩ = false
  off : Off (fun k => k = g) W wr
  lt : g < W.heap.size
section
variable {W wr w' : World} {L : List D_Span} {g j : Nat} {p : D_Span → Bool}
theorem kept_le : ((L.take j).filter fun y => !p y).length ≤ j := Nat.le_trans (List.length_filter_le _ _) (by rw [List.length_take]; omega)
theorem DelM.call (h : DelM W wr L g p j) (hb : Below wr.heap.size wr w') : DelM W w' L g p j := by
  have hg : g < wr.heap.size := Nat.lt_of_lt_of_le h.lt h.off.size
  exact ⟨fun r x hx => ⟨(hb.cell (p := ⟨g, r * 2, none⟩) hg).trans (h.low r x hx).1, (hb.cell (p := ⟨g, r * 2 + 1, none⟩) hg).trans (h.low r x hx).2⟩,
    fun r x hr hx => ⟨(hb.cell (p := ⟨g, r * 2, none⟩) hg).trans (h.high r x hr hx).1, (hb.cell (p := ⟨g, r * 2 + 1, none⟩) hg).trans (h.high r x hr hx).2⟩,
    fun q hq => by obtain ⟨u, hu⟩ := h.there q hq; exact ⟨u, (hb.cell (p := ⟨g, q, none⟩) hg).trans hu⟩, fun q => (hb.frozen (p := ⟨g, q, none⟩) hg).trans (h.soft q), h.off.of_below hb, h.lt⟩
theorem DelM.start {k : Nat} {x : D_Span} {S : Nat → Prop} {a : Option Addr} {c : Nat} (hO : OwSl R_Span W S L (some ⟨g, 0, none⟩) c) (hg : g < W.heap.size) (hb : Below W.heap.size W wr) (hx : L[k]? = some x) (hpx : p x = true) (hall : ∀ i y, i < k → L[i]? = some y → p y = false) : DelM W wr L g p (k + 1) ∧ ((L.take (k + 1)).filter fun y => !p y).length = k := by
  have hk := el_lt hx
  obtain ⟨g0, Sf, e0, _, hso, _, _, hel⟩ := hO.2.2 (by omega)
  cases e0
  have hcell : ∀ r y, L[r]? = some y → wr.cell? ⟨g, r * 2, none⟩ = some (.int .i64 y.1) ∧ wr.cell? ⟨g, r * 2 + 1, none⟩ = some (.int .i64 y.2) := fun r y hy => by
    obtain ⟨us, hu, hr⟩ := hel r y hy
    obtain ⟨y0, y1⟩ := y
    obtain rfl := ow0_Span hr
    rw [size_SpanS] at hu
    exact ⟨(hb.cell (p := ⟨g, r * 2, none⟩) hg).trans (by simpa using hu 0 _ rfl), (hb.cell (p := ⟨g, r * 2 + 1, none⟩) hg).trans (hu 1 _ rfl)⟩
  have hT : (L.take (k + 1)).filter (fun y => !p y) = L.take k := by
    rw [List.take_add_one, hx, Option.toList_some, List.filter_append]
    have h1 : (L.take k).filter (fun y => !p y) = L.take k := List.filter_eq_self.2 fun y hy => by
      obtain ⟨i, hi, rfl⟩ := List.getElem_of_mem hy
      have hi2 : i < k := by rw [List.length_take] at hi; omega
      rw [hall i _ hi2 (by rw [List.getElem_take, List.getElem?_eq_getElem])]
      rfl
    rw [h1]
    simp [hpx]
  refine ⟨⟨fun r y hy => ?_, fun r y _ hy => hcell r y hy, fun q hq => ?_, fun q => (hb.frozen (p := ⟨g, q, none⟩) hg).trans (hso q), (Off.refl _ W).of_below hb, hg⟩, by rw [hT, List.length_take]; omega⟩
  · rw [hT, List.getElem?_take] at hy
    split at hy
    · exact hcell r y hy
    · cases hy
  · obtain ⟨y, hy⟩ := el_some (show q / 2 < L.length by omega)
    rcases Nat.mod_two_eq_zero_or_one q with e | e
    · exact ⟨_, by rw [show q = q / 2 * 2 by omega]; exact (hcell _ y hy).1⟩
    · exact ⟨_, by rw [show q = q / 2 * 2 + 1 by omega]; exact (hcell _ y hy).2⟩
theorem DelM.drop (h : DelM W wr L g p j) {x : D_Span} (hx : L[j]? = some x) (hp : p x = true) : DelM W wr L g p (j + 1) ∧ ((L.take (j + 1)).filter fun y => !p y) = ((L.take j).filter fun y => !p y) := by
  have hT : ((L.take (j + 1)).filter fun y => !p y) = ((L.take j).filter fun y => !p y) := by
    rw [List.take_add_one, hx, Option.toList_some, List.filter_append]; simp [hp]
  exact ⟨⟨fun r y hy => h.low r y (by rw [hT] at hy; exact hy), fun r y hr hy => h.high r y (by omega) hy, h.there, h.soft, h.off, h.lt⟩, hT⟩
theorem DelM.keep (h : DelM W wr L g p j) {i : Nat} {x : D_Span} (hx : L[j]? = some x) (hp : p x = false) (hi : ((L.take j).filter fun y => !p y).length = i) :
    DelM W ((wr.setCell ⟨g, i * 2, none⟩ (.int .i64 x.1)).setCell ⟨g, i * 2 + 1, none⟩ (.int .i64 x.2)) L g p (j + 1) ∧ ((L.take (j + 1)).filter fun y => !p y).length = i + 1 := by
  have hT : ((L.take (j + 1)).filter fun y => !p y) = ((L.take j).filter fun y => !p y) ++ [x] := by
    rw [List.take_add_one, hx, Option.toList_some, List.filter_append]; simp [hp]
  have hij : i ≤ j := by rw [← hi]; exact kept_le
  have hj := el_lt hx
  have far : ∀ q, q ≠ i * 2 → q ≠ i * 2 + 1 → ((wr.setCell ⟨g, i * 2, none⟩ (.int .i64 x.1)).setCell ⟨g, i * 2 + 1, none⟩ (.int .i64 x.2)).cell? ⟨g, q, none⟩ = wr.cell? ⟨g, q, none⟩ := fun q h1 h2 => by
    rw [World.cell?_setCell_other _ _ _ _ (fun e => by injection e with _ e2; omega), World.cell?_setCell_other _ _ _ _ (fun e => by injection e with _ e2; omega)]
  obtain ⟨u0, hu0⟩ := h.there (i * 2) (by omega)
  obtain ⟨u1, hu1⟩ := h.there (i * 2 + 1) (by omega)
  have n0 : ((wr.setCell ⟨g, i * 2, none⟩ (.int .i64 x.1)).setCell ⟨g, i * 2 + 1, none⟩ (.int .i64 x.2)).cell? ⟨g, i * 2, none⟩ = some (.int .i64 x.1) := by
    rw [World.cell?_setCell_other _ _ _ _ (fun e => by injection e with _ e2; omega)]
    exact World.cell?_setCell_same _ _ _ hu0
  have n1 : ((wr.setCell ⟨g, i * 2, none⟩ (.int .i64 x.1)).setCell ⟨g, i * 2 + 1, none⟩ (.int .i64 x.2)).cell? ⟨g, i * 2 + 1, none⟩ = some (.int .i64 x.2) := World.cell?_setCell_same _ _ _ (by rw [World.cell?_setCell_other _ _ _ _ (fun e => by injection e with _ e2; omega)]; exact hu1)
  refine ⟨⟨fun r y hy => ?_, fun r y hr hy => ?_, fun q hq => ?_, fun q => by simp only [World.frozen?_setCell]; exact h.soft q, (h.off.setCell rfl _).setCell rfl _, h.lt⟩, by rw [hT, List.length_append, hi]; rfl⟩
  · rw [hT] at hy
    by_cases hri : r < i
    · rw [List.getElem?_append_left (by omega)] at hy
      exact ⟨(far _ (by omega) (by omega)).trans (h.low r y hy).1, (far _ (by omega) (by omega)).trans (h.low r y hy).2⟩
    · have hrl := el_lt hy
      rw [List.length_append, hi] at hrl
      simp at hrl
      obtain rfl : r = i := by omega
      rw [List.getElem?_append_right (by omega), hi, Nat.sub_self] at hy
      simp at hy
      subst hy
      exact ⟨n0, n1⟩
  · exact ⟨(far _ (by omega) (by omega)).trans (h.high r y (by omega) hy).1, (far _ (by omega) (by omega)).trans (h.high r y (by omega) hy).2⟩
  · by_cases h1 : q = i * 2
    · subst h1; exact ⟨_, n0⟩
    · by_cases h2 : q = i * 2 + 1
      · subst h2; exact ⟨_, n1⟩
      · obtain ⟨u, hu⟩ := h.there q hq
        exact ⟨u, (far _ h1 h2).trans hu⟩
end
/-- what DeleteFunc leaves -/
def DelR (L : List D_Span) (p : D_Span → Bool) (S : Nat → Prop) (a : Option Addr) (c : Nat) (W : World) (e : Ending) (w' : World) : Prop :=
  e = .returned (.slice a (L.filter fun y => !p y).length c) ∧ OwSl R_Span w' S (L.filter fun y => !p y) a c ∧ Off S W w'
theorem delR_elim {L : List D_Span} {p : D_Span → Bool} {S : Nat → Prop} {a : Option Addr} {c : Nat} {W : World} {e : Ending} {w' : World} (h : DelR L p S a c W e w') : e = .returned (.slice a (L.filter fun y => !p y).length c) ∧ OwSl R_Span w' S (L.filter fun y => !p y) a c ∧ Off S W w' := h
end Go.Proofs.Ytfciojkibklkfaa.RepC
