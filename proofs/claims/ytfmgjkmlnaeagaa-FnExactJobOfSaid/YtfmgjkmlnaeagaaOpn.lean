/- Data that came in, opened: general in the type. -/
import Derived.Test.YtfmgjkmlnaeagaaRep3
import Derived.Test.YtfmgjkmlnaeagaaLift
import Derived.Deep.Slices
namespace Go.Proofs.Ytfmgjkmlnaeagaa.RepC
open Go.ChangeShapes Go.WideShapes Go.ChangeAt Go.RowKit Go.Joins Go.Deep RowC ValC
set_option linter.unusedVariables false
set_option maxRecDepth 100000

/-- what reads as a datum of the type t may be read as E -/
def Opn {α : Type} (E : Rp α) (t : TypeId) : Prop := ∀ {H : Type} (enc : TypeId × Value → H) (W : World) (fuel : Nat) (cs : List Value) (y : DataW H × List MemPlace), DataW.trod enc Try.prog W 0 (fun _ => true) true fuel t cs = some y → ∃ d, E.rd W W.heap.size d cs
theorem opn_int {t : TypeId} (ht : Try.prog.underlying t = some (.int .i64)) : Opn I t := fun enc W fuel cs y h => by
  obtain ⟨n, rfl, _, _⟩ := DataW.trod_int ht h
  exact ⟨n, rfl⟩
theorem add_addr (b o k : Nat) : (⟨b, o, none⟩ : Addr).add k = ⟨b, o + k, none⟩ := by
  unfold Addr.add; split
  · rename_i hz; rw [hz]; rfl
  · rfl
theorem opn_sl {α : Type} {E : Rp α} {t e : TypeId} (hE : Opn E e) (hp : 0 < E.size) (ht : Try.prog.underlying t = some (.slice e)) (hc : Try.prog.cellsOf e = E.size) : Opn (Sl E) t := fun enc W fuel cs y h => by
  rcases open_slice ht h with ⟨rfl, _⟩ | ⟨x, n, cap, m, k, D, Pl, rfl, _, hl, hm, hmm, _, hi⟩
  · exact ⟨[], none, 0, rfl, Nat.le_refl _, Nat.zero_le _, fun h => absurd h (Nat.lt_irrefl _)⟩
  · simp only [if_true] at hmm
    rw [hc] at hi
    have hone : ∀ i, i < n → ∃ d us, us.length = E.size ∧ (∀ j, j < E.size → W.cell? ((x.add (i * E.size)).add j) = us[j]?) ∧ E.rd W W.heap.size d us := fun i hin => by
      obtain ⟨us, h1, h2⟩ := hi i (by omega)
      obtain ⟨_, h3, h4⟩ := World.cells?_some h1
      obtain ⟨d, hd⟩ := hE enc W k us _ h2
      exact ⟨d, us, h3, h4, hd⟩
    by_cases hn : n = 0
    · subst hn
      exact ⟨[], some x, cap, rfl, hl, hm, fun h => absurd h (Nat.lt_irrefl _)⟩
    · obtain ⟨d0, us0, l0, c0, _⟩ := hone 0 (by omega)
      have e0 : (x.add (0 * E.size)).add 0 = x := by simp [Addr.add]
      have h0 := c0 0 hp
      rw [e0] at h0
      have hu : ∃ u, us0[0]? = some u := ⟨us0[0], List.getElem?_eq_getElem (by omega)⟩
      obtain ⟨u, hu⟩ := hu
      rw [hu] at h0
      have hsp : x.spot = none := by
        cases hs : x.spot with
        | none => rfl
        | some s => simp [World.cell?, hs] at h0; split at h0 <;> simp at h0
      obtain ⟨b, off, sp⟩ := x
      simp only at hsp
      subst hsp
      have hb := World.block_lt_of_cell? W ⟨b, off, none⟩ h0
      have hall : ∀ q, q ≤ n → ∃ L : List α, L.length = q ∧ ∀ i d, L[i]? = some d → ∃ us, CellsAt W b (off + i * E.size) us ∧ E.rd W W.heap.size d us := by
        intro q
        induction q with
        | zero => exact fun _ => ⟨[], rfl, fun i d hd => by simp at hd⟩
        | succ q ih =>
          intro hq
          obtain ⟨L, hL, hall⟩ := ih (by omega)
          obtain ⟨d, us, hus, hcs, hd⟩ := hone q (by omega)
          refine ⟨L ++ [d], by simp [hL], fun i z hz => ?_⟩
          by_cases hi : i < L.length
          · rw [List.getElem?_append_left hi] at hz
            exact hall i z hz
          · rw [List.getElem?_append_right (by omega)] at hz
            have hi2 : i = q := by
              have := (List.getElem?_eq_some_iff.1 hz).1
              simp at this
              omega
            subst hi2
            simp [hL] at hz
            subst hz
            refine ⟨us, fun j c hj => ?_, hd⟩
            have hj2 := (List.getElem?_eq_some_iff.1 hj).1
            have := hcs j (by omega)
            rw [add_addr, add_addr, hj] at this
            exact this
      obtain ⟨L, hL, hel⟩ := hall n (Nat.le_refl _)
      subst hL
      exact ⟨L, some ⟨b, off, none⟩, cap, rfl, hl, hm, fun _ => ⟨b, off, rfl, hb, hel⟩⟩
/-- a field, cut out -/
theorem fld {H : Type} {enc : TypeId × Value → H} {W : World} {n : Nat} {cs : List Value} {fs : Array Field} {xs : List (DataW H × List MemPlace)} (hf : ∀ (i : Nat) (f : Field), fs[i]? = some f → DataW.trod enc Try.prog W 0 (fun _ => true) true n f.type ((cs.drop f.offset).take (Try.prog.cellsOf f.type)) = xs[i]?)
    (i : Nat) (t o k : Nat) (h : fs[i]?.map (fun f => (f.type, f.offset)) = some (t, o)) (hc : Try.prog.cellsOf t = k) : DataW.trod enc Try.prog W 0 (fun _ => true) true n t ((cs.drop o).take k) = xs[i]? := by
  cases e : fs[i]? with
  | none => rw [e] at h; cases h
  | some f =>
    rw [e] at h
    simp only [Option.map_some, Option.some.injEq, Prod.mk.injEq] at h
    obtain ⟨rfl, rfl⟩ := h
    subst hc
    exact hf i f e
/-- a slice argument -/
theorem open_sl {α : Type} {E : Rp α} {t e : TypeId} (hO : Opn (Sl E) t) (ht : Try.prog.underlying t = some (.slice e)) {H : Type} {enc : TypeId × Value → H} {W : World} {base : Nat} {v : Value} {d : DataW H} {p : List MemPlace} (o : Value.okWide Try.prog W .any base t v)
    (h : DataW.Trod enc Try.prog W 0 (fun _ => true) true t v d p) : ∃ (L : List α) (a : Option Addr) (cap : Nat), v = .slice a L.length cap ∧ RdSl E W W.heap.size L a cap := by
  obtain ⟨a, n, cap, rfl⟩ := okWide_slice ht o
  obtain ⟨fuel, hf⟩ := h
  obtain ⟨L, a', cap', hcs, hr⟩ := hO enc W fuel _ _ hf
  simp [Value.cells] at hcs
  obtain ⟨rfl, rfl, rfl⟩ := hcs
  exact ⟨L, a, cap, rfl, hr⟩
/-- a struct argument -/
theorem open_st {α : Type} {E : Rp α} {t : TypeId} {fs : Array Field} (hO : Opn E t) (ht : Try.prog.underlying t = some (.struct fs)) {H : Type} {enc : TypeId × Value → H} {W : World} {base : Nat} {v : Value} {d : DataW H} {p : List MemPlace} (o : Value.okWide Try.prog W .any base t v)
    (h : DataW.Trod enc Try.prog W 0 (fun _ => true) true t v d p) : ∃ (x : α) (cs : List Value), v = .agg cs.toArray ∧ E.rd W W.heap.size x cs := by
  obtain ⟨cs, rfl, _⟩ := okWide_struct ht o
  obtain ⟨fuel, hf⟩ := h
  obtain ⟨x, hx⟩ := hO enc W fuel _ _ hf
  exact ⟨x, cs.toList, rfl, hx⟩
end Go.Proofs.Ytfmgjkmlnaeagaa.RepC
