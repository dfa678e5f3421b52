/- Slices of slices of spans that came in, opened. -/
import Derived.Test.YtglifjjoalkkbaaSpSS
import Derived.Deep.Slices
namespace Go.Proofs.Ytglifjjoalkkbaa.SpanC
open Go.ChangeShapes Go.WideShapes Go.ChangeAt Go.RowKit Go.Joins Go.Deep KeptC RowC ValC

theorem open_inner {H : Type} {enc : TypeId × Value → H} {W : World} {fuel : Nat} {u : Value} {y : DataW H × List MemPlace} (hf : DataW.trod enc Try.prog W 0 (fun _ => true) true fuel 42 [u] = some y) :
    ∃ a n cap f, u = .slice a n cap ∧ PairsIn W a n cap f := by
  rcases open_slice Try.underlying42 hf with ⟨hcs, _⟩ | ⟨x, n, cap, m, k, D, Pl, hcs, _, hl, hm, hmm, _, hi⟩
  · simp at hcs
    subst hcs
    exact ⟨none, 0, 0, fun _ => (0, 0), rfl, Nat.le_refl _, Nat.zero_le _, .inl rfl⟩
  · simp at hcs
    subst hcs
    have cL : Try.prog.cellsOf 46 = 2 := by kernel_rfl
    have hex : ∀ i, ∃ q : Int × Int, i < n → W.cell? (x.add (i * 2)) = some (.int .i64 q.1) ∧ W.cell? ((x.add (i * 2)).add 1) = some (.int .i64 q.2) := by
      intro i
      by_cases hin : i < n
      · obtain ⟨cs', hc, ht⟩ := hi i (by simp at hmm; omega)
        rw [cL] at hc
        obtain ⟨q, hq⟩ := pair_at hc ht
        exact ⟨q, fun _ => hq⟩
      · exact ⟨(0, 0), fun h => absurd h hin⟩
    obtain ⟨f, hf2⟩ := Classical.axiomOfChoice hex
    refine ⟨some x, n, cap, f, rfl, hl, hm, ?_⟩
    by_cases hn : n = 0
    · exact .inl hn
    · right
      have h0 := (hf2 0 (by omega)).1
      have hx0 : x.add (0 * 2) = x := by simp [Addr.add]
      rw [hx0] at h0
      have hsp : x.spot = none := by
        cases hs : x.spot with
        | none => rfl
        | some s => simp [World.cell?, hs] at h0; split at h0 <;> simp at h0
      obtain ⟨b, off, sp⟩ := x
      simp only at hsp
      subst hsp
      refine ⟨b, off, rfl, fun i hin => ?_, World.block_lt_of_cell? W ⟨b, off, none⟩ h0⟩
      obtain ⟨h1, h2⟩ := hf2 i hin
      have e1 : (⟨b, off, none⟩ : Addr).add (i * 2) = ⟨b, off + i * 2, none⟩ := by
        unfold Addr.add; split
        · rename_i hz; rw [hz]; rfl
        · rfl
      rw [e1] at h1 h2
      exact ⟨h1, by simpa [Addr.add] using h2⟩



theorem open_rows {H : Type} {enc : TypeId × Value → H} {W : World} {base : Nat} {v : Value} {d : DataW H} {p : List MemPlace} (o : Value.okWide Try.prog W .any base 50 v) (h : DataW.Trod enc Try.prog W 0 (fun _ => true) true 50 v d p) :
    ∃ a m cap N F, v = .slice a m cap ∧ RowsIn W a m cap N F := by
  obtain ⟨a, n, cap, rfl⟩ := okWide_slice Try.underlying50 o
  obtain ⟨fuel, hf⟩ := h
  rcases open_slice1 Try.underlying50 (by kernel_rfl) hf with ⟨hcs, _⟩ | ⟨x, len, c, m, k, V, D, Pl, hcs, _, hl, hm, hmm, _, hi⟩
  · simp [Value.cells] at hcs
    obtain ⟨rfl, rfl, rfl⟩ := hcs
    exact ⟨none, 0, 0, fun _ => 0, fun _ _ => (0, 0), rfl, Nat.le_refl _, Nat.zero_le _, .inl rfl⟩
  · simp [Value.cells] at hcs
    obtain ⟨rfl, rfl, rfl⟩ := hcs
    have hex : ∀ i, ∃ q : Nat × (Nat → Int × Int), i < n → ∃ ai ci, W.cell? (x.add i) = some (.slice ai q.1 ci) ∧ PairsIn W ai q.1 ci q.2 := by
      intro i
      by_cases hin : i < n
      · obtain ⟨hc, ht⟩ := hi i (by simp at hmm; omega)
        obtain ⟨ai, ni, ci, fi, hv, hp⟩ := open_inner ht
        exact ⟨(ni, fi), fun _ => ⟨ai, ci, by rw [hc, hv], hp⟩⟩
      · exact ⟨(0, fun _ => (0, 0)), fun h => absurd h hin⟩
    obtain ⟨q, hq⟩ := Classical.axiomOfChoice hex
    refine ⟨some x, n, cap, fun i => (q i).1, fun i => (q i).2, rfl, hl, hm, ?_⟩
    by_cases hn : n = 0
    · exact .inl hn
    · right
      obtain ⟨a0, c0, h0, _⟩ := hq 0 (by omega)
      have hx0 : x.add 0 = x := by simp [Addr.add]
      rw [hx0] at h0
      have hsp : x.spot = none := by
        cases hs : x.spot with
        | none => rfl
        | some s => simp [World.cell?, hs] at h0; split at h0 <;> simp at h0
      obtain ⟨b, off, sp⟩ := x
      simp only at hsp
      subst hsp
      refine ⟨b, off, rfl, World.block_lt_of_cell? W ⟨b, off, none⟩ h0, fun i hin => ?_⟩
      obtain ⟨ai, ci, h1, h2⟩ := hq i hin
      have e1 : (⟨b, off, none⟩ : Addr).add i = ⟨b, off + i, none⟩ := by unfold Addr.add; split <;> simp_all
      rw [e1] at h1
      exact ⟨ai, ci, h1, h2⟩

theorem open_i64 {H : Type} {enc : TypeId × Value → H} {W : World} {base : Nat} {v : Value} {d : DataW H} {p : List MemPlace} (o : Value.okWide Try.prog W .any base 2 v) (h : DataW.Trod enc Try.prog W 0 (fun _ => true) true 2 v d p) : ∃ q : Int, v = .int .i64 q ∧ (Lit.int .i64 q).wf = true := by
  obtain ⟨a0, rfl, rfl, rfl, w0⟩ := open_int Try.underlying2 o h
  exact ⟨a0, rfl, w0⟩
/-- the conversion, as a law meets it -/
def NewRows (m : Nat) (N : Nat → Nat) (F : Nat → Nat → Int × Int) (w : World) (e : Ending) (w' : World) : Prop :=
  e = .returned (.slice (some ⟨w.heap.size, 0, none⟩) m m) ∧ ∃ G, RRow w' w.heap.size m N F G ∧ RSoft w' w.heap.size m G ∧ (∀ i, i < m → w.heap.size < G i ∧ G i < w'.heap.size) ∧ Below w.heap.size w w' ∧ w.heap.size < w'.heap.size
theorem newRows_elim {m : Nat} {N : Nat → Nat} {F : Nat → Nat → Int × Int} {w : World} {e : Ending} {w' : World} (h : NewRows m N F w e w') :
  e = .returned (.slice (some ⟨w.heap.size, 0, none⟩) m m) ∧ ∃ G, RRow w' w.heap.size m N F G ∧ RSoft w' w.heap.size m G ∧ (∀ i, i < m → w.heap.size < G i ∧ G i < w'.heap.size) ∧ Below w.heap.size w w' ∧ w.heap.size < w'.heap.size := h
theorem rows_to {a : Option Addr} {m cap : Nat} {N : Nat → Nat} {F : Nat → Nat → Int × Int} {w : World} (h : RowsIn w a m cap N F) (hs : m + tot N m ≤ 1048576) (W : World) (hb : Below w.heap.size w W) :
    Calls Try.prog 32 #[.slice a m cap] W (NewRows m N F W) :=
  (toSS_new h (by omega) (fun i hi => by have := tot_at N hi; omega) hb).mono fun e w' ⟨he, G, hF⟩ => ⟨he, G, hF.rrow.1, hF.rrow.2, fun i hi => ⟨hF.gt i hi, hF.lt i hi⟩, hF.below, hF.glt⟩
end Go.Proofs.Ytglifjjoalkkbaa.SpanC
