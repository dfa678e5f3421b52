/- Spans that came in, opened. -/
import Derived.Test.YtglifjjoalkkbaaSpVals
import Derived.Test.YtglifjjoalkkbaaLift
import Derived.Deep.Slices
namespace Go.Proofs.Ytglifjjoalkkbaa.SpanC
open Go.ChangeShapes Go.WideShapes Go.ChangeAt Go.RowKit Go.Joins Go.Deep KeptC RowC ValC

theorem open_sp {H : Type} {enc : TypeId × Value → H} {W : World} {base : Nat} {v : Value} {d : DataW H} {p : List MemPlace} (o : Value.okWide Try.prog W .any base 46 v) (h : DataW.Trod enc Try.prog W 0 (fun _ => true) true 46 v d p) :
    ∃ l s : Int, v = (.agg #[.int .i64 l, .int .i64 s]) ∧ (Lit.int .i64 l).wf = true ∧ (Lit.int .i64 s).wf = true := by
  obtain ⟨c0, c1, y0, y1, m, rfl, rfl, rfl, hy0, hy1⟩ := open_agg2 Try.underlying46 (by kernel_rfl) (by kernel_rfl) o h
  obtain ⟨a, e0, rfl, wa⟩ := DataW.trod_int Try.underlying2 hy0
  obtain ⟨b, e1, rfl, wb⟩ := DataW.trod_int Try.underlying2 hy1
  simp at e0 e1
  subst e0 e1
  exact ⟨a, b, rfl, wa, wb⟩
/-- a slice of pairs: none at all, or n pairs at an address that has them -/
def PairsIn (W : World) (a : Option Addr) (n cap : Nat) (f : Nat → Int × Int) : Prop := n ≤ cap ∧ cap ≤ maxLen ∧ (n = 0 ∨ ∃ b o, a = some ⟨b, o, none⟩ ∧ PRow W b o n f ∧ b < W.heap.size)
theorem pair_at {H : Type} {enc : TypeId × Value → H} {W : World} {x : Addr} {i n : Nat} {cs : List Value} {y : DataW H × List MemPlace} (hc : W.cells? 0 (x.add (i * 2)) 2 = some cs) (ht : DataW.trod enc Try.prog W 0 (fun _ => true) true n 46 cs = some y) :
    ∃ q : Int × Int, W.cell? (x.add (i * 2)) = some (.int .i64 q.1) ∧ W.cell? ((x.add (i * 2)).add 1) = some (.int .i64 q.2) := by
  obtain ⟨y0, y1, m, _, hl, h0, h1⟩ := trod_struct2 Try.underlying46 ht
  have c64 : Try.prog.cellsOf 2 = 1 := by kernel_rfl
  have cL : Try.prog.cellsOf 46 = 2 := by kernel_rfl
  rw [cL] at hl
  obtain ⟨_, _, hcl⟩ := World.cells?_some hc
  obtain ⟨p, e0, _, _⟩ := DataW.trod_int Try.underlying2 h0
  obtain ⟨q, e1, _, _⟩ := DataW.trod_int Try.underlying2 h1
  simp only [c64] at e0 e1
  have k0 : cs[0]? = some (.int .i64 p) := by have := congrArg (fun l => l[0]?) e0; simpa using this
  have k1 : cs[1]? = some (.int .i64 q) := by have := congrArg (fun l => l[0]?) e1; simpa using this
  have g0 := hcl 0 (by omega)
  have g1 := hcl 1 (by omega)
  rw [k0] at g0
  rw [k1] at g1
  exact ⟨(p, q), by simpa [Addr.add] using g0, g1⟩
theorem open_pairs {H : Type} {enc : TypeId × Value → H} {W : World} {base : Nat} {v : Value} {d : DataW H} {p : List MemPlace} (o : Value.okWide Try.prog W .any base 42 v) (h : DataW.Trod enc Try.prog W 0 (fun _ => true) true 42 v d p) :
    ∃ a n cap f, v = .slice a n cap ∧ PairsIn W a n cap f := by
  obtain ⟨a, n, cap, rfl⟩ := okWide_slice Try.underlying42 o
  obtain ⟨fuel, hf⟩ := h
  rcases open_slice Try.underlying42 hf with ⟨hcs, _⟩ | ⟨x, len, c, m, k, D, Pl, hcs, _, hl, hm, hmm, _, hi⟩
  · simp [Value.cells] at hcs
    obtain ⟨rfl, rfl, rfl⟩ := hcs
    exact ⟨none, 0, 0, fun _ => (0, 0), rfl, Nat.le_refl _, Nat.zero_le _, .inl rfl⟩
  · simp [Value.cells] at hcs
    obtain ⟨rfl, rfl, rfl⟩ := hcs
    have cL : Try.prog.cellsOf 46 = 2 := by kernel_rfl
    have hex : ∀ i, ∃ q : Int × Int, i < n → W.cell? (x.add (i * 2)) = some (.int .i64 q.1) ∧ W.cell? ((x.add (i * 2)).add 1) = some (.int .i64 q.2) := by
      intro i
      by_cases hin : i < n
      · obtain ⟨cs', hc, ht⟩ := hi i (by simp at hmm; omega)
        rw [cL] at hc
        obtain ⟨q, hq⟩ := pair_at hc ht
        exact ⟨q, fun _ => hq⟩
      · exact ⟨(0, 0), fun h => absurd h hin⟩
    obtain ⟨f, hf2⟩ := Classical.axiomOfChoice hex
    refine ⟨some x, n, cap, f, rfl, hl, hm, ?_⟩
    by_cases hn : n = 0
    · exact .inl hn
    · right
      have h0 := (hf2 0 (by omega)).1
      have hx0 : x.add (0 * 2) = x := by simp [Addr.add]
      rw [hx0] at h0
      have hsp : x.spot = none := by
        cases hs : x.spot with
        | none => rfl
        | some s => simp [World.cell?, hs] at h0; split at h0 <;> simp at h0
      obtain ⟨b, off, sp⟩ := x
      simp only at hsp
      subst hsp
      refine ⟨b, off, rfl, fun i hin => ?_, World.block_lt_of_cell? W ⟨b, off, none⟩ h0⟩
      obtain ⟨h1, h2⟩ := hf2 i hin
      have e1 : (⟨b, off, none⟩ : Addr).add (i * 2) = ⟨b, off + i * 2, none⟩ := by
        unfold Addr.add; split
        · rename_i hz; rw [hz]; rfl
        · rfl
      rw [e1] at h1 h2
      exact ⟨h1, by simpa [Addr.add] using h2⟩


theorem pairs_to {a : Option Addr} {n cap : Nat} {f : Nat → Int × Int} {w : World} (h : PairsIn w a n cap f) (hn : n ≤ 1048576) (W : World) (hb : Below w.heap.size w W) : Calls Try.prog 26 #[.slice a n cap] W (MadeRow W n f) := by
  obtain ⟨hl, hm, hc⟩ := h
  rcases hc with rfl | ⟨b, o, rfl, hr, hlt⟩
  · exact toS_zero a cap f W
  · exact toS_some b o n cap f W hn (hr.below hb hlt) (Nat.lt_of_lt_of_le hlt hb.size) hl
end Go.Proofs.Ytglifjjoalkkbaa.SpanC
