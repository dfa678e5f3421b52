/- The four sentinels, as the program's text lays them. -/
import Derived.Test.YtknifggpodhhdaaDoorTables
import Derived.Test.YtknifggpodhhdaaDoorErrIs
import Derived.Stop.LaidTwo
import Derived.Stop.ErrReads
import Derived.Stop.LaidErr
namespace Go.Proofs.YtknifggpodhhdaaDoor.SenC
open Go.RowKit
set_option linter.unusedVariables false

theorem laid4 {P : Program} {n0 n1 n2 n3 nm : String} {text0 text1 text2 text3 : List UInt8} {r : List (String × DataW Unit)} {W : World} {g0 g1 g2 g3 : Nat} {ti tp te ts : TypeId} {ms : Array (String × TypeId)} {f : Field}
    (h : laidMet P ((n0, .iface nm (.ptr (.agg [.lit (.string text0)]))) :: (n1, .iface nm (.ptr (.agg [.lit (.string text1)]))) :: (n2, .iface nm (.ptr (.agg [.lit (.string text2)]))) :: (n3, .iface nm (.ptr (.agg [.lit (.string text3)]))) :: r) W)
    (hg0 : P.globalNamed n0 = some g0) (ht0 : (P.globals[g0]?).map (·.type) = some ti) (hg1 : P.globalNamed n1 = some g1) (ht1 : (P.globals[g1]?).map (·.type) = some ti)
    (hg2 : P.globalNamed n2 = some g2) (ht2 : (P.globals[g2]?).map (·.type) = some ti) (hg3 : P.globalNamed n3 = some g3) (ht3 : (P.globals[g3]?).map (·.type) = some ti)
    (hi : P.underlying ti = some (.interface ms)) (hrow : ∀ u, P.typeName? 3 u = some nm → u = tp)
    (hp : P.underlying tp = some (.pointer te)) (he : P.underlying te = some (.struct #[f])) (hft : f.type = ts) (hfo : f.offset = 0) (hs : P.underlying ts = some .string) (hc : P.cellsOf te = 1) (hcs : P.cellsOf ts = 1) :
    ∃ (a0 a1 a2 a3 : Addr) (c0 c1 c2 c3 : Array Value) (t0 t1 t2 t3 : TypeId),
      W.cell? ⟨g0, 0, none⟩ = some (.iface tp (.pointer (some a0))) ∧ W.cell? ⟨g1, 0, none⟩ = some (.iface tp (.pointer (some a1))) ∧ W.cell? ⟨g2, 0, none⟩ = some (.iface tp (.pointer (some a2))) ∧ W.cell? ⟨g3, 0, none⟩ = some (.iface tp (.pointer (some a3))) ∧
      W.heap[a0.block]? = some (.cells c0 t0 (0, 0)) ∧ W.heap[a1.block]? = some (.cells c1 t1 (0, 0)) ∧ W.heap[a2.block]? = some (.cells c2 t2 (0, 0)) ∧ W.heap[a3.block]? = some (.cells c3 t3 (0, 0)) ∧
      a0 ≠ a1 ∧ a0 ≠ a2 ∧ a0 ≠ a3 ∧ a1 ≠ a2 ∧ a1 ≠ a3 ∧ a2 ≠ a3 := by
  obtain ⟨ps, ⟨g0', t0', cs0, f0, p0, q0, hg0', ht0', hv0, hd0, ⟨g1', t1', cs1, f1, p1, q1, hg1', ht1', hv1, hd1, ⟨g2', t2', cs2, f2, p2, q2, hg2', ht2', hv2, hd2, ⟨g3', t3', cs3, f3, p3, q3, hg3', ht3', hv3, hd3, _, e3⟩, e2⟩, e1⟩, e0⟩, hnd, hrows⟩ := h
  obtain rfl := Option.some.inj (hg0.symm.trans hg0')
  obtain rfl := Option.some.inj (hg1.symm.trans hg1')
  obtain rfl := Option.some.inj (hg2.symm.trans hg2')
  obtain rfl := Option.some.inj (hg3.symm.trans hg3')
  obtain rfl := Option.some.inj (ht0.symm.trans ht0')
  obtain rfl := Option.some.inj (ht1.symm.trans ht1')
  obtain rfl := Option.some.inj (ht2.symm.trans ht2')
  obtain rfl := Option.some.inj (ht3.symm.trans ht3')
  subst e3
  subst e2
  subst e1
  subst e0
  obtain ⟨l0⟩ := cs0
  obtain ⟨l1⟩ := cs1
  obtain ⟨l2⟩ := cs2
  obtain ⟨l3⟩ := cs3
  have ok0 : ∀ u v, l0 = [.iface u v] → Value.okWide P W .any 0 u v := fun u v e => by
    subst e
    exact (hrows g0 0 (by simp [MemPlace.row])).2 u v (by simpa using World.var?_cell hg0' hv0 0)
  have ok1 : ∀ u v, l1 = [.iface u v] → Value.okWide P W .any 0 u v := fun u v e => by
    subst e
    exact (hrows g1 0 (by simp [MemPlace.row])).2 u v (by simpa using World.var?_cell hg1' hv1 0)
  have ok2 : ∀ u v, l2 = [.iface u v] → Value.okWide P W .any 0 u v := fun u v e => by
    subst e
    exact (hrows g2 0 (by simp [MemPlace.row])).2 u v (by simpa using World.var?_cell hg2' hv2 0)
  have ok3 : ∀ u v, l3 = [.iface u v] → Value.okWide P W .any 0 u v := fun u v e => by
    subst e
    exact (hrows g3 0 (by simp [MemPlace.row])).2 u v (by simpa using World.var?_cell hg3' hv3 0)
  obtain ⟨a0, s0, rfl, hc0, hs0, hz0, rfl⟩ := errorString_of_trod hi hrow hp he hft hfo hs hc hcs hd0 ok0
  obtain ⟨a1, s1, rfl, hc1, hs1, hz1, rfl⟩ := errorString_of_trod hi hrow hp he hft hfo hs hc hcs hd1 ok1
  obtain ⟨a2, s2, rfl, hc2, hs2, hz2, rfl⟩ := errorString_of_trod hi hrow hp he hft hfo hs hc hcs hd2 ok2
  obtain ⟨a3, s3, rfl, hc3, hs3, hz3, rfl⟩ := errorString_of_trod hi hrow hp he hft hfo hs hc hcs hd3 ok3
  obtain ⟨c0, t0, hb0⟩ := (hrows a0.block a0.off (by simp [MemPlace.row])).1
  obtain ⟨c1, t1, hb1⟩ := (hrows a1.block a1.off (by simp [MemPlace.row])).1
  obtain ⟨c2, t2, hb2⟩ := (hrows a2.block a2.off (by simp [MemPlace.row])).1
  obtain ⟨c3, t3, hb3⟩ := (hrows a3.block a3.off (by simp [MemPlace.row])).1
  refine ⟨a0, a1, a2, a3, c0, c1, c2, c3, t0, t1, t2, t3, by simpa using World.var?_cell hg0' hv0 0, by simpa using World.var?_cell hg1' hv1 0, by simpa using World.var?_cell hg2' hv2 0, by simpa using World.var?_cell hg3' hv3 0, hb0, hb1, hb2, hb3, ?_, ?_, ?_, ?_, ?_, ?_⟩
  all_goals
    rintro rfl
    simp [MemPlace.row] at hnd
/-- the sentinels of the program: their variables, and that they are four -/
structure Sent (W : World) (a1 a2 a3 a4 : Addr) : Prop where
  v1 : W.cell? ⟨1, 0, none⟩ = some (.iface 166 (.pointer (some a1)))
  v2 : W.cell? ⟨2, 0, none⟩ = some (.iface 166 (.pointer (some a2)))
  v3 : W.cell? ⟨3, 0, none⟩ = some (.iface 166 (.pointer (some a3)))
  v4 : W.cell? ⟨4, 0, none⟩ = some (.iface 166 (.pointer (some a4)))
  b1 : ∃ c t, W.heap[a1.block]? = some (.cells c t (0, 0))
  b2 : ∃ c t, W.heap[a2.block]? = some (.cells c t (0, 0))
  b3 : ∃ c t, W.heap[a3.block]? = some (.cells c t (0, 0))
  b4 : ∃ c t, W.heap[a4.block]? = some (.cells c t (0, 0))
  n12 : a1 ≠ a2
  n13 : a1 ≠ a3
  n14 : a1 ≠ a4
  n23 : a2 ≠ a3
  n24 : a2 ≠ a4
  n34 : a3 ≠ a4
theorem blk_mv {W W' : World} {k : Nat} (h : ∃ c t, W.heap[k]? = some (.cells c t (0, 0))) (hb : Below W.heap.size W W') : ∃ c t, W'.heap[k]? = some (.cells c t (0, 0)) := by
  obtain ⟨c, t, h⟩ := h
  exact ⟨c, t, (hb.block k (Array.getElem?_eq_some_iff.1 h).1).trans h⟩
theorem Sent.mv {W W' : World} {a1 a2 a3 a4 : Addr} (h : Sent W a1 a2 a3 a4) (hb : Below W.heap.size W W') : Sent W' a1 a2 a3 a4 :=
  ⟨(hb.cell (p := ⟨_, 0, none⟩) (World.block_lt_of_cell? W _ h.v1)).trans h.v1, (hb.cell (p := ⟨_, 0, none⟩) (World.block_lt_of_cell? W _ h.v2)).trans h.v2, (hb.cell (p := ⟨_, 0, none⟩) (World.block_lt_of_cell? W _ h.v3)).trans h.v3, (hb.cell (p := ⟨_, 0, none⟩) (World.block_lt_of_cell? W _ h.v4)).trans h.v4,
   blk_mv h.b1 hb, blk_mv h.b2 hb, blk_mv h.b3 hb, blk_mv h.b4 hb, h.n12, h.n13, h.n14, h.n23, h.n24, h.n34⟩
theorem star_ : "*errors.errorString" = "*" ++ "errors.errorString" := by decide
theorem row_ (u : TypeId) (h : Tryd.prog.typeName? 3 u = some "*errors.errorString") : u = 166 :=
  typeName_ptr_named (nm := "errors.errorString") (by rw [← star_]; kernel_rfl) (by kernel_rfl) (by decide) u (by rw [← star_]; exact h)
set_option maxRecDepth 100000 in
theorem sent_of {W : World} (hL : laidMetH Tryd.prog [("loop.example/g00658/impl.errForm", Rows.laid_loop_example_g00658_impl_errForm), ("loop.example/g00658/impl.errLabel", Rows.laid_loop_example_g00658_impl_errLabel), ("loop.example/g00658/impl.errRange", Rows.laid_loop_example_g00658_impl_errRange), ("loop.example/g00658/impl.errFull", Rows.laid_loop_example_g00658_impl_errFull)] W) :
    ∃ a1 a2 a3 a4, Sent W a1 a2 a3 a4 := by
  have h := TabC.plain_met (by rfl) hL
  obtain ⟨a0, a1, a2, a3, c0, c1, c2, c3, t0, t1, t2, t3, h0, h1, h2, h3, k0, k1, k2, k3, n1, n2, n3, n4, n5, n6⟩ := laid4 (ti := 90) (tp := 166) (te := 192) (ts := 9) h (by kernel_rfl) (by kernel_rfl) (by kernel_rfl) (by kernel_rfl) (by kernel_rfl) (by kernel_rfl) (by kernel_rfl) (by kernel_rfl) Tryd.underlying90 row_ Tryd.underlying166 Tryd.underlying192 rfl rfl Tryd.underlying9 (by kernel_rfl) (by kernel_rfl)
  exact ⟨a0, a1, a2, a3, h0, h1, h2, h3, ⟨c0, t0, k0⟩, ⟨c1, t1, k1⟩, ⟨c2, t2, k2⟩, ⟨c3, t3, k3⟩, n1, n2, n3, n4, n5, n6⟩
end Go.Proofs.YtknifggpodhhdaaDoor.SenC
