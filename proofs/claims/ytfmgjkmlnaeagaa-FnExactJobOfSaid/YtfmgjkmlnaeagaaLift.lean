/- From a contract over a law's opened arguments to what its row asks: general in the program. -/
import Derived.Test.YtfmgjkmlnaeagaaRows
import Derived.ProofKit
import Derived.OpenShut
import Derived.Below
import Derived.Carry
import Derived.ChangeOld
import Derived.Lib.SmallJoins
namespace Go.Proofs.Ytfmgjkmlnaeagaa.LiftL
open Go.ChangeShapes Go.WideShapes Go.ChangeAt Go.RowKit Go.Joins

section
variable {H : Type} {enc : TypeId × Value → H} {P : Program}

def allRead (P : Program) (ts : List TypeId) : Bool := ts.all fun t => P.readableRec t && decide (t < P.types.size)

theorem trodAll_stays (hl : laidOutB P = true) {W W' : World} (hb : Below W.heap.size W W') : ∀ (ts : List TypeId) (vs : List Value) (ds : List (DataW H)) (ps : List MemPlace), allRead P ts = true →
    DataW.TrodAll enc P W 0 (fun _ => true) true ts vs ds ps → DataW.TrodAll enc P W' 0 (fun b => decide (b < W.heap.size)) true ts vs ds ps
  | [], vs, ds, ps, _, h => by
    obtain ⟨rfl, rfl, rfl⟩ := trodAll_nil h
    exact trodAll_mk0
  | t :: ts, vs, ds, ps, hr, h => by
    obtain ⟨v, vs', d, ds', p, q, rfl, rfl, rfl, h1, h2⟩ := trodAll_cons h
    have hr' : (P.readableRec t = true ∧ t < P.types.size) ∧ allRead P ts = true := by
      unfold allRead at hr
      simpa [List.all_cons, allRead] using hr
    have lt : ∀ x ∈ p, x.block < W.heap.size := by obtain ⟨m, hm⟩ := h1; exact DataW.trod_lt m _ _ _ hm
    exact trodAll_cons_mk (Below.trod hl hr'.1.1 hr'.1.2 h1 hb lt) (trodAll_stays hl hb ts vs' ds' q hr'.2 h2)

theorem var_stays {W W' : World} (hb : Below W.heap.size W W') {n : String} {g : Nat} {cs : Array Value} (hg : P.globalNamed n = some g) (h : W.var? P n = some cs) : W'.var? P n = some cs := by
  have hlt : g < W.heap.size := by
    simp only [World.var?, hg, Option.bind_some] at h
    cases hw : W.heap[g]? with
    | none => rw [hw] at h; simp at h
    | some o => exact (Array.getElem?_eq_some_iff.1 hw).1
  simp only [World.var?, hg, Option.bind_some] at h ⊢
  rw [hb.block g hlt]
  exact h

def varsRead (P : Program) (ns : List String) : Bool := ns.all fun n => match (P.globalNamed n).bind (fun g => (P.globals[g]?).map (·.type)) with | some t => P.readableRec t && decide (t < P.types.size) | none => false
theorem trodVars_stays (hl : laidOutB P = true) {W W' : World} (hb : Below W.heap.size W W') : ∀ (ns : List String) (gs : List (DataW H)) (ps : List MemPlace), varsRead P ns = true →
    DataW.TrodVars enc P W (fun _ => true) ns gs ps → DataW.TrodVars enc P W' (fun b => decide (b < W.heap.size)) ns gs ps
  | [], gs, ps, _, h => by
    obtain ⟨rfl, rfl⟩ := trodVars_none h
    exact rfl
  | n :: ns, [], ps, _, h => by cases h
  | n :: ns, d :: gs, ps, hr, h => by
    obtain ⟨g, t, cs, fuel, p, q, h1, h2, h3, h4, h5, rfl⟩ := h
    have hr' : (P.readableRec t = true ∧ t < P.types.size) ∧ varsRead P ns = true := by
      unfold varsRead at hr
      rw [List.all_cons, Bool.and_eq_true] at hr
      have h0 := hr.1
      rw [h1, Option.bind_some, h2] at h0
      simp only [Bool.and_eq_true, decide_eq_true_eq] at h0
      exact ⟨h0, hr.2⟩
    have lt : ∀ x ∈ p, x.block < W.heap.size := DataW.trod_lt fuel _ _ _ h4
    obtain ⟨fuel', h6⟩ := Below.trod hl hr'.1.1 hr'.1.2 (v := .agg cs) (d := d) (ps := p) ⟨fuel, h4⟩ hb lt
    exact ⟨g, t, cs, fuel', p, q, h1, h2, var_stays hb h1 h3, h6, trodVars_stays hl hb ns gs q hr'.2 h5, rfl⟩

theorem trodVars_cons {W : World} {sp : Nat → Bool} {n : String} {ns : List String} {gs : List (DataW H)} {ps : List MemPlace} (h : DataW.TrodVars enc P W sp (n :: ns) gs ps) : ∃ d gs' q, gs = d :: gs' ∧ DataW.TrodVars enc P W sp ns gs' q := by
  cases gs with
  | nil => cases h
  | cons d gs' =>
    obtain ⟨g, t, cs, fuel, p, q, _, _, _, _, h5, _⟩ := h
    exact ⟨d, gs', q, rfl, h5⟩

/-- What a law's row asks behind the call. -/
theorem post_law {f : Func} {s : ChangeSpec} {W W' : World} {args : Array Value} {ds gs : List (DataW H)} {before : List MemPlace} {tb : TypeId} (hspec : s.fn H (ds ++ gs) = { results := [.lit (.bool true)], args := ds, vars := gs })
    (hl : laidOutB P = true) (hr : allRead P f.params.toList = true) (hv : varsRead P s.vars = true) (hres : f.resultTypes = #[tb]) (hbool : P.underlying tb = some .bool)
    (hW : DataW.Whole enc P f.params.toList s.vars false W args.toList ds gs before) (hb : Below W.heap.size W W') : s.post enc P f false true false false W args (.bool true) W' := by
  have hW' := hW
  obtain ⟨p, q, hA, hV, rfl, _, _⟩ := hW
  refine ⟨ds, gs, _, [], p, q, hW', ?_, ?_, ?_, hb.frame _, fun h => by cases h⟩
  · rw [hspec, hres]
    exact trodAll_mk1 (shut_bool hbool _)
  · rw [hspec]
    exact trodAll_stays hl hb _ _ _ _ hr hA
  · rw [hspec]
    exact trodVars_stays hl hb _ _ _ hv hV
end
end Go.Proofs.Ytfmgjkmlnaeagaa.LiftL
