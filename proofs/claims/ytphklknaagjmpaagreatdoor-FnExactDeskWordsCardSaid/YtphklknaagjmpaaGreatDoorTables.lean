/- What a condition on a package-level table of integers gives a walk: general in the program. -/
import Derived.Test.YtphklknaagjmpaaGreatDoorRows
import Derived.ProofKit
import Derived.OpenShut
import Derived.LaidMore
import Derived.LaidByTextLater
import Derived.Stop.Joined
import Derived.ChangeSame
import Derived.JoinedOf
namespace Go.Proofs.YtphklknaagjmpaaGreatDoor.TabC
open Go.ChangeShapes Go.WideShapes Go.RowKit

theorem laid_mem {P : Program} {W : World} : ∀ (L : List (String × DataW Unit)) (ps : List MemPlace), DataW.LaidVars P W L ps → ∀ x ∈ L, ∃ g t cs fuel p, P.globalNamed x.1 = some g ∧ (P.globals[g]?).map (·.type) = some t ∧ W.var? P x.1 = some cs ∧
    DataW.trod (fun _ => ()) P W 0 (fun _ => true) false fuel t cs.toList = some (x.2, p)
  | [], _, _, x, hx => by cases hx
  | (n, d) :: r, ps, h, x, hx => by
    obtain ⟨g, t, cs, fuel, p, q, h1, h2, h3, h4, h5, _⟩ := h
    rcases List.mem_cons.1 hx with rfl | hx
    · exact ⟨g, t, cs, fuel, p, h1, h2, h3, h4⟩
    · exact laid_mem r q h5 x hx

theorem laid_ints {P : Program} {W : World} {L : List (String × DataW Unit)} {name : String} {k : IntKind} {ns : List Int} {g t e : Nat} {len : Nat} (hL : laidMet P L W) (hm : (name, DataW.agg (ns.map fun n => DataW.lit (.int k n))) ∈ L)
    (hg : P.globalNamed name = some g) (ht : (P.globals[g]?).map (·.type) = some t) (hu : P.underlying t = some (.array len e)) (he : P.underlying e = some (.int k)) (hc : P.cellsOf e = 1) :
    ∀ i (hi : i < ns.length), W.cell? ⟨g, i, none⟩ = some (.int k ns[i]) := by
  obtain ⟨ps, hl, _, _⟩ := hL
  obtain ⟨g', t', cs, fuel, p, h1, h2, h3, h4⟩ := laid_mem L ps hl _ hm
  obtain rfl := Option.some.inj (hg.symm.trans h1)
  obtain rfl := Option.some.inj (ht.symm.trans h2)
  obtain ⟨xs, m, rfl, hx, _, hn, hel⟩ := DataW.trod_array hu h4
  simp only [Prod.mk.injEq, DataW.agg.injEq] at hx
  have hlen : xs.length = ns.length := by have := congrArg List.length hx.1; simpa using this.symm
  intro i hi
  have hi2 : i < xs.length := by omega
  have h5 := hel i (by omega)
  rw [hc, List.getElem?_eq_getElem hi2] at h5
  obtain ⟨n, e1, e2, _⟩ := DataW.trod_int he h5
  have hxi : ns[i] = n := by
    have h6 : (ns.map fun n => (DataW.lit (.int k n) : DataW Unit))[i]? = (xs.map (·.1))[i]? := by rw [hx.1]
    rw [List.getElem?_map, List.getElem?_map, List.getElem?_eq_getElem hi, List.getElem?_eq_getElem hi2, e2] at h6
    simpa using h6
  have hcell := World.var?_cell hg h3 i
  rw [hcell]
  have h7 : cs.toList[i]? = some (.int k n) := by
    have := congrArg (fun l => l[0]?) e1
    simp only [Nat.mul_one, List.getElem?_take, List.getElem?_drop] at this
    simpa using this
  rw [hxi, ← h7]
  simp
theorem plain_met {P : Program} {L : List (String × DataW Unit)} {W : World} (hp : (L.all fun x => x.2.handleName?.isNone) = true) (h : laidMetH P L W) : laidMet P L W := by
  rw [MakeChecks.laidMetH_plain _ _ _ hp] at h
  exact h
end Go.Proofs.YtphklknaagjmpaaGreatDoor.TabC
