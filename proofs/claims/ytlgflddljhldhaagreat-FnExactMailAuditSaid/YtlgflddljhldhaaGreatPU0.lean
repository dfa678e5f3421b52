/- Of this claim's texts the part 0: Tk RowO Kept. -/
import Derived.Test.YtlgflddljhldhaaGreatRows
import Derived.LoopTactic
import Derived.BigQuiet
import Derived.Deep.QuietTactic
import Derived.Deep.RegionWith
import Derived.Deep.RegionHeld3
import Derived.RegionTactic
import Derived.WalkSpells
import Derived.WalkLawsBesides
import Derived.WalkKit
import Derived.ProofKit
import Derived.Below
import Derived.OwnWalk
import Derived.Maps.AppendAt
import Derived.Laws.Append
import Derived.Deep.AppendLies
import Derived.Lib.Hide
import Derived.Deep.DeepCutAuto
section
namespace Go.Proofs.YtlgflddljhldhaaGreat
section
variable {P : Program} {ops : Array Oper} {Q : Exit → Act → World → Prop} {md : Region.Mode} {S : World → Prop}
theorem tk (i : Nat) {oi : Oper} {v : Value} {fuel : Nat} {listed : Array Bool} {a a' : Act} {w : World} (hS : S w)
    (h : wpAnyH P md ops Q S fuel (listed.setIfInBounds i true) a' w)
    (hi : ops[i]? = some oi := by rfl) (hs : Region.noSelect ops = true := by kernel_rfl)
    (hf : Region.free md ops listed i = true := by kernel_rfl) (hr : (Region.ready md ops listed).contains i = true := by kernel_rfl)
    (hw : Region.wanted oi (yielded ops a.tmps) = true := by kernel_rfl)
    (hy : ∀ w, S w → (execOp a.eval oi).run P w = .ok (.value v) w := by
      intro w hSw; (try dsimp only at hSw); go_simp; try with_reducible rfl)
    (hQ : ∀ c a w, Q (.panic c) (a.put oi.dst v) w → Q (.panic c) a w := by exact fun _ _ _ h => h)
    (ha : a.put oi.dst v = a' := by
      first | (simp only [Act.put, List.getElem_toArray, List.getElem_cons_succ, List.getElem_cons_zero, List.setIfInBounds_toArray, List.set_cons_zero, List.set_cons_succ]; done) | (simp only [Act.put, List.getElem_toArray, List.getElem_cons_succ, List.getElem_cons_zero, List.setIfInBounds_toArray, List.set_cons_zero, List.set_cons_succ]; exact rfl) | exact rfl) :
    wpAnyH P md ops Q S (fuel + 1) listed a w := by
  subst ha
  exact wpAnyH_take hi hs hf hr hQ (Or.inl ⟨hw, hy⟩) hS h
theorem tn (i : Nat) {oi : Oper} {fuel : Nat} {listed : Array Bool} {a a' : Act} {w : World} (hS : S w)
    (h : wpAnyH P md ops Q S fuel (listed.setIfInBounds i true) a' w)
    (hi : ops[i]? = some oi := by rfl) (hs : Region.noSelect ops = true := by kernel_rfl)
    (hf : Region.free md ops listed i = true := by kernel_rfl) (hr : (Region.ready md ops listed).contains i = true := by kernel_rfl)
    (hw : Region.wanted oi (yielded ops a.tmps) = false := by kernel_rfl)
    (hQ : ∀ c a w, Q (.panic c) (a.put oi.dst undef) w → Q (.panic c) a w := by exact fun _ _ _ h => h)
    (ha : a.put oi.dst undef = a' := by
      first | (simp only [Act.put, List.getElem_toArray, List.getElem_cons_succ, List.getElem_cons_zero, List.setIfInBounds_toArray, List.set_cons_zero, List.set_cons_succ]; done) | (simp only [Act.put, List.getElem_toArray, List.getElem_cons_succ, List.getElem_cons_zero, List.setIfInBounds_toArray, List.set_cons_zero, List.set_cons_succ]; exact rfl) | exact rfl) :
    wpAnyH P md ops Q S (fuel + 1) listed a w := by
  subst ha
  exact wpAnyH_take hi hs hf hr hQ (Or.inr ⟨hw, rfl⟩) hS h
theorem rd1 (i : Nat) {o : Oper} {fuel : Nat} {listed : Array Bool} {a a' : Act} {w : World}
    (h : ∀ K' : Act → World → Prop, Shut (∀ a w, S w → (S w → wpAnyH P md ops Q S fuel (listed.setIfInBounds i true) a w) → K' a w) → if Region.wanted o (yielded ops a'.tmps) = true then Oper.wp P o a' w K' Q else K' (a'.put o.dst undef) w)
    (ha : a = a' := by
      first | (simp only [Act.put, List.getElem_toArray, List.getElem_cons_succ, List.getElem_cons_zero, List.setIfInBounds_toArray, List.set_cons_zero, List.set_cons_succ]; done) | (simp only [Act.put, List.getElem_toArray, List.getElem_cons_succ, List.getElem_cons_zero, List.setIfInBounds_toArray, List.set_cons_zero, List.set_cons_succ]; exact rfl) | exact rfl)
    (ho : ops[i]? = some o := by rfl) (hr : Region.ready md ops listed = [i] := by kernel_rfl) :
    wpAnyH P md ops Q S (fuel + 1) listed a w := by
  subst ha
  exact wpAnyH_ready hr (by simp) (AllReadyH.cons ho h AllReadyH.nil)
theorem rd0 {listed : Array Bool} {a a' : Act} {w : World} {fuel : Nat} (h : Q .normal a' w)
    (ha : a = a' := by
      first | (simp only [Act.put, List.getElem_toArray, List.getElem_cons_succ, List.getElem_cons_zero, List.setIfInBounds_toArray, List.set_cons_zero, List.set_cons_succ]; done) | (simp only [Act.put, List.getElem_toArray, List.getElem_cons_succ, List.getElem_cons_zero, List.setIfInBounds_toArray, List.set_cons_zero, List.set_cons_succ]; exact rfl) | exact rfl)
    (hr : Region.ready md ops listed = [] := by kernel_rfl) : wpAnyH P md ops Q S fuel listed a w := by
  subst ha
  exact wpAnyH_done hr h fuel
end
end Go.Proofs.YtlgflddljhldhaaGreat
end
section
namespace Go.Proofs.YtlgflddljhldhaaGreat.RowC
open Go.RowKit
section
variable {W W' : World} {lo : Nat} {T : TypeId} {size : Nat} {v : Value} {n : Nat} {c : Nat → Value}
end
section
variable {P : Program}
end
section
variable {P : Program}
theorem wpList_app {ops : Array Oper} {rest : List Oper} {o : Oper} {a : Act} {W : World} {Q : Exit → Act → World → Prop} (hgd : o.guard = none) (s x : Operand) (t : TypeId)
    (ho : o.op = .call { callee := .builtin .append, args := #[s, x], argTypes := #[t, t] }) {v y : Value} (hs : a.eval s = v) (hx : a.eval x = y)
    {v' : Value} {W' : World} (hr : (Builtin.append_ #[t, t] o.type #[v, y]).run P W = .ok v' W') (h : wpList P ops Q rest (a.put o.dst v') W') : wpList P ops Q (o :: rest) a W := by
  refine wpList_plain hgd fun K hK => ?_
  unfold Oper.wp execOp
  simp only [ho, resolve, invoke, builtin, Sem.run_bind, Sem.run_pure, Result.andThen_ok, List.map_toArray, List.map_cons, List.map_nil, hs, hx, hr]
  exact hK _ _ h
end
end Go.Proofs.YtlgflddljhldhaaGreat.RowC
end
section
namespace Go.Proofs.YtlgflddljhldhaaGreat.KeptC
open Go.RowKit
structure KS (w : World) (base : Nat) (L : List (Nat × Nat × Value)) (W : World) : Prop where
  cells : ∀ x ∈ L, W.cell? ⟨x.1, x.2.1, none⟩ = some x.2.2
  low : ∀ x ∈ L, x.1 < base
  size : base ≤ W.heap.size
  below : Below w.heap.size w W
  base : w.heap.size ≤ base
variable {w W W1 : World} {base : Nat} {L : List (Nat × Nat × Value)}
theorem KS.call (h : KS w base L W) (hb : Below W.heap.size W W1) : KS w base L W1 :=
  ⟨fun x hx => (hb.cell (p := ⟨x.1, x.2.1, none⟩) (Nat.lt_of_lt_of_le (h.low x hx) h.size)).trans (h.cells x hx), h.low, Nat.le_trans h.size hb.size, h.below.trans (hb.mono (Nat.le_trans h.base h.size)), h.base⟩
theorem KS.alloc (h : KS w base L W) (o : Obj) : KS w base L (W.alloc o) := h.call ((Below.refl _ _).alloc (Nat.le_refl _) o)
theorem KS.drew (h : KS w base L W) : KS w base L W.drew := h.call (Below.refl _ _).drew
theorem KS.set (h : KS w base L W) {b o : Nat} (hb : base ≤ b) (v : Value) : KS w base L (W.setCell ⟨b, o, none⟩ v) := by
  refine ⟨fun x hx => ?_, h.low, by simpa using h.size, h.below.setCell (Nat.le_trans h.base hb) v, h.base⟩
  have hn : (⟨b, o, none⟩ : Addr) ≠ ⟨x.1, x.2.1, none⟩ := fun e => by have := h.low x hx; injection e; omega
  rw [World.cell?_setCell_other _ _ _ _ hn]
  exact h.cells x hx
theorem KS.nil (w : World) : KS w w.heap.size [] w := ⟨fun x hx => (by cases hx), fun x hx => (by cases hx), Nat.le_refl _, Below.refl _ _, Nat.le_refl _⟩
theorem KS.at (h : KS w base L W) {b o : Nat} {v : Value} (hx : (b, o, v) ∈ L) : W.cell? ⟨b, o, none⟩ = some v := h.cells _ hx
theorem rules (hb : Below W.heap.size W W1) : (∀ b o, b < W.heap.size → W1.cell? ⟨b, o, none⟩ = W.cell? ⟨b, o, none⟩) ∧ (∀ b o, b < W.heap.size → W1.frozen? ⟨b, o, none⟩ = W.frozen? ⟨b, o, none⟩) ∧
    (∀ n, n < W.heap.size → n < W1.heap.size) ∧ (∀ n, n < W.heap.size → n ≤ W1.heap.size) :=
  ⟨fun b o h => hb.cell (p := ⟨b, o, none⟩) h, fun b o h => hb.frozen (p := ⟨b, o, none⟩) h, fun _ h => Nat.lt_of_lt_of_le h hb.size, fun _ h => Nat.le_of_lt (Nat.lt_of_lt_of_le h hb.size)⟩
theorem join {V W W1 : World} (h : Below V.heap.size V W) (k : Below W.heap.size W W1) : Below V.heap.size V W1 := h.trans (k.mono h.size)
theorem join_alloc {V W W1 : World} {o : Obj} (h : Below V.heap.size V W) (k : Below (W.alloc o).heap.size (W.alloc o) W1) : Below V.heap.size V W1 := join (h.alloc h.size o) k
theorem join_drew {V W W1 : World} (h : Below V.heap.size V W) (k : Below W.drew.heap.size W.drew W1) : Below V.heap.size V W1 := join h.drew k
end Go.Proofs.YtlgflddljhldhaaGreat.KeptC
end
