/- Of this claim's texts the part 0: Tk RowO Kept Vals Rep Rep2 Rep3 Held JobT St Draws TaT. -/
import Derived.Test.YtelhmacfljffhaaGreatRows
import Derived.LoopTactic
import Derived.BigQuiet
import Derived.Deep.QuietTactic
import Derived.Deep.RegionWith
import Derived.Deep.RegionHeld3
import Derived.RegionTactic
import Derived.WalkSpells
import Derived.WalkLawsBesides
import Derived.WalkKit
import Derived.ProofKit
import Derived.Below
import Derived.OwnWalk
import Derived.Maps.AppendAt
import Derived.Laws.Append
import Derived.Deep.AppendLies
import Derived.Lib.Hide
import Derived.Deep.DeepCutAuto
import Derived.IntWalk
import Derived.Laws.MakeOwn
import Derived.Laws.Entries
import Derived.Test.YtelhmacfljffhaaGreatProg
import Derived.BigRegion
import Derived.OpenShut
import Derived.Laws.Bits64
section
namespace Go.Proofs.YtelhmacfljffhaaGreat
section
variable {P : Program} {ops : Array Oper} {Q : Exit → Act → World → Prop} {md : Region.Mode} {S : World → Prop}
theorem tk (i : Nat) {oi : Oper} {v : Value} {fuel : Nat} {listed : Array Bool} {a a' : Act} {w : World} (hS : S w)
    (h : wpAnyH P md ops Q S fuel (listed.setIfInBounds i true) a' w)
    (hi : ops[i]? = some oi := by rfl) (hs : Region.noSelect ops = true := by kernel_rfl)
    (hf : Region.free md ops listed i = true := by kernel_rfl) (hr : (Region.ready md ops listed).contains i = true := by kernel_rfl)
    (hw : Region.wanted oi (yielded ops a.tmps) = true := by kernel_rfl)
    (hy : ∀ w, S w → (execOp a.eval oi).run P w = .ok (.value v) w := by
      intro w hSw; (try dsimp only at hSw); go_simp; try with_reducible rfl)
    (hQ : ∀ c a w, Q (.panic c) (a.put oi.dst v) w → Q (.panic c) a w := by exact fun _ _ _ h => h)
    (ha : a.put oi.dst v = a' := by
      first | (simp only [Act.put, List.getElem_toArray, List.getElem_cons_succ, List.getElem_cons_zero, List.setIfInBounds_toArray, List.set_cons_zero, List.set_cons_succ]; done) | (simp only [Act.put, List.getElem_toArray, List.getElem_cons_succ, List.getElem_cons_zero, List.setIfInBounds_toArray, List.set_cons_zero, List.set_cons_succ]; exact rfl) | exact rfl) :
    wpAnyH P md ops Q S (fuel + 1) listed a w := by
  subst ha
  exact wpAnyH_take hi hs hf hr hQ (Or.inl ⟨hw, hy⟩) hS h
theorem tn (i : Nat) {oi : Oper} {fuel : Nat} {listed : Array Bool} {a a' : Act} {w : World} (hS : S w)
    (h : wpAnyH P md ops Q S fuel (listed.setIfInBounds i true) a' w)
    (hi : ops[i]? = some oi := by rfl) (hs : Region.noSelect ops = true := by kernel_rfl)
    (hf : Region.free md ops listed i = true := by kernel_rfl) (hr : (Region.ready md ops listed).contains i = true := by kernel_rfl)
    (hw : Region.wanted oi (yielded ops a.tmps) = false := by kernel_rfl)
    (hQ : ∀ c a w, Q (.panic c) (a.put oi.dst undef) w → Q (.panic c) a w := by exact fun _ _ _ h => h)
    (ha : a.put oi.dst undef = a' := by
      first | (simp only [Act.put, List.getElem_toArray, List.getElem_cons_succ, List.getElem_cons_zero, List.setIfInBounds_toArray, List.set_cons_zero, List.set_cons_succ]; done) | (simp only [Act.put, List.getElem_toArray, List.getElem_cons_succ, List.getElem_cons_zero, List.setIfInBounds_toArray, List.set_cons_zero, List.set_cons_succ]; exact rfl) | exact rfl) :
    wpAnyH P md ops Q S (fuel + 1) listed a w := by
  subst ha
  exact wpAnyH_take hi hs hf hr hQ (Or.inr ⟨hw, rfl⟩) hS h
theorem rd1 (i : Nat) {o : Oper} {fuel : Nat} {listed : Array Bool} {a a' : Act} {w : World}
    (h : ∀ K' : Act → World → Prop, Shut (∀ a w, S w → (S w → wpAnyH P md ops Q S fuel (listed.setIfInBounds i true) a w) → K' a w) → if Region.wanted o (yielded ops a'.tmps) = true then Oper.wp P o a' w K' Q else K' (a'.put o.dst undef) w)
    (ha : a = a' := by
      first | (simp only [Act.put, List.getElem_toArray, List.getElem_cons_succ, List.getElem_cons_zero, List.setIfInBounds_toArray, List.set_cons_zero, List.set_cons_succ]; done) | (simp only [Act.put, List.getElem_toArray, List.getElem_cons_succ, List.getElem_cons_zero, List.setIfInBounds_toArray, List.set_cons_zero, List.set_cons_succ]; exact rfl) | exact rfl)
    (ho : ops[i]? = some o := by rfl) (hr : Region.ready md ops listed = [i] := by kernel_rfl) :
    wpAnyH P md ops Q S (fuel + 1) listed a w := by
  subst ha
  exact wpAnyH_ready hr (by simp) (AllReadyH.cons ho h AllReadyH.nil)
theorem rd0 {listed : Array Bool} {a a' : Act} {w : World} {fuel : Nat} (h : Q .normal a' w)
    (ha : a = a' := by
      first | (simp only [Act.put, List.getElem_toArray, List.getElem_cons_succ, List.getElem_cons_zero, List.setIfInBounds_toArray, List.set_cons_zero, List.set_cons_succ]; done) | (simp only [Act.put, List.getElem_toArray, List.getElem_cons_succ, List.getElem_cons_zero, List.setIfInBounds_toArray, List.set_cons_zero, List.set_cons_succ]; exact rfl) | exact rfl)
    (hr : Region.ready md ops listed = [] := by kernel_rfl) : wpAnyH P md ops Q S fuel listed a w := by
  subst ha
  exact wpAnyH_done hr h fuel
end
end Go.Proofs.YtelhmacfljffhaaGreat
end
section
namespace Go.Proofs.YtelhmacfljffhaaGreat.RowC
open Go.RowKit
def cl (c : Nat → Value) (m : Nat) : List Value := (List.range m).map c
theorem cl_congr {c d : Nat → Value} {m : Nat} (h : ∀ j, j < m → c j = d j) : cl c m = cl d m := by
  unfold cl
  exact List.map_congr_left fun j hj => h j (by simpa using hj)
def RowO (W : World) (lo : Nat) (T : TypeId) (size : Nat) (v : Value) (n : Nat) (c : Nat → Value) : Prop := W.ownsRow lo T size v n (cl c (n * size))
section
variable {W W' : World} {lo : Nat} {T : TypeId} {size : Nat} {v : Value} {n : Nat} {c : Nat → Value}
theorem RowO.isSlice (h : RowO W lo T size v n c) : ∃ a cap, v = .slice a n cap := by
  rcases h.2 with ⟨rfl, rfl⟩ | ⟨g', cap', cur, rfl, _⟩
  · exact ⟨_, _, rfl⟩
  · exact ⟨_, _, rfl⟩
theorem RowO.own (h : RowO W lo T size v n c) : ∀ k, v.ownBlock = some k → lo ≤ k ∧ k < W.heap.size := World.ownsRow.lt h
theorem RowO.keep (h : RowO W lo T size v n c) (hb : ∀ k, v.ownBlock = some k → W'.heap[k]? = W.heap[k]?) : RowO W' lo T size v n c := by
  refine ⟨h.1, ?_⟩
  rcases h.2 with hn | ⟨g, cap, cur, rfl, hg, hgg, rest⟩
  · exact .inl hn
  · exact .inr ⟨g, cap, cur, rfl, hg, (hb g rfl).trans hgg, rest⟩
theorem RowO.below (h : RowO W lo T size v n c) (hb : Below W.heap.size W W') : RowO W' lo T size v n c := h.keep fun k hk => hb.block k (h.own k hk).2
theorem RowO.drew (h : RowO W lo T size v n c) : RowO W.drew lo T size v n c := h
theorem RowO.alloc (h : RowO W lo T size v n c) (o : Obj) : RowO (W.alloc o) lo T size v n c := World.ownsRow.alloc h o
theorem RowO.grown {row : Option Nat} (h : RowO W lo T size v n c) (hg : W.grownBy W' row) (hne : v.ownBlock = none ∨ v.ownBlock ≠ row) : RowO W' lo T size v n c := World.ownsRow.kept h hg hne
theorem RowO.congr {d : Nat → Value} (h : RowO W lo T size v n c) (hc : ∀ j, j < n * size → c j = d j) : RowO W lo T size v n d := by
  unfold RowO at h ⊢
  rw [← cl_congr hc]
  exact h
theorem RowO.nil (W : World) (lo : Nat) (T : TypeId) (size : Nat) (c : Nat → Value) : RowO W lo T size (.slice none 0 0) 0 c := ⟨by simp [cl], .inl ⟨rfl, rfl⟩⟩
end
section
variable {P : Program}
end
section
variable {P : Program}
theorem wpList_app {ops : Array Oper} {rest : List Oper} {o : Oper} {a : Act} {W : World} {Q : Exit → Act → World → Prop} (hgd : o.guard = none) (s x : Operand) (t : TypeId)
    (ho : o.op = .call { callee := .builtin .append, args := #[s, x], argTypes := #[t, t] }) {v y : Value} (hs : a.eval s = v) (hx : a.eval x = y)
    {v' : Value} {W' : World} (hr : (Builtin.append_ #[t, t] o.type #[v, y]).run P W = .ok v' W') (h : wpList P ops Q rest (a.put o.dst v') W') : wpList P ops Q (o :: rest) a W := by
  refine wpList_plain hgd fun K hK => ?_
  unfold Oper.wp execOp
  simp only [ho, resolve, invoke, builtin, Sem.run_bind, Sem.run_pure, Result.andThen_ok, List.map_toArray, List.map_cons, List.map_nil, hs, hx, hr]
  exact hK _ _ h
end
end Go.Proofs.YtelhmacfljffhaaGreat.RowC
end
section
namespace Go.Proofs.YtelhmacfljffhaaGreat.KeptC
open Go.RowKit
structure KS (w : World) (base : Nat) (L : List (Nat × Nat × Value)) (W : World) : Prop where
  cells : ∀ x ∈ L, W.cell? ⟨x.1, x.2.1, none⟩ = some x.2.2
  low : ∀ x ∈ L, x.1 < base
  size : base ≤ W.heap.size
  below : Below w.heap.size w W
  base : w.heap.size ≤ base
variable {w W W1 : World} {base : Nat} {L : List (Nat × Nat × Value)}
theorem KS.call (h : KS w base L W) (hb : Below W.heap.size W W1) : KS w base L W1 :=
  ⟨fun x hx => (hb.cell (p := ⟨x.1, x.2.1, none⟩) (Nat.lt_of_lt_of_le (h.low x hx) h.size)).trans (h.cells x hx), h.low, Nat.le_trans h.size hb.size, h.below.trans (hb.mono (Nat.le_trans h.base h.size)), h.base⟩
theorem KS.alloc (h : KS w base L W) (o : Obj) : KS w base L (W.alloc o) := h.call ((Below.refl _ _).alloc (Nat.le_refl _) o)
theorem KS.drew (h : KS w base L W) : KS w base L W.drew := h.call (Below.refl _ _).drew
theorem KS.set (h : KS w base L W) {b o : Nat} (hb : base ≤ b) (v : Value) : KS w base L (W.setCell ⟨b, o, none⟩ v) := by
  refine ⟨fun x hx => ?_, h.low, by simpa using h.size, h.below.setCell (Nat.le_trans h.base hb) v, h.base⟩
  have hn : (⟨b, o, none⟩ : Addr) ≠ ⟨x.1, x.2.1, none⟩ := fun e => by have := h.low x hx; injection e; omega
  rw [World.cell?_setCell_other _ _ _ _ hn]
  exact h.cells x hx
theorem KS.nil (w : World) : KS w w.heap.size [] w := ⟨fun x hx => (by cases hx), fun x hx => (by cases hx), Nat.le_refl _, Below.refl _ _, Nat.le_refl _⟩
theorem KS.at (h : KS w base L W) {b o : Nat} {v : Value} (hx : (b, o, v) ∈ L) : W.cell? ⟨b, o, none⟩ = some v := h.cells _ hx
theorem rules (hb : Below W.heap.size W W1) : (∀ b o, b < W.heap.size → W1.cell? ⟨b, o, none⟩ = W.cell? ⟨b, o, none⟩) ∧ (∀ b o, b < W.heap.size → W1.frozen? ⟨b, o, none⟩ = W.frozen? ⟨b, o, none⟩) ∧
    (∀ n, n < W.heap.size → n < W1.heap.size) ∧ (∀ n, n < W.heap.size → n ≤ W1.heap.size) :=
  ⟨fun b o h => hb.cell (p := ⟨b, o, none⟩) h, fun b o h => hb.frozen (p := ⟨b, o, none⟩) h, fun _ h => Nat.lt_of_lt_of_le h hb.size, fun _ h => Nat.le_of_lt (Nat.lt_of_lt_of_le h hb.size)⟩
theorem join {V W W1 : World} (h : Below V.heap.size V W) (k : Below W.heap.size W W1) : Below V.heap.size V W1 := h.trans (k.mono h.size)
theorem join_alloc {V W W1 : World} {o : Obj} (h : Below V.heap.size V W) (k : Below (W.alloc o).heap.size (W.alloc o) W1) : Below V.heap.size V W1 := join (h.alloc h.size o) k
theorem join_drew {V W W1 : World} (h : Below V.heap.size V W) (k : Below W.drew.heap.size W.drew W1) : Below V.heap.size V W1 := join h.drew k
end Go.Proofs.YtelhmacfljffhaaGreat.KeptC
end
section
namespace Go.Proofs.YtelhmacfljffhaaGreat.ValC
open Go.RowKit RowC
def Rg (lo hi k : Nat) : Prop := lo ≤ k ∧ k < hi
structure Off (S : Nat → Prop) (w w' : World) : Prop where
  os : w'.os = w.os
  tape : w'.tape = w.tape
  output : w'.output = w.output
  size : w.heap.size ≤ w'.heap.size
  block : ∀ k, k < w.heap.size → ¬ S k → w'.heap[k]? = w.heap[k]?
theorem Off.refl (S : Nat → Prop) (w : World) : Off S w w := ⟨rfl, rfl, rfl, Nat.le_refl _, fun _ _ _ => rfl⟩
theorem Off.trans {S : Nat → Prop} {a b c : World} (h : Off S a b) (k : Off S b c) : Off S a c :=
  ⟨k.os.trans h.os, k.tape.trans h.tape, k.output.trans h.output, Nat.le_trans h.size k.size, fun i hi hs => (k.block i (Nat.lt_of_lt_of_le hi h.size) hs).trans (h.block i hi hs)⟩
theorem Off.drew {S : Nat → Prop} {a w : World} (h : Off S a w) : Off S a w.drew := ⟨h.os, h.tape, h.output, h.size, h.block⟩
theorem Off.alloc {S : Nat → Prop} {a w : World} (h : Off S a w) (o : Obj) : Off S a (w.alloc o) := h.trans ⟨rfl, rfl, rfl, by simp, fun _ hk _ => Below.heap_alloc _ _ _ hk⟩
theorem Off.setCell {S : Nat → Prop} {a w : World} (h : Off S a w) {p : Addr} (hp : S p.block) (u : Value) : Off S a (w.setCell p u) :=
  h.trans ⟨rfl, rfl, rfl, by simp [World.setCell], fun _ _ hs => Below.heap_setCell _ _ _ _ (fun e => hs (e ▸ hp))⟩
theorem Off.of_below {S : Nat → Prop} {a w w' : World} (h : Off S a w) (k : Below w.heap.size w w') : Off S a w' := h.trans ⟨k.os, k.tape, k.output, k.size, fun i hi _ => k.block i hi⟩
theorem Off.below {S : Nat → Prop} {B : Nat} {w w' : World} (h : Off S w w') (hB : B ≤ w.heap.size) (hS : ∀ k, S k → B ≤ k) : Below B w w' :=
  ⟨h.os, h.tape, h.output, h.size, fun k hk => h.block k (by omega) (fun hs => by have := hS k hs; omega)⟩
theorem Off.more {S T : Nat → Prop} {w w' : World} (h : Off S w w') (hST : ∀ k, S k → T k) : Off T w w' := ⟨h.os, h.tape, h.output, h.size, fun k hk ht => h.block k hk (fun hs => ht (hST k hs))⟩
def RowV (W : World) (S : Nat → Prop) (v : Value) (n size : Nat) (c : Nat → Value) : Prop :=
  (∀ k, S k → k < W.heap.size) ∧ ∃ a cap, v = .slice a n cap ∧ n ≤ cap ∧ (0 < n → ∃ g, a = some ⟨g, 0, none⟩ ∧ S g ∧ (∀ j, j < n * size → W.cell? ⟨g, j, none⟩ = some (c j)) ∧ ∀ j, W.frozen? ⟨g, j, none⟩ = false)
section
variable {W W' : World} {S T : Nat → Prop} {v : Value} {n size : Nat} {c d : Nat → Value}
theorem RowV.keep (h : RowV W S v n size c) (hs : W.heap.size ≤ W'.heap.size) (hb : ∀ k, k < W.heap.size → S k → W'.heap[k]? = W.heap[k]?) : RowV W' S v n size c := by
  obtain ⟨h1, a, cap, h2, hnc, h3⟩ := h
  refine ⟨fun k hk => Nat.lt_of_lt_of_le (h1 k hk) hs, a, cap, h2, hnc, fun hn => ?_⟩
  obtain ⟨g, ha, hg, hc, hf⟩ := h3 hn
  have e := hb g (h1 g hg) hg
  exact ⟨g, ha, hg, fun j hj => (World.cell?_of_block (a := ⟨g, j, none⟩) e).trans (hc j hj), fun j => (World.frozen?_of_block (a := ⟨g, j, none⟩) e).trans (hf j)⟩
theorem RowV.below (h : RowV W S v n size c) (hb : Below W.heap.size W W') : RowV W' S v n size c := h.keep hb.size fun k hk _ => hb.block k hk
theorem RowV.off (h : RowV W S v n size c) (hb : Off T W W') (hd : ∀ k, T k → ¬ S k) : RowV W' S v n size c := h.keep hb.size fun k hk hs => hb.block k hk (fun ht => hd k ht hs)
theorem RowV.congr (h : RowV W S v n size c) (hc : ∀ j, j < n * size → c j = d j) : RowV W S v n size d := by
  obtain ⟨h1, a, cap, h2, hnc, h3⟩ := h
  refine ⟨h1, a, cap, h2, hnc, fun hn => ?_⟩
  obtain ⟨g, ha, hg, hcc, hf⟩ := h3 hn
  exact ⟨g, ha, hg, fun j hj => by rw [hcc j hj, hc j hj], hf⟩
theorem RowV.more (h : RowV W S v n size c) (hT : ∀ k, T k → k < W.heap.size) (hST : ∀ k, S k → T k) : RowV W T v n size c := by
  obtain ⟨h1, a, cap, h2, hnc, h3⟩ := h
  refine ⟨hT, a, cap, h2, hnc, fun hn => ?_⟩
  obtain ⟨g, ha, hg, hcc, hf⟩ := h3 hn
  exact ⟨g, ha, hST g hg, hcc, hf⟩
theorem RowV.cases {p : Prop} (h : RowV W S v n size c) (h0 : ∀ a cap, n = 0 → v = .slice a 0 cap → p)
    (h1 : ∀ g cap, 0 < n → n ≤ cap → v = .slice (some ⟨g, 0, none⟩) n cap → S g → g < W.heap.size → (∀ j, j < n * size → W.cell? ⟨g, j, none⟩ = some (c j)) → (∀ j, W.frozen? ⟨g, j, none⟩ = false) → p) : p := by
  obtain ⟨k1, a, cap, k2, hnc, k3⟩ := h
  rcases Nat.eq_zero_or_pos n with hn | hn
  · exact h0 a cap hn (by rw [k2, hn])
  · obtain ⟨g, ha, hg, hcc, hf⟩ := k3 hn
    exact h1 g cap hn hnc (by rw [k2, ha]) hg (k1 g hg) hcc hf
end
def IsB (b : Bool) (w : World) (e : Ending) (w' : World) : Prop := e = .returned (.bool b) ∧ Below w.heap.size w w'
theorem isB_elim {b : Bool} {w : World} {e : Ending} {w' : World} (h : IsB b w e w') : e = .returned (.bool b) ∧ Below w.heap.size w w' := h
end Go.Proofs.YtelhmacfljffhaaGreat.ValC
end
section
namespace Go.Proofs.YtelhmacfljffhaaGreat.RepC
open Go.RowKit RowC ValC
def CellsAt (W : World) (g o : Nat) (cs : List Value) : Prop := ∀ j c, cs[j]? = some c → W.cell? ⟨g, o + j, none⟩ = some c
theorem CellsAt.keep {W W' : World} {g o : Nat} {cs : List Value} (h : CellsAt W g o cs) (hb : W'.heap[g]? = W.heap[g]?) : CellsAt W' g o cs := fun j c hc => (World.cell?_of_block (a := ⟨g, o + j, none⟩) hb).trans (h j c hc)
theorem CellsAt.app {W : World} {g o : Nat} {cs ds : List Value} : CellsAt W g o (cs ++ ds) ↔ CellsAt W g o cs ∧ CellsAt W g (o + cs.length) ds := by
  constructor
  · intro h
    refine ⟨fun j c hc => h j c ?_, fun j c hc => ?_⟩
    · have hj := (List.getElem?_eq_some_iff.1 hc).1
      rw [List.getElem?_append_left hj]; exact hc
    · have := h (cs.length + j) c (by rw [List.getElem?_append_right (by omega)]; simpa using hc)
      rw [Nat.add_assoc]
      exact this
  · rintro ⟨h1, h2⟩ j c hc
    by_cases hj : j < cs.length
    · rw [List.getElem?_append_left hj] at hc; exact h1 j c hc
    · rw [List.getElem?_append_right (by omega)] at hc
      have := h2 _ c hc
      rw [show o + cs.length + (j - cs.length) = o + j by omega] at this
      exact this
theorem CellsAt.cons {W : World} {g o : Nat} {c : Value} {ds : List Value} : CellsAt W g o (c :: ds) ↔ W.cell? ⟨g, o, none⟩ = some c ∧ CellsAt W g (o + 1) ds := by
  constructor
  · intro h
    refine ⟨h 0 c rfl, fun j d hd => ?_⟩
    have := h (j + 1) d (by simpa using hd)
    rw [show o + (j + 1) = o + 1 + j by omega] at this
    exact this
  · rintro ⟨h1, h2⟩ j d hd
    cases j with
    | zero => simp at hd; subst hd; exact h1
    | succ j =>
      have := h2 j d (by simpa using hd)
      rw [show o + 1 + j = o + (j + 1) by omega] at this
      exact this
theorem CellsAt.nil {W : World} {g o : Nat} : CellsAt W g o [] := fun j c hc => by simp at hc
structure Rp (α : Type) where
  size : Nat
  rd : World → Nat → α → List Value → Prop
  ow : World → (Nat → Prop) → α → List Value → Prop
  mm : α → Int → Int → Prop
  mv : α → Int → Int → Prop
  cm : α → Nat
  cv : α → Nat
  sz : α → Nat
structure Ok {α : Type} (E : Rp α) : Prop where
  rd_len : ∀ {W B d cs}, E.rd W B d cs → cs.length = E.size
  ow_len : ∀ {W S d cs}, E.ow W S d cs → cs.length = E.size
  rd_below : ∀ {W W' B d cs}, E.rd W B d cs → Below B W W' → E.rd W' B d cs
  rd_more : ∀ {W B B' d cs}, E.rd W B d cs → B ≤ B' → E.rd W B' d cs
  ow_keep : ∀ {W W'} {S : Nat → Prop} {d cs}, E.ow W S d cs → (∀ k, S k → W'.heap[k]? = W.heap[k]?) → E.ow W' S d cs
  ow_more : ∀ {W} {S T : Nat → Prop} {d cs}, E.ow W S d cs → (∀ k, S k → T k) → E.ow W T d cs
  ow_rd : ∀ {W} {S : Nat → Prop} {B d cs}, E.ow W S d cs → (∀ k, S k → k < B) → E.rd W B d cs
  one : ∀ {W B d cs}, E.rd W B d cs → ∀ u ∈ cs, u.oneCell' = true
def atom {α : Type} (f : α → Value) (mm : α → Int → Int → Prop) (sz : α → Nat) : Rp α := { size := 1, rd := fun _ _ d cs => cs = [f d], ow := fun _ _ d cs => cs = [f d], mm := mm, mv := fun _ k k' => k' = k, cm := fun _ => 1, cv := fun _ => 0, sz := sz }
theorem atom_ok {α : Type} (f : α → Value) (mm : α → Int → Int → Prop) (sz : α → Nat) (h1 : ∀ d, (f d).oneCell' = true) : Ok (atom f mm sz) where
  rd_len h := by rw [show _ = [f _] from h]; rfl
  ow_len h := by rw [show _ = [f _] from h]; rfl
  rd_below h _ := h
  rd_more h _ := h
  ow_keep h _ := h
  ow_more h _ := h
  ow_rd h _ := h
  one h u hu := by rw [show _ = [f _] from h] at hu; simp at hu; subst hu; exact h1 _
def I : Rp Int := atom (fun n => .int .i64 n) (fun d k k' => d = k ∧ k' = k + 1) (fun _ => 0)
theorem I_ok : Ok I := atom_ok _ _ _ fun _ => rfl
def Bo : Rp Bool := { atom (fun b => .bool b) (fun _ k k' => k' = k) (fun _ => 0) with cm := fun _ => 0 }
def Pr {α β : Type} (E : Rp α) (F : Rp β) : Rp (α × β) where
  size := E.size + F.size
  rd W B d cs := ∃ us vs, cs = us ++ vs ∧ E.rd W B d.1 us ∧ F.rd W B d.2 vs
  ow W S d cs := ∃ us vs, ∃ S1 S2 : Nat → Prop, cs = us ++ vs ∧ (∀ k, S1 k → S k) ∧ (∀ k, S2 k → S k) ∧ (∀ k, S1 k → ¬ S2 k) ∧ E.ow W S1 d.1 us ∧ F.ow W S2 d.2 vs
  mm d k k' := ∃ k1, E.mm d.1 k k1 ∧ F.mm d.2 k1 k'
  mv d k k' := ∃ k1, E.mv d.1 k k1 ∧ F.mv d.2 k1 k'
  cm d := E.cm d.1 + F.cm d.2
  cv d := E.cv d.1 + F.cv d.2
  sz d := E.sz d.1 + F.sz d.2
theorem Pr_ok {α β : Type} {E : Rp α} {F : Rp β} (hE : Ok E) (hF : Ok F) : Ok (Pr E F) where
  rd_len h := by obtain ⟨us, vs, rfl, h1, h2⟩ := h; rw [List.length_append, hE.rd_len h1, hF.rd_len h2]; rfl
  ow_len h := by obtain ⟨us, vs, _, _, rfl, _, _, _, h1, h2⟩ := h; rw [List.length_append, hE.ow_len h1, hF.ow_len h2]; rfl
  rd_below h hb := by obtain ⟨us, vs, rfl, h1, h2⟩ := h; exact ⟨us, vs, rfl, hE.rd_below h1 hb, hF.rd_below h2 hb⟩
  rd_more h hb := by obtain ⟨us, vs, rfl, h1, h2⟩ := h; exact ⟨us, vs, rfl, hE.rd_more h1 hb, hF.rd_more h2 hb⟩
  ow_keep h hb := by
    obtain ⟨us, vs, S1, S2, rfl, a, b, c, h1, h2⟩ := h
    exact ⟨us, vs, S1, S2, rfl, a, b, c, hE.ow_keep h1 (fun k hk => hb k (a k hk)), hF.ow_keep h2 (fun k hk => hb k (b k hk))⟩
  ow_more h hT := by
    obtain ⟨us, vs, S1, S2, rfl, a, b, c, h1, h2⟩ := h
    exact ⟨us, vs, S1, S2, rfl, fun k hk => hT k (a k hk), fun k hk => hT k (b k hk), c, h1, h2⟩
  ow_rd h hB := by
    obtain ⟨us, vs, S1, S2, rfl, a, b, c, h1, h2⟩ := h
    exact ⟨us, vs, rfl, hE.ow_rd h1 (fun k hk => hB k (a k hk)), hF.ow_rd h2 (fun k hk => hB k (b k hk))⟩
  one h u hu := by
    obtain ⟨us, vs, rfl, h1, h2⟩ := h
    rcases List.mem_append.1 hu with h | h
    · exact hE.one h1 u h
    · exact hF.one h2 u h
def RdSl {α : Type} (E : Rp α) (W : World) (B : Nat) (L : List α) (a : Option Addr) (cap : Nat) : Prop :=
  L.length ≤ cap ∧ cap ≤ maxLen ∧ (0 < L.length → ∃ g o, a = some ⟨g, o, none⟩ ∧ g < B ∧ ∀ i x, L[i]? = some x → ∃ us, CellsAt W g (o + i * E.size) us ∧ E.rd W B x us)
def OwSl {α : Type} (E : Rp α) (W : World) (S : Nat → Prop) (L : List α) (a : Option Addr) (cap : Nat) : Prop :=
  L.length ≤ cap ∧ cap ≤ maxLen ∧ (0 < L.length → ∃ g, ∃ Sf : Nat → Nat → Prop, a = some ⟨g, 0, none⟩ ∧ S g ∧ (∀ j, W.frozen? ⟨g, j, none⟩ = false) ∧ (∀ i k, Sf i k → S k ∧ k ≠ g) ∧ (∀ i j k, i < j → Sf i k → ¬ Sf j k) ∧
    ∀ i x, L[i]? = some x → ∃ us, CellsAt W g (i * E.size) us ∧ E.ow W (Sf i) x us)
def mmL {α : Type} (E : Rp α) : List α → Int → Int → Prop
  | [], k, k' => k' = k
  | x :: xs, k, k' => ∃ k1, E.mm x k k1 ∧ mmL E xs k1 k'
def sumL {α : Type} (f : α → Nat) : List α → Nat
  | [] => 0
  | x :: xs => f x + sumL f xs
def Sl {α : Type} (E : Rp α) : Rp (List α) where
  size := 1
  rd W B L cs := ∃ a cap, cs = [.slice a L.length cap] ∧ RdSl E W B L a cap
  ow W S L cs := ∃ a cap, cs = [.slice a L.length cap] ∧ OwSl E W S L a cap
  mm := mmL E
  mv := mmL E
  cm := sumL E.cm
  cv := sumL E.cm
  sz L := L.length + sumL E.sz L
theorem RdSl.below {α : Type} {E : Rp α} (hE : Ok E) {W W' : World} {B : Nat} {L : List α} {a : Option Addr} {cap : Nat} (h : RdSl E W B L a cap) (hb : Below B W W') : RdSl E W' B L a cap := by
  obtain ⟨h1, h2, h3⟩ := h
  refine ⟨h1, h2, fun hn => ?_⟩
  obtain ⟨g, o, ha, hg, hc⟩ := h3 hn
  refine ⟨g, o, ha, hg, fun i x hx => ?_⟩
  obtain ⟨us, hu, hr⟩ := hc i x hx
  exact ⟨us, hu.keep (hb.block g hg), hE.rd_below hr hb⟩
theorem RdSl.more {α : Type} {E : Rp α} (hE : Ok E) {W : World} {B B' : Nat} {L : List α} {a : Option Addr} {cap : Nat} (h : RdSl E W B L a cap) (hb : B ≤ B') : RdSl E W B' L a cap := by
  obtain ⟨h1, h2, h3⟩ := h
  refine ⟨h1, h2, fun hn => ?_⟩
  obtain ⟨g, o, ha, hg, hc⟩ := h3 hn
  refine ⟨g, o, ha, Nat.lt_of_lt_of_le hg hb, fun i x hx => ?_⟩
  obtain ⟨us, hu, hr⟩ := hc i x hx
  exact ⟨us, hu, hE.rd_more hr hb⟩
theorem OwSl.keep {α : Type} {E : Rp α} (hE : Ok E) {W W' : World} {S : Nat → Prop} {L : List α} {a : Option Addr} {cap : Nat} (h : OwSl E W S L a cap) (hb : ∀ k, S k → W'.heap[k]? = W.heap[k]?) : OwSl E W' S L a cap := by
  obtain ⟨h1, h2, h3⟩ := h
  refine ⟨h1, h2, fun hn => ?_⟩
  obtain ⟨g, Sf, ha, hg, hf, hs, hd, hc⟩ := h3 hn
  refine ⟨g, Sf, ha, hg, fun j => (World.frozen?_of_block (a := ⟨g, j, none⟩) (hb g hg)).trans (hf j), hs, hd, fun i x hx => ?_⟩
  obtain ⟨us, hu, hr⟩ := hc i x hx
  exact ⟨us, hu.keep (hb g hg), hE.ow_keep hr (fun k hk => hb k (hs i k hk).1)⟩
theorem OwSl.more {α : Type} {E : Rp α} {W : World} {S T : Nat → Prop} {L : List α} {a : Option Addr} {cap : Nat} (h : OwSl E W S L a cap) (hT : ∀ k, S k → T k) : OwSl E W T L a cap := by
  obtain ⟨h1, h2, h3⟩ := h
  refine ⟨h1, h2, fun hn => ?_⟩
  obtain ⟨g, Sf, ha, hg, hf, hs, hd, hc⟩ := h3 hn
  exact ⟨g, Sf, ha, hT g hg, hf, fun i k hk => ⟨hT k (hs i k hk).1, (hs i k hk).2⟩, hd, hc⟩
theorem OwSl.rd {α : Type} {E : Rp α} (hE : Ok E) {W : World} {S : Nat → Prop} {B : Nat} {L : List α} {a : Option Addr} {cap : Nat} (h : OwSl E W S L a cap) (hB : ∀ k, S k → k < B) : RdSl E W B L a cap := by
  obtain ⟨h1, h2, h3⟩ := h
  refine ⟨h1, h2, fun hn => ?_⟩
  obtain ⟨g, Sf, ha, hg, hf, hs, hd, hc⟩ := h3 hn
  refine ⟨g, 0, ha, hB g hg, fun i x hx => ?_⟩
  obtain ⟨us, hu, hr⟩ := hc i x hx
  exact ⟨us, by rw [Nat.zero_add]; exact hu, hE.ow_rd hr (fun k hk => hB k (hs i k hk).1)⟩
theorem Sl_ok {α : Type} {E : Rp α} (hE : Ok E) : Ok (Sl E) where
  rd_len h := by obtain ⟨a, cap, rfl, _⟩ := h; rfl
  ow_len h := by obtain ⟨a, cap, rfl, _⟩ := h; rfl
  rd_below h hb := by obtain ⟨a, cap, rfl, h⟩ := h; exact ⟨a, cap, rfl, h.below hE hb⟩
  rd_more h hb := by obtain ⟨a, cap, rfl, h⟩ := h; exact ⟨a, cap, rfl, h.more hE hb⟩
  ow_keep h hb := by obtain ⟨a, cap, rfl, h⟩ := h; exact ⟨a, cap, rfl, h.keep hE hb⟩
  ow_more h hT := by obtain ⟨a, cap, rfl, h⟩ := h; exact ⟨a, cap, rfl, h.more hT⟩
  ow_rd h hB := by obtain ⟨a, cap, rfl, h⟩ := h; exact ⟨a, cap, rfl, h.rd hE hB⟩
  one h u hu := by obtain ⟨a, cap, rfl, h⟩ := h; simp at hu; subst hu; rfl
theorem RdSl.at_ {α : Type} {E : Rp α} {W : World} {B : Nat} {L : List α} {a : Option Addr} {cap : Nat} (h : RdSl E W B L a cap) {i : Nat} {x : α} (hx : L[i]? = some x) :
    ∃ g o us, a = some ⟨g, o, none⟩ ∧ g < B ∧ CellsAt W g (o + i * E.size) us ∧ E.rd W B x us := by
  have hi := (List.getElem?_eq_some_iff.1 hx).1
  obtain ⟨g, o, ha, hg, hc⟩ := h.2.2 (by omega)
  obtain ⟨us, hu, hr⟩ := hc i x hx
  exact ⟨g, o, us, ha, hg, hu, hr⟩
theorem mmL_app {α : Type} {E : Rp α} : ∀ {L M : List α} {k k' k'' : Int}, mmL E L k k' → mmL E M k' k'' → mmL E (L ++ M) k k''
  | [], M, k, k', k'', h, h' => by simp only [mmL] at h; subst h; exact h'
  | x :: xs, M, k, k', k'', ⟨k1, h1, h2⟩, h' => ⟨k1, h1, mmL_app h2 h'⟩
theorem sumL_app {α : Type} (f : α → Nat) : ∀ (L M : List α), sumL f (L ++ M) = sumL f L + sumL f M
  | [], M => by simp [sumL]
  | x :: xs, M => by simp only [List.cons_append, sumL, sumL_app f xs M]; omega
theorem sumL_one {α : Type} (f : α → Nat) (x : α) : sumL f [x] = f x := by simp [sumL]
end Go.Proofs.YtelhmacfljffhaaGreat.RepC
end
section
namespace Go.Proofs.YtelhmacfljffhaaGreat.RepC
open Go.RowKit RowC ValC
def putCells (W : World) (g : Nat) : Nat → List Value → World
  | _, [] => W
  | o, c :: cs => putCells (W.setCell ⟨g, o, none⟩ c) g (o + 1) cs
theorem putCells_size (g : Nat) : ∀ (cs : List Value) (W : World) (o : Nat), (putCells W g o cs).heap.size = W.heap.size
  | [], _, _ => rfl
  | c :: cs, W, o => by simp only [putCells]; rw [putCells_size g cs]; simp [World.setCell]
theorem putCells_frozen (g : Nat) (p : Addr) : ∀ (cs : List Value) (W : World) (o : Nat), (putCells W g o cs).frozen? p = W.frozen? p
  | [], _, _ => rfl
  | c :: cs, W, o => by simp only [putCells]; rw [putCells_frozen g p cs]; simp
theorem putCells_block (g : Nat) {k : Nat} (hk : k ≠ g) : ∀ (cs : List Value) (W : World) (o : Nat), (putCells W g o cs).heap[k]? = W.heap[k]?
  | [], _, _ => rfl
  | c :: cs, W, o => by simp only [putCells]; rw [putCells_block g hk cs]; exact Below.heap_setCell _ _ _ _ hk
theorem putCells_off (g : Nat) : ∀ (cs : List Value) (W : World) (o : Nat), Off (fun x => x = g) W (putCells W g o cs)
  | [], W, _ => Off.refl _ _
  | c :: cs, W, o => by simp only [putCells]; exact (Off.setCell (S := fun x => x = g) (p := ⟨g, o, none⟩) (Off.refl _ W) rfl c).trans (putCells_off g cs _ _)
theorem putCells_other (g : Nat) {j : Nat} : ∀ (cs : List Value) (W : World) (o : Nat), (j < o ∨ o + cs.length ≤ j) → (putCells W g o cs).cell? ⟨g, j, none⟩ = W.cell? ⟨g, j, none⟩
  | [], _, _, _ => rfl
  | c :: cs, W, o, h => by
    simp only [List.length_cons] at h
    simp only [putCells]
    rw [putCells_other g cs _ _ (by omega), World.cell?_setCell_other _ _ _ _ (fun e => by injection e with _ e2; omega)]
theorem putCells_cells (g : Nat) : ∀ (cs : List Value) (W : World) (o : Nat), (∀ j, j < cs.length → ∃ u, W.cell? ⟨g, o + j, none⟩ = some u) → CellsAt (putCells W g o cs) g o cs
  | [], _, _, _ => CellsAt.nil
  | c :: cs, W, o, h => by
    simp only [putCells]
    refine CellsAt.cons.2 ⟨?_, putCells_cells g cs _ _ fun j hj => ?_⟩
    · obtain ⟨u, hu⟩ := h 0 (by simp)
      rw [putCells_other g cs _ _ (by omega)]
      exact World.cell?_setCell_same' _ _ _ (by rw [show W.cell? ⟨g, o, none⟩ = _ from hu]; rfl)
    · obtain ⟨u, hu⟩ := h (j + 1) (by simp only [List.length_cons]; omega)
      rw [World.cell?_setCell_other _ _ _ _ (fun e => by injection e with _ e2; omega), show o + 1 + j = o + (j + 1) by omega]
      exact ⟨u, hu⟩
structure Upd (W W' : World) (g lo hi : Nat) (T : Nat → Prop) : Prop where
  size : W.heap.size ≤ W'.heap.size
  block : ∀ k, k < W.heap.size → k ≠ g → ¬ T k → W'.heap[k]? = W.heap[k]?
  cells : ∀ j, (j < lo ∨ hi ≤ j) → W'.cell? ⟨g, j, none⟩ = W.cell? ⟨g, j, none⟩
  soft : ∀ j, W'.frozen? ⟨g, j, none⟩ = W.frozen? ⟨g, j, none⟩
theorem Upd.refl (W : World) (g lo hi : Nat) (T : Nat → Prop) : Upd W W g lo hi T := ⟨Nat.le_refl _, fun _ _ _ _ => rfl, fun _ _ => rfl, fun _ => rfl⟩
theorem Upd.trans {W W' W'' : World} {g lo hi : Nat} {T : Nat → Prop} (h : Upd W W' g lo hi T) (k : Upd W' W'' g lo hi T) : Upd W W'' g lo hi T :=
  ⟨Nat.le_trans h.size k.size, fun i h1 h2 h3 => (k.block i (Nat.lt_of_lt_of_le h1 h.size) h2 h3).trans (h.block i h1 h2 h3), fun j hj => (k.cells j hj).trans (h.cells j hj), fun j => (k.soft j).trans (h.soft j)⟩
theorem Upd.set (W : World) {g lo hi o : Nat} (T : Nat → Prop) (h : lo ≤ o ∧ o < hi) (u : Value) : Upd W (W.setCell ⟨g, o, none⟩ u) g lo hi T :=
  ⟨by simp [World.setCell], fun k _ hk _ => Below.heap_setCell _ _ _ _ hk, fun j hj => World.cell?_setCell_other _ _ _ _ (fun e => by injection e with _ e2; omega), fun j => by simp⟩
theorem Upd.put (W : World) {g lo hi o : Nat} (T : Nat → Prop) {cs : List Value} (h : lo ≤ o ∧ o + cs.length ≤ hi) : Upd W (putCells W g o cs) g lo hi T :=
  ⟨by rw [putCells_size]; exact Nat.le_refl _, fun k _ hk _ => putCells_block g hk cs W o, fun j hj => putCells_other g cs W o (by omega), fun j => putCells_frozen g _ cs W o⟩
theorem Upd.below {W W' : World} {g lo hi : Nat} {T : Nat → Prop} (h : Below W.heap.size W W') (hg : g < W.heap.size) : Upd W W' g lo hi T :=
  ⟨h.size, fun k hk _ _ => h.block k hk, fun j _ => h.cell (p := ⟨g, j, none⟩) hg, fun j => h.frozen (p := ⟨g, j, none⟩) hg⟩
theorem Upd.off {W W' : World} {g lo hi : Nat} {T : Nat → Prop} (h : Off T W W') (hg : g < W.heap.size) (hT : ¬ T g) : Upd W W' g lo hi T :=
  ⟨h.size, fun k hk _ ht => h.block k hk ht, fun j _ => World.cell?_of_block (a := ⟨g, j, none⟩) (h.block g hg hT), fun j => World.frozen?_of_block (a := ⟨g, j, none⟩) (h.block g hg hT)⟩
structure Row {α : Type} (E : Rp α) (W : World) (S : Nat → Prop) (L : List α) (g : Nat) (Sf : Nat → Nat → Prop) : Prop where
  own : S g
  soft : ∀ j, W.frozen? ⟨g, j, none⟩ = false
  sub : ∀ i k, Sf i k → S k ∧ k ≠ g
  dis : ∀ i j k, i < j → Sf i k → ¬ Sf j k
  el : ∀ i x, L[i]? = some x → ∃ us, CellsAt W g (i * E.size) us ∧ E.ow W (Sf i) x us
theorem OwSl.row {α : Type} {E : Rp α} {W : World} {S : Nat → Prop} {L : List α} {a : Option Addr} {cap : Nat} (h : OwSl E W S L a cap) (hn : 0 < L.length) : ∃ g Sf, a = some ⟨g, 0, none⟩ ∧ Row E W S L g Sf := by
  obtain ⟨g, Sf, ha, hg, hf, hs, hd, hc⟩ := h.2.2 hn
  exact ⟨g, Sf, ha, hg, hf, hs, hd, hc⟩
theorem Row.slice {α : Type} {E : Rp α} {W : World} {S : Nat → Prop} {L : List α} {g : Nat} {Sf : Nat → Nat → Prop} (h : Row E W S L g Sf) {cap : Nat} (h1 : L.length ≤ cap) (h2 : cap ≤ maxLen) : OwSl E W S L (some ⟨g, 0, none⟩) cap :=
  ⟨h1, h2, fun _ => ⟨g, Sf, rfl, h.own, h.soft, h.sub, h.dis, h.el⟩⟩
theorem mul_lt_el {i j p s : Nat} (hp : p < s) (hij : i ≠ j) : j * s + p < i * s ∨ (i + 1) * s ≤ j * s + p := by
  rcases Nat.lt_or_gt_of_ne hij with h | h
  · right
    have := Nat.mul_le_mul_right s (show i + 1 ≤ j by omega)
    omega
  · left
    have := Nat.mul_le_mul_right s (show j + 1 ≤ i by omega)
    rw [Nat.add_mul] at this
    omega
theorem Row.set {α : Type} {E : Rp α} (hE : Ok E) {W W' : World} {S : Nat → Prop} {L : List α} {g i : Nat} {Sf : Nat → Nat → Prop} {x : α} {us : List Value} (h : Row E W S L g Sf) (hS : ∀ k, S k → k < W.heap.size) (hU : Upd W W' g (i * E.size) ((i + 1) * E.size) (Sf i))
    (hc : CellsAt W' g (i * E.size) us) (hr : E.ow W' (Sf i) x us) : Row E W' S (L.set i x) g Sf := by
  refine ⟨h.own, fun j => (hU.soft j).trans (h.soft j), h.sub, h.dis, fun j y hy => ?_⟩
  by_cases e : i = j
  · subst e
    rw [List.getElem?_set] at hy
    split at hy
    · split at hy
      · injection hy with hy
        subst hy
        exact ⟨us, hc, hr⟩
      · cases hy
    · exact absurd rfl ‹_›
  · rw [List.getElem?_set_ne e] at hy
    obtain ⟨vs, hv, hw⟩ := h.el j y hy
    refine ⟨vs, fun p c hp => ?_, hE.ow_keep hw fun k hk => hU.block k (hS k (h.sub j k hk).1) (h.sub j k hk).2 (fun hi => ?_)⟩
    · have hl := (List.getElem?_eq_some_iff.1 hp).1
      rw [hE.ow_len hw] at hl
      rw [hU.cells _ (mul_lt_el hl e)]
      exact hv p c hp
    · rcases Nat.lt_or_gt_of_ne e with e2 | e2
      · exact h.dis i j k e2 hi hk
      · exact h.dis j i k e2 hk hi
structure Fil {α : Type} (E : Rp α) (w W : World) (L : List α) (g : Nat) (Sf : Nat → Nat → Prop) (k : Nat) : Prop where
  el : ∀ i x, i < k → L[i]? = some x → ∃ us, CellsAt W g (i * E.size) us ∧ E.ow W (Sf i) x us
  there : ∀ j, j < L.length * E.size → ∃ u, W.cell? ⟨g, j, none⟩ = some u
  soft : ∀ j, W.frozen? ⟨g, j, none⟩ = false
  sub : ∀ i q, Sf i q → g < q ∧ q < W.heap.size ∧ i < k
  dis : ∀ i j q, i < j → Sf i q → ¬ Sf j q
  base : w.heap.size ≤ g
  lt : g < W.heap.size
  below : Below g w W
theorem Fil.new {α : Type} {E : Rp α} {w : World} {L : List α} {cs : Array Value} {t : TypeId} (hs : cs.size = L.length * E.size) : Fil E w (w.alloc (.cells cs t)) L w.heap.size (fun _ _ => False) 0 :=
  ⟨fun i x h => absurd h (Nat.not_lt_zero _), fun j hj => ⟨cs[j]'(by omega), by simp [World.cell?_alloc_new, show j < cs.size by omega]⟩, fun j => by simp, fun i q h => h.elim, fun i j q _ h => h.elim, Nat.le_refl _, by simp, (Below.refl _ _).alloc (Nat.le_refl _) _⟩
theorem Fil.put {α : Type} {E : Rp α} (hE : Ok E) {w W W1 : World} {L : List α} {g k : Nat} {Sf : Nat → Nat → Prop} {x : α} {us : List Value} (h : Fil E w W L g Sf k) (hx : L[k]? = some x) (hb : Below W.heap.size W W1) (hr : E.ow W1 (Rg W.heap.size W1.heap.size) x us) :
    Fil E w (putCells W1 g (k * E.size) us) L g (fun i q => if i = k then Rg W.heap.size W1.heap.size q else Sf i q) (k + 1) := by
  have hk := (List.getElem?_eq_some_iff.1 hx).1
  have hlen := hE.ow_len hr
  have hsz := hb.size
  have hgl := h.lt
  have hmul : (k + 1) * E.size ≤ L.length * E.size := Nat.mul_le_mul_right _ (by omega)
  rw [Nat.add_mul, Nat.one_mul] at hmul
  have there1 : ∀ j, j < L.length * E.size → ∃ u, W1.cell? ⟨g, j, none⟩ = some u := fun j hj => by
    obtain ⟨u, hu⟩ := h.there j hj
    exact ⟨u, (hb.cell (p := ⟨g, j, none⟩) hgl).trans hu⟩
  have apart : ∀ q, Rg W.heap.size W1.heap.size q → q ≠ g := fun q hq => by unfold Rg at hq; omega
  refine ⟨fun i y hi hy => ?_, fun j hj => ?_, fun j => ?_, fun i q hq => ?_, fun i j q hij hi => ?_, h.base, by rw [putCells_size]; omega, ?_⟩
  · by_cases e : i = k
    · subst e
      rw [hx] at hy
      injection hy with hy
      subst hy
      refine ⟨us, putCells_cells g us W1 _ fun j hj => there1 _ (by rw [hlen] at hj; omega), ?_⟩
      simp only [if_true]
      exact hE.ow_keep hr fun q hq => putCells_block g (apart q hq) us W1 _
    · obtain ⟨vs, hv, hw⟩ := h.el i y (by omega) hy
      refine ⟨vs, fun p c hp => ?_, ?_⟩
      · have hl := (List.getElem?_eq_some_iff.1 hp).1
        rw [hE.ow_len hw] at hl
        have h1 := mul_lt_el (i := k) (j := i) hl (Ne.symm e)
        rw [Nat.add_mul, Nat.one_mul] at h1
        rw [putCells_other g us W1 _ (by omega)]
        exact (hb.cell (p := ⟨g, _, none⟩) hgl).trans (hv p c hp)
      · simp only [e, if_false]
        refine hE.ow_keep (hE.ow_keep hw fun q hq => hb.block q (h.sub i q hq).2.1) fun q hq => putCells_block g (by have := (h.sub i q hq).1; omega) us W1 _
  · obtain ⟨u, hu⟩ := there1 j hj
    by_cases hin : j < k * E.size ∨ k * E.size + us.length ≤ j
    · exact ⟨u, (putCells_other g us W1 _ hin).trans hu⟩
    · have hc := putCells_cells g us W1 (k * E.size) fun j hj => there1 _ (by rw [hlen] at hj; omega)
      have hj2 : j - k * E.size < us.length := by omega
      refine ⟨us[j - k * E.size], ?_⟩
      have := hc (j - k * E.size) _ (List.getElem?_eq_getElem hj2)
      rw [show k * E.size + (j - k * E.size) = j by omega] at this
      exact this
  · rw [putCells_frozen]
    exact (hb.frozen (p := ⟨g, j, none⟩) hgl).trans (h.soft j)
  · rw [putCells_size]
    by_cases e : i = k
    · simp only [e, if_true] at hq
      unfold Rg at hq
      omega
    · simp only [e, if_false] at hq
      have := h.sub i q hq
      omega
  · by_cases e1 : i = k
    · subst e1
      simp only [if_true] at hi
      have e2 : j ≠ i := by omega
      simp only [e2, if_false]
      intro hj
      have := (h.sub j q hj).2.2
      omega
    · simp only [e1, if_false] at hi
      by_cases e2 : j = k
      · simp only [e2, if_true]
        have := (h.sub i q hi).2.1
        unfold Rg
        omega
      · simp only [e2, if_false]
        exact h.dis i j q hij hi
  · exact (h.below.trans (hb.mono (by omega))).trans ((putCells_off g us W1 _).below (by omega) (fun k hk => by rw [hk]; exact Nat.le_refl _))
theorem Fil.done {α : Type} {E : Rp α} {w W : World} {L : List α} {g : Nat} {Sf : Nat → Nat → Prop} (h : Fil E w W L g Sf L.length) : Row E W (Rg w.heap.size W.heap.size) L g Sf :=
  ⟨⟨h.base, h.lt⟩, h.soft, fun i k hk => ⟨⟨by have := (h.sub i k hk).1; have := h.base; omega, (h.sub i k hk).2.1⟩, by have := (h.sub i k hk).1; omega⟩, h.dis, fun i x hx => h.el i x (List.getElem?_eq_some_iff.1 hx).1 hx⟩
end Go.Proofs.YtelhmacfljffhaaGreat.RepC
end
section
namespace Go.Proofs.YtelhmacfljffhaaGreat.RepC
open Go.RowKit RowC ValC
set_option linter.unusedVariables false
def Blk (w : World) (g : Nat) (t : TypeId) (cs : Array Value) : Prop := w.heap[g]? = some (.cells cs t (0, 0))
section
variable {w w' : World} {g : Nat} {t : TypeId} {cs : Array Value}
theorem Blk.lt (h : Blk w g t cs) : g < w.heap.size := (Array.getElem?_eq_some_iff.1 h).1
theorem Blk.at_ (h : Blk w g t cs) (i : Nat) {v : Value} (hv : cs[i]? = some v) : w.cell? ⟨g, i, none⟩ = some v := (cell_of_row w g i cs t (0, 0) h).trans hv
theorem Blk.soft (h : Blk w g t cs) (i : Nat) : w.frozen? ⟨g, i, none⟩ = false := by
  unfold Blk at h
  simp [World.frozen?, h]
theorem Blk.new (w : World) (t : TypeId) (cs : Array Value) : Blk (w.alloc (.cells cs t)) w.heap.size t cs := heap_alloc_new w _
theorem Blk.alloc (h : Blk w g t cs) (o : Obj) : Blk (w.alloc o) g t cs := (Below.heap_alloc w o g h.lt).trans h
theorem Blk.set (h : Blk w g t cs) (i : Nat) (u : Value) : Blk (w.setCell ⟨g, i, none⟩ u) g t (cs.setIfInBounds i u) := by
  unfold Blk at h ⊢
  simp [World.setCell, Array.getElem?_modify, h]
theorem Blk.far (h : Blk w g t cs) {b o : Nat} (hp : g ≠ b) (u : Value) : Blk (w.setCell ⟨b, o, none⟩ u) g t cs := (Below.heap_setCell w ⟨b, o, none⟩ u g hp).trans h
theorem Blk.call (h : Blk w g t cs) (hb : Below w.heap.size w w') : Blk w' g t cs := (hb.block g h.lt).trans h
end
theorem bdrewN {B : Nat} {w W : World} (h : Below B w W) (n : Nat) : Below B w (W.drewN n) := ⟨h.os, h.tape, h.output, h.size, h.block⟩
def szR (l : Int) (s : Nat) : Int := if (s : Int) ≤ l then l - s else -1
theorem szR_yes {l : Int} {s : Nat} (h : (s : Int) ≤ l) : szR l s = l - s := if_pos h
theorem szR_no {l : Int} {s : Nat} (h : ¬ (s : Int) ≤ l) : szR l s = -1 := if_neg h
def SzC (l : Int) (s : Nat) (w : World) (e : Ending) (w' : World) : Prop := e = .returned (.int .i64 (szR l s)) ∧ Below w.heap.size w w'
theorem szC_elim {l : Int} {s : Nat} {w : World} {e : Ending} {w' : World} (h : SzC l s w e w') : e = .returned (.int .i64 (szR l s)) ∧ Below w.heap.size w w' := h
theorem sumL_zero {α : Type} {f : α → Nat} (h : ∀ x, f x = 0) : ∀ L : List α, sumL f L = 0
  | [] => rfl
  | x :: xs => by simp only [sumL, h x, sumL_zero h xs]
theorem sumL_take {α : Type} (f : α → Nat) {L : List α} {k : Nat} {x : α} (h : L[k]? = some x) : sumL f (L.take (k + 1)) = sumL f (L.take k) + f x := by
  rw [List.take_add_one, h, Option.toList_some, sumL_app, sumL_one]
theorem sumL_take_le {α : Type} (f : α → Nat) (L : List α) (k : Nat) : sumL f (L.take k) ≤ sumL f L := by
  have := sumL_app f (L.take k) (L.drop k)
  rw [List.take_append_drop] at this
  omega
theorem mmL_take {α : Type} {E : Rp α} {M : List α} {j : Nat} {x : α} {k q q' : Int} (hj : j < M.length) (h : mmL E (M.take j) k q) (hx : E.mm x q q') : mmL E ((M.set j x).take (j + 1)) k q' := by
  have e : (M.set j x).take (j + 1) = M.take j ++ [x] := by
    rw [List.take_add_one, List.take_set_of_le (Nat.le_refl _), List.getElem?_set_self hj]
    rfl
  rw [e]
  exact mmL_app h ⟨q', hx, rfl⟩
def MarkR {α : Type} (E : Rp α) (S : Nat → Prop) (L : List α) (a : Option Addr) (cap : Nat) (k : Int) (w : World) (e : Ending) (w' : World) : Prop :=
  ∃ L' k', e = .returned (.int .i64 k') ∧ L'.length = L.length ∧ mmL E L' k k' ∧ k' = k + (sumL E.cm L : Nat) ∧ OwSl E w' S L' a cap ∧ Off S w w'
structure Mkd {α : Type} (E : Rp α) (W wr : World) (S : Nat → Prop) (L : List α) (g : Nat) (Sf : Nat → Nat → Prop) (k q : Int) (j : Nat) (M : List α) : Prop where
  len : M.length = L.length
  rest : ∀ p, j ≤ p → M[p]? = L[p]?
  mm : mmL E (M.take j) k q
  num : q = k + (sumL E.cm (L.take j) : Nat)
  row : Row E wr S M g Sf
  off : Off S W wr
theorem Mkd.start {α : Type} {E : Rp α} {W : World} {S : Nat → Prop} {L : List α} {g : Nat} {Sf : Nat → Nat → Prop} {k : Int} (h : Row E W S L g Sf) : Mkd E W W S L g Sf k k 0 L := ⟨rfl, fun _ _ => rfl, rfl, by simp [sumL], h, Off.refl _ _⟩
theorem Mkd.done {α : Type} {E : Rp α} {W wr : World} {S : Nat → Prop} {L M : List α} {g cap : Nat} {Sf : Nat → Nat → Prop} {k q : Int} (h : Mkd E W wr S L g Sf k q L.length M) (h1 : L.length ≤ cap) (h2 : cap ≤ maxLen) : MarkR E S L (some ⟨g, 0, none⟩) cap k W (.returned (.int .i64 q)) wr := by
  refine ⟨M, q, rfl, h.len, ?_, ?_, h.row.slice (by rw [h.len]; exact h1) h2, h.off⟩
  · have := h.mm
    rw [← h.len, List.take_length] at this
    exact this
  · have := h.num
    rw [List.take_length] at this
    exact this
theorem Mkd.step {α : Type} {E : Rp α} (hE : Ok E) {W wr w' : World} {S : Nat → Prop} {L M : List α} {g j : Nat} {Sf : Nat → Nat → Prop} {k q q' : Int} {x y : α} {us : List Value} (h : Mkd E W wr S L g Sf k q j M) (hS : ∀ i, S i → i < wr.heap.size) (hx : L[j]? = some x)
    (hU : Upd wr w' g (j * E.size) ((j + 1) * E.size) (Sf j)) (hO : Off S wr w') (hc : CellsAt w' g (j * E.size) us) (hr : E.ow w' (Sf j) y us) (hm : E.mm y q q') (hn : q' = q + (E.cm x : Nat)) : Mkd E W w' S L g Sf k q' (j + 1) (M.set j y) := by
  have hj : j < M.length := by rw [h.len]; exact (List.getElem?_eq_some_iff.1 hx).1
  refine ⟨by rw [List.length_set]; exact h.len, fun p hp => ?_, mmL_take hj h.mm hm, ?_, h.row.set hE hS hU hc hr, h.off.trans hO⟩
  · rw [List.getElem?_set_ne (by omega)]
    exact h.rest p (by omega)
  · rw [hn, h.num, sumL_take E.cm hx]
    omega
theorem Mkd.el {α : Type} {E : Rp α} {W wr : World} {S : Nat → Prop} {L M : List α} {g j : Nat} {Sf : Nat → Nat → Prop} {k q : Int} {x : α} (h : Mkd E W wr S L g Sf k q j M) (hx : L[j]? = some x) : ∃ us, CellsAt wr g (j * E.size) us ∧ E.ow wr (Sf j) x us :=
  h.row.el j x (by rw [h.rest j (Nat.le_refl _)]; exact hx)
theorem MarkR.none_ {α : Type} {E : Rp α} {W : World} {S : Nat → Prop} {L : List α} {a : Option Addr} {cap : Nat} {k : Int} (h : OwSl E W S L a cap) (h0 : L.length = 0) : MarkR E S L a cap k W (.returned (.int .i64 k)) W := by
  obtain rfl := List.eq_nil_of_length_eq_zero h0
  exact ⟨[], k, rfl, rfl, rfl, by simp [sumL], h, Off.refl _ _⟩
def NewV {α : Type} (E : Rp α) (d : α) (w : World) (e : Ending) (w' : World) : Prop := ∃ us : List Value, e = .returned (.agg us.toArray) ∧ E.ow w' (Rg w.heap.size w'.heap.size) d us ∧ Below w.heap.size w w'
theorem newV_elim {α : Type} {E : Rp α} {d : α} {w : World} {e : Ending} {w' : World} (h : NewV E d w e w') : ∃ us : List Value, e = .returned (.agg us.toArray) ∧ E.ow w' (Rg w.heap.size w'.heap.size) d us ∧ Below w.heap.size w w' := h
def NewS {α : Type} (E : Rp α) (L : List α) (w : World) (e : Ending) (w' : World) : Prop := ∃ a cap, e = .returned (.slice a L.length cap) ∧ OwSl E w' (Rg w.heap.size w'.heap.size) L a cap ∧ Below w.heap.size w w'
theorem newS_elim {α : Type} {E : Rp α} {L : List α} {w : World} {e : Ending} {w' : World} (h : NewS E L w e w') : ∃ a cap, e = .returned (.slice a L.length cap) ∧ OwSl E w' (Rg w.heap.size w'.heap.size) L a cap ∧ Below w.heap.size w w' := h
theorem Fil.news {α : Type} {E : Rp α} {w W : World} {L : List α} {Sf : Nat → Nat → Prop} (h : Fil E w W L w.heap.size Sf L.length) (hn : L.length ≤ maxLen) : NewS E L w (.returned (.slice (some ⟨w.heap.size, 0, none⟩) L.length L.length)) W :=
  ⟨_, _, rfl, h.done.slice (Nat.le_refl _) hn, h.below⟩
theorem keep_call {S : Nat → Prop} {w0 Wc w1 : World} (hb : Below Wc.heap.size Wc w1) (ho : Off S w0 Wc) (k : Nat) (hk : k < w0.heap.size) (hS : ¬ S k) : w1.heap[k]? = w0.heap[k]? :=
  (hb.block k (Nat.lt_of_lt_of_le hk ho.size)).trans (ho.block k hk hS)
theorem size_call {S : Nat → Prop} {w0 Wc w1 : World} (hb : Below Wc.heap.size Wc w1) (ho : Off S w0 Wc) : w0.heap.size ≤ w1.heap.size := Nat.le_trans ho.size hb.size
theorem rg_call {Wc w1 : World} {m : Nat} (_ : Below Wc.heap.size Wc w1) (hm : m ≤ Wc.heap.size) (k : Nat) (hk : Rg Wc.heap.size w1.heap.size k) : m ≤ k ∧ k < w1.heap.size := ⟨Nat.le_trans hm hk.1, hk.2⟩
theorem lo_of {S : Nat → Prop} {w0 Wc w1 : World} (_ : Below Wc.heap.size Wc w1) (ho : Off S w0 Wc) (k : Nat) (hk : Rg Wc.heap.size w1.heap.size k) : w0.heap.size ≤ k := Nat.le_trans ho.size hk.1
theorem el_some {α : Type} {L : List α} {k : Nat} (h : k < L.length) : ∃ x, L[k]? = some x := ⟨L[k], List.getElem?_eq_getElem h⟩
theorem sz_at {α : Type} {f : α → Nat} {L : List α} {k : Nat} {x : α} {m : Nat} (hx : L[k]? = some x) (h : L.length + sumL f L ≤ m) : f x ≤ m := by
  have key : ∀ (L : List α) (k : Nat), L[k]? = some x → f x ≤ sumL f L := by
    intro L
    induction L with
    | nil => intro k hk; simp at hk
    | cons y ys ih =>
      intro k hk
      cases k with
      | zero => simp at hk; subst hk; simp only [sumL]; omega
      | succ k => have := ih k (by simpa using hk); simp only [sumL]; omega
  have := key L k hx
  omega
theorem el_lt {α : Type} {L : List α} {k : Nat} {x : α} (h : L[k]? = some x) : k < L.length := (List.getElem?_eq_some_iff.1 h).1
end Go.Proofs.YtelhmacfljffhaaGreat.RepC
end
section
namespace Go.Proofs.YtelhmacfljffhaaGreat.RepC
open Go.RowKit RowC ValC
set_option linter.unusedVariables false
set_option linter.unusedSimpArgs false
theorem Blk.off {w w' : World} {g : Nat} {t : TypeId} {cs : Array Value} {S : Nat → Prop} (h : Blk w g t cs) (ho : Off S w w') (hg : g < w.heap.size) (hS : ¬ S g) : Blk w' g t cs := (ho.block g hg hS).trans h
end Go.Proofs.YtelhmacfljffhaaGreat.RepC
end
section
namespace Go.Proofs.YtelhmacfljffhaaGreat.RepC
open Go.RowKit RowC ValC
set_option linter.unusedVariables false
set_option linter.unusedSimpArgs false
abbrev D_Label : Type := (Int) × (Int)
def R_Label : Rp D_Label := (Pr I I)
theorem R_Label_ok : Ok R_Label := (Pr_ok I_ok I_ok)
theorem rd_Label {W : World} {B : Nat} {x0 : Int} {x1 : Int} {cs : List Value} (h : R_Label.rd W B (x0, x1) cs) : cs = [.int .i64 x0, .int .i64 x1] := by
  obtain ⟨u1, v1, rfl, h1, g1⟩ := h
  obtain rfl : u1 = [_] := h1
  obtain rfl : v1 = [_] := g1
  rfl
theorem mkrd_Label {W : World} {B : Nat} {x0 : Int} {x1 : Int}  : R_Label.rd W B (x0, x1) [.int .i64 x0, .int .i64 x1] := ⟨[.int .i64 x0], [.int .i64 x1], rfl, rfl, rfl⟩
theorem mkow_Label {W : World} {S : Nat → Prop} {x0 : Int} {x1 : Int}  : R_Label.ow W S (x0, x1) [.int .i64 x0, .int .i64 x1] := ⟨[.int .i64 x0], [.int .i64 x1], (fun _ => False), (fun _ => False), rfl, (fun k h => h.elim), (fun k h => h.elim), (fun k h h' => h.elim), rfl, rfl⟩
theorem ow0_Label {W : World} {S : Nat → Prop} {x0 : Int} {x1 : Int} {cs : List Value} (h : R_Label.ow W S (x0, x1) cs) : cs = [.int .i64 x0, .int .i64 x1] := by
  obtain ⟨u1, v1, A1, B1, rfl, sa1, sb1, dd1, h1, g1⟩ := h
  obtain rfl : u1 = [_] := h1
  obtain rfl : v1 = [_] := g1
  rfl
theorem size_Int64S : (I).size = 1 := rfl
def zs_Int64S (n : Nat) : Array Value := madeCells #[.int .i64 0] (n * 1)
theorem zs_Int64S_size (n : Nat) : (zs_Int64S n).size = n * (I).size := by unfold zs_Int64S; simp [madeCells, size_Int64S]
theorem make_Int64S (n : Nat) (hn : n ≤ 1048576) : ∀ W : World, (Instr.makeSlice 68 (.int .i64 (n : Int)) (.int .i64 (n : Int))).run Tryz.prog W = .ok (.slice (some ⟨W.heap.size, 0, none⟩) n n) (W.alloc (.cells (zs_Int64S n) 2)) := by
  intro W
  obtain ⟨i, hi, hz, hs, hb⟩ : ∃ i, Tryz.prog.info? 2 = some i ∧ i.zero = some (.int .i64 0) ∧ i.size = 1 ∧ i.bytes = 8 := by
    have h : (Tryz.prog.info? 2).map (fun i => (i.zero, i.size, i.bytes)) = some (some (.int .i64 0), 1, 8) := by kernel_rfl
    cases hx : Tryz.prog.info? 2 with
    | none => rw [hx] at h; simp at h
    | some i => rw [hx] at h; simp at h; exact ⟨i, rfl, h.1, h.2.1, h.2.2⟩
  have hr := run_make (P := Tryz.prog) W 68 2 i _ Tryz.underlying68 hi hz .i64 .i64 n n (by omega) (by omega) (by rw [hb]; omega) (by omega)
  rw [hs] at hr
  simp only [Int.toNat_natCast] at hr
  exact hr
set_option maxRecDepth 100000 in
set_option maxHeartbeats 3200000 in
theorem to_Int64S {L : List (Int)} {a : Option Addr} {cap : Nat} {W : World} (hsz : ((Sl I)).sz L ≤ 1048576) (h : RdSl I W W.heap.size L a cap) : Calls Tryz.prog 138 #[.slice a L.length cap] W (NewS I L W) := by
  have hn : L.length ≤ 1048576 := Nat.le_trans (Nat.le_add_right _ _) hsz
  have hmk := make_Int64S L.length hn
  have H := Lib.hid h
  have HSZ := Lib.hid hsz
  clear h hsz
  go_enter Tryz.func138, Tryz.ntmps138
  go_wp2
  go_loopw [4] (fun i wr => ∃ k : Nat, k ≤ L.length ∧ i = .int .i64 k ∧ ∃ Sf, Fil I W wr L W.heap.size Sf k) (fun i _ => L.length - (intOf i).toNat)
  case atStart => exact ⟨0, Nat.zero_le _, rfl, _, Fil.new (by exact zs_Int64S_size _)⟩
  case round =>
    obtain ⟨k, hk, rfl, Sf, hF⟩ := hrel
    have HF := Lib.hid hF
    by_cases hlt : k < L.length
    · obtain ⟨x, hx⟩ := el_some hlt
      have HX := Lib.hid hx
      obtain ⟨g, o, us, rfl, hg, hu, hr⟩ := (H.out.below I_ok hF.below).at_ hx
      obtain rfl : us = [_] := hr
      have e0 : wr.cell? ⟨g, o + k, none⟩ = some (.int .i64 x) := by simpa [size_Int64S, Nat.add_assoc] using hu 0 _ rfl
      have hi0 : (0 : Int) ≤ (k : Int) := Int.natCast_nonneg _
      have hi1 : (k : Int) < (L.length : Int) := by omega
      have HP := Lib.hid (HF.out.put I_ok (us := [.int .i64 x]) HX.out (Below.refl _ _) rfl)
      obtain ⟨t0, ht0⟩ := HF.out.there k (by rw [size_Int64S]; omega)
      have hs0 := HF.out.soft k
      clear hF hx hu hmk
      go_wp2
      go_roundw
      case rel => exact ⟨k + 1, by omega, by go_num, _, by simpa [putCells, size_Int64S] using HP.out⟩
      case measure => simp [intOf]; omega
    · obtain rfl : k = L.length := by omega
      have HR := Lib.hid (HF.out.news (by unfold maxLen; omega))
      clear hF hmk
      go_wp2
      go_ret
      exact HR.out
set_option maxRecDepth 100000 in
set_option maxHeartbeats 3200000 in
theorem to_Label {x0 : Int} {x1 : Int}  {W : World} (hsz : R_Label.sz (x0, x1) ≤ 1048576) : Calls Tryz.prog 137 #[.agg #[.int .i64 x0, .int .i64 x1]] W (NewV R_Label (x0, x1) W) := by
  have HSZ := Lib.hid hsz
  clear hsz
  go_enter Tryz.func137, Tryz.ntmps137
  go_wp2
  refine bodyPost_ret (v := .agg #[.int .i64 x0, .int .i64 x1]) (by simp [results, Tryz.results137, go_sem]) rfl ⟨[.int .i64 x0, .int .i64 x1], rfl, mkow_Label, (by repeat (first | exact Below.refl _ _ | refine Below.drew ?_ | refine Below.setCell ?_ (by first | omega | (simp; done) | (simp; omega)) _ | refine Below.alloc ?_ (by first | omega | (simp; done) | (simp; omega)) _))⟩
set_option maxRecDepth 100000 in
set_option maxHeartbeats 3200000 in
theorem eq_Label {x0 : Int} {x1 : Int}   {W : World} : Calls Tryz.prog 164 #[.agg #[.int .i64 x0, .int .i64 x1], .agg #[.int .i64 x0, .int .i64 x1]] W (IsB true W) := by
  have HB0 := Lib.hid (show Below W.heap.size W ((W.alloc (.cells #[.int .i64 x0, .int .i64 x1] 67)).alloc (.cells #[.int .i64 x0, .int .i64 x1] 67)) from ((Below.refl _ _).alloc (Nat.le_refl _) _).alloc (by simp) _)
  go_enter Tryz.func164, Tryz.ntmps164
  go_wp2
  all_goals
    go_ret
    exact ⟨rfl, HB0.out⟩
theorem sizeq_Int64S : (I).size = 1 := rfl
set_option maxRecDepth 100000 in
set_option maxHeartbeats 3200000 in
theorem eq_Int64S {L : List (Int)} {a a' : Option Addr} {cap cap' : Nat} {W : World} (h : RdSl I W W.heap.size L a cap) (h' : RdSl I W W.heap.size L a' cap') : Calls Tryz.prog 165 #[.slice a L.length cap, .slice a' L.length cap'] W (IsB true W) := by
  have hn : L.length ≤ 9223372036854775807 := by have h1 := h.1; have h2 := h.2.1; unfold maxLen at h2; omega
  have H := Lib.hid h
  have H' := Lib.hid h'
  clear h h'
  go_enter Tryz.func165, Tryz.ntmps165
  go_wp2
  go_loopw [5] (fun i wr => ∃ k : Nat, k ≤ L.length ∧ i = .int .i64 k ∧ Below W.heap.size W wr) (fun i _ => L.length - (intOf i).toNat)
  case atStart => exact ⟨0, Nat.zero_le _, rfl, Below.refl _ _⟩
  case round =>
    obtain ⟨k, hk, rfl, hB⟩ := hrel
    have HB := Lib.hid hB
    have hsz := hB.size
    by_cases hlt : k < L.length
    · obtain ⟨x, hx⟩ := el_some hlt
      have HX := Lib.hid hx
      obtain ⟨g, o, us, rfl, hg, hu, hr⟩ := (H.out.below I_ok hB).at_ hx
      obtain ⟨g', o', vs, rfl, hg', hu', hr'⟩ := (H'.out.below I_ok hB).at_ hx
      obtain rfl : us = [_] := hr
      obtain rfl : vs = [_] := hr'
      have e0 : wr.cell? ⟨g, o + k, none⟩ = some (.int .i64 x) := by simpa [sizeq_Int64S, Nat.add_assoc] using hu 0 _ rfl
      have d0 : wr.cell? ⟨g', o' + k, none⟩ = some (.int .i64 x) := by simpa [sizeq_Int64S, Nat.add_assoc] using hu' 0 _ rfl
      have hi0 : (0 : Int) ≤ (k : Int) := Int.natCast_nonneg _
      have hi1 : (k : Int) < (L.length : Int) := by omega
      have hgl : g < wr.heap.size := Nat.lt_of_lt_of_le hg hsz
      have hgl' : g' < wr.heap.size := Nat.lt_of_lt_of_le hg' hsz
      clear hB hx hu hu'
      go_wp2_with fail
      go_quiet (fail)
      all_goals
        go_wp2
        go_roundw
        case rel => exact ⟨k + 1, by omega, by go_num, by first | exact bdrewN HB.out _ | exact HB.out.drew | exact HB.out⟩
        case measure => simp [intOf]; omega
    · clear hB
      go_wp2
      go_ret
      exact ⟨rfl, HB.out⟩
theorem flat_Int64S (L : List (Int)) : (Sl I).sz L = L.length := by
  have : sumL (I).sz L = 0 := sumL_zero (fun _ => rfl) L
  simp only [Sl, this, Nat.add_zero]
set_option maxRecDepth 100000 in
theorem sz_Int64S {L : List (Int)} {a : Option Addr} {cap : Nat} {W : World} {l : Int} (h0 : 0 ≤ l) (h1 : l ≤ 1048576) (h : RdSl I W W.heap.size L a cap) : Calls Tryz.prog 129 #[.slice a L.length cap, .int .i64 l] W (SzC l ((Sl I).sz L) W) := by
  have hn : L.length ≤ 9223372036854775807 := by have h1 := h.1; have h2 := h.2.1; unfold maxLen at h2; omega
  rw [flat_Int64S]
  clear h
  by_cases hf : (L.length : Int) ≤ l
  · have HR := Lib.hid (szR_yes hf)
    go_enter Tryz.func129, Tryz.ntmps129
    go_wp2
    go_ret
    exact ⟨by first | (rw [HR.out]; done) | (rw [HR.out]; rfl), Below.refl _ _⟩
  · have HR := Lib.hid (szR_no hf)
    go_enter Tryz.func129, Tryz.ntmps129
    go_wp2
    go_ret
    exact ⟨by first | (rw [HR.out]; done) | (rw [HR.out]; rfl), Below.refl _ _⟩
end Go.Proofs.YtelhmacfljffhaaGreat.RepC
end
section
namespace Go.Proofs.YtelhmacfljffhaaGreat.RepC
open Go.RowKit RowC ValC
set_option linter.unusedVariables false
def mtl (k : Nat) (out : ByteArray) : ByteArray := if h : k = 0 then out else mtl (k / 10) (⟨#[48 + UInt8.ofNat (k % 10)]⟩ ++ out)
termination_by k
decreasing_by omega
def mtI (k : Int) : ByteArray := if k ≤ 0 then ⟨#[109, 48]⟩ else ⟨#[109]⟩ ++ mtl k.toNat ⟨#[]⟩
def St : Rp ByteArray where
  size := 1
  rd _ _ d cs := cs = [.string d] ∧ d.size ≤ maxLen
  ow _ _ d cs := cs = [.string d] ∧ d.size ≤ maxLen
  mm d k k' := d = mtI k ∧ k' = k + 1
  mv _ k k' := k' = k
  cm _ := 1
  cv _ := 0
  sz d := d.size
theorem St_ok : Ok St where
  rd_len h := by rw [h.1]; rfl
  ow_len h := by rw [h.1]; rfl
  rd_below h _ := h
  rd_more h _ := h
  ow_keep h _ := h
  ow_more h _ := h
  ow_rd h _ := h
  one h u hu := by rw [h.1] at hu; simp at hu; subst hu; rfl
end Go.Proofs.YtelhmacfljffhaaGreat.RepC
end
section
namespace Go.Proofs.YtelhmacfljffhaaGreat.DrawC
open Go.RowKit
structure But (g : Nat) (w w' : World) : Prop where
  os : w'.os = w.os
  tape : w'.tape = w.tape
  output : w'.output = w.output
  size : w.heap.size ≤ w'.heap.size
  block : ∀ k, k < w.heap.size → k ≠ g → w'.heap[k]? = w.heap[k]?
theorem But.refl (g : Nat) (w : World) : But g w w := ⟨rfl, rfl, rfl, Nat.le_refl _, fun _ _ _ => rfl⟩
theorem But.trans {g : Nat} {a b c : World} (h : But g a b) (k : But g b c) : But g a c :=
  ⟨k.os.trans h.os, k.tape.trans h.tape, k.output.trans h.output, Nat.le_trans h.size k.size, fun i hi hg => (k.block i (Nat.lt_of_lt_of_le hi h.size) hg).trans (h.block i hi hg)⟩
theorem But.drew {g : Nat} {a w : World} (h : But g a w) : But g a w.drew := ⟨h.os, h.tape, h.output, h.size, h.block⟩
theorem But.alloc {g : Nat} {a w : World} (h : But g a w) (o : Obj) : But g a (w.alloc o) :=
  h.trans ⟨rfl, rfl, rfl, by simp, fun _ hk _ => Below.heap_alloc _ _ _ hk⟩
theorem But.setCell {g : Nat} {a w : World} (h : But g a w) (o : Nat) (u : Value) : But g a (w.setCell ⟨g, o, none⟩ u) :=
  h.trans ⟨rfl, rfl, rfl, by simp [World.setCell], fun _ _ hg => Below.heap_setCell _ _ _ _ hg⟩
theorem But.of_below {g : Nat} {a w w' : World} (h : But g a w) (k : Below w.heap.size w w') : But g a w' :=
  h.trans ⟨k.os, k.tape, k.output, k.size, fun i hi _ => k.block i hi⟩
theorem But.below {g B : Nat} {w w' : World} (h : But g w w') (hB : B ≤ w.heap.size) (hg : B ≤ g) : Below B w w' :=
  ⟨h.os, h.tape, h.output, h.size, fun k hk => h.block k (by omega) (by omega)⟩
theorem But.cell {g : Nat} {w w' : World} (h : But g w w') {p : Addr} (hp : p.block < w.heap.size) (hg : p.block ≠ g) : w'.cell? p = w.cell? p := World.cell?_of_block (w := w) (h.block p.block hp hg)
theorem But.frozen {g : Nat} {w w' : World} (h : But g w w') {p : Addr} (hp : p.block < w.heap.size) (hg : p.block ≠ g) : w'.frozen? p = w.frozen? p := World.frozen?_of_block (w := w) (h.block p.block hp hg)
def Code' (g : Nat) (w : World) (b : Option Addr) (len : Nat) : Prop := ∀ x, b = some x → ∀ i, i < len → (x.block < g ∧ ∃ c : Nat, c < 256 ∧ w.cell? (x.add i) = some (.int .u8 c))
structure Src (g : Nat) (b : Option Addr) (len cap : Nat) (w : World) : Prop where
  lt : g < w.heap.size
  len0 : len ≤ 1048576
  nil : b = none → len = 0
  code : Code' g w b len
  cells : ∃ (at' mix : Nat) (size : Int), at' ≤ len ∧ mix < 18446744073709551616 ∧ 0 ≤ size ∧ size ≤ 12 ∧ w.cell? ⟨g, 0, none⟩ = some (.slice b len cap) ∧ w.cell? ⟨g, 1, none⟩ = some (.int .i64 at') ∧ w.cell? ⟨g, 2, none⟩ = some (.int .u64 mix) ∧ w.cell? ⟨g, 3, none⟩ = some (.int .i64 size)
  soft : ∀ j, w.frozen? ⟨g, j, none⟩ = false
theorem But.drewN {g : Nat} {a w : World} (h : But g a w) (k : Nat) : But g a (w.drewN k) := ⟨h.os, h.tape, h.output, h.size, h.block⟩
structure Mid (g : Nat) (b : Option Addr) (len cap : Nat) (a : Int) (size : Int) (w W : World) : Prop where
  but : But g w W
  c0 : W.cell? ⟨g, 0, none⟩ = some (.slice b len cap)
  c1 : W.cell? ⟨g, 1, none⟩ = some (.int .i64 a)
  c2 : ∃ m : Nat, m < 18446744073709551616 ∧ W.cell? ⟨g, 2, none⟩ = some (.int .u64 m)
  c3 : W.cell? ⟨g, 3, none⟩ = some (.int .i64 size)
  soft : ∀ j, W.frozen? ⟨g, j, none⟩ = false
theorem Mid.mix {g : Nat} {b : Option Addr} {len cap : Nat} {a size : Int} {w W : World} (h : Mid g b len cap a size w W) {v : Int} (h0 : 0 ≤ v) (h1 : v < 18446744073709551616) :
    Mid g b len cap a size w ((W.setCell ⟨g, 2, none⟩ (.int .u64 v)).drew) := by
  obtain ⟨m, _, c2⟩ := h.c2
  refine ⟨(h.but.setCell 2 _).drew, ?_, ?_, ⟨v.toNat, by omega, ?_⟩, ?_, fun j => ?_⟩
  · simp [go_sem, h.c0]
  · simp [go_sem, h.c1]
  · rw [show ((v.toNat : Nat) : Int) = v by omega]; simp [go_sem, c2]
  · simp [go_sem, h.c3]
  · simpa using h.soft j
theorem Mid.drewN {g : Nat} {b : Option Addr} {len cap : Nat} {a size : Int} {w W : World} (h : Mid g b len cap a size w W) (k : Nat) : Mid g b len cap a size w (W.drewN k) :=
  ⟨h.but.drewN k, by simpa using h.c0, by simpa using h.c1, by simpa using h.c2, by simpa using h.c3, fun j => by simpa using h.soft j⟩
theorem Src.mono {g : Nat} {b : Option Addr} {len cap : Nat} {w w' : World} (h : Src g b len cap w) (hb : Below (g + 1) w w') : Src g b len cap w' := by
  obtain ⟨a, m, s, h1, h2, h3, h4, c0, c1, c2, c3⟩ := h.cells
  refine ⟨Nat.lt_of_lt_of_le h.lt hb.size, h.len0, h.nil, fun x hx => ?_, ⟨a, m, s, h1, h2, h3, h4, (hb.cell (p := ⟨g, 0, none⟩) (Nat.lt_succ_self _)).trans c0, (hb.cell (p := ⟨g, 1, none⟩) (Nat.lt_succ_self _)).trans c1, (hb.cell (p := ⟨g, 2, none⟩) (Nat.lt_succ_self _)).trans c2, (hb.cell (p := ⟨g, 3, none⟩) (Nat.lt_succ_self _)).trans c3⟩, fun j => (hb.frozen (p := ⟨g, j, none⟩) (Nat.lt_succ_self _)).trans (h.soft j)⟩
  intro i hi
  obtain ⟨hg, c, hc, e⟩ := h.code x hx i hi
  refine ⟨hg, ?_⟩
  have hx' : (x.add i).block = x.block := by cases i <;> simp [Addr.add]
  exact ⟨c, hc, (hb.cell (p := x.add i) (by rw [hx']; omega)).trans e⟩
theorem Src.alloc {g : Nat} {b : Option Addr} {len cap : Nat} {w : World} (h : Src g b len cap w) (o : Obj) : Src g b len cap (w.alloc o) :=
  h.mono ((Below.refl _ _).alloc h.lt _)
def CodeIn (w : World) (b : Option Addr) (len : Nat) : Prop := (b = none → len = 0) ∧ ∀ x, b = some x → ∀ i, i < len → (x.block < w.heap.size ∧ ∃ c : Nat, c < 256 ∧ w.cell? (x.add i) = some (.int .u8 c))
theorem Mid.size {g : Nat} {b : Option Addr} {len cap : Nat} {a size : Int} {w W : World} (h : Mid g b len cap a size w W) (s2 : Int) :
    Mid g b len cap a s2 w (W.setCell ⟨g, 3, none⟩ (.int .i64 s2)) := by
  obtain ⟨m, hm, c2⟩ := h.c2
  refine ⟨h.but.setCell 3 _, ?_, ?_, ⟨m, hm, ?_⟩, ?_, fun j => ?_⟩
  · simp [go_sem, h.c0]
  · simp [go_sem, h.c1]
  · simp [go_sem, c2]
  · simp [go_sem, h.c3]
  · simpa using h.soft j
theorem CodeIn.at {w : World} {x : Addr} {len i : Nat} (h : CodeIn w (some x) len) (hi : i < len) {o : Obj} {W : World} (hb : But w.heap.size (w.alloc o) W) : ∃ c : Nat, c < 256 ∧ W.cell? (x.add i) = some (.int .u8 c) := by
  obtain ⟨hx, c, hc, e⟩ := h.2 x rfl i hi
  have hx' : (x.add i).block = x.block := by cases i <;> simp [Addr.add]
  exact ⟨c, hc, ((hb.cell (p := x.add i) (by rw [hx']; simp; omega) (by rw [hx']; omega)).trans (World.cell?_alloc_lt _ _ _ (by rw [hx']; exact hx))).trans e⟩
theorem Mid.made {b : Option Addr} {len cap a : Nat} {size : Int} {w W : World} {o : Obj} (h : Mid w.heap.size b len cap a size (w.alloc o) W) (hc : CodeIn w b len) (hl : len ≤ 1048576) (ha : a ≤ len) (s0 : 0 ≤ size) (s1 : size ≤ 12) :
    Src w.heap.size b len cap W ∧ Below w.heap.size w W := by
  obtain ⟨m, hm, c2⟩ := h.c2
  refine ⟨⟨Nat.lt_of_lt_of_le (by simp) h.but.size, hl, hc.1, fun x hx => ?_, ⟨a, m, size, ha, hm, s0, s1, h.c0, h.c1, c2, h.c3⟩, h.soft⟩, ((Below.refl _ _).alloc (Nat.le_refl _) o).trans (h.but.below (by simp) (Nat.le_refl _))⟩
  subst hx
  exact fun i hi => ⟨(hc.2 x rfl i hi).1, hc.at hi h.but⟩
theorem But.grown {g : Nat} {a w w' : World} {row : Option Nat} (h : But g a w) (hg : w.grownBy w' row) (hr : ∀ k, row = some k → a.heap.size ≤ k) : But g a w' :=
  ⟨hg.os.trans h.os, hg.tape.trans h.tape, hg.output.trans h.output, Nat.le_trans h.size hg.size, fun k hk hkg => (hg.block k (Nat.lt_of_lt_of_le hk h.size) (fun e => by have := hr k e.symm; omega)).trans (h.block k hk hkg)⟩
theorem Src.grown {g : Nat} {b : Option Addr} {len cap : Nat} {w w' : World} {row : Option Nat} (h : Src g b len cap w) (hg : w.grownBy w' row) (hr : ∀ k, row = some k → g < k) : Src g b len cap w' :=
  h.mono ((Below.refl _ _).grown hg h.lt (fun k hk => hr k hk))
theorem CodeIn.below {w w' : World} {b : Option Addr} {len : Nat} (h : CodeIn w b len) (hb : Below w.heap.size w w') : CodeIn w' b len := by
  refine ⟨h.1, fun x hx i hi => ?_⟩
  obtain ⟨hl, c, hc, e⟩ := h.2 x hx i hi
  refine ⟨Nat.lt_of_lt_of_le hl hb.size, ?_⟩
  have hx' : (x.add i).block = x.block := by cases i <;> simp [Addr.add]
  exact ⟨c, hc, (hb.cell (p := x.add i) (by rw [hx']; exact hl)).trans e⟩
end Go.Proofs.YtelhmacfljffhaaGreat.DrawC
end
section
namespace Go.Proofs.YtelhmacfljffhaaGreat.RepC
open Go.RowKit RowC ValC
set_option linter.unusedVariables false
set_option linter.unusedSimpArgs false
abbrev D_Task : Type := (D_Label) × (Int) × (ByteArray) × (Int) × (Int) × (Int) × (D_Label) × (Int) × (Int) × (Int) × (Int) × (List (Int))
def R_Task : Rp D_Task := (Pr R_Label (Pr I (Pr St (Pr I (Pr I (Pr I (Pr R_Label (Pr I (Pr I (Pr I (Pr I (Sl I))))))))))))
theorem R_Task_ok : Ok R_Task := (Pr_ok R_Label_ok (Pr_ok I_ok (Pr_ok St_ok (Pr_ok I_ok (Pr_ok I_ok (Pr_ok I_ok (Pr_ok R_Label_ok (Pr_ok I_ok (Pr_ok I_ok (Pr_ok I_ok (Pr_ok I_ok (Sl_ok I_ok))))))))))))
theorem rd_Task {W : World} {B : Nat} {x0 : Int} {x1 : Int} {x2 : Int} {x3 : ByteArray} {x4 : Int} {x5 : Int} {x6 : Int} {x7 : Int} {x8 : Int} {x9 : Int} {x10 : Int} {x11 : Int} {x12 : Int} {L0 : List (Int)} {cs : List Value} (h : R_Task.rd W B ((x0, x1), x2, x3, x4, x5, x6, (x7, x8), x9, x10, x11, x12, L0) cs) : ∃ a0 c0, cs = [.int .i64 x0, .int .i64 x1, .int .i64 x2, .string x3, .int .i64 x4, .int .i64 x5, .int .i64 x6, .int .i64 x7, .int .i64 x8, .int .i64 x9, .int .i64 x10, .int .i64 x11, .int .i64 x12, .slice a0 L0.length c0] ∧ RdSl I W B L0 a0 c0 ∧ x3.size ≤ maxLen := by
  obtain ⟨u1, v1, rfl, h1, g1⟩ := h
  obtain ⟨u2, v2, rfl, h2, g2⟩ := h1
  obtain rfl : u2 = [_] := h2
  obtain rfl : v2 = [_] := g2
  obtain ⟨u3, v3, rfl, h3, g3⟩ := g1
  obtain rfl : u3 = [_] := h3
  obtain ⟨u4, v4, rfl, h4, g4⟩ := g3
  obtain ⟨hq_x3, b_x3⟩ := h4
  obtain rfl : u4 = [_] := hq_x3
  obtain ⟨u5, v5, rfl, h5, g5⟩ := g4
  obtain rfl : u5 = [_] := h5
  obtain ⟨u6, v6, rfl, h6, g6⟩ := g5
  obtain rfl : u6 = [_] := h6
  obtain ⟨u7, v7, rfl, h7, g7⟩ := g6
  obtain rfl : u7 = [_] := h7
  obtain ⟨u8, v8, rfl, h8, g8⟩ := g7
  obtain ⟨u9, v9, rfl, h9, g9⟩ := h8
  obtain rfl : u9 = [_] := h9
  obtain rfl : v9 = [_] := g9
  obtain ⟨u10, v10, rfl, h10, g10⟩ := g8
  obtain rfl : u10 = [_] := h10
  obtain ⟨u11, v11, rfl, h11, g11⟩ := g10
  obtain rfl : u11 = [_] := h11
  obtain ⟨u12, v12, rfl, h12, g12⟩ := g11
  obtain rfl : u12 = [_] := h12
  obtain ⟨u13, v13, rfl, h13, g13⟩ := g12
  obtain rfl : u13 = [_] := h13
  obtain ⟨a0, c0, rfl, k_L0⟩ := g13
  exact ⟨a0, c0, rfl, k_L0, b_x3⟩
theorem mkow_Task {W : World} {S : Nat → Prop} {x0 : Int} {x1 : Int} {x2 : Int} {x3 : ByteArray} {x4 : Int} {x5 : Int} {x6 : Int} {x7 : Int} {x8 : Int} {x9 : Int} {x10 : Int} {x11 : Int} {x12 : Int} {L0 : List (Int)} {a0 : Option Addr} {c0 : Nat} {T0 : Nat → Prop} (hs0 : ∀ k, T0 k → S k) (h_L0 : OwSl I W T0 L0 a0 c0) (b_x3 : x3.size ≤ maxLen) : R_Task.ow W S ((x0, x1), x2, x3, x4, x5, x6, (x7, x8), x9, x10, x11, x12, L0) [.int .i64 x0, .int .i64 x1, .int .i64 x2, .string x3, .int .i64 x4, .int .i64 x5, .int .i64 x6, .int .i64 x7, .int .i64 x8, .int .i64 x9, .int .i64 x10, .int .i64 x11, .int .i64 x12, .slice a0 L0.length c0] := ⟨[.int .i64 x0, .int .i64 x1], [.int .i64 x2, .string x3, .int .i64 x4, .int .i64 x5, .int .i64 x6, .int .i64 x7, .int .i64 x8, .int .i64 x9, .int .i64 x10, .int .i64 x11, .int .i64 x12, .slice a0 L0.length c0], (fun _ => False), T0, rfl, (fun k h => h.elim), (fun k h => hs0 k h), (fun k h h' => h.elim), ⟨[.int .i64 x0], [.int .i64 x1], (fun _ => False), (fun _ => False), rfl, (fun k h => h.elim), (fun k h => h.elim), (fun k h h' => h.elim), rfl, rfl⟩, ⟨[.int .i64 x2], [.string x3, .int .i64 x4, .int .i64 x5, .int .i64 x6, .int .i64 x7, .int .i64 x8, .int .i64 x9, .int .i64 x10, .int .i64 x11, .int .i64 x12, .slice a0 L0.length c0], (fun _ => False), T0, rfl, (fun k h => h.elim), (fun k h => h), (fun k h h' => h.elim), rfl, ⟨[.string x3], [.int .i64 x4, .int .i64 x5, .int .i64 x6, .int .i64 x7, .int .i64 x8, .int .i64 x9, .int .i64 x10, .int .i64 x11, .int .i64 x12, .slice a0 L0.length c0], (fun _ => False), T0, rfl, (fun k h => h.elim), (fun k h => h), (fun k h h' => h.elim), ⟨rfl, b_x3⟩, ⟨[.int .i64 x4], [.int .i64 x5, .int .i64 x6, .int .i64 x7, .int .i64 x8, .int .i64 x9, .int .i64 x10, .int .i64 x11, .int .i64 x12, .slice a0 L0.length c0], (fun _ => False), T0, rfl, (fun k h => h.elim), (fun k h => h), (fun k h h' => h.elim), rfl, ⟨[.int .i64 x5], [.int .i64 x6, .int .i64 x7, .int .i64 x8, .int .i64 x9, .int .i64 x10, .int .i64 x11, .int .i64 x12, .slice a0 L0.length c0], (fun _ => False), T0, rfl, (fun k h => h.elim), (fun k h => h), (fun k h h' => h.elim), rfl, ⟨[.int .i64 x6], [.int .i64 x7, .int .i64 x8, .int .i64 x9, .int .i64 x10, .int .i64 x11, .int .i64 x12, .slice a0 L0.length c0], (fun _ => False), T0, rfl, (fun k h => h.elim), (fun k h => h), (fun k h h' => h.elim), rfl, ⟨[.int .i64 x7, .int .i64 x8], [.int .i64 x9, .int .i64 x10, .int .i64 x11, .int .i64 x12, .slice a0 L0.length c0], (fun _ => False), T0, rfl, (fun k h => h.elim), (fun k h => h), (fun k h h' => h.elim), ⟨[.int .i64 x7], [.int .i64 x8], (fun _ => False), (fun _ => False), rfl, (fun k h => h.elim), (fun k h => h.elim), (fun k h h' => h.elim), rfl, rfl⟩, ⟨[.int .i64 x9], [.int .i64 x10, .int .i64 x11, .int .i64 x12, .slice a0 L0.length c0], (fun _ => False), T0, rfl, (fun k h => h.elim), (fun k h => h), (fun k h h' => h.elim), rfl, ⟨[.int .i64 x10], [.int .i64 x11, .int .i64 x12, .slice a0 L0.length c0], (fun _ => False), T0, rfl, (fun k h => h.elim), (fun k h => h), (fun k h h' => h.elim), rfl, ⟨[.int .i64 x11], [.int .i64 x12, .slice a0 L0.length c0], (fun _ => False), T0, rfl, (fun k h => h.elim), (fun k h => h), (fun k h h' => h.elim), rfl, ⟨[.int .i64 x12], [.slice a0 L0.length c0], (fun _ => False), T0, rfl, (fun k h => h.elim), (fun k h => h), (fun k h h' => h.elim), rfl, ⟨a0, c0, rfl, h_L0⟩⟩⟩⟩⟩⟩⟩⟩⟩⟩⟩⟩
theorem ow_Task {W : World} {S : Nat → Prop} {x0 : Int} {x1 : Int} {x2 : Int} {x3 : ByteArray} {x4 : Int} {x5 : Int} {x6 : Int} {x7 : Int} {x8 : Int} {x9 : Int} {x10 : Int} {x11 : Int} {x12 : Int} {L0 : List (Int)} {cs : List Value} (h : R_Task.ow W S ((x0, x1), x2, x3, x4, x5, x6, (x7, x8), x9, x10, x11, x12, L0) cs) : ∃ a0 c0, ∃ T0 : Nat → Prop, cs = [.int .i64 x0, .int .i64 x1, .int .i64 x2, .string x3, .int .i64 x4, .int .i64 x5, .int .i64 x6, .int .i64 x7, .int .i64 x8, .int .i64 x9, .int .i64 x10, .int .i64 x11, .int .i64 x12, .slice a0 L0.length c0] ∧ (∀ k, T0 k → S k) ∧ OwSl I W T0 L0 a0 c0 ∧ x3.size ≤ maxLen := by
  obtain ⟨u1, v1, A1, B1, rfl, sa1, sb1, dd1, h1, g1⟩ := h
  obtain ⟨u2, v2, A2, B2, rfl, sa2, sb2, dd2, h2, g2⟩ := h1
  obtain rfl : u2 = [_] := h2
  obtain rfl : v2 = [_] := g2
  obtain ⟨u3, v3, A3, B3, rfl, sa3, sb3, dd3, h3, g3⟩ := g1
  obtain rfl : u3 = [_] := h3
  obtain ⟨u4, v4, A4, B4, rfl, sa4, sb4, dd4, h4, g4⟩ := g3
  obtain ⟨hq_x3, b_x3⟩ := h4
  obtain rfl : u4 = [_] := hq_x3
  obtain ⟨u5, v5, A5, B5, rfl, sa5, sb5, dd5, h5, g5⟩ := g4
  obtain rfl : u5 = [_] := h5
  obtain ⟨u6, v6, A6, B6, rfl, sa6, sb6, dd6, h6, g6⟩ := g5
  obtain rfl : u6 = [_] := h6
  obtain ⟨u7, v7, A7, B7, rfl, sa7, sb7, dd7, h7, g7⟩ := g6
  obtain rfl : u7 = [_] := h7
  obtain ⟨u8, v8, A8, B8, rfl, sa8, sb8, dd8, h8, g8⟩ := g7
  obtain ⟨u9, v9, A9, B9, rfl, sa9, sb9, dd9, h9, g9⟩ := h8
  obtain rfl : u9 = [_] := h9
  obtain rfl : v9 = [_] := g9
  obtain ⟨u10, v10, A10, B10, rfl, sa10, sb10, dd10, h10, g10⟩ := g8
  obtain rfl : u10 = [_] := h10
  obtain ⟨u11, v11, A11, B11, rfl, sa11, sb11, dd11, h11, g11⟩ := g10
  obtain rfl : u11 = [_] := h11
  obtain ⟨u12, v12, A12, B12, rfl, sa12, sb12, dd12, h12, g12⟩ := g11
  obtain rfl : u12 = [_] := h12
  obtain ⟨u13, v13, A13, B13, rfl, sa13, sb13, dd13, h13, g13⟩ := g12
  obtain rfl : u13 = [_] := h13
  obtain ⟨a0, c0, rfl, k_L0⟩ := g13
  exact ⟨a0, c0, B13, rfl, fun k h => sb1 k (sb3 k (sb4 k (sb5 k (sb6 k (sb7 k (sb8 k (sb10 k (sb11 k (sb12 k (sb13 k (h))))))))))), k_L0, b_x3⟩
set_option maxRecDepth 100000 in
set_option maxHeartbeats 3200000 in
theorem to_Task {x0 : Int} {x1 : Int} {x2 : Int} {x3 : ByteArray} {x4 : Int} {x5 : Int} {x6 : Int} {x7 : Int} {x8 : Int} {x9 : Int} {x10 : Int} {x11 : Int} {x12 : Int} {L0 : List (Int)} {a0 : Option Addr} {c0 : Nat} {W : World} (hsz : R_Task.sz ((x0, x1), x2, x3, x4, x5, x6, (x7, x8), x9, x10, x11, x12, L0) ≤ 1048576) (h_L0 : RdSl I W W.heap.size L0 a0 c0) (b_x3 : x3.size ≤ maxLen) : Calls Tryz.prog 84 #[.agg #[.int .i64 x0, .int .i64 x1, .int .i64 x2, .string x3, .int .i64 x4, .int .i64 x5, .int .i64 x6, .int .i64 x7, .int .i64 x8, .int .i64 x9, .int .i64 x10, .int .i64 x11, .int .i64 x12, .slice a0 L0.length c0]] W (NewV R_Task ((x0, x1), x2, x3, x4, x5, x6, (x7, x8), x9, x10, x11, x12, L0) W) := by
  have H_L0 := Lib.hid h_L0
  have HSZ := Lib.hid hsz
  clear hsz h_L0
  have hP := ((Blk.new W 110 #[.int .i64 x0, .int .i64 x1, .int .i64 x2, .string x3, .int .i64 x4, .int .i64 x5, .int .i64 x6, .int .i64 x7, .int .i64 x8, .int .i64 x9, .int .i64 x10, .int .i64 x11, .int .i64 x12, .slice a0 L0.length c0]).alloc (.cells #[.int .i64 0, .int .i64 0, .int .i64 0, .string ⟨#[]⟩, .int .i64 0, .int .i64 0, .int .i64 0, .int .i64 0, .int .i64 0, .int .i64 0, .int .i64 0, .int .i64 0, .int .i64 0, .slice none 0 0] 70)).alloc (.cells #[.int .i64 0, .int .i64 0, .int .i64 0, .string ⟨#[]⟩, .int .i64 0, .int .i64 0, .int .i64 0, .int .i64 0, .int .i64 0, .int .i64 0, .int .i64 0, .int .i64 0, .int .i64 0, .slice none 0 0] 70)
  have hR := (Blk.new (W.alloc (.cells #[.int .i64 x0, .int .i64 x1, .int .i64 x2, .string x3, .int .i64 x4, .int .i64 x5, .int .i64 x6, .int .i64 x7, .int .i64 x8, .int .i64 x9, .int .i64 x10, .int .i64 x11, .int .i64 x12, .slice a0 L0.length c0] 110)) 70 #[.int .i64 0, .int .i64 0, .int .i64 0, .string ⟨#[]⟩, .int .i64 0, .int .i64 0, .int .i64 0, .int .i64 0, .int .i64 0, .int .i64 0, .int .i64 0, .int .i64 0, .int .i64 0, .slice none 0 0]).alloc (.cells #[.int .i64 0, .int .i64 0, .int .i64 0, .string ⟨#[]⟩, .int .i64 0, .int .i64 0, .int .i64 0, .int .i64 0, .int .i64 0, .int .i64 0, .int .i64 0, .int .i64 0, .int .i64 0, .slice none 0 0] 70)
  have hO := Blk.new ((W.alloc (.cells #[.int .i64 x0, .int .i64 x1, .int .i64 x2, .string x3, .int .i64 x4, .int .i64 x5, .int .i64 x6, .int .i64 x7, .int .i64 x8, .int .i64 x9, .int .i64 x10, .int .i64 x11, .int .i64 x12, .slice a0 L0.length c0] 110)).alloc (.cells #[.int .i64 0, .int .i64 0, .int .i64 0, .string ⟨#[]⟩, .int .i64 0, .int .i64 0, .int .i64 0, .int .i64 0, .int .i64 0, .int .i64 0, .int .i64 0, .int .i64 0, .int .i64 0, .slice none 0 0] 70)) 70 #[.int .i64 0, .int .i64 0, .int .i64 0, .string ⟨#[]⟩, .int .i64 0, .int .i64 0, .int .i64 0, .int .i64 0, .int .i64 0, .int .i64 0, .int .i64 0, .int .i64 0, .int .i64 0, .slice none 0 0]
  simp only [World.size_alloc] at hP hR hO
  have HB0 := Lib.hid (show Below W.heap.size W (((W.alloc (.cells #[.int .i64 x0, .int .i64 x1, .int .i64 x2, .string x3, .int .i64 x4, .int .i64 x5, .int .i64 x6, .int .i64 x7, .int .i64 x8, .int .i64 x9, .int .i64 x10, .int .i64 x11, .int .i64 x12, .slice a0 L0.length c0] 110)).alloc (.cells #[.int .i64 0, .int .i64 0, .int .i64 0, .string ⟨#[]⟩, .int .i64 0, .int .i64 0, .int .i64 0, .int .i64 0, .int .i64 0, .int .i64 0, .int .i64 0, .int .i64 0, .int .i64 0, .slice none 0 0] 70)).alloc (.cells #[.int .i64 0, .int .i64 0, .int .i64 0, .string ⟨#[]⟩, .int .i64 0, .int .i64 0, .int .i64 0, .int .i64 0, .int .i64 0, .int .i64 0, .int .i64 0, .int .i64 0, .int .i64 0, .slice none 0 0] 70)) from (((Below.refl _ _).alloc (Nat.le_refl _) _).alloc (by simp) _).alloc (by simp; omega) _)
  have hz0 : W.heap.size + 3 ≤ (((W.alloc (.cells #[.int .i64 x0, .int .i64 x1, .int .i64 x2, .string x3, .int .i64 x4, .int .i64 x5, .int .i64 x6, .int .i64 x7, .int .i64 x8, .int .i64 x9, .int .i64 x10, .int .i64 x11, .int .i64 x12, .slice a0 L0.length c0] 110)).alloc (.cells #[.int .i64 0, .int .i64 0, .int .i64 0, .string ⟨#[]⟩, .int .i64 0, .int .i64 0, .int .i64 0, .int .i64 0, .int .i64 0, .int .i64 0, .int .i64 0, .int .i64 0, .int .i64 0, .slice none 0 0] 70)).alloc (.cells #[.int .i64 0, .int .i64 0, .int .i64 0, .string ⟨#[]⟩, .int .i64 0, .int .i64 0, .int .i64 0, .int .i64 0, .int .i64 0, .int .i64 0, .int .i64 0, .int .i64 0, .int .i64 0, .slice none 0 0] 70)).heap.size := by simp
  have HP0 := Lib.hid hP
  have HR0 := Lib.hid hR
  have HO0 := Lib.hid hO
  clear hP hR hO
  go_enter Tryz.func84, Tryz.ntmps84
  go_wp2_with fail
  refine (to_Label (by have h0 := HSZ.out; simp only [R_Task, R_Label, Pr, Sl, I, Bo, St, atom] at h0 ⊢; omega)).mono ?_
  intro e w1 h
  obtain ⟨vs, rfl, how, hb⟩ := newV_elim h
  obtain rfl := ow0_Label how
  have hP : Blk w1 (W.heap.size) 110 #[.int .i64 x0, .int .i64 x1, .int .i64 x2, .string x3, .int .i64 x4, .int .i64 x5, .int .i64 x6, .int .i64 x7, .int .i64 x8, .int .i64 x9, .int .i64 x10, .int .i64 x11, .int .i64 x12, .slice a0 L0.length c0] := Blk.call HP0.out hb
  have hR : Blk w1 (W.heap.size + 1) 70 #[.int .i64 0, .int .i64 0, .int .i64 0, .string ⟨#[]⟩, .int .i64 0, .int .i64 0, .int .i64 0, .int .i64 0, .int .i64 0, .int .i64 0, .int .i64 0, .int .i64 0, .int .i64 0, .slice none 0 0] := Blk.call HR0.out hb
  have hO : Blk w1 (W.heap.size + 1 + 1) 70 #[.int .i64 0, .int .i64 0, .int .i64 0, .string ⟨#[]⟩, .int .i64 0, .int .i64 0, .int .i64 0, .int .i64 0, .int .i64 0, .int .i64 0, .int .i64 0, .int .i64 0, .int .i64 0, .slice none 0 0] := Blk.call HO0.out hb
  have hz1 : W.heap.size + 3 ≤ w1.heap.size := Nat.le_trans hz0 (size_call hb (S := fun x => x < W.heap.size + 3) (Off.refl (fun x => x < W.heap.size + 3) _))
  have HB1 := Lib.hid (Below.trans (B := W.heap.size) (a := W) HB0.out (hb.mono (by have h0 := hz0; first | omega | (simp; omega))))
  have HP1 := Lib.hid hP
  have HR1 := Lib.hid hR
  have HO1 := Lib.hid hO
  clear h hb hP hR hO how
  have p1_0 := HP1.out.at_ 0 rfl
  have o1_0 := HO1.out.at_ 0 rfl
  have r1_0 := HR1.out.at_ 0 rfl
  have f1_0 := HO1.out.soft 0
  have g1_0 := HR1.out.soft 0
  have p1_1 := HP1.out.at_ 1 rfl
  have o1_1 := HO1.out.at_ 1 rfl
  have r1_1 := HR1.out.at_ 1 rfl
  have f1_1 := HO1.out.soft 1
  have g1_1 := HR1.out.soft 1
  have p1_2 := HP1.out.at_ 2 rfl
  have o1_2 := HO1.out.at_ 2 rfl
  have r1_2 := HR1.out.at_ 2 rfl
  have f1_2 := HO1.out.soft 2
  have g1_2 := HR1.out.soft 2
  have p1_3 := HP1.out.at_ 3 rfl
  have o1_3 := HO1.out.at_ 3 rfl
  have r1_3 := HR1.out.at_ 3 rfl
  have f1_3 := HO1.out.soft 3
  have g1_3 := HR1.out.soft 3
  have p1_4 := HP1.out.at_ 4 rfl
  have o1_4 := HO1.out.at_ 4 rfl
  have r1_4 := HR1.out.at_ 4 rfl
  have f1_4 := HO1.out.soft 4
  have g1_4 := HR1.out.soft 4
  have p1_5 := HP1.out.at_ 5 rfl
  have o1_5 := HO1.out.at_ 5 rfl
  have r1_5 := HR1.out.at_ 5 rfl
  have f1_5 := HO1.out.soft 5
  have g1_5 := HR1.out.soft 5
  have p1_6 := HP1.out.at_ 6 rfl
  have o1_6 := HO1.out.at_ 6 rfl
  have r1_6 := HR1.out.at_ 6 rfl
  have f1_6 := HO1.out.soft 6
  have g1_6 := HR1.out.soft 6
  have p1_7 := HP1.out.at_ 7 rfl
  have o1_7 := HO1.out.at_ 7 rfl
  have r1_7 := HR1.out.at_ 7 rfl
  have f1_7 := HO1.out.soft 7
  have g1_7 := HR1.out.soft 7
  have p1_8 := HP1.out.at_ 8 rfl
  have o1_8 := HO1.out.at_ 8 rfl
  have r1_8 := HR1.out.at_ 8 rfl
  have f1_8 := HO1.out.soft 8
  have g1_8 := HR1.out.soft 8
  have p1_9 := HP1.out.at_ 9 rfl
  have o1_9 := HO1.out.at_ 9 rfl
  have r1_9 := HR1.out.at_ 9 rfl
  have f1_9 := HO1.out.soft 9
  have g1_9 := HR1.out.soft 9
  have p1_10 := HP1.out.at_ 10 rfl
  have o1_10 := HO1.out.at_ 10 rfl
  have r1_10 := HR1.out.at_ 10 rfl
  have f1_10 := HO1.out.soft 10
  have g1_10 := HR1.out.soft 10
  have p1_11 := HP1.out.at_ 11 rfl
  have o1_11 := HO1.out.at_ 11 rfl
  have r1_11 := HR1.out.at_ 11 rfl
  have f1_11 := HO1.out.soft 11
  have g1_11 := HR1.out.soft 11
  have p1_12 := HP1.out.at_ 12 rfl
  have o1_12 := HO1.out.at_ 12 rfl
  have r1_12 := HR1.out.at_ 12 rfl
  have f1_12 := HO1.out.soft 12
  have g1_12 := HR1.out.soft 12
  have p1_13 := HP1.out.at_ 13 rfl
  have o1_13 := HO1.out.at_ 13 rfl
  have r1_13 := HR1.out.at_ 13 rfl
  have f1_13 := HO1.out.soft 13
  have g1_13 := HR1.out.soft 13
  go_wp2_with fail
  refine (to_Label (by have h0 := HSZ.out; simp only [R_Task, R_Label, Pr, Sl, I, Bo, St, atom] at h0 ⊢; omega)).mono ?_
  intro e w2 h
  obtain ⟨vs, rfl, how, hb⟩ := newV_elim h
  obtain rfl := ow0_Label how
  have hP : Blk w2 (W.heap.size) 110 #[.int .i64 x0, .int .i64 x1, .int .i64 x2, .string x3, .int .i64 x4, .int .i64 x5, .int .i64 x6, .int .i64 x7, .int .i64 x8, .int .i64 x9, .int .i64 x10, .int .i64 x11, .int .i64 x12, .slice a0 L0.length c0] := Blk.call (Blk.far (b := W.heap.size + 1 + 1) (o := 6) (Blk.far (b := W.heap.size + 1 + 1) (o := 5) (Blk.far (b := W.heap.size + 1 + 1) (o := 4) (Blk.far (b := W.heap.size + 1 + 1) (o := 3) (Blk.far (b := W.heap.size + 1 + 1) (o := 2) (Blk.far (b := W.heap.size + 1 + 1) (o := 1) (Blk.far (b := W.heap.size + 1 + 1) (o := 0) HP1.out (by omega) (.int .i64 x0)) (by omega) (.int .i64 x1)) (by omega) (.int .i64 x2)) (by omega) (.string x3)) (by omega) (.int .i64 x4)) (by omega) (.int .i64 x5)) (by omega) (.int .i64 x6)) hb
  have hR : Blk w2 (W.heap.size + 1) 70 #[.int .i64 0, .int .i64 0, .int .i64 0, .string ⟨#[]⟩, .int .i64 0, .int .i64 0, .int .i64 0, .int .i64 0, .int .i64 0, .int .i64 0, .int .i64 0, .int .i64 0, .int .i64 0, .slice none 0 0] := Blk.call (Blk.far (b := W.heap.size + 1 + 1) (o := 6) (Blk.far (b := W.heap.size + 1 + 1) (o := 5) (Blk.far (b := W.heap.size + 1 + 1) (o := 4) (Blk.far (b := W.heap.size + 1 + 1) (o := 3) (Blk.far (b := W.heap.size + 1 + 1) (o := 2) (Blk.far (b := W.heap.size + 1 + 1) (o := 1) (Blk.far (b := W.heap.size + 1 + 1) (o := 0) HR1.out (by omega) (.int .i64 x0)) (by omega) (.int .i64 x1)) (by omega) (.int .i64 x2)) (by omega) (.string x3)) (by omega) (.int .i64 x4)) (by omega) (.int .i64 x5)) (by omega) (.int .i64 x6)) hb
  have hO : Blk w2 (W.heap.size + 1 + 1) 70 #[.int .i64 x0, .int .i64 x1, .int .i64 x2, .string x3, .int .i64 x4, .int .i64 x5, .int .i64 x6, .int .i64 0, .int .i64 0, .int .i64 0, .int .i64 0, .int .i64 0, .int .i64 0, .slice none 0 0] := Blk.call (Blk.set (Blk.set (Blk.set (Blk.set (Blk.set (Blk.set (Blk.set HO1.out 0 (.int .i64 x0)) 1 (.int .i64 x1)) 2 (.int .i64 x2)) 3 (.string x3)) 4 (.int .i64 x4)) 5 (.int .i64 x5)) 6 (.int .i64 x6)) hb
  have hz2 : W.heap.size + 3 ≤ w2.heap.size := Nat.le_trans hz1 (size_call hb (S := fun x => x < W.heap.size + 3) ((((((((Off.refl (fun x => x < W.heap.size + 3) w1).setCell (p := ⟨W.heap.size + 1 + 1, 0, none⟩) (by show W.heap.size + 1 + 1 < W.heap.size + 3; omega) (.int .i64 x0)).setCell (p := ⟨W.heap.size + 1 + 1, 1, none⟩) (by show W.heap.size + 1 + 1 < W.heap.size + 3; omega) (.int .i64 x1)).setCell (p := ⟨W.heap.size + 1 + 1, 2, none⟩) (by show W.heap.size + 1 + 1 < W.heap.size + 3; omega) (.int .i64 x2)).setCell (p := ⟨W.heap.size + 1 + 1, 3, none⟩) (by show W.heap.size + 1 + 1 < W.heap.size + 3; omega) (.string x3)).setCell (p := ⟨W.heap.size + 1 + 1, 4, none⟩) (by show W.heap.size + 1 + 1 < W.heap.size + 3; omega) (.int .i64 x4)).setCell (p := ⟨W.heap.size + 1 + 1, 5, none⟩) (by show W.heap.size + 1 + 1 < W.heap.size + 3; omega) (.int .i64 x5)).setCell (p := ⟨W.heap.size + 1 + 1, 6, none⟩) (by show W.heap.size + 1 + 1 < W.heap.size + 3; omega) (.int .i64 x6)))
  have HB2 := Lib.hid (Below.trans (B := W.heap.size) (a := W) (((((((HB1.out.setCell (p := ⟨W.heap.size + 1 + 1, 0, none⟩) (by show W.heap.size ≤ W.heap.size + 1 + 1; omega) (.int .i64 x0)).setCell (p := ⟨W.heap.size + 1 + 1, 1, none⟩) (by show W.heap.size ≤ W.heap.size + 1 + 1; omega) (.int .i64 x1)).setCell (p := ⟨W.heap.size + 1 + 1, 2, none⟩) (by show W.heap.size ≤ W.heap.size + 1 + 1; omega) (.int .i64 x2)).setCell (p := ⟨W.heap.size + 1 + 1, 3, none⟩) (by show W.heap.size ≤ W.heap.size + 1 + 1; omega) (.string x3)).setCell (p := ⟨W.heap.size + 1 + 1, 4, none⟩) (by show W.heap.size ≤ W.heap.size + 1 + 1; omega) (.int .i64 x4)).setCell (p := ⟨W.heap.size + 1 + 1, 5, none⟩) (by show W.heap.size ≤ W.heap.size + 1 + 1; omega) (.int .i64 x5)).setCell (p := ⟨W.heap.size + 1 + 1, 6, none⟩) (by show W.heap.size ≤ W.heap.size + 1 + 1; omega) (.int .i64 x6)) (hb.mono (by have h0 := hz1; first | omega | (simp; omega))))
  have hle2 := size_call hb ((((((((Off.refl (fun x => x < W.heap.size + 3) w1).setCell (p := ⟨W.heap.size + 1 + 1, 0, none⟩) (by show W.heap.size + 1 + 1 < W.heap.size + 3; omega) (.int .i64 x0)).setCell (p := ⟨W.heap.size + 1 + 1, 1, none⟩) (by show W.heap.size + 1 + 1 < W.heap.size + 3; omega) (.int .i64 x1)).setCell (p := ⟨W.heap.size + 1 + 1, 2, none⟩) (by show W.heap.size + 1 + 1 < W.heap.size + 3; omega) (.int .i64 x2)).setCell (p := ⟨W.heap.size + 1 + 1, 3, none⟩) (by show W.heap.size + 1 + 1 < W.heap.size + 3; omega) (.string x3)).setCell (p := ⟨W.heap.size + 1 + 1, 4, none⟩) (by show W.heap.size + 1 + 1 < W.heap.size + 3; omega) (.int .i64 x4)).setCell (p := ⟨W.heap.size + 1 + 1, 5, none⟩) (by show W.heap.size + 1 + 1 < W.heap.size + 3; omega) (.int .i64 x5)).setCell (p := ⟨W.heap.size + 1 + 1, 6, none⟩) (by show W.heap.size + 1 + 1 < W.heap.size + 3; omega) (.int .i64 x6))
  have HP2 := Lib.hid hP
  have HR2 := Lib.hid hR
  have HO2 := Lib.hid hO
  clear h hb hP hR hO how
  clear p1_0 o1_0 r1_0 f1_0 g1_0 p1_1 o1_1 r1_1 f1_1 g1_1 p1_2 o1_2 r1_2 f1_2 g1_2 p1_3 o1_3 r1_3 f1_3 g1_3 p1_4 o1_4 r1_4 f1_4 g1_4 p1_5 o1_5 r1_5 f1_5 g1_5 p1_6 o1_6 r1_6 f1_6 g1_6 p1_7 o1_7 r1_7 f1_7 g1_7 p1_8 o1_8 r1_8 f1_8 g1_8 p1_9 o1_9 r1_9 f1_9 g1_9 p1_10 o1_10 r1_10 f1_10 g1_10 p1_11 o1_11 r1_11 f1_11 g1_11 p1_12 o1_12 r1_12 f1_12 g1_12 p1_13 o1_13 r1_13 f1_13 g1_13
  have p2_0 := HP2.out.at_ 0 rfl
  have o2_0 := HO2.out.at_ 0 rfl
  have r2_0 := HR2.out.at_ 0 rfl
  have f2_0 := HO2.out.soft 0
  have g2_0 := HR2.out.soft 0
  have p2_1 := HP2.out.at_ 1 rfl
  have o2_1 := HO2.out.at_ 1 rfl
  have r2_1 := HR2.out.at_ 1 rfl
  have f2_1 := HO2.out.soft 1
  have g2_1 := HR2.out.soft 1
  have p2_2 := HP2.out.at_ 2 rfl
  have o2_2 := HO2.out.at_ 2 rfl
  have r2_2 := HR2.out.at_ 2 rfl
  have f2_2 := HO2.out.soft 2
  have g2_2 := HR2.out.soft 2
  have p2_3 := HP2.out.at_ 3 rfl
  have o2_3 := HO2.out.at_ 3 rfl
  have r2_3 := HR2.out.at_ 3 rfl
  have f2_3 := HO2.out.soft 3
  have g2_3 := HR2.out.soft 3
  have p2_4 := HP2.out.at_ 4 rfl
  have o2_4 := HO2.out.at_ 4 rfl
  have r2_4 := HR2.out.at_ 4 rfl
  have f2_4 := HO2.out.soft 4
  have g2_4 := HR2.out.soft 4
  have p2_5 := HP2.out.at_ 5 rfl
  have o2_5 := HO2.out.at_ 5 rfl
  have r2_5 := HR2.out.at_ 5 rfl
  have f2_5 := HO2.out.soft 5
  have g2_5 := HR2.out.soft 5
  have p2_6 := HP2.out.at_ 6 rfl
  have o2_6 := HO2.out.at_ 6 rfl
  have r2_6 := HR2.out.at_ 6 rfl
  have f2_6 := HO2.out.soft 6
  have g2_6 := HR2.out.soft 6
  have p2_7 := HP2.out.at_ 7 rfl
  have o2_7 := HO2.out.at_ 7 rfl
  have r2_7 := HR2.out.at_ 7 rfl
  have f2_7 := HO2.out.soft 7
  have g2_7 := HR2.out.soft 7
  have p2_8 := HP2.out.at_ 8 rfl
  have o2_8 := HO2.out.at_ 8 rfl
  have r2_8 := HR2.out.at_ 8 rfl
  have f2_8 := HO2.out.soft 8
  have g2_8 := HR2.out.soft 8
  have p2_9 := HP2.out.at_ 9 rfl
  have o2_9 := HO2.out.at_ 9 rfl
  have r2_9 := HR2.out.at_ 9 rfl
  have f2_9 := HO2.out.soft 9
  have g2_9 := HR2.out.soft 9
  have p2_10 := HP2.out.at_ 10 rfl
  have o2_10 := HO2.out.at_ 10 rfl
  have r2_10 := HR2.out.at_ 10 rfl
  have f2_10 := HO2.out.soft 10
  have g2_10 := HR2.out.soft 10
  have p2_11 := HP2.out.at_ 11 rfl
  have o2_11 := HO2.out.at_ 11 rfl
  have r2_11 := HR2.out.at_ 11 rfl
  have f2_11 := HO2.out.soft 11
  have g2_11 := HR2.out.soft 11
  have p2_12 := HP2.out.at_ 12 rfl
  have o2_12 := HO2.out.at_ 12 rfl
  have r2_12 := HR2.out.at_ 12 rfl
  have f2_12 := HO2.out.soft 12
  have g2_12 := HR2.out.soft 12
  have p2_13 := HP2.out.at_ 13 rfl
  have o2_13 := HO2.out.at_ 13 rfl
  have r2_13 := HR2.out.at_ 13 rfl
  have f2_13 := HO2.out.soft 13
  have g2_13 := HR2.out.soft 13
  go_wp2_with fail
  refine (to_Int64S (by have h0 := HSZ.out; simp only [R_Task, Pr, Sl, I, Bo, St, atom] at h0 ⊢; omega) ((H_L0.out.below I_ok ((((((HB2.out.setCell (p := ⟨W.heap.size + 1 + 1, 7, none⟩) (by show W.heap.size ≤ W.heap.size + 1 + 1; omega) (.int .i64 x7)).setCell (p := ⟨W.heap.size + 1 + 1, 8, none⟩) (by show W.heap.size ≤ W.heap.size + 1 + 1; omega) (.int .i64 x8)).setCell (p := ⟨W.heap.size + 1 + 1, 9, none⟩) (by show W.heap.size ≤ W.heap.size + 1 + 1; omega) (.int .i64 x9)).setCell (p := ⟨W.heap.size + 1 + 1, 10, none⟩) (by show W.heap.size ≤ W.heap.size + 1 + 1; omega) (.int .i64 x10)).setCell (p := ⟨W.heap.size + 1 + 1, 11, none⟩) (by show W.heap.size ≤ W.heap.size + 1 + 1; omega) (.int .i64 x11)).setCell (p := ⟨W.heap.size + 1 + 1, 12, none⟩) (by show W.heap.size ≤ W.heap.size + 1 + 1; omega) (.int .i64 x12))).more I_ok (by have h0 := hz2; first | omega | (simp; omega)))).mono ?_
  intro e w3 h
  obtain ⟨b_L0, d_L0, rfl, how_L0, hb⟩ := newS_elim h
  have hP : Blk w3 (W.heap.size) 110 #[.int .i64 x0, .int .i64 x1, .int .i64 x2, .string x3, .int .i64 x4, .int .i64 x5, .int .i64 x6, .int .i64 x7, .int .i64 x8, .int .i64 x9, .int .i64 x10, .int .i64 x11, .int .i64 x12, .slice a0 L0.length c0] := Blk.call (Blk.far (b := W.heap.size + 1 + 1) (o := 12) (Blk.far (b := W.heap.size + 1 + 1) (o := 11) (Blk.far (b := W.heap.size + 1 + 1) (o := 10) (Blk.far (b := W.heap.size + 1 + 1) (o := 9) (Blk.far (b := W.heap.size + 1 + 1) (o := 8) (Blk.far (b := W.heap.size + 1 + 1) (o := 7) HP2.out (by omega) (.int .i64 x7)) (by omega) (.int .i64 x8)) (by omega) (.int .i64 x9)) (by omega) (.int .i64 x10)) (by omega) (.int .i64 x11)) (by omega) (.int .i64 x12)) hb
  have hR : Blk w3 (W.heap.size + 1) 70 #[.int .i64 0, .int .i64 0, .int .i64 0, .string ⟨#[]⟩, .int .i64 0, .int .i64 0, .int .i64 0, .int .i64 0, .int .i64 0, .int .i64 0, .int .i64 0, .int .i64 0, .int .i64 0, .slice none 0 0] := Blk.call (Blk.far (b := W.heap.size + 1 + 1) (o := 12) (Blk.far (b := W.heap.size + 1 + 1) (o := 11) (Blk.far (b := W.heap.size + 1 + 1) (o := 10) (Blk.far (b := W.heap.size + 1 + 1) (o := 9) (Blk.far (b := W.heap.size + 1 + 1) (o := 8) (Blk.far (b := W.heap.size + 1 + 1) (o := 7) HR2.out (by omega) (.int .i64 x7)) (by omega) (.int .i64 x8)) (by omega) (.int .i64 x9)) (by omega) (.int .i64 x10)) (by omega) (.int .i64 x11)) (by omega) (.int .i64 x12)) hb
  have hO : Blk w3 (W.heap.size + 1 + 1) 70 #[.int .i64 x0, .int .i64 x1, .int .i64 x2, .string x3, .int .i64 x4, .int .i64 x5, .int .i64 x6, .int .i64 x7, .int .i64 x8, .int .i64 x9, .int .i64 x10, .int .i64 x11, .int .i64 x12, .slice none 0 0] := Blk.call (Blk.set (Blk.set (Blk.set (Blk.set (Blk.set (Blk.set HO2.out 7 (.int .i64 x7)) 8 (.int .i64 x8)) 9 (.int .i64 x9)) 10 (.int .i64 x10)) 11 (.int .i64 x11)) 12 (.int .i64 x12)) hb
  have hz3 : W.heap.size + 3 ≤ w3.heap.size := Nat.le_trans hz2 (size_call hb (S := fun x => x < W.heap.size + 3) (((((((Off.refl (fun x => x < W.heap.size + 3) w2).setCell (p := ⟨W.heap.size + 1 + 1, 7, none⟩) (by show W.heap.size + 1 + 1 < W.heap.size + 3; omega) (.int .i64 x7)).setCell (p := ⟨W.heap.size + 1 + 1, 8, none⟩) (by show W.heap.size + 1 + 1 < W.heap.size + 3; omega) (.int .i64 x8)).setCell (p := ⟨W.heap.size + 1 + 1, 9, none⟩) (by show W.heap.size + 1 + 1 < W.heap.size + 3; omega) (.int .i64 x9)).setCell (p := ⟨W.heap.size + 1 + 1, 10, none⟩) (by show W.heap.size + 1 + 1 < W.heap.size + 3; omega) (.int .i64 x10)).setCell (p := ⟨W.heap.size + 1 + 1, 11, none⟩) (by show W.heap.size + 1 + 1 < W.heap.size + 3; omega) (.int .i64 x11)).setCell (p := ⟨W.heap.size + 1 + 1, 12, none⟩) (by show W.heap.size + 1 + 1 < W.heap.size + 3; omega) (.int .i64 x12)))
  have HB3 := Lib.hid (Below.trans (B := W.heap.size) (a := W) ((((((HB2.out.setCell (p := ⟨W.heap.size + 1 + 1, 7, none⟩) (by show W.heap.size ≤ W.heap.size + 1 + 1; omega) (.int .i64 x7)).setCell (p := ⟨W.heap.size + 1 + 1, 8, none⟩) (by show W.heap.size ≤ W.heap.size + 1 + 1; omega) (.int .i64 x8)).setCell (p := ⟨W.heap.size + 1 + 1, 9, none⟩) (by show W.heap.size ≤ W.heap.size + 1 + 1; omega) (.int .i64 x9)).setCell (p := ⟨W.heap.size + 1 + 1, 10, none⟩) (by show W.heap.size ≤ W.heap.size + 1 + 1; omega) (.int .i64 x10)).setCell (p := ⟨W.heap.size + 1 + 1, 11, none⟩) (by show W.heap.size ≤ W.heap.size + 1 + 1; omega) (.int .i64 x11)).setCell (p := ⟨W.heap.size + 1 + 1, 12, none⟩) (by show W.heap.size ≤ W.heap.size + 1 + 1; omega) (.int .i64 x12)) (hb.mono (by have h0 := hz2; first | omega | (simp; omega))))
  have HO_L0 := Lib.hid how_L0
  have HL_L0 := Lib.hid (fun k hk => rg_call hb (m := W.heap.size + 3) (by have h0 := hz2; first | omega | (simp; omega)) k hk)
  have HU_L0 := Lib.hid (rg_call hb (m := 0) (Nat.zero_le _))
  have HG_L0 := Lib.hid (lo_of hb (((((((Off.refl (fun x => x < W.heap.size + 3) w2).setCell (p := ⟨W.heap.size + 1 + 1, 7, none⟩) (by show W.heap.size + 1 + 1 < W.heap.size + 3; omega) (.int .i64 x7)).setCell (p := ⟨W.heap.size + 1 + 1, 8, none⟩) (by show W.heap.size + 1 + 1 < W.heap.size + 3; omega) (.int .i64 x8)).setCell (p := ⟨W.heap.size + 1 + 1, 9, none⟩) (by show W.heap.size + 1 + 1 < W.heap.size + 3; omega) (.int .i64 x9)).setCell (p := ⟨W.heap.size + 1 + 1, 10, none⟩) (by show W.heap.size + 1 + 1 < W.heap.size + 3; omega) (.int .i64 x10)).setCell (p := ⟨W.heap.size + 1 + 1, 11, none⟩) (by show W.heap.size + 1 + 1 < W.heap.size + 3; omega) (.int .i64 x11)).setCell (p := ⟨W.heap.size + 1 + 1, 12, none⟩) (by show W.heap.size + 1 + 1 < W.heap.size + 3; omega) (.int .i64 x12)))
  have hle3 := size_call hb (((((((Off.refl (fun x => x < W.heap.size + 3) w2).setCell (p := ⟨W.heap.size + 1 + 1, 7, none⟩) (by show W.heap.size + 1 + 1 < W.heap.size + 3; omega) (.int .i64 x7)).setCell (p := ⟨W.heap.size + 1 + 1, 8, none⟩) (by show W.heap.size + 1 + 1 < W.heap.size + 3; omega) (.int .i64 x8)).setCell (p := ⟨W.heap.size + 1 + 1, 9, none⟩) (by show W.heap.size + 1 + 1 < W.heap.size + 3; omega) (.int .i64 x9)).setCell (p := ⟨W.heap.size + 1 + 1, 10, none⟩) (by show W.heap.size + 1 + 1 < W.heap.size + 3; omega) (.int .i64 x10)).setCell (p := ⟨W.heap.size + 1 + 1, 11, none⟩) (by show W.heap.size + 1 + 1 < W.heap.size + 3; omega) (.int .i64 x11)).setCell (p := ⟨W.heap.size + 1 + 1, 12, none⟩) (by show W.heap.size + 1 + 1 < W.heap.size + 3; omega) (.int .i64 x12))
  have HP3 := Lib.hid hP
  have HR3 := Lib.hid hR
  have HO3 := Lib.hid hO
  clear h hb hP hR hO how_L0
  clear p2_0 o2_0 r2_0 f2_0 g2_0 p2_1 o2_1 r2_1 f2_1 g2_1 p2_2 o2_2 r2_2 f2_2 g2_2 p2_3 o2_3 r2_3 f2_3 g2_3 p2_4 o2_4 r2_4 f2_4 g2_4 p2_5 o2_5 r2_5 f2_5 g2_5 p2_6 o2_6 r2_6 f2_6 g2_6 p2_7 o2_7 r2_7 f2_7 g2_7 p2_8 o2_8 r2_8 f2_8 g2_8 p2_9 o2_9 r2_9 f2_9 g2_9 p2_10 o2_10 r2_10 f2_10 g2_10 p2_11 o2_11 r2_11 f2_11 g2_11 p2_12 o2_12 r2_12 f2_12 g2_12 p2_13 o2_13 r2_13 f2_13 g2_13
  have p3_0 := HP3.out.at_ 0 rfl
  have o3_0 := HO3.out.at_ 0 rfl
  have r3_0 := HR3.out.at_ 0 rfl
  have f3_0 := HO3.out.soft 0
  have g3_0 := HR3.out.soft 0
  have p3_1 := HP3.out.at_ 1 rfl
  have o3_1 := HO3.out.at_ 1 rfl
  have r3_1 := HR3.out.at_ 1 rfl
  have f3_1 := HO3.out.soft 1
  have g3_1 := HR3.out.soft 1
  have p3_2 := HP3.out.at_ 2 rfl
  have o3_2 := HO3.out.at_ 2 rfl
  have r3_2 := HR3.out.at_ 2 rfl
  have f3_2 := HO3.out.soft 2
  have g3_2 := HR3.out.soft 2
  have p3_3 := HP3.out.at_ 3 rfl
  have o3_3 := HO3.out.at_ 3 rfl
  have r3_3 := HR3.out.at_ 3 rfl
  have f3_3 := HO3.out.soft 3
  have g3_3 := HR3.out.soft 3
  have p3_4 := HP3.out.at_ 4 rfl
  have o3_4 := HO3.out.at_ 4 rfl
  have r3_4 := HR3.out.at_ 4 rfl
  have f3_4 := HO3.out.soft 4
  have g3_4 := HR3.out.soft 4
  have p3_5 := HP3.out.at_ 5 rfl
  have o3_5 := HO3.out.at_ 5 rfl
  have r3_5 := HR3.out.at_ 5 rfl
  have f3_5 := HO3.out.soft 5
  have g3_5 := HR3.out.soft 5
  have p3_6 := HP3.out.at_ 6 rfl
  have o3_6 := HO3.out.at_ 6 rfl
  have r3_6 := HR3.out.at_ 6 rfl
  have f3_6 := HO3.out.soft 6
  have g3_6 := HR3.out.soft 6
  have p3_7 := HP3.out.at_ 7 rfl
  have o3_7 := HO3.out.at_ 7 rfl
  have r3_7 := HR3.out.at_ 7 rfl
  have f3_7 := HO3.out.soft 7
  have g3_7 := HR3.out.soft 7
  have p3_8 := HP3.out.at_ 8 rfl
  have o3_8 := HO3.out.at_ 8 rfl
  have r3_8 := HR3.out.at_ 8 rfl
  have f3_8 := HO3.out.soft 8
  have g3_8 := HR3.out.soft 8
  have p3_9 := HP3.out.at_ 9 rfl
  have o3_9 := HO3.out.at_ 9 rfl
  have r3_9 := HR3.out.at_ 9 rfl
  have f3_9 := HO3.out.soft 9
  have g3_9 := HR3.out.soft 9
  have p3_10 := HP3.out.at_ 10 rfl
  have o3_10 := HO3.out.at_ 10 rfl
  have r3_10 := HR3.out.at_ 10 rfl
  have f3_10 := HO3.out.soft 10
  have g3_10 := HR3.out.soft 10
  have p3_11 := HP3.out.at_ 11 rfl
  have o3_11 := HO3.out.at_ 11 rfl
  have r3_11 := HR3.out.at_ 11 rfl
  have f3_11 := HO3.out.soft 11
  have g3_11 := HR3.out.soft 11
  have p3_12 := HP3.out.at_ 12 rfl
  have o3_12 := HO3.out.at_ 12 rfl
  have r3_12 := HR3.out.at_ 12 rfl
  have f3_12 := HO3.out.soft 12
  have g3_12 := HR3.out.soft 12
  have p3_13 := HP3.out.at_ 13 rfl
  have o3_13 := HO3.out.at_ 13 rfl
  have r3_13 := HR3.out.at_ 13 rfl
  have f3_13 := HO3.out.soft 13
  have g3_13 := HR3.out.soft 13
  go_wp2
  refine bodyPost_ret (v := .agg #[.int .i64 x0, .int .i64 x1, .int .i64 x2, .string x3, .int .i64 x4, .int .i64 x5, .int .i64 x6, .int .i64 x7, .int .i64 x8, .int .i64 x9, .int .i64 x10, .int .i64 x11, .int .i64 x12, .slice b_L0 L0.length d_L0]) (by simp [results, Tryz.results84, go_sem, *]) rfl ⟨[.int .i64 x0, .int .i64 x1, .int .i64 x2, .string x3, .int .i64 x4, .int .i64 x5, .int .i64 x6, .int .i64 x7, .int .i64 x8, .int .i64 x9, .int .i64 x10, .int .i64 x11, .int .i64 x12, .slice b_L0 L0.length d_L0], rfl, ?_, (((((((((((((((HB3.out.setCell (p := ⟨W.heap.size + 1 + 1, 13, none⟩) (by show W.heap.size ≤ W.heap.size + 1 + 1; omega) (.slice b_L0 L0.length d_L0)).setCell (p := ⟨W.heap.size + 1, 0, none⟩) (by show W.heap.size ≤ W.heap.size + 1; omega) (.int .i64 x0)).setCell (p := ⟨W.heap.size + 1, 1, none⟩) (by show W.heap.size ≤ W.heap.size + 1; omega) (.int .i64 x1)).setCell (p := ⟨W.heap.size + 1, 2, none⟩) (by show W.heap.size ≤ W.heap.size + 1; omega) (.int .i64 x2)).setCell (p := ⟨W.heap.size + 1, 3, none⟩) (by show W.heap.size ≤ W.heap.size + 1; omega) (.string x3)).setCell (p := ⟨W.heap.size + 1, 4, none⟩) (by show W.heap.size ≤ W.heap.size + 1; omega) (.int .i64 x4)).setCell (p := ⟨W.heap.size + 1, 5, none⟩) (by show W.heap.size ≤ W.heap.size + 1; omega) (.int .i64 x5)).setCell (p := ⟨W.heap.size + 1, 6, none⟩) (by show W.heap.size ≤ W.heap.size + 1; omega) (.int .i64 x6)).setCell (p := ⟨W.heap.size + 1, 7, none⟩) (by show W.heap.size ≤ W.heap.size + 1; omega) (.int .i64 x7)).setCell (p := ⟨W.heap.size + 1, 8, none⟩) (by show W.heap.size ≤ W.heap.size + 1; omega) (.int .i64 x8)).setCell (p := ⟨W.heap.size + 1, 9, none⟩) (by show W.heap.size ≤ W.heap.size + 1; omega) (.int .i64 x9)).setCell (p := ⟨W.heap.size + 1, 10, none⟩) (by show W.heap.size ≤ W.heap.size + 1; omega) (.int .i64 x10)).setCell (p := ⟨W.heap.size + 1, 11, none⟩) (by show W.heap.size ≤ W.heap.size + 1; omega) (.int .i64 x11)).setCell (p := ⟨W.heap.size + 1, 12, none⟩) (by show W.heap.size ≤ W.heap.size + 1; omega) (.int .i64 x12)).setCell (p := ⟨W.heap.size + 1, 13, none⟩) (by show W.heap.size ≤ W.heap.size + 1; omega) (.slice b_L0 L0.length d_L0))⟩
  have hoff := ((((((((((((((((Off.refl (fun x => x < W.heap.size + 3) w3).setCell (p := ⟨W.heap.size + 1 + 1, 13, none⟩) (by show W.heap.size + 1 + 1 < W.heap.size + 3; omega) (.slice b_L0 L0.length d_L0)).setCell (p := ⟨W.heap.size + 1, 0, none⟩) (by show W.heap.size + 1 < W.heap.size + 3; omega) (.int .i64 x0)).setCell (p := ⟨W.heap.size + 1, 1, none⟩) (by show W.heap.size + 1 < W.heap.size + 3; omega) (.int .i64 x1)).setCell (p := ⟨W.heap.size + 1, 2, none⟩) (by show W.heap.size + 1 < W.heap.size + 3; omega) (.int .i64 x2)).setCell (p := ⟨W.heap.size + 1, 3, none⟩) (by show W.heap.size + 1 < W.heap.size + 3; omega) (.string x3)).setCell (p := ⟨W.heap.size + 1, 4, none⟩) (by show W.heap.size + 1 < W.heap.size + 3; omega) (.int .i64 x4)).setCell (p := ⟨W.heap.size + 1, 5, none⟩) (by show W.heap.size + 1 < W.heap.size + 3; omega) (.int .i64 x5)).setCell (p := ⟨W.heap.size + 1, 6, none⟩) (by show W.heap.size + 1 < W.heap.size + 3; omega) (.int .i64 x6)).setCell (p := ⟨W.heap.size + 1, 7, none⟩) (by show W.heap.size + 1 < W.heap.size + 3; omega) (.int .i64 x7)).setCell (p := ⟨W.heap.size + 1, 8, none⟩) (by show W.heap.size + 1 < W.heap.size + 3; omega) (.int .i64 x8)).setCell (p := ⟨W.heap.size + 1, 9, none⟩) (by show W.heap.size + 1 < W.heap.size + 3; omega) (.int .i64 x9)).setCell (p := ⟨W.heap.size + 1, 10, none⟩) (by show W.heap.size + 1 < W.heap.size + 3; omega) (.int .i64 x10)).setCell (p := ⟨W.heap.size + 1, 11, none⟩) (by show W.heap.size + 1 < W.heap.size + 3; omega) (.int .i64 x11)).setCell (p := ⟨W.heap.size + 1, 12, none⟩) (by show W.heap.size + 1 < W.heap.size + 3; omega) (.int .i64 x12)).setCell (p := ⟨W.heap.size + 1, 13, none⟩) (by show W.heap.size + 1 < W.heap.size + 3; omega) (.slice b_L0 L0.length d_L0))
  have hsz := hoff.size
  exact mkow_Task (fun k hk => ⟨by have := (HL_L0.out k hk).1; omega, by have := (HL_L0.out k hk).2; omega⟩) (HO_L0.out.keep I_ok (fun k hk => hoff.block k (HL_L0.out k hk).2 (by have := (HL_L0.out k hk).1; omega))) b_x3
theorem size_TaskS : (R_Task).size = 14 := rfl
def zs_TaskS (n : Nat) : Array Value := madeCells #[.int .i64 0, .int .i64 0, .int .i64 0, .string ⟨#[]⟩, .int .i64 0, .int .i64 0, .int .i64 0, .int .i64 0, .int .i64 0, .int .i64 0, .int .i64 0, .int .i64 0, .int .i64 0, .slice none 0 0] (n * 14)
theorem zs_TaskS_size (n : Nat) : (zs_TaskS n).size = n * (R_Task).size := by unfold zs_TaskS; simp [madeCells, size_TaskS]
theorem make_TaskS (n : Nat) (hn : n ≤ 1048576) : ∀ W : World, (Instr.makeSlice 40 (.int .i64 (n : Int)) (.int .i64 (n : Int))).run Tryz.prog W = .ok (.slice (some ⟨W.heap.size, 0, none⟩) n n) (W.alloc (.cells (zs_TaskS n) 70)) := by
  intro W
  obtain ⟨i, hi, hz, hs, hb⟩ : ∃ i, Tryz.prog.info? 70 = some i ∧ i.zero = some (.agg #[.int .i64 0, .int .i64 0, .int .i64 0, .string ⟨#[]⟩, .int .i64 0, .int .i64 0, .int .i64 0, .int .i64 0, .int .i64 0, .int .i64 0, .int .i64 0, .int .i64 0, .int .i64 0, .slice none 0 0]) ∧ i.size = 14 ∧ i.bytes = 136 := by
    have h : (Tryz.prog.info? 70).map (fun i => (i.zero, i.size, i.bytes)) = some (some (.agg #[.int .i64 0, .int .i64 0, .int .i64 0, .string ⟨#[]⟩, .int .i64 0, .int .i64 0, .int .i64 0, .int .i64 0, .int .i64 0, .int .i64 0, .int .i64 0, .int .i64 0, .int .i64 0, .slice none 0 0]), 14, 136) := by kernel_rfl
    cases hx : Tryz.prog.info? 70 with
    | none => rw [hx] at h; simp at h
    | some i => rw [hx] at h; simp at h; exact ⟨i, rfl, h.1, h.2.1, h.2.2⟩
  have hr := run_make (P := Tryz.prog) W 40 70 i _ Tryz.underlying40 hi hz .i64 .i64 n n (by omega) (by omega) (by rw [hb]; omega) (by omega)
  rw [hs] at hr
  simp only [Int.toNat_natCast] at hr
  exact hr
set_option maxRecDepth 100000 in
set_option maxHeartbeats 3200000 in
theorem to_TaskS {L : List (D_Task)} {a : Option Addr} {cap : Nat} {W : World} (hsz : ((Sl R_Task)).sz L ≤ 1048576) (h : RdSl R_Task W W.heap.size L a cap) : Calls Tryz.prog 33 #[.slice a L.length cap] W (NewS R_Task L W) := by
  have hn : L.length ≤ 1048576 := Nat.le_trans (Nat.le_add_right _ _) hsz
  have hmk := make_TaskS L.length hn
  have H := Lib.hid h
  have HSZ := Lib.hid hsz
  clear h hsz
  go_enter Tryz.func33, Tryz.ntmps33
  go_wp2
  go_loopw [4] (fun i wr => ∃ k : Nat, k ≤ L.length ∧ i = .int .i64 k ∧ ∃ Sf, Fil R_Task W wr L W.heap.size Sf k) (fun i _ => L.length - (intOf i).toNat)
  case atStart => exact ⟨0, Nat.zero_le _, rfl, _, Fil.new (by exact zs_TaskS_size _)⟩
  case round =>
    obtain ⟨k, hk, rfl, Sf, hF⟩ := hrel
    have HF := Lib.hid hF
    by_cases hlt : k < L.length
    · obtain ⟨⟨⟨x0, x1⟩, x2, x3, x4, x5, x6, ⟨x7, x8⟩, x9, x10, x11, x12, L0⟩, hx⟩ := el_some hlt
      have HX := Lib.hid hx
      obtain ⟨g, o, us, rfl, hg, hu, hr⟩ := (H.out.below R_Task_ok hF.below).at_ hx
      obtain ⟨a0, c0, rfl, k_L0, b_x3⟩ := rd_Task hr
      have e0 : wr.cell? ⟨g, o + k * 14, none⟩ = some (.int .i64 x0) := by simpa [size_TaskS, Nat.add_assoc] using hu 0 _ rfl
      have e1 : wr.cell? ⟨g, o + k * 14 + 1, none⟩ = some (.int .i64 x1) := by simpa [size_TaskS, Nat.add_assoc] using hu 1 _ rfl
      have e2 : wr.cell? ⟨g, o + k * 14 + 2, none⟩ = some (.int .i64 x2) := by simpa [size_TaskS, Nat.add_assoc] using hu 2 _ rfl
      have e3 : wr.cell? ⟨g, o + k * 14 + 3, none⟩ = some (.string x3) := by simpa [size_TaskS, Nat.add_assoc] using hu 3 _ rfl
      have e4 : wr.cell? ⟨g, o + k * 14 + 4, none⟩ = some (.int .i64 x4) := by simpa [size_TaskS, Nat.add_assoc] using hu 4 _ rfl
      have e5 : wr.cell? ⟨g, o + k * 14 + 5, none⟩ = some (.int .i64 x5) := by simpa [size_TaskS, Nat.add_assoc] using hu 5 _ rfl
      have e6 : wr.cell? ⟨g, o + k * 14 + 6, none⟩ = some (.int .i64 x6) := by simpa [size_TaskS, Nat.add_assoc] using hu 6 _ rfl
      have e7 : wr.cell? ⟨g, o + k * 14 + 7, none⟩ = some (.int .i64 x7) := by simpa [size_TaskS, Nat.add_assoc] using hu 7 _ rfl
      have e8 : wr.cell? ⟨g, o + k * 14 + 8, none⟩ = some (.int .i64 x8) := by simpa [size_TaskS, Nat.add_assoc] using hu 8 _ rfl
      have e9 : wr.cell? ⟨g, o + k * 14 + 9, none⟩ = some (.int .i64 x9) := by simpa [size_TaskS, Nat.add_assoc] using hu 9 _ rfl
      have e10 : wr.cell? ⟨g, o + k * 14 + 10, none⟩ = some (.int .i64 x10) := by simpa [size_TaskS, Nat.add_assoc] using hu 10 _ rfl
      have e11 : wr.cell? ⟨g, o + k * 14 + 11, none⟩ = some (.int .i64 x11) := by simpa [size_TaskS, Nat.add_assoc] using hu 11 _ rfl
      have e12 : wr.cell? ⟨g, o + k * 14 + 12, none⟩ = some (.int .i64 x12) := by simpa [size_TaskS, Nat.add_assoc] using hu 12 _ rfl
      have e13 : wr.cell? ⟨g, o + k * 14 + 13, none⟩ = some (.slice a0 L0.length c0) := by simpa [size_TaskS, Nat.add_assoc] using hu 13 _ rfl
      have hi0 : (0 : Int) ≤ (k : Int) := Int.natCast_nonneg _
      have hi1 : (k : Int) < (L.length : Int) := by omega
      have HE := Lib.hid (sz_at (f := (R_Task).sz) HX.out HSZ.out)
      have HK_L0 := Lib.hid (k_L0.more I_ok (Nat.le_of_lt HF.out.lt))
      clear hF hx hu hmk k_L0
      go_wp2_with fail
      refine (to_Task (by exact HE.out) (by exact HK_L0.out) b_x3).mono ?_
      intro e w1 h
      obtain ⟨vs, rfl, how, hb⟩ := newV_elim h
      have HOW := Lib.hid how
      obtain ⟨b0, d0, T0, rfl, _⟩ := ow_Task how
      have HP := Lib.hid (HF.out.put R_Task_ok HX.out hb HOW.out)
      have hlt1 := HF.out.lt
      obtain ⟨t0, ht0⟩ := HF.out.there (k * 14) (by rw [size_TaskS]; omega)
      have q0 := (hb.cell (p := ⟨W.heap.size, k * 14, none⟩) hlt1).trans ht0
      have s0 := (hb.frozen (p := ⟨W.heap.size, k * 14, none⟩) hlt1).trans (HF.out.soft (k * 14))
      obtain ⟨t1, ht1⟩ := HF.out.there (k * 14 + 1) (by rw [size_TaskS]; omega)
      have q1 := (hb.cell (p := ⟨W.heap.size, k * 14 + 1, none⟩) hlt1).trans ht1
      have s1 := (hb.frozen (p := ⟨W.heap.size, k * 14 + 1, none⟩) hlt1).trans (HF.out.soft (k * 14 + 1))
      obtain ⟨t2, ht2⟩ := HF.out.there (k * 14 + 2) (by rw [size_TaskS]; omega)
      have q2 := (hb.cell (p := ⟨W.heap.size, k * 14 + 2, none⟩) hlt1).trans ht2
      have s2 := (hb.frozen (p := ⟨W.heap.size, k * 14 + 2, none⟩) hlt1).trans (HF.out.soft (k * 14 + 2))
      obtain ⟨t3, ht3⟩ := HF.out.there (k * 14 + 3) (by rw [size_TaskS]; omega)
      have q3 := (hb.cell (p := ⟨W.heap.size, k * 14 + 3, none⟩) hlt1).trans ht3
      have s3 := (hb.frozen (p := ⟨W.heap.size, k * 14 + 3, none⟩) hlt1).trans (HF.out.soft (k * 14 + 3))
      obtain ⟨t4, ht4⟩ := HF.out.there (k * 14 + 4) (by rw [size_TaskS]; omega)
      have q4 := (hb.cell (p := ⟨W.heap.size, k * 14 + 4, none⟩) hlt1).trans ht4
      have s4 := (hb.frozen (p := ⟨W.heap.size, k * 14 + 4, none⟩) hlt1).trans (HF.out.soft (k * 14 + 4))
      obtain ⟨t5, ht5⟩ := HF.out.there (k * 14 + 5) (by rw [size_TaskS]; omega)
      have q5 := (hb.cell (p := ⟨W.heap.size, k * 14 + 5, none⟩) hlt1).trans ht5
      have s5 := (hb.frozen (p := ⟨W.heap.size, k * 14 + 5, none⟩) hlt1).trans (HF.out.soft (k * 14 + 5))
      obtain ⟨t6, ht6⟩ := HF.out.there (k * 14 + 6) (by rw [size_TaskS]; omega)
      have q6 := (hb.cell (p := ⟨W.heap.size, k * 14 + 6, none⟩) hlt1).trans ht6
      have s6 := (hb.frozen (p := ⟨W.heap.size, k * 14 + 6, none⟩) hlt1).trans (HF.out.soft (k * 14 + 6))
      obtain ⟨t7, ht7⟩ := HF.out.there (k * 14 + 7) (by rw [size_TaskS]; omega)
      have q7 := (hb.cell (p := ⟨W.heap.size, k * 14 + 7, none⟩) hlt1).trans ht7
      have s7 := (hb.frozen (p := ⟨W.heap.size, k * 14 + 7, none⟩) hlt1).trans (HF.out.soft (k * 14 + 7))
      obtain ⟨t8, ht8⟩ := HF.out.there (k * 14 + 8) (by rw [size_TaskS]; omega)
      have q8 := (hb.cell (p := ⟨W.heap.size, k * 14 + 8, none⟩) hlt1).trans ht8
      have s8 := (hb.frozen (p := ⟨W.heap.size, k * 14 + 8, none⟩) hlt1).trans (HF.out.soft (k * 14 + 8))
      obtain ⟨t9, ht9⟩ := HF.out.there (k * 14 + 9) (by rw [size_TaskS]; omega)
      have q9 := (hb.cell (p := ⟨W.heap.size, k * 14 + 9, none⟩) hlt1).trans ht9
      have s9 := (hb.frozen (p := ⟨W.heap.size, k * 14 + 9, none⟩) hlt1).trans (HF.out.soft (k * 14 + 9))
      obtain ⟨t10, ht10⟩ := HF.out.there (k * 14 + 10) (by rw [size_TaskS]; omega)
      have q10 := (hb.cell (p := ⟨W.heap.size, k * 14 + 10, none⟩) hlt1).trans ht10
      have s10 := (hb.frozen (p := ⟨W.heap.size, k * 14 + 10, none⟩) hlt1).trans (HF.out.soft (k * 14 + 10))
      obtain ⟨t11, ht11⟩ := HF.out.there (k * 14 + 11) (by rw [size_TaskS]; omega)
      have q11 := (hb.cell (p := ⟨W.heap.size, k * 14 + 11, none⟩) hlt1).trans ht11
      have s11 := (hb.frozen (p := ⟨W.heap.size, k * 14 + 11, none⟩) hlt1).trans (HF.out.soft (k * 14 + 11))
      obtain ⟨t12, ht12⟩ := HF.out.there (k * 14 + 12) (by rw [size_TaskS]; omega)
      have q12 := (hb.cell (p := ⟨W.heap.size, k * 14 + 12, none⟩) hlt1).trans ht12
      have s12 := (hb.frozen (p := ⟨W.heap.size, k * 14 + 12, none⟩) hlt1).trans (HF.out.soft (k * 14 + 12))
      obtain ⟨t13, ht13⟩ := HF.out.there (k * 14 + 13) (by rw [size_TaskS]; omega)
      have q13 := (hb.cell (p := ⟨W.heap.size, k * 14 + 13, none⟩) hlt1).trans ht13
      have s13 := (hb.frozen (p := ⟨W.heap.size, k * 14 + 13, none⟩) hlt1).trans (HF.out.soft (k * 14 + 13))
      clear h how hb ht0 ht1 ht2 ht3 ht4 ht5 ht6 ht7 ht8 ht9 ht10 ht11 ht12 ht13 e0 e1 e2 e3 e4 e5 e6 e7 e8 e9 e10 e11 e12 e13
      go_wp2
      go_roundw
      case rel => exact ⟨k + 1, by omega, by go_num, _, by simpa [putCells, size_TaskS, Nat.add_assoc] using HP.out⟩
      case measure => simp [intOf]; omega
    · obtain rfl : k = L.length := by omega
      have HR := Lib.hid (HF.out.news (by unfold maxLen; omega))
      clear hF hmk
      go_wp2
      go_ret
      exact HR.out
set_option maxRecDepth 100000 in
set_option maxHeartbeats 3200000 in
theorem eq_Task {x0 : Int} {x1 : Int} {x2 : Int} {x3 : ByteArray} {x4 : Int} {x5 : Int} {x6 : Int} {x7 : Int} {x8 : Int} {x9 : Int} {x10 : Int} {x11 : Int} {x12 : Int} {L0 : List (Int)} {a0 : Option Addr} {c0 : Nat} {a0' : Option Addr} {c0' : Nat} {W : World} (h_L0 : RdSl I W W.heap.size L0 a0 c0) (h'_L0 : RdSl I W W.heap.size L0 a0' c0') : Calls Tryz.prog 108 #[.agg #[.int .i64 x0, .int .i64 x1, .int .i64 x2, .string x3, .int .i64 x4, .int .i64 x5, .int .i64 x6, .int .i64 x7, .int .i64 x8, .int .i64 x9, .int .i64 x10, .int .i64 x11, .int .i64 x12, .slice a0 L0.length c0], .agg #[.int .i64 x0, .int .i64 x1, .int .i64 x2, .string x3, .int .i64 x4, .int .i64 x5, .int .i64 x6, .int .i64 x7, .int .i64 x8, .int .i64 x9, .int .i64 x10, .int .i64 x11, .int .i64 x12, .slice a0' L0.length c0']] W (IsB true W) := by
  have H_L0 := Lib.hid h_L0
  have H'_L0 := Lib.hid h'_L0
  clear h_L0 h'_L0
  have HB0 := Lib.hid (show Below W.heap.size W ((W.alloc (.cells #[.int .i64 x0, .int .i64 x1, .int .i64 x2, .string x3, .int .i64 x4, .int .i64 x5, .int .i64 x6, .int .i64 x7, .int .i64 x8, .int .i64 x9, .int .i64 x10, .int .i64 x11, .int .i64 x12, .slice a0 L0.length c0] 70)).alloc (.cells #[.int .i64 x0, .int .i64 x1, .int .i64 x2, .string x3, .int .i64 x4, .int .i64 x5, .int .i64 x6, .int .i64 x7, .int .i64 x8, .int .i64 x9, .int .i64 x10, .int .i64 x11, .int .i64 x12, .slice a0' L0.length c0'] 70)) from ((Below.refl _ _).alloc (Nat.le_refl _) _).alloc (by simp) _)
  have hP := (Blk.new W 70 #[.int .i64 x0, .int .i64 x1, .int .i64 x2, .string x3, .int .i64 x4, .int .i64 x5, .int .i64 x6, .int .i64 x7, .int .i64 x8, .int .i64 x9, .int .i64 x10, .int .i64 x11, .int .i64 x12, .slice a0 L0.length c0]).alloc (.cells #[.int .i64 x0, .int .i64 x1, .int .i64 x2, .string x3, .int .i64 x4, .int .i64 x5, .int .i64 x6, .int .i64 x7, .int .i64 x8, .int .i64 x9, .int .i64 x10, .int .i64 x11, .int .i64 x12, .slice a0' L0.length c0'] 70)
  have hQ := Blk.new (W.alloc (.cells #[.int .i64 x0, .int .i64 x1, .int .i64 x2, .string x3, .int .i64 x4, .int .i64 x5, .int .i64 x6, .int .i64 x7, .int .i64 x8, .int .i64 x9, .int .i64 x10, .int .i64 x11, .int .i64 x12, .slice a0 L0.length c0] 70)) 70 #[.int .i64 x0, .int .i64 x1, .int .i64 x2, .string x3, .int .i64 x4, .int .i64 x5, .int .i64 x6, .int .i64 x7, .int .i64 x8, .int .i64 x9, .int .i64 x10, .int .i64 x11, .int .i64 x12, .slice a0' L0.length c0']
  simp only [World.size_alloc] at hP hQ
  have HP0 := Lib.hid hP
  have HQ0 := Lib.hid hQ
  have hz0 : W.heap.size ≤ ((W.alloc (.cells #[.int .i64 x0, .int .i64 x1, .int .i64 x2, .string x3, .int .i64 x4, .int .i64 x5, .int .i64 x6, .int .i64 x7, .int .i64 x8, .int .i64 x9, .int .i64 x10, .int .i64 x11, .int .i64 x12, .slice a0 L0.length c0] 70)).alloc (.cells #[.int .i64 x0, .int .i64 x1, .int .i64 x2, .string x3, .int .i64 x4, .int .i64 x5, .int .i64 x6, .int .i64 x7, .int .i64 x8, .int .i64 x9, .int .i64 x10, .int .i64 x11, .int .i64 x12, .slice a0' L0.length c0'] 70)).heap.size := HB0.out.size
  clear hP hQ
  go_enter Tryz.func108, Tryz.ntmps108
  go_wp2_with fail
  refine (eq_Label).mono ?_
  intro e w1 h
  obtain ⟨rfl, hb⟩ := isB_elim h
  have HP1 := Lib.hid (HP0.out.call hb)
  have HQ1 := Lib.hid (HQ0.out.call hb)
  have HB1 := Lib.hid (HB0.out.trans (hb.mono hz0))
  have hz1 : W.heap.size ≤ w1.heap.size := HB1.out.size
  clear h hb
  have p1_2 := HP1.out.at_ 2 rfl
  have q1_2 := HQ1.out.at_ 2 rfl
  have p1_3 := HP1.out.at_ 3 rfl
  have q1_3 := HQ1.out.at_ 3 rfl
  have p1_4 := HP1.out.at_ 4 rfl
  have q1_4 := HQ1.out.at_ 4 rfl
  have p1_5 := HP1.out.at_ 5 rfl
  have q1_5 := HQ1.out.at_ 5 rfl
  have p1_6 := HP1.out.at_ 6 rfl
  have q1_6 := HQ1.out.at_ 6 rfl
  have p1_7 := HP1.out.at_ 7 rfl
  have q1_7 := HQ1.out.at_ 7 rfl
  have p1_8 := HP1.out.at_ 8 rfl
  have q1_8 := HQ1.out.at_ 8 rfl
  have p1_9 := HP1.out.at_ 9 rfl
  have q1_9 := HQ1.out.at_ 9 rfl
  have p1_10 := HP1.out.at_ 10 rfl
  have q1_10 := HQ1.out.at_ 10 rfl
  have p1_11 := HP1.out.at_ 11 rfl
  have q1_11 := HQ1.out.at_ 11 rfl
  have p1_12 := HP1.out.at_ 12 rfl
  have q1_12 := HQ1.out.at_ 12 rfl
  have p1_13 := HP1.out.at_ 13 rfl
  have q1_13 := HQ1.out.at_ 13 rfl
  go_wp2_with fail
  refine (eq_Label).mono ?_
  intro e w2 h
  obtain ⟨rfl, hb⟩ := isB_elim h
  have HP2 := Lib.hid (HP1.out.call hb)
  have HQ2 := Lib.hid (HQ1.out.call hb)
  have HB2 := Lib.hid (HB1.out.trans (hb.mono hz1))
  have hz2 : W.heap.size ≤ w2.heap.size := HB2.out.size
  clear h hb
  clear p1_2 q1_2 p1_3 q1_3 p1_4 q1_4 p1_5 q1_5 p1_6 q1_6 p1_7 q1_7 p1_8 q1_8 p1_9 q1_9 p1_10 q1_10 p1_11 q1_11 p1_12 q1_12 p1_13 q1_13
  have p2_9 := HP2.out.at_ 9 rfl
  have q2_9 := HQ2.out.at_ 9 rfl
  have p2_10 := HP2.out.at_ 10 rfl
  have q2_10 := HQ2.out.at_ 10 rfl
  have p2_11 := HP2.out.at_ 11 rfl
  have q2_11 := HQ2.out.at_ 11 rfl
  have p2_12 := HP2.out.at_ 12 rfl
  have q2_12 := HQ2.out.at_ 12 rfl
  have p2_13 := HP2.out.at_ 13 rfl
  have q2_13 := HQ2.out.at_ 13 rfl
  go_wp2_with fail
  refine (eq_Int64S ((H_L0.out.below I_ok HB2.out).more I_ok hz2) ((H'_L0.out.below I_ok HB2.out).more I_ok hz2)).mono ?_
  intro e w3 h
  obtain ⟨rfl, hb⟩ := isB_elim h
  have HP3 := Lib.hid (HP2.out.call hb)
  have HQ3 := Lib.hid (HQ2.out.call hb)
  have HB3 := Lib.hid (HB2.out.trans (hb.mono hz2))
  have hz3 : W.heap.size ≤ w3.heap.size := HB3.out.size
  clear h hb
  clear p2_9 q2_9 p2_10 q2_10 p2_11 q2_11 p2_12 q2_12 p2_13 q2_13
  go_wp2
  all_goals
    go_ret
    exact ⟨rfl, HB3.out⟩
theorem sizeq_TaskS : (R_Task).size = 14 := rfl
set_option maxRecDepth 100000 in
set_option maxHeartbeats 3200000 in
theorem eq_TaskS {L : List (D_Task)} {a a' : Option Addr} {cap cap' : Nat} {W : World} (h : RdSl R_Task W W.heap.size L a cap) (h' : RdSl R_Task W W.heap.size L a' cap') : Calls Tryz.prog 43 #[.slice a L.length cap, .slice a' L.length cap'] W (IsB true W) := by
  have hn : L.length ≤ 9223372036854775807 := by have h1 := h.1; have h2 := h.2.1; unfold maxLen at h2; omega
  have H := Lib.hid h
  have H' := Lib.hid h'
  clear h h'
  go_enter Tryz.func43, Tryz.ntmps43
  go_wp2
  go_loopw [5] (fun i wr => ∃ k : Nat, k ≤ L.length ∧ i = .int .i64 k ∧ Below W.heap.size W wr) (fun i _ => L.length - (intOf i).toNat)
  case atStart => exact ⟨0, Nat.zero_le _, rfl, Below.refl _ _⟩
  case round =>
    obtain ⟨k, hk, rfl, hB⟩ := hrel
    have HB := Lib.hid hB
    have hsz := hB.size
    by_cases hlt : k < L.length
    · obtain ⟨⟨⟨x0, x1⟩, x2, x3, x4, x5, x6, ⟨x7, x8⟩, x9, x10, x11, x12, L0⟩, hx⟩ := el_some hlt
      have HX := Lib.hid hx
      obtain ⟨g, o, us, rfl, hg, hu, hr⟩ := (H.out.below R_Task_ok hB).at_ hx
      obtain ⟨g', o', vs, rfl, hg', hu', hr'⟩ := (H'.out.below R_Task_ok hB).at_ hx
      obtain ⟨a0, c0, rfl, k_L0, b_x3⟩ := rd_Task hr
      obtain ⟨a0', c0', rfl, k'_L0, b'_x3⟩ := rd_Task hr'
      have e0 : wr.cell? ⟨g, o + k * 14, none⟩ = some (.int .i64 x0) := by simpa [sizeq_TaskS, Nat.add_assoc] using hu 0 _ rfl
      have d0 : wr.cell? ⟨g', o' + k * 14, none⟩ = some (.int .i64 x0) := by simpa [sizeq_TaskS, Nat.add_assoc] using hu' 0 _ rfl
      have e1 : wr.cell? ⟨g, o + k * 14 + 1, none⟩ = some (.int .i64 x1) := by simpa [sizeq_TaskS, Nat.add_assoc] using hu 1 _ rfl
      have d1 : wr.cell? ⟨g', o' + k * 14 + 1, none⟩ = some (.int .i64 x1) := by simpa [sizeq_TaskS, Nat.add_assoc] using hu' 1 _ rfl
      have e2 : wr.cell? ⟨g, o + k * 14 + 2, none⟩ = some (.int .i64 x2) := by simpa [sizeq_TaskS, Nat.add_assoc] using hu 2 _ rfl
      have d2 : wr.cell? ⟨g', o' + k * 14 + 2, none⟩ = some (.int .i64 x2) := by simpa [sizeq_TaskS, Nat.add_assoc] using hu' 2 _ rfl
      have e3 : wr.cell? ⟨g, o + k * 14 + 3, none⟩ = some (.string x3) := by simpa [sizeq_TaskS, Nat.add_assoc] using hu 3 _ rfl
      have d3 : wr.cell? ⟨g', o' + k * 14 + 3, none⟩ = some (.string x3) := by simpa [sizeq_TaskS, Nat.add_assoc] using hu' 3 _ rfl
      have e4 : wr.cell? ⟨g, o + k * 14 + 4, none⟩ = some (.int .i64 x4) := by simpa [sizeq_TaskS, Nat.add_assoc] using hu 4 _ rfl
      have d4 : wr.cell? ⟨g', o' + k * 14 + 4, none⟩ = some (.int .i64 x4) := by simpa [sizeq_TaskS, Nat.add_assoc] using hu' 4 _ rfl
      have e5 : wr.cell? ⟨g, o + k * 14 + 5, none⟩ = some (.int .i64 x5) := by simpa [sizeq_TaskS, Nat.add_assoc] using hu 5 _ rfl
      have d5 : wr.cell? ⟨g', o' + k * 14 + 5, none⟩ = some (.int .i64 x5) := by simpa [sizeq_TaskS, Nat.add_assoc] using hu' 5 _ rfl
      have e6 : wr.cell? ⟨g, o + k * 14 + 6, none⟩ = some (.int .i64 x6) := by simpa [sizeq_TaskS, Nat.add_assoc] using hu 6 _ rfl
      have d6 : wr.cell? ⟨g', o' + k * 14 + 6, none⟩ = some (.int .i64 x6) := by simpa [sizeq_TaskS, Nat.add_assoc] using hu' 6 _ rfl
      have e7 : wr.cell? ⟨g, o + k * 14 + 7, none⟩ = some (.int .i64 x7) := by simpa [sizeq_TaskS, Nat.add_assoc] using hu 7 _ rfl
      have d7 : wr.cell? ⟨g', o' + k * 14 + 7, none⟩ = some (.int .i64 x7) := by simpa [sizeq_TaskS, Nat.add_assoc] using hu' 7 _ rfl
      have e8 : wr.cell? ⟨g, o + k * 14 + 8, none⟩ = some (.int .i64 x8) := by simpa [sizeq_TaskS, Nat.add_assoc] using hu 8 _ rfl
      have d8 : wr.cell? ⟨g', o' + k * 14 + 8, none⟩ = some (.int .i64 x8) := by simpa [sizeq_TaskS, Nat.add_assoc] using hu' 8 _ rfl
      have e9 : wr.cell? ⟨g, o + k * 14 + 9, none⟩ = some (.int .i64 x9) := by simpa [sizeq_TaskS, Nat.add_assoc] using hu 9 _ rfl
      have d9 : wr.cell? ⟨g', o' + k * 14 + 9, none⟩ = some (.int .i64 x9) := by simpa [sizeq_TaskS, Nat.add_assoc] using hu' 9 _ rfl
      have e10 : wr.cell? ⟨g, o + k * 14 + 10, none⟩ = some (.int .i64 x10) := by simpa [sizeq_TaskS, Nat.add_assoc] using hu 10 _ rfl
      have d10 : wr.cell? ⟨g', o' + k * 14 + 10, none⟩ = some (.int .i64 x10) := by simpa [sizeq_TaskS, Nat.add_assoc] using hu' 10 _ rfl
      have e11 : wr.cell? ⟨g, o + k * 14 + 11, none⟩ = some (.int .i64 x11) := by simpa [sizeq_TaskS, Nat.add_assoc] using hu 11 _ rfl
      have d11 : wr.cell? ⟨g', o' + k * 14 + 11, none⟩ = some (.int .i64 x11) := by simpa [sizeq_TaskS, Nat.add_assoc] using hu' 11 _ rfl
      have e12 : wr.cell? ⟨g, o + k * 14 + 12, none⟩ = some (.int .i64 x12) := by simpa [sizeq_TaskS, Nat.add_assoc] using hu 12 _ rfl
      have d12 : wr.cell? ⟨g', o' + k * 14 + 12, none⟩ = some (.int .i64 x12) := by simpa [sizeq_TaskS, Nat.add_assoc] using hu' 12 _ rfl
      have e13 : wr.cell? ⟨g, o + k * 14 + 13, none⟩ = some (.slice a0 L0.length c0) := by simpa [sizeq_TaskS, Nat.add_assoc] using hu 13 _ rfl
      have d13 : wr.cell? ⟨g', o' + k * 14 + 13, none⟩ = some (.slice a0' L0.length c0') := by simpa [sizeq_TaskS, Nat.add_assoc] using hu' 13 _ rfl
      have hi0 : (0 : Int) ≤ (k : Int) := Int.natCast_nonneg _
      have hi1 : (k : Int) < (L.length : Int) := by omega
      have hgl : g < wr.heap.size := Nat.lt_of_lt_of_le hg hsz
      have hgl' : g' < wr.heap.size := Nat.lt_of_lt_of_le hg' hsz
      have K_L0 := Lib.hid (k_L0.more I_ok hsz)
      have K'_L0 := Lib.hid (k'_L0.more I_ok hsz)
      clear hB hx hu hu' k_L0 k'_L0
      go_wp2_with fail
      refine wp_region_held_drew (S := (fun W => W.cell? ⟨g, o + k * 14, none⟩ = some (.int .i64 x0) ∧ W.cell? ⟨g, o + k * 14 + 1, none⟩ = some (.int .i64 x1) ∧ W.cell? ⟨g, o + k * 14 + 2, none⟩ = some (.int .i64 x2) ∧ W.cell? ⟨g, o + k * 14 + 3, none⟩ = some (.string x3) ∧ W.cell? ⟨g, o + k * 14 + 4, none⟩ = some (.int .i64 x4) ∧ W.cell? ⟨g, o + k * 14 + 5, none⟩ = some (.int .i64 x5) ∧ W.cell? ⟨g, o + k * 14 + 6, none⟩ = some (.int .i64 x6) ∧ W.cell? ⟨g, o + k * 14 + 7, none⟩ = some (.int .i64 x7) ∧ W.cell? ⟨g, o + k * 14 + 8, none⟩ = some (.int .i64 x8) ∧ W.cell? ⟨g, o + k * 14 + 9, none⟩ = some (.int .i64 x9) ∧ W.cell? ⟨g, o + k * 14 + 10, none⟩ = some (.int .i64 x10) ∧ W.cell? ⟨g, o + k * 14 + 11, none⟩ = some (.int .i64 x11) ∧ W.cell? ⟨g, o + k * 14 + 12, none⟩ = some (.int .i64 x12) ∧ W.cell? ⟨g, o + k * 14 + 13, none⟩ = some (.slice a0 L0.length c0) ∧ W.cell? ⟨g', o' + k * 14, none⟩ = some (.int .i64 x0) ∧ W.cell? ⟨g', o' + k * 14 + 1, none⟩ = some (.int .i64 x1) ∧ W.cell? ⟨g', o' + k * 14 + 2, none⟩ = some (.int .i64 x2) ∧ W.cell? ⟨g', o' + k * 14 + 3, none⟩ = some (.string x3) ∧ W.cell? ⟨g', o' + k * 14 + 4, none⟩ = some (.int .i64 x4) ∧ W.cell? ⟨g', o' + k * 14 + 5, none⟩ = some (.int .i64 x5) ∧ W.cell? ⟨g', o' + k * 14 + 6, none⟩ = some (.int .i64 x6) ∧ W.cell? ⟨g', o' + k * 14 + 7, none⟩ = some (.int .i64 x7) ∧ W.cell? ⟨g', o' + k * 14 + 8, none⟩ = some (.int .i64 x8) ∧ W.cell? ⟨g', o' + k * 14 + 9, none⟩ = some (.int .i64 x9) ∧ W.cell? ⟨g', o' + k * 14 + 10, none⟩ = some (.int .i64 x10) ∧ W.cell? ⟨g', o' + k * 14 + 11, none⟩ = some (.int .i64 x11) ∧ W.cell? ⟨g', o' + k * 14 + 12, none⟩ = some (.int .i64 x12) ∧ W.cell? ⟨g', o' + k * 14 + 13, none⟩ = some (.slice a0' L0.length c0') ∧ wr.heap.size ≤ W.heap.size ∧ Below wr.heap.size wr W)) (by kernel_rfl) (⟨e0, e1, e2, e3, e4, e5, e6, e7, e8, e9, e10, e11, e12, e13, d0, d1, d2, d3, d4, d5, d6, d7, d8, d9, d10, d11, d12, d13, Nat.le_refl _, (Below.refl _ _).drew⟩) (fun hHeld => ?_)
      refine wpAnyH_take (i := 0) (v := ?hv1) rfl (by kernel_rfl) (by kernel_rfl) (by kernel_rfl) (fun _ _ _ h => h) (Or.inl ⟨by kernel_rfl, ?hy1⟩) hHeld ?hr1
      case hy1 => (intro w hSw; (try dsimp only at hSw); go_simp; try with_reducible rfl)
      refine wpAnyH_take (i := 1) (v := ?hv2) rfl (by kernel_rfl) (by kernel_rfl) (by kernel_rfl) (fun _ _ _ h => h) (Or.inl ⟨by kernel_rfl, ?hy2⟩) hHeld ?hr2
      case hy2 => (intro w hSw; (try dsimp only at hSw); go_simp; try with_reducible rfl)
      refine wpAnyH_take (i := 2) (v := ?hv3) rfl (by kernel_rfl) (by kernel_rfl) (by kernel_rfl) (fun _ _ _ h => h) (Or.inl ⟨by kernel_rfl, ?hy3⟩) hHeld ?hr3
      case hy3 => (intro w hSw; (try dsimp only at hSw); go_simp; try with_reducible rfl)
      refine wpAnyH_take (i := 3) (v := ?hv4) rfl (by kernel_rfl) (by kernel_rfl) (by kernel_rfl) (fun _ _ _ h => h) (Or.inl ⟨by kernel_rfl, ?hy4⟩) hHeld ?hr4
      case hy4 => (intro w hSw; (try dsimp only at hSw); go_simp; try with_reducible rfl)
      refine wpAnyH_take (i := 4) (v := ?hv5) rfl (by kernel_rfl) (by kernel_rfl) (by kernel_rfl) (fun _ _ _ h => h) (Or.inl ⟨by kernel_rfl, ?hy5⟩) hHeld ?hr5
      case hy5 => (intro w hSw; (try dsimp only at hSw); go_simp; try with_reducible rfl)
      refine wpAnyH_take (i := 5) (v := ?hv6) rfl (by kernel_rfl) (by kernel_rfl) (by kernel_rfl) (fun _ _ _ h => h) (Or.inl ⟨by kernel_rfl, ?hy6⟩) hHeld ?hr6
      case hy6 => (intro w hSw; (try dsimp only at hSw); go_simp; try with_reducible rfl)
      refine wpAnyH_take (i := 6) (v := ?hv7) rfl (by kernel_rfl) (by kernel_rfl) (by kernel_rfl) (fun _ _ _ h => h) (Or.inl ⟨by kernel_rfl, ?hy7⟩) hHeld ?hr7
      case hy7 => (intro w hSw; (try dsimp only at hSw); go_simp; try with_reducible rfl)
      refine wpAnyH_take (i := 7) (v := ?hv8) rfl (by kernel_rfl) (by kernel_rfl) (by kernel_rfl) (fun _ _ _ h => h) (Or.inl ⟨by kernel_rfl, ?hy8⟩) hHeld ?hr8
      case hy8 => (intro w hSw; (try dsimp only at hSw); go_simp; try with_reducible rfl)
      refine rd1 8 (fun K hK => ?_)
      go_simp
      refine (eq_Task ((K_L0.out.below I_ok (by exact hHeld.2.2.2.2.2.2.2.2.2.2.2.2.2.2.2.2.2.2.2.2.2.2.2.2.2.2.2.2.2)).more I_ok (by exact hHeld.2.2.2.2.2.2.2.2.2.2.2.2.2.2.2.2.2.2.2.2.2.2.2.2.2.2.2.2.1)) ((K'_L0.out.below I_ok (by exact hHeld.2.2.2.2.2.2.2.2.2.2.2.2.2.2.2.2.2.2.2.2.2.2.2.2.2.2.2.2.2)).more I_ok (by exact hHeld.2.2.2.2.2.2.2.2.2.2.2.2.2.2.2.2.2.2.2.2.2.2.2.2.2.2.2.2.1))).mono ?_
      intro e w1 h
      obtain ⟨rfl, hb⟩ := isB_elim h
      refine hK.out _ _ (⟨(hb.cell (p := ⟨g, o + k * 14, none⟩) (Nat.lt_of_lt_of_le hgl hHeld.2.2.2.2.2.2.2.2.2.2.2.2.2.2.2.2.2.2.2.2.2.2.2.2.2.2.2.2.1)).trans hHeld.1, (hb.cell (p := ⟨g, o + k * 14 + 1, none⟩) (Nat.lt_of_lt_of_le hgl hHeld.2.2.2.2.2.2.2.2.2.2.2.2.2.2.2.2.2.2.2.2.2.2.2.2.2.2.2.2.1)).trans hHeld.2.1, (hb.cell (p := ⟨g, o + k * 14 + 2, none⟩) (Nat.lt_of_lt_of_le hgl hHeld.2.2.2.2.2.2.2.2.2.2.2.2.2.2.2.2.2.2.2.2.2.2.2.2.2.2.2.2.1)).trans hHeld.2.2.1, (hb.cell (p := ⟨g, o + k * 14 + 3, none⟩) (Nat.lt_of_lt_of_le hgl hHeld.2.2.2.2.2.2.2.2.2.2.2.2.2.2.2.2.2.2.2.2.2.2.2.2.2.2.2.2.1)).trans hHeld.2.2.2.1, (hb.cell (p := ⟨g, o + k * 14 + 4, none⟩) (Nat.lt_of_lt_of_le hgl hHeld.2.2.2.2.2.2.2.2.2.2.2.2.2.2.2.2.2.2.2.2.2.2.2.2.2.2.2.2.1)).trans hHeld.2.2.2.2.1, (hb.cell (p := ⟨g, o + k * 14 + 5, none⟩) (Nat.lt_of_lt_of_le hgl hHeld.2.2.2.2.2.2.2.2.2.2.2.2.2.2.2.2.2.2.2.2.2.2.2.2.2.2.2.2.1)).trans hHeld.2.2.2.2.2.1, (hb.cell (p := ⟨g, o + k * 14 + 6, none⟩) (Nat.lt_of_lt_of_le hgl hHeld.2.2.2.2.2.2.2.2.2.2.2.2.2.2.2.2.2.2.2.2.2.2.2.2.2.2.2.2.1)).trans hHeld.2.2.2.2.2.2.1, (hb.cell (p := ⟨g, o + k * 14 + 7, none⟩) (Nat.lt_of_lt_of_le hgl hHeld.2.2.2.2.2.2.2.2.2.2.2.2.2.2.2.2.2.2.2.2.2.2.2.2.2.2.2.2.1)).trans hHeld.2.2.2.2.2.2.2.1, (hb.cell (p := ⟨g, o + k * 14 + 8, none⟩) (Nat.lt_of_lt_of_le hgl hHeld.2.2.2.2.2.2.2.2.2.2.2.2.2.2.2.2.2.2.2.2.2.2.2.2.2.2.2.2.1)).trans hHeld.2.2.2.2.2.2.2.2.1, (hb.cell (p := ⟨g, o + k * 14 + 9, none⟩) (Nat.lt_of_lt_of_le hgl hHeld.2.2.2.2.2.2.2.2.2.2.2.2.2.2.2.2.2.2.2.2.2.2.2.2.2.2.2.2.1)).trans hHeld.2.2.2.2.2.2.2.2.2.1, (hb.cell (p := ⟨g, o + k * 14 + 10, none⟩) (Nat.lt_of_lt_of_le hgl hHeld.2.2.2.2.2.2.2.2.2.2.2.2.2.2.2.2.2.2.2.2.2.2.2.2.2.2.2.2.1)).trans hHeld.2.2.2.2.2.2.2.2.2.2.1, (hb.cell (p := ⟨g, o + k * 14 + 11, none⟩) (Nat.lt_of_lt_of_le hgl hHeld.2.2.2.2.2.2.2.2.2.2.2.2.2.2.2.2.2.2.2.2.2.2.2.2.2.2.2.2.1)).trans hHeld.2.2.2.2.2.2.2.2.2.2.2.1, (hb.cell (p := ⟨g, o + k * 14 + 12, none⟩) (Nat.lt_of_lt_of_le hgl hHeld.2.2.2.2.2.2.2.2.2.2.2.2.2.2.2.2.2.2.2.2.2.2.2.2.2.2.2.2.1)).trans hHeld.2.2.2.2.2.2.2.2.2.2.2.2.1, (hb.cell (p := ⟨g, o + k * 14 + 13, none⟩) (Nat.lt_of_lt_of_le hgl hHeld.2.2.2.2.2.2.2.2.2.2.2.2.2.2.2.2.2.2.2.2.2.2.2.2.2.2.2.2.1)).trans hHeld.2.2.2.2.2.2.2.2.2.2.2.2.2.1, (hb.cell (p := ⟨g', o' + k * 14, none⟩) (Nat.lt_of_lt_of_le hgl' hHeld.2.2.2.2.2.2.2.2.2.2.2.2.2.2.2.2.2.2.2.2.2.2.2.2.2.2.2.2.1)).trans hHeld.2.2.2.2.2.2.2.2.2.2.2.2.2.2.1, (hb.cell (p := ⟨g', o' + k * 14 + 1, none⟩) (Nat.lt_of_lt_of_le hgl' hHeld.2.2.2.2.2.2.2.2.2.2.2.2.2.2.2.2.2.2.2.2.2.2.2.2.2.2.2.2.1)).trans hHeld.2.2.2.2.2.2.2.2.2.2.2.2.2.2.2.1, (hb.cell (p := ⟨g', o' + k * 14 + 2, none⟩) (Nat.lt_of_lt_of_le hgl' hHeld.2.2.2.2.2.2.2.2.2.2.2.2.2.2.2.2.2.2.2.2.2.2.2.2.2.2.2.2.1)).trans hHeld.2.2.2.2.2.2.2.2.2.2.2.2.2.2.2.2.1, (hb.cell (p := ⟨g', o' + k * 14 + 3, none⟩) (Nat.lt_of_lt_of_le hgl' hHeld.2.2.2.2.2.2.2.2.2.2.2.2.2.2.2.2.2.2.2.2.2.2.2.2.2.2.2.2.1)).trans hHeld.2.2.2.2.2.2.2.2.2.2.2.2.2.2.2.2.2.1, (hb.cell (p := ⟨g', o' + k * 14 + 4, none⟩) (Nat.lt_of_lt_of_le hgl' hHeld.2.2.2.2.2.2.2.2.2.2.2.2.2.2.2.2.2.2.2.2.2.2.2.2.2.2.2.2.1)).trans hHeld.2.2.2.2.2.2.2.2.2.2.2.2.2.2.2.2.2.2.1, (hb.cell (p := ⟨g', o' + k * 14 + 5, none⟩) (Nat.lt_of_lt_of_le hgl' hHeld.2.2.2.2.2.2.2.2.2.2.2.2.2.2.2.2.2.2.2.2.2.2.2.2.2.2.2.2.1)).trans hHeld.2.2.2.2.2.2.2.2.2.2.2.2.2.2.2.2.2.2.2.1, (hb.cell (p := ⟨g', o' + k * 14 + 6, none⟩) (Nat.lt_of_lt_of_le hgl' hHeld.2.2.2.2.2.2.2.2.2.2.2.2.2.2.2.2.2.2.2.2.2.2.2.2.2.2.2.2.1)).trans hHeld.2.2.2.2.2.2.2.2.2.2.2.2.2.2.2.2.2.2.2.2.1, (hb.cell (p := ⟨g', o' + k * 14 + 7, none⟩) (Nat.lt_of_lt_of_le hgl' hHeld.2.2.2.2.2.2.2.2.2.2.2.2.2.2.2.2.2.2.2.2.2.2.2.2.2.2.2.2.1)).trans hHeld.2.2.2.2.2.2.2.2.2.2.2.2.2.2.2.2.2.2.2.2.2.1, (hb.cell (p := ⟨g', o' + k * 14 + 8, none⟩) (Nat.lt_of_lt_of_le hgl' hHeld.2.2.2.2.2.2.2.2.2.2.2.2.2.2.2.2.2.2.2.2.2.2.2.2.2.2.2.2.1)).trans hHeld.2.2.2.2.2.2.2.2.2.2.2.2.2.2.2.2.2.2.2.2.2.2.1, (hb.cell (p := ⟨g', o' + k * 14 + 9, none⟩) (Nat.lt_of_lt_of_le hgl' hHeld.2.2.2.2.2.2.2.2.2.2.2.2.2.2.2.2.2.2.2.2.2.2.2.2.2.2.2.2.1)).trans hHeld.2.2.2.2.2.2.2.2.2.2.2.2.2.2.2.2.2.2.2.2.2.2.2.1, (hb.cell (p := ⟨g', o' + k * 14 + 10, none⟩) (Nat.lt_of_lt_of_le hgl' hHeld.2.2.2.2.2.2.2.2.2.2.2.2.2.2.2.2.2.2.2.2.2.2.2.2.2.2.2.2.1)).trans hHeld.2.2.2.2.2.2.2.2.2.2.2.2.2.2.2.2.2.2.2.2.2.2.2.2.1, (hb.cell (p := ⟨g', o' + k * 14 + 11, none⟩) (Nat.lt_of_lt_of_le hgl' hHeld.2.2.2.2.2.2.2.2.2.2.2.2.2.2.2.2.2.2.2.2.2.2.2.2.2.2.2.2.1)).trans hHeld.2.2.2.2.2.2.2.2.2.2.2.2.2.2.2.2.2.2.2.2.2.2.2.2.2.1, (hb.cell (p := ⟨g', o' + k * 14 + 12, none⟩) (Nat.lt_of_lt_of_le hgl' hHeld.2.2.2.2.2.2.2.2.2.2.2.2.2.2.2.2.2.2.2.2.2.2.2.2.2.2.2.2.1)).trans hHeld.2.2.2.2.2.2.2.2.2.2.2.2.2.2.2.2.2.2.2.2.2.2.2.2.2.2.1, (hb.cell (p := ⟨g', o' + k * 14 + 13, none⟩) (Nat.lt_of_lt_of_le hgl' hHeld.2.2.2.2.2.2.2.2.2.2.2.2.2.2.2.2.2.2.2.2.2.2.2.2.2.2.2.2.1)).trans hHeld.2.2.2.2.2.2.2.2.2.2.2.2.2.2.2.2.2.2.2.2.2.2.2.2.2.2.2.1, Nat.le_trans hHeld.2.2.2.2.2.2.2.2.2.2.2.2.2.2.2.2.2.2.2.2.2.2.2.2.2.2.2.2.1 hb.size, hHeld.2.2.2.2.2.2.2.2.2.2.2.2.2.2.2.2.2.2.2.2.2.2.2.2.2.2.2.2.2.trans (hb.mono hHeld.2.2.2.2.2.2.2.2.2.2.2.2.2.2.2.2.2.2.2.2.2.2.2.2.2.2.2.2.1)⟩) (fun hHeld => ?_)
      clear hK K h
      refine tk 9 hHeld ?_
      refine rd0 ?_
      have HB2 := Lib.hid (HB.out.trans (hHeld.2.2.2.2.2.2.2.2.2.2.2.2.2.2.2.2.2.2.2.2.2.2.2.2.2.2.2.2.2.mono hsz))
      clear hHeld
      go_wp2
      go_roundw
      case rel => exact ⟨k + 1, by omega, by go_num, HB2.out⟩
      case measure => simp [intOf]; omega
    · clear hB
      go_wp2
      go_ret
      exact ⟨rfl, HB.out⟩
end Go.Proofs.YtelhmacfljffhaaGreat.RepC
end
