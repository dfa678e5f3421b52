/- What a law holds in its hands: values whose memory lies in a set of blocks; what leaves the others alone: general in the program. -/
import Derived.Test.YtfmgjkmlnaeagaaRowO
import Derived.Test.YtfmgjkmlnaeagaaKept
namespace Go.Proofs.Ytfmgjkmlnaeagaa.ValC
open Go.RowKit RowC

def Rg (lo hi k : Nat) : Prop := lo ≤ k ∧ k < hi
/-- every block outside S is as it was -/
structure Off (S : Nat → Prop) (w w' : World) : Prop where
  os : w'.os = w.os
  tape : w'.tape = w.tape
  output : w'.output = w.output
  size : w.heap.size ≤ w'.heap.size
  block : ∀ k, k < w.heap.size → ¬ S k → w'.heap[k]? = w.heap[k]?
theorem Off.refl (S : Nat → Prop) (w : World) : Off S w w := ⟨rfl, rfl, rfl, Nat.le_refl _, fun _ _ _ => rfl⟩
theorem Off.trans {S : Nat → Prop} {a b c : World} (h : Off S a b) (k : Off S b c) : Off S a c :=
  ⟨k.os.trans h.os, k.tape.trans h.tape, k.output.trans h.output, Nat.le_trans h.size k.size, fun i hi hs => (k.block i (Nat.lt_of_lt_of_le hi h.size) hs).trans (h.block i hi hs)⟩
theorem Off.drew {S : Nat → Prop} {a w : World} (h : Off S a w) : Off S a w.drew := ⟨h.os, h.tape, h.output, h.size, h.block⟩
theorem Off.alloc {S : Nat → Prop} {a w : World} (h : Off S a w) (o : Obj) : Off S a (w.alloc o) := h.trans ⟨rfl, rfl, rfl, by simp, fun _ hk _ => Below.heap_alloc _ _ _ hk⟩
theorem Off.setCell {S : Nat → Prop} {a w : World} (h : Off S a w) {p : Addr} (hp : S p.block) (u : Value) : Off S a (w.setCell p u) :=
  h.trans ⟨rfl, rfl, rfl, by simp [World.setCell], fun _ _ hs => Below.heap_setCell _ _ _ _ (fun e => hs (e ▸ hp))⟩
theorem Off.of_below {S : Nat → Prop} {a w w' : World} (h : Off S a w) (k : Below w.heap.size w w') : Off S a w' := h.trans ⟨k.os, k.tape, k.output, k.size, fun i hi _ => k.block i hi⟩
theorem Off.below {S : Nat → Prop} {B : Nat} {w w' : World} (h : Off S w w') (hB : B ≤ w.heap.size) (hS : ∀ k, S k → B ≤ k) : Below B w w' :=
  ⟨h.os, h.tape, h.output, h.size, fun k hk => h.block k (by omega) (fun hs => by have := hS k hs; omega)⟩
theorem Off.more {S T : Nat → Prop} {w w' : World} (h : Off S w w') (hST : ∀ k, S k → T k) : Off T w w' := ⟨h.os, h.tape, h.output, h.size, fun k hk ht => h.block k hk (fun hs => ht (hST k hs))⟩

/-- n elements of 'size' cells each, cell j holding c j, in a block of S -/
def RowV (W : World) (S : Nat → Prop) (v : Value) (n size : Nat) (c : Nat → Value) : Prop :=
  (∀ k, S k → k < W.heap.size) ∧ ∃ a cap, v = .slice a n cap ∧ n ≤ cap ∧ (0 < n → ∃ g, a = some ⟨g, 0, none⟩ ∧ S g ∧ (∀ j, j < n * size → W.cell? ⟨g, j, none⟩ = some (c j)) ∧ ∀ j, W.frozen? ⟨g, j, none⟩ = false)
section
variable {W W' : World} {S T : Nat → Prop} {v : Value} {n size : Nat} {c d : Nat → Value}
theorem RowV.keep (h : RowV W S v n size c) (hs : W.heap.size ≤ W'.heap.size) (hb : ∀ k, k < W.heap.size → S k → W'.heap[k]? = W.heap[k]?) : RowV W' S v n size c := by
  obtain ⟨h1, a, cap, h2, hnc, h3⟩ := h
  refine ⟨fun k hk => Nat.lt_of_lt_of_le (h1 k hk) hs, a, cap, h2, hnc, fun hn => ?_⟩
  obtain ⟨g, ha, hg, hc, hf⟩ := h3 hn
  have e := hb g (h1 g hg) hg
  exact ⟨g, ha, hg, fun j hj => (World.cell?_of_block (a := ⟨g, j, none⟩) e).trans (hc j hj), fun j => (World.frozen?_of_block (a := ⟨g, j, none⟩) e).trans (hf j)⟩
theorem RowV.below (h : RowV W S v n size c) (hb : Below W.heap.size W W') : RowV W' S v n size c := h.keep hb.size fun k hk _ => hb.block k hk
theorem RowV.off (h : RowV W S v n size c) (hb : Off T W W') (hd : ∀ k, T k → ¬ S k) : RowV W' S v n size c := h.keep hb.size fun k hk hs => hb.block k hk (fun ht => hd k ht hs)
theorem RowV.congr (h : RowV W S v n size c) (hc : ∀ j, j < n * size → c j = d j) : RowV W S v n size d := by
  obtain ⟨h1, a, cap, h2, hnc, h3⟩ := h
  refine ⟨h1, a, cap, h2, hnc, fun hn => ?_⟩
  obtain ⟨g, ha, hg, hcc, hf⟩ := h3 hn
  exact ⟨g, ha, hg, fun j hj => by rw [hcc j hj, hc j hj], hf⟩
theorem RowV.more (h : RowV W S v n size c) (hT : ∀ k, T k → k < W.heap.size) (hST : ∀ k, S k → T k) : RowV W T v n size c := by
  obtain ⟨h1, a, cap, h2, hnc, h3⟩ := h
  refine ⟨hT, a, cap, h2, hnc, fun hn => ?_⟩
  obtain ⟨g, ha, hg, hcc, hf⟩ := h3 hn
  exact ⟨g, ha, hST g hg, hcc, hf⟩
theorem RowV.of_own {lo : Nat} {E : TypeId} (h : RowO W lo E size v n c) : RowV W (Rg lo W.heap.size) v n size c := by
  refine ⟨fun k hk => hk.2, ?_⟩
  rcases Nat.eq_zero_or_pos n with rfl | hn
  · obtain ⟨a, cap, rfl⟩ := h.isSlice
    exact ⟨a, cap, rfl, Nat.zero_le _, fun hn => absurd hn (Nat.lt_irrefl _)⟩
  · obtain ⟨g, cap, rfl, h2, h3, h4, h5, h6⟩ := h.form hn
    exact ⟨_, cap, rfl, h4, fun _ => ⟨g, rfl, ⟨h2, h3⟩, h5, h6⟩⟩
/-- either nothing, or a block that is known -/
theorem RowV.cases {p : Prop} (h : RowV W S v n size c) (h0 : ∀ a cap, n = 0 → v = .slice a 0 cap → p)
    (h1 : ∀ g cap, 0 < n → n ≤ cap → v = .slice (some ⟨g, 0, none⟩) n cap → S g → g < W.heap.size → (∀ j, j < n * size → W.cell? ⟨g, j, none⟩ = some (c j)) → (∀ j, W.frozen? ⟨g, j, none⟩ = false) → p) : p := by
  obtain ⟨k1, a, cap, k2, hnc, k3⟩ := h
  rcases Nat.eq_zero_or_pos n with hn | hn
  · exact h0 a cap hn (by rw [k2, hn])
  · obtain ⟨g, ha, hg, hcc, hf⟩ := k3 hn
    exact h1 g cap hn hnc (by rw [k2, ha]) hg (k1 g hg) hcc hf
end

/-- a call that gives a truth value and makes no difference to what was there -/
def IsB (b : Bool) (w : World) (e : Ending) (w' : World) : Prop := e = .returned (.bool b) ∧ Below w.heap.size w w'
theorem isB_elim {b : Bool} {w : World} {e : Ending} {w' : World} (h : IsB b w e w') : e = .returned (.bool b) ∧ Below w.heap.size w w' := h
/-- a call that gives a new value of which V speaks -/
def New (V : World → (Nat → Prop) → Value → Prop) (w : World) (e : Ending) (w' : World) : Prop := ∃ v, e = .returned v ∧ V w' (Rg w.heap.size w'.heap.size) v ∧ Below w.heap.size w w'
theorem new_elim {V : World → (Nat → Prop) → Value → Prop} {w : World} {e : Ending} {w' : World} (h : New V w e w') : ∃ v, e = .returned v ∧ V w' (Rg w.heap.size w'.heap.size) v ∧ Below w.heap.size w w' := h
/-- a call that writes into the blocks of S alone and gives a number -/
def Marks (S : Nat → Prop) (m : Int) (P : World → Prop) (w : World) (e : Ending) (w' : World) : Prop := e = .returned (.int .i64 m) ∧ P w' ∧ Off S w w'
theorem marks_elim {S : Nat → Prop} {m : Int} {P : World → Prop} {w : World} {e : Ending} {w' : World} (h : Marks S m P w e w') : e = .returned (.int .i64 m) ∧ P w' ∧ Off S w w' := h
theorem rg_apart {a b c d k : Nat} (h : b ≤ c ∨ d ≤ a) (h1 : Rg a b k) : ¬ Rg c d k := fun h2 => by unfold Rg at h1 h2; omega
end Go.Proofs.Ytfmgjkmlnaeagaa.ValC
