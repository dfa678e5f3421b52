/- Of this claim's texts the part 0: Tk Kept ResB Sp SpPairs SpD SqRight SqImpl SqImpl2 SqFree SqFree2 RowO SqPut SqPut2 SqPut3 Vals. -/
import Derived.Test.YtfciojkibklkfaaRows
import Derived.LoopTactic
import Derived.BigQuiet
import Derived.Deep.QuietTactic
import Derived.Deep.RegionWith
import Derived.Deep.RegionHeld3
import Derived.RegionTactic
import Derived.WalkSpells
import Derived.WalkLawsBesides
import Derived.WalkKit
import Derived.ProofKit
import Derived.Below
import Derived.Lib.Hide
import Derived.Deep.DeepCutAuto
import Derived.IntWalk
import Derived.Laws.MakeOwn
import Derived.Laws.Entries
import Derived.OwnWalk
import Derived.Maps.AppendAt
import Derived.Laws.Append
import Derived.Deep.AppendLies
import Derived.Lib.SliceRun
section
namespace Go.Proofs.Ytfciojkibklkfaa
section
variable {P : Program} {ops : Array Oper} {Q : Exit → Act → World → Prop} {md : Region.Mode} {S : World → Prop}
theorem tk (i : Nat) {oi : Oper} {v : Value} {fuel : Nat} {listed : Array Bool} {a a' : Act} {w : World} (hS : S w)
    (h : wpAnyH P md ops Q S fuel (listed.setIfInBounds i true) a' w)
    (hi : ops[i]? = some oi := by rfl) (hs : Region.noSelect ops = true := by kernel_rfl)
    (hf : Region.free md ops listed i = true := by kernel_rfl) (hr : (Region.ready md ops listed).contains i = true := by kernel_rfl)
    (hw : Region.wanted oi (yielded ops a.tmps) = true := by kernel_rfl)
    (hy : ∀ w, S w → (execOp a.eval oi).run P w = .ok (.value v) w := by
      intro w hSw; (try dsimp only at hSw); go_simp; try with_reducible rfl)
    (hQ : ∀ c a w, Q (.panic c) (a.put oi.dst v) w → Q (.panic c) a w := by exact fun _ _ _ h => h)
    (ha : a.put oi.dst v = a' := by
      first | (simp only [Act.put, List.getElem_toArray, List.getElem_cons_succ, List.getElem_cons_zero, List.setIfInBounds_toArray, List.set_cons_zero, List.set_cons_succ]; done) | (simp only [Act.put, List.getElem_toArray, List.getElem_cons_succ, List.getElem_cons_zero, List.setIfInBounds_toArray, List.set_cons_zero, List.set_cons_succ]; exact rfl) | exact rfl) :
    wpAnyH P md ops Q S (fuel + 1) listed a w := by
  subst ha
  exact wpAnyH_take hi hs hf hr hQ (Or.inl ⟨hw, hy⟩) hS h
theorem tn (i : Nat) {oi : Oper} {fuel : Nat} {listed : Array Bool} {a a' : Act} {w : World} (hS : S w)
    (h : wpAnyH P md ops Q S fuel (listed.setIfInBounds i true) a' w)
    (hi : ops[i]? = some oi := by rfl) (hs : Region.noSelect ops = true := by kernel_rfl)
    (hf : Region.free md ops listed i = true := by kernel_rfl) (hr : (Region.ready md ops listed).contains i = true := by kernel_rfl)
    (hw : Region.wanted oi (yielded ops a.tmps) = false := by kernel_rfl)
    (hQ : ∀ c a w, Q (.panic c) (a.put oi.dst undef) w → Q (.panic c) a w := by exact fun _ _ _ h => h)
    (ha : a.put oi.dst undef = a' := by
      first | (simp only [Act.put, List.getElem_toArray, List.getElem_cons_succ, List.getElem_cons_zero, List.setIfInBounds_toArray, List.set_cons_zero, List.set_cons_succ]; done) | (simp only [Act.put, List.getElem_toArray, List.getElem_cons_succ, List.getElem_cons_zero, List.setIfInBounds_toArray, List.set_cons_zero, List.set_cons_succ]; exact rfl) | exact rfl) :
    wpAnyH P md ops Q S (fuel + 1) listed a w := by
  subst ha
  exact wpAnyH_take hi hs hf hr hQ (Or.inr ⟨hw, rfl⟩) hS h
theorem rd1 (i : Nat) {o : Oper} {fuel : Nat} {listed : Array Bool} {a a' : Act} {w : World}
    (h : ∀ K' : Act → World → Prop, Shut (∀ a w, S w → (S w → wpAnyH P md ops Q S fuel (listed.setIfInBounds i true) a w) → K' a w) → if Region.wanted o (yielded ops a'.tmps) = true then Oper.wp P o a' w K' Q else K' (a'.put o.dst undef) w)
    (ha : a = a' := by
      first | (simp only [Act.put, List.getElem_toArray, List.getElem_cons_succ, List.getElem_cons_zero, List.setIfInBounds_toArray, List.set_cons_zero, List.set_cons_succ]; done) | (simp only [Act.put, List.getElem_toArray, List.getElem_cons_succ, List.getElem_cons_zero, List.setIfInBounds_toArray, List.set_cons_zero, List.set_cons_succ]; exact rfl) | exact rfl)
    (ho : ops[i]? = some o := by rfl) (hr : Region.ready md ops listed = [i] := by kernel_rfl) :
    wpAnyH P md ops Q S (fuel + 1) listed a w := by
  subst ha
  exact wpAnyH_ready hr (by simp) (AllReadyH.cons ho h AllReadyH.nil)
theorem rd2 (i j : Nat) {o o2 : Oper} {fuel : Nat} {listed : Array Bool} {a a' : Act} {w : World}
    (h : ∀ K' : Act → World → Prop, Shut (∀ a w, S w → (S w → wpAnyH P md ops Q S fuel (listed.setIfInBounds i true) a w) → K' a w) → if Region.wanted o (yielded ops a'.tmps) = true then Oper.wp P o a' w K' Q else K' (a'.put o.dst undef) w)
    (h2 : ∀ K' : Act → World → Prop, Shut (∀ a w, S w → (S w → wpAnyH P md ops Q S fuel (listed.setIfInBounds j true) a w) → K' a w) → if Region.wanted o2 (yielded ops a'.tmps) = true then Oper.wp P o2 a' w K' Q else K' (a'.put o2.dst undef) w)
    (ha : a = a' := by
      first | (simp only [Act.put, List.getElem_toArray, List.getElem_cons_succ, List.getElem_cons_zero, List.setIfInBounds_toArray, List.set_cons_zero, List.set_cons_succ]; done) | (simp only [Act.put, List.getElem_toArray, List.getElem_cons_succ, List.getElem_cons_zero, List.setIfInBounds_toArray, List.set_cons_zero, List.set_cons_succ]; exact rfl) | exact rfl)
    (ho : ops[i]? = some o := by rfl) (ho2 : ops[j]? = some o2 := by rfl) (hr : Region.ready md ops listed = [i, j] := by kernel_rfl) :
    wpAnyH P md ops Q S (fuel + 1) listed a w := by
  subst ha
  exact wpAnyH_ready hr (by simp) (AllReadyH.cons ho h (AllReadyH.cons ho2 h2 AllReadyH.nil))
theorem rd3 (i j k : Nat) {o o2 o3 : Oper} {fuel : Nat} {listed : Array Bool} {a a' : Act} {w : World}
    (h : ∀ K' : Act → World → Prop, Shut (∀ a w, S w → (S w → wpAnyH P md ops Q S fuel (listed.setIfInBounds i true) a w) → K' a w) → if Region.wanted o (yielded ops a'.tmps) = true then Oper.wp P o a' w K' Q else K' (a'.put o.dst undef) w)
    (h2 : ∀ K' : Act → World → Prop, Shut (∀ a w, S w → (S w → wpAnyH P md ops Q S fuel (listed.setIfInBounds j true) a w) → K' a w) → if Region.wanted o2 (yielded ops a'.tmps) = true then Oper.wp P o2 a' w K' Q else K' (a'.put o2.dst undef) w)
    (h3 : ∀ K' : Act → World → Prop, Shut (∀ a w, S w → (S w → wpAnyH P md ops Q S fuel (listed.setIfInBounds k true) a w) → K' a w) → if Region.wanted o3 (yielded ops a'.tmps) = true then Oper.wp P o3 a' w K' Q else K' (a'.put o3.dst undef) w)
    (ha : a = a' := by
      first | (simp only [Act.put, List.getElem_toArray, List.getElem_cons_succ, List.getElem_cons_zero, List.setIfInBounds_toArray, List.set_cons_zero, List.set_cons_succ]; done) | (simp only [Act.put, List.getElem_toArray, List.getElem_cons_succ, List.getElem_cons_zero, List.setIfInBounds_toArray, List.set_cons_zero, List.set_cons_succ]; exact rfl) | exact rfl)
    (ho : ops[i]? = some o := by rfl) (ho2 : ops[j]? = some o2 := by rfl) (ho3 : ops[k]? = some o3 := by rfl) (hr : Region.ready md ops listed = [i, j, k] := by kernel_rfl) :
    wpAnyH P md ops Q S (fuel + 1) listed a w := by
  subst ha
  exact wpAnyH_ready hr (by simp) (AllReadyH.cons ho h (AllReadyH.cons ho2 h2 (AllReadyH.cons ho3 h3 AllReadyH.nil)))
theorem rd0 {listed : Array Bool} {a a' : Act} {w : World} {fuel : Nat} (h : Q .normal a' w)
    (ha : a = a' := by
      first | (simp only [Act.put, List.getElem_toArray, List.getElem_cons_succ, List.getElem_cons_zero, List.setIfInBounds_toArray, List.set_cons_zero, List.set_cons_succ]; done) | (simp only [Act.put, List.getElem_toArray, List.getElem_cons_succ, List.getElem_cons_zero, List.setIfInBounds_toArray, List.set_cons_zero, List.set_cons_succ]; exact rfl) | exact rfl)
    (hr : Region.ready md ops listed = [] := by kernel_rfl) : wpAnyH P md ops Q S fuel listed a w := by
  subst ha
  exact wpAnyH_done hr h fuel
end
end Go.Proofs.Ytfciojkibklkfaa
end
section
namespace Go.Proofs.Ytfciojkibklkfaa.KeptC
open Go.RowKit
structure KS (w : World) (base : Nat) (L : List (Nat × Nat × Value)) (W : World) : Prop where
  cells : ∀ x ∈ L, W.cell? ⟨x.1, x.2.1, none⟩ = some x.2.2
  low : ∀ x ∈ L, x.1 < base
  size : base ≤ W.heap.size
  below : Below w.heap.size w W
  base : w.heap.size ≤ base
variable {w W W1 : World} {base : Nat} {L : List (Nat × Nat × Value)}
theorem KS.call (h : KS w base L W) (hb : Below W.heap.size W W1) : KS w base L W1 :=
  ⟨fun x hx => (hb.cell (p := ⟨x.1, x.2.1, none⟩) (Nat.lt_of_lt_of_le (h.low x hx) h.size)).trans (h.cells x hx), h.low, Nat.le_trans h.size hb.size, h.below.trans (hb.mono (Nat.le_trans h.base h.size)), h.base⟩
theorem KS.alloc (h : KS w base L W) (o : Obj) : KS w base L (W.alloc o) := h.call ((Below.refl _ _).alloc (Nat.le_refl _) o)
theorem KS.drew (h : KS w base L W) : KS w base L W.drew := h.call (Below.refl _ _).drew
theorem KS.set (h : KS w base L W) {b o : Nat} (hb : base ≤ b) (v : Value) : KS w base L (W.setCell ⟨b, o, none⟩ v) := by
  refine ⟨fun x hx => ?_, h.low, by simpa using h.size, h.below.setCell (Nat.le_trans h.base hb) v, h.base⟩
  have hn : (⟨b, o, none⟩ : Addr) ≠ ⟨x.1, x.2.1, none⟩ := fun e => by have := h.low x hx; injection e; omega
  rw [World.cell?_setCell_other _ _ _ _ hn]
  exact h.cells x hx
theorem KS.nil (w : World) : KS w w.heap.size [] w := ⟨fun x hx => (by cases hx), fun x hx => (by cases hx), Nat.le_refl _, Below.refl _ _, Nat.le_refl _⟩
theorem KS.at (h : KS w base L W) {b o : Nat} {v : Value} (hx : (b, o, v) ∈ L) : W.cell? ⟨b, o, none⟩ = some v := h.cells _ hx
end Go.Proofs.Ytfciojkibklkfaa.KeptC
end
section
namespace Go.Proofs.Ytfciojkibklkfaa.SpanC
open Go.RowKit KeptC
def ResB (P : Prop) (w : World) (e : Ending) (w' : World) : Prop := ∃ b : Bool, e = .returned (.bool b) ∧ (b = true ↔ P) ∧ Below w.heap.size w w'
theorem resB_yes {P : Prop} {w w' : World} (h : P) (hb : Below w.heap.size w w') : ResB P w (.returned (.bool true)) w' := ⟨true, rfl, by simp [h], hb⟩
theorem resB_no {P : Prop} {w w' : World} (h : ¬ P) (hb : Below w.heap.size w w') : ResB P w (.returned (.bool false)) w' := ⟨false, rfl, by simp [h], hb⟩
theorem resB_elim {P : Prop} {w : World} {e : Ending} {w' : World} (h : ResB P w e w') : ∃ b : Bool, e = .returned (.bool b) ∧ (b = true ↔ P) ∧ Below w.heap.size w w' := h
theorem all_step {P : Nat → Prop} {k : Nat} (h : ∀ j, j < k → P j) (hk : P k) : ∀ j, j < k + 1 → P j := fun j hj => by
  by_cases e : j = k
  · subst e; exact hk
  · exact h j (by omega)
end Go.Proofs.Ytfciojkibklkfaa.SpanC
end
section
namespace Go.Proofs.Ytfciojkibklkfaa.SpanC
open Go.RowKit KeptC
def isB (n lo hi : Int) : Bool := decide (lo ≤ n) && decide (n ≤ hi)
theorem isB_iff (n lo hi : Int) : isB n lo hi = true ↔ lo ≤ n ∧ n ≤ hi := by simp [isB]
theorem is_spec (n lo hi : Int) (w : World) :
    Calls Try.prog 81 #[.int .i64 n, .int .i64 lo, .int .i64 hi] w fun e w' => e = .returned (.bool (isB n lo hi)) ∧ w = w' := by
  by_cases h1 : lo ≤ n
  · by_cases h2 : n ≤ hi
    · have hb : isB n lo hi = true := by simp [isB, h1, h2]
      rw [hb]; clear hb
      go_enter Try.func81, Try.ntmps81
      go_wp2
      go_ret
      exact ⟨rfl, rfl⟩
    · have hb : isB n lo hi = false := by simp [isB, h1, h2]
      rw [hb]; clear hb
      have h2' : decide (n ≤ hi) = false := by simpa using h2
      go_enter Try.func81, Try.ntmps81
      go_wp2
      go_ret
      exact ⟨rfl, rfl⟩
  · have hb : isB n lo hi = false := by simp [isB, h1]
    rw [hb]; clear hb
    have h1' : decide (lo ≤ n) = false := by simpa using h1
    go_enter Try.func81, Try.ntmps81
    go_wp2
    go_ret
    exact ⟨rfl, rfl⟩
theorem is_impl (n lo hi : Int) (w : World) :
    Calls Try.prog 67 #[.int .i64 n, .int .i64 lo, .int .i64 hi] w fun e w' => e = .returned (.bool (isB n lo hi)) ∧ w = w' := by
  by_cases h1 : lo ≤ n
  · by_cases h2 : n ≤ hi
    · have hb : isB n lo hi = true := by simp [isB, h1, h2]
      rw [hb]; clear hb
      go_enter Try.func67, Try.ntmps67
      go_wp2
      go_ret
      exact ⟨rfl, rfl⟩
    · have hb : isB n lo hi = false := by simp [isB, h1, h2]
      rw [hb]; clear hb
      have h2' : decide (n ≤ hi) = false := by simpa using h2
      go_enter Try.func67, Try.ntmps67
      go_wp2
      go_ret
      exact ⟨rfl, rfl⟩
  · have hb : isB n lo hi = false := by simp [isB, h1]
    rw [hb]; clear hb
    have h1' : decide (lo ≤ n) = false := by simpa using h1
    go_enter Try.func67, Try.ntmps67
    go_wp2
    go_ret
    exact ⟨rfl, rfl⟩
theorem time_spec (n : Int) (w : World) :
    Calls Try.prog 88 #[.int .i64 n] w fun e w' => e = .returned (.bool (isB n 0 1000000)) ∧ w = w' := by
  go_enter Try.func88, Try.ntmps88
  go_wp2_with (go_at_call 81; refine (is_spec _ _ _ _).mono ?_; rintro e w' ⟨rfl, rfl⟩)
  go_ret
  exact ⟨rfl, rfl⟩
theorem time_impl (n : Int) (w : World) :
    Calls Try.prog 87 #[.int .i64 n] w fun e w' => e = .returned (.bool (isB n 0 1000000)) ∧ w = w' := by
  go_enter Try.func87, Try.ntmps87
  go_wp2_with (go_at_call 67; refine (is_impl _ _ _ _).mono ?_; rintro e w' ⟨rfl, rfl⟩)
  go_ret
  exact ⟨rfl, rfl⟩
def spB (a b : Int) : Bool := isB a 0 1000000 && (decide (a < b) && decide (b ≤ 1000000))
def spP (a b : Int) : Prop := 0 ≤ a ∧ a < b ∧ b ≤ 1000000
theorem spB_iff (a b : Int) : spB a b = true ↔ spP a b := by unfold spB spP; simp [isB]; omega
theorem right_spec (a b : Int) (w : World) :
    Calls Try.prog 56 #[.agg #[.int .i64 a, .int .i64 b]] w fun e w' => e = .returned (.bool (spB a b)) ∧ Below w.heap.size w w' := by
  have hB : Below w.heap.size w (w.alloc (.cells #[.int .i64 a, .int .i64 b] 25)) := (Below.refl _ _).alloc (Nat.le_refl _) _
  have HB := Lib.hid hB
  clear hB
  cases h1 : isB a 0 1000000 with
  | true =>
    by_cases h2 : a < b
    · by_cases h3 : b ≤ 1000000
      · have hb : spB a b = true := by simp [spB, h1, h2, h3]
        rw [hb]; clear hb
        have hc := fun W => time_spec a W
        rw [h1] at hc
        clear h1
        go_enter Try.func56, Try.ntmps56
        go_wp2_with (go_at_call 88; refine (hc _).mono ?_; rintro e w' ⟨rfl, rfl⟩)
        go_ret
        exact ⟨rfl, HB.out⟩
      · have hb : spB a b = false := by simp [spB, h3]
        rw [hb]; clear hb
        have h3' : decide (b ≤ 1000000) = false := by simpa using h3
        have hc := fun W => time_spec a W
        rw [h1] at hc
        clear h1
        go_enter Try.func56, Try.ntmps56
        go_wp2_with (go_at_call 88; refine (hc _).mono ?_; rintro e w' ⟨rfl, rfl⟩)
        go_ret
        exact ⟨rfl, HB.out⟩
    · have hb : spB a b = false := by simp [spB, h2]
      rw [hb]; clear hb
      have h2' : decide (a < b) = false := by simpa using h2
      have hc := fun W => time_spec a W
      rw [h1] at hc
      clear h1
      go_enter Try.func56, Try.ntmps56
      go_wp2_with (go_at_call 88; refine (hc _).mono ?_; rintro e w' ⟨rfl, rfl⟩)
      go_ret
      exact ⟨rfl, HB.out⟩
  | false =>
    have hb : spB a b = false := by simp [spB, h1]
    rw [hb]; clear hb
    have hc := fun W => time_spec a W
    rw [h1] at hc
    clear h1
    go_enter Try.func56, Try.ntmps56
    go_wp2_with (go_at_call 88; refine (hc _).mono ?_; rintro e w' ⟨rfl, rfl⟩)
    go_ret
    exact ⟨rfl, HB.out⟩
theorem right_impl (a b : Int) (w : World) :
    Calls Try.prog 50 #[.agg #[.int .i64 a, .int .i64 b]] w fun e w' => e = .returned (.bool (spB a b)) ∧ Below w.heap.size w w' := by
  have hB : Below w.heap.size w (w.alloc (.cells #[.int .i64 a, .int .i64 b] 25)) := (Below.refl _ _).alloc (Nat.le_refl _) _
  have HB := Lib.hid hB
  clear hB
  cases h1 : isB a 0 1000000 with
  | true =>
    by_cases h2 : a < b
    · by_cases h3 : b ≤ 1000000
      · have hb : spB a b = true := by simp [spB, h1, h2, h3]
        rw [hb]; clear hb
        have hc := fun W => time_impl a W
        rw [h1] at hc
        clear h1
        go_enter Try.func50, Try.ntmps50
        go_wp2_with (go_at_call 87; refine (hc _).mono ?_; rintro e w' ⟨rfl, rfl⟩)
        go_ret
        exact ⟨rfl, HB.out⟩
      · have hb : spB a b = false := by simp [spB, h3]
        rw [hb]; clear hb
        have h3' : decide (b ≤ 1000000) = false := by simpa using h3
        have hc := fun W => time_impl a W
        rw [h1] at hc
        clear h1
        go_enter Try.func50, Try.ntmps50
        go_wp2_with (go_at_call 87; refine (hc _).mono ?_; rintro e w' ⟨rfl, rfl⟩)
        go_ret
        exact ⟨rfl, HB.out⟩
    · have hb : spB a b = false := by simp [spB, h2]
      rw [hb]; clear hb
      have h2' : decide (a < b) = false := by simpa using h2
      have hc := fun W => time_impl a W
      rw [h1] at hc
      clear h1
      go_enter Try.func50, Try.ntmps50
      go_wp2_with (go_at_call 87; refine (hc _).mono ?_; rintro e w' ⟨rfl, rfl⟩)
      go_ret
      exact ⟨rfl, HB.out⟩
  | false =>
    have hb : spB a b = false := by simp [spB, h1]
    rw [hb]; clear hb
    have hc := fun W => time_impl a W
    rw [h1] at hc
    clear h1
    go_enter Try.func50, Try.ntmps50
    go_wp2_with (go_at_call 87; refine (hc _).mono ?_; rintro e w' ⟨rfl, rfl⟩)
    go_ret
    exact ⟨rfl, HB.out⟩
theorem before_impl (a b c d : Int) (w : World) :
    Calls Try.prog 113 #[.agg #[.int .i64 a, .int .i64 b], .agg #[.int .i64 c, .int .i64 d]] w fun e w' => e = .returned (.bool (decide (b ≤ c))) ∧ Below w.heap.size w w' := by
  go_enter Try.func113, Try.ntmps113
  go_wp2
  go_ret
  exact ⟨rfl, ((Below.refl _ _).alloc (Nat.le_refl _) _).alloc (by simp) _⟩
end Go.Proofs.Ytfciojkibklkfaa.SpanC
end
section
namespace Go.Proofs.Ytfciojkibklkfaa.SpanC
open Go.RowKit KeptC
theorem infoL : (Try.prog.info? 25).map (fun i => (i.zero, i.size, i.bytes)) = some (some (.agg #[.int .i64 0, .int .i64 0]), 2, 16) := by kernel_rfl
def zeros (n : Nat) : Array Value := madeCells #[.int .i64 0, .int .i64 0] (n * 2)
structure Fill (w : World) (n : Nat) (f : Nat → Int × Int) (k : Nat) (W : World) : Prop where
  cells : ∀ j, j < n → ∃ u v, W.cell? ⟨w.heap.size, j * 2, none⟩ = some u ∧ W.cell? ⟨w.heap.size, j * 2 + 1, none⟩ = some v ∧ (j < k → u = .int .i64 (f j).1 ∧ v = .int .i64 (f j).2)
  soft : ∀ j, W.frozen? ⟨w.heap.size, j, none⟩ = false
  below : Below w.heap.size w W
  lt : w.heap.size < W.heap.size
theorem Fill.call {w W W1 : World} {n k : Nat} {f : Nat → Int × Int} (h : Fill w n f k W) (hb : Below W.heap.size W W1) : Fill w n f k W1 := by
  refine ⟨fun j hj => ?_, fun j => (hb.frozen (p := ⟨w.heap.size, j, none⟩) h.lt).trans (h.soft j), h.below.trans (hb.mono (Nat.le_of_lt h.lt)), Nat.lt_of_lt_of_le h.lt hb.size⟩
  obtain ⟨u, v, hu, hv, hk⟩ := h.cells j hj
  exact ⟨u, v, (hb.cell (p := ⟨w.heap.size, j * 2, none⟩) h.lt).trans hu, (hb.cell (p := ⟨w.heap.size, j * 2 + 1, none⟩) h.lt).trans hv, hk⟩
theorem Fill.put {w W : World} {n k : Nat} {f : Nat → Int × Int} (h : Fill w n f k W) (hk : k < n) :
    Fill w n f (k + 1) ((W.setCell ⟨w.heap.size, k * 2, none⟩ (.int .i64 (f k).1)).setCell ⟨w.heap.size, k * 2 + 1, none⟩ (.int .i64 (f k).2)) := by
  have ne : ∀ a b : Nat, a ≠ b → (⟨w.heap.size, a, none⟩ : Addr) ≠ ⟨w.heap.size, b, none⟩ := fun a b hab e => hab (by injection e)
  obtain ⟨u0, v0, hu0, hv0, _⟩ := h.cells k hk
  refine ⟨fun j hj => ?_, fun j => by simpa using h.soft j, (h.below.setCell (Nat.le_refl _) _).setCell (Nat.le_refl _) _, by simpa using h.lt⟩
  by_cases e : j = k
  · subst e
    refine ⟨.int .i64 (f j).1, .int .i64 (f j).2, ?_, ?_, fun _ => ⟨rfl, rfl⟩⟩
    · rw [World.cell?_setCell_other _ _ _ _ (ne _ _ (by omega)), World.cell?_setCell_same' _ _ _ (by rw [hu0]; rfl)]
    · rw [World.cell?_setCell_same' _ _ _ (by rw [World.cell?_setCell_other _ _ _ _ (ne _ _ (by omega)), hv0]; rfl)]
  · obtain ⟨u, v, hu, hv, hlt⟩ := h.cells j hj
    refine ⟨u, v, ?_, ?_, fun hj' => hlt (by omega)⟩
    · rw [World.cell?_setCell_other _ _ _ _ (ne _ _ (by omega)), World.cell?_setCell_other _ _ _ _ (ne _ _ (by omega))]; exact hu
    · rw [World.cell?_setCell_other _ _ _ _ (ne _ _ (by omega)), World.cell?_setCell_other _ _ _ _ (ne _ _ (by omega))]; exact hv
theorem zeros_size (n : Nat) : (zeros n).size = n * 2 := by unfold zeros; simp [madeCells]
theorem Fill.new (w : World) (n : Nat) (f : Nat → Int × Int) : Fill w n f 0 (w.alloc (.cells (zeros n) 25)) := by
  refine ⟨fun j hj => ?_, fun j => by simp, (Below.refl _ _).alloc (Nat.le_refl _) _, by simp⟩
  have hz := zeros_size n
  refine ⟨(zeros n)[j * 2]'(by omega), (zeros n)[j * 2 + 1]'(by omega), ?_, ?_, fun h => absurd h (Nat.not_lt_zero _)⟩
  · simp [World.cell?_alloc_new, show j * 2 < (zeros n).size by omega]
  · simp [World.cell?_alloc_new, show j * 2 + 1 < (zeros n).size by omega]
def PRow (w : World) (b o n : Nat) (f : Nat → Int × Int) : Prop := ∀ i, i < n → w.cell? ⟨b, o + i * 2, none⟩ = some (.int .i64 (f i).1) ∧ w.cell? ⟨b, o + i * 2 + 1, none⟩ = some (.int .i64 (f i).2)
theorem PRow.below {w W : World} {b o n B : Nat} {f : Nat → Int × Int} (h : PRow w b o n f) (hb : Below B w W) (hB : b < B) : PRow W b o n f := fun i hi =>
  ⟨(hb.cell (p := ⟨b, o + i * 2, none⟩) hB).trans (h i hi).1, (hb.cell (p := ⟨b, o + i * 2 + 1, none⟩) hB).trans (h i hi).2⟩
theorem Fill.row {w W : World} {n : Nat} {f : Nat → Int × Int} (h : Fill w n f n W) : PRow W w.heap.size 0 n f := fun i hi => by
  obtain ⟨u, v, hu, hv, he⟩ := h.cells i hi
  obtain ⟨rfl, rfl⟩ := he hi
  exact ⟨by simpa using hu, by simpa using hv⟩
end Go.Proofs.Ytfciojkibklkfaa.SpanC
end
section
namespace Go.Proofs.Ytfciojkibklkfaa.SpanC
open Go.RowKit KeptC
def okS (f : Nat → Int × Int) (i : Nat) : Prop := spB (f i).1 (f i).2 = true ∧ (0 < i → (f (i - 1)).2 ≤ (f i).1)
def SpR (n : Nat) (f : Nat → Int × Int) : Prop := n ≤ 20 ∧ ∀ i, i < n → okS f i
end Go.Proofs.Ytfciojkibklkfaa.SpanC
end
section
namespace Go.Proofs.Ytfciojkibklkfaa.SpanC
open Go.RowKit KeptC
set_option linter.unusedSimpArgs false
def PA (W : World) (qa : Option Addr) (n : Nat) (f : Nat → Int × Int) : Prop := ∀ i, i < n → ∃ g o, qa = some ⟨g, o, none⟩ ∧ g < W.heap.size ∧ W.cell? ⟨g, o + i * 2, none⟩ = some (.int .i64 (f i).1) ∧ W.cell? ⟨g, o + i * 2 + 1, none⟩ = some (.int .i64 (f i).2)
theorem PA.below {W W' : World} {qa : Option Addr} {n B : Nat} {f : Nat → Int × Int} (h : PA W qa n f) (hb : Below B W W') (hB : W.heap.size ≤ B) : PA W' qa n f := fun i hi => by
  obtain ⟨g, o, e, hg, h1, h2⟩ := h i hi
  exact ⟨g, o, e, Nat.lt_of_lt_of_le hg hb.size, (hb.cell (p := ⟨g, _, none⟩) (Nat.lt_of_lt_of_le hg hB)).trans h1, (hb.cell (p := ⟨g, _, none⟩) (Nat.lt_of_lt_of_le hg hB)).trans h2⟩
theorem PA.bel {W W' : World} {qa : Option Addr} {n : Nat} {f : Nat → Int × Int} (h : PA W qa n f) (hb : Below W.heap.size W W') : PA W' qa n f := h.below hb (Nat.le_refl _)
theorem PRow.pa {W : World} {g o n : Nat} {f : Nat → Int × Int} (h : PRow W g o n f) (hg : g < W.heap.size) : PA W (some ⟨g, o, none⟩) n f := fun i hi => ⟨g, o, rfl, hg, (h i hi).1, (h i hi).2⟩
theorem PA.row {W : World} {g o n : Nat} {f : Nat → Int × Int} (h : PA W (some ⟨g, o, none⟩) n f) : PRow W g o n f := fun i hi => by
  obtain ⟨g', o', e, _, h1, h2⟩ := h i hi
  cases e
  exact ⟨h1, h2⟩
set_option maxRecDepth 100000 in
set_option maxHeartbeats 3200000 in
theorem spansA_spec (qa : Option Addr) (n qc : Nat) (f : Nat → Int × Int) (w : World) (hn : n ≤ 1048576) (h1 : PA w qa n f) :
    Calls Try.prog 69 #[.slice qa n qc] w (ResB (SpR n f) w) := by
  have H1 := Lib.hid h1
  clear h1
  go_enter Try.func69, Try.ntmps69
  go_wp2
  go_loopw [3] (fun i wr => ∃ k : Nat, k ≤ n ∧ k ≤ 21 ∧ i = .int .i64 k ∧ (∀ j, j < k → okS f j) ∧ Below w.heap.size w wr) (fun i _ => n - (intOf i).toNat)
  case atStart => exact ⟨0, Nat.zero_le _, by omega, rfl, fun j h => absurd h (Nat.not_lt_zero _), Below.refl _ _⟩
  case round =>
    obtain ⟨k, hk, hk21, rfl, hall, hb⟩ := hrel
    have HA := Lib.hid hall
    have HB := Lib.hid hb
    have hsz := hb.size
    clear hall
    by_cases hlt : k < n
    · by_cases h20 : k ≤ 20
      · obtain ⟨g, o, rfl, hgl, hc0, hc1⟩ := (H1.out.bel hb) _ hlt
        have hi0 : (0 : Int) ≤ (k : Int) := Int.natCast_nonneg _
        have hi1 : (k : Int) < (n : Int) := by omega
        clear hb
        cases hr : spB (f k).1 (f k).2 with
        | false =>
          have Hno := Lib.hid (show ¬ SpR n f from fun h => by have := (h.2 k hlt).1; rw [hr] at this; cases this)
          have hrs := fun W => right_spec (f k).1 (f k).2 W
          rw [hr] at hrs
          clear hr
          go_wp2_with fail
          refine wp_region_held_drew (S := (fun W => W.cell? ⟨g, o + k * 2, none⟩ = some (.int .i64 (f k).1) ∧ W.cell? ⟨g, o + k * 2 + 1, none⟩ = some (.int .i64 (f k).2) ∧ wr.heap.size ≤ W.heap.size ∧ Below w.heap.size w W)) (by kernel_rfl) (⟨hc0, hc1, Nat.le_refl _, HB.out.drew⟩) (fun hHeld => ?_)
          refine tk 0 hHeld ?_
          refine tk 1 hHeld ?_
          refine tk 2 hHeld ?_
          refine tk 3 hHeld ?_
          refine rd1 4 (fun K hK => ?_)
          go_simp
          go_at_call 56; refine (hrs _).mono ?_; rintro e w1 ⟨rfl, hb⟩
          refine hK.out _ _ (⟨(hb.cell (p := ⟨g, o + k * 2, none⟩) (Nat.lt_of_lt_of_le hgl hHeld.2.2.1)).trans hHeld.1, (hb.cell (p := ⟨g, o + k * 2 + 1, none⟩) (Nat.lt_of_lt_of_le hgl hHeld.2.2.1)).trans hHeld.2.1, Nat.le_trans hHeld.2.2.1 hb.size, hHeld.2.2.2.trans (hb.mono (Nat.le_trans hsz hHeld.2.2.1))⟩) (fun hHeld => ?_)
          clear hK K
          refine tk 5 hHeld ?_
          refine tk 6 hHeld ?_
          refine tn 7 hHeld ?_
          refine tn 8 hHeld ?_
          refine tn 9 hHeld ?_
          refine tn 10 hHeld ?_
          refine tn 11 hHeld ?_
          refine tn 12 hHeld ?_
          refine tn 13 hHeld ?_
          refine tn 14 hHeld ?_
          refine tn 15 hHeld ?_
          refine tn 16 hHeld ?_
          refine tn 17 hHeld ?_
          refine tn 18 hHeld ?_
          refine tn 19 hHeld ?_
          refine tn 20 hHeld ?_
          refine tn 21 hHeld ?_
          refine tn 22 hHeld ?_
          refine tk 23 hHeld ?_
          refine rd0 ?_
          have HF := Lib.hid hHeld.2.2.2
          clear hHeld
          go_wp2
          go_ret
          exact resB_no Hno.out HF.out
        | true =>
          have hrs := fun W => right_spec (f k).1 (f k).2 W
          rw [hr] at hrs
          have Hr := Lib.hid hr
          clear hr
          rcases Nat.eq_zero_or_pos k with hk0 | hk0
          · subst hk0
            have hc0' : wr.cell? ⟨g, o, none⟩ = some (.int .i64 (f 0).1) := by simpa using hc0
            have hc1' : wr.cell? ⟨g, o + 1, none⟩ = some (.int .i64 (f 0).2) := by simpa using hc1
            clear hc0 hc1
            have HOK := Lib.hid (all_step HA.out ⟨Hr.out, fun h => absurd h (Nat.lt_irrefl _)⟩)
            go_wp2_with fail
            refine wp_region_held_drew (S := (fun W => W.cell? ⟨g, o, none⟩ = some (.int .i64 (f 0).1) ∧ W.cell? ⟨g, o + 1, none⟩ = some (.int .i64 (f 0).2) ∧ wr.heap.size ≤ W.heap.size ∧ Below w.heap.size w W)) (by kernel_rfl) (⟨hc0', hc1', Nat.le_refl _, HB.out.drew⟩) (fun hHeld => ?_)
            refine tk 0 hHeld ?_
            refine tk 1 hHeld ?_
            refine tk 2 hHeld ?_
            refine tk 3 hHeld ?_
            refine rd1 4 (fun K hK => ?_)
            go_simp
            go_at_call 56; refine (hrs _).mono ?_; rintro e w1 ⟨rfl, hb⟩
            refine hK.out _ _ (⟨(hb.cell (p := ⟨g, o, none⟩) (Nat.lt_of_lt_of_le hgl hHeld.2.2.1)).trans hHeld.1, (hb.cell (p := ⟨g, o + 1, none⟩) (Nat.lt_of_lt_of_le hgl hHeld.2.2.1)).trans hHeld.2.1, Nat.le_trans hHeld.2.2.1 hb.size, hHeld.2.2.2.trans (hb.mono (Nat.le_trans hsz hHeld.2.2.1))⟩) (fun hHeld => ?_)
            clear hK K
            refine tk 5 hHeld ?_
            refine tk 6 hHeld ?_
            refine tk 7 hHeld ?_
            refine tk 8 hHeld ?_
            refine tk 9 hHeld ?_
            refine tn 10 hHeld ?_
            refine tn 11 hHeld ?_
            refine tn 12 hHeld ?_
            refine tn 13 hHeld ?_
            refine tn 14 hHeld ?_
            refine tn 15 hHeld ?_
            refine tn 16 hHeld ?_
            refine tn 17 hHeld ?_
            refine tn 18 hHeld ?_
            refine tn 19 hHeld ?_
            refine tn 20 hHeld ?_
            refine tn 21 hHeld ?_
            refine tk 22 hHeld ?_
            refine tk 23 hHeld ?_
            refine rd0 ?_
            have HF := Lib.hid hHeld.2.2.2
            clear hHeld
            go_wp2
            go_roundw
            case rel => exact ⟨1, by omega, by omega, by go_num, HOK.out, HF.out⟩
            case measure => simp [intOf]; omega
          · obtain ⟨j, rfl⟩ : ∃ j, k = j + 1 := ⟨k - 1, by omega⟩
            obtain ⟨g2, o2, e2, _, hd0, hd1⟩ := (H1.out.bel HB.out) j (by omega)
            cases e2
            have hj0 : (0 : Int) ≤ (j : Int) := Int.natCast_nonneg _
            have hj1 : (j : Int) < (n : Int) := by omega
            have hjw2 : IntKind.i64.wrap (j : Int) = (j : Int) := IntWalk.i64_in _ (by omega)
            have hi0p : (0 : Int) ≤ (j : Int) + 1 := by omega
            have hi1p : (j : Int) + 1 < (n : Int) := by omega
            have hjw : IntKind.i64.wrap ((j : Int) + 1 - 1) = (j : Int) := (by rw [show (j : Int) + 1 - 1 = (j : Int) by omega]; exact IntWalk.i64_in _ (by omega))
            have hjp : decide ((0 : Int) < (j : Int) + 1) = true := decide_eq_true (by omega)
            by_cases hlo : (f (j + 1)).1 < (f j).2
            · have Hno := Lib.hid (show ¬ SpR n f from fun h => by have h2 := (h.2 (j + 1) hlt).2 (Nat.succ_pos _); simp only [Nat.add_sub_cancel] at h2; omega)
              have hlo' : decide ((f (j + 1)).1 < (f j).2) = true := decide_eq_true hlo
              go_wp2_with fail
              refine wp_region_held_drew (S := (fun W => W.cell? ⟨g, o + j * 2, none⟩ = some (.int .i64 (f j).1) ∧ W.cell? ⟨g, o + j * 2 + 1, none⟩ = some (.int .i64 (f j).2) ∧ W.cell? ⟨g, o + (j + 1) * 2, none⟩ = some (.int .i64 (f (j + 1)).1) ∧ W.cell? ⟨g, o + (j + 1) * 2 + 1, none⟩ = some (.int .i64 (f (j + 1)).2) ∧ wr.heap.size ≤ W.heap.size ∧ Below w.heap.size w W)) (by kernel_rfl) (⟨hd0, hd1, hc0, hc1, Nat.le_refl _, HB.out.drew⟩) (fun hHeld => ?_)
              refine tk 0 hHeld ?_
              refine tk 1 hHeld ?_
              refine tk 2 hHeld ?_
              refine tk 3 hHeld ?_
              refine rd1 4 (fun K hK => ?_)
              go_simp
              go_at_call 56; refine (hrs _).mono ?_; rintro e w1 ⟨rfl, hb⟩
              refine hK.out _ _ (⟨(hb.cell (p := ⟨g, o + j * 2, none⟩) (Nat.lt_of_lt_of_le hgl hHeld.2.2.2.2.1)).trans hHeld.1, (hb.cell (p := ⟨g, o + j * 2 + 1, none⟩) (Nat.lt_of_lt_of_le hgl hHeld.2.2.2.2.1)).trans hHeld.2.1, (hb.cell (p := ⟨g, o + (j + 1) * 2, none⟩) (Nat.lt_of_lt_of_le hgl hHeld.2.2.2.2.1)).trans hHeld.2.2.1, (hb.cell (p := ⟨g, o + (j + 1) * 2 + 1, none⟩) (Nat.lt_of_lt_of_le hgl hHeld.2.2.2.2.1)).trans hHeld.2.2.2.1, Nat.le_trans hHeld.2.2.2.2.1 hb.size, hHeld.2.2.2.2.2.trans (hb.mono (Nat.le_trans hsz hHeld.2.2.2.2.1))⟩) (fun hHeld => ?_)
              clear hK K
              refine tk 5 hHeld ?_
              refine tk 6 hHeld ?_
              refine tk 7 hHeld ?_
              refine tk 8 hHeld ?_
              refine tk 9 hHeld ?_
              refine tk 10 hHeld ?_
              refine tk 11 hHeld ?_
              refine tk 12 hHeld ?_
              refine tk 13 hHeld ?_
              refine tk 14 hHeld ?_
              refine tk 15 hHeld ?_
              refine tk 16 hHeld ?_
              refine tk 17 hHeld ?_
              refine tk 18 hHeld ?_
              refine tk 19 hHeld ?_
              refine tk 20 hHeld ?_
              refine tk 21 hHeld ?_
              refine tk 22 hHeld ?_
              refine tk 23 hHeld ?_
              refine rd0 ?_
              have HF := Lib.hid hHeld.2.2.2.2.2
              clear hHeld
              go_wp2
              go_ret
              exact resB_no Hno.out HF.out
            · have HOK := Lib.hid (all_step HA.out (show okS f (j + 1) from ⟨Hr.out, fun _ => by simp only [Nat.add_sub_cancel]; omega⟩))
              have hlo' : decide ((f (j + 1)).1 < (f j).2) = false := decide_eq_false hlo
              go_wp2_with fail
              refine wp_region_held_drew (S := (fun W => W.cell? ⟨g, o + j * 2, none⟩ = some (.int .i64 (f j).1) ∧ W.cell? ⟨g, o + j * 2 + 1, none⟩ = some (.int .i64 (f j).2) ∧ W.cell? ⟨g, o + (j + 1) * 2, none⟩ = some (.int .i64 (f (j + 1)).1) ∧ W.cell? ⟨g, o + (j + 1) * 2 + 1, none⟩ = some (.int .i64 (f (j + 1)).2) ∧ wr.heap.size ≤ W.heap.size ∧ Below w.heap.size w W)) (by kernel_rfl) (⟨hd0, hd1, hc0, hc1, Nat.le_refl _, HB.out.drew⟩) (fun hHeld => ?_)
              refine tk 0 hHeld ?_
              refine tk 1 hHeld ?_
              refine tk 2 hHeld ?_
              refine tk 3 hHeld ?_
              refine rd1 4 (fun K hK => ?_)
              go_simp
              go_at_call 56; refine (hrs _).mono ?_; rintro e w1 ⟨rfl, hb⟩
              refine hK.out _ _ (⟨(hb.cell (p := ⟨g, o + j * 2, none⟩) (Nat.lt_of_lt_of_le hgl hHeld.2.2.2.2.1)).trans hHeld.1, (hb.cell (p := ⟨g, o + j * 2 + 1, none⟩) (Nat.lt_of_lt_of_le hgl hHeld.2.2.2.2.1)).trans hHeld.2.1, (hb.cell (p := ⟨g, o + (j + 1) * 2, none⟩) (Nat.lt_of_lt_of_le hgl hHeld.2.2.2.2.1)).trans hHeld.2.2.1, (hb.cell (p := ⟨g, o + (j + 1) * 2 + 1, none⟩) (Nat.lt_of_lt_of_le hgl hHeld.2.2.2.2.1)).trans hHeld.2.2.2.1, Nat.le_trans hHeld.2.2.2.2.1 hb.size, hHeld.2.2.2.2.2.trans (hb.mono (Nat.le_trans hsz hHeld.2.2.2.2.1))⟩) (fun hHeld => ?_)
              clear hK K
              refine tk 5 hHeld ?_
              refine tk 6 hHeld ?_
              refine tk 7 hHeld ?_
              refine tk 8 hHeld ?_
              refine tk 9 hHeld ?_
              refine tk 10 hHeld ?_
              refine tk 11 hHeld ?_
              refine tk 12 hHeld ?_
              refine tk 13 hHeld ?_
              refine tk 14 hHeld ?_
              refine tk 15 hHeld ?_
              refine tk 16 hHeld ?_
              refine tk 17 hHeld ?_
              refine tk 18 hHeld ?_
              refine tk 19 hHeld ?_
              refine tk 20 hHeld ?_
              refine tk 21 hHeld ?_
              refine tk 22 hHeld ?_
              refine tk 23 hHeld ?_
              refine rd0 ?_
              have HF := Lib.hid hHeld.2.2.2.2.2
              clear hHeld
              go_wp2
              go_roundw
              case rel => exact ⟨j + 2, by omega, by omega, by go_num, HOK.out, HF.out⟩
              case measure => simp [intOf]; omega
      · have Hno := Lib.hid (show ¬ SpR n f from fun h => by have := h.1; omega)
        have hdk : decide ((k : Int) ≤ 20) = false := decide_eq_false (by omega)
        have hdn : decide ((n : Int) ≤ 20) = false := decide_eq_false (by omega)
        clear hb
        go_wp2
        go_ret
        exact resB_no Hno.out HB.out
    · clear hb
      by_cases hn20 : n ≤ 20
      · have Hy := Lib.hid (show SpR n f from ⟨hn20, fun i hi => HA.out i (by omega)⟩)
        have hdn : decide ((n : Int) ≤ 20) = true := decide_eq_true (by omega)
        go_wp2
        go_ret
        exact resB_yes Hy.out HB.out
      · have Hno := Lib.hid (show ¬ SpR n f from fun h => hn20 h.1)
        have hdn : decide ((n : Int) ≤ 20) = false := decide_eq_false (by omega)
        go_wp2
        go_ret
        exact resB_no Hno.out HB.out
end Go.Proofs.Ytfciojkibklkfaa.SpanC
end
section
namespace Go.Proofs.Ytfciojkibklkfaa.SpanC
open Go.RowKit KeptC
set_option linter.unusedSimpArgs false
theorem method_before (a b : Int) (w : World) : (Go.method 219 25 (.agg #[.int .i64 a, .int .i64 b]) "loop.example/g00658/impl.before").run Try.prog w = .ok (113, .agg #[.int .i64 a, .int .i64 b]) w := by kernel_rfl
def Ord (n : Nat) (f : Nat → Int × Int) : Prop := ∀ j, j + 1 < n → (f j).2 ≤ (f (j + 1)).1
set_option maxRecDepth 100000 in
set_option maxHeartbeats 3200000 in
theorem order_impl (qa : Option Addr) (n qc : Nat) (f : Nat → Int × Int) (w : World) (hn : n ≤ 1048576) (h1 : PA w qa n f) :
    Calls Try.prog 89 #[.slice qa n qc] w (ResB (Ord n f) w) := by
  have H1 := Lib.hid h1
  clear h1
  go_enter Try.func89, Try.ntmps89
  go_wp2
  go_loopw [3] (fun i wr => ∃ k : Nat, (k ≤ n ∨ k = 1) ∧ 1 ≤ k ∧ i = .int .i64 k ∧ (∀ j, j + 1 < k → (f j).2 ≤ (f (j + 1)).1) ∧ Below w.heap.size w wr) (fun i _ => n - (intOf i).toNat)
  case atStart => exact ⟨1, .inr rfl, by omega, rfl, fun j h => by omega, Below.refl _ _⟩
  case round =>
    obtain ⟨k, hk, hk1, rfl, hall, hb⟩ := hrel
    have HA := Lib.hid hall
    have HB := Lib.hid hb
    have hsz := hb.size
    clear hall
    by_cases hlt : k < n
    · obtain ⟨j, rfl⟩ : ∃ j, k = j + 1 := ⟨k - 1, by omega⟩
      obtain ⟨g, o, rfl, hgl, hc0, hc1⟩ := (H1.out.bel hb) _ hlt
      obtain ⟨g2, o2, e2, _, hd0, hd1⟩ := (H1.out.bel HB.out) j (by omega)
      cases e2
      have hj0 : (0 : Int) ≤ (j : Int) := Int.natCast_nonneg _
      have hj1 : (j : Int) < (n : Int) := by omega
      have hjw2 : IntKind.i64.wrap (j : Int) = (j : Int) := IntWalk.i64_in _ (by omega)
      have hi0p : (0 : Int) ≤ (j : Int) + 1 := by omega
      have hi1p : (j : Int) + 1 < (n : Int) := by omega
      have hjw : IntKind.i64.wrap ((j : Int) + 1 - 1) = (j : Int) := (by rw [show (j : Int) + 1 - 1 = (j : Int) by omega]; exact IntWalk.i64_in _ (by omega))
      clear hb
      have hm := method_before (f j).1 (f j).2
      have hrs := fun W => before_impl (f j).1 (f j).2 (f (j + 1)).1 (f (j + 1)).2 W
      by_cases hlo : (f j).2 ≤ (f (j + 1)).1
      · have HOK := Lib.hid (show ∀ i, i + 1 < j + 2 → (f i).2 ≤ (f (i + 1)).1 from fun i hi => by
          by_cases e : i = j
          · subst e; exact hlo
          · exact HA.out i (by omega))
        rw [decide_eq_true hlo] at hrs
        go_wp2_with fail
        refine wp_region_held_drew (S := (fun W => W.cell? ⟨g, o + j * 2, none⟩ = some (.int .i64 (f j).1) ∧ W.cell? ⟨g, o + j * 2 + 1, none⟩ = some (.int .i64 (f j).2) ∧ W.cell? ⟨g, o + (j + 1) * 2, none⟩ = some (.int .i64 (f (j + 1)).1) ∧ W.cell? ⟨g, o + (j + 1) * 2 + 1, none⟩ = some (.int .i64 (f (j + 1)).2) ∧ wr.heap.size ≤ W.heap.size ∧ Below w.heap.size w W)) (by kernel_rfl) (⟨hd0, hd1, hc0, hc1, Nat.le_refl _, HB.out.drew⟩) (fun hHeld => ?_)
        refine tk 0 hHeld ?_
        refine tk 1 hHeld ?_
        refine tk 2 hHeld ?_
        refine tk 3 hHeld ?_
        refine tk 4 hHeld ?_
        refine tk 5 hHeld ?_
        refine tk 6 hHeld ?_
        refine tk 7 hHeld ?_
        refine tk 8 hHeld ?_
        refine tk 9 hHeld ?_
        refine rd1 10 (fun K hK => ?_)
        go_simp
        go_at_call 113; refine (hrs _).mono ?_; rintro e w1 ⟨rfl, hb⟩
        refine hK.out _ _ (⟨(hb.cell (p := ⟨g, o + j * 2, none⟩) (Nat.lt_of_lt_of_le hgl hHeld.2.2.2.2.1)).trans hHeld.1, (hb.cell (p := ⟨g, o + j * 2 + 1, none⟩) (Nat.lt_of_lt_of_le hgl hHeld.2.2.2.2.1)).trans hHeld.2.1, (hb.cell (p := ⟨g, o + (j + 1) * 2, none⟩) (Nat.lt_of_lt_of_le hgl hHeld.2.2.2.2.1)).trans hHeld.2.2.1, (hb.cell (p := ⟨g, o + (j + 1) * 2 + 1, none⟩) (Nat.lt_of_lt_of_le hgl hHeld.2.2.2.2.1)).trans hHeld.2.2.2.1, Nat.le_trans hHeld.2.2.2.2.1 hb.size, hHeld.2.2.2.2.2.trans (hb.mono (Nat.le_trans hsz hHeld.2.2.2.2.1))⟩) (fun hHeld => ?_)
        clear hK K
        refine tk 11 hHeld ?_
        refine rd0 ?_
        have HF := Lib.hid hHeld.2.2.2.2.2
        clear hHeld
        go_wp2
        go_roundw
        case rel => exact ⟨j + 2, by omega, by omega, by go_num, HOK.out, HF.out⟩
        case measure => simp [intOf]; omega
      · have Hno := Lib.hid (show ¬ Ord n f from fun h => hlo (h j hlt))
        rw [decide_eq_false hlo] at hrs
        go_wp2_with fail
        refine wp_region_held_drew (S := (fun W => W.cell? ⟨g, o + j * 2, none⟩ = some (.int .i64 (f j).1) ∧ W.cell? ⟨g, o + j * 2 + 1, none⟩ = some (.int .i64 (f j).2) ∧ W.cell? ⟨g, o + (j + 1) * 2, none⟩ = some (.int .i64 (f (j + 1)).1) ∧ W.cell? ⟨g, o + (j + 1) * 2 + 1, none⟩ = some (.int .i64 (f (j + 1)).2) ∧ wr.heap.size ≤ W.heap.size ∧ Below w.heap.size w W)) (by kernel_rfl) (⟨hd0, hd1, hc0, hc1, Nat.le_refl _, HB.out.drew⟩) (fun hHeld => ?_)
        refine tk 0 hHeld ?_
        refine tk 1 hHeld ?_
        refine tk 2 hHeld ?_
        refine tk 3 hHeld ?_
        refine tk 4 hHeld ?_
        refine tk 5 hHeld ?_
        refine tk 6 hHeld ?_
        refine tk 7 hHeld ?_
        refine tk 8 hHeld ?_
        refine tk 9 hHeld ?_
        refine rd1 10 (fun K hK => ?_)
        go_simp
        go_at_call 113; refine (hrs _).mono ?_; rintro e w1 ⟨rfl, hb⟩
        refine hK.out _ _ (⟨(hb.cell (p := ⟨g, o + j * 2, none⟩) (Nat.lt_of_lt_of_le hgl hHeld.2.2.2.2.1)).trans hHeld.1, (hb.cell (p := ⟨g, o + j * 2 + 1, none⟩) (Nat.lt_of_lt_of_le hgl hHeld.2.2.2.2.1)).trans hHeld.2.1, (hb.cell (p := ⟨g, o + (j + 1) * 2, none⟩) (Nat.lt_of_lt_of_le hgl hHeld.2.2.2.2.1)).trans hHeld.2.2.1, (hb.cell (p := ⟨g, o + (j + 1) * 2 + 1, none⟩) (Nat.lt_of_lt_of_le hgl hHeld.2.2.2.2.1)).trans hHeld.2.2.2.1, Nat.le_trans hHeld.2.2.2.2.1 hb.size, hHeld.2.2.2.2.2.trans (hb.mono (Nat.le_trans hsz hHeld.2.2.2.2.1))⟩) (fun hHeld => ?_)
        clear hK K
        refine tk 11 hHeld ?_
        refine rd0 ?_
        have HF := Lib.hid hHeld.2.2.2.2.2
        clear hHeld
        go_wp2
        go_ret
        exact resB_no Hno.out HF.out
    · have Hy := Lib.hid (show Ord n f from fun j hj => HA.out j (by omega))
      clear hb
      go_wp2
      go_ret
      exact resB_yes Hy.out HB.out
end Go.Proofs.Ytfciojkibklkfaa.SpanC
end
section
namespace Go.Proofs.Ytfciojkibklkfaa.SpanC
open Go.RowKit KeptC
set_option linter.unusedSimpArgs false
theorem spR_of {n : Nat} {f : Nat → Int × Int} (h : n ≤ 20) (h1 : ∀ i, i < n → spB (f i).1 (f i).2 = true) (h2 : Ord n f) : SpR n f :=
  ⟨h, fun i hi => ⟨h1 i hi, fun h0 => by
    have := h2 (i - 1) (by omega)
    rwa [show i - 1 + 1 = i by omega] at this⟩⟩
theorem ord_of {n : Nat} {f : Nat → Int × Int} (h : SpR n f) : Ord n f := fun j hj => (h.2 (j + 1) hj).2 (Nat.succ_pos _)
set_option maxRecDepth 100000 in
set_option maxHeartbeats 3200000 in
theorem spans_impl (qa : Option Addr) (n qc : Nat) (f : Nat → Int × Int) (w : World) (hn : n ≤ 1048576) (h1 : PA w qa n f) :
    Calls Try.prog 68 #[.slice qa n qc] w (ResB (SpR n f) w) := by
  have H1 := Lib.hid h1
  clear h1
  by_cases h20 : n ≤ 20
  · have hd : decide ((20 : Int) < (n : Int)) = false := decide_eq_false (by omega)
    go_enter Try.func68, Try.ntmps68
    go_wp2
    go_loopw [10] (fun i wr => ∃ k : Nat, k ≤ n ∧ i = .int .i64 k ∧ (∀ j, j < k → spB (f j).1 (f j).2 = true) ∧ Below w.heap.size w wr) (fun i _ => n - (intOf i).toNat)
    case atStart => exact ⟨0, Nat.zero_le _, rfl, fun j h => absurd h (Nat.not_lt_zero _), Below.refl _ _⟩
    case round =>
      obtain ⟨k, hk, rfl, hall, hb⟩ := hrel
      have HA := Lib.hid hall
      have HB := Lib.hid hb
      have hsz := hb.size
      clear hall
      by_cases hlt : k < n
      · obtain ⟨g, o, rfl, hgl, hc0, hc1⟩ := (H1.out.bel hb) _ hlt
        have hi0 : (0 : Int) ≤ (k : Int) := Int.natCast_nonneg _
        have hi1 : (k : Int) < (n : Int) := by omega
        have hrs := fun W => right_impl (f k).1 (f k).2 W
        clear hb
        cases hr : spB (f k).1 (f k).2 with
        | false =>
          have Hno := Lib.hid (show ¬ SpR n f from fun h => by have := (h.2 k hlt).1; rw [hr] at this; cases this)
          rw [hr] at hrs
          clear hr
          go_wp2_with (go_at_call 50; refine (hrs _).mono ?_; rintro e w1 ⟨rfl, hb⟩; have HB2 := Lib.hid (Below.trans (B := w.heap.size) (a := w) (by repeat (first | exact HB.out | refine Below.drew ?_ | refine Below.setCell ?_ (by first | omega | (simp <;> omega)) _ | refine Below.alloc ?_ (by first | omega | (simp <;> omega)) _)) (hb.mono (by first | omega | (simp <;> omega)))); clear hb)
          go_ret
          exact resB_no Hno.out HB2.out
        | true =>
          have HOK := Lib.hid (all_step HA.out hr)
          rw [hr] at hrs
          clear hr
          go_wp2_with (go_at_call 50; refine (hrs _).mono ?_; rintro e w1 ⟨rfl, hb⟩; have HB2 := Lib.hid (Below.trans (B := w.heap.size) (a := w) (by repeat (first | exact HB.out | refine Below.drew ?_ | refine Below.setCell ?_ (by first | omega | (simp <;> omega)) _ | refine Below.alloc ?_ (by first | omega | (simp <;> omega)) _)) (hb.mono (by first | omega | (simp <;> omega)))); clear hb)
          go_roundw
          case rel => exact ⟨k + 1, by omega, by go_num, HOK.out, HB2.out⟩
          case measure => simp [intOf]; omega
      · clear hb
        obtain rfl : k = n := by omega
        go_wp2_with fail
        refine (order_impl qa k qc f _ hn (H1.out.bel HB.out)).mono ?_
        intro e w1 h
        obtain ⟨b, rfl, hb, hB⟩ := resB_elim h
        have HB2 := Lib.hid (HB.out.trans (hB.mono hsz))
        have Hb := Lib.hid (show b = true ↔ SpR k f from ⟨fun h => spR_of h20 HA.out (hb.1 h), fun h => hb.2 (ord_of h)⟩)
        clear h hB hb
        go_wp2
        go_ret
        exact ⟨b, rfl, Hb.out, HB2.out⟩
  · have Hno := Lib.hid (show ¬ SpR n f from fun h => h20 h.1)
    have hd : decide ((20 : Int) < (n : Int)) = true := decide_eq_true (by omega)
    go_enter Try.func68, Try.ntmps68
    go_wp2
    go_ret
    exact resB_no Hno.out (Below.refl _ _)
end Go.Proofs.Ytfciojkibklkfaa.SpanC
end
section
namespace Go.Proofs.Ytfciojkibklkfaa.SpanC
open Go.RowKit KeptC
set_option linter.unusedSimpArgs false
set_option linter.unusedVariables false
def PlaceP (n : Nat) (f : Nat → Int × Int) (a : Int) (p : Nat) : Prop := p ≤ n ∧ (∀ j, j < p → (f j).2 ≤ a) ∧ (p < n → ¬ (f p).2 ≤ a)
def ResPlace (n : Nat) (f : Nat → Int × Int) (a : Int) (w : World) (e : Ending) (w' : World) : Prop := ∃ p : Nat, e = .returned (.int .i64 p) ∧ PlaceP n f a p ∧ Below w.heap.size w w'
theorem resPlace_elim {n : Nat} {f : Nat → Int × Int} {a : Int} {w : World} {e : Ending} {w' : World} (h : ResPlace n f a w e w') : ∃ p : Nat, e = .returned (.int .i64 p) ∧ PlaceP n f a p ∧ Below w.heap.size w w' := h
theorem bel1 {w W : World} {o : Obj} (h : Below (w.heap.size + 1) (w.alloc o) W) : Below w.heap.size w W := ((Below.refl w.heap.size w).alloc (Nat.le_refl _) o).trans (h.mono (Nat.le_succ _))
theorem box0 {w W : World} {x y : Value} {t : TypeId} (h : Below (w.heap.size + 1) (w.alloc (.cells #[x, y] t)) W) : W.cell? ⟨w.heap.size, 0, none⟩ = some x ∧ W.cell? ⟨w.heap.size, 1, none⟩ = some y ∧ w.heap.size < W.heap.size := by
  refine ⟨(h.cell (p := ⟨w.heap.size, 0, none⟩) (Nat.lt_succ_self _)).trans (by simp), (h.cell (p := ⟨w.heap.size, 1, none⟩) (Nat.lt_succ_self _)).trans (by simp), ?_⟩
  have := h.size
  simp at this
  omega
set_option maxRecDepth 100000 in
set_option maxHeartbeats 3200000 in
theorem place_impl (qa : Option Addr) (n qc : Nat) (f : Nat → Int × Int) (a b : Int) (w : World) (hn : n ≤ 1048576) (h1 : PA w qa n f) :
    Calls Try.prog 53 #[.slice qa n qc, .agg #[.int .i64 a, .int .i64 b]] w (ResPlace n f a w) := by
  have H1 := Lib.hid h1
  clear h1
  go_enter Try.func53, Try.ntmps53
  go_wp2
  go_loopw [5] (fun i wr => ∃ k : Nat, k ≤ n ∧ i = .int .i64 k ∧ (∀ j, j < k → (f j).2 ≤ a) ∧ Below (w.heap.size + 1) (w.alloc (.cells #[.int .i64 a, .int .i64 b] 25)) wr) (fun i _ => n - (intOf i).toNat)
  case atStart => exact ⟨0, Nat.zero_le _, rfl, fun j h => absurd h (Nat.not_lt_zero _), by simpa using Below.refl _ _⟩
  case round =>
    obtain ⟨k, hk, rfl, hall, hb⟩ := hrel
    have HA := Lib.hid hall
    have HB := Lib.hid hb
    have ⟨hx0, hx1, hxl⟩ := box0 hb
    have hsz : w.heap.size + 1 ≤ wr.heap.size := hxl
    clear hall
    by_cases hlt : k < n
    · obtain ⟨g, o, rfl, hgl, hc0, hc1⟩ := (H1.out.bel (bel1 hb)) _ hlt
      have hi0 : (0 : Int) ≤ (k : Int) := Int.natCast_nonneg _
      have hi1 : (k : Int) < (n : Int) := by omega
      have hkn : decide ((k : Int) < (n : Int)) = true := decide_eq_true hi1
      have hkn' : decide (k < n) = true := decide_eq_true hlt
      clear hb
      have hm := method_before (f k).1 (f k).2
      have hrs := fun W => before_impl (f k).1 (f k).2 a b W
      by_cases hlo : (f k).2 ≤ a
      · have HOK := Lib.hid (all_step (P := fun j => (f j).2 ≤ a) HA.out hlo)
        rw [decide_eq_true hlo] at hrs
        go_wp2_with fail
        refine wp_region_held_drew (S := (fun W => W.cell? ⟨g, o + k * 2, none⟩ = some (.int .i64 (f k).1) ∧ W.cell? ⟨g, o + k * 2 + 1, none⟩ = some (.int .i64 (f k).2) ∧ W.cell? ⟨w.heap.size, 0, none⟩ = some (.int .i64 a) ∧ W.cell? ⟨w.heap.size, 1, none⟩ = some (.int .i64 b) ∧ wr.heap.size ≤ W.heap.size ∧ Below (w.heap.size + 1) (w.alloc (.cells #[.int .i64 a, .int .i64 b] 25)) W)) (by kernel_rfl) (⟨hc0, hc1, hx0, hx1, Nat.le_refl _, HB.out.drew⟩) (fun hHeld => ?_)
        refine tk 0 hHeld ?_
        refine tk 1 hHeld ?_
        refine tk 2 hHeld ?_
        refine tk 3 hHeld ?_
        refine tk 4 hHeld ?_
        refine tk 5 hHeld ?_
        refine tk 6 hHeld ?_
        refine tk 7 hHeld ?_
        refine tk 8 hHeld ?_
        refine tk 9 hHeld ?_
        refine tk 10 hHeld ?_
        refine rd1 11 (fun K hK => ?_)
        go_simp
        go_at_call 113; refine (hrs _).mono ?_; rintro e w1 ⟨rfl, hb⟩
        refine hK.out _ _ (⟨(hb.cell (p := ⟨g, o + k * 2, none⟩) (Nat.lt_of_lt_of_le hgl hHeld.2.2.2.2.1)).trans hHeld.1, (hb.cell (p := ⟨g, o + k * 2 + 1, none⟩) (Nat.lt_of_lt_of_le hgl hHeld.2.2.2.2.1)).trans hHeld.2.1, (hb.cell (p := ⟨w.heap.size, 0, none⟩) (Nat.lt_of_lt_of_le hxl hHeld.2.2.2.2.1)).trans hHeld.2.2.1, (hb.cell (p := ⟨w.heap.size, 1, none⟩) (Nat.lt_of_lt_of_le hxl hHeld.2.2.2.2.1)).trans hHeld.2.2.2.1, Nat.le_trans hHeld.2.2.2.2.1 hb.size, hHeld.2.2.2.2.2.trans (hb.mono (Nat.le_trans hsz hHeld.2.2.2.2.1))⟩) (fun hHeld => ?_)
        clear hK K
        refine tk 12 hHeld ?_
        refine rd0 ?_
        have HF := Lib.hid hHeld.2.2.2.2.2
        clear hHeld
        go_wp2
        go_roundw
        case rel => exact ⟨k + 1, by omega, by go_num, HOK.out, HF.out⟩
        case measure => simp [intOf]; omega
      · have HOK := Lib.hid (show PlaceP n f a k from ⟨hk, HA.out, fun _ => hlo⟩)
        rw [decide_eq_false hlo] at hrs
        go_wp2_with fail
        refine wp_region_held_drew (S := (fun W => W.cell? ⟨g, o + k * 2, none⟩ = some (.int .i64 (f k).1) ∧ W.cell? ⟨g, o + k * 2 + 1, none⟩ = some (.int .i64 (f k).2) ∧ W.cell? ⟨w.heap.size, 0, none⟩ = some (.int .i64 a) ∧ W.cell? ⟨w.heap.size, 1, none⟩ = some (.int .i64 b) ∧ wr.heap.size ≤ W.heap.size ∧ Below (w.heap.size + 1) (w.alloc (.cells #[.int .i64 a, .int .i64 b] 25)) W)) (by kernel_rfl) (⟨hc0, hc1, hx0, hx1, Nat.le_refl _, HB.out.drew⟩) (fun hHeld => ?_)
        refine tk 0 hHeld ?_
        refine tk 1 hHeld ?_
        refine tk 2 hHeld ?_
        refine tk 3 hHeld ?_
        refine tk 4 hHeld ?_
        refine tk 5 hHeld ?_
        refine tk 6 hHeld ?_
        refine tk 7 hHeld ?_
        refine tk 8 hHeld ?_
        refine tk 9 hHeld ?_
        refine tk 10 hHeld ?_
        refine rd1 11 (fun K hK => ?_)
        go_simp
        go_at_call 113; refine (hrs _).mono ?_; rintro e w1 ⟨rfl, hb⟩
        refine hK.out _ _ (⟨(hb.cell (p := ⟨g, o + k * 2, none⟩) (Nat.lt_of_lt_of_le hgl hHeld.2.2.2.2.1)).trans hHeld.1, (hb.cell (p := ⟨g, o + k * 2 + 1, none⟩) (Nat.lt_of_lt_of_le hgl hHeld.2.2.2.2.1)).trans hHeld.2.1, (hb.cell (p := ⟨w.heap.size, 0, none⟩) (Nat.lt_of_lt_of_le hxl hHeld.2.2.2.2.1)).trans hHeld.2.2.1, (hb.cell (p := ⟨w.heap.size, 1, none⟩) (Nat.lt_of_lt_of_le hxl hHeld.2.2.2.2.1)).trans hHeld.2.2.2.1, Nat.le_trans hHeld.2.2.2.2.1 hb.size, hHeld.2.2.2.2.2.trans (hb.mono (Nat.le_trans hsz hHeld.2.2.2.2.1))⟩) (fun hHeld => ?_)
        clear hK K
        refine tk 12 hHeld ?_
        refine rd0 ?_
        have HF := Lib.hid hHeld.2.2.2.2.2
        clear hHeld
        go_wp2
        go_ret
        exact ⟨k, rfl, HOK.out, bel1 HF.out⟩
    · obtain rfl : k = n := by omega
      have HOK := Lib.hid (show PlaceP k f a k from ⟨hk, HA.out, fun h => absurd h hlt⟩)
      have hkn : decide ((k : Int) < (k : Int)) = false := decide_eq_false (by omega)
      have hkn' : decide (k < k) = false := decide_eq_false (by omega)
      clear hb
      go_wp2_with fail
      refine wp_region_held_drew (S := (fun W => W.cell? ⟨w.heap.size, 0, none⟩ = some (.int .i64 a) ∧ W.cell? ⟨w.heap.size, 1, none⟩ = some (.int .i64 b) ∧ wr.heap.size ≤ W.heap.size ∧ Below (w.heap.size + 1) (w.alloc (.cells #[.int .i64 a, .int .i64 b] 25)) W)) (by kernel_rfl) (⟨hx0, hx1, Nat.le_refl _, HB.out.drew⟩) (fun hHeld => ?_)
      refine tk 0 hHeld ?_
      refine tk 1 hHeld ?_
      refine tk 2 hHeld ?_
      refine tk 3 hHeld ?_
      refine tk 4 hHeld ?_
      refine tn 5 hHeld ?_
      refine tn 6 hHeld ?_
      refine tn 7 hHeld ?_
      refine tn 8 hHeld ?_
      refine tn 9 hHeld ?_
      refine tn 10 hHeld ?_
      refine tn 11 hHeld ?_
      refine tk 12 hHeld ?_
      refine rd0 ?_
      have HF := Lib.hid hHeld.2.2.2
      clear hHeld
      go_wp2
      go_ret
      exact ⟨k, rfl, HOK.out, bel1 HF.out⟩
def FreeP (n : Nat) (f : Nat → Int × Int) (a b : Int) : Prop := ∀ i, i < n → ¬ ((f i).1 < b ∧ a < (f i).2)
theorem sp_lt {n : Nat} {f : Nat → Int × Int} (h : SpR n f) {i : Nat} (hi : i < n) : (f i).1 < (f i).2 := ((spB_iff _ _).1 (h.2 i hi).1).2.1
theorem sp_mono {n : Nat} {f : Nat → Int × Int} (h : SpR n f) : ∀ j i, i < j → j < n → (f i).2 ≤ (f j).1 := by
  intro j
  induction j with
  | zero => intro i hi; omega
  | succ j ih =>
    intro i hi hj
    have h1 := (h.2 (j + 1) hj).2 (Nat.succ_pos _)
    simp only [Nat.add_sub_cancel] at h1
    by_cases e : i = j
    · subst e; exact h1
    · have h2 := ih i (by omega) (by omega)
      have h3 := sp_lt h (i := j) (by omega)
      omega
theorem fits_iff {n : Nat} {f : Nat → Int × Int} {a b : Int} {p : Nat} (h : SpR n f) (hab : a < b) (hp : PlaceP n f a p) : (p = n ∨ b ≤ (f p).1) ↔ FreeP n f a b := by
  obtain ⟨h0, h1, h2⟩ := hp
  constructor
  · intro hh i hi ⟨g1, g2⟩
    by_cases hip : i < p
    · have := h1 i hip; omega
    · rcases hh with e | e
      · omega
      · by_cases e2 : i = p
        · subst e2; omega
        · have h3 := sp_mono h i p (by omega) hi
          have h4 := sp_lt h (i := p) (by omega)
          omega
  · intro hf
    by_cases e : p = n
    · exact .inl e
    · right
      have h3 := hf p (by omega)
      have h4 := h2 (by omega)
      omega
set_option maxRecDepth 100000 in
set_option maxHeartbeats 3200000 in
theorem fits_impl (qa : Option Addr) (n qc : Nat) (f : Nat → Int × Int) (a b : Int) (w : World) (hn : n ≤ 1048576) (h1 : PA w qa n f) (hS : SpR n f) (hab : a < b) :
    Calls Try.prog 74 #[.slice qa n qc, .agg #[.int .i64 a, .int .i64 b]] w (ResB (FreeP n f a b) w) := by
  have H1 := Lib.hid h1
  have HS := Lib.hid hS
  clear h1 hS
  go_enter Try.func74, Try.ntmps74
  go_wp2_with fail
  refine (place_impl qa n qc f a b _ hn (H1.out.bel ((Below.refl _ _).alloc (Nat.le_refl _) _))).mono ?_
  intro e wr h
  obtain ⟨p, rfl, hp, hb⟩ := resPlace_elim h
  have HP := Lib.hid hp
  have hpn := hp.1
  have hb : Below (w.heap.size + 1) (w.alloc (.cells #[.int .i64 a, .int .i64 b] 25)) wr := by simpa using hb
  have HB := Lib.hid hb
  have ⟨hx0, hx1, hxl⟩ := box0 hb
  have hsz : w.heap.size + 1 ≤ wr.heap.size := hxl
  clear h hp
  by_cases hlt : p < n
  · obtain ⟨g, o, rfl, hgl, hc0, hc1⟩ := (H1.out.bel (bel1 hb)) _ hlt
    have hi0 : (0 : Int) ≤ (p : Int) := Int.natCast_nonneg _
    have hi1 : (p : Int) < (n : Int) := by omega
    have hpe : ((p : Int) == (n : Int)) = false := by rw [beq_eq_false_iff_ne]; omega
    have hpe' : (p == n) = false := by rw [beq_eq_false_iff_ne]; omega
    clear hb
    have hm := method_before a b
    have hrs := fun W => before_impl a b (f p).1 (f p).2 W
    have Hfi := Lib.hid (fits_iff HS.out hab HP.out)
    by_cases hlo : b ≤ (f p).1
    · rw [decide_eq_true hlo] at hrs
      have HY := Lib.hid (Hfi.out.1 (.inr hlo))
      go_wp2_with fail
      refine wp_region_held_drew (S := (fun W => W.cell? ⟨g, o + p * 2, none⟩ = some (.int .i64 (f p).1) ∧ W.cell? ⟨g, o + p * 2 + 1, none⟩ = some (.int .i64 (f p).2) ∧ W.cell? ⟨w.heap.size, 0, none⟩ = some (.int .i64 a) ∧ W.cell? ⟨w.heap.size, 1, none⟩ = some (.int .i64 b) ∧ wr.heap.size ≤ W.heap.size ∧ Below (w.heap.size + 1) (w.alloc (.cells #[.int .i64 a, .int .i64 b] 25)) W)) (by kernel_rfl) (⟨hc0, hc1, hx0, hx1, Nat.le_refl _, HB.out.drew⟩) (fun hHeld => ?_)
      refine tk 0 hHeld ?_
      refine tk 1 hHeld ?_
      refine tk 2 hHeld ?_
      refine tk 3 hHeld ?_
      refine tk 4 hHeld ?_
      refine tk 5 hHeld ?_
      refine tk 6 hHeld ?_
      refine tk 7 hHeld ?_
      refine tk 8 hHeld ?_
      refine tk 9 hHeld ?_
      refine tk 10 hHeld ?_
      refine rd1 11 (fun K hK => ?_)
      go_simp
      go_at_call 113; refine (hrs _).mono ?_; rintro e w1 ⟨rfl, hb⟩
      refine hK.out _ _ (⟨(hb.cell (p := ⟨g, o + p * 2, none⟩) (Nat.lt_of_lt_of_le hgl hHeld.2.2.2.2.1)).trans hHeld.1, (hb.cell (p := ⟨g, o + p * 2 + 1, none⟩) (Nat.lt_of_lt_of_le hgl hHeld.2.2.2.2.1)).trans hHeld.2.1, (hb.cell (p := ⟨w.heap.size, 0, none⟩) (Nat.lt_of_lt_of_le hxl hHeld.2.2.2.2.1)).trans hHeld.2.2.1, (hb.cell (p := ⟨w.heap.size, 1, none⟩) (Nat.lt_of_lt_of_le hxl hHeld.2.2.2.2.1)).trans hHeld.2.2.2.1, Nat.le_trans hHeld.2.2.2.2.1 hb.size, hHeld.2.2.2.2.2.trans (hb.mono (Nat.le_trans hsz hHeld.2.2.2.2.1))⟩) (fun hHeld => ?_)
      clear hK K
      refine tk 12 hHeld ?_
      refine tk 13 hHeld ?_
      refine rd0 ?_
      have HF := Lib.hid hHeld.2.2.2.2.2
      clear hHeld
      go_wp2
      go_ret
      exact resB_yes HY.out (bel1 HF.out)
    · rw [decide_eq_false hlo] at hrs
      have HY := Lib.hid (show ¬ FreeP n f a b from fun h => by have := Hfi.out.2 h; omega)
      go_wp2_with fail
      refine wp_region_held_drew (S := (fun W => W.cell? ⟨g, o + p * 2, none⟩ = some (.int .i64 (f p).1) ∧ W.cell? ⟨g, o + p * 2 + 1, none⟩ = some (.int .i64 (f p).2) ∧ W.cell? ⟨w.heap.size, 0, none⟩ = some (.int .i64 a) ∧ W.cell? ⟨w.heap.size, 1, none⟩ = some (.int .i64 b) ∧ wr.heap.size ≤ W.heap.size ∧ Below (w.heap.size + 1) (w.alloc (.cells #[.int .i64 a, .int .i64 b] 25)) W)) (by kernel_rfl) (⟨hc0, hc1, hx0, hx1, Nat.le_refl _, HB.out.drew⟩) (fun hHeld => ?_)
      refine tk 0 hHeld ?_
      refine tk 1 hHeld ?_
      refine tk 2 hHeld ?_
      refine tk 3 hHeld ?_
      refine tk 4 hHeld ?_
      refine tk 5 hHeld ?_
      refine tk 6 hHeld ?_
      refine tk 7 hHeld ?_
      refine tk 8 hHeld ?_
      refine tk 9 hHeld ?_
      refine tk 10 hHeld ?_
      refine rd1 11 (fun K hK => ?_)
      go_simp
      go_at_call 113; refine (hrs _).mono ?_; rintro e w1 ⟨rfl, hb⟩
      refine hK.out _ _ (⟨(hb.cell (p := ⟨g, o + p * 2, none⟩) (Nat.lt_of_lt_of_le hgl hHeld.2.2.2.2.1)).trans hHeld.1, (hb.cell (p := ⟨g, o + p * 2 + 1, none⟩) (Nat.lt_of_lt_of_le hgl hHeld.2.2.2.2.1)).trans hHeld.2.1, (hb.cell (p := ⟨w.heap.size, 0, none⟩) (Nat.lt_of_lt_of_le hxl hHeld.2.2.2.2.1)).trans hHeld.2.2.1, (hb.cell (p := ⟨w.heap.size, 1, none⟩) (Nat.lt_of_lt_of_le hxl hHeld.2.2.2.2.1)).trans hHeld.2.2.2.1, Nat.le_trans hHeld.2.2.2.2.1 hb.size, hHeld.2.2.2.2.2.trans (hb.mono (Nat.le_trans hsz hHeld.2.2.2.2.1))⟩) (fun hHeld => ?_)
      clear hK K
      refine tk 12 hHeld ?_
      refine tk 13 hHeld ?_
      refine rd0 ?_
      have HF := Lib.hid hHeld.2.2.2.2.2
      clear hHeld
      go_wp2
      go_ret
      exact resB_no HY.out (bel1 HF.out)
  · obtain rfl : p = n := by omega
    have hpe : ((p : Int) == (p : Int)) = true := by simp
    have hpe' : (p == p) = true := by simp
    clear hb
    have HY := Lib.hid ((fits_iff HS.out hab HP.out).1 (.inl rfl))
    go_wp2_with fail
    refine wp_region_held_drew (S := (fun W => W.cell? ⟨w.heap.size, 0, none⟩ = some (.int .i64 a) ∧ W.cell? ⟨w.heap.size, 1, none⟩ = some (.int .i64 b) ∧ wr.heap.size ≤ W.heap.size ∧ Below (w.heap.size + 1) (w.alloc (.cells #[.int .i64 a, .int .i64 b] 25)) W)) (by kernel_rfl) (⟨hx0, hx1, Nat.le_refl _, HB.out.drew⟩) (fun hHeld => ?_)
    refine tk 0 hHeld ?_
    refine tk 1 hHeld ?_
    refine tk 2 hHeld ?_
    refine tk 3 hHeld ?_
    refine tk 4 hHeld ?_
    refine tn 5 hHeld ?_
    refine tn 6 hHeld ?_
    refine tn 7 hHeld ?_
    refine tn 8 hHeld ?_
    refine tn 9 hHeld ?_
    refine tn 10 hHeld ?_
    refine tn 11 hHeld ?_
    refine tk 12 hHeld ?_
    refine tk 13 hHeld ?_
    refine rd0 ?_
    have HF := Lib.hid hHeld.2.2.2
    clear hHeld
    go_wp2
    go_ret
    exact resB_yes HY.out (bel1 HF.out)
end Go.Proofs.Ytfciojkibklkfaa.SpanC
end
section
namespace Go.Proofs.Ytfciojkibklkfaa.SpanC
open Go.RowKit KeptC
set_option linter.unusedSimpArgs false
set_option linter.unusedVariables false
set_option maxRecDepth 100000 in
set_option maxHeartbeats 3200000 in
theorem free_spec (qa : Option Addr) (n qc : Nat) (f : Nat → Int × Int) (a b : Int) (w : World) (hn : n ≤ 1048576) (h1 : PA w qa n f) :
    Calls Try.prog 59 #[.slice qa n qc, .agg #[.int .i64 a, .int .i64 b]] w (ResB (FreeP n f a b) w) := by
  have H1 := Lib.hid h1
  clear h1
  go_enter Try.func59, Try.ntmps59
  go_wp2
  go_loopw [5] (fun i wr => ∃ k : Nat, k ≤ n ∧ i = .int .i64 k ∧ (∀ j, j < k → ¬ ((f j).1 < b ∧ a < (f j).2)) ∧ Below (w.heap.size + 1) (w.alloc (.cells #[.int .i64 a, .int .i64 b] 25)) wr) (fun i _ => n - (intOf i).toNat)
  case atStart => exact ⟨0, Nat.zero_le _, rfl, fun j h => absurd h (Nat.not_lt_zero _), by simpa using Below.refl _ _⟩
  case round =>
    obtain ⟨k, hk, rfl, hall, hb⟩ := hrel
    have HA := Lib.hid hall
    have HB := Lib.hid hb
    have ⟨hx0, hx1, hxl⟩ := box0 hb
    have hsz : w.heap.size + 1 ≤ wr.heap.size := hxl
    clear hall
    by_cases hlt : k < n
    · obtain ⟨g, o, rfl, hgl, hc0, hc1⟩ := (H1.out.bel (bel1 hb)) _ hlt
      have hi0 : (0 : Int) ≤ (k : Int) := Int.natCast_nonneg _
      have hi1 : (k : Int) < (n : Int) := by omega
      clear hb
      by_cases g1 : (f k).1 < b
      · have g1' : decide ((f k).1 < b) = true := decide_eq_true g1
        by_cases g2 : a < (f k).2
        · have g2' : decide (a < (f k).2) = true := decide_eq_true g2
          have HN := Lib.hid (show ¬ FreeP n f a b from fun h => h k hlt ⟨g1, g2⟩)
          go_wp2_with fail
          refine wp_region_held_drew (S := (fun W => W.cell? ⟨g, o + k * 2, none⟩ = some (.int .i64 (f k).1) ∧ W.cell? ⟨g, o + k * 2 + 1, none⟩ = some (.int .i64 (f k).2) ∧ W.cell? ⟨w.heap.size, 0, none⟩ = some (.int .i64 a) ∧ W.cell? ⟨w.heap.size, 1, none⟩ = some (.int .i64 b) ∧ wr.heap.size ≤ W.heap.size ∧ Below (w.heap.size + 1) (w.alloc (.cells #[.int .i64 a, .int .i64 b] 25)) W)) (by kernel_rfl) (⟨hc0, hc1, hx0, hx1, Nat.le_refl _, HB.out.drew⟩) (fun hHeld => ?_)
          refine tk 0 hHeld ?_
          refine tk 1 hHeld ?_
          refine tk 2 hHeld ?_
          refine tk 3 hHeld ?_
          refine tk 4 hHeld ?_
          refine tk 5 hHeld ?_
          refine tk 6 hHeld ?_
          refine tk 7 hHeld ?_
          refine tk 8 hHeld ?_
          refine tk 9 hHeld ?_
          refine tk 10 hHeld ?_
          refine tk 11 hHeld ?_
          refine tk 12 hHeld ?_
          refine tk 13 hHeld ?_
          refine tk 14 hHeld ?_
          refine tk 15 hHeld ?_
          refine tk 16 hHeld ?_
          refine tk 17 hHeld ?_
          refine rd0 ?_
          have HF := Lib.hid hHeld.2.2.2.2.2
          clear hHeld
          go_wp2
          go_ret
          exact resB_no HN.out (bel1 HF.out)
        · have g2' : decide (a < (f k).2) = false := decide_eq_false g2
          have HOK := Lib.hid (all_step (P := fun j => ¬ ((f j).1 < b ∧ a < (f j).2)) HA.out (fun h => g2 h.2))
          go_wp2_with fail
          refine wp_region_held_drew (S := (fun W => W.cell? ⟨g, o + k * 2, none⟩ = some (.int .i64 (f k).1) ∧ W.cell? ⟨g, o + k * 2 + 1, none⟩ = some (.int .i64 (f k).2) ∧ W.cell? ⟨w.heap.size, 0, none⟩ = some (.int .i64 a) ∧ W.cell? ⟨w.heap.size, 1, none⟩ = some (.int .i64 b) ∧ wr.heap.size ≤ W.heap.size ∧ Below (w.heap.size + 1) (w.alloc (.cells #[.int .i64 a, .int .i64 b] 25)) W)) (by kernel_rfl) (⟨hc0, hc1, hx0, hx1, Nat.le_refl _, HB.out.drew⟩) (fun hHeld => ?_)
          refine tk 0 hHeld ?_
          refine tk 1 hHeld ?_
          refine tk 2 hHeld ?_
          refine tk 3 hHeld ?_
          refine tk 4 hHeld ?_
          refine tk 5 hHeld ?_
          refine tk 6 hHeld ?_
          refine tk 7 hHeld ?_
          refine tk 8 hHeld ?_
          refine tk 9 hHeld ?_
          refine tk 10 hHeld ?_
          refine tk 11 hHeld ?_
          refine tk 12 hHeld ?_
          refine tk 13 hHeld ?_
          refine tk 14 hHeld ?_
          refine tk 15 hHeld ?_
          refine tk 16 hHeld ?_
          refine tk 17 hHeld ?_
          refine rd0 ?_
          have HF := Lib.hid hHeld.2.2.2.2.2
          clear hHeld
          go_wp2
          go_roundw
          case rel => exact ⟨k + 1, by omega, by go_num, HOK.out, HF.out⟩
          case measure => simp [intOf]; omega
      · have g1' : decide ((f k).1 < b) = false := decide_eq_false g1
        have HOK := Lib.hid (all_step (P := fun j => ¬ ((f j).1 < b ∧ a < (f j).2)) HA.out (fun h => g1 h.1))
        go_wp2_with fail
        refine wp_region_held_drew (S := (fun W => W.cell? ⟨g, o + k * 2, none⟩ = some (.int .i64 (f k).1) ∧ W.cell? ⟨g, o + k * 2 + 1, none⟩ = some (.int .i64 (f k).2) ∧ W.cell? ⟨w.heap.size, 0, none⟩ = some (.int .i64 a) ∧ W.cell? ⟨w.heap.size, 1, none⟩ = some (.int .i64 b) ∧ wr.heap.size ≤ W.heap.size ∧ Below (w.heap.size + 1) (w.alloc (.cells #[.int .i64 a, .int .i64 b] 25)) W)) (by kernel_rfl) (⟨hc0, hc1, hx0, hx1, Nat.le_refl _, HB.out.drew⟩) (fun hHeld => ?_)
        refine tk 0 hHeld ?_
        refine tk 1 hHeld ?_
        refine tk 2 hHeld ?_
        refine tk 3 hHeld ?_
        refine tk 4 hHeld ?_
        refine tk 5 hHeld ?_
        refine tk 6 hHeld ?_
        refine tk 7 hHeld ?_
        refine tk 8 hHeld ?_
        refine tn 9 hHeld ?_
        refine tn 10 hHeld ?_
        refine tn 11 hHeld ?_
        refine tn 12 hHeld ?_
        refine tn 13 hHeld ?_
        refine tn 14 hHeld ?_
        refine tn 15 hHeld ?_
        refine tn 16 hHeld ?_
        refine tk 17 hHeld ?_
        refine rd0 ?_
        have HF := Lib.hid hHeld.2.2.2.2.2
        clear hHeld
        go_wp2
        go_roundw
        case rel => exact ⟨k + 1, by omega, by go_num, HOK.out, HF.out⟩
        case measure => simp [intOf]; omega
    · have HY := Lib.hid (show FreeP n f a b from fun i hi => HA.out i (by omega))
      clear hb
      go_wp2
      go_ret
      exact resB_yes HY.out (bel1 HB.out)
def FreeB (n : Nat) (f : Nat → Int × Int) (a b : Int) : Prop := SpR n f ∧ spP a b ∧ FreeP n f a b
set_option maxRecDepth 100000 in
set_option maxHeartbeats 3200000 in
theorem isfree_spec (qa : Option Addr) (n qc : Nat) (f : Nat → Int × Int) (a b : Int) (w : World) (hn : n ≤ 1048576) (h1 : PA w qa n f) :
    Calls Try.prog 97 #[.slice qa n qc, .agg #[.int .i64 a, .int .i64 b]] w (ResB (FreeB n f a b) w) := by
  have H1 := Lib.hid h1
  clear h1
  go_enter Try.func97, Try.ntmps97
  go_wp2_with fail
  refine (spansA_spec qa n qc f _ hn (H1.out.bel ((Below.refl _ _).alloc (Nat.le_refl _) _))).mono ?_
  intro e wr h
  obtain ⟨c, rfl, hc, hb⟩ := resB_elim h
  have hb : Below (w.heap.size + 1) (w.alloc (.cells #[.int .i64 a, .int .i64 b] 25)) wr := by simpa using hb
  have HB := Lib.hid hb
  have ⟨hx0, hx1, hxl⟩ := box0 hb
  have hsz : w.heap.size + 1 ≤ wr.heap.size := hxl
  clear h
  cases c with
  | false =>
    have HN := Lib.hid (show ¬ FreeB n f a b from fun h => by have := hc.2 h.1; cases this)
    clear hb hc
    go_wp2
    go_ret
    exact resB_no HN.out (bel1 HB.out)
  | true =>
    have HS := Lib.hid (hc.1 rfl)
    clear hb hc
    go_wp2_with fail
    cases hr : spB a b with
    | false =>
      have hrs := fun W => right_spec a b W
      rw [hr] at hrs
      have HN := Lib.hid (show ¬ FreeB n f a b from fun h => by have := (spB_iff _ _).2 h.2.1; rw [hr] at this; cases this)
      clear hr
      refine (hrs _).mono ?_
      rintro e w1 ⟨rfl, hb⟩
      have HF := Lib.hid (HB.out.trans (hb.mono hsz))
      clear hb
      go_wp2
      go_ret
      exact resB_no HN.out (bel1 HF.out)
    | true =>
      have hrs := fun W => right_spec a b W
      rw [hr] at hrs
      have hP := (spB_iff _ _).1 hr
      clear hr
      refine (hrs _).mono ?_
      rintro e w1 ⟨rfl, hb⟩
      have HF := Lib.hid (HB.out.trans (hb.mono hsz))
      have ⟨hy0, hy1, hyl⟩ := box0 HF.out
      clear hb hx0 hx1
      go_wp2_with fail
      refine (free_spec qa n qc f a b _ hn (H1.out.bel (bel1 HF.out))).mono ?_
      intro e w2 h
      obtain ⟨c, rfl, hc, hb⟩ := resB_elim h
      have HF2 := Lib.hid (HF.out.trans (hb.mono hyl))
      have HC := Lib.hid (show c = true ↔ FreeB n f a b from ⟨fun h => ⟨HS.out, hP, hc.1 h⟩, fun h => hc.2 h.2.2⟩)
      clear h hb hc
      go_wp2
      go_ret
      exact ⟨c, rfl, HC.out, bel1 HF2.out⟩
set_option maxRecDepth 100000 in
set_option maxHeartbeats 3200000 in
theorem isfree_impl (qa : Option Addr) (n qc : Nat) (f : Nat → Int × Int) (a b : Int) (w : World) (hn : n ≤ 1048576) (h1 : PA w qa n f) :
    Calls Try.prog 23 #[.slice qa n qc, .agg #[.int .i64 a, .int .i64 b]] w (ResB (FreeB n f a b) w) := by
  have H1 := Lib.hid h1
  clear h1
  go_enter Try.func23, Try.ntmps23
  go_wp2_with fail
  refine (spans_impl qa n qc f _ hn (H1.out.bel ((Below.refl _ _).alloc (Nat.le_refl _) _))).mono ?_
  intro e wr h
  obtain ⟨c, rfl, hc, hb⟩ := resB_elim h
  have hb : Below (w.heap.size + 1) (w.alloc (.cells #[.int .i64 a, .int .i64 b] 25)) wr := by simpa using hb
  have HB := Lib.hid hb
  have ⟨hx0, hx1, hxl⟩ := box0 hb
  have hsz : w.heap.size + 1 ≤ wr.heap.size := hxl
  clear h
  cases c with
  | false =>
    have HN := Lib.hid (show ¬ FreeB n f a b from fun h => by have := hc.2 h.1; cases this)
    clear hb hc
    go_wp2
    go_ret
    exact resB_no HN.out (bel1 HB.out)
  | true =>
    have HS := Lib.hid (hc.1 rfl)
    clear hb hc
    go_wp2_with fail
    cases hr : spB a b with
    | false =>
      have hrs := fun W => right_impl a b W
      rw [hr] at hrs
      have HN := Lib.hid (show ¬ FreeB n f a b from fun h => by have := (spB_iff _ _).2 h.2.1; rw [hr] at this; cases this)
      clear hr
      refine (hrs _).mono ?_
      rintro e w1 ⟨rfl, hb⟩
      have HF := Lib.hid (HB.out.trans (hb.mono hsz))
      clear hb
      go_wp2
      go_ret
      exact resB_no HN.out (bel1 HF.out)
    | true =>
      have hrs := fun W => right_impl a b W
      rw [hr] at hrs
      have hP := (spB_iff _ _).1 hr
      clear hr
      refine (hrs _).mono ?_
      rintro e w1 ⟨rfl, hb⟩
      have HF := Lib.hid (HB.out.trans (hb.mono hsz))
      have ⟨hy0, hy1, hyl⟩ := box0 HF.out
      clear hb hx0 hx1
      go_wp2_with fail
      refine (fits_impl qa n qc f a b _ hn (H1.out.bel (bel1 HF.out)) HS.out hP.2.1).mono ?_
      intro e w2 h
      obtain ⟨c, rfl, hc, hb⟩ := resB_elim h
      have HF2 := Lib.hid (HF.out.trans (hb.mono hyl))
      have HC := Lib.hid (show c = true ↔ FreeB n f a b from ⟨fun h => ⟨HS.out, hP, hc.1 h⟩, fun h => hc.2 h.2.2⟩)
      clear h hb hc
      go_wp2
      go_ret
      exact ⟨c, rfl, HC.out, bel1 HF2.out⟩
end Go.Proofs.Ytfciojkibklkfaa.SpanC
end
section
namespace Go.Proofs.Ytfciojkibklkfaa.RowC
open Go.RowKit
def cl (c : Nat → Value) (m : Nat) : List Value := (List.range m).map c
theorem cl_len (c : Nat → Value) (m : Nat) : (cl c m).length = m := by simp [cl]
theorem cl_at (c : Nat → Value) {m j : Nat} (h : j < m) : (cl c m)[j]? = some (c j) := by simp [cl, h]
theorem cl_get {c : Nat → Value} {m j : Nat} {u : Value} (h : (cl c m)[j]? = some u) : j < m ∧ u = c j := by
  have hj : j < m := by
    rcases Nat.lt_or_ge j m with h1 | h1
    · exact h1
    · rw [List.getElem?_eq_none (by rw [cl_len]; exact h1)] at h; cases h
  rw [cl_at c hj] at h
  exact ⟨hj, by injection h with h; exact h.symm⟩
theorem cl_congr {c d : Nat → Value} {m : Nat} (h : ∀ j, j < m → c j = d j) : cl c m = cl d m := by
  unfold cl
  exact List.map_congr_left fun j hj => h j (by simpa using hj)
theorem cl_append (c d : Nat → Value) (m k : Nat) : cl c m ++ cl d k = cl (fun j => if j < m then c j else d (j - m)) (m + k) := by
  apply List.ext_getElem?
  intro i
  by_cases h : i < m
  · rw [List.getElem?_append_left (by rw [cl_len]; exact h), cl_at c h, cl_at _ (by omega), if_pos h]
  · rw [List.getElem?_append_right (by rw [cl_len]; omega), cl_len]
    by_cases h2 : i < m + k
    · rw [cl_at d (by omega), cl_at _ h2, if_neg h]
    · rw [List.getElem?_eq_none (by rw [cl_len]; omega), List.getElem?_eq_none (by rw [cl_len]; omega)]
theorem cl_mem {c : Nat → Value} {m : Nat} {u : Value} (h : u ∈ cl c m) : ∃ j, j < m ∧ u = c j := by
  obtain ⟨j, hj, rfl⟩ := List.mem_map.1 h
  exact ⟨j, by simpa using hj, rfl⟩
def RowO (W : World) (lo : Nat) (T : TypeId) (size : Nat) (v : Value) (n : Nat) (c : Nat → Value) : Prop := W.ownsRow lo T size v n (cl c (n * size))
section
variable {W W' : World} {lo : Nat} {T : TypeId} {size : Nat} {v : Value} {n : Nat} {c : Nat → Value}
theorem RowO.form (h : RowO W lo T size v n c) (hn : 0 < n) : ∃ g cap, v = .slice (some ⟨g, 0, none⟩) n cap ∧ lo ≤ g ∧ g < W.heap.size ∧ n ≤ cap ∧ (∀ j, j < n * size → W.cell? ⟨g, j, none⟩ = some (c j)) ∧ (∀ j, W.frozen? ⟨g, j, none⟩ = false) := by
  obtain ⟨g, cap, rfl, hb, hlt⟩ := World.ownsRow.form h hn
  have hc := World.ownsRow.cells h (g := g) rfl
  rcases h.2 with ⟨_, h0⟩ | ⟨g', cap', cur, hv, _, hh, hnc, _⟩
  · omega
  · injection hv with hv1 hv2 hv3
    injection hv1 with hv1
    injection hv1 with hv1
    subst hv1
    subst hv3
    refine ⟨g, cap, rfl, hb, hlt, hnc, fun j hj => ?_, fun j => by simp [World.frozen?, hh]⟩
    have hadd : (⟨g, 0, none⟩ : Addr).add j = ⟨g, j, none⟩ := by unfold Addr.add; split <;> simp_all
    rw [← hadd]
    exact hc j _ (cl_at c hj)
theorem RowO.isSlice (h : RowO W lo T size v n c) : ∃ a cap, v = .slice a n cap := by
  rcases h.2 with ⟨rfl, rfl⟩ | ⟨g', cap', cur, rfl, _⟩
  · exact ⟨_, _, rfl⟩
  · exact ⟨_, _, rfl⟩
theorem RowO.own (h : RowO W lo T size v n c) : ∀ k, v.ownBlock = some k → lo ≤ k ∧ k < W.heap.size := World.ownsRow.lt h
theorem RowO.keep (h : RowO W lo T size v n c) (hb : ∀ k, v.ownBlock = some k → W'.heap[k]? = W.heap[k]?) : RowO W' lo T size v n c := by
  refine ⟨h.1, ?_⟩
  rcases h.2 with hn | ⟨g, cap, cur, rfl, hg, hgg, rest⟩
  · exact .inl hn
  · exact .inr ⟨g, cap, cur, rfl, hg, (hb g rfl).trans hgg, rest⟩
theorem RowO.below (h : RowO W lo T size v n c) (hb : Below W.heap.size W W') : RowO W' lo T size v n c := h.keep fun k hk => hb.block k (h.own k hk).2
theorem RowO.drew (h : RowO W lo T size v n c) : RowO W.drew lo T size v n c := h
theorem RowO.alloc (h : RowO W lo T size v n c) (o : Obj) : RowO (W.alloc o) lo T size v n c := World.ownsRow.alloc h o
theorem RowO.grown {row : Option Nat} (h : RowO W lo T size v n c) (hg : W.grownBy W' row) (hne : v.ownBlock = none ∨ v.ownBlock ≠ row) : RowO W' lo T size v n c := World.ownsRow.kept h hg hne
theorem RowO.lower {lo' : Nat} (h : RowO W lo T size v n c) (hl : lo' ≤ lo) : RowO W lo' T size v n c := by
  refine ⟨h.1, ?_⟩
  rcases h.2 with hn | ⟨g, cap, cur, rfl, hg, rest⟩
  · exact .inl hn
  · exact .inr ⟨g, cap, cur, rfl, Nat.le_trans hl hg, rest⟩
theorem RowO.congr {d : Nat → Value} (h : RowO W lo T size v n c) (hc : ∀ j, j < n * size → c j = d j) : RowO W lo T size v n d := by
  unfold RowO at h ⊢
  rw [← cl_congr hc]
  exact h
theorem RowO.nil (W : World) (lo : Nat) (T : TypeId) (size : Nat) (c : Nat → Value) : RowO W lo T size (.slice none 0 0) 0 c := ⟨by simp [cl], .inl ⟨rfl, rfl⟩⟩
theorem RowO.made0 (W : World) (lo : Nat) (T : TypeId) (size : Nat) (c : Nat → Value) (hl : lo ≤ W.heap.size) : RowO (W.alloc (.cells #[] T)) lo T size (.slice (some ⟨W.heap.size, 0, none⟩) 0 0) 0 c := by
  have h := World.ownsRow_made (e := T) (size := size) W #[] 0 hl (Nat.zero_le _) (by simp)
  unfold RowO
  simpa [cl] using h
theorem src_of {g o m : Nat} {c : Nat → Value} (h : ∀ j, j < m → W.cell? ⟨g, o + j, none⟩ = some (c j)) : ∀ j u, (cl c m)[j]? = some u → W.cell? ((⟨g, o, none⟩ : Addr).add j) = some u := by
  intro j u hu
  obtain ⟨hj, rfl⟩ := cl_get hu
  have hadd : (⟨g, o, none⟩ : Addr).add j = ⟨g, o + j, none⟩ := by unfold Addr.add; split <;> simp_all
  rw [hadd]
  exact h j hj
end
section
variable {P : Program}
theorem run_app (W : World) (lo : Nat) (t ty T : TypeId) (i : TypeInfo) (z : Value) (size bytes : Nat) (ht : P.underlying t = some (.slice T)) (hi : P.info? T = some i) (hz : i.zero = some z)
    (hsize : i.size = size) (hby : i.bytes = bytes) (hzs : z.cells.size = size) (hsz : 0 < size)
    (v : Value) (n : Nat) (c : Nat → Value) (hown : RowO W lo T size v n c) (g o m k : Nat) (d : Nat → Value) (hd : ∀ j, j < m * size → W.cell? ⟨g, o + j, none⟩ = some (d j)) (h1 : ∀ j, j < m * size → (d j).oneCell' = true)
    (h63 : n + m ≤ maxLen) (hbytes : (n + m) * bytes ≤ 140737488355328) (hl : lo ≤ W.heap.size) :
    ∃ v' W', (Builtin.append_ #[t, t] ty #[v, .slice (some ⟨g, o, none⟩) m k]).run P W = .ok v' W' ∧ RowO W' lo T size v' (n + m) (fun j => if j < n * size then c j else d (j - n * size)) ∧ Below lo W W' ∧ W.grownBy W' v.ownBlock ∧
      (v'.ownBlock = v.ownBlock ∨ v'.ownBlock = some W.heap.size) := by
  obtain ⟨v', W', hr, h2, h3, _, h5⟩ := run_append_own_at (P := P) W lo t ty T i z size bytes ht hi hz hsize hby hzs hsz v n _ hown ⟨g, o, none⟩ m k (cl d (m * size)) (cl_len _ _) (src_of hd)
    (fun u hu => by obtain ⟨j, hj, rfl⟩ := cl_mem hu; exact h1 j hj) h63 hbytes hl
  refine ⟨v', W', hr, ?_, (Below.refl lo W).grown h3 hl (fun k hk => (hown.own k hk).1), h3, h5⟩
  rw [cl_append] at h2
  unfold RowO
  rw [Nat.add_mul]
  exact h2
end
section
variable {P : Program}
theorem wpList_app {ops : Array Oper} {rest : List Oper} {o : Oper} {a : Act} {W : World} {Q : Exit → Act → World → Prop} (hgd : o.guard = none) (s x : Operand) (t : TypeId)
    (ho : o.op = .call { callee := .builtin .append, args := #[s, x], argTypes := #[t, t] }) {v y : Value} (hs : a.eval s = v) (hx : a.eval x = y)
    {v' : Value} {W' : World} (hr : (Builtin.append_ #[t, t] o.type #[v, y]).run P W = .ok v' W') (h : wpList P ops Q rest (a.put o.dst v') W') : wpList P ops Q (o :: rest) a W := by
  refine wpList_plain hgd fun K hK => ?_
  unfold Oper.wp execOp
  simp only [ho, resolve, invoke, builtin, Sem.run_bind, Sem.run_pure, Result.andThen_ok, List.map_toArray, List.map_cons, List.map_nil, hs, hx, hr]
  exact hK _ _ h
theorem step_app {ops : Array Oper} {o : Oper} {a : Act} {W : World} {K : Act → World → Prop} {Q : Exit → Act → World → Prop} {E : Prop} (hgd : o.guard = none) (s x : Operand) (t : TypeId)
    (ho : o.op = .call { callee := .builtin .append, args := #[s, x], argTypes := #[t, t] }) {v y : Value} (hs : a.eval s = v) (hx : a.eval x = y)
    {v' : Value} {W' : World} (hr : (Builtin.append_ #[t, t] o.type #[v, y]).run P W = .ok v' W') (h : K (a.put o.dst v') W') :
    if Region.wanted o (yielded ops a.tmps) = true then Oper.wp P o a W K Q else E := by
  have hw : Region.wanted o (yielded ops a.tmps) = true := by simp [Region.wanted, hgd]
  rw [if_pos hw]
  unfold Oper.wp execOp
  simp only [ho, resolve, invoke, builtin, Sem.run_bind, Sem.run_pure, Result.andThen_ok, List.map_toArray, List.map_cons, List.map_nil, hs, hx, hr]
  exact h
end
end Go.Proofs.Ytfciojkibklkfaa.RowC
end
section
namespace Go.Proofs.Ytfciojkibklkfaa.SpanC
open Go.RowKit KeptC RowC
set_option linter.unusedSimpArgs false
set_option linter.unusedVariables false
def pc (f : Nat → Int × Int) (j : Nat) : Value := if j % 2 = 0 then .int .i64 (f (j / 2)).1 else .int .i64 (f (j / 2)).2
theorem pc_one (f : Nat → Int × Int) (j : Nat) : (pc f j).oneCell' = true := by unfold pc; split <;> rfl
theorem pc_even (f : Nat → Int × Int) (i : Nat) : pc f (i * 2) = .int .i64 (f i).1 := by unfold pc; rw [if_pos (by omega), show i * 2 / 2 = i by omega]
theorem pc_odd (f : Nat → Int × Int) (i : Nat) : pc f (i * 2 + 1) = .int .i64 (f i).2 := by unfold pc; rw [if_neg (by omega), show (i * 2 + 1) / 2 = i by omega]
theorem pc_of {p : Nat → Value} {f : Nat → Int × Int} {n : Nat} (h : ∀ i, i < n → p (i * 2) = .int .i64 (f i).1 ∧ p (i * 2 + 1) = .int .i64 (f i).2) : ∀ j, j < n * 2 → p j = pc f j := by
  intro j hj
  have h2 := h (j / 2) (by omega)
  rcases Nat.mod_two_eq_zero_or_one j with e | e
  · have e2 : j / 2 * 2 = j := by omega
    rw [e2] at h2
    rw [h2.1, show pc f j = pc f (j / 2 * 2) by rw [e2], pc_even]
  · have e2 : j / 2 * 2 + 1 = j := by omega
    rw [e2] at h2
    rw [h2.2, show pc f j = pc f (j / 2 * 2 + 1) by rw [e2], pc_odd]
theorem PRow.cells {W : World} {g o n : Nat} {f : Nat → Int × Int} (h : PRow W g o n f) : ∀ j, j < n * 2 → W.cell? ⟨g, o + j, none⟩ = some (pc f j) := by
  intro j hj
  have h2 := h (j / 2) (by omega)
  rcases Nat.mod_two_eq_zero_or_one j with e | e
  · have e2 : j / 2 * 2 = j := by omega
    rw [e2] at h2
    rw [h2.1, show pc f j = pc f (j / 2 * 2) by rw [e2], pc_even]
  · have e2 : j / 2 * 2 + 1 = j := by omega
    rw [Nat.add_assoc, e2] at h2
    rw [h2.2, show pc f j = pc f (j / 2 * 2 + 1) by rw [e2], pc_odd]
theorem prow_of {W : World} {g o n : Nat} {f : Nat → Int × Int} (h : ∀ j, j < n * 2 → W.cell? ⟨g, o + j, none⟩ = some (pc f j)) : PRow W g o n f := fun i hi => by
  refine ⟨?_, ?_⟩
  · rw [h (i * 2) (by omega), pc_even]
  · rw [Nat.add_assoc, h (i * 2 + 1) (by omega), pc_odd]
abbrev RowS (W : World) (lo : Nat) (v : Value) (n : Nat) (f : Nat → Int × Int) : Prop := RowO W lo 25 2 v n (pc f)
theorem RowO.spans {W : World} {lo n : Nat} {v : Value} {f : Nat → Int × Int} (h : RowS W lo v n f) (hn : 0 < n) : ∃ g cap, v = .slice (some ⟨g, 0, none⟩) n cap ∧ lo ≤ g ∧ g < W.heap.size ∧ n ≤ cap ∧ PRow W g 0 n f ∧ (∀ j, W.frozen? ⟨g, j, none⟩ = false) := by
  obtain ⟨g, cap, h1, h2, h3, h4, h5, h6⟩ := h.form hn
  exact ⟨g, cap, h1, h2, h3, h4, prow_of (fun j hj => by simpa using h5 j hj), h6⟩
theorem infoS : ∃ i, Try.prog.info? 25 = some i ∧ i.zero = some (.agg #[.int .i64 0, .int .i64 0]) ∧ i.size = 2 ∧ i.bytes = 16 := by
  have h := infoL
  cases hx : Try.prog.info? 25 with
  | none => rw [hx] at h; simp at h
  | some i => rw [hx] at h; simp at h; exact ⟨i, rfl, h.1, h.2.1, h.2.2⟩
def app (f : Nat → Int × Int) (n : Nat) (h : Nat → Int × Int) (i : Nat) : Int × Int := if i < n then f i else h (i - n)
theorem app_pc (f h : Nat → Int × Int) (n m : Nat) : ∀ j, j < (n + m) * 2 → (if j < n * 2 then pc f j else pc h (j - n * 2)) = pc (app f n h) j := by
  refine pc_of (p := fun j => if j < n * 2 then pc f j else pc h (j - n * 2)) (fun i hi => ?_)
  unfold app
  by_cases e : i < n
  · rw [if_pos e]
    exact ⟨by rw [if_pos (by omega), pc_even], by rw [if_pos (by omega), pc_odd]⟩
  · rw [if_neg e]
    refine ⟨?_, ?_⟩
    · rw [if_neg (by omega), show i * 2 - n * 2 = (i - n) * 2 by omega, pc_even]
    · rw [if_neg (by omega), show i * 2 + 1 - n * 2 = (i - n) * 2 + 1 by omega, pc_odd]
theorem app_sp (W : World) (lo : Nat) (t ty : TypeId) (ht : Try.prog.underlying t = some (.slice 25)) {v : Value} {n : Nat} {f : Nat → Int × Int} (hown : RowS W lo v n f) {g o m : Nat} (k : Nat) {h : Nat → Int × Int} (hd : PRow W g o m h)
    (hnm : n + m ≤ 4194304) (hl : lo ≤ W.heap.size) :
    ∃ v' W', (Builtin.append_ #[t, t] ty #[v, .slice (some ⟨g, o, none⟩) m k]).run Try.prog W = .ok v' W' ∧ RowS W' lo v' (n + m) (app f n h) ∧ Below lo W W' ∧ W.grownBy W' v.ownBlock ∧ (v'.ownBlock = v.ownBlock ∨ v'.ownBlock = some W.heap.size) := by
  obtain ⟨i, hi, hz, hs, hb⟩ := infoS
  obtain ⟨v', W', h1, h2, h3, h4, h5⟩ := run_app (P := Try.prog) W lo t ty 25 i _ 2 16 ht hi hz hs hb rfl (by omega) v n (pc f) hown g o m k (pc h) hd.cells (fun j _ => pc_one h j) (by unfold maxLen; omega) (by omega) hl
  exact ⟨v', W', h1, RowO.congr h2 (app_pc f h n m), h3, h4, h5⟩
def insF (f : Nat → Int × Int) (p : Nat) (x : Int × Int) (i : Nat) : Int × Int := if i < p then f i else if i = p then x else f (i - 1)
def PutP (n : Nat) (f : Nat → Int × Int) (a b : Int) (m : Nat) (h : Nat → Int × Int) : Prop :=
  (400 < n ∧ m = 0) ∨ (n ≤ 400 ∧ ¬ (FreeB n f a b ∧ n < 20) ∧ m = n ∧ ∀ i, i < n → h i = f i) ∨
  (n ≤ 400 ∧ FreeB n f a b ∧ n < 20 ∧ m = n + 1 ∧ ∃ p, PlaceP n f a p ∧ ∀ i, i < n + 1 → h i = insF f p (a, b) i)
theorem place_from {n : Nat} {f : Nat → Int × Int} {a b : Int} (hF : FreeB n f a b) {k : Nat} (hk : k ≤ n) (h1 : ∀ j, j < k → (f j).1 < a) (h2 : k < n → ¬ (f k).1 < a) : PlaceP n f a k := by
  obtain ⟨hS, hP, hf⟩ := hF
  have hab := hP.2.1
  refine ⟨hk, fun j hj => ?_, fun hkn => ?_⟩
  · have e1 := h1 j hj
    have e2 := hf j (by omega)
    omega
  · have e1 := h2 hkn
    have e2 := sp_lt hS hkn
    omega
def ResRow (Q : Nat → (Nat → Int × Int) → Prop) (w : World) (e : Ending) (w' : World) : Prop := ∃ v m h, e = .returned v ∧ Q m h ∧ RowS w' w.heap.size v m h ∧ Below w.heap.size w w'
theorem resRow_elim {Q : Nat → (Nat → Int × Int) → Prop} {w : World} {e : Ending} {w' : World} (h : ResRow Q w e w') : ∃ v m h, e = .returned v ∧ Q m h ∧ RowS w' w.heap.size v m h ∧ Below w.heap.size w w' := h
theorem app_none {P : Program} {w : World} {t ty e : TypeId} {i : TypeInfo} (ht : P.underlying t = some (.slice e)) (hi : P.info? e = some i) (base a : Option Addr) (n cap c : Nat) (hn : n ≤ cap) :
    (Builtin.append_ #[t, t] ty #[.slice base n cap, .slice a 0 c]).run P w = .ok (.slice base n cap) w := by
  have hf : (Builtin.firstCells i.size 0 (.slice a 0 c)).run P w = .ok #[] w := by
    cases a with
    | none => exact run_firstCells_none _ _ _ _ _
    | some a => exact run_firstCells_some _ _ 0 a 0 c [] (by simp) (by simp)
  cases base <;> simp [Builtin.append_, run_underlying ht, sizeOf, typeInfo, hi, Builtin.lenOf, hf, storeCells, hn]
def PS (W : World) (qa : Option Addr) (n qc : Nat) (f : Nat → Int × Int) : Prop := (qa = none ∧ n = 0) ∨ ∃ g o, qa = some ⟨g, o, none⟩ ∧ g < W.heap.size ∧ n ≤ qc ∧ PRow W g o n f
theorem PS.pa {W : World} {qa : Option Addr} {n qc : Nat} {f : Nat → Int × Int} (h : PS W qa n qc f) : PA W qa n f := by
  rcases h with ⟨_, rfl⟩ | ⟨g, o, rfl, hg, _, h⟩
  · exact fun i hi => absurd hi (Nat.not_lt_zero _)
  · exact h.pa hg
theorem PS.bel {W W' : World} {qa : Option Addr} {n qc : Nat} {f : Nat → Int × Int} (h : PS W qa n qc f) (hb : Below W.heap.size W W') : PS W' qa n qc f := by
  rcases h with h | ⟨g, o, e, hg, hc, h⟩
  · exact .inl h
  · exact .inr ⟨g, o, e, Nat.lt_of_lt_of_le hg hb.size, hc, h.below hb hg⟩
end Go.Proofs.Ytfciojkibklkfaa.SpanC
end
section
namespace Go.Proofs.Ytfciojkibklkfaa.SpanC
open Go.RowKit KeptC RowC
set_option linter.unusedSimpArgs false
set_option linter.unusedVariables false
theorem one_row {W : World} {a b : Int} {T : TypeId} : PRow (W.alloc (.cells #[.int .i64 a, .int .i64 b] T)) W.heap.size 0 1 (fun _ => (a, b)) := fun i hi => by
  obtain rfl : i = 0 := by omega
  simp
theorem sub_row {W : World} {g o n p : Nat} {f : Nat → Int × Int} (h : PRow W g o n f) (hp : p ≤ n) : PRow W g (o + p * 2) (n - p) (fun i => f (i + p)) := fun i hi => by
  have h2 := h (i + p) (by omega)
  rw [show o + (i + p) * 2 = o + p * 2 + i * 2 by omega] at h2
  exact h2
theorem pre_row {W : World} {g o n p : Nat} {f : Nat → Int × Int} (h : PRow W g o n f) (hp : p ≤ n) : PRow W g o p f := fun i hi => h i (by omega)
theorem ins_app {f : Nat → Int × Int} {a b : Int} {n p : Nat} (hp : p ≤ n) : ∀ i, i < p + 1 + (n - p) → app (app f p fun _ => (a, b)) (p + 1) (fun i => f (i + p)) i = insF f p (a, b) i := fun i hi => by
  unfold app insF
  by_cases h1 : i < p
  · rw [if_pos (by omega), if_pos h1, if_pos h1]
  · rw [if_neg h1]
    by_cases h2 : i = p
    · rw [if_pos (by omega), if_neg h1, if_pos h2]
    · rw [if_neg (by omega), if_neg h2]
      show f (i - (p + 1) + p) = _
      rw [show i - (p + 1) + p = i - 1 by omega, if_neg h1]
theorem slice0 {W : World} {g o : Nat} {f : Nat → Int × Int} : PRow W g o 0 f := fun i hi => absurd hi (Nat.not_lt_zero _)
theorem rowO_cap_le {W : World} {lo n m c : Nat} {a : Option Addr} {T : TypeId} {s : Nat} {f : Nat → Value} (h : RowO W lo T s (.slice a m c) n f) : n ≤ c := by
  obtain ⟨_, h2⟩ := h
  rcases h2 with ⟨_, h0⟩ | ⟨g, cap, cur, e, _, _, hn, _⟩
  · omega
  · cases e; exact hn
theorem rowO_ps {W : World} {lo n : Nat} {v : Value} {f : Nat → Int × Int} (h : RowS W lo v n f) : ∃ qa qc, v = .slice qa n qc ∧ PS W qa n qc f := by
  have hc := h
  obtain ⟨_, h2⟩ := h
  rcases h2 with ⟨rfl, h0⟩ | ⟨g, cap, cur, rfl, hlo, hg, hn, _⟩
  · exact ⟨none, 0, by rw [h0], .inl ⟨rfl, h0⟩⟩
  · refine ⟨_, cap, rfl, .inr ⟨g, 0, rfl, (Array.getElem?_eq_some_iff.1 hg).1, hn, ?_⟩⟩
    rcases Nat.eq_zero_or_pos n with h0 | h0
    · subst h0; exact fun i hi => absurd hi (Nat.not_lt_zero _)
    · obtain ⟨g', c', e, _, _, _, hp, _⟩ := RowO.spans hc h0
      cases e
      exact hp
end Go.Proofs.Ytfciojkibklkfaa.SpanC
end
section
namespace Go.Proofs.Ytfciojkibklkfaa.SpanC
open Go.RowKit KeptC RowC
set_option maxRecDepth 100000 in
set_option maxHeartbeats 3200000 in
theorem put2_some (g o n qc : Nat) (hnc : n ≤ qc) (f : Nat → Int × Int) (a b : Int) (w : World) (hn : n ≤ 1048576) (h1 : PRow w g o n f) (l1 : g < w.heap.size) (hF : FreeB n f a b) :
    Calls Try.prog 61 #[.slice (some ⟨g, o, none⟩) n qc, .agg #[.int .i64 a, .int .i64 b]] w (ResRow (fun m h => m = n + 1 ∧ ∃ p, PlaceP n f a p ∧ ∀ i, i < n + 1 → h i = insF f p (a, b) i) w) := by
  have H1 := Lib.hid h1
  have HFr := Lib.hid hF
  clear h1 hF
  go_enter Try.func61, Try.ntmps61
  go_wp2
  go_loopw [5] (fun i wr => ∃ k : Nat, k ≤ n ∧ i = .int .i64 k ∧ (∀ j, j < k → (f j).1 < a) ∧ Below (w.heap.size + 1) (w.alloc (.cells #[.int .i64 a, .int .i64 b] 25)) wr) (fun i _ => n - (intOf i).toNat)
  case atStart => exact ⟨0, Nat.zero_le _, rfl, fun j h => absurd h (Nat.not_lt_zero _), by simpa using Below.refl _ _⟩
  case round =>
    obtain ⟨k, hk, rfl, hall, hb⟩ := hrel
    have HA := Lib.hid hall
    have HB := Lib.hid hb
    have ⟨hx0, hx1, hxl⟩ := box0 hb
    have hsz : w.heap.size + 1 ≤ wr.heap.size := hxl
    have hgl : g < wr.heap.size := by omega
    have hi0 : (0 : Int) ≤ (k : Int) := Int.natCast_nonneg _
    have hik : (k : Int) ≤ (n : Int) := by omega
    have hkc : k ≤ qc := by omega
    have hkc1 : (k : Int) ≤ (qc : Int) := by omega
    have hnc1 : (n : Int) ≤ (qc : Int) := by omega
    clear hall
    by_cases hlt : k < n
    · have ⟨hc0, hc1⟩ := (H1.out.below (bel1 hb) l1) k hlt
      have hi1 : (k : Int) < (n : Int) := by omega
      have hkn : decide ((k : Int) < (n : Int)) = true := decide_eq_true hi1
      have hkn' : decide (k < n) = true := decide_eq_true hlt
      clear hb
      by_cases hlo : (f k).1 < a
      · have HOK := Lib.hid (all_step (P := fun j => (f j).1 < a) HA.out hlo)
        have hlo' : decide ((f k).1 < a) = true := decide_eq_true hlo
        go_wp2_with fail
        refine wp_region_held_drew (S := (fun W => W.cell? ⟨g, o + k * 2, none⟩ = some (.int .i64 (f k).1) ∧ W.cell? ⟨g, o + k * 2 + 1, none⟩ = some (.int .i64 (f k).2) ∧ W.cell? ⟨w.heap.size, 0, none⟩ = some (.int .i64 a) ∧ W.cell? ⟨w.heap.size, 1, none⟩ = some (.int .i64 b) ∧ wr.heap.size ≤ W.heap.size ∧ Below (w.heap.size + 1) (w.alloc (.cells #[.int .i64 a, .int .i64 b] 25)) W)) (by kernel_rfl) (⟨hc0, hc1, hx0, hx1, Nat.le_refl _, HB.out.drew⟩) (fun hHeld => ?_)
        refine tk 0 hHeld ?_
        refine tk 1 hHeld ?_
        refine tk 2 hHeld ?_
        refine tk 3 hHeld ?_
        refine tk 4 hHeld ?_
        refine tk 5 hHeld ?_
        refine tk 6 hHeld ?_
        refine tk 7 hHeld ?_
        refine tk 8 hHeld ?_
        refine tk 9 hHeld ?_
        refine tk 10 hHeld ?_
        refine tk 11 hHeld ?_
        refine tk 12 hHeld ?_
        refine tk 13 hHeld ?_
        refine rd0 ?_
        have HF := Lib.hid hHeld.2.2.2.2.2
        clear hHeld
        go_wp2
        go_roundw
        case rel => exact ⟨k + 1, by omega, by go_num, HOK.out, HF.out⟩
        case measure => simp [intOf]; omega
      · have hlo' : decide ((f k).1 < a) = false := decide_eq_false hlo
        have HP := Lib.hid (place_from HFr.out hk HA.out (fun _ => hlo))
        have hpp : ¬ qc = k := by omega
        go_wp2_with fail
        refine wp_region_held_drew (S := (fun W => W.cell? ⟨g, o + k * 2, none⟩ = some (.int .i64 (f k).1) ∧ W.cell? ⟨g, o + k * 2 + 1, none⟩ = some (.int .i64 (f k).2) ∧ W.cell? ⟨w.heap.size, 0, none⟩ = some (.int .i64 a) ∧ W.cell? ⟨w.heap.size, 1, none⟩ = some (.int .i64 b) ∧ wr.heap.size ≤ W.heap.size ∧ Below (w.heap.size + 1) (w.alloc (.cells #[.int .i64 a, .int .i64 b] 25)) W)) (by kernel_rfl) (⟨hc0, hc1, hx0, hx1, Nat.le_refl _, HB.out.drew⟩) (fun hHeld => ?_)
        refine tk 0 hHeld ?_
        refine tk 1 hHeld ?_
        refine tk 2 hHeld ?_
        refine tk 3 hHeld ?_
        refine tk 4 hHeld ?_
        refine tk 5 hHeld ?_
        refine tk 6 hHeld ?_
        refine tk 7 hHeld ?_
        refine tk 8 hHeld ?_
        refine tk 9 hHeld ?_
        refine tk 10 hHeld ?_
        refine tk 11 hHeld ?_
        refine tk 12 hHeld ?_
        refine tk 13 hHeld ?_
        refine rd0 ?_
        have HF := Lib.hid hHeld.2.2.2.2.2
        clear hHeld
        have hbD : Below w.heap.size w wr := bel1 HB.out
        have hR1 : PRow ((wr.drew).alloc (.cells #[] 25)) g o n f := (H1.out.below hbD l1).below ((Below.refl _ _).drew.alloc (Nat.le_refl _) _) hgl
        obtain ⟨v1, W2, hr2, hown2, hbel2, hg2, hat2⟩ := app_sp ((wr.drew).alloc (.cells #[] 25)) wr.heap.size 39 39 Try.underlying39 (RowO.made0 wr.drew wr.heap.size _ 2 (pc f) (Nat.le_refl _)) qc (pre_row hR1 hk) (by omega) (by simp)
        have HR2 := Lib.hid hr2
        have hW2 : Below wr.heap.size wr W2 := ((Below.refl wr.heap.size wr).drew.alloc (Nat.le_refl _) _).trans hbel2
        have hl2 : wr.heap.size ≤ W2.heap.size := hW2.size
        have ⟨hy0, hy1, hyl⟩ := box0 (HB.out.trans (hW2.mono hsz))
        have hrow2 := hown2.alloc (.cells #[.int .i64 a, .int .i64 b] 25)
        obtain ⟨v3, W4, hr4, hown4, hbel4, hg4, hat4⟩ := app_sp (W2.alloc (.cells #[.int .i64 a, .int .i64 b] 25)) wr.heap.size 39 39 Try.underlying39 hrow2 (m := 1) 1 one_row (by omega) (by simp; omega)
        have HR4 := Lib.hid hr4
        have hW4 : Below wr.heap.size wr W4 := (hW2.alloc hl2 _).trans hbel4
        have hR4 : PRow W4 g o n f := (H1.out.below hbD l1).below hW4 hgl
        obtain ⟨v5, W6, hr6, hown6, hbel6, hg6, hat6⟩ := app_sp W4 wr.heap.size 39 39 Try.underlying39 hown4 (qc - k) (sub_row hR4 hk) (by omega) hW4.size
        have HR6 := Lib.hid hr6
        have HY := Lib.hid (show ResRow (fun m h => m = n + 1 ∧ ∃ p, PlaceP n f a p ∧ ∀ i, i < n + 1 → h i = insF f p (a, b) i) w (.returned v5) W6 from ⟨v5, 0 + k + 1 + (n - k), _, rfl, ⟨by omega, k, HP.out, fun i hi => by rw [← ins_app hk i (by omega)]; unfold app; simp⟩, hown6.lower (by omega), hbD.trans ((hW4.trans hbel6).mono (by omega))⟩)
        clear hown2 hbel2 hg2 hat2 hr2 hrow2 hown4 hbel4 hg4 hat4 hr4 hown6 hbel6 hg6 hat6 hr6 hR1 hR4 hW2 hW4 hbD HF
        go_wp2_with (first | (at_builtin; refine wpList_app rfl (.tmp 23) (.tmp 26) 39 rfl rfl rfl HR2.out ?_) | (at_builtin; refine wpList_app rfl (.tmp 28) (.tmp 30) 39 rfl rfl rfl HR4.out ?_) | (at_builtin; refine wpList_app rfl (.tmp 32) (.tmp 35) 39 rfl rfl rfl HR6.out ?_))
        go_ret
        exact HY.out
    · obtain rfl : k = n := by omega
      by_cases hqc : k = qc
      · subst hqc
        have HP := Lib.hid (place_from HFr.out hk HA.out (fun h => absurd h hlt))
        have hkn : decide ((k : Int) < (k : Int)) = false := decide_eq_false (by omega)
        have hkn' : decide (k < k) = false := decide_eq_false (by omega)
        clear hb
        go_wp2_with fail
        refine wp_region_held_drew (S := (fun W => W.cell? ⟨w.heap.size, 0, none⟩ = some (.int .i64 a) ∧ W.cell? ⟨w.heap.size, 1, none⟩ = some (.int .i64 b) ∧ wr.heap.size ≤ W.heap.size ∧ Below (w.heap.size + 1) (w.alloc (.cells #[.int .i64 a, .int .i64 b] 25)) W)) (by kernel_rfl) (⟨hx0, hx1, Nat.le_refl _, HB.out.drew⟩) (fun hHeld => ?_)
        refine tk 0 hHeld ?_
        refine tk 1 hHeld ?_
        refine tk 2 hHeld ?_
        refine tk 3 hHeld ?_
        refine tk 4 hHeld ?_
        refine tn 5 hHeld ?_
        refine tn 6 hHeld ?_
        refine tn 7 hHeld ?_
        refine tn 8 hHeld ?_
        refine tn 9 hHeld ?_
        refine tn 10 hHeld ?_
        refine tn 11 hHeld ?_
        refine tn 12 hHeld ?_
        refine tk 13 hHeld ?_
        refine rd0 ?_
        have HF := Lib.hid hHeld.2.2.2
        clear hHeld
        have hbD : Below w.heap.size w wr := bel1 HB.out
        have hR1 : PRow ((wr.drew).alloc (.cells #[] 25)) g o k f := (H1.out.below hbD l1).below ((Below.refl _ _).drew.alloc (Nat.le_refl _) _) hgl
        obtain ⟨v1, W2, hr2, hown2, hbel2, hg2, hat2⟩ := app_sp ((wr.drew).alloc (.cells #[] 25)) wr.heap.size 39 39 Try.underlying39 (RowO.made0 wr.drew wr.heap.size _ 2 (pc f) (Nat.le_refl _)) k (pre_row hR1 hk) (by omega) (by simp)
        have HR2 := Lib.hid hr2
        have hW2 : Below wr.heap.size wr W2 := ((Below.refl wr.heap.size wr).drew.alloc (Nat.le_refl _) _).trans hbel2
        have hl2 : wr.heap.size ≤ W2.heap.size := hW2.size
        have ⟨hy0, hy1, hyl⟩ := box0 (HB.out.trans (hW2.mono hsz))
        have hrow2 := hown2.alloc (.cells #[.int .i64 a, .int .i64 b] 25)
        obtain ⟨v3, W4, hr4, hown4, hbel4, hg4, hat4⟩ := app_sp (W2.alloc (.cells #[.int .i64 a, .int .i64 b] 25)) wr.heap.size 39 39 Try.underlying39 hrow2 (m := 1) 1 one_row (by omega) (by simp; omega)
        have HR4 := Lib.hid hr4
        have hW4 : Below wr.heap.size wr W4 := (hW2.alloc hl2 _).trans hbel4
        have hR4 : PRow W4 g o k f := (H1.out.below hbD l1).below hW4 hgl
        obtain ⟨v5, W6, hr6, hown6, hbel6, hg6, hat6⟩ := app_sp W4 wr.heap.size 39 39 Try.underlying39 hown4 (g := g) (o := o) (m := 0) (h := fun i => f (i + k)) 0 slice0 (by omega) hW4.size
        have HR6 := Lib.hid hr6
        have HY := Lib.hid (show ResRow (fun m h => m = k + 1 ∧ ∃ p, PlaceP k f a p ∧ ∀ i, i < k + 1 → h i = insF f p (a, b) i) w (.returned v5) W6 from ⟨v5, 0 + k + 1 + 0, _, rfl, ⟨by omega, k, HP.out, fun i hi => by rw [← ins_app hk i (by omega)]; unfold app; simp⟩, hown6.lower (by omega), hbD.trans ((hW4.trans hbel6).mono (by omega))⟩)
        clear hown2 hbel2 hg2 hat2 hr2 hrow2 hown4 hbel4 hg4 hat4 hr4 hown6 hbel6 hg6 hat6 hr6 hR1 hR4 hW2 hW4 hbD HF
        go_wp2_with (first | (at_builtin; refine wpList_app rfl (.tmp 23) (.tmp 26) 39 rfl rfl rfl HR2.out ?_) | (at_builtin; refine wpList_app rfl (.tmp 28) (.tmp 30) 39 rfl rfl rfl HR4.out ?_) | (at_builtin; refine wpList_app rfl (.tmp 32) (.tmp 35) 39 rfl rfl rfl HR6.out ?_))
        go_ret
        exact HY.out
      · have hpp : ¬ qc = k := fun e => hqc e.symm
        have HP := Lib.hid (place_from HFr.out hk HA.out (fun h => absurd h hlt))
        have hkn : decide ((k : Int) < (k : Int)) = false := decide_eq_false (by omega)
        have hkn' : decide (k < k) = false := decide_eq_false (by omega)
        clear hb
        go_wp2_with fail
        refine wp_region_held_drew (S := (fun W => W.cell? ⟨w.heap.size, 0, none⟩ = some (.int .i64 a) ∧ W.cell? ⟨w.heap.size, 1, none⟩ = some (.int .i64 b) ∧ wr.heap.size ≤ W.heap.size ∧ Below (w.heap.size + 1) (w.alloc (.cells #[.int .i64 a, .int .i64 b] 25)) W)) (by kernel_rfl) (⟨hx0, hx1, Nat.le_refl _, HB.out.drew⟩) (fun hHeld => ?_)
        refine tk 0 hHeld ?_
        refine tk 1 hHeld ?_
        refine tk 2 hHeld ?_
        refine tk 3 hHeld ?_
        refine tk 4 hHeld ?_
        refine tn 5 hHeld ?_
        refine tn 6 hHeld ?_
        refine tn 7 hHeld ?_
        refine tn 8 hHeld ?_
        refine tn 9 hHeld ?_
        refine tn 10 hHeld ?_
        refine tn 11 hHeld ?_
        refine tn 12 hHeld ?_
        refine tk 13 hHeld ?_
        refine rd0 ?_
        have HF := Lib.hid hHeld.2.2.2
        clear hHeld
        have hbD : Below w.heap.size w wr := bel1 HB.out
        have hR1 : PRow ((wr.drew).alloc (.cells #[] 25)) g o k f := (H1.out.below hbD l1).below ((Below.refl _ _).drew.alloc (Nat.le_refl _) _) hgl
        obtain ⟨v1, W2, hr2, hown2, hbel2, hg2, hat2⟩ := app_sp ((wr.drew).alloc (.cells #[] 25)) wr.heap.size 39 39 Try.underlying39 (RowO.made0 wr.drew wr.heap.size _ 2 (pc f) (Nat.le_refl _)) qc (pre_row hR1 hk) (by omega) (by simp)
        have HR2 := Lib.hid hr2
        have hW2 : Below wr.heap.size wr W2 := ((Below.refl wr.heap.size wr).drew.alloc (Nat.le_refl _) _).trans hbel2
        have hl2 : wr.heap.size ≤ W2.heap.size := hW2.size
        have ⟨hy0, hy1, hyl⟩ := box0 (HB.out.trans (hW2.mono hsz))
        have hrow2 := hown2.alloc (.cells #[.int .i64 a, .int .i64 b] 25)
        obtain ⟨v3, W4, hr4, hown4, hbel4, hg4, hat4⟩ := app_sp (W2.alloc (.cells #[.int .i64 a, .int .i64 b] 25)) wr.heap.size 39 39 Try.underlying39 hrow2 (m := 1) 1 one_row (by omega) (by simp; omega)
        have HR4 := Lib.hid hr4
        have hW4 : Below wr.heap.size wr W4 := (hW2.alloc hl2 _).trans hbel4
        have hR4 : PRow W4 g o k f := (H1.out.below hbD l1).below hW4 hgl
        obtain ⟨v5, W6, hr6, hown6, hbel6, hg6, hat6⟩ := app_sp W4 wr.heap.size 39 39 Try.underlying39 hown4 (g := g) (o := o + k * 2) (m := 0) (h := fun i => f (i + k)) (qc - k) slice0 (by omega) hW4.size
        have HR6 := Lib.hid hr6
        have HY := Lib.hid (show ResRow (fun m h => m = k + 1 ∧ ∃ p, PlaceP k f a p ∧ ∀ i, i < k + 1 → h i = insF f p (a, b) i) w (.returned v5) W6 from ⟨v5, 0 + k + 1 + 0, _, rfl, ⟨by omega, k, HP.out, fun i hi => by rw [← ins_app hk i (by omega)]; unfold app; simp⟩, hown6.lower (by omega), hbD.trans ((hW4.trans hbel6).mono (by omega))⟩)
        clear hown2 hbel2 hg2 hat2 hr2 hrow2 hown4 hbel4 hg4 hat4 hr4 hown6 hbel6 hg6 hat6 hr6 hR1 hR4 hW2 hW4 hbD HF
        go_wp2_with (first | (at_builtin; refine wpList_app rfl (.tmp 23) (.tmp 26) 39 rfl rfl rfl HR2.out ?_) | (at_builtin; refine wpList_app rfl (.tmp 28) (.tmp 30) 39 rfl rfl rfl HR4.out ?_) | (at_builtin; refine wpList_app rfl (.tmp 32) (.tmp 35) 39 rfl rfl rfl HR6.out ?_))
        go_ret
        exact HY.out
theorem ins0 {f : Nat → Int × Int} {a b : Int} : ∀ i, i < 0 + 1 → app f 0 (fun _ => (a, b)) i = insF f 0 (a, b) i := fun i hi => by
  obtain rfl : i = 0 := by omega
  simp [app, insF]
set_option maxRecDepth 100000 in
set_option maxHeartbeats 3200000 in
theorem put2_none (qc : Nat) (f : Nat → Int × Int) (a b : Int) (w : World) (hF : FreeB 0 f a b) :
    Calls Try.prog 61 #[.slice none 0 qc, .agg #[.int .i64 a, .int .i64 b]] w (ResRow (fun m h => m = 0 + 1 ∧ ∃ p, PlaceP 0 f a p ∧ ∀ i, i < 0 + 1 → h i = insF f p (a, b) i) w) := by
  have HFr := Lib.hid hF
  clear hF
  go_enter Try.func61, Try.ntmps61
  go_wp2
  go_loopw [5] (fun i wr => i = .int .i64 0 ∧ Below (w.heap.size + 1) (w.alloc (.cells #[.int .i64 a, .int .i64 b] 25)) wr) (fun i _ => 0)
  case atStart => exact ⟨rfl, by simpa using Below.refl _ _⟩
  case round =>
    obtain ⟨rfl, hb⟩ := hrel
    have HB := Lib.hid hb
    have ⟨hx0, hx1, hxl⟩ := box0 hb
    have hsz : w.heap.size + 1 ≤ wr.heap.size := hxl
    have HP := Lib.hid (place_from HFr.out (Nat.le_refl 0) (fun j h => absurd h (Nat.not_lt_zero _)) (fun h => absurd h (Nat.lt_irrefl _)))
    clear hb
    go_wp2_with fail
    refine wp_region_held_drew (S := (fun W => W.cell? ⟨w.heap.size, 0, none⟩ = some (.int .i64 a) ∧ W.cell? ⟨w.heap.size, 1, none⟩ = some (.int .i64 b) ∧ wr.heap.size ≤ W.heap.size ∧ Below (w.heap.size + 1) (w.alloc (.cells #[.int .i64 a, .int .i64 b] 25)) W)) (by kernel_rfl) (⟨hx0, hx1, Nat.le_refl _, HB.out.drew⟩) (fun hHeld => ?_)
    refine tk 0 hHeld ?_
    refine tk 1 hHeld ?_
    refine tk 2 hHeld ?_
    refine tk 3 hHeld ?_
    refine tk 4 hHeld ?_
    refine tn 5 hHeld ?_
    refine tn 6 hHeld ?_
    refine tn 7 hHeld ?_
    refine tn 8 hHeld ?_
    refine tn 9 hHeld ?_
    refine tn 10 hHeld ?_
    refine tn 11 hHeld ?_
    refine tn 12 hHeld ?_
    refine tk 13 hHeld ?_
    refine rd0 ?_
    have HF := Lib.hid hHeld.2.2.2
    clear hHeld
    have hbD : Below w.heap.size w wr := bel1 HB.out
    obtain ⟨W2, hW2e⟩ : ∃ W2, W2 = (wr.alloc (.cells #[] 25)).drew := ⟨_, rfl⟩
    have hmade : RowS W2 wr.heap.size (.slice (some ⟨wr.heap.size, 0, none⟩) 0 0) 0 f := by rw [hW2e]; exact RowO.made0 wr.drew wr.heap.size _ 2 (pc f) (Nat.le_refl _)
    have hr2 : ∀ W, (Builtin.append_ #[39, 39] 39 #[.slice (some ⟨wr.heap.size, 0, none⟩) 0 0, .slice none 0 qc]).run Try.prog W = .ok (.slice (some ⟨wr.heap.size, 0, none⟩) 0 0) W := fun W => app_none Try.underlying39 infoS.choose_spec.1 _ _ 0 0 qc (Nat.le_refl _)
    have hW2 : Below wr.heap.size wr W2 := by rw [hW2e]; exact ((Below.refl wr.heap.size wr).alloc (Nat.le_refl _) _).drew
    have HR2 := Lib.hid hr2
    have hl2 : wr.heap.size ≤ W2.heap.size := hW2.size
    have ⟨hy0, hy1, hyl⟩ := box0 (HB.out.trans (hW2.mono hsz))
    have hrow2 := hmade.alloc (.cells #[.int .i64 a, .int .i64 b] 25)
    obtain ⟨v3, W4, hr4, hown4, hbel4, hg4, hat4⟩ := app_sp (W2.alloc (.cells #[.int .i64 a, .int .i64 b] 25)) wr.heap.size 39 39 Try.underlying39 hrow2 (m := 1) 1 one_row (by omega) (by simp; omega)
    obtain ⟨a4, c4, rfl⟩ := hown4.isSlice
    have HR4 := Lib.hid hr4
    have hW4 : Below wr.heap.size wr W4 := (hW2.alloc hl2 _).trans hbel4
    have hr6 : ∀ W, (Builtin.append_ #[39, 39] 39 #[.slice a4 (0 + 1) c4, .slice none 0 qc]).run Try.prog W = .ok (.slice a4 (0 + 1) c4) W := fun W => app_none Try.underlying39 infoS.choose_spec.1 _ _ (0 + 1) c4 qc (rowO_cap_le hown4)
    have HR6 := Lib.hid hr6
    have HY := Lib.hid (show ResRow (fun m h => m = 0 + 1 ∧ ∃ p, PlaceP 0 f a p ∧ ∀ i, i < 0 + 1 → h i = insF f p (a, b) i) w (.returned (.slice a4 (0 + 1) c4)) W4 from ⟨_, 0 + 1, _, rfl, ⟨by omega, 0, HP.out, ins0⟩, hown4.lower (by omega), hbD.trans (hW4.mono (by omega))⟩)
    clear hmade hr2 hrow2 hown4 hbel4 hg4 hat4 hr4 hr6 hW2 hW4 hbD HF
    go_wp2_with (first | (at_builtin; refine wpList_app rfl (.tmp 23) (.tmp 26) 39 rfl rfl rfl (HR2.out _) ?_; rw [← hW2e]; clear hW2e) | (at_builtin; refine wpList_app rfl (.tmp 28) (.tmp 30) 39 rfl rfl rfl HR4.out ?_) | (at_builtin; refine wpList_app rfl (.tmp 32) (.tmp 35) 39 rfl rfl rfl (HR6.out _) ?_))
    go_ret
    exact HY.out
theorem put2_spec (qa : Option Addr) (n qc : Nat) (f : Nat → Int × Int) (a b : Int) (w : World) (hn : n ≤ 1048576) (h1 : PS w qa n qc f) (hF : FreeB n f a b) :
    Calls Try.prog 61 #[.slice qa n qc, .agg #[.int .i64 a, .int .i64 b]] w (ResRow (fun m h => m = n + 1 ∧ ∃ p, PlaceP n f a p ∧ ∀ i, i < n + 1 → h i = insF f p (a, b) i) w) := by
  rcases h1 with ⟨rfl, rfl⟩ | ⟨g, o, rfl, l1, hnc, h1⟩
  · exact put2_none qc f a b w hF
  · exact put2_some g o n qc hnc f a b w hn h1 l1 hF
theorem app_any (W : World) (lo : Nat) (t ty : TypeId) (ht : Try.prog.underlying t = some (.slice 25)) {v : Value} {n : Nat} {f : Nat → Int × Int} (hown : RowS W lo v n f) {qa : Option Addr} {m qc : Nat} {h : Nat → Int × Int} (hd : PS W qa m qc h) (hnm : n + m ≤ 4194304) (hl : lo ≤ W.heap.size) :
    ∃ v' W', (Builtin.append_ #[t, t] ty #[v, .slice qa m qc]).run Try.prog W = .ok v' W' ∧ RowS W' lo v' (n + m) (app f n h) ∧ Below lo W W' := by
  rcases hd with ⟨rfl, rfl⟩ | ⟨g, o, rfl, l1, hnc, h1⟩
  · obtain ⟨a, c, rfl⟩ := hown.isSlice
    exact ⟨_, W, app_none ht infoS.choose_spec.1 a none n c qc (rowO_cap_le hown), RowO.congr hown (fun j hj => by rw [← app_pc f h n 0 j (by omega), if_pos (by omega)]), Below.refl _ _⟩
  · obtain ⟨v', W', h1, h2, h3, _⟩ := app_sp W lo t ty ht hown (g := g) (o := o) (m := m) qc (h := h) h1 hnm hl
    exact ⟨v', W', h1, h2, h3⟩
set_option maxRecDepth 100000 in
set_option maxHeartbeats 3200000 in
theorem put_spec (qa : Option Addr) (n qc : Nat) (f : Nat → Int × Int) (a b : Int) (w : World) (hn : n ≤ 1048576) (h1 : PS w qa n qc f) :
    Calls Try.prog 95 #[.slice qa n qc, .agg #[.int .i64 a, .int .i64 b]] w (ResRow (PutP n f a b) w) := by
  have H1 := Lib.hid h1
  clear h1
  by_cases h400 : n ≤ 400
  · have hd : decide ((400 : Int) < (n : Int)) = false := decide_eq_false (by omega)
    have hR1 : PS (w.alloc (.cells #[.int .i64 a, .int .i64 b] 25)) qa n qc f := H1.out.bel ((Below.refl _ _).alloc (Nat.le_refl _) _)
    go_enter Try.func95, Try.ntmps95
    go_wp2_with fail
    refine (isfree_spec qa n qc f a b _ hn hR1.pa).mono ?_
    intro e wr h
    obtain ⟨c, rfl, hc, hb⟩ := resB_elim h
    have hb : Below (w.heap.size + 1) (w.alloc (.cells #[.int .i64 a, .int .i64 b] 25)) wr := by simpa using hb
    have HB := Lib.hid hb
    have ⟨hx0, hx1, hxl⟩ := box0 hb
    obtain ⟨v1, W2, hr2, hown2, hbel2⟩ := app_any (wr.alloc (.cells #[] 25)) wr.heap.size 39 39 Try.underlying39 (RowO.made0 wr wr.heap.size _ 2 (pc f) (Nat.le_refl _)) ((H1.out.bel (bel1 hb)).bel ((Below.refl _ _).alloc (Nat.le_refl _) _)) (by omega) (by simp)
    have HR2 := Lib.hid hr2
    have HOLD := Lib.hid (show ¬ (FreeB n f a b ∧ n < 20) → ResRow (PutP n f a b) w (.returned v1) W2 from fun hn => ⟨v1, 0 + n, _, rfl, .inr (.inl ⟨h400, hn, by omega, fun i hi => by simp [app]⟩), hown2.lower (by omega), (bel1 HB.out).trans ((((Below.refl wr.heap.size wr).alloc (Nat.le_refl _) _).trans hbel2).mono (by omega))⟩)
    clear h hR1 hr2 hown2 hbel2
    cases c with
    | false =>
      have HY := Lib.hid (HOLD.out (fun h => by have := hc.2 h.1; cases this))
      clear hb hc
      go_wp2_with (at_builtin; refine wpList_app rfl (.tmp 18) (.tmp 19) 39 rfl rfl rfl HR2.out ?_)
      go_ret
      exact HY.out
    | true =>
      have HF := Lib.hid (hc.1 rfl)
      clear hb hc
      by_cases h20 : 20 ≤ n
      · have hd20 : decide ((20 : Int) ≤ (n : Int)) = true := decide_eq_true (by omega)
        have HY := Lib.hid (HOLD.out (fun h => by omega))
        go_wp2_with (at_builtin; refine wpList_app rfl (.tmp 18) (.tmp 19) 39 rfl rfl rfl HR2.out ?_)
        go_ret
        exact HY.out
      · have hd20 : decide ((20 : Int) ≤ (n : Int)) = false := decide_eq_false (by omega)
        go_wp2_with fail
        refine (put2_spec qa n qc f a b _ hn (H1.out.bel (bel1 HB.out)) HF.out).mono ?_
        intro e w2 h
        obtain ⟨v, m, h', rfl, hq, hrow, hb⟩ := resRow_elim h
        have HR := Lib.hid (show ResRow (PutP n f a b) w (.returned v) w2 from ⟨v, m, h', rfl, .inr (.inr ⟨h400, HF.out, by omega, hq.1, hq.2⟩), hrow.lower (by omega), (bel1 HB.out).trans (hb.mono (by omega))⟩)
        clear h hq hrow hb
        go_wp2
        go_ret
        exact HR.out
  · have hd : decide ((400 : Int) < (n : Int)) = true := decide_eq_true (by omega)
    have HR := Lib.hid (show ResRow (PutP n f a b) w (.returned (.slice (some ⟨w.heap.size + 1, 0, none⟩) 0 0)) ((w.alloc (.cells #[.int .i64 a, .int .i64 b] 25)).alloc (.cells #[] 25)) from ⟨_, 0, f, rfl, .inl ⟨by omega, rfl⟩, by simpa using RowO.made0 (w.alloc (.cells #[.int .i64 a, .int .i64 b] 25)) w.heap.size 25 2 (pc f) (by simp), ((Below.refl _ _).alloc (Nat.le_refl _) _).alloc (by simp) _⟩)
    go_enter Try.func95, Try.ntmps95
    go_wp2
    go_ret
    exact HR.out
end Go.Proofs.Ytfciojkibklkfaa.SpanC
end
section
namespace Go.Proofs.Ytfciojkibklkfaa.ValC
open Go.RowKit RowC
def Rg (lo hi k : Nat) : Prop := lo ≤ k ∧ k < hi
structure Off (S : Nat → Prop) (w w' : World) : Prop where
  os : w'.os = w.os
  tape : w'.tape = w.tape
  output : w'.output = w.output
  size : w.heap.size ≤ w'.heap.size
  block : ∀ k, k < w.heap.size → ¬ S k → w'.heap[k]? = w.heap[k]?
theorem Off.refl (S : Nat → Prop) (w : World) : Off S w w := ⟨rfl, rfl, rfl, Nat.le_refl _, fun _ _ _ => rfl⟩
theorem Off.trans {S : Nat → Prop} {a b c : World} (h : Off S a b) (k : Off S b c) : Off S a c :=
  ⟨k.os.trans h.os, k.tape.trans h.tape, k.output.trans h.output, Nat.le_trans h.size k.size, fun i hi hs => (k.block i (Nat.lt_of_lt_of_le hi h.size) hs).trans (h.block i hi hs)⟩
theorem Off.drew {S : Nat → Prop} {a w : World} (h : Off S a w) : Off S a w.drew := ⟨h.os, h.tape, h.output, h.size, h.block⟩
theorem Off.alloc {S : Nat → Prop} {a w : World} (h : Off S a w) (o : Obj) : Off S a (w.alloc o) := h.trans ⟨rfl, rfl, rfl, by simp, fun _ hk _ => Below.heap_alloc _ _ _ hk⟩
theorem Off.setCell {S : Nat → Prop} {a w : World} (h : Off S a w) {p : Addr} (hp : S p.block) (u : Value) : Off S a (w.setCell p u) :=
  h.trans ⟨rfl, rfl, rfl, by simp [World.setCell], fun _ _ hs => Below.heap_setCell _ _ _ _ (fun e => hs (e ▸ hp))⟩
theorem Off.of_below {S : Nat → Prop} {a w w' : World} (h : Off S a w) (k : Below w.heap.size w w') : Off S a w' := h.trans ⟨k.os, k.tape, k.output, k.size, fun i hi _ => k.block i hi⟩
theorem Off.below {S : Nat → Prop} {B : Nat} {w w' : World} (h : Off S w w') (hB : B ≤ w.heap.size) (hS : ∀ k, S k → B ≤ k) : Below B w w' :=
  ⟨h.os, h.tape, h.output, h.size, fun k hk => h.block k (by omega) (fun hs => by have := hS k hs; omega)⟩
theorem Off.more {S T : Nat → Prop} {w w' : World} (h : Off S w w') (hST : ∀ k, S k → T k) : Off T w w' := ⟨h.os, h.tape, h.output, h.size, fun k hk ht => h.block k hk (fun hs => ht (hST k hs))⟩
def RowV (W : World) (S : Nat → Prop) (v : Value) (n size : Nat) (c : Nat → Value) : Prop :=
  (∀ k, S k → k < W.heap.size) ∧ ∃ a cap, v = .slice a n cap ∧ n ≤ cap ∧ (0 < n → ∃ g, a = some ⟨g, 0, none⟩ ∧ S g ∧ (∀ j, j < n * size → W.cell? ⟨g, j, none⟩ = some (c j)) ∧ ∀ j, W.frozen? ⟨g, j, none⟩ = false)
section
variable {W W' : World} {S T : Nat → Prop} {v : Value} {n size : Nat} {c d : Nat → Value}
theorem RowV.keep (h : RowV W S v n size c) (hs : W.heap.size ≤ W'.heap.size) (hb : ∀ k, k < W.heap.size → S k → W'.heap[k]? = W.heap[k]?) : RowV W' S v n size c := by
  obtain ⟨h1, a, cap, h2, hnc, h3⟩ := h
  refine ⟨fun k hk => Nat.lt_of_lt_of_le (h1 k hk) hs, a, cap, h2, hnc, fun hn => ?_⟩
  obtain ⟨g, ha, hg, hc, hf⟩ := h3 hn
  have e := hb g (h1 g hg) hg
  exact ⟨g, ha, hg, fun j hj => (World.cell?_of_block (a := ⟨g, j, none⟩) e).trans (hc j hj), fun j => (World.frozen?_of_block (a := ⟨g, j, none⟩) e).trans (hf j)⟩
theorem RowV.below (h : RowV W S v n size c) (hb : Below W.heap.size W W') : RowV W' S v n size c := h.keep hb.size fun k hk _ => hb.block k hk
theorem RowV.off (h : RowV W S v n size c) (hb : Off T W W') (hd : ∀ k, T k → ¬ S k) : RowV W' S v n size c := h.keep hb.size fun k hk hs => hb.block k hk (fun ht => hd k ht hs)
theorem RowV.congr (h : RowV W S v n size c) (hc : ∀ j, j < n * size → c j = d j) : RowV W S v n size d := by
  obtain ⟨h1, a, cap, h2, hnc, h3⟩ := h
  refine ⟨h1, a, cap, h2, hnc, fun hn => ?_⟩
  obtain ⟨g, ha, hg, hcc, hf⟩ := h3 hn
  exact ⟨g, ha, hg, fun j hj => by rw [hcc j hj, hc j hj], hf⟩
theorem RowV.more (h : RowV W S v n size c) (hT : ∀ k, T k → k < W.heap.size) (hST : ∀ k, S k → T k) : RowV W T v n size c := by
  obtain ⟨h1, a, cap, h2, hnc, h3⟩ := h
  refine ⟨hT, a, cap, h2, hnc, fun hn => ?_⟩
  obtain ⟨g, ha, hg, hcc, hf⟩ := h3 hn
  exact ⟨g, ha, hST g hg, hcc, hf⟩
theorem RowV.cases {p : Prop} (h : RowV W S v n size c) (h0 : ∀ a cap, n = 0 → v = .slice a 0 cap → p)
    (h1 : ∀ g cap, 0 < n → n ≤ cap → v = .slice (some ⟨g, 0, none⟩) n cap → S g → g < W.heap.size → (∀ j, j < n * size → W.cell? ⟨g, j, none⟩ = some (c j)) → (∀ j, W.frozen? ⟨g, j, none⟩ = false) → p) : p := by
  obtain ⟨k1, a, cap, k2, hnc, k3⟩ := h
  rcases Nat.eq_zero_or_pos n with hn | hn
  · exact h0 a cap hn (by rw [k2, hn])
  · obtain ⟨g, ha, hg, hcc, hf⟩ := k3 hn
    exact h1 g cap hn hnc (by rw [k2, ha]) hg (k1 g hg) hcc hf
end
def IsB (b : Bool) (w : World) (e : Ending) (w' : World) : Prop := e = .returned (.bool b) ∧ Below w.heap.size w w'
theorem isB_elim {b : Bool} {w : World} {e : Ending} {w' : World} (h : IsB b w e w') : e = .returned (.bool b) ∧ Below w.heap.size w w' := h
end Go.Proofs.Ytfciojkibklkfaa.ValC
end
