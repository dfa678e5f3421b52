/- The lattice of labels: the join is the least above both, the meet the greatest below both: mathematics. -/
import Derived.Test.YtdimpopkkjpddaaDoorLabBelow
namespace Go.Proofs.YtdimpopkkjpddaaDoor.LabC
open Go.RowKit KeptC
set_option linter.unusedVariables false

def AB (s t : Int) : Int := bits BinOp.and IntKind.i64 s t
def OB (s t : Int) : Int := bits BinOp.or IntKind.i64 s t
def chk1 (a b c : Int) : Bool :=
  decide (0 ≤ OB a b) && (decide (OB a b ≤ 7) && (decide (0 ≤ AB a b) && (decide (AB a b ≤ 7) && ((AB a (OB a b) == a) && ((AB b (OB a b) == b) && ((AB (AB a b) a == AB a b) && ((AB (AB a b) b == AB a b) &&
  (((AB a b == a) == (OB a b == b)) && (((AB (OB a b) c == OB a b) == ((AB a c == a) && (AB b c == b))) && ((AB c (AB a b) == c) == ((AB c a == c) && (AB c b == c))))))))))))
theorem chkS : ((List.range 8).all fun a => (List.range 8).all fun b => (List.range 8).all fun c => chk1 (a : Int) (b : Int) (c : Int)) = true := by kernel_rfl
theorem sets3 {s t u : Int} (hs : 0 ≤ s ∧ s ≤ 7) (ht : 0 ≤ t ∧ t ≤ 7) (hu : 0 ≤ u ∧ u ≤ 7) : chk1 s t u = true := by
  obtain ⟨a, rfl⟩ := Int.eq_ofNat_of_zero_le hs.1
  obtain ⟨b, rfl⟩ := Int.eq_ofNat_of_zero_le ht.1
  obtain ⟨c, rfl⟩ := Int.eq_ofNat_of_zero_le hu.1
  exact List.all_eq_true.1 (List.all_eq_true.1 (List.all_eq_true.1 chkS a (List.mem_range.2 (by omega))) b (List.mem_range.2 (by omega))) c (List.mem_range.2 (by omega))
theorem rB_mk {l s : Int} (h : 0 ≤ l ∧ l ≤ 3 ∧ 0 ≤ s ∧ s ≤ 7) : rB l s = true := (rB_iff l s).2 h
theorem bB_mk (l s m t : Int) : bB l s m t = (decide (l ≤ m) && (AB s t == s)) := rfl
/-- the join and the meet of two -/
theorem lat2 {l s m t : Int} (h1 : rB l s = true) (h2 : rB m t = true) : rB (maxV l m) (OB s t) = true ∧ rB (minV l m) (AB s t) = true ∧ belowB l s (maxV l m) (OB s t) = true ∧ belowB m t (maxV l m) (OB s t) = true ∧ belowB (minV l m) (AB s t) l s = true ∧ belowB (minV l m) (AB s t) m t = true ∧
    belowB l s m t = ((maxV l m == m) && (OB s t == t)) := by
  obtain ⟨a1, a2, a3, a4⟩ := (rB_iff l s).1 h1
  obtain ⟨b1, b2, b3, b4⟩ := (rB_iff m t).1 h2
  have hc := sets3 ⟨a3, a4⟩ ⟨b3, b4⟩ ⟨a3, a4⟩
  unfold chk1 at hc
  simp only [Bool.and_eq_true, decide_eq_true_eq, beq_iff_eq] at hc
  obtain ⟨c1, c2, c3, c4, c5, c6, c7, c8, c9, _⟩ := hc
  have hmx : l ≤ maxV l m ∧ m ≤ maxV l m ∧ (maxV l m = l ∨ maxV l m = m) := by unfold maxV; split <;> omega
  have hmn : minV l m ≤ l ∧ minV l m ≤ m ∧ (minV l m = l ∨ minV l m = m) := by unfold minV; split <;> omega
  have r1 : rB (maxV l m) (OB s t) = true := rB_mk ⟨by omega, by omega, c1, c2⟩
  have r2 : rB (minV l m) (AB s t) = true := rB_mk ⟨by omega, by omega, c3, c4⟩
  refine ⟨r1, r2, ?_, ?_, ?_, ?_, ?_⟩
  · rw [below_yes h1 r1, bB_mk, c5]; simp [hmx.1]
  · rw [below_yes h2 r1, bB_mk, c6]; simp [hmx.2.1]
  · rw [below_yes r2 h1, bB_mk, c7]; simp [hmn.1]
  · rw [below_yes r2 h2, bB_mk, c8]; simp [hmn.2.1]
  · rw [below_yes h1 h2, bB_mk, c9]
    have : decide (l ≤ m) = (maxV l m == m) := by rw [Bool.eq_iff_iff]; simp [maxV]; omega
    rw [this]
/-- least, and greatest -/
theorem lat3 {l s m t n u : Int} (h1 : rB l s = true) (h2 : rB m t = true) (h3 : rB n u = true) : belowB (maxV l m) (OB s t) n u = (belowB l s n u && belowB m t n u) ∧ belowB n u (minV l m) (AB s t) = (belowB n u l s && belowB n u m t) := by
  obtain ⟨r1, r2, _⟩ := lat2 h1 h2
  obtain ⟨a1, a2, a3, a4⟩ := (rB_iff l s).1 h1
  obtain ⟨b1, b2, b3, b4⟩ := (rB_iff m t).1 h2
  obtain ⟨d1, d2, d3, d4⟩ := (rB_iff n u).1 h3
  have hc := sets3 ⟨a3, a4⟩ ⟨b3, b4⟩ ⟨d3, d4⟩
  unfold chk1 at hc
  simp only [Bool.and_eq_true, decide_eq_true_eq, beq_iff_eq] at hc
  obtain ⟨_, _, _, _, _, _, _, _, _, c10, c11⟩ := hc
  have e1 : decide (maxV l m ≤ n) = (decide (l ≤ n) && decide (m ≤ n)) := by
    rw [Bool.eq_iff_iff]; simp only [Bool.and_eq_true, decide_eq_true_eq]; unfold maxV; split <;> omega
  have e2 : decide (n ≤ minV l m) = (decide (n ≤ l) && decide (n ≤ m)) := by
    rw [Bool.eq_iff_iff]; simp only [Bool.and_eq_true, decide_eq_true_eq]; unfold minV; split <;> omega
  rw [below_yes r1 h3, below_yes h1 h3, below_yes h2 h3, below_yes h3 r2, below_yes h3 h1, below_yes h3 h2, bB_mk, bB_mk, bB_mk, bB_mk, bB_mk, bB_mk, e1, e2, c10, c11]
  constructor
  · cases decide (l ≤ n) <;> cases decide (m ≤ n) <;> cases (AB s u == s) <;> cases (AB t u == t) <;> rfl
  · cases decide (n ≤ l) <;> cases decide (n ≤ m) <;> cases (AB u s == u) <;> cases (AB u t == u) <;> rfl
end Go.Proofs.YtdimpopkkjpddaaDoor.LabC
