/- The rough reading gives back the label of a label's text. -/
import Derived.Test.YtdimpopkkjpddaaDoorRough
import Derived.Test.YtdimpopkkjpddaaDoorReadSpec
namespace Go.Proofs.YtdimpopkkjpddaaDoor.LabC
open Go.RowKit KeptC

theorem bytes_inj {a b : ByteArray} (h : a.toList = b.toList) : a = b := by
  rw [ByteArray.toList_eq, ByteArray.toList_eq] at h
  exact ByteArray.ext (by simpa using h)
def chkB : Bool := (List.range 4).all fun a => (List.range 8).all fun b =>
  ((List.range ((txt a b 3).size + 1)).all fun m => (run (txt a b 3) m).1 == m) && (run (txt a b 3) (txt a b 3).size).2 == ((a : Int), (b : Int))
theorem chk : chkB = true := by kernel_rfl
theorem chk_at {a b : Nat} (ha : a ≤ 3) (hb : b ≤ 7) : (∀ m, m ≤ (txt a b 3).size → (run (txt a b 3) m).1 = m) ∧ (run (txt a b 3) (txt a b 3).size).2 = ((a : Int), (b : Int)) := by
  have h := chk
  unfold chkB at h
  have h1 := List.all_eq_true.1 h a (List.mem_range.2 (by omega))
  have h2 := List.all_eq_true.1 h1 b (List.mem_range.2 (by omega))
  simp only [Bool.and_eq_true, List.all_eq_true, beq_iff_eq, List.mem_range] at h2
  exact ⟨fun m hm => h2.1 m (by omega), h2.2⟩
theorem run_text {t : ByteArray} {a b n : Nat} (h : IsText t a b) (hb : ∀ m, m < n → (run t m).1 < t.size) (he : ¬ (run t n).1 < t.size) : (run t n).2 = ((a : Int), (b : Int)) := by
  obtain ⟨h1, h2, h3⟩ := h
  obtain rfl : t = txt a b 3 := bytes_inj h3
  obtain ⟨hm, hr⟩ := chk_at h1 h2
  have hn : n = (txt a b 3).size := by
    have l1 : n ≤ (txt a b 3).size := by
      refine Nat.le_of_not_lt fun hlt => ?_
      have := hb _ hlt
      rw [hm _ (Nat.le_refl _)] at this
      exact Nat.lt_irrefl _ this
    rw [hm n l1] at he
    omega
  rw [hn]; exact hr
theorem run_empty {t : ByteArray} {n : Nat} (hz : t.size = 0) (hb : ∀ m, m < n → (run t m).1 < t.size) : (run t n).2 = (0, 0) := by
  cases n with
  | zero => rfl
  | succ k => have := hb k (Nat.lt_succ_self _); omega
/-- what the program answers is what the model may answer -/
theorem read_ok {t : ByteArray} {n : Nat} (hz : t.size ≤ 8000) (hb : ∀ m, m < n → (run t m).1 < t.size) (h : (textV (run t n).2.1 (run t n).2.2).toList = t.toList) : ReadP t (run t n).2.1 (run t n).2.2 0 := by
  have ht := bytes_inj h
  by_cases hr : rB (run t n).2.1 (run t n).2.2 = true
  · obtain ⟨h1, h2, h3, h4⟩ := (rB_iff _ _).1 hr
    refine .inr (.inl ⟨hz, (run t n).2.1.toNat, (run t n).2.2.toNat, ⟨by omega, by omega, ?_⟩, by omega, by omega, rfl⟩)
    rw [Int.toNat_of_nonneg h1, Int.toNat_of_nonneg h3, ← h, text_yes hr]
  · have hr' : rB (run t n).2.1 (run t n).2.2 = false := by simpa using hr
    rw [text_no hr'] at ht
    have h0 := run_empty (t := t) (n := n) (by rw [← ht]; rfl) hb
    rw [h0] at hr'
    exact absurd hr' (by decide)
theorem read_bad {t : ByteArray} {n : Nat} (hz : t.size ≤ 8000) (hb : ∀ m, m < n → (run t m).1 < t.size) (he : ¬ (run t n).1 < t.size) (h : ¬ (textV (run t n).2.1 (run t n).2.2).toList = t.toList) : ReadP t 0 0 3 := by
  refine .inr (.inr ⟨hz, fun a b hi => ?_, rfl, rfl, rfl⟩)
  have hr := run_text hi hb he
  rw [hr] at h
  obtain ⟨h1, h2, h3⟩ := hi
  rw [text_nat a b h1 h2] at h
  exact h h3.symm
theorem rough_elim {t : ByteArray} {w : World} {e : Ending} {w' : World} (h : RoughR t w e w') : ∃ n, e = .returned (.agg #[.int .i64 (run t n).2.1, .int .i64 (run t n).2.2]) ∧ (∀ m, m < n → (run t m).1 < t.size) ∧ ¬ (run t n).1 < t.size ∧ Below w.heap.size w w' := h
theorem readR_elim {t : ByteArray} {w : World} {e : Ending} {w' : World} (h : ReadR t w e w') : ∃ l s c : Int, e = .returned (.agg #[.int .i64 l, .int .i64 s, .int .i64 c]) ∧ ReadP t l s c ∧ Below w.heap.size w w' := h
/-- the model's answer is one -/
theorem read_one {t : ByteArray} {l s c l' s' c' : Int} (h : ReadP t l s c) (h' : ReadP t l' s' c') : l = l' ∧ s = s' ∧ c = c' := by
  have one : ∀ {a b a' b' : Nat}, IsText t a b → IsText t a' b' → a = a' ∧ b = b' := fun {a b a' b'} h1 h2 => by
    have e := bytes_inj (h1.2.2.symm.trans h2.2.2)
    have r1 := (chk_at h1.1 h1.2.1).2
    have r2 := (chk_at h2.1 h2.2.1).2
    rw [← e, r1] at r2
    simp only [Prod.mk.injEq] at r2
    omega
  rcases h with ⟨z, rfl, rfl, rfl⟩ | ⟨z, a, b, hi, rfl, rfl, rfl⟩ | ⟨z, hn, rfl, rfl, rfl⟩ <;> rcases h' with ⟨z', rfl, rfl, rfl⟩ | ⟨z', a', b', hi', rfl, rfl, rfl⟩ | ⟨z', hn', rfl, rfl, rfl⟩
  · exact ⟨rfl, rfl, rfl⟩
  · exact absurd z' z
  · exact absurd z' z
  · exact absurd z z'
  · obtain ⟨rfl, rfl⟩ := one hi hi'; exact ⟨rfl, rfl, rfl⟩
  · exact absurd hi (hn' a b)
  · exact absurd z z'
  · exact absurd hi' (hn a' b')
  · exact ⟨rfl, rfl, rfl⟩

set_option maxRecDepth 100000 in
set_option maxHeartbeats 3200000 in
theorem read_impl (t : ByteArray) (w : World) (ht : t.size ≤ 1048576) (hD : Door w) :
    Calls Tryd.prog 30 #[.string t] w (ReadR t w) := by
  have HD := Lib.hid hD
  have h0 := hD.lt
  clear hD
  by_cases hz : t.size ≤ 8000
  · go_enter Tryd.func30, Tryd.ntmps30
    go_wp2_with fail
    refine (rough_any t _ (HD.out.below (w := w) ((Below.refl _ _).alloc (Nat.le_refl _) _) h0)).mono ?_
    intro e w1 hr
    obtain ⟨n, rfl, hb, he, hB⟩ := rough_elim hr
    have HOK := Lib.hid (read_ok hz hb)
    have HBAD := Lib.hid (read_bad hz hb he)
    have HB1 := Lib.hid (Below.trans (B := w.heap.size) ((Below.refl _ w).alloc (Nat.le_refl _) _) (hB.mono (by simp)))
    have hs1 : w.heap.size + 1 ≤ w1.heap.size := by have := hB.size; simp at this; omega
    have r0 : w1.cell? ⟨w.heap.size, 0, none⟩ = some (.int .i64 0) := (hB.cell (p := ⟨w.heap.size, 0, none⟩) (by simp)).trans (by simp)
    have r1 : w1.cell? ⟨w.heap.size, 1, none⟩ = some (.int .i64 0) := (hB.cell (p := ⟨w.heap.size, 1, none⟩) (by simp)).trans (by simp)
    have r2 : w1.cell? ⟨w.heap.size, 2, none⟩ = some (.int .i64 0) := (hB.cell (p := ⟨w.heap.size, 2, none⟩) (by simp)).trans (by simp)
    have s0 : ∀ j, w1.frozen? ⟨w.heap.size, j, none⟩ = false := fun j => (hB.frozen (p := ⟨w.heap.size, j, none⟩) (by simp)).trans (by simp)
    clear hr hb he hB
    generalize (run t n).2.1 = L at *
    generalize (run t n).2.2 = S at *
    go_wp2_with fail
    refine (ti_w L S _ (HD.out.below (w := w) (HB1.out.alloc (by omega) _) h0)).mono ?_
    rintro e w2 ⟨rfl, hB⟩
    have ⟨c0, c1, _⟩ := cells2 hB (B := w1.heap.size) (a := .int .i64 L) (b := .int .i64 S) (by simp) (by simp)
    have q : ∀ j v, w1.cell? ⟨w.heap.size, j, none⟩ = some v → w2.cell? ⟨w.heap.size, j, none⟩ = some v := fun j v hv => (hB.cell (p := ⟨w.heap.size, j, none⟩) (by simp; omega)).trans (by rw [World.cell?_alloc_lt _ _ _ (by show w.heap.size < w1.heap.size; omega)]; exact hv)
    have q0 := q 0 _ r0
    have q1 := q 1 _ r1
    have q2 := q 2 _ r2
    have u0 : ∀ j, w2.frozen? ⟨w.heap.size, j, none⟩ = false := fun j => (hB.frozen (p := ⟨w.heap.size, j, none⟩) (by simp; omega)).trans (by rw [World.frozen?_alloc_old _ _ _ (by show w.heap.size ≠ _; omega)]; exact s0 j)
    have HB2 := Lib.hid ((HB1.out.alloc (by omega) _).trans (hB.mono (by simp; omega)))
    clear hB q r0 r1 r2 s0
    by_cases hT : (textV L S).toList = t.toList
    · have HR := Lib.hid (HOK.out hT)
      have hq : ((textV L S).toList == t.toList) = true := by simp [hT]
      clear hT
      generalize textV L S = T at *
      go_wp2
      refine bodyPost_ret (v := .agg #[.int .i64 L, .int .i64 S, .int .i64 0]) (by simp [results, Tryd.results30, go_sem, q0, q1, q2]) rfl (readR_mk _ _ _ HR.out ?_)
      exact ((HB2.out.setCell (Nat.le_refl _) _).setCell (Nat.le_refl _) _).setCell (Nat.le_refl _) _
    · have HR := Lib.hid (HBAD.out hT)
      have hq : ((textV L S).toList == t.toList) = false := by simp [hT]
      clear hT
      generalize textV L S = T at *
      go_wp2
      refine bodyPost_ret (v := .agg #[.int .i64 0, .int .i64 0, .int .i64 3]) (by simp [results, Tryd.results30, go_sem, q0, q1, q2]) rfl (readR_mk _ _ _ HR.out ?_)
      exact ((HB2.out.setCell (Nat.le_refl _) _).setCell (Nat.le_refl _) _).setCell (Nat.le_refl _) _
  · have HR := Lib.hid (show ReadP t 0 0 2 from .inl ⟨hz, rfl, rfl, rfl⟩)
    go_enter Tryd.func30, Tryd.ntmps30
    go_wp2
    refine bodyPost_ret (v := .agg #[.int .i64 0, .int .i64 0, .int .i64 2]) (by simp [results, Tryd.results30, go_sem]) rfl (readR_mk _ _ _ HR.out ?_)
    repeat (first | exact Below.refl _ _ | refine Below.setCell ?_ (by first | omega | (simp <;> omega)) _ | refine Below.alloc ?_ (by first | omega | (simp <;> omega)) _)
end Go.Proofs.YtdimpopkkjpddaaDoor.LabC
