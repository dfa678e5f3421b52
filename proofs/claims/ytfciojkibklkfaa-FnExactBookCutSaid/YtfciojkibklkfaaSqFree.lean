/- Where a span fits, in the program and in its model: contracts. -/
import Derived.Test.YtfciojkibklkfaaTk
import Derived.Test.YtfciojkibklkfaaTk
import Derived.Test.YtfciojkibklkfaaSqImpl2
namespace Go.Proofs.Ytfciojkibklkfaa.SpanC
open Go.RowKit KeptC
set_option linter.unusedSimpArgs false
set_option linter.unusedVariables false

def PlaceP (n : Nat) (f : Nat → Int × Int) (a : Int) (p : Nat) : Prop := p ≤ n ∧ (∀ j, j < p → (f j).2 ≤ a) ∧ (p < n → ¬ (f p).2 ≤ a)
def ResPlace (n : Nat) (f : Nat → Int × Int) (a : Int) (w : World) (e : Ending) (w' : World) : Prop := ∃ p : Nat, e = .returned (.int .i64 p) ∧ PlaceP n f a p ∧ Below w.heap.size w w'
theorem resPlace_elim {n : Nat} {f : Nat → Int × Int} {a : Int} {w : World} {e : Ending} {w' : World} (h : ResPlace n f a w e w') : ∃ p : Nat, e = .returned (.int .i64 p) ∧ PlaceP n f a p ∧ Below w.heap.size w w' := h
theorem bel1 {w W : World} {o : Obj} (h : Below (w.heap.size + 1) (w.alloc o) W) : Below w.heap.size w W := ((Below.refl w.heap.size w).alloc (Nat.le_refl _) o).trans (h.mono (Nat.le_succ _))
theorem box0 {w W : World} {x y : Value} {t : TypeId} (h : Below (w.heap.size + 1) (w.alloc (.cells #[x, y] t)) W) : W.cell? ⟨w.heap.size, 0, none⟩ = some x ∧ W.cell? ⟨w.heap.size, 1, none⟩ = some y ∧ w.heap.size < W.heap.size := by
  refine ⟨(h.cell (p := ⟨w.heap.size, 0, none⟩) (Nat.lt_succ_self _)).trans (by simp), (h.cell (p := ⟨w.heap.size, 1, none⟩) (Nat.lt_succ_self _)).trans (by simp), ?_⟩
  have := h.size
  simp at this
  omega

set_option maxRecDepth 100000 in
set_option maxHeartbeats 3200000 in
theorem place_impl (qa : Option Addr) (n qc : Nat) (f : Nat → Int × Int) (a b : Int) (w : World) (hn : n ≤ 1048576) (h1 : PA w qa n f) :
    Calls Try.prog 53 #[.slice qa n qc, .agg #[.int .i64 a, .int .i64 b]] w (ResPlace n f a w) := by
  have H1 := Lib.hid h1
  clear h1
  go_enter Try.func53, Try.ntmps53
  go_wp2
  go_loopw [5] (fun i wr => ∃ k : Nat, k ≤ n ∧ i = .int .i64 k ∧ (∀ j, j < k → (f j).2 ≤ a) ∧ Below (w.heap.size + 1) (w.alloc (.cells #[.int .i64 a, .int .i64 b] 25)) wr) (fun i _ => n - (intOf i).toNat)
  case atStart => exact ⟨0, Nat.zero_le _, rfl, fun j h => absurd h (Nat.not_lt_zero _), by simpa using Below.refl _ _⟩
  case round =>
    obtain ⟨k, hk, rfl, hall, hb⟩ := hrel
    have HA := Lib.hid hall
    have HB := Lib.hid hb
    have ⟨hx0, hx1, hxl⟩ := box0 hb
    have hsz : w.heap.size + 1 ≤ wr.heap.size := hxl
    clear hall
    by_cases hlt : k < n
    · obtain ⟨g, o, rfl, hgl, hc0, hc1⟩ := (H1.out.bel (bel1 hb)) _ hlt
      have hi0 : (0 : Int) ≤ (k : Int) := Int.natCast_nonneg _
      have hi1 : (k : Int) < (n : Int) := by omega
      have hkn : decide ((k : Int) < (n : Int)) = true := decide_eq_true hi1
      have hkn' : decide (k < n) = true := decide_eq_true hlt
      clear hb
      have hm := method_before (f k).1 (f k).2
      have hrs := fun W => before_impl (f k).1 (f k).2 a b W
      by_cases hlo : (f k).2 ≤ a
      · have HOK := Lib.hid (all_step (P := fun j => (f j).2 ≤ a) HA.out hlo)
        rw [decide_eq_true hlo] at hrs
        go_wp2_with fail
        refine wp_region_held_drew (S := (fun W => W.cell? ⟨g, o + k * 2, none⟩ = some (.int .i64 (f k).1) ∧ W.cell? ⟨g, o + k * 2 + 1, none⟩ = some (.int .i64 (f k).2) ∧ W.cell? ⟨w.heap.size, 0, none⟩ = some (.int .i64 a) ∧ W.cell? ⟨w.heap.size, 1, none⟩ = some (.int .i64 b) ∧ wr.heap.size ≤ W.heap.size ∧ Below (w.heap.size + 1) (w.alloc (.cells #[.int .i64 a, .int .i64 b] 25)) W)) (by kernel_rfl) (⟨hc0, hc1, hx0, hx1, Nat.le_refl _, HB.out.drew⟩) (fun hHeld => ?_)
        refine tk 0 hHeld ?_
        refine tk 1 hHeld ?_
        refine tk 2 hHeld ?_
        refine tk 3 hHeld ?_
        refine tk 4 hHeld ?_
        refine tk 5 hHeld ?_
        refine tk 6 hHeld ?_
        refine tk 7 hHeld ?_
        refine tk 8 hHeld ?_
        refine tk 9 hHeld ?_
        refine tk 10 hHeld ?_
        refine rd1 11 (fun K hK => ?_)
        go_simp
        go_at_call 113; refine (hrs _).mono ?_; rintro e w1 ⟨rfl, hb⟩
        refine hK.out _ _ (⟨(hb.cell (p := ⟨g, o + k * 2, none⟩) (Nat.lt_of_lt_of_le hgl hHeld.2.2.2.2.1)).trans hHeld.1, (hb.cell (p := ⟨g, o + k * 2 + 1, none⟩) (Nat.lt_of_lt_of_le hgl hHeld.2.2.2.2.1)).trans hHeld.2.1, (hb.cell (p := ⟨w.heap.size, 0, none⟩) (Nat.lt_of_lt_of_le hxl hHeld.2.2.2.2.1)).trans hHeld.2.2.1, (hb.cell (p := ⟨w.heap.size, 1, none⟩) (Nat.lt_of_lt_of_le hxl hHeld.2.2.2.2.1)).trans hHeld.2.2.2.1, Nat.le_trans hHeld.2.2.2.2.1 hb.size, hHeld.2.2.2.2.2.trans (hb.mono (Nat.le_trans hsz hHeld.2.2.2.2.1))⟩) (fun hHeld => ?_)
        clear hK K
        refine tk 12 hHeld ?_
        refine rd0 ?_
        have HF := Lib.hid hHeld.2.2.2.2.2
        clear hHeld
        go_wp2
        go_roundw
        case rel => exact ⟨k + 1, by omega, by go_num, HOK.out, HF.out⟩
        case measure => simp [intOf]; omega
      · have HOK := Lib.hid (show PlaceP n f a k from ⟨hk, HA.out, fun _ => hlo⟩)
        rw [decide_eq_false hlo] at hrs
        go_wp2_with fail
        refine wp_region_held_drew (S := (fun W => W.cell? ⟨g, o + k * 2, none⟩ = some (.int .i64 (f k).1) ∧ W.cell? ⟨g, o + k * 2 + 1, none⟩ = some (.int .i64 (f k).2) ∧ W.cell? ⟨w.heap.size, 0, none⟩ = some (.int .i64 a) ∧ W.cell? ⟨w.heap.size, 1, none⟩ = some (.int .i64 b) ∧ wr.heap.size ≤ W.heap.size ∧ Below (w.heap.size + 1) (w.alloc (.cells #[.int .i64 a, .int .i64 b] 25)) W)) (by kernel_rfl) (⟨hc0, hc1, hx0, hx1, Nat.le_refl _, HB.out.drew⟩) (fun hHeld => ?_)
        refine tk 0 hHeld ?_
        refine tk 1 hHeld ?_
        refine tk 2 hHeld ?_
        refine tk 3 hHeld ?_
        refine tk 4 hHeld ?_
        refine tk 5 hHeld ?_
        refine tk 6 hHeld ?_
        refine tk 7 hHeld ?_
        refine tk 8 hHeld ?_
        refine tk 9 hHeld ?_
        refine tk 10 hHeld ?_
        refine rd1 11 (fun K hK => ?_)
        go_simp
        go_at_call 113; refine (hrs _).mono ?_; rintro e w1 ⟨rfl, hb⟩
        refine hK.out _ _ (⟨(hb.cell (p := ⟨g, o + k * 2, none⟩) (Nat.lt_of_lt_of_le hgl hHeld.2.2.2.2.1)).trans hHeld.1, (hb.cell (p := ⟨g, o + k * 2 + 1, none⟩) (Nat.lt_of_lt_of_le hgl hHeld.2.2.2.2.1)).trans hHeld.2.1, (hb.cell (p := ⟨w.heap.size, 0, none⟩) (Nat.lt_of_lt_of_le hxl hHeld.2.2.2.2.1)).trans hHeld.2.2.1, (hb.cell (p := ⟨w.heap.size, 1, none⟩) (Nat.lt_of_lt_of_le hxl hHeld.2.2.2.2.1)).trans hHeld.2.2.2.1, Nat.le_trans hHeld.2.2.2.2.1 hb.size, hHeld.2.2.2.2.2.trans (hb.mono (Nat.le_trans hsz hHeld.2.2.2.2.1))⟩) (fun hHeld => ?_)
        clear hK K
        refine tk 12 hHeld ?_
        refine rd0 ?_
        have HF := Lib.hid hHeld.2.2.2.2.2
        clear hHeld
        go_wp2
        go_ret
        exact ⟨k, rfl, HOK.out, bel1 HF.out⟩
    · obtain rfl : k = n := by omega
      have HOK := Lib.hid (show PlaceP k f a k from ⟨hk, HA.out, fun h => absurd h hlt⟩)
      have hkn : decide ((k : Int) < (k : Int)) = false := decide_eq_false (by omega)
      have hkn' : decide (k < k) = false := decide_eq_false (by omega)
      clear hb
      go_wp2_with fail
      refine wp_region_held_drew (S := (fun W => W.cell? ⟨w.heap.size, 0, none⟩ = some (.int .i64 a) ∧ W.cell? ⟨w.heap.size, 1, none⟩ = some (.int .i64 b) ∧ wr.heap.size ≤ W.heap.size ∧ Below (w.heap.size + 1) (w.alloc (.cells #[.int .i64 a, .int .i64 b] 25)) W)) (by kernel_rfl) (⟨hx0, hx1, Nat.le_refl _, HB.out.drew⟩) (fun hHeld => ?_)
      refine tk 0 hHeld ?_
      refine tk 1 hHeld ?_
      refine tk 2 hHeld ?_
      refine tk 3 hHeld ?_
      refine tk 4 hHeld ?_
      refine tn 5 hHeld ?_
      refine tn 6 hHeld ?_
      refine tn 7 hHeld ?_
      refine tn 8 hHeld ?_
      refine tn 9 hHeld ?_
      refine tn 10 hHeld ?_
      refine tn 11 hHeld ?_
      refine tk 12 hHeld ?_
      refine rd0 ?_
      have HF := Lib.hid hHeld.2.2.2
      clear hHeld
      go_wp2
      go_ret
      exact ⟨k, rfl, HOK.out, bel1 HF.out⟩

def FreeP (n : Nat) (f : Nat → Int × Int) (a b : Int) : Prop := ∀ i, i < n → ¬ ((f i).1 < b ∧ a < (f i).2)
theorem sp_lt {n : Nat} {f : Nat → Int × Int} (h : SpR n f) {i : Nat} (hi : i < n) : (f i).1 < (f i).2 := ((spB_iff _ _).1 (h.2 i hi).1).2.1
theorem sp_mono {n : Nat} {f : Nat → Int × Int} (h : SpR n f) : ∀ j i, i < j → j < n → (f i).2 ≤ (f j).1 := by
  intro j
  induction j with
  | zero => intro i hi; omega
  | succ j ih =>
    intro i hi hj
    have h1 := (h.2 (j + 1) hj).2 (Nat.succ_pos _)
    simp only [Nat.add_sub_cancel] at h1
    by_cases e : i = j
    · subst e; exact h1
    · have h2 := ih i (by omega) (by omega)
      have h3 := sp_lt h (i := j) (by omega)
      omega
theorem fits_iff {n : Nat} {f : Nat → Int × Int} {a b : Int} {p : Nat} (h : SpR n f) (hab : a < b) (hp : PlaceP n f a p) : (p = n ∨ b ≤ (f p).1) ↔ FreeP n f a b := by
  obtain ⟨h0, h1, h2⟩ := hp
  constructor
  · intro hh i hi ⟨g1, g2⟩
    by_cases hip : i < p
    · have := h1 i hip; omega
    · rcases hh with e | e
      · omega
      · by_cases e2 : i = p
        · subst e2; omega
        · have h3 := sp_mono h i p (by omega) hi
          have h4 := sp_lt h (i := p) (by omega)
          omega
  · intro hf
    by_cases e : p = n
    · exact .inl e
    · right
      have h3 := hf p (by omega)
      have h4 := h2 (by omega)
      omega

set_option maxRecDepth 100000 in
set_option maxHeartbeats 3200000 in
theorem fits_impl (qa : Option Addr) (n qc : Nat) (f : Nat → Int × Int) (a b : Int) (w : World) (hn : n ≤ 1048576) (h1 : PA w qa n f) (hS : SpR n f) (hab : a < b) :
    Calls Try.prog 74 #[.slice qa n qc, .agg #[.int .i64 a, .int .i64 b]] w (ResB (FreeP n f a b) w) := by
  have H1 := Lib.hid h1
  have HS := Lib.hid hS
  clear h1 hS
  go_enter Try.func74, Try.ntmps74
  go_wp2_with fail
  refine (place_impl qa n qc f a b _ hn (H1.out.bel ((Below.refl _ _).alloc (Nat.le_refl _) _))).mono ?_
  intro e wr h
  obtain ⟨p, rfl, hp, hb⟩ := resPlace_elim h
  have HP := Lib.hid hp
  have hpn := hp.1
  have hb : Below (w.heap.size + 1) (w.alloc (.cells #[.int .i64 a, .int .i64 b] 25)) wr := by simpa using hb
  have HB := Lib.hid hb
  have ⟨hx0, hx1, hxl⟩ := box0 hb
  have hsz : w.heap.size + 1 ≤ wr.heap.size := hxl
  clear h hp
  by_cases hlt : p < n
  · obtain ⟨g, o, rfl, hgl, hc0, hc1⟩ := (H1.out.bel (bel1 hb)) _ hlt
    have hi0 : (0 : Int) ≤ (p : Int) := Int.natCast_nonneg _
    have hi1 : (p : Int) < (n : Int) := by omega
    have hpe : ((p : Int) == (n : Int)) = false := by rw [beq_eq_false_iff_ne]; omega
    have hpe' : (p == n) = false := by rw [beq_eq_false_iff_ne]; omega
    clear hb
    have hm := method_before a b
    have hrs := fun W => before_impl a b (f p).1 (f p).2 W
    have Hfi := Lib.hid (fits_iff HS.out hab HP.out)
    by_cases hlo : b ≤ (f p).1
    · rw [decide_eq_true hlo] at hrs
      have HY := Lib.hid (Hfi.out.1 (.inr hlo))
      go_wp2_with fail
      refine wp_region_held_drew (S := (fun W => W.cell? ⟨g, o + p * 2, none⟩ = some (.int .i64 (f p).1) ∧ W.cell? ⟨g, o + p * 2 + 1, none⟩ = some (.int .i64 (f p).2) ∧ W.cell? ⟨w.heap.size, 0, none⟩ = some (.int .i64 a) ∧ W.cell? ⟨w.heap.size, 1, none⟩ = some (.int .i64 b) ∧ wr.heap.size ≤ W.heap.size ∧ Below (w.heap.size + 1) (w.alloc (.cells #[.int .i64 a, .int .i64 b] 25)) W)) (by kernel_rfl) (⟨hc0, hc1, hx0, hx1, Nat.le_refl _, HB.out.drew⟩) (fun hHeld => ?_)
      refine tk 0 hHeld ?_
      refine tk 1 hHeld ?_
      refine tk 2 hHeld ?_
      refine tk 3 hHeld ?_
      refine tk 4 hHeld ?_
      refine tk 5 hHeld ?_
      refine tk 6 hHeld ?_
      refine tk 7 hHeld ?_
      refine tk 8 hHeld ?_
      refine tk 9 hHeld ?_
      refine tk 10 hHeld ?_
      refine rd1 11 (fun K hK => ?_)
      go_simp
      go_at_call 113; refine (hrs _).mono ?_; rintro e w1 ⟨rfl, hb⟩
      refine hK.out _ _ (⟨(hb.cell (p := ⟨g, o + p * 2, none⟩) (Nat.lt_of_lt_of_le hgl hHeld.2.2.2.2.1)).trans hHeld.1, (hb.cell (p := ⟨g, o + p * 2 + 1, none⟩) (Nat.lt_of_lt_of_le hgl hHeld.2.2.2.2.1)).trans hHeld.2.1, (hb.cell (p := ⟨w.heap.size, 0, none⟩) (Nat.lt_of_lt_of_le hxl hHeld.2.2.2.2.1)).trans hHeld.2.2.1, (hb.cell (p := ⟨w.heap.size, 1, none⟩) (Nat.lt_of_lt_of_le hxl hHeld.2.2.2.2.1)).trans hHeld.2.2.2.1, Nat.le_trans hHeld.2.2.2.2.1 hb.size, hHeld.2.2.2.2.2.trans (hb.mono (Nat.le_trans hsz hHeld.2.2.2.2.1))⟩) (fun hHeld => ?_)
      clear hK K
      refine tk 12 hHeld ?_
      refine tk 13 hHeld ?_
      refine rd0 ?_
      have HF := Lib.hid hHeld.2.2.2.2.2
      clear hHeld
      go_wp2
      go_ret
      exact resB_yes HY.out (bel1 HF.out)
    · rw [decide_eq_false hlo] at hrs
      have HY := Lib.hid (show ¬ FreeP n f a b from fun h => by have := Hfi.out.2 h; omega)
      go_wp2_with fail
      refine wp_region_held_drew (S := (fun W => W.cell? ⟨g, o + p * 2, none⟩ = some (.int .i64 (f p).1) ∧ W.cell? ⟨g, o + p * 2 + 1, none⟩ = some (.int .i64 (f p).2) ∧ W.cell? ⟨w.heap.size, 0, none⟩ = some (.int .i64 a) ∧ W.cell? ⟨w.heap.size, 1, none⟩ = some (.int .i64 b) ∧ wr.heap.size ≤ W.heap.size ∧ Below (w.heap.size + 1) (w.alloc (.cells #[.int .i64 a, .int .i64 b] 25)) W)) (by kernel_rfl) (⟨hc0, hc1, hx0, hx1, Nat.le_refl _, HB.out.drew⟩) (fun hHeld => ?_)
      refine tk 0 hHeld ?_
      refine tk 1 hHeld ?_
      refine tk 2 hHeld ?_
      refine tk 3 hHeld ?_
      refine tk 4 hHeld ?_
      refine tk 5 hHeld ?_
      refine tk 6 hHeld ?_
      refine tk 7 hHeld ?_
      refine tk 8 hHeld ?_
      refine tk 9 hHeld ?_
      refine tk 10 hHeld ?_
      refine rd1 11 (fun K hK => ?_)
      go_simp
      go_at_call 113; refine (hrs _).mono ?_; rintro e w1 ⟨rfl, hb⟩
      refine hK.out _ _ (⟨(hb.cell (p := ⟨g, o + p * 2, none⟩) (Nat.lt_of_lt_of_le hgl hHeld.2.2.2.2.1)).trans hHeld.1, (hb.cell (p := ⟨g, o + p * 2 + 1, none⟩) (Nat.lt_of_lt_of_le hgl hHeld.2.2.2.2.1)).trans hHeld.2.1, (hb.cell (p := ⟨w.heap.size, 0, none⟩) (Nat.lt_of_lt_of_le hxl hHeld.2.2.2.2.1)).trans hHeld.2.2.1, (hb.cell (p := ⟨w.heap.size, 1, none⟩) (Nat.lt_of_lt_of_le hxl hHeld.2.2.2.2.1)).trans hHeld.2.2.2.1, Nat.le_trans hHeld.2.2.2.2.1 hb.size, hHeld.2.2.2.2.2.trans (hb.mono (Nat.le_trans hsz hHeld.2.2.2.2.1))⟩) (fun hHeld => ?_)
      clear hK K
      refine tk 12 hHeld ?_
      refine tk 13 hHeld ?_
      refine rd0 ?_
      have HF := Lib.hid hHeld.2.2.2.2.2
      clear hHeld
      go_wp2
      go_ret
      exact resB_no HY.out (bel1 HF.out)
  · obtain rfl : p = n := by omega
    have hpe : ((p : Int) == (p : Int)) = true := by simp
    have hpe' : (p == p) = true := by simp
    clear hb
    have HY := Lib.hid ((fits_iff HS.out hab HP.out).1 (.inl rfl))
    go_wp2_with fail
    refine wp_region_held_drew (S := (fun W => W.cell? ⟨w.heap.size, 0, none⟩ = some (.int .i64 a) ∧ W.cell? ⟨w.heap.size, 1, none⟩ = some (.int .i64 b) ∧ wr.heap.size ≤ W.heap.size ∧ Below (w.heap.size + 1) (w.alloc (.cells #[.int .i64 a, .int .i64 b] 25)) W)) (by kernel_rfl) (⟨hx0, hx1, Nat.le_refl _, HB.out.drew⟩) (fun hHeld => ?_)
    refine tk 0 hHeld ?_
    refine tk 1 hHeld ?_
    refine tk 2 hHeld ?_
    refine tk 3 hHeld ?_
    refine tk 4 hHeld ?_
    refine tn 5 hHeld ?_
    refine tn 6 hHeld ?_
    refine tn 7 hHeld ?_
    refine tn 8 hHeld ?_
    refine tn 9 hHeld ?_
    refine tn 10 hHeld ?_
    refine tn 11 hHeld ?_
    refine tk 12 hHeld ?_
    refine tk 13 hHeld ?_
    refine rd0 ?_
    have HF := Lib.hid hHeld.2.2.2
    clear hHeld
    go_wp2
    go_ret
    exact resB_yes HY.out (bel1 HF.out)
end Go.Proofs.Ytfciojkibklkfaa.SpanC
