/- FirstFit in the model: a contract. -/
import Derived.Test.YtphklknaagjmpaaSqFit2
namespace Go.Proofs.Ytphklknaagjmpaa.SpanC
open Go.RowKit KeptC RowC ValC
set_option linter.unusedSimpArgs false
set_option linter.unusedVariables false

/-- q rows are free from t on -/
def okT (N : Nat → Nat) (F : Nat → Nat → Int × Int) (m q : Nat) (len : Int) (t : Int) : Prop := q ≤ (frs N F t (t + len) m).length
def FirstQ (N : Nat → Nat) (F : Nat → Nat → Int × Int) (m q : Nat) (len now : Int) (t : Int) : Prop :=
  (∃ k : Nat, k ≤ 40 ∧ t = now + k ∧ okT N F m q len (now + k) ∧ ∀ j : Nat, j < k → ¬ okT N F m q len (now + j)) ∨ (t = -1 ∧ ∀ k : Nat, k ≤ 40 → ¬ okT N F m q len (now + k))
def FirstC (N : Nat → Nat) (F : Nat → Nat → Int × Int) (m : Nat) (need len now : Int) : Prop := RowsP m N F ∧ isB need 1 6 = true ∧ isB len 1 40 = true ∧ isB now 0 999900 = true
def FirstR (N : Nat → Nat) (F : Nat → Nat → Int × Int) (m : Nat) (need len now : Int) (t : Int) : Prop := (FirstC N F m need len now ∧ FirstQ N F m need.toNat len now t) ∨ (¬ FirstC N F m need len now ∧ t = -1)
theorem firstQ_one {N : Nat → Nat} {F : Nat → Nat → Int × Int} {m q : Nat} {len now t t' : Int} (h : FirstQ N F m q len now t) (h' : FirstQ N F m q len now t') : t = t' := by
  rcases h with ⟨k, h1, rfl, h2, h3⟩ | ⟨rfl, h1⟩ <;> rcases h' with ⟨k', h1', rfl, h2', h3'⟩ | ⟨rfl, h1'⟩
  · rcases Nat.lt_trichotomy k k' with e | e | e
    · exact absurd h2 (h3' k e)
    · rw [e]
    · exact absurd h2' (h3 k' e)
  · exact absurd h2 (h1' k h1)
  · exact absurd h2' (h1 k' h1')
  · rfl
theorem firstR_one {N : Nat → Nat} {F : Nat → Nat → Int × Int} {m : Nat} {need len now t t' : Int} (h : FirstR N F m need len now t) (h' : FirstR N F m need len now t') : t = t' := by
  rcases h with ⟨h1, h2⟩ | ⟨h1, rfl⟩ <;> rcases h' with ⟨k1, k2⟩ | ⟨k1, rfl⟩
  · exact firstQ_one h2 k2
  · exact absurd h1 k1
  · exact absurd k1 h1
  · rfl
theorem fitQ_pos {N : Nat → Nat} {F : Nat → Nat → Int × Int} {a b : Int} {m q : Nat} {L : List Nat} (hq : 1 ≤ q) (h : FitQ N F a b m q L) : 0 < L.length ↔ q ≤ (frs N F a b m).length := by
  rcases h with ⟨h1, rfl⟩ | ⟨h1, rfl⟩
  · rw [List.length_take]
    omega
  · simp
    omega
def ResT (Q : Int → Prop) (w : World) (e : Ending) (w' : World) : Prop := ∃ t : Int, e = .returned (.int .i64 t) ∧ Q t ∧ Below w.heap.size w w'
theorem resT_elim {Q : Int → Prop} {w : World} {e : Ending} {w' : World} (h : ResT Q w e w') : ∃ t : Int, e = .returned (.int .i64 t) ∧ Q t ∧ Below w.heap.size w w' := h

set_option maxRecDepth 100000 in
set_option maxHeartbeats 1600000 in
theorem first_spec {qa : Option Addr} {qc m : Nat} {N : Nat → Nat} {F : Nat → Nat → Int × Int} {qA : Nat → Option Addr} {qC : Nat → Nat} {w : World} (q : Nat) (len now : Int) (hq1 : 1 ≤ q) (hq : q ≤ 6) (hl0 : 1 ≤ len) (hl1 : len ≤ 40) (hn0 : 0 ≤ now) (hn1 : now ≤ 999900) (hm : m ≤ 6) (hN : ∀ i, i < m → N i ≤ 1048576) (h1 : RA w qa m N F qA qC) :
    Calls Try.prog 38 #[.slice qa m qc, .int .i64 q, .int .i64 len, .int .i64 now] w (ResT (FirstQ N F m q len now) w) := by
  have H1 := Lib.hid h1
  clear h1
  go_enter Try.func38, Try.ntmps38
  go_wp2
  go_loopw [9] (fun i wr => ∃ k : Nat, k ≤ 41 ∧ i = .int .i64 (now + k) ∧ (∀ j : Nat, j < k → ¬ okT N F m q len (now + j)) ∧ Below w.heap.size w wr) (fun i _ => (now + 41 - intOf i).toNat)
  case atStart => exact ⟨0, by omega, by simp, fun j h => absurd h (Nat.not_lt_zero _), Below.refl _ _⟩
  case round =>
    obtain ⟨k, hk, rfl, hall, hb⟩ := hrel
    have HA := Lib.hid hall
    have HB := Lib.hid hb
    have hsz := hb.size
    clear hall
    by_cases hlt : k ≤ 40
    · have hd : decide (now + (k : Int) ≤ now + 40) = true := decide_eq_true (by omega)
      have HR := Lib.hid (H1.out.below hb)
      clear hb
      go_wp2_with fail
      refine (fit_spec (now + k) (now + k + len) q hq1 hq hm hN HR.out).mono ?_
      intro e w1 h
      obtain ⟨A, ln, cap, L, rfl, hL, hrow, hb⟩ := resL_elim h
      have hlen := hrow.1
      have HB2 := Lib.hid (HB.out.trans (hb.mono hsz))
      have hpos := fitQ_pos hq1 hL
      clear h hb hrow hL
      by_cases hz : 0 < ln
      · have HY := Lib.hid (show FirstQ N F m q len now (now + k) from .inl ⟨k, hlt, rfl, hpos.1 (by omega), HA.out⟩)
        have hdz : decide ((0 : Int) < (ln : Int)) = true := decide_eq_true (by omega)
        clear hpos hlen
        go_wp2
        go_ret
        exact ⟨_, rfl, HY.out, HB2.out⟩
      · have HOK := Lib.hid (all_step (P := fun j => ¬ okT N F m q len (now + j)) HA.out (fun h => by have := hpos.2 h; omega))
        have hdz : decide ((0 : Int) < (ln : Int)) = false := decide_eq_false (by omega)
        clear hpos hlen
        go_wp2
        go_roundw
        case rel => exact ⟨k + 1, by omega, by go_num, HOK.out, HB2.out⟩
        case measure => simp [intOf]; omega
    · have hd : decide (now + (k : Int) ≤ now + 40) = false := decide_eq_false (by omega)
      have HY := Lib.hid (show FirstQ N F m q len now (-1) from .inr ⟨rfl, fun j hj => HA.out j (by omega)⟩)
      clear hb
      go_wp2
      go_ret
      exact ⟨_, rfl, HY.out, HB.out⟩

theorem now_spec (n : Int) (w : World) :
    Calls Try.prog 37 #[.int .i64 n] w fun e w' => e = .returned (.bool (isB n 0 999900)) ∧ w = w' := by
  go_enter Try.func37, Try.ntmps37
  go_wp2_with (go_at_call 36; refine (is_spec _ _ _ _).mono ?_; rintro e w' ⟨rfl, rfl⟩)
  go_ret
  exact ⟨rfl, rfl⟩
theorem now_impl (n : Int) (w : World) :
    Calls Try.prog 29 #[.int .i64 n] w fun e w' => e = .returned (.bool (isB n 0 999900)) ∧ w = w' := by
  go_enter Try.func29, Try.ntmps29
  go_wp2_with (go_at_call 28; refine (is_impl _ _ _ _).mono ?_; rintro e w' ⟨rfl, rfl⟩)
  go_ret
  exact ⟨rfl, rfl⟩

set_option maxRecDepth 100000 in
set_option maxHeartbeats 1600000 in
theorem firstfit_spec {qa : Option Addr} {qc m : Nat} {N : Nat → Nat} {F : Nat → Nat → Int × Int} {qA : Nat → Option Addr} {qC : Nat → Nat} {w : World} (need len now : Int) (hm : m ≤ 1048576) (hN : ∀ i, i < m → N i ≤ 1048576) (h1 : RA w qa m N F qA qC) :
    Calls Try.prog 12 #[.slice qa m qc, .int .i64 need, .int .i64 len, .int .i64 now] w (ResT (FirstR N F m need len now) w) := by
  have H1 := Lib.hid h1
  clear h1
  go_enter Try.func12, Try.ntmps12
  go_wp2_with fail
  refine (rows_spec hm hN H1.out).mono ?_
  intro e wr h
  obtain ⟨c, rfl, hc, hb⟩ := resB_elim h
  have HB := Lib.hid hb
  have HR := Lib.hid (H1.out.below hb)
  clear h
  cases c with
  | false =>
    have HN := Lib.hid (show ¬ FirstC N F m need len now from fun h => by have := hc.2 h.1; cases this)
    clear hb hc
    go_wp2
    go_ret
    exact ⟨_, rfl, .inr ⟨HN.out, rfl⟩, HB.out⟩
  | true =>
    have HS := Lib.hid (hc.1 rfl)
    clear hb hc
    have H2 := fun W => is_spec need 1 6 W
    have H3 := fun W => is_spec len 1 40 W
    have H4 := fun W => now_spec now W
    cases e2 : isB need 1 6 with
    | false =>
      rw [e2] at H2
      have HN := Lib.hid (show ¬ FirstC N F m need len now from fun h => by have := h.2.1; rw [e2] at this; cases this)
      clear e2 H3 H4
      go_wp2_with fail
      refine (H2 _).mono ?_
      rintro e w1 ⟨rfl, rfl⟩
      clear H2
      go_wp2
      go_ret
      exact ⟨_, rfl, .inr ⟨HN.out, rfl⟩, HB.out⟩
    | true =>
      rw [e2] at H2
      obtain ⟨q, rfl, hq1, hq6⟩ := need_nat e2
      have HI := Lib.hid e2
      clear e2
      cases e3 : isB len 1 40 with
      | false =>
        rw [e3] at H3
        have HN := Lib.hid (show ¬ FirstC N F m q len now from fun h => by have := h.2.2.1; rw [e3] at this; cases this)
        clear e3 H4
        go_wp2_with fail
        refine (H2 _).mono ?_
        rintro e w1 ⟨rfl, rfl⟩
        clear H2
        go_wp2_with fail
        refine (H3 _).mono ?_
        rintro e w1 ⟨rfl, rfl⟩
        clear H3
        go_wp2
        go_ret
        exact ⟨_, rfl, .inr ⟨HN.out, rfl⟩, HB.out⟩
      | true =>
        rw [e3] at H3
        have HI3 := Lib.hid e3
        have ⟨hl0, hl1⟩ := (isB_iff _ _ _).1 e3
        clear e3
        cases e4 : isB now 0 999900 with
        | false =>
          rw [e4] at H4
          have HN := Lib.hid (show ¬ FirstC N F m q len now from fun h => by have := h.2.2.2; rw [e4] at this; cases this)
          clear e4
          go_wp2_with fail
          refine (H2 _).mono ?_
          rintro e w1 ⟨rfl, rfl⟩
          clear H2
          go_wp2_with fail
          refine (H3 _).mono ?_
          rintro e w1 ⟨rfl, rfl⟩
          clear H3
          go_wp2_with fail
          refine (H4 _).mono ?_
          rintro e w1 ⟨rfl, rfl⟩
          clear H4
          go_wp2
          go_ret
          exact ⟨_, rfl, .inr ⟨HN.out, rfl⟩, HB.out⟩
        | true =>
          rw [e4] at H4
          have HI4 := Lib.hid e4
          have ⟨hn0, hn1⟩ := (isB_iff _ _ _).1 e4
          clear e4
          go_wp2_with fail
          refine (H2 _).mono ?_
          rintro e w1 ⟨rfl, rfl⟩
          clear H2
          go_wp2_with fail
          refine (H3 _).mono ?_
          rintro e w1 ⟨rfl, rfl⟩
          clear H3
          go_wp2_with fail
          refine (H4 _).mono ?_
          rintro e w1 ⟨rfl, rfl⟩
          clear H4
          go_wp2_with fail
          refine (first_spec q len now hq1 hq6 hl0 hl1 hn0 hn1 HS.out.1 hN HR.out).mono ?_
          intro e w2 h
          obtain ⟨t, rfl, hq, hb⟩ := resT_elim h
          have HY := Lib.hid (show FirstR N F m (q : Nat) len now t from .inl ⟨⟨HS.out, HI.out, HI3.out, HI4.out⟩, by rw [Int.toNat_natCast]; exact hq⟩)
          have HB2 := Lib.hid (HB.out.trans (hb.mono HB.out.size))
          clear h hb hq
          go_wp2
          go_ret
          exact ⟨_, rfl, HY.out, HB2.out⟩
end Go.Proofs.Ytphklknaagjmpaa.SpanC
