/- Ahead of the program: a contract. -/
import Derived.Test.YtjpkeofpcpaoaaaJobA
import Derived.Test.YtjpkeofpcpaoaaaJobI
import Derived.StillTailTactics
namespace Go.Proofs.Ytjpkeofpcpaoaaa.RepC
open Go.RowKit RowC ValC SpanC KeptC
set_option linter.unusedVariables false
set_option linter.unusedSimpArgs false

def cmpV (x y : Int) : Int := if x < y then -1 else if y < x then 1 else 0
theorem nan_impl (x : Int) (W : World) : Calls Try.prog 146 #[.int .i64 x] W fun e w' => e = .returned (.bool false) ∧ W = w' := by
  have h : (x != x) = false := by simp
  go_enter Try.func146, Try.ntmps146
  go_wp2
  go_ret
  exact ⟨rfl, rfl⟩
theorem cmp_impl (x y : Int) (W : World) : Calls Try.prog 127 #[.int .i64 x, .int .i64 y] W fun e w' => e = .returned (.int .i64 (cmpV x y)) ∧ W = w' := by
  unfold cmpV
  by_cases h1 : x < y
  · have h1' : decide (x < y) = true := decide_eq_true h1
    have hv : (if x < y then -1 else if y < x then 1 else 0 : Int) = -1 := if_pos h1
    rw [hv]
    clear hv h1
    go_enter Try.func127, Try.ntmps127
    go_wp2_with (go_at_call 146; refine (nan_impl _ _).mono ?_; rintro e w' ⟨rfl, rfl⟩)
    go_ret
    exact ⟨rfl, rfl⟩
  · have h1' : decide (x < y) = false := decide_eq_false h1
    by_cases h2 : y < x
    · have h2' : decide (y < x) = true := decide_eq_true h2
      have hv : (if x < y then -1 else if y < x then 1 else 0 : Int) = 1 := by rw [if_neg h1, if_pos h2]
      rw [hv]
      clear hv h1 h2
      go_enter Try.func127, Try.ntmps127
      go_wp2_with (go_at_call 146; refine (nan_impl _ _).mono ?_; rintro e w' ⟨rfl, rfl⟩)
      go_ret
      exact ⟨rfl, rfl⟩
    · have h2' : decide (y < x) = false := decide_eq_false h2
      have hv : (if x < y then -1 else if y < x then 1 else 0 : Int) = 0 := by rw [if_neg h1, if_neg h2]
      rw [hv]
      clear hv h1 h2
      go_enter Try.func127, Try.ntmps127
      go_wp2_with (go_at_call 146; refine (nan_impl _ _).mono ?_; rintro e w' ⟨rfl, rfl⟩)
      go_ret
      exact ⟨rfl, rfl⟩

/-- the first that is not nought -/
def orL : List Int → Int
  | [] => 0
  | x :: xs => if x = 0 then orL xs else x
theorem orL_zero {L : List Int} {k : Nat} {x : Int} (hx : L[k]? = some x) (h0 : x = 0) : orL (L.drop k) = orL (L.drop (k + 1)) := by
  obtain ⟨hk, e⟩ := List.getElem?_eq_some_iff.1 hx
  rw [List.drop_eq_getElem_cons hk, e]
  simp [orL, h0]
theorem orL_hit {L : List Int} {k : Nat} {x : Int} (hx : L[k]? = some x) (h0 : x ≠ 0) : orL (L.drop k) = x := by
  obtain ⟨hk, e⟩ := List.getElem?_eq_some_iff.1 hx
  rw [List.drop_eq_getElem_cons hk, e]
  simp [orL, h0]
def IsI (n : Int) (w : World) (e : Ending) (w' : World) : Prop := e = .returned (.int .i64 n) ∧ Below w.heap.size w w'
theorem isI_elim {n : Int} {w : World} {e : Ending} {w' : World} (h : IsI n w e w') : e = .returned (.int .i64 n) ∧ Below w.heap.size w w' := h

set_option maxRecDepth 100000 in
set_option maxHeartbeats 3200000 in
theorem or_impl {L : List Int} {a : Option Addr} {cap : Nat} {W : World} (h : RdSl I W W.heap.size L a cap) :
    Calls Try.prog 126 #[.slice a L.length cap] W (IsI (orL L) W) := by
  have hn : L.length ≤ 9223372036854775807 := by have h1 := h.1; have h2 := h.2.1; unfold maxLen at h2; omega
  have H := Lib.hid h
  clear h
  go_enter Try.func126, Try.ntmps126
  go_wp2
  go_loopw [8] (fun i wr => ∃ k : Nat, k ≤ L.length ∧ i = .int .i64 k ∧ Hid (orL L = orL (L.drop k)) ∧ Below W.heap.size W wr) (fun i _ => L.length - (intOf i).toNat)
  case atStart => exact ⟨0, Nat.zero_le _, rfl, Lib.hid (by simp), Below.refl _ _⟩
  case round =>
    obtain ⟨k, hk, rfl, HA, hB⟩ := hrel
    have HB := Lib.hid hB
    have hsz := hB.size
    by_cases hlt : k < L.length
    · obtain ⟨x, hx⟩ := el_some hlt
      have HX := Lib.hid hx
      obtain ⟨g, o, us, rfl, hg, hu, hr⟩ := (H.out.below I_ok hB).at_ hx
      obtain rfl : us = [_] := hr
      have hc0 : wr.cell? ⟨g, o + k, none⟩ = some (.int .i64 x) := by simpa [show I.size = 1 from rfl] using hu 0 _ rfl
      have hi0 : (0 : Int) ≤ (k : Int) := Int.natCast_nonneg _
      have hi1 : (k : Int) < (L.length : Int) := by omega
      clear hB hx hu
      by_cases hz : x = 0
      · have hz' : (x != 0) = false := by simp [hz]
        have HN := Lib.hid (HA.out.trans (orL_zero HX.out hz))
        clear hz
        go_wp2
        go_roundw
        case rel => exact ⟨k + 1, by omega, by go_num, HN, HB.out⟩
        case measure => simp [intOf]; omega
      · have hz' : (x != 0) = true := bne_iff_ne.2 hz
        have HN := Lib.hid (HA.out.trans (orL_hit HX.out hz))
        clear hz
        go_wp2
        go_ret
        exact ⟨by rw [HN.out]; rfl, HB.out⟩
    · have HN := Lib.hid (show orL L = 0 from by rw [HA.out, List.drop_eq_nil_of_le (by omega)]; rfl)
      clear hB
      go_wp2
      go_ret
      exact ⟨by rw [HN.out]; rfl, HB.out⟩

theorem rd4 {W : World} {g t : Nat} {p q r s : Int} (h : Blk W g t #[.int .i64 p, .int .i64 q, .int .i64 r, .int .i64 s]) : RdSl I W W.heap.size [p, q, r, s] (some ⟨g, 0, none⟩) 4 := by
  refine ⟨Nat.le_refl _, by unfold maxLen; omega, fun _ => ⟨g, 0, rfl, h.lt, fun i x hx => ⟨[.int .i64 x], fun j c hc => ?_, rfl⟩⟩⟩
  have hj : j = 0 := by have := (List.getElem?_eq_some_iff.1 hc).1; simp at this; omega
  subst hj
  simp only [List.getElem?_cons_zero, Option.some.injEq] at hc
  subst hc
  refine h.at_ _ ?_
  match i, hx with
  | 0, hx => simp at hx; subst hx; rfl
  | 1, hx => simp at hx; subst hx; rfl
  | 2, hx => simp at hx; subst hx; rfl
  | 3, hx => simp at hx; subst hx; rfl
  | n + 4, hx => simp at hx
theorem byturn_val (x0 x1 x2 x5 y0 y1 y2 y5 : Int) : orL [cmpV x0 y0, cmpV x1 y1, cmpV y5 x5, cmpV x2 y2] < 0 ↔ AheadP x0 x1 x2 x5 y0 y1 y2 y5 := by
  unfold AheadP
  simp only [orL, cmpV]
  repeat' split
  all_goals omega

set_option maxRecDepth 100000 in
set_option maxHeartbeats 6400000 in
theorem byturn_impl {x0 x1 x2 x3 x4 x5 x6 x7 y0 y1 y2 y3 y4 y5 y6 y7 : Int} {L M : List Int} {a b : Option Addr} {c d : Nat} {W : World} : Calls Try.prog 83 #[.agg #[.int .i64 x0, .int .i64 x1, .int .i64 x2, .int .i64 x3, .int .i64 x4, .int .i64 x5, .int .i64 x6, .int .i64 x7, .slice a L.length c], .agg #[.int .i64 y0, .int .i64 y1, .int .i64 y2, .int .i64 y3, .int .i64 y4, .int .i64 y5, .int .i64 y6, .int .i64 y7, .slice b M.length d]] W (IsI (orL [cmpV x0 y0, cmpV x1 y1, cmpV y5 x5, cmpV x2 y2]) W) := by
  obtain ⟨W2, hW2⟩ : ∃ W2, W2 = (W.alloc (.cells #[.int .i64 x0, .int .i64 x1, .int .i64 x2, .int .i64 x3, .int .i64 x4, .int .i64 x5, .int .i64 x6, .int .i64 x7, .slice a L.length c] 45)).alloc (.cells #[.int .i64 y0, .int .i64 y1, .int .i64 y2, .int .i64 y3, .int .i64 y4, .int .i64 y5, .int .i64 y6, .int .i64 y7, .slice b M.length d] 45) := ⟨_, rfl⟩
  have HB0 := Lib.hid (show Below W.heap.size W W2 from by rw [hW2]; exact ((Below.refl _ _).alloc (Nat.le_refl _) _).alloc (by simp) _)
  have hP : Blk W2 W.heap.size 45 #[.int .i64 x0, .int .i64 x1, .int .i64 x2, .int .i64 x3, .int .i64 x4, .int .i64 x5, .int .i64 x6, .int .i64 x7, .slice a L.length c] := by rw [hW2]; exact (Blk.new W 45 _).alloc _
  have hQ : Blk W2 (W.heap.size + 1) 45 #[.int .i64 y0, .int .i64 y1, .int .i64 y2, .int .i64 y3, .int .i64 y4, .int .i64 y5, .int .i64 y6, .int .i64 y7, .slice b M.length d] := by
    rw [hW2]
    have := Blk.new (W.alloc (.cells #[.int .i64 x0, .int .i64 x1, .int .i64 x2, .int .i64 x3, .int .i64 x4, .int .i64 x5, .int .i64 x6, .int .i64 x7, .slice a L.length c] 45)) 45 #[.int .i64 y0, .int .i64 y1, .int .i64 y2, .int .i64 y3, .int .i64 y4, .int .i64 y5, .int .i64 y6, .int .i64 y7, .slice b M.length d]
    simp only [World.size_alloc] at this
    exact this
  have p0 := hP.at_ 0 rfl
  have q0 := hQ.at_ 0 rfl
  have p1 := hP.at_ 1 rfl
  have q1 := hQ.at_ 1 rfl
  have p2 := hP.at_ 2 rfl
  have q2 := hQ.at_ 2 rfl
  have p5 := hP.at_ 5 rfl
  have q5 := hQ.at_ 5 rfl
  have hsz2 : W.heap.size + 2 = W2.heap.size := by rw [hW2]; simp
  clear hP hQ
  go_enter Try.func83, Try.ntmps83
  go_wp2_with fail
  rw [← hW2]
  clear hW2
  refine wp_region_still_tail 24 (by kernel_rfl) (by kernel_rfl) ?_
  simp only [List.take_succ_cons, List.take_zero, List.drop_succ_cons, List.drop_zero]
  repeat (first | still_step | still_call ((cmp_impl _ _ _).mono fun _ _ h => ⟨h.1, h.2.symm⟩))
  refine wpStill_nil ?_
  change wpList _ _ _ _ _ W2.drew
  have HR := Lib.hid (rd4 (Blk.new W2.drew 3 #[.int .i64 (cmpV x0 y0), .int .i64 (cmpV x1 y1), .int .i64 (cmpV y5 x5), .int .i64 (cmpV x2 y2)]))
  have HB1 := Lib.hid (HB0.out.trans ((((Below.refl _ W2).drew).alloc (Nat.le_refl _) (.cells #[.int .i64 (cmpV x0 y0), .int .i64 (cmpV x1 y1), .int .i64 (cmpV y5 x5), .int .i64 (cmpV x2 y2)] 3)).mono (by show W.heap.size ≤ W2.heap.size; omega)))
  clear p0 p1 p2 p5 q0 q1 q2 q5
  go_wp2_with fail
  refine (or_impl HR.out).mono ?_
  intro e w3 h
  obtain ⟨rfl, hw⟩ := isI_elim h
  have HB3 := Lib.hid (HB1.out.trans (hw.mono HB1.out.size))
  clear h hw
  go_wp2
  go_ret
  exact ⟨rfl, HB3.out⟩

set_option maxRecDepth 100000 in
set_option maxHeartbeats 3200000 in
theorem ahead_impl {x0 x1 x2 x3 x4 x5 x6 x7 y0 y1 y2 y3 y4 y5 y6 y7 : Int} {L M : List Int} {a b : Option Addr} {c d : Nat} {W : World} (h : RdSl I W W.heap.size L a c) (h' : RdSl I W W.heap.size M b d) : Calls Try.prog 27 #[.agg #[.int .i64 x0, .int .i64 x1, .int .i64 x2, .int .i64 x3, .int .i64 x4, .int .i64 x5, .int .i64 x6, .int .i64 x7, .slice a L.length c], .agg #[.int .i64 y0, .int .i64 y1, .int .i64 y2, .int .i64 y3, .int .i64 y4, .int .i64 y5, .int .i64 y6, .int .i64 y7, .slice b M.length d]] W (ResB (JobR x0 x1 x2 x3 x4 x5 x6 x7 L ∧ JobR y0 y1 y2 y3 y4 y5 y6 y7 M ∧ AheadP x0 x1 x2 x5 y0 y1 y2 y5) W) := by
  have H := Lib.hid h
  have H' := Lib.hid h'
  clear h h'
  have HB0 := Lib.hid (show Below W.heap.size W ((W.alloc (.cells #[.int .i64 x0, .int .i64 x1, .int .i64 x2, .int .i64 x3, .int .i64 x4, .int .i64 x5, .int .i64 x6, .int .i64 x7, .slice a L.length c] 45)).alloc (.cells #[.int .i64 y0, .int .i64 y1, .int .i64 y2, .int .i64 y3, .int .i64 y4, .int .i64 y5, .int .i64 y6, .int .i64 y7, .slice b M.length d] 45)) from ((Below.refl _ _).alloc (Nat.le_refl _) _).alloc (by simp) _)
  have hP := (Blk.new W 45 #[.int .i64 x0, .int .i64 x1, .int .i64 x2, .int .i64 x3, .int .i64 x4, .int .i64 x5, .int .i64 x6, .int .i64 x7, .slice a L.length c]).alloc (.cells #[.int .i64 y0, .int .i64 y1, .int .i64 y2, .int .i64 y3, .int .i64 y4, .int .i64 y5, .int .i64 y6, .int .i64 y7, .slice b M.length d] 45)
  have hQ := Blk.new (W.alloc (.cells #[.int .i64 x0, .int .i64 x1, .int .i64 x2, .int .i64 x3, .int .i64 x4, .int .i64 x5, .int .i64 x6, .int .i64 x7, .slice a L.length c] 45)) 45 #[.int .i64 y0, .int .i64 y1, .int .i64 y2, .int .i64 y3, .int .i64 y4, .int .i64 y5, .int .i64 y6, .int .i64 y7, .slice b M.length d]
  simp only [World.size_alloc] at hP hQ
  have HP0 := Lib.hid hP
  have HQ0 := Lib.hid hQ
  have hz0 : W.heap.size ≤ ((W.alloc (.cells #[.int .i64 x0, .int .i64 x1, .int .i64 x2, .int .i64 x3, .int .i64 x4, .int .i64 x5, .int .i64 x6, .int .i64 x7, .slice a L.length c] 45)).alloc (.cells #[.int .i64 y0, .int .i64 y1, .int .i64 y2, .int .i64 y3, .int .i64 y4, .int .i64 y5, .int .i64 y6, .int .i64 y7, .slice b M.length d] 45)).heap.size := HB0.out.size
  clear hP hQ
  go_enter Try.func27, Try.ntmps27
  go_wp2_with fail
  refine (jobright_impl ((H.out.below I_ok HB0.out).more I_ok hz0)).mono ?_
  intro e w1 h
  obtain ⟨r1, rfl, hb, hw⟩ := resB_elim h
  have HR1 := Lib.hid hb
  have HP1 := Lib.hid (HP0.out.call hw)
  have HQ1 := Lib.hid (HQ0.out.call hw)
  have HB1 := Lib.hid (HB0.out.trans (hw.mono hz0))
  have hz1 : W.heap.size ≤ w1.heap.size := HB1.out.size
  clear h hb hw
  have p1_0 := HP1.out.at_ 0 rfl
  have q1_0 := HQ1.out.at_ 0 rfl
  have p1_1 := HP1.out.at_ 1 rfl
  have q1_1 := HQ1.out.at_ 1 rfl
  have p1_2 := HP1.out.at_ 2 rfl
  have q1_2 := HQ1.out.at_ 2 rfl
  have p1_3 := HP1.out.at_ 3 rfl
  have q1_3 := HQ1.out.at_ 3 rfl
  have p1_4 := HP1.out.at_ 4 rfl
  have q1_4 := HQ1.out.at_ 4 rfl
  have p1_5 := HP1.out.at_ 5 rfl
  have q1_5 := HQ1.out.at_ 5 rfl
  have p1_6 := HP1.out.at_ 6 rfl
  have q1_6 := HQ1.out.at_ 6 rfl
  have p1_7 := HP1.out.at_ 7 rfl
  have q1_7 := HQ1.out.at_ 7 rfl
  have p1_8 := HP1.out.at_ 8 rfl
  have q1_8 := HQ1.out.at_ 8 rfl
  cases r1 with
  | false =>
    have HV := Lib.hid (show ¬ (JobR x0 x1 x2 x3 x4 x5 x6 x7 L ∧ JobR y0 y1 y2 y3 y4 y5 y6 y7 M ∧ AheadP x0 x1 x2 x5 y0 y1 y2 y5) from fun h => by have := HR1.out.2 h.1; cases this)
    go_wp2
    go_ret
    exact resB_no HV.out HB1.out
  | true =>
    go_wp2_with fail
    refine (jobright_impl ((H'.out.below I_ok HB1.out).more I_ok hz1)).mono ?_
    intro e w2 h
    obtain ⟨r2, rfl, hb, hw⟩ := resB_elim h
    have HR2 := Lib.hid hb
    have HP2 := Lib.hid (HP1.out.call hw)
    have HQ2 := Lib.hid (HQ1.out.call hw)
    have HB2 := Lib.hid (HB1.out.trans (hw.mono hz1))
    have hz2 : W.heap.size ≤ w2.heap.size := HB2.out.size
    clear h hb hw
    have p2_0 := HP2.out.at_ 0 rfl
    have q2_0 := HQ2.out.at_ 0 rfl
    have p2_1 := HP2.out.at_ 1 rfl
    have q2_1 := HQ2.out.at_ 1 rfl
    have p2_2 := HP2.out.at_ 2 rfl
    have q2_2 := HQ2.out.at_ 2 rfl
    have p2_3 := HP2.out.at_ 3 rfl
    have q2_3 := HQ2.out.at_ 3 rfl
    have p2_4 := HP2.out.at_ 4 rfl
    have q2_4 := HQ2.out.at_ 4 rfl
    have p2_5 := HP2.out.at_ 5 rfl
    have q2_5 := HQ2.out.at_ 5 rfl
    have p2_6 := HP2.out.at_ 6 rfl
    have q2_6 := HQ2.out.at_ 6 rfl
    have p2_7 := HP2.out.at_ 7 rfl
    have q2_7 := HQ2.out.at_ 7 rfl
    have p2_8 := HP2.out.at_ 8 rfl
    have q2_8 := HQ2.out.at_ 8 rfl
    clear p1_0 q1_0 p1_1 q1_1 p1_2 q1_2 p1_3 q1_3 p1_4 q1_4 p1_5 q1_5 p1_6 q1_6 p1_7 q1_7 p1_8 q1_8
    cases r2 with
    | false =>
      have HV := Lib.hid (show ¬ (JobR x0 x1 x2 x3 x4 x5 x6 x7 L ∧ JobR y0 y1 y2 y3 y4 y5 y6 y7 M ∧ AheadP x0 x1 x2 x5 y0 y1 y2 y5) from fun h => by have := HR2.out.2 h.2.1; cases this)
      go_wp2
      go_ret
      exact resB_no HV.out HB2.out
    | true =>
      have HO := Lib.hid (byturn_val x0 x1 x2 x5 y0 y1 y2 y5)
      go_wp2_with fail
      refine byturn_impl.mono ?_
      intro e w3 h
      obtain ⟨rfl, hw⟩ := isI_elim h
      have HB3 := Lib.hid (HB2.out.trans (hw.mono hz2))
      obtain ⟨n, hN⟩ : ∃ n, orL [cmpV x0 y0, cmpV x1 y1, cmpV y5 x5, cmpV x2 y2] = n := ⟨_, rfl⟩
      have HT := Lib.hid (show JobR x0 x1 x2 x3 x4 x5 x6 x7 L ∧ JobR y0 y1 y2 y3 y4 y5 y6 y7 M from ⟨HR1.out.1 (by first | trivial | rfl), HR2.out.1 (by first | trivial | rfl)⟩)
      clear h hw
      rw [hN]
      by_cases hneg : n < 0
      · have hneg' : decide (n < 0) = true := decide_eq_true hneg
        have HV := Lib.hid (show (JobR x0 x1 x2 x3 x4 x5 x6 x7 L ∧ JobR y0 y1 y2 y3 y4 y5 y6 y7 M ∧ AheadP x0 x1 x2 x5 y0 y1 y2 y5) from ⟨HT.out.1, HT.out.2, HO.out.1 (by rw [hN]; exact hneg)⟩)
        clear hneg hN HO
        go_wp2
        go_ret
        exact resB_yes HV.out HB3.out
      · have hneg' : decide (n < 0) = false := decide_eq_false hneg
        have HV := Lib.hid (show ¬ (JobR x0 x1 x2 x3 x4 x5 x6 x7 L ∧ JobR y0 y1 y2 y3 y4 y5 y6 y7 M ∧ AheadP x0 x1 x2 x5 y0 y1 y2 y5) from fun h => hneg (by have := HO.out.2 h.2.2; rw [hN] at this; exact this))
        clear hneg hN HO
        go_wp2
        go_ret
        exact resB_no HV.out HB3.out
end Go.Proofs.Ytjpkeofpcpaoaaa.RepC
