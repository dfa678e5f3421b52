/- Pairs and their places in the program: contracts. -/
import Derived.Test.YtmmnkdilnlhbfaaCfL4
import Derived.Test.YtmmnkdilnlhbfaaCfT
namespace Go.Proofs.Ytmmnkdilnlhbfaa.RepC
open Go.RowKit RowC ValC SpanC KeptC CfC
set_option linter.unusedVariables false
set_option linter.unusedSimpArgs false

/-- the place of the pair from f to t, or -1 -/
def hitP (f t : D_Label) (p : D_Pair) : Prop := p.1 = f ∧ p.2.1 = t
instance (f t : D_Label) (p : D_Pair) : Decidable (hitP f t p) := by unfold hitP; exact inferInstance
def ixP (P : List D_Pair) (f t : D_Label) : Int := match P.findIdx? (fun p => decide (hitP f t p)) with
  | some i => (i : Int)
  | none => -1
theorem ixP_hit {P : List D_Pair} {f t : D_Label} {k : Nat} {x : D_Pair} (hx : P[k]? = some x) (hh : hitP f t x) (ha : ∀ (q : Nat) y, q < k → P[q]? = some y → ¬ hitP f t y) : ixP P f t = (k : Int) := by
  have h : P.findIdx? (fun p => decide (hitP f t p)) = some k := by
    rw [List.findIdx?_eq_some_iff_getElem]
    obtain ⟨hk, hxe⟩ := List.getElem?_eq_some_iff.1 hx
    refine ⟨hk, by rw [hxe]; exact decide_eq_true hh, fun j hj => ?_⟩
    have := ha j P[j] hj (List.getElem?_eq_getElem _)
    simpa using this
  unfold ixP
  rw [h]
theorem ixP_none {P : List D_Pair} {f t : D_Label} (ha : ∀ (q : Nat) y, P[q]? = some y → ¬ hitP f t y) : ixP P f t = -1 := by
  have h : P.findIdx? (fun p => decide (hitP f t p)) = none := by
    rw [List.findIdx?_eq_none_iff]
    intro x hx
    obtain ⟨i, hi⟩ := List.getElem?_of_mem hx
    exact decide_eq_false (ha i x hi)
  unfold ixP
  rw [h]
theorem ixP_range (P : List D_Pair) (f t : D_Label) : -1 ≤ ixP P f t ∧ ixP P f t ≤ (P.length : Int) := by
  unfold ixP
  split
  · rename_i i h
    obtain ⟨h1, _⟩ := List.findIdx?_eq_some_iff_getElem.1 h
    omega
  · omega
theorem ixP_ge {P : List D_Pair} {f t : D_Label} : 0 ≤ ixP P f t ↔ ∃ (q : Nat) (y : D_Pair), P[q]? = some y ∧ hitP f t y := by
  constructor
  · intro h
    refine Classical.byContradiction fun hn => ?_
    rw [ixP_none fun q y hy hh => hn ⟨q, y, hy, hh⟩] at h
    omega
  · rintro ⟨q, y, hy, hh⟩
    refine Classical.byContradiction fun hn => ?_
    unfold ixP at hn
    split at hn
    · omega
    · rename_i h
      rw [List.findIdx?_eq_none_iff] at h
      have := h y (List.mem_of_getElem? hy)
      exact absurd hh (of_decide_eq_false this)
theorem rd_take {α : Type} {E : Rp α} {W : World} {B : Nat} {L : List α} {a : Option Addr} {c : Nat} (h : RdSl E W B L a c) (k : Nat) : RdSl E W B (L.take k) a c := by
  refine ⟨by rw [List.length_take]; have := h.1; omega, h.2.1, fun hk => ?_⟩
  rw [List.length_take] at hk
  obtain ⟨g, o, ha, hg, hc⟩ := h.2.2 (by omega)
  refine ⟨g, o, ha, hg, fun i x hx => hc i x ?_⟩
  rw [List.getElem?_take] at hx
  split at hx
  · exact hx
  · cases hx

set_option maxRecDepth 100000 in
set_option maxHeartbeats 1600000 in
theorem hitp_v (x0 x1 x2 x3 x4 f0 f1 t0 t1 : Int) (b1 b2 : Nat) {b : Bool} {W : World} (hb : decide (hitP (f0, f1) (t0, t1) ((x0, x1), (x2, x3), x4)) = b) (h1 : Blk W b1 38 #[.int .i64 f0, .int .i64 f1]) (h2 : Blk W b2 38 #[.int .i64 t0, .int .i64 t1]) :
    Calls Try.prog 138 #[.agg #[.int .i64 x0, .int .i64 x1, .int .i64 x2, .int .i64 x3, .int .i64 x4], .pointer (some ⟨b1, 0, none⟩), .pointer (some ⟨b2, 0, none⟩)] W fun e w' => e = .returned (.bool b) ∧ Below W.heap.size W w' := by
  have HB0 := Lib.hid (show Below W.heap.size W (W.alloc (.cells #[.int .i64 x0, .int .i64 x1, .int .i64 x2, .int .i64 x3, .int .i64 x4] 105)) from (Below.refl _ _).alloc (Nat.le_refl _) _)
  have H1 := h1.alloc (.cells #[.int .i64 x0, .int .i64 x1, .int .i64 x2, .int .i64 x3, .int .i64 x4] 105)
  have H2 := h2.alloc (.cells #[.int .i64 x0, .int .i64 x1, .int .i64 x2, .int .i64 x3, .int .i64 x4] 105)
  have a0 : (W.alloc (.cells #[.int .i64 x0, .int .i64 x1, .int .i64 x2, .int .i64 x3, .int .i64 x4] 105)).cell? ⟨b1, 0, none⟩ = some (.int .i64 f0) := H1.at_ 0 rfl
  have a1 : (W.alloc (.cells #[.int .i64 x0, .int .i64 x1, .int .i64 x2, .int .i64 x3, .int .i64 x4] 105)).cell? ⟨b1, 1, none⟩ = some (.int .i64 f1) := H1.at_ 1 rfl
  have d0 : (W.alloc (.cells #[.int .i64 x0, .int .i64 x1, .int .i64 x2, .int .i64 x3, .int .i64 x4] 105)).cell? ⟨b2, 0, none⟩ = some (.int .i64 t0) := H2.at_ 0 rfl
  have d1 : (W.alloc (.cells #[.int .i64 x0, .int .i64 x1, .int .i64 x2, .int .i64 x3, .int .i64 x4] 105)).cell? ⟨b2, 1, none⟩ = some (.int .i64 t1) := H2.at_ 1 rfl
  clear H1 H2 h1 h2
  obtain ⟨q1, hq1⟩ : ∃ b, decide (((x0, x1) : Int × Int) = (f0, f1)) = b := ⟨_, rfl⟩
  obtain ⟨q2, hq2⟩ : ∃ b, decide (((x2, x3) : Int × Int) = (t0, t1)) = b := ⟨_, rfl⟩
  have hE1 := eql_lab _ _ _ _ _ hq1
  have hE2 := eql_lab _ _ _ _ _ hq2
  have HQ := Lib.hid (show b = (q1 && q2) from by rw [← hb, ← hq1, ← hq2, ← Bool.decide_and]; exact decide_eq_decide.2 Iff.rfl)
  clear hb hq1 hq2
  go_enter Try.func138, Try.ntmps138
  cases q1 with
  | false =>
    go_wp2
    go_ret
    exact ⟨by rw [HQ.out]; rfl, HB0.out⟩
  | true =>
    go_wp2
    go_ret
    exact ⟨by rw [HQ.out]; rfl, HB0.out⟩

set_option maxRecDepth 100000 in
set_option maxHeartbeats 1600000 in
theorem indexf_pairs {P : List D_Pair} {pa : Option Addr} {pc b1 b2 : Nat} {f0 f1 t0 t1 : Int} {W : World} (hP : RdSl R_Pair W W.heap.size P pa pc) (h1 : Blk W b1 38 #[.int .i64 f0, .int .i64 f1]) (h2 : Blk W b2 38 #[.int .i64 t0, .int .i64 t1]) :
    Calls Try.prog 137 #[.slice pa P.length pc, .func (.func 138) #[] #[.pointer (some ⟨b1, 0, none⟩), .pointer (some ⟨b2, 0, none⟩)]] W (IsI (ixP P (f0, f1) (t0, t1)) W) := by
  have hn : P.length ≤ 9223372036854775807 := by have h1 := hP.1; have h2 := hP.2.1; unfold maxLen at h2; omega
  have HP := Lib.hid hP
  have H1 := Lib.hid h1
  have H2 := Lib.hid h2
  clear hP h1 h2
  go_enter Try.func137, Try.ntmps137
  go_wp2
  go_loopw [8] (fun i wr => ∃ k : Nat, k ≤ P.length ∧ i = .int .i64 k ∧ Hid (∀ (q : Nat) y, q < k → P[q]? = some y → ¬ hitP (f0, f1) (t0, t1) y) ∧ Below W.heap.size W wr) (fun i _ => P.length - (intOf i).toNat)
  case atStart => exact ⟨0, Nat.zero_le _, rfl, Lib.hid fun q y h => absurd h (Nat.not_lt_zero _), Below.refl _ _⟩
  case round =>
    obtain ⟨k, hk, rfl, HA, hB⟩ := hrel
    have HB := Lib.hid hB
    have hsz := hB.size
    by_cases hlt : k < P.length
    · have hdl : decide ((k : Int) < (P.length : Int)) = true := decide_eq_true (by omega)
      obtain ⟨⟨⟨x0, x1⟩, ⟨x2, x3⟩, x4⟩, hx⟩ := el_some hlt
      have HX := Lib.hid hx
      obtain ⟨g, o, us, rfl, hg, hu, hr⟩ := (HP.out.below R_Pair_ok hB).at_ hx
      obtain rfl := rd_Pair hr
      have e0 : wr.cell? ⟨g, o + k * 5, none⟩ = some (.int .i64 x0) := by simpa [size_PairS, Nat.add_assoc] using hu 0 _ rfl
      have e1 : wr.cell? ⟨g, o + k * 5 + 1, none⟩ = some (.int .i64 x1) := by simpa [size_PairS, Nat.add_assoc] using hu 1 _ rfl
      have e2 : wr.cell? ⟨g, o + k * 5 + 2, none⟩ = some (.int .i64 x2) := by simpa [size_PairS, Nat.add_assoc] using hu 2 _ rfl
      have e3 : wr.cell? ⟨g, o + k * 5 + 3, none⟩ = some (.int .i64 x3) := by simpa [size_PairS, Nat.add_assoc] using hu 3 _ rfl
      have e4 : wr.cell? ⟨g, o + k * 5 + 4, none⟩ = some (.int .i64 x4) := by simpa [size_PairS, Nat.add_assoc] using hu 4 _ rfl
      have hi0 : (0 : Int) ≤ (k : Int) := Int.natCast_nonneg _
      have hi1 : (k : Int) < (P.length : Int) := by omega
      have eg : ∀ args w, (callFunc 138 args).run Try.prog w = .ok (.enter 138 args) w := enters_of Try.func138 (by kernel_rfl) rfl
      obtain ⟨b, hb⟩ : ∃ b, decide (hitP (f0, f1) (t0, t1) ((x0, x1), (x2, x3), x4)) = b := ⟨_, rfl⟩
      have HBb := Lib.hid hb
      clear hB hx hu hr hb
      go_wp2_with fail
      refine (hitp_v x0 x1 x2 x3 x4 f0 f1 t0 t1 b1 b2 HBb.out (H1.out.call HB.out) (H2.out.call HB.out)).mono ?_
      rintro e w1 ⟨rfl, hb⟩
      have HB1 := Lib.hid (HB.out.trans (hb.mono hsz))
      clear hb e0 e1 e2 e3 e4
      cases b with
      | true =>
        have HE := Lib.hid (ixP_hit HX.out (of_decide_eq_true HBb.out) HA.out)
        go_wp2
        go_ret
        exact ⟨by rw [HE.out]; rfl, HB1.out⟩
      | false =>
        have HA2 := Lib.hid (show ∀ (q : Nat) y, q < k + 1 → P[q]? = some y → ¬ hitP (f0, f1) (t0, t1) y from fun q y hq hy => by
          by_cases e : q = k
          · subst e; rw [HX.out] at hy; obtain rfl := Option.some.inj hy
            exact of_decide_eq_false HBb.out
          · exact HA.out q y (by omega) hy)
        go_wp2
        go_roundw
        case rel => exact ⟨k + 1, by omega, by go_num, HA2, HB1.out⟩
        case measure => simp [intOf]; omega
    · have hdl : decide ((k : Int) < (P.length : Int)) = false := decide_eq_false (by omega)
      have HE := Lib.hid (ixP_none (f := (f0, f1)) (t := (t0, t1)) fun q y hy => HA.out q y (by have := el_lt hy; omega) hy)
      clear hB
      go_wp2
      go_ret
      exact ⟨by rw [HE.out]; rfl, HB.out⟩
set_option maxRecDepth 100000 in
set_option maxHeartbeats 1600000 in
theorem pairix_impl {P : List D_Pair} {pa : Option Addr} {pc : Nat} {f0 f1 t0 t1 : Int} {W : World} (hP : RdSl R_Pair W W.heap.size P pa pc) :
    Calls Try.prog 121 #[.slice pa P.length pc, .agg #[.int .i64 f0, .int .i64 f1], .agg #[.int .i64 t0, .int .i64 t1]] W (IsI (ixP P (f0, f1) (t0, t1)) W) := by
  have hmf : ∀ (fn : Fn) (first cap : Array Value) (w : World), (Instr.makeFunc fn first cap).run Try.prog w = .ok (.func fn first cap) w := fun _ _ _ _ => rfl
  obtain ⟨w0, hw0⟩ : ∃ w, w = (W.alloc (.cells #[.int .i64 f0, .int .i64 f1] 38)).alloc (.cells #[.int .i64 t0, .int .i64 t1] 38) := ⟨_, rfl⟩
  have hb0 : Below W.heap.size W w0 := by rw [hw0]; exact ((Below.refl _ _).alloc (Nat.le_refl _) _).alloc (by simp) _
  have h1 : Blk w0 W.heap.size 38 #[.int .i64 f0, .int .i64 f1] := by rw [hw0]; exact (Blk.new _ _ _).alloc _
  have h2 : Blk w0 (W.heap.size + 1) 38 #[.int .i64 t0, .int .i64 t1] := by
    have h9 := Blk.new (W.alloc (.cells #[.int .i64 f0, .int .i64 f1] 38)) 38 #[.int .i64 t0, .int .i64 t1]
    simp only [World.size_alloc] at h9
    rw [hw0]; exact h9
  have HP := Lib.hid (rd_mv R_Pair_ok hP hb0)
  have H1 := Lib.hid h1
  have H2 := Lib.hid h2
  have HB0 := Lib.hid hb0
  have hz0 := hb0.size
  clear h1 h2 hb0 hP
  go_enter Try.func121, Try.ntmps121
  go_wp2_with fail
  rw [← hw0]
  clear hw0
  refine (indexf_pairs HP.out H1.out H2.out).mono ?_
  intro e w1 h
  obtain ⟨rfl, hb⟩ := isI_elim h
  have HB1 := Lib.hid (HB0.out.trans (hb.mono hz0))
  clear h hb
  go_wp2
  go_ret
  exact ⟨rfl, HB1.out⟩
end Go.Proofs.Ytmmnkdilnlhbfaa.RepC
