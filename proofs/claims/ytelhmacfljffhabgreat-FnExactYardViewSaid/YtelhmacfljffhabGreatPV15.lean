/- Of this claim's texts the part 15: CfL4 CfI CfV. -/
import Derived.Test.YtelhmacfljffhabGreatPV0
import Derived.Test.YtelhmacfljffhabGreatPV1
import Derived.Test.YtelhmacfljffhabGreatPV2
import Derived.Test.YtelhmacfljffhabGreatPV8
import Derived.Test.YtelhmacfljffhabGreatPV9
import Derived.Test.YtelhmacfljffhabGreatPV10
import Derived.Test.YtelhmacfljffhabGreatPV11
import Derived.Test.YtelhmacfljffhabGreatPV12
import Derived.Test.YtelhmacfljffhabGreatPV13
import Derived.Test.YtelhmacfljffhabGreatPV14
section
namespace Go.Proofs.YtelhmacfljffhabGreat.RepC
open Go.RowKit RowC ValC SpanC KeptC Go.Lib CfC
set_option linter.unusedVariables false
set_option linter.unusedSimpArgs false
theorem chain_rP {L : List D_Label} (h : ChainR L) {a : D_Label} (ha : a ∈ L) : LabC.rP a.1 a.2 := by
  obtain ⟨i, hi⟩ := List.getElem?_of_mem ha
  have := (h.2.2 i (el_lt hi) a hi).1
  exact (LabC.rB_iff _ _).1 this
theorem clear_flat {C : List (List D_Label)} (h : ClearR C) : 0 < C.flatten.length ∧ C.flatten.length ≤ 24 ∧ ∀ a ∈ C.flatten, LabC.rP a.1 a.2 := by
  obtain ⟨h1, h6, hc⟩ := h
  have hmem : ∀ x ∈ C, ChainR x := fun x hx => by
    obtain ⟨i, hi⟩ := List.getElem?_of_mem hx
    exact hc i x hi
  refine ⟨?_, ?_, fun a ha => ?_⟩
  · match C, h1, hmem with
    | x :: xs, _, hm => rw [List.flatten_cons, List.length_append]; have := (hm x List.mem_cons_self).1; omega
  · have : ∀ (M : List (List D_Label)), (∀ x ∈ M, ChainR x) → M.flatten.length ≤ 4 * M.length := by
      intro M
      induction M with
      | nil => intro _; simp
      | cons x xs ih =>
        intro hm
        rw [List.flatten_cons, List.length_append, List.length_cons]
        have := (hm x List.mem_cons_self).2.1
        have := ih fun y hy => hm y (List.mem_cons_of_mem _ hy)
        omega
    have := this C hmem
    omega
  · obtain ⟨x, hx, ha⟩ := List.mem_flatten.1 ha
    exact chain_rP (hmem x hx) ha
theorem labs_compact {C : List (List D_Label)} (h : ClearR C) {d : Array Lb} (hm : ∀ a, (∃ j, j < d.size ∧ d[j]! = a) ↔ a ∈ C.flatten) (hs : ∀ i j, i < j → j < d.size → ¬ (d[j]!.1 < d[i]!.1 ∨ d[j]!.1 = d[i]!.1 ∧ d[j]!.2 < d[i]!.2)) : compactUpTo d d.size = labsOf C := by
  obtain ⟨h1, h2, _⟩ := compact_sorted (d := d) (fun i j hij hj => hs i j hij hj) d.size (Nat.le_refl _)
  refine sorted_eq h1 (labs_sorted C 32) fun a => ?_
  rw [h2, hm]
  show _ ↔ a ∈ labsOf C
  rw [mem_labs, List.mem_flatten]
  constructor
  · rintro ⟨x, hx, ha⟩
    exact ⟨(clear_flat h).2.2 a (List.mem_flatten.2 ⟨x, hx, ha⟩), x, hx, ha⟩
  · rintro ⟨_, x, hx, ha⟩
    exact ⟨x, hx, ha⟩
theorem compact_len_le {d : Array Lb} : ∀ m, (compactUpTo d m).length ≤ m
  | 0 => Nat.le_refl _
  | m + 1 => by
    rw [compactUpTo_succ, List.length_append]
    have := compact_len_le (d := d) m
    split <;> simp <;> omega
set_option maxRecDepth 100000 in
set_option maxHeartbeats 1600000 in
theorem labs_impl {C : List (List D_Label)} {ca : Option Addr} {cc : Nat} {W : World} (hR : ClearR C) (hC : RdSl (Sl R_Label) W W.heap.size C ca cc) :
    Calls Tryz.prog 106 #[.slice ca C.length cc] W (NewS R_Label (labsOf C) W) := by
  obtain ⟨hf0, hf24, _⟩ := clear_flat hR
  have HR := Lib.hid hR
  obtain ⟨M, hM⟩ : ∃ M, labsOf C = M := ⟨_, rfl⟩
  have HM := Lib.hid hM
  rw [hM]
  clear hM
  have hcon := concat_labs (W := W) (by omega) hC
  have hlc := fun (d : Array Lb) h1 h2 => (labs_compact (d := d) HR.out h1 h2).trans HM.out
  obtain ⟨F, hF⟩ : ∃ F, C.flatten = F := ⟨_, rfl⟩
  rw [hF] at hf0 hf24 hcon hlc
  have HLC := Lib.hid hlc
  have HCON := Lib.hid hcon
  clear hF hlc hcon
  go_enter Tryz.func106, Tryz.ntmps106
  go_wp2_with fail
  refine HCON.out.mono ?_
  intro e w1 h
  obtain ⟨v, lo, rfl, hlo, hlw, hrow, hb⟩ := newB_elim h
  obtain ⟨a1, c1, rfl, ho⟩ := hrow.sl R_Label_ok flat_Label
  have HRd := Lib.hid (ho.rd R_Label_ok (B := w1.heap.size) fun k hk => (hrow.blk k hk).2)
  have HB1 := Lib.hid hb
  have hz1 := hb.size
  clear h hrow ho hb hC
  go_wp2_with fail
  refine (sorted_labs (by omega) hf0 HRd.out).mono ?_
  intro e w2 h
  obtain ⟨g, c, d, rfl, hdc, hcm, hg1, hg2, hRw, hSf, hds, hmem, hso, hb⟩ := srtR_elim h
  have HRw := Lib.hid hRw
  have HSf := Lib.hid hSf
  have HE := Lib.hid (HLC.out d hmem hso)
  have HB2 := Lib.hid (HB1.out.trans (hb.mono hz1))
  have hz2 := HB2.out.size
  have HCM := Lib.hid hcm
  have hd24 : d.size ≤ 24 := by omega
  clear h hRw hSf hmem hso hb hcm hds
  go_wp2_with fail
  have hcp := compact_labs HRw.out HSf.out (by omega) hdc hg2
  have hlen := compact_len_le (d := d) d.size
  unfold CmpR at hcp
  rw [HE.out] at hcp hlen
  refine hcp.mono ?_
  rintro e w3 ⟨rfl, hcl, hSf3, hoff⟩
  have HB3 := Lib.hid (HB2.out.trans (hoff.below hz2 fun k hk => by rw [hk]; omega))
  have HN := Lib.hid (show OwSl R_Label w3 (Rg W.heap.size w3.heap.size) M (some ⟨g, 0, none⟩) c from
    ⟨by omega, HCM.out, fun _ => ⟨g, fun _ _ => False, rfl, ⟨by omega, Nat.lt_of_lt_of_le hg2 hoff.size⟩, hSf3, fun i k h => h.elim, fun i j k _ h => h.elim, fun i x hx => by
      obtain ⟨x0, x1⟩ := x
      obtain ⟨q0, q1⟩ := hcl i _ hx
      exact ⟨[.int .i64 x0, .int .i64 x1], CellsAt.cons.2 ⟨q0, CellsAt.cons.2 ⟨q1, CellsAt.nil⟩⟩, mkow_Label⟩⟩⟩)
  clear hcl hSf3 hoff hlen hcp
  go_wp2
  go_ret
  exact ⟨_, c, rfl, HN.out, HB3.out⟩
end Go.Proofs.YtelhmacfljffhabGreat.RepC
end
section
namespace Go.Proofs.YtelhmacfljffhabGreat.RepC
open Go.RowKit RowC ValC SpanC KeptC CfC
set_option linter.unusedVariables false
set_option linter.unusedSimpArgs false
def hitP (f t : D_Label) (p : D_Pair) : Prop := p.1 = f ∧ p.2.1 = t
instance (f t : D_Label) (p : D_Pair) : Decidable (hitP f t p) := by unfold hitP; exact inferInstance
def ixP (P : List D_Pair) (f t : D_Label) : Int := match P.findIdx? (fun p => decide (hitP f t p)) with
  | some i => (i : Int)
  | none => -1
theorem ixP_hit {P : List D_Pair} {f t : D_Label} {k : Nat} {x : D_Pair} (hx : P[k]? = some x) (hh : hitP f t x) (ha : ∀ (q : Nat) y, q < k → P[q]? = some y → ¬ hitP f t y) : ixP P f t = (k : Int) := by
  have h : P.findIdx? (fun p => decide (hitP f t p)) = some k := by
    rw [List.findIdx?_eq_some_iff_getElem]
    obtain ⟨hk, hxe⟩ := List.getElem?_eq_some_iff.1 hx
    refine ⟨hk, by rw [hxe]; exact decide_eq_true hh, fun j hj => ?_⟩
    have := ha j P[j] hj (List.getElem?_eq_getElem _)
    simpa using this
  unfold ixP
  rw [h]
theorem ixP_none {P : List D_Pair} {f t : D_Label} (ha : ∀ (q : Nat) y, P[q]? = some y → ¬ hitP f t y) : ixP P f t = -1 := by
  have h : P.findIdx? (fun p => decide (hitP f t p)) = none := by
    rw [List.findIdx?_eq_none_iff]
    intro x hx
    obtain ⟨i, hi⟩ := List.getElem?_of_mem hx
    exact decide_eq_false (ha i x hi)
  unfold ixP
  rw [h]
theorem ixP_ge {P : List D_Pair} {f t : D_Label} : 0 ≤ ixP P f t ↔ ∃ (q : Nat) (y : D_Pair), P[q]? = some y ∧ hitP f t y := by
  constructor
  · intro h
    refine Classical.byContradiction fun hn => ?_
    rw [ixP_none fun q y hy hh => hn ⟨q, y, hy, hh⟩] at h
    omega
  · rintro ⟨q, y, hy, hh⟩
    refine Classical.byContradiction fun hn => ?_
    unfold ixP at hn
    split at hn
    · omega
    · rename_i h
      rw [List.findIdx?_eq_none_iff] at h
      have := h y (List.mem_of_getElem? hy)
      exact absurd hh (of_decide_eq_false this)
theorem rd_take {α : Type} {E : Rp α} {W : World} {B : Nat} {L : List α} {a : Option Addr} {c : Nat} (h : RdSl E W B L a c) (k : Nat) : RdSl E W B (L.take k) a c := by
  refine ⟨by rw [List.length_take]; have := h.1; omega, h.2.1, fun hk => ?_⟩
  rw [List.length_take] at hk
  obtain ⟨g, o, ha, hg, hc⟩ := h.2.2 (by omega)
  refine ⟨g, o, ha, hg, fun i x hx => hc i x ?_⟩
  rw [List.getElem?_take] at hx
  split at hx
  · exact hx
  · cases hx
set_option maxRecDepth 100000 in
set_option maxHeartbeats 1600000 in
theorem hitp_v (x0 x1 x2 x3 x4 f0 f1 t0 t1 : Int) (b1 b2 : Nat) {b : Bool} {W : World} (hb : decide (hitP (f0, f1) (t0, t1) ((x0, x1), (x2, x3), x4)) = b) (h1 : Blk W b1 47 #[.int .i64 f0, .int .i64 f1]) (h2 : Blk W b2 47 #[.int .i64 t0, .int .i64 t1]) :
    Calls Tryz.prog 166 #[.agg #[.int .i64 x0, .int .i64 x1, .int .i64 x2, .int .i64 x3, .int .i64 x4], .pointer (some ⟨b1, 0, none⟩), .pointer (some ⟨b2, 0, none⟩)] W fun e w' => e = .returned (.bool b) ∧ Below W.heap.size W w' := by
  have HB0 := Lib.hid (show Below W.heap.size W (W.alloc (.cells #[.int .i64 x0, .int .i64 x1, .int .i64 x2, .int .i64 x3, .int .i64 x4] 155)) from (Below.refl _ _).alloc (Nat.le_refl _) _)
  have H1 := h1.alloc (.cells #[.int .i64 x0, .int .i64 x1, .int .i64 x2, .int .i64 x3, .int .i64 x4] 155)
  have H2 := h2.alloc (.cells #[.int .i64 x0, .int .i64 x1, .int .i64 x2, .int .i64 x3, .int .i64 x4] 155)
  have a0 : (W.alloc (.cells #[.int .i64 x0, .int .i64 x1, .int .i64 x2, .int .i64 x3, .int .i64 x4] 155)).cell? ⟨b1, 0, none⟩ = some (.int .i64 f0) := H1.at_ 0 rfl
  have a1 : (W.alloc (.cells #[.int .i64 x0, .int .i64 x1, .int .i64 x2, .int .i64 x3, .int .i64 x4] 155)).cell? ⟨b1, 1, none⟩ = some (.int .i64 f1) := H1.at_ 1 rfl
  have d0 : (W.alloc (.cells #[.int .i64 x0, .int .i64 x1, .int .i64 x2, .int .i64 x3, .int .i64 x4] 155)).cell? ⟨b2, 0, none⟩ = some (.int .i64 t0) := H2.at_ 0 rfl
  have d1 : (W.alloc (.cells #[.int .i64 x0, .int .i64 x1, .int .i64 x2, .int .i64 x3, .int .i64 x4] 155)).cell? ⟨b2, 1, none⟩ = some (.int .i64 t1) := H2.at_ 1 rfl
  clear H1 H2 h1 h2
  obtain ⟨q1, hq1⟩ : ∃ b, decide (((x0, x1) : Int × Int) = (f0, f1)) = b := ⟨_, rfl⟩
  obtain ⟨q2, hq2⟩ : ∃ b, decide (((x2, x3) : Int × Int) = (t0, t1)) = b := ⟨_, rfl⟩
  have hE1 := eql_lab _ _ _ _ _ hq1
  have hE2 := eql_lab _ _ _ _ _ hq2
  have HQ := Lib.hid (show b = (q1 && q2) from by rw [← hb, ← hq1, ← hq2, ← Bool.decide_and]; exact decide_eq_decide.2 Iff.rfl)
  clear hb hq1 hq2
  go_enter Tryz.func166, Tryz.ntmps166
  cases q1 with
  | false =>
    go_wp2
    go_ret
    exact ⟨by rw [HQ.out]; rfl, HB0.out⟩
  | true =>
    go_wp2
    go_ret
    exact ⟨by rw [HQ.out]; rfl, HB0.out⟩
set_option maxRecDepth 100000 in
set_option maxHeartbeats 1600000 in
theorem indexf_pairs {P : List D_Pair} {pa : Option Addr} {pc b1 b2 : Nat} {f0 f1 t0 t1 : Int} {W : World} (hP : RdSl R_Pair W W.heap.size P pa pc) (h1 : Blk W b1 47 #[.int .i64 f0, .int .i64 f1]) (h2 : Blk W b2 47 #[.int .i64 t0, .int .i64 t1]) :
    Calls Tryz.prog 165 #[.slice pa P.length pc, .func (.func 166) #[] #[.pointer (some ⟨b1, 0, none⟩), .pointer (some ⟨b2, 0, none⟩)]] W (IsI (ixP P (f0, f1) (t0, t1)) W) := by
  have hn : P.length ≤ 9223372036854775807 := by have h1 := hP.1; have h2 := hP.2.1; unfold maxLen at h2; omega
  have HP := Lib.hid hP
  have H1 := Lib.hid h1
  have H2 := Lib.hid h2
  clear hP h1 h2
  go_enter Tryz.func165, Tryz.ntmps165
  go_wp2
  go_loopw [8] (fun i wr => ∃ k : Nat, k ≤ P.length ∧ i = .int .i64 k ∧ Hid (∀ (q : Nat) y, q < k → P[q]? = some y → ¬ hitP (f0, f1) (t0, t1) y) ∧ Below W.heap.size W wr) (fun i _ => P.length - (intOf i).toNat)
  case atStart => exact ⟨0, Nat.zero_le _, rfl, Lib.hid fun q y h => absurd h (Nat.not_lt_zero _), Below.refl _ _⟩
  case round =>
    obtain ⟨k, hk, rfl, HA, hB⟩ := hrel
    have HB := Lib.hid hB
    have hsz := hB.size
    by_cases hlt : k < P.length
    · have hdl : decide ((k : Int) < (P.length : Int)) = true := decide_eq_true (by omega)
      obtain ⟨⟨⟨x0, x1⟩, ⟨x2, x3⟩, x4⟩, hx⟩ := el_some hlt
      have HX := Lib.hid hx
      obtain ⟨g, o, us, rfl, hg, hu, hr⟩ := (HP.out.below R_Pair_ok hB).at_ hx
      obtain rfl := rd_Pair hr
      have e0 : wr.cell? ⟨g, o + k * 5, none⟩ = some (.int .i64 x0) := by simpa [size_PairS, Nat.add_assoc] using hu 0 _ rfl
      have e1 : wr.cell? ⟨g, o + k * 5 + 1, none⟩ = some (.int .i64 x1) := by simpa [size_PairS, Nat.add_assoc] using hu 1 _ rfl
      have e2 : wr.cell? ⟨g, o + k * 5 + 2, none⟩ = some (.int .i64 x2) := by simpa [size_PairS, Nat.add_assoc] using hu 2 _ rfl
      have e3 : wr.cell? ⟨g, o + k * 5 + 3, none⟩ = some (.int .i64 x3) := by simpa [size_PairS, Nat.add_assoc] using hu 3 _ rfl
      have e4 : wr.cell? ⟨g, o + k * 5 + 4, none⟩ = some (.int .i64 x4) := by simpa [size_PairS, Nat.add_assoc] using hu 4 _ rfl
      have hi0 : (0 : Int) ≤ (k : Int) := Int.natCast_nonneg _
      have hi1 : (k : Int) < (P.length : Int) := by omega
      have eg : ∀ args w, (callFunc 166 args).run Tryz.prog w = .ok (.enter 166 args) w := enters_of Tryz.func166 (by kernel_rfl) rfl
      obtain ⟨b, hb⟩ : ∃ b, decide (hitP (f0, f1) (t0, t1) ((x0, x1), (x2, x3), x4)) = b := ⟨_, rfl⟩
      have HBb := Lib.hid hb
      clear hB hx hu hr hb
      go_wp2_with fail
      refine (hitp_v x0 x1 x2 x3 x4 f0 f1 t0 t1 b1 b2 HBb.out (H1.out.call HB.out) (H2.out.call HB.out)).mono ?_
      rintro e w1 ⟨rfl, hb⟩
      have HB1 := Lib.hid (HB.out.trans (hb.mono hsz))
      clear hb e0 e1 e2 e3 e4
      cases b with
      | true =>
        have HE := Lib.hid (ixP_hit HX.out (of_decide_eq_true HBb.out) HA.out)
        go_wp2
        go_ret
        exact ⟨by rw [HE.out]; rfl, HB1.out⟩
      | false =>
        have HA2 := Lib.hid (show ∀ (q : Nat) y, q < k + 1 → P[q]? = some y → ¬ hitP (f0, f1) (t0, t1) y from fun q y hq hy => by
          by_cases e : q = k
          · subst e; rw [HX.out] at hy; obtain rfl := Option.some.inj hy
            exact of_decide_eq_false HBb.out
          · exact HA.out q y (by omega) hy)
        go_wp2
        go_roundw
        case rel => exact ⟨k + 1, by omega, by go_num, HA2, HB1.out⟩
        case measure => simp [intOf]; omega
    · have hdl : decide ((k : Int) < (P.length : Int)) = false := decide_eq_false (by omega)
      have HE := Lib.hid (ixP_none (f := (f0, f1)) (t := (t0, t1)) fun q y hy => HA.out q y (by have := el_lt hy; omega) hy)
      clear hB
      go_wp2
      go_ret
      exact ⟨by rw [HE.out]; rfl, HB.out⟩
set_option maxRecDepth 100000 in
set_option maxHeartbeats 1600000 in
theorem pairix_impl {P : List D_Pair} {pa : Option Addr} {pc : Nat} {f0 f1 t0 t1 : Int} {W : World} (hP : RdSl R_Pair W W.heap.size P pa pc) :
    Calls Tryz.prog 144 #[.slice pa P.length pc, .agg #[.int .i64 f0, .int .i64 f1], .agg #[.int .i64 t0, .int .i64 t1]] W (IsI (ixP P (f0, f1) (t0, t1)) W) := by
  have hmf : ∀ (fn : Fn) (first cap : Array Value) (w : World), (Instr.makeFunc fn first cap).run Tryz.prog w = .ok (.func fn first cap) w := fun _ _ _ _ => rfl
  obtain ⟨w0, hw0⟩ : ∃ w, w = (W.alloc (.cells #[.int .i64 f0, .int .i64 f1] 47)).alloc (.cells #[.int .i64 t0, .int .i64 t1] 47) := ⟨_, rfl⟩
  have hb0 : Below W.heap.size W w0 := by rw [hw0]; exact ((Below.refl _ _).alloc (Nat.le_refl _) _).alloc (by simp) _
  have h1 : Blk w0 W.heap.size 47 #[.int .i64 f0, .int .i64 f1] := by rw [hw0]; exact (Blk.new _ _ _).alloc _
  have h2 : Blk w0 (W.heap.size + 1) 47 #[.int .i64 t0, .int .i64 t1] := by
    have h9 := Blk.new (W.alloc (.cells #[.int .i64 f0, .int .i64 f1] 47)) 47 #[.int .i64 t0, .int .i64 t1]
    simp only [World.size_alloc] at h9
    rw [hw0]; exact h9
  have HP := Lib.hid (rd_mv R_Pair_ok hP hb0)
  have H1 := Lib.hid h1
  have H2 := Lib.hid h2
  have HB0 := Lib.hid hb0
  have hz0 := hb0.size
  clear h1 h2 hb0 hP
  go_enter Tryz.func144, Tryz.ntmps144
  go_wp2_with fail
  rw [← hw0]
  clear hw0
  refine (indexf_pairs HP.out H1.out H2.out).mono ?_
  intro e w1 h
  obtain ⟨rfl, hb⟩ := isI_elim h
  have HB1 := Lib.hid (HB0.out.trans (hb.mono hz0))
  clear h hb
  go_wp2
  go_ret
  exact ⟨rfl, HB1.out⟩
end Go.Proofs.YtelhmacfljffhabGreat.RepC
end
section
namespace Go.Proofs.YtelhmacfljffhabGreat.RepC
open Go.RowKit RowC ValC SpanC KeptC CfC
set_option linter.unusedVariables false
set_option linter.unusedSimpArgs false
noncomputable def cfgB (C : List (List D_Label)) (P : List D_Pair) (Q : List D_Quota) (hf : Int) : Bool := by classical exact decide (CfgR C P Q hf)
theorem cfgB_iff {C : List (List D_Label)} {P : List D_Pair} {Q : List D_Quota} {hf : Int} : cfgB C P Q hf = true ↔ CfgR C P Q hf := by unfold cfgB; simp
noncomputable def labsV (C : List (List D_Label)) (P : List D_Pair) (Q : List D_Quota) (hf : Int) : List D_Label := if cfgB C P Q hf then labsOf C else []
def nodesTo (C : List (List D_Label)) (a : D_Label) (n : Nat) : List Int := ((List.range n).filter (fun i => decide (∃ x, C[i]? = some x ∧ a ∈ x))).map (fun i : Nat => (i : Int))
def nodesOf (C : List (List D_Label)) (a : D_Label) : List Int := nodesTo C a C.length
theorem nodesTo_yes {C : List (List D_Label)} {a : D_Label} {k : Nat} {x : List D_Label} (hx : C[k]? = some x) (h : a ∈ x) : nodesTo C a (k + 1) = nodesTo C a k ++ [(k : Int)] := by
  unfold nodesTo
  rw [List.range_succ, List.filter_append, List.map_append]
  simp only [List.filter_cons, decide_eq_true (show ∃ x, C[k]? = some x ∧ a ∈ x from ⟨x, hx, h⟩), List.filter_nil, if_true, List.map_cons, List.map_nil]
theorem nodesTo_no {C : List (List D_Label)} {a : D_Label} {k : Nat} {x : List D_Label} (hx : C[k]? = some x) (h : a ∉ x) : nodesTo C a (k + 1) = nodesTo C a k := by
  unfold nodesTo
  rw [List.range_succ, List.filter_append, List.map_append]
  have hn : decide (∃ x, C[k]? = some x ∧ a ∈ x) = false := decide_eq_false fun ⟨y, hy, hm⟩ => by rw [hx] at hy; obtain rfl := Option.some.inj hy; exact h hm
  simp only [List.filter_cons, hn, List.filter_nil, Bool.false_eq_true, if_false, List.map_nil, List.append_nil]
theorem nodesTo_len (C : List (List D_Label)) (a : D_Label) (n : Nat) : (nodesTo C a n).length ≤ n := by
  unfold nodesTo
  rw [List.length_map]
  exact Nat.le_trans (List.length_filter_le _ _) (by simp)
def quotaIn (Q : List D_Quota) (a : D_Label) : Int := match Q.find? (fun q => decide (q.1 = a)) with
  | some q => q.2
  | none => 6
noncomputable def quotaV (C : List (List D_Label)) (P : List D_Pair) (Q : List D_Quota) (hf : Int) (a : D_Label) : Int := by classical exact if a ∈ labsV C P Q hf then quotaIn Q a else 0
theorem quotaIn_hit {Q : List D_Quota} {a : D_Label} {k : Nat} {x : D_Quota} (hx : Q[k]? = some x) (hh : x.1 = a) (ha : ∀ (q : Nat) y, q < k → Q[q]? = some y → y.1 ≠ a) : quotaIn Q a = x.2 := by
  have h : Q.find? (fun q => decide (q.1 = a)) = some x := by
    rw [List.find?_eq_some_iff_getElem]
    obtain ⟨hk, hxe⟩ := List.getElem?_eq_some_iff.1 hx
    refine ⟨decide_eq_true hh, k, hk, hxe, fun j hj => ?_⟩
    have := ha j Q[j] hj (List.getElem?_eq_getElem _)
    simpa using this
  unfold quotaIn
  rw [h]
theorem quotaIn_none {Q : List D_Quota} {a : D_Label} (ha : ∀ (q : Nat) y, Q[q]? = some y → y.1 ≠ a) : quotaIn Q a = 6 := by
  have h : Q.find? (fun q => decide (q.1 = a)) = none := by
    rw [List.find?_eq_none]
    intro x hx
    obtain ⟨i, hi⟩ := List.getElem?_of_mem hx
    simpa using ha i x hi
  unfold quotaIn
  rw [h]
set_option maxRecDepth 100000 in
set_option maxHeartbeats 1600000 in
theorem config_spec {C : List (List D_Label)} {P : List D_Pair} {Q : List D_Quota} {hf : Int} {ca pa qa : Option Addr} {cc pc qc : Nat} {W : World} (hC : RdSl (Sl R_Label) W W.heap.size C ca cc) (hP : RdSl R_Pair W W.heap.size P pa pc) (hQ : RdSl R_Quota W W.heap.size Q qa qc) :
    Calls Tryz.prog 44 #[.agg #[.slice ca C.length cc, .slice pa P.length pc, .slice qa Q.length qc, .int .i64 hf]] W (IsB (cfgB C P Q hf) W) := by
  obtain ⟨z, hz⟩ : ∃ z, cfgB C P Q hf = z := ⟨_, rfl⟩
  have HZ := Lib.hid (show z = true ↔ CfgR C P Q hf from by rw [← hz]; exact cfgB_iff)
  rw [hz]
  clear hz
  refine Calls.mono ?_ fun e w' h => resB_at HZ.out h
  obtain ⟨zh, hzh⟩ : ∃ z, isB hf 1 9 = z := ⟨_, rfl⟩
  have HH := Lib.hid hzh
  clear hzh HZ
  obtain ⟨M, hM⟩ : ∃ M, labsOf C = M := ⟨_, rfl⟩
  have HMr := Lib.hid (show ∀ a ∈ M, LabC.rP a.1 a.2 from by rw [← hM]; exact fun a ha => (mem_labs.1 ha).1)
  have HMs := Lib.hid (show M.Pairwise ltB from by rw [← hM]; exact labs_sorted C 32)
  have HM := Lib.hid hM
  clear hM
  obtain ⟨w0, hw0⟩ : ∃ w, w = W.alloc (.cells #[.slice ca C.length cc, .slice pa P.length pc, .slice qa Q.length qc, .int .i64 hf] 40) := ⟨_, rfl⟩
  have hb0 : Below W.heap.size W w0 := by rw [hw0]; exact (Below.refl _ _).alloc (Nat.le_refl _) _
  have x0 : Blk w0 (W.heap.size) 40 #[.slice ca C.length cc, .slice pa P.length pc, .slice qa Q.length qc, .int .i64 hf] := by
    have h9 := Blk.new W 40 #[.slice ca C.length cc, .slice pa P.length pc, .slice qa Q.length qc, .int .i64 hf]
    try simp only [World.size_alloc] at h9
    rw [hw0]; exact h9
  have X0 := Lib.hid x0
  have HC := Lib.hid (rd_mv (Sl_ok R_Label_ok) hC hb0)
  have HP := Lib.hid (rd_mv R_Pair_ok hP hb0)
  have HQ := Lib.hid (rd_mv R_Quota_ok hQ hb0)
  have HB0 := Lib.hid hb0
  have hz0 := hb0.size
  clear hb0 hC hP hQ x0
  go_enter Tryz.func44, Tryz.ntmps44
  have qX0_0 := X0.out.at_ 0 rfl
  have qX0_1 := X0.out.at_ 1 rfl
  have qX0_2 := X0.out.at_ 2 rfl
  have qX0_3 := X0.out.at_ 3 rfl
  go_wp2_with fail
  rw [← hw0]
  clear hw0
  refine (clear_spec HC.out).mono ?_
  intro e v1 h
  obtain ⟨z1, rfl, hz1, hb1⟩ := resB_elim h
  have HZ1 := Lib.hid hz1
  have HC := Lib.hid (rd_mv (Sl_ok R_Label_ok) HC.out hb1)
  have HP := Lib.hid (rd_mv R_Pair_ok HP.out hb1)
  have HQ := Lib.hid (rd_mv R_Quota_ok HQ.out hb1)
  have X0 := Lib.hid (X0.out.call hb1)
  have HB0 := Lib.hid (HB0.out.trans (hb1.mono HB0.out.size))
  clear h hz1 hb1 qX0_0 qX0_1 qX0_2 qX0_3
  have qX0_0 := X0.out.at_ 0 rfl
  have qX0_1 := X0.out.at_ 1 rfl
  have qX0_2 := X0.out.at_ 2 rfl
  have qX0_3 := X0.out.at_ 3 rfl
  cases z1 with
  | false =>
    have HN := Lib.hid (show ¬ CfgR C P Q hf from fun h => by have := HZ1.out.2 (h.1); cases this)
    go_wp2
    go_ret
    exact resB_no HN.out HB0.out
  | true =>
  have HY1 := Lib.hid (HZ1.out.1 rfl)
  go_wp2_with fail
  refine (is_at _ _ _ HH.out _).mono ?_
  rintro e w9 ⟨rfl, rfl⟩
  cases zh with
  | false =>
    have HN := Lib.hid (show ¬ CfgR C P Q hf from fun h => by have := h.2.1; rw [HH.out] at this; cases this)
    go_wp2
    go_ret
    exact resB_no HN.out HB0.out
  | true =>
  go_wp2_with fail
  have hlb := labs_spec HC.out
  rw [HM.out] at hlb
  refine hlb.mono ?_
  intro e v2 h
  obtain ⟨la, lc, rfl, ho, hb2⟩ := newS_elim h
  have HL := Lib.hid (ho.rd R_Label_ok (B := v2.heap.size) fun k hk => hk.2)
  have HC := Lib.hid (rd_mv (Sl_ok R_Label_ok) HC.out hb2)
  have HP := Lib.hid (rd_mv R_Pair_ok HP.out hb2)
  have HQ := Lib.hid (rd_mv R_Quota_ok HQ.out hb2)
  have X0 := Lib.hid (X0.out.call hb2)
  have HB0 := Lib.hid (HB0.out.trans (hb2.mono HB0.out.size))
  clear h ho hlb hb2 qX0_0 qX0_1 qX0_2 qX0_3
  have qX0_0 := X0.out.at_ 0 rfl
  have qX0_1 := X0.out.at_ 1 rfl
  have qX0_2 := X0.out.at_ 2 rfl
  have qX0_3 := X0.out.at_ 3 rfl
  by_cases h8 : M.length ≤ 8
  rotate_left
  · have hd : decide ((M.length : Int) ≤ 8) = false := decide_eq_false (by omega)
    have hd' : decide (M.length ≤ 8) = false := decide_eq_false h8
    have HN := Lib.hid (show ¬ CfgR C P Q hf from fun h => h8 (by rw [← HM.out]; exact h.2.2.1))
    go_wp2
    go_ret
    exact resB_no HN.out HB0.out
  have hd : decide ((M.length : Int) ≤ 8) = true := decide_eq_true (by omega)
  have hd' : decide (M.length ≤ 8) = true := decide_eq_true h8
  go_wp2_with fail
  refine (pairs_spec HL.out HP.out).mono ?_
  intro e v3 h
  obtain ⟨z3, rfl, hz3, hb3⟩ := resB_elim h
  have HZ3 := Lib.hid hz3
  have HC := Lib.hid (rd_mv (Sl_ok R_Label_ok) HC.out hb3)
  have HP := Lib.hid (rd_mv R_Pair_ok HP.out hb3)
  have HQ := Lib.hid (rd_mv R_Quota_ok HQ.out hb3)
  have HL := Lib.hid (rd_mv R_Label_ok HL.out hb3)
  have X0 := Lib.hid (X0.out.call hb3)
  have HB0 := Lib.hid (HB0.out.trans (hb3.mono HB0.out.size))
  clear h hz3 hb3 qX0_0 qX0_1 qX0_2 qX0_3
  have qX0_0 := X0.out.at_ 0 rfl
  have qX0_1 := X0.out.at_ 1 rfl
  have qX0_2 := X0.out.at_ 2 rfl
  have qX0_3 := X0.out.at_ 3 rfl
  cases z3 with
  | false =>
    have HN := Lib.hid (show ¬ CfgR C P Q hf from fun h => by have := HZ3.out.2 (by rw [← HM.out]; exact h.2.2.2.1); cases this)
    go_wp2
    go_ret
    exact resB_no HN.out HB0.out
  | true =>
  have HY3 := Lib.hid (HZ3.out.1 rfl)
  go_wp2_with fail
  refine (quotas_spec HMr.out HMs.out h8 HL.out HQ.out).mono ?_
  intro e v4 h
  obtain ⟨z4, rfl, hz4, hb4⟩ := resB_elim h
  have HZ4 := Lib.hid hz4
  have HC := Lib.hid (rd_mv (Sl_ok R_Label_ok) HC.out hb4)
  have HP := Lib.hid (rd_mv R_Pair_ok HP.out hb4)
  have HQ := Lib.hid (rd_mv R_Quota_ok HQ.out hb4)
  have HL := Lib.hid (rd_mv R_Label_ok HL.out hb4)
  have X0 := Lib.hid (X0.out.call hb4)
  have HB0 := Lib.hid (HB0.out.trans (hb4.mono HB0.out.size))
  clear h hz4 hb4 qX0_0 qX0_1 qX0_2 qX0_3
  have qX0_0 := X0.out.at_ 0 rfl
  have qX0_1 := X0.out.at_ 1 rfl
  have qX0_2 := X0.out.at_ 2 rfl
  have qX0_3 := X0.out.at_ 3 rfl
  cases z4 with
  | false =>
    have HN := Lib.hid (show ¬ CfgR C P Q hf from fun h => by have := HZ4.out.2 (by rw [← HM.out]; exact h.2.2.2.2); cases this)
    go_wp2
    go_ret
    exact resB_no HN.out HB0.out
  | true =>
  have HY4 := Lib.hid (HZ4.out.1 rfl)
  have HY := Lib.hid (show CfgR C P Q hf from ⟨HY1.out, HH.out, by rw [HM.out]; exact h8, by rw [HM.out]; exact HY3.out, by rw [HM.out]; exact HY4.out⟩)
  go_wp2
  go_ret
  exact resB_yes HY.out HB0.out
set_option maxRecDepth 100000 in
set_option maxHeartbeats 1600000 in
theorem labelsof_spec {C : List (List D_Label)} {P : List D_Pair} {Q : List D_Quota} {hf : Int} {ca pa qa : Option Addr} {cc pc qc : Nat} {W : World} (hC : RdSl (Sl R_Label) W W.heap.size C ca cc) (hP : RdSl R_Pair W W.heap.size P pa pc) (hQ : RdSl R_Quota W W.heap.size Q qa qc) :
    Calls Tryz.prog 96 #[.agg #[.slice ca C.length cc, .slice pa P.length pc, .slice qa Q.length qc, .int .i64 hf]] W (NewS R_Label (labsV C P Q hf) W) := by
  obtain ⟨M, hM⟩ : ∃ M, labsV C P Q hf = M := ⟨_, rfl⟩
  have HM := Lib.hid hM
  rw [hM]
  clear hM
  obtain ⟨z, hz⟩ : ∃ z, cfgB C P Q hf = z := ⟨_, rfl⟩
  have HZ := Lib.hid hz
  clear hz
  obtain ⟨w0, hw0⟩ : ∃ w, w = W.alloc (.cells #[.slice ca C.length cc, .slice pa P.length pc, .slice qa Q.length qc, .int .i64 hf] 40) := ⟨_, rfl⟩
  have hb0 : Below W.heap.size W w0 := by rw [hw0]; exact (Below.refl _ _).alloc (Nat.le_refl _) _
  have x0 : Blk w0 (W.heap.size) 40 #[.slice ca C.length cc, .slice pa P.length pc, .slice qa Q.length qc, .int .i64 hf] := by
    have h9 := Blk.new W 40 #[.slice ca C.length cc, .slice pa P.length pc, .slice qa Q.length qc, .int .i64 hf]
    try simp only [World.size_alloc] at h9
    rw [hw0]; exact h9
  have X0 := Lib.hid x0
  have HC := Lib.hid (rd_mv (Sl_ok R_Label_ok) hC hb0)
  have HP := Lib.hid (rd_mv R_Pair_ok hP hb0)
  have HQ := Lib.hid (rd_mv R_Quota_ok hQ hb0)
  have HB0 := Lib.hid hb0
  have hz0 := hb0.size
  clear hb0 hC hP hQ x0
  go_enter Tryz.func96, Tryz.ntmps96
  have qX0_0 := X0.out.at_ 0 rfl
  have qX0_1 := X0.out.at_ 1 rfl
  have qX0_2 := X0.out.at_ 2 rfl
  have qX0_3 := X0.out.at_ 3 rfl
  go_wp2_with fail
  rw [← hw0]
  clear hw0
  have hcf := config_spec HC.out HP.out HQ.out (hf := hf)
  rw [HZ.out] at hcf
  refine hcf.mono ?_
  intro e v1 h
  obtain ⟨rfl, hb⟩ := isB_elim h
  have HC := Lib.hid (rd_mv (Sl_ok R_Label_ok) HC.out hb)
  have HP := Lib.hid (rd_mv R_Pair_ok HP.out hb)
  have HQ := Lib.hid (rd_mv R_Quota_ok HQ.out hb)
  have X0 := Lib.hid (X0.out.call hb)
  have HB0 := Lib.hid (HB0.out.trans (hb.mono HB0.out.size))
  clear h hb hcf qX0_0 qX0_1 qX0_2 qX0_3
  have qX0_0 := X0.out.at_ 0 rfl
  have qX0_1 := X0.out.at_ 1 rfl
  have qX0_2 := X0.out.at_ 2 rfl
  have qX0_3 := X0.out.at_ 3 rfl
  cases z with
  | false =>
    have HE := Lib.hid (show M = [] from by rw [← HM.out]; unfold labsV; rw [HZ.out]; rfl)
    obtain rfl := HE.out
    go_wp2
    go_ret
    exact ⟨_, _, rfl, ⟨Nat.le_refl _, by unfold maxLen; omega, fun h => absurd h (Nat.lt_irrefl _)⟩, HB0.out.alloc HB0.out.size _⟩
  | true =>
  have HE := Lib.hid (show M = labsOf C from by rw [← HM.out]; unfold labsV; rw [HZ.out]; rfl)
  have HCL := Lib.hid (cfgB_iff.1 HZ.out).1
  go_wp2_with fail
  have hlb := labs_spec HC.out
  rw [← HE.out] at hlb
  refine hlb.mono ?_
  intro e v2 h
  obtain ⟨la, lc, rfl, ho, hb⟩ := newS_elim h
  have HO := Lib.hid (ho.more fun k (hk : Rg v1.heap.size v2.heap.size k) => (⟨Nat.le_trans HB0.out.size hk.1, hk.2⟩ : Rg W.heap.size v2.heap.size k))
  have HB1 := Lib.hid (HB0.out.trans (hb.mono HB0.out.size))
  clear h ho hb hlb
  go_wp2
  go_ret
  exact ⟨_, _, rfl, HO.out, HB1.out⟩
end Go.Proofs.YtelhmacfljffhabGreat.RepC
end
