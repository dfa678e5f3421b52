/- Of this claim's texts the part 18: UsP UsQ. -/
import Derived.Sort.Walk0
import Derived.Test.YtelhmacfljffhabGreatPV0
import Derived.Test.YtelhmacfljffhabGreatPV1
import Derived.Test.YtelhmacfljffhabGreatPV4
import Derived.Test.YtelhmacfljffhabGreatPV5
import Derived.Test.YtelhmacfljffhabGreatPV8
import Derived.Test.YtelhmacfljffhabGreatPV9
import Derived.Test.YtelhmacfljffhabGreatPV12
import Derived.Test.YtelhmacfljffhabGreatPV17
section
namespace Go.Proofs.YtelhmacfljffhabGreat.RepC
open Go.RowKit RowC ValC SpanC KeptC NameC
set_option linter.unusedVariables false
set_option linter.unusedSimpArgs false
def sLt (a b : ByteArray) : Bool := Op.bytesLess a.toList b.toList
theorem sLt_iff (a b : ByteArray) : sLt a b = true ↔ a.toList < b.toList := by unfold sLt; rw [bytesLess_eq]; simp
theorem bl_inj {a b : ByteArray} (h : a.toList = b.toList) : a = b := by
  rw [Lib.toList_data, Lib.toList_data] at h
  cases a; cases b
  simp only [ByteArray.mk.injEq]
  exact Array.toList_inj.1 h
theorem sLt_irrefl (a : ByteArray) : sLt a a = false := by
  rw [Bool.eq_false_iff, ne_eq, sLt_iff]
  exact List.lt_irrefl _
theorem sLt_trans {a b c : ByteArray} (h1 : sLt a b = true) (h2 : sLt b c = true) : sLt a c = true := by
  rw [sLt_iff] at *
  exact List.lt_trans h1 h2
theorem sLt_tri {a b : ByteArray} (h1 : sLt a b = false) (h2 : sLt b a = false) : a = b := by
  rw [Bool.eq_false_iff, ne_eq, sLt_iff] at *
  exact bl_inj (List.le_antisymm (List.not_lt.1 h2) (List.not_lt.1 h1))
theorem sLt_asymm {a b : ByteArray} (h1 : sLt a b = true) : sLt b a = false := by
  rw [Bool.eq_false_iff]
  intro h2
  have := sLt_trans h1 h2
  rw [sLt_irrefl] at this
  cases this
def ltLb (a b : D_Label) : Prop := a.1 < b.1 ∨ (a.1 = b.1 ∧ a.2 < b.2)
def leLb (a b : D_Label) : Prop := a = b ∨ ltLb a b
theorem ltLb_trans {a b c : D_Label} (h1 : ltLb a b) (h2 : ltLb b c) : ltLb a c := by unfold ltLb at *; omega
theorem ltLb_irrefl {a : D_Label} : ¬ ltLb a a := by unfold ltLb; omega
theorem leLb_trans {a b c : D_Label} (h1 : leLb a b) (h2 : leLb b c) : leLb a c := by
  rcases h1 with rfl | h1
  · exact h2
  · rcases h2 with rfl | h2
    · exact .inr h1
    · exact .inr (ltLb_trans h1 h2)
theorem leLb_anti {a b : D_Label} (h1 : leLb a b) (h2 : leLb b a) : a = b := by
  rcases h1 with h | h1
  · exact h
  · rcases h2 with h | h2
    · exact h.symm
    · exact absurd (ltLb_trans h1 h2) ltLb_irrefl
def ltU (x y : D_Use) : Prop := ltLb x.1 y.1 ∨ (x.1 = y.1 ∧ sLt x.2.1 y.2.1 = true)
theorem ltU_lab {x y : D_Use} (h : ltU x y) : leLb x.1 y.1 := by
  rcases h with h | ⟨h, _⟩
  · exact .inr h
  · exact .inl h
def okU (x : D_Use) : Prop := LabC.rB x.1.1 x.1.2 = true ∧ NameP x.2.1 ∧ isB x.2.2 1 100000 = true
def okAt (L : List D_Use) (i : Nat) (x : D_Use) : Prop := okU x ∧ (∀ y, 0 < i → L[i - 1]? = some y → ltU y x) ∧ ∀ y, 6 ≤ i → L[i - 6]? = some y → y.1 ≠ x.1
def usTo (L : List D_Use) (k : Nat) : Prop := ∀ i x, i < k → L[i]? = some x → okAt L i x
def UsesR (L : List D_Use) : Prop := L.length ≤ 48 ∧ ∀ i x, L[i]? = some x → okAt L i x
open Classical in
noncomputable def usesB (L : List D_Use) : Bool := decide (UsesR L)
open Classical in
theorem usesB_iff {L : List D_Use} : usesB L = true ↔ UsesR L := by unfold usesB; simp
theorem usTo_zero {L : List D_Use} : usTo L 0 := fun i x h => absurd h (Nat.not_lt_zero _)
theorem usTo_step {L : List D_Use} {k : Nat} {x : D_Use} (h : usTo L k) (hx : L[k]? = some x) (hk : okAt L k x) : usTo L (k + 1) := fun i y hi hy => by
  rcases Nat.lt_succ_iff_lt_or_eq.1 hi with h1 | h1
  · exact h i y h1 hy
  · subst h1; rw [hx] at hy; cases hy; exact hk
theorem usesR_all {L : List D_Use} (h1 : L.length ≤ 48) (h : usTo L L.length) : UsesR L := ⟨h1, fun i x hx => h i x (List.getElem?_eq_some_iff.1 hx).1 hx⟩
theorem resB_is {P : Prop} {b : Bool} {w w' : World} {e : Ending} (hb : b = true ↔ P) (h : ResB P w e w') : IsB b w e w' := by
  obtain ⟨c, rfl, hc, hB⟩ := h
  obtain rfl : c = b := by
    cases c <;> cases b <;> first | rfl | exact absurd (hc.2 (hb.1 rfl)) (by decide) | exact absurd (hb.2 (hc.1 rfl)) (by decide)
  exact ⟨rfl, hB⟩
def runU (L : List D_Use) (k c : Nat) : Prop := (k = 0 ∧ c = 0) ∨ (1 ≤ c ∧ c ≤ k ∧ (∀ j x y, k - c ≤ j → j < k → L[j]? = some x → L[k - 1]? = some y → x.1 = y.1) ∧ ∀ x y, c < k → L[k - c - 1]? = some x → L[k - 1]? = some y → x.1 ≠ y.1)
theorem runU_zero {L : List D_Use} : runU L 0 0 := .inl ⟨rfl, rfl⟩
theorem el_of {L : List D_Use} {k : Nat} (h : k < L.length) : ∃ x, L[k]? = some x := ⟨L[k], List.getElem?_eq_getElem h⟩
theorem runU_more {L : List D_Use} {k c : Nat} {x y : D_Use} (h : runU L k c) (h0 : 0 < k) (hy : L[k - 1]? = some y) (hx : L[k]? = some x) (he : y.1 = x.1) : runU L (k + 1) (c + 1) := by
  rcases h with ⟨h, _⟩ | ⟨h1, h2, h3, h4⟩
  · omega
  · refine .inr ⟨by omega, by omega, fun j u v hj hj2 hu hv => ?_, fun u v hc hu hv => ?_⟩
    · rw [Nat.add_sub_cancel] at hv
      rw [hx] at hv
      cases hv
      by_cases e : j = k
      · subst e; rw [hx] at hu; cases hu; rfl
      · exact (h3 j u y (by omega) (by omega) hu hy).trans he
    · rw [Nat.add_sub_cancel] at hv
      rw [hx] at hv
      cases hv
      rw [← he]
      exact h4 u y (by omega) (by rw [show k - c - 1 = k + 1 - (c + 1) - 1 by omega]; exact hu) hy
theorem runU_new {L : List D_Use} {k : Nat} {x : D_Use} (hx : L[k]? = some x) (h : ∀ y, 0 < k → L[k - 1]? = some y → y.1 ≠ x.1) : runU L (k + 1) 1 := by
  refine .inr ⟨Nat.le_refl _, by omega, fun j u v hj hj2 hu hv => ?_, fun u v hc hu hv => ?_⟩
  · rw [Nat.add_sub_cancel] at hv
    obtain rfl : j = k := by omega
    rw [hu] at hv
    cases hv
    rfl
  · rw [Nat.add_sub_cancel] at hv
    rw [hx] at hv
    cases hv
    exact h u (by omega) hu
theorem usTo_mono {L : List D_Use} {k : Nat} (h : usTo L k) (hk : k ≤ L.length) {i : Nat} {x : D_Use} (hx : L[i]? = some x) : ∀ {j : Nat} {y : D_Use}, i ≤ j → j < k → L[j]? = some y → leLb x.1 y.1 := by
  intro j
  induction j with
  | zero =>
    intro y hij _ hy
    obtain rfl : i = 0 := by omega
    rw [hx] at hy; cases hy
    exact .inl rfl
  | succ j ih =>
    intro y hij hj hy
    by_cases e : i = j + 1
    · subst e; rw [hx] at hy; cases hy; exact .inl rfl
    · obtain ⟨z, hz⟩ := el_of (L := L) (k := j) (by omega)
      exact leLb_trans (ih (by omega) (by omega) hz) (ltU_lab ((h (j + 1) y hj hy).2.1 z (by omega) hz))
theorem run_six {L : List D_Use} {k c : Nat} {x : D_Use} (hT : usTo L k) (hx : L[k]? = some x) (ho : okU x) (hl : ∀ y, 0 < k → L[k - 1]? = some y → ltU y x) (hr : runU L (k + 1) c) : c ≤ 6 ↔ ∀ y, 6 ≤ k → L[k - 6]? = some y → y.1 ≠ x.1 := by
  have hk : k < L.length := (List.getElem?_eq_some_iff.1 hx).1
  rcases hr with ⟨h, _⟩ | ⟨h1, h2, h3, h4⟩
  · omega
  rw [Nat.add_sub_cancel] at h3 h4
  constructor
  · intro hc y h6 hy he
    obtain ⟨z, hz⟩ := el_of (L := L) (k := k + 1 - c - 1) (by omega)
    have hlast : ∀ {j : Nat} {u : D_Use}, j < k → L[j]? = some u → leLb u.1 x.1 := fun {j u} hj hu => by
      obtain ⟨v, hv⟩ := el_of (L := L) (k := k - 1) (by omega)
      exact leLb_trans (usTo_mono hT (by omega) hu (by omega) (by omega) hv) (ltU_lab (hl v (by omega) hv))
    have e1 : leLb y.1 z.1 := usTo_mono hT (by omega) hy (by omega) (by omega) hz
    have e2 : leLb z.1 x.1 := hlast (by omega) hz
    rw [he] at e1
    exact h4 z x (by omega) hz hx (leLb_anti e2 e1)
  · intro h
    by_cases hc : c ≤ 6
    · exact hc
    · exfalso
      obtain ⟨z, hz⟩ := el_of (L := L) (k := k - 6) (by omega)
      exact h z (by omega) hz (h3 (k - 6) z x (by omega) (by omega) hz hx)
end Go.Proofs.YtelhmacfljffhabGreat.RepC
end
section
namespace Go.Proofs.YtelhmacfljffhabGreat.RepC
open Go.RowKit RowC ValC SpanC KeptC NameC
set_option linter.unusedVariables false
set_option linter.unusedSimpArgs false
open Classical in
noncomputable def nameB (s : ByteArray) : Bool := decide (NameP s)
open Classical in
theorem nameB_iff {s : ByteArray} : nameB s = true ↔ NameP s := by unfold nameB; simp
theorem res_name {s : ByteArray} {w w' : World} {e : Ending} (h : NameC.Res (NameP s) w e w') : e = .returned (.bool (nameB s)) ∧ Below w.heap.size w w' := by
  obtain ⟨b, rfl, hb, rfl⟩ := h
  have : b = nameB s := by
    cases b <;> cases hn : nameB s
    · rfl
    · exact absurd (hb.2 (nameB_iff.1 hn)) (by decide)
    · exact absurd (nameB_iff.2 (hb.1 rfl)) (by rw [hn]; decide)
    · rfl
  exact ⟨by rw [this], Below.refl _ _⟩
theorem ns_w (s : ByteArray) (hs : s.size ≤ maxLen) (w : World) : Calls Tryz.prog 91 #[.string s] w fun e w' => e = .returned (.bool (nameB s)) ∧ Below w.heap.size w w' := (spec_any s w hs).mono fun _ _ h => res_name h
theorem ni_w (s : ByteArray) (hs : s.size ≤ maxLen) (w : World) : Calls Tryz.prog 114 #[.string s] w fun e w' => e = .returned (.bool (nameB s)) ∧ Below w.heap.size w w' := (impl_any s w hs).mono fun _ _ h => res_name h
theorem is_w (n lo hi : Int) (w : World) : Calls Tryz.prog 53 #[.int .i64 n, .int .i64 lo, .int .i64 hi] w fun e w' => e = .returned (.bool (isB n lo hi)) ∧ Below w.heap.size w w' := (is_spec n lo hi w).mono fun _ _ ⟨h1, h2⟩ => ⟨h1, by rw [h2]; exact Below.refl _ _⟩
theorem ur_w (n : Int) (w : World) : Calls Tryz.prog 115 #[.int .i64 n] w fun e w' => e = .returned (.bool (isB n 1 100000)) ∧ Below w.heap.size w w' := by
  go_enter Tryz.func115, Tryz.ntmps115
  go_wp2_with (go_at_call 109; refine (is_impl _ _ _ _).mono ?_; rintro e w' ⟨rfl, rfl⟩)
  go_ret
  exact ⟨rfl, Below.refl _ _⟩
theorem rB_bd {l s : Int} (h : LabC.rB l s = true) : 0 ≤ l ∧ l ≤ 3 ∧ 0 ≤ s ∧ s ≤ 7 := by simpa [LabC.rB_iff, LabC.rP] using h
theorem ord_w {l s : Int} (h : LabC.rB l s = true) (w : World) : Calls Tryz.prog 89 #[.agg #[.int .i64 l, .int .i64 s]] w fun e w' => e = .returned (.int .i64 (8 * l + s)) ∧ Below w.heap.size w w' := by
  obtain ⟨h1, h2, h3, h4⟩ := rB_bd h
  go_enter Tryz.func89, Tryz.ntmps89
  go_wp2
  go_ret
  exact ⟨rfl, (Below.refl _ _).alloc (Nat.le_refl _) _⟩
def lessB (x y : D_Use) : Bool := if decide (x.1 = y.1) = true then sLt x.2.1 y.2.1 else decide (8 * x.1.1 + x.1.2 < 8 * y.1.1 + y.1.2)
theorem lessB_iff {x y : D_Use} (hx : LabC.rB x.1.1 x.1.2 = true) (hy : LabC.rB y.1.1 y.1.2 = true) : lessB x y = true ↔ ltU x y := by
  obtain ⟨⟨a, b⟩, o, n⟩ := x
  obtain ⟨⟨c, d⟩, p, m⟩ := y
  have h1 := rB_bd hx
  have h2 := rB_bd hy
  unfold lessB ltU ltLb
  simp only at *
  split
  · rename_i h
    simp only [decide_eq_true_eq, Prod.mk.injEq] at h
    obtain ⟨rfl, rfl⟩ := h
    simp
  · rename_i h
    simp only [decide_eq_true_eq, Prod.mk.injEq] at h
    simp only [decide_eq_true_eq, Prod.mk.injEq]
    constructor
    · intro h3; left; omega
    · rintro (h3 | ⟨h3, _⟩) <;> omega
set_option maxRecDepth 100000 in
set_option maxHeartbeats 1600000 in
theorem less_w {x0 x1 x3 y0 y1 y3 : Int} {x2 y2 : ByteArray} (hx : LabC.rB x0 x1 = true) (hy : LabC.rB y0 y1 = true) (W : World) :
    Calls Tryz.prog 92 #[.agg #[.int .i64 x0, .int .i64 x1, .string x2, .int .i64 x3], .agg #[.int .i64 y0, .int .i64 y1, .string y2, .int .i64 y3]] W fun e w' => e = .returned (.bool (lessB ((x0, x1), x2, x3) ((y0, y1), y2, y3))) ∧ Below W.heap.size W w' := by
  obtain ⟨V0, hV0⟩ : ∃ V0, V0 = (W.alloc (.cells #[.int .i64 x0, .int .i64 x1, .string x2, .int .i64 x3] 69)).alloc (.cells #[.int .i64 y0, .int .i64 y1, .string y2, .int .i64 y3] 69) := ⟨_, rfl⟩
  have BA := Lib.hid (show Blk V0 W.heap.size 69 #[.int .i64 x0, .int .i64 x1, .string x2, .int .i64 x3] from by rw [hV0]; exact (Blk.new W _ _).alloc _)
  have BB := Lib.hid (show Blk V0 (W.heap.size + 1) 69 #[.int .i64 y0, .int .i64 y1, .string y2, .int .i64 y3] from by
    have h9 := Blk.new (W.alloc (.cells #[.int .i64 x0, .int .i64 x1, .string x2, .int .i64 x3] 69)) 69 #[.int .i64 y0, .int .i64 y1, .string y2, .int .i64 y3]
    simp only [World.size_alloc] at h9
    rw [hV0]; exact h9)
  have HB0 := Lib.hid (show Below W.heap.size W V0 from by rw [hV0]; exact ((Below.refl _ _).alloc (Nat.le_refl _) _).alloc (by simp) _)
  obtain ⟨b, hb⟩ : ∃ b, decide (((x0, x1) : Int × Int) = (y0, y1)) = b := ⟨_, rfl⟩
  have hn := neq_lab x0 x1 y0 y1 b hb
  cases b with
  | true =>
    have HE := Lib.hid (show lessB ((x0, x1), x2, x3) ((y0, y1), y2, y3) = sLt x2 y2 from by unfold lessB; rw [if_pos hb])
    clear hb
    rw [hV0] at HB0
    clear hV0 BA BB
    go_enter Tryz.func92, Tryz.ntmps92
    go_wp2
    go_ret
    exact ⟨by rw [HE.out]; rfl, HB0.out⟩
  | false =>
    have HE := Lib.hid (show lessB ((x0, x1), x2, x3) ((y0, y1), y2, y3) = decide (8 * x0 + x1 < 8 * y0 + y1) from by unfold lessB; rw [if_neg (by rw [hb]; decide)])
    clear hb
    have a0 := BA.out.at_ 0 rfl
    have a1 := BA.out.at_ 1 rfl
    have b0 := BB.out.at_ 0 rfl
    have b1 := BB.out.at_ 1 rfl
    rw [hV0] at a0 a1 b0 b1
    go_enter Tryz.func92, Tryz.ntmps92
    go_wp2_with fail
    rw [← hV0]
    clear hV0 a0 a1 b0 b1 hn
    refine wp_region_held_drew (S := (fun V => Below (V0).heap.size (V0) V)) (by kernel_rfl) ((Below.refl _ _).drew) (fun hHeld => ?_)
    refine tk 0 hHeld ?_
    refine tk 1 hHeld ?_ (hy := fun w hSw => by (try dsimp only at hSw); have k0 := (hSw.cell (p := ⟨W.heap.size, 0, none⟩) BA.out.lt).trans (BA.out.at_ 0 rfl); have k1 := (hSw.cell (p := ⟨W.heap.size, 1, none⟩) BA.out.lt).trans (BA.out.at_ 1 rfl); clear hSw; go_simp; try with_reducible rfl)
    refine tk 3 hHeld ?_
    refine tk 4 hHeld ?_ (hy := fun w hSw => by (try dsimp only at hSw); have k0 := (hSw.cell (p := ⟨W.heap.size + 1, 0, none⟩) BB.out.lt).trans (BB.out.at_ 0 rfl); have k1 := (hSw.cell (p := ⟨W.heap.size + 1, 1, none⟩) BB.out.lt).trans (BB.out.at_ 1 rfl); clear hSw; go_simp; try with_reducible rfl)
    refine rd1 2 (fun K hK => ?_)
    go_simp
    go_at_call 89
    refine (ord_w hx _).mono ?_
    rintro e w1 ⟨rfl, hb⟩
    refine hK.out _ _ (hHeld.trans (hb.mono hHeld.size)) (fun hHeld => ?_)
    clear hK K hb
    refine rd1 5 (fun K hK => ?_)
    go_simp
    go_at_call 89
    refine (ord_w hy _).mono ?_
    rintro e w2 ⟨rfl, hb⟩
    refine hK.out _ _ (hHeld.trans (hb.mono hHeld.size)) (fun hHeld => ?_)
    clear hK K hb
    refine tk 6 hHeld ?_
    refine tk 7 hHeld ?_
    refine rd0 ?_
    have HF := Lib.hid hHeld
    clear hHeld
    have HB1 := Lib.hid (HB0.out.trans (HF.out.mono HB0.out.size))
    go_wp2
    go_ret
    exact ⟨by rw [HE.out]; rfl, HB1.out⟩
end Go.Proofs.YtelhmacfljffhabGreat.RepC
end
