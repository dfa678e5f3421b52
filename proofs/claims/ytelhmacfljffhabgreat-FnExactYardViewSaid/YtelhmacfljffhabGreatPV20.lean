/- Of this claim's texts the part 20: TaP TaR1 TaA1. -/
import Derived.Test.YtelhmacfljffhabGreatPV0
import Derived.Test.YtelhmacfljffhabGreatPV1
import Derived.Test.YtelhmacfljffhabGreatPV4
import Derived.Test.YtelhmacfljffhabGreatPV5
import Derived.Test.YtelhmacfljffhabGreatPV6
import Derived.Test.YtelhmacfljffhabGreatPV8
import Derived.Test.YtelhmacfljffhabGreatPV9
import Derived.Test.YtelhmacfljffhabGreatPV12
import Derived.Test.YtelhmacfljffhabGreatPV16
import Derived.Test.YtelhmacfljffhabGreatPV17
import Derived.Test.YtelhmacfljffhabGreatPV18
import Derived.Test.YtelhmacfljffhabGreatPV19
section
namespace Go.Proofs.YtelhmacfljffhabGreat.RepC
open Go.RowKit RowC ValC SpanC KeptC NameC
set_option linter.unusedVariables false
set_option linter.unusedSimpArgs false
def PlR (need start : Int) (L : List Int) : Prop := isB start 0 1000000 = true ∧ (L.length : Int) = need ∧ NodesR L
def NoP (start : Int) (L : List Int) : Prop := start = 0 ∧ L.length = 0
def DepR (l s id ul us after : Int) : Prop := (after = 0 → ul = 0 ∧ us = 0) ∧ (after ≠ 0 → isB after 1 12 = true ∧ LabC.belowB ul us l s = true ∧ ¬ ((ul = l ∧ us = s) ∧ id ≤ after))
def Has (st : Int) (L : List Int) : Prop := st = 2 ∨ (st = 1 ∧ 0 < L.length)
def TaskR : D_Task → Prop
  | ((l, s), id, ow, need, long, prio, (ul, us), after, born, st, start, L) => LabC.rB l s = true ∧ isB id 1 12 = true ∧ nameB ow = true ∧ isB need 1 6 = true ∧ isB long 1 20 = true ∧ isB prio 0 9 = true ∧ isB born 0 999900 = true ∧ isB st 1 6 = true ∧ DepR l s id ul us after ∧ (Has st L → PlR need start L) ∧ (¬ Has st L → NoP start L)
open Classical in
noncomputable def taskB (x : D_Task) : Bool := decide (TaskR x)
open Classical in
theorem taskB_iff {x : D_Task} : taskB x = true ↔ TaskR x := by unfold taskB; simp
abbrev tLab (x : D_Task) : D_Label := x.1
abbrev tId (x : D_Task) : Int := x.2.1
abbrev tNeed (x : D_Task) : Int := x.2.2.2.1
abbrev tLong (x : D_Task) : Int := x.2.2.2.2.1
abbrev tUnder (x : D_Task) : D_Label := x.2.2.2.2.2.2.1
abbrev tAfter (x : D_Task) : Int := x.2.2.2.2.2.2.2.1
abbrev tBorn (x : D_Task) : Int := x.2.2.2.2.2.2.2.2.1
abbrev tState (x : D_Task) : Int := x.2.2.2.2.2.2.2.2.2.1
abbrev tStart (x : D_Task) : Int := x.2.2.2.2.2.2.2.2.2.2.1
abbrev tNodes (x : D_Task) : List Int := x.2.2.2.2.2.2.2.2.2.2.2
abbrev tKey (x : D_Task) : D_Label × Int := (x.1, x.2.1)
theorem TaskR.lab {x : D_Task} (h : TaskR x) : LabC.rB (tLab x).1 (tLab x).2 = true := h.1
theorem TaskR.id {x : D_Task} (h : TaskR x) : 1 ≤ tId x ∧ tId x ≤ 12 := (isB_iff _ _ _).1 h.2.1
theorem nodesR_len {L : List Int} (h : NodesR L) : L.length ≤ 6 := by
  have key : ∀ i, i < L.length → ∃ x, L[i]? = some x ∧ (i : Int) ≤ x ∧ x ≤ 5 := by
    intro i
    induction i with
    | zero =>
      intro hi
      obtain ⟨x, hx⟩ : ∃ x, L[0]? = some x := ⟨L[0], List.getElem?_eq_getElem hi⟩
      have := (isB_iff _ _ _).1 (h 0 hi x hx).1
      exact ⟨x, hx, by omega, by omega⟩
    | succ i ih =>
      intro hi
      obtain ⟨y, hy, h1, h2⟩ := ih (by omega)
      obtain ⟨x, hx⟩ : ∃ x, L[i + 1]? = some x := ⟨L[i + 1], List.getElem?_eq_getElem hi⟩
      have h3 := (isB_iff _ _ _).1 (h (i + 1) hi x hx).1
      have h4 := (h (i + 1) hi x hx).2 (by omega) y (by rw [Nat.add_sub_cancel]; exact hy)
      exact ⟨x, hx, by omega, by omega⟩
  by_cases hl : L.length ≤ 6
  · exact hl
  · obtain ⟨x, _, h1, h2⟩ := key 6 (by omega)
    omega
def ltK (a b : D_Label × Int) : Prop := ltLb a.1 b.1 ∨ (a.1 = b.1 ∧ a.2 < b.2)
theorem ltK_trans {a b c : D_Label × Int} (h1 : ltK a b) (h2 : ltK b c) : ltK a c := by
  obtain ⟨⟨a0, a1⟩, a2⟩ := a; obtain ⟨⟨b0, b1⟩, b2⟩ := b; obtain ⟨⟨c0, c1⟩, c2⟩ := c
  unfold ltK ltLb at *
  simp only [Prod.mk.injEq] at *
  omega
theorem ltK_irrefl {a : D_Label × Int} : ¬ ltK a a := by
  obtain ⟨⟨a0, a1⟩, a2⟩ := a
  unfold ltK ltLb
  simp only [Prod.mk.injEq]
  omega
def IncT (L : List D_Task) (n : Nat) : Prop := ∀ i j x y, i < j → j < n → L[i]? = some x → L[j]? = some y → ltK (tKey x) (tKey y)
theorem IncT.zero {L : List D_Task} : IncT L 0 := fun i j x y _ h => absurd h (Nat.not_lt_zero _)
theorem IncT.step {L : List D_Task} {n : Nat} {x : D_Task} (h : IncT L n) (hx : L[n]? = some x) (hl : ∀ y, 0 < n → L[n - 1]? = some y → ltK (tKey y) (tKey x)) : IncT L (n + 1) := by
  intro i j u v hij hj hu hv
  by_cases e : j = n
  · subst e
    rw [hx] at hv; cases hv
    have hj : j < L.length := (List.getElem?_eq_some_iff.1 hx).1
    obtain ⟨y, hy⟩ : ∃ y, L[j - 1]? = some y := ⟨L[j - 1], List.getElem?_eq_getElem (by omega)⟩
    have h1 := hl y (by omega) hy
    by_cases e2 : i = j - 1
    · subst e2; rw [hu] at hy; cases hy; exact h1
    · exact ltK_trans (h i (j - 1) u y (by omega) (by omega) hu hy) h1
  · exact h i j u v hij (by omega) hu hv
theorem IncT.take {L : List D_Task} {n m : Nat} (h : IncT L n) (hm : m ≤ n) (hL : m ≤ L.length) : IncT (L.take m) (L.take m).length := by
  intro i j x y hij hj hx hy
  rw [List.length_take, Nat.min_eq_left hL] at hj
  rw [List.getElem?_take, if_pos (by omega)] at hx hy
  exact h i j x y hij (by omega) hx hy
def atT (L : List D_Task) (a : D_Label × Int) : Int := match L.findIdx? (fun x => decide (tKey x = a)) with
  | some i => (i : Int)
  | none => -1
theorem atT_hit {L : List D_Task} {a : D_Label × Int} {k : Nat} {x : D_Task} (h : ∀ i y, i < k → L[i]? = some y → tKey y ≠ a) (hx : L[k]? = some x) (hk : tKey x = a) : atT L a = (k : Int) := by
  have hkl := (List.getElem?_eq_some_iff.1 hx).1
  have : L.findIdx? (fun x => decide (tKey x = a)) = some k := by
    rw [List.findIdx?_eq_some_iff_getElem]
    refine ⟨hkl, ?_, fun j hj => ?_⟩
    · have := (List.getElem?_eq_some_iff.1 hx).2
      rw [this]; simpa using hk
    · have h1 := h j _ hj (List.getElem?_eq_getElem (Nat.lt_trans hj hkl))
      simpa using h1
  unfold atT
  rw [this]
theorem atT_miss {L : List D_Task} {a : D_Label × Int} (h : ∀ i y, i < L.length → L[i]? = some y → tKey y ≠ a) : atT L a = -1 := by
  have : L.findIdx? (fun x => decide (tKey x = a)) = none := by
    rw [List.findIdx?_eq_none_iff]
    intro x hx
    obtain ⟨i, hi, rfl⟩ := List.mem_iff_getElem.1 hx
    have := h i _ hi (List.getElem?_eq_getElem hi)
    simpa using this
  unfold atT
  rw [this]
def NextT (y x : D_Task) : Prop := (tLab y = tLab x ∧ tId x = tId y + 1) ∨ (ltLb (tLab y) (tLab x) ∧ tId x = 1)
def okT (L : List D_Task) (i : Nat) (x : D_Task) : Prop := TaskR x ∧ (i = 0 → tId x = 1) ∧ (∀ y, 0 < i → L[i - 1]? = some y → NextT y x) ∧ (tAfter x ≠ 0 → 0 ≤ atT (L.take i) (tUnder x, tAfter x))
def tasTo (L : List D_Task) (k : Nat) : Prop := ∀ i x, i < k → L[i]? = some x → okT L i x
def TasksR (L : List D_Task) : Prop := L.length ≤ 96 ∧ ∀ i x, L[i]? = some x → okT L i x
open Classical in
noncomputable def tasksB (L : List D_Task) : Bool := decide (TasksR L)
open Classical in
theorem tasksB_iff {L : List D_Task} : tasksB L = true ↔ TasksR L := by unfold tasksB; simp
theorem tasTo_zero {L : List D_Task} : tasTo L 0 := fun i x h => absurd h (Nat.not_lt_zero _)
theorem tasTo_step {L : List D_Task} {k : Nat} {x : D_Task} (h : tasTo L k) (hx : L[k]? = some x) (hk : okT L k x) : tasTo L (k + 1) := fun i y hi hy => by
  rcases Nat.lt_succ_iff_lt_or_eq.1 hi with h1 | h1
  · exact h i y h1 hy
  · subst h1; rw [hx] at hy; cases hy; exact hk
theorem tasksR_all {L : List D_Task} (h1 : L.length ≤ 96) (h : tasTo L L.length) : TasksR L := ⟨h1, fun i x hx => h i x (List.getElem?_eq_some_iff.1 hx).1 hx⟩
theorem not_tasks {L : List D_Task} {k : Nat} {x : D_Task} (hx : L[k]? = some x) (h : ¬ okT L k x) : ¬ TasksR L := fun hr => h (hr.2 k x hx)
theorem nextT_lt {y x : D_Task} (h : NextT y x) : ltK (tKey y) (tKey x) := by
  rcases h with ⟨h1, h2⟩ | ⟨h1, h2⟩
  · exact .inr ⟨h1, by show tId y < tId x; omega⟩
  · exact .inl h1
theorem tasTo_inc {L : List D_Task} : ∀ {k : Nat}, tasTo L k → k ≤ L.length → IncT L k
  | 0, _, _ => IncT.zero
  | k + 1, h, hk => by
    obtain ⟨x, hx⟩ : ∃ x, L[k]? = some x := ⟨L[k], List.getElem?_eq_getElem (by omega)⟩
    exact (tasTo_inc (fun i x hi hx => h i x (by omega) hx) (by omega)).step hx fun y h0 hy => nextT_lt ((h k x (by omega) hx).2.2.1 y h0 hy)
end Go.Proofs.YtelhmacfljffhabGreat.RepC
end
section
namespace Go.Proofs.YtelhmacfljffhabGreat.RepC
open Go.RowKit RowC ValC SpanC KeptC NameC
set_option linter.unusedVariables false
set_option linter.unusedSimpArgs false
theorem isS_at (n lo hi : Int) {b : Bool} (hb : isB n lo hi = b) (w : World) :
    Calls Tryz.prog 53 #[.int .i64 n, .int .i64 lo, .int .i64 hi] w fun e w' => e = .returned (.bool b) ∧ w = w' := by
  subst hb
  exact is_spec n lo hi w
theorem timeS_at (n : Int) {b : Bool} (hb : isB n 0 1000000 = b) (w : World) :
    Calls Tryz.prog 98 #[.int .i64 n] w fun e w' => e = .returned (.bool b) ∧ w = w' := by
  subst hb
  exact time_spec n w
theorem nowS_at (n : Int) {b : Bool} (hb : isB n 0 999900 = b) (w : World) :
    Calls Tryz.prog 43 #[.int .i64 n] w fun e w' => e = .returned (.bool b) ∧ w = w' := by
  subst hb
  go_enter Tryz.func43, Tryz.ntmps43
  go_wp2_with (go_at_call 53; refine (is_spec _ _ _ _).mono ?_; rintro e w' ⟨rfl, rfl⟩)
  go_ret
  exact ⟨rfl, rfl⟩
theorem res_nameX {s : ByteArray} {w w' : World} {e : Ending} (h : NameC.Res (NameP s) w e w') : e = .returned (.bool (nameB s)) ∧ w = w' := by
  obtain ⟨b, rfl, hb, rfl⟩ := h
  have : b = nameB s := by
    cases b <;> cases hn : nameB s
    · rfl
    · exact absurd (hb.2 (nameB_iff.1 hn)) (by decide)
    · exact absurd (nameB_iff.2 (hb.1 rfl)) (by rw [hn]; decide)
    · rfl
  exact ⟨by rw [this], rfl⟩
theorem nameS_at {s : ByteArray} {b : Bool} (hs : s.size ≤ maxLen) (hb : nameB s = b) (w : World) : Calls Tryz.prog 91 #[.string s] w fun e w' => e = .returned (.bool b) ∧ w = w' := by
  subst hb
  exact (spec_any s w hs).mono fun _ _ h => res_nameX h
theorem nameI_at {s : ByteArray} {b : Bool} (hs : s.size ≤ maxLen) (hb : nameB s = b) (w : World) : Calls Tryz.prog 114 #[.string s] w fun e w' => e = .returned (.bool b) ∧ w = w' := by
  subst hb
  exact (impl_any s w hs).mono fun _ _ h => res_nameX h
theorem labS_at (l s : Int) {b : Bool} (hb : LabC.rB l s = b) (w : World) :
    Calls Tryz.prog 15 #[.agg #[.int .i64 l, .int .i64 s]] w fun e w' => e = .returned (.bool b) ∧ Below w.heap.size w w' := by
  subst hb
  exact (LabC.right_spec l s w).mono fun _ _ ⟨h1, h2⟩ => ⟨h1, by rw [← h2]; exact (Below.refl _ _).alloc (Nat.le_refl _) _⟩
theorem belS_at (l s m t : Int) {b : Bool} (hb : LabC.belowB l s m t = b) (w : World) :
    Calls Tryz.prog 97 #[.agg #[.int .i64 l, .int .i64 s], .agg #[.int .i64 m, .int .i64 t]] w fun e w' => e = .returned (.bool b) ∧ Below w.heap.size w w' := by
  subst hb
  exact LabC.below_spec l s m t w
theorem belI_at (l s m t : Int) {b : Bool} (hb : LabC.belowB l s m t = b) (w : World) :
    Calls Tryz.prog 29 #[.agg #[.int .i64 l, .int .i64 s], .agg #[.int .i64 m, .int .i64 t]] w fun e w' => e = .returned (.bool b) ∧ Below w.heap.size w w' := by
  subst hb
  exact LabC.below_impl l s m t w
set_option maxRecDepth 100000 in
set_option maxHeartbeats 6400000 in
theorem taskP_spec {x0 x1 x2 : Int} {x3 : ByteArray} {x4 x5 x6 x7 x8 x9 x10 x11 x12 : Int} {L : List Int} {a : Option Addr} {c : Nat} {W : World} (b_x3 : x3.size ≤ maxLen) (h : RdSl I W W.heap.size L a c) : Calls Tryz.prog 55 #[.agg #[.int .i64 x0, .int .i64 x1, .int .i64 x2, .string x3, .int .i64 x4, .int .i64 x5, .int .i64 x6, .int .i64 x7, .int .i64 x8, .int .i64 x9, .int .i64 x10, .int .i64 x11, .int .i64 x12, .slice a L.length c]] W (ResB (TaskR ((x0, x1), x2, x3, x4, x5, x6, (x7, x8), x9, x10, x11, x12, L)) W) := by
  have hn : L.length ≤ 9223372036854775807 := by have h1 := h.1; have h2 := h.2.1; unfold maxLen at h2; omega
  have H := Lib.hid h
  clear h
  have HX3 := Lib.hid b_x3
  unfold maxLen at b_x3
  obtain ⟨b0, h0⟩ : ∃ b, LabC.rB x0 x1 = b := ⟨_, rfl⟩
  have H0 := Lib.hid h0
  clear h0
  obtain ⟨b1, h1⟩ : ∃ b, isB x2 1 12 = b := ⟨_, rfl⟩
  have H1 := Lib.hid h1
  clear h1
  obtain ⟨b2, h2⟩ : ∃ b, nameB x3 = b := ⟨_, rfl⟩
  have H2 := Lib.hid h2
  clear h2
  obtain ⟨b3, h3⟩ : ∃ b, isB x4 1 6 = b := ⟨_, rfl⟩
  have H3 := Lib.hid h3
  clear h3
  obtain ⟨b4, h4⟩ : ∃ b, isB x5 1 20 = b := ⟨_, rfl⟩
  have H4 := Lib.hid h4
  clear h4
  obtain ⟨b5, h5⟩ : ∃ b, isB x6 0 9 = b := ⟨_, rfl⟩
  have H5 := Lib.hid h5
  clear h5
  obtain ⟨b6, h6⟩ : ∃ b, isB x10 0 999900 = b := ⟨_, rfl⟩
  have H6 := Lib.hid h6
  clear h6
  obtain ⟨b7, h7⟩ : ∃ b, isB x11 1 6 = b := ⟨_, rfl⟩
  have H7 := Lib.hid h7
  clear h7
  obtain ⟨b8, h8⟩ : ∃ b, isB x9 1 12 = b := ⟨_, rfl⟩
  have H8 := Lib.hid h8
  clear h8
  obtain ⟨b9, h9⟩ : ∃ b, LabC.belowB x7 x8 x0 x1 = b := ⟨_, rfl⟩
  have HBB := Lib.hid h9
  clear h9
  obtain ⟨b10, h10⟩ : ∃ b, isB x12 0 1000000 = b := ⟨_, rfl⟩
  have H10 := Lib.hid h10
  clear h10
  have HB0 := Lib.hid (show Below W.heap.size W (W.alloc (.cells #[.int .i64 x0, .int .i64 x1, .int .i64 x2, .string x3, .int .i64 x4, .int .i64 x5, .int .i64 x6, .int .i64 x7, .int .i64 x8, .int .i64 x9, .int .i64 x10, .int .i64 x11, .int .i64 x12, .slice a L.length c] 66)) from (Below.refl _ _).alloc (Nat.le_refl _) _)
  have HP0 := Lib.hid (Blk.new W 66 #[.int .i64 x0, .int .i64 x1, .int .i64 x2, .string x3, .int .i64 x4, .int .i64 x5, .int .i64 x6, .int .i64 x7, .int .i64 x8, .int .i64 x9, .int .i64 x10, .int .i64 x11, .int .i64 x12, .slice a L.length c])
  have hz0 : W.heap.size ≤ (W.alloc (.cells #[.int .i64 x0, .int .i64 x1, .int .i64 x2, .string x3, .int .i64 x4, .int .i64 x5, .int .i64 x6, .int .i64 x7, .int .i64 x8, .int .i64 x9, .int .i64 x10, .int .i64 x11, .int .i64 x12, .slice a L.length c] 66)).heap.size := HB0.out.size
  go_enter Tryz.func55, Tryz.ntmps55
  go_wp2_with fail
  refine (labS_at x0 x1 H0.out _).mono ?_
  rintro e w1 ⟨rfl, hb⟩
  have HP1 := Lib.hid (HP0.out.call hb)
  have HB1 := Lib.hid (HB0.out.trans (hb.mono hz0))
  have hz1 : W.heap.size ≤ w1.heap.size := HB1.out.size
  clear hb
  have p0 := HP1.out.at_ 0 rfl
  have p1 := HP1.out.at_ 1 rfl
  have p2 := HP1.out.at_ 2 rfl
  have p3 := HP1.out.at_ 3 rfl
  have p4 := HP1.out.at_ 4 rfl
  have p5 := HP1.out.at_ 5 rfl
  have p6 := HP1.out.at_ 6 rfl
  have p7 := HP1.out.at_ 7 rfl
  have p8 := HP1.out.at_ 8 rfl
  have p9 := HP1.out.at_ 9 rfl
  have p10 := HP1.out.at_ 10 rfl
  have p11 := HP1.out.at_ 11 rfl
  have p12 := HP1.out.at_ 12 rfl
  have p13 := HP1.out.at_ 13 rfl
  clear HP0 HB0
  cases b0 with
  | false =>
    have HV := Lib.hid (show ¬ TaskR ((x0, x1), x2, x3, x4, x5, x6, (x7, x8), x9, x10, x11, x12, L) from fun h => by have h2 := h.1; rw [H0.out] at h2; cases h2)
    go_wp2
    go_ret
    exact resB_no HV.out HB1.out
  | true =>
    go_wp2_with fail
    refine (isS_at _ _ _ H1.out _).mono ?_
    rintro e w2 ⟨rfl, rfl⟩
    cases b1 with
    | false =>
      have HV := Lib.hid (show ¬ TaskR ((x0, x1), x2, x3, x4, x5, x6, (x7, x8), x9, x10, x11, x12, L) from fun h => by have h2 := h.2.1; rw [H1.out] at h2; cases h2)
      go_wp2
      go_ret
      exact resB_no HV.out HB1.out
    | true =>
      go_wp2_with fail
      refine (nameS_at HX3.out H2.out _).mono ?_
      rintro e w2 ⟨rfl, rfl⟩
      cases b2 with
      | false =>
        have HV := Lib.hid (show ¬ TaskR ((x0, x1), x2, x3, x4, x5, x6, (x7, x8), x9, x10, x11, x12, L) from fun h => by have h2 := h.2.2.1; rw [H2.out] at h2; cases h2)
        go_wp2
        go_ret
        exact resB_no HV.out HB1.out
      | true =>
        go_wp2_with fail
        refine (isS_at _ _ _ H3.out _).mono ?_
        rintro e w2 ⟨rfl, rfl⟩
        cases b3 with
        | false =>
          have HV := Lib.hid (show ¬ TaskR ((x0, x1), x2, x3, x4, x5, x6, (x7, x8), x9, x10, x11, x12, L) from fun h => by have h2 := h.2.2.2.1; rw [H3.out] at h2; cases h2)
          go_wp2
          go_ret
          exact resB_no HV.out HB1.out
        | true =>
          go_wp2_with fail
          refine (isS_at _ _ _ H4.out _).mono ?_
          rintro e w2 ⟨rfl, rfl⟩
          cases b4 with
          | false =>
            have HV := Lib.hid (show ¬ TaskR ((x0, x1), x2, x3, x4, x5, x6, (x7, x8), x9, x10, x11, x12, L) from fun h => by have h2 := h.2.2.2.2.1; rw [H4.out] at h2; cases h2)
            go_wp2
            go_ret
            exact resB_no HV.out HB1.out
          | true =>
            go_wp2_with fail
            refine (isS_at _ _ _ H5.out _).mono ?_
            rintro e w2 ⟨rfl, rfl⟩
            cases b5 with
            | false =>
              have HV := Lib.hid (show ¬ TaskR ((x0, x1), x2, x3, x4, x5, x6, (x7, x8), x9, x10, x11, x12, L) from fun h => by have h2 := h.2.2.2.2.2.1; rw [H5.out] at h2; cases h2)
              go_wp2
              go_ret
              exact resB_no HV.out HB1.out
            | true =>
              go_wp2_with fail
              refine (nowS_at _ H6.out _).mono ?_
              rintro e w2 ⟨rfl, rfl⟩
              cases b6 with
              | false =>
                have HV := Lib.hid (show ¬ TaskR ((x0, x1), x2, x3, x4, x5, x6, (x7, x8), x9, x10, x11, x12, L) from fun h => by have h2 := h.2.2.2.2.2.2.1; rw [H6.out] at h2; cases h2)
                go_wp2
                go_ret
                exact resB_no HV.out HB1.out
              | true =>
                go_wp2_with fail
                refine (isS_at _ _ _ H7.out _).mono ?_
                rintro e w2 ⟨rfl, rfl⟩
                cases b7 with
                | false =>
                  have HV := Lib.hid (show ¬ TaskR ((x0, x1), x2, x3, x4, x5, x6, (x7, x8), x9, x10, x11, x12, L) from fun h => by have h2 := h.2.2.2.2.2.2.2.1; rw [H7.out] at h2; cases h2)
                  go_wp2
                  go_ret
                  exact resB_no HV.out HB1.out
                | true =>
                  by_cases h9 : x9 = 0
                  · have h9' : (x9 == 0) = true := beq_iff_eq.2 h9
                    have h9n : (x9 != 0) = false := by simp [h9]
                    obtain ⟨q, hq⟩ : ∃ q, decide (((x7, x8) : Int × Int) = (0, 0)) = q := ⟨_, rfl⟩
                    have hqq := neq_lab x7 x8 0 0 q hq
                    have HQ := Lib.hid hq
                    have H9 := Lib.hid h9
                    clear hq h9
                    cases q with
                    | false =>
                      have HV := Lib.hid (show ¬ TaskR ((x0, x1), x2, x3, x4, x5, x6, (x7, x8), x9, x10, x11, x12, L) from fun h => by have h2 := h.2.2.2.2.2.2.2.2.1.1 H9.out; exact of_decide_eq_false HQ.out (by rw [h2.1, h2.2]))
                      go_wp2
                      go_ret
                      exact resB_no HV.out HB1.out
                    | true =>
                      have HD := Lib.hid (show DepR x0 x1 x2 x7 x8 x9 from ⟨fun _ => by have h2 := of_decide_eq_true HQ.out; simpa using h2, fun h => absurd H9.out h⟩)
                      by_cases h2 : x11 = 2
                      · have h2' : (x11 == 2) = true := beq_iff_eq.2 h2
                        have HS := Lib.hid (show Has x11 L from Or.inl h2)
                        go_wp2_with fail
                        refine (timeS_at _ H10.out _).mono ?_
                        rintro e w9 ⟨rfl, rfl⟩
                        cases b10 with
                        | false =>
                          have HV := Lib.hid (show ¬ TaskR ((x0, x1), x2, x3, x4, x5, x6, (x7, x8), x9, x10, x11, x12, L) from fun h => by have h2 := (h.2.2.2.2.2.2.2.2.2.1 HS.out).1; rw [H10.out] at h2; cases h2)
                          go_wp2
                          go_ret
                          exact resB_no HV.out HB1.out
                        | true =>
                          by_cases hl : (L.length : Int) = x4
                          · have hl' : ((L.length : Int) == x4) = true := beq_iff_eq.2 hl
                            have HL := Lib.hid hl
                            clear hl
                            go_wp2_with fail
                            refine (nodes_spec ((H.out.below I_ok HB1.out).more I_ok hz1)).mono ?_
                            intro e w3 h
                            obtain ⟨b, rfl, hb, hw⟩ := resB_elim h
                            have HB := Lib.hid (HB1.out.trans (hw.mono hz1))
                            have HV := Lib.hid (show (b = true ↔ TaskR ((x0, x1), x2, x3, x4, x5, x6, (x7, x8), x9, x10, x11, x12, L)) from hb.trans ⟨fun hN => ⟨H0.out, H1.out, H2.out, H3.out, H4.out, H5.out, H6.out, H7.out, HD.out, fun _ => ⟨H10.out, HL.out, hN⟩, fun h => absurd HS.out h⟩, fun h => (h.2.2.2.2.2.2.2.2.2.1 HS.out).2.2⟩)
                            clear h hb hw
                            go_wp2
                            go_ret
                            exact ⟨b, rfl, HV.out, HB.out⟩
                          · have hl' : ((L.length : Int) == x4) = false := beq_eq_false_iff_ne.2 hl
                            have HV := Lib.hid (show ¬ TaskR ((x0, x1), x2, x3, x4, x5, x6, (x7, x8), x9, x10, x11, x12, L) from fun h => hl (h.2.2.2.2.2.2.2.2.2.1 HS.out).2.1)
                            go_wp2
                            go_ret
                            exact resB_no HV.out HB1.out
                      · have h2' : (x11 == 2) = false := beq_eq_false_iff_ne.2 h2
                        by_cases h1 : x11 = 1
                        · have h1' : (x11 == 1) = true := beq_iff_eq.2 h1
                          by_cases hp : 0 < L.length
                          · have hp' : decide ((0 : Int) < (L.length : Int)) = true := decide_eq_true (by omega)
                            have HS := Lib.hid (show Has x11 L from Or.inr ⟨h1, hp⟩)
                            go_wp2_with fail
                            refine (timeS_at _ H10.out _).mono ?_
                            rintro e w9 ⟨rfl, rfl⟩
                            cases b10 with
                            | false =>
                              have HV := Lib.hid (show ¬ TaskR ((x0, x1), x2, x3, x4, x5, x6, (x7, x8), x9, x10, x11, x12, L) from fun h => by have h2 := (h.2.2.2.2.2.2.2.2.2.1 HS.out).1; rw [H10.out] at h2; cases h2)
                              go_wp2
                              go_ret
                              exact resB_no HV.out HB1.out
                            | true =>
                              by_cases hl : (L.length : Int) = x4
                              · have hl' : ((L.length : Int) == x4) = true := beq_iff_eq.2 hl
                                have HL := Lib.hid hl
                                clear hl
                                go_wp2_with fail
                                refine (nodes_spec ((H.out.below I_ok HB1.out).more I_ok hz1)).mono ?_
                                intro e w3 h
                                obtain ⟨b, rfl, hb, hw⟩ := resB_elim h
                                have HB := Lib.hid (HB1.out.trans (hw.mono hz1))
                                have HV := Lib.hid (show (b = true ↔ TaskR ((x0, x1), x2, x3, x4, x5, x6, (x7, x8), x9, x10, x11, x12, L)) from hb.trans ⟨fun hN => ⟨H0.out, H1.out, H2.out, H3.out, H4.out, H5.out, H6.out, H7.out, HD.out, fun _ => ⟨H10.out, HL.out, hN⟩, fun h => absurd HS.out h⟩, fun h => (h.2.2.2.2.2.2.2.2.2.1 HS.out).2.2⟩)
                                clear h hb hw
                                go_wp2
                                go_ret
                                exact ⟨b, rfl, HV.out, HB.out⟩
                              · have hl' : ((L.length : Int) == x4) = false := beq_eq_false_iff_ne.2 hl
                                have HV := Lib.hid (show ¬ TaskR ((x0, x1), x2, x3, x4, x5, x6, (x7, x8), x9, x10, x11, x12, L) from fun h => hl (h.2.2.2.2.2.2.2.2.2.1 HS.out).2.1)
                                go_wp2
                                go_ret
                                exact resB_no HV.out HB1.out
                          · have hp' : decide ((0 : Int) < (L.length : Int)) = false := decide_eq_false (by omega)
                            have HS := Lib.hid (show ¬ Has x11 L from fun h => h.elim h2 (fun h => hp h.2))
                            by_cases h7 : x12 = 0
                            · have h7' : (x12 == 0) = true := beq_iff_eq.2 h7
                              have H12 := Lib.hid h7
                              clear h7
                              obtain rfl : L = [] := List.eq_nil_of_length_eq_zero (by omega)
                              clear hp hp' hn
                              have HV := Lib.hid (show TaskR ((x0, x1), x2, x3, x4, x5, x6, (x7, x8), x9, x10, x11, x12, []) from ⟨H0.out, H1.out, H2.out, H3.out, H4.out, H5.out, H6.out, H7.out, HD.out, fun h => absurd h HS.out, fun _ => ⟨H12.out, rfl⟩⟩)
                              go_wp2
                              go_ret
                              exact resB_yes HV.out HB1.out
                            · have h7' : (x12 == 0) = false := beq_eq_false_iff_ne.2 h7
                              have HV := Lib.hid (show ¬ TaskR ((x0, x1), x2, x3, x4, x5, x6, (x7, x8), x9, x10, x11, x12, L) from fun h => h7 (h.2.2.2.2.2.2.2.2.2.2 HS.out).1)
                              go_wp2
                              go_ret
                              exact resB_no HV.out HB1.out
                        · have h1' : (x11 == 1) = false := beq_eq_false_iff_ne.2 h1
                          have HS := Lib.hid (show ¬ Has x11 L from fun h => h.elim h2 (fun h => h1 h.1))
                          by_cases h7 : x12 = 0
                          · have h7' : (x12 == 0) = true := beq_iff_eq.2 h7
                            have H12 := Lib.hid h7
                            clear h7
                            by_cases hl : L.length = 0
                            · have hl' : ((L.length : Int) == 0) = true := beq_iff_eq.2 (by omega)
                              have HL := Lib.hid hl
                              clear hl
                              have HV := Lib.hid (show TaskR ((x0, x1), x2, x3, x4, x5, x6, (x7, x8), x9, x10, x11, x12, L) from ⟨H0.out, H1.out, H2.out, H3.out, H4.out, H5.out, H6.out, H7.out, HD.out, fun h => absurd h HS.out, fun _ => ⟨H12.out, HL.out⟩⟩)
                              go_wp2
                              go_ret
                              exact resB_yes HV.out HB1.out
                            · have hl' : ((L.length : Int) == 0) = false := beq_eq_false_iff_ne.2 (by omega)
                              have HV := Lib.hid (show ¬ TaskR ((x0, x1), x2, x3, x4, x5, x6, (x7, x8), x9, x10, x11, x12, L) from fun h => hl (h.2.2.2.2.2.2.2.2.2.2 HS.out).2)
                              go_wp2
                              go_ret
                              exact resB_no HV.out HB1.out
                          · have h7' : (x12 == 0) = false := beq_eq_false_iff_ne.2 h7
                            have HV := Lib.hid (show ¬ TaskR ((x0, x1), x2, x3, x4, x5, x6, (x7, x8), x9, x10, x11, x12, L) from fun h => h7 (h.2.2.2.2.2.2.2.2.2.2 HS.out).1)
                            go_wp2
                            go_ret
                            exact resB_no HV.out HB1.out
                  · have h9' : (x9 == 0) = false := beq_eq_false_iff_ne.2 h9
                    have h9n : (x9 != 0) = true := by simp [h9]
                    have H9 := Lib.hid h9
                    clear h9
                    go_wp2_with fail
                    refine (isS_at _ _ _ H8.out _).mono ?_
                    rintro e w2 ⟨rfl, rfl⟩
                    cases b8 with
                    | false =>
                      have HV := Lib.hid (show ¬ TaskR ((x0, x1), x2, x3, x4, x5, x6, (x7, x8), x9, x10, x11, x12, L) from fun h => by have h2 := (h.2.2.2.2.2.2.2.2.1.2 H9.out).1; rw [H8.out] at h2; cases h2)
                      go_wp2
                      go_ret
                      exact resB_no HV.out HB1.out
                    | true =>
                      go_wp2_with fail
                      refine (belS_at _ _ _ _ HBB.out _).mono ?_
                      rintro e w2 ⟨rfl, hb⟩
                      have HP2 := Lib.hid (HP1.out.call hb)
                      have HB2 := Lib.hid (HB1.out.trans (hb.mono hz1))
                      have hz2 : W.heap.size ≤ w2.heap.size := HB2.out.size
                      clear hb
                      clear p0 p1 p2 p3 p4 p5 p6 p7 p8 p9 p10 p11 p12 p13
                      have p0 := HP2.out.at_ 0 rfl
                      have p1 := HP2.out.at_ 1 rfl
                      have p2 := HP2.out.at_ 2 rfl
                      have p3 := HP2.out.at_ 3 rfl
                      have p4 := HP2.out.at_ 4 rfl
                      have p5 := HP2.out.at_ 5 rfl
                      have p6 := HP2.out.at_ 6 rfl
                      have p7 := HP2.out.at_ 7 rfl
                      have p8 := HP2.out.at_ 8 rfl
                      have p9 := HP2.out.at_ 9 rfl
                      have p10 := HP2.out.at_ 10 rfl
                      have p11 := HP2.out.at_ 11 rfl
                      have p12 := HP2.out.at_ 12 rfl
                      have p13 := HP2.out.at_ 13 rfl
                      cases b9 with
                      | false =>
                        have HV := Lib.hid (show ¬ TaskR ((x0, x1), x2, x3, x4, x5, x6, (x7, x8), x9, x10, x11, x12, L) from fun h => by have h2 := (h.2.2.2.2.2.2.2.2.1.2 H9.out).2.1; rw [HBB.out] at h2; cases h2)
                        go_wp2
                        go_ret
                        exact resB_no HV.out HB2.out
                      | true =>
                        obtain ⟨q, hq⟩ : ∃ q, decide (((x7, x8) : Int × Int) = (x0, x1)) = q := ⟨_, rfl⟩
                        have hqq := eql_lab x7 x8 x0 x1 q hq
                        have HQ := Lib.hid hq
                        clear hq
                        cases q with
                        | false =>
                          have HD := Lib.hid (show DepR x0 x1 x2 x7 x8 x9 from ⟨fun h => absurd h H9.out, fun _ => ⟨H8.out, HBB.out, fun h => of_decide_eq_false HQ.out (by rw [h.1.1, h.1.2])⟩⟩)
                          by_cases h2 : x11 = 2
                          · have h2' : (x11 == 2) = true := beq_iff_eq.2 h2
                            have HS := Lib.hid (show Has x11 L from Or.inl h2)
                            go_wp2_with fail
                            refine (timeS_at _ H10.out _).mono ?_
                            rintro e w9 ⟨rfl, rfl⟩
                            cases b10 with
                            | false =>
                              have HV := Lib.hid (show ¬ TaskR ((x0, x1), x2, x3, x4, x5, x6, (x7, x8), x9, x10, x11, x12, L) from fun h => by have h2 := (h.2.2.2.2.2.2.2.2.2.1 HS.out).1; rw [H10.out] at h2; cases h2)
                              go_wp2
                              go_ret
                              exact resB_no HV.out HB2.out
                            | true =>
                              by_cases hl : (L.length : Int) = x4
                              · have hl' : ((L.length : Int) == x4) = true := beq_iff_eq.2 hl
                                have HL := Lib.hid hl
                                clear hl
                                go_wp2_with fail
                                refine (nodes_spec ((H.out.below I_ok HB2.out).more I_ok hz2)).mono ?_
                                intro e w3 h
                                obtain ⟨b, rfl, hb, hw⟩ := resB_elim h
                                have HB := Lib.hid (HB2.out.trans (hw.mono hz2))
                                have HV := Lib.hid (show (b = true ↔ TaskR ((x0, x1), x2, x3, x4, x5, x6, (x7, x8), x9, x10, x11, x12, L)) from hb.trans ⟨fun hN => ⟨H0.out, H1.out, H2.out, H3.out, H4.out, H5.out, H6.out, H7.out, HD.out, fun _ => ⟨H10.out, HL.out, hN⟩, fun h => absurd HS.out h⟩, fun h => (h.2.2.2.2.2.2.2.2.2.1 HS.out).2.2⟩)
                                clear h hb hw
                                go_wp2
                                go_ret
                                exact ⟨b, rfl, HV.out, HB.out⟩
                              · have hl' : ((L.length : Int) == x4) = false := beq_eq_false_iff_ne.2 hl
                                have HV := Lib.hid (show ¬ TaskR ((x0, x1), x2, x3, x4, x5, x6, (x7, x8), x9, x10, x11, x12, L) from fun h => hl (h.2.2.2.2.2.2.2.2.2.1 HS.out).2.1)
                                go_wp2
                                go_ret
                                exact resB_no HV.out HB2.out
                          · have h2' : (x11 == 2) = false := beq_eq_false_iff_ne.2 h2
                            by_cases h1 : x11 = 1
                            · have h1' : (x11 == 1) = true := beq_iff_eq.2 h1
                              by_cases hp : 0 < L.length
                              · have hp' : decide ((0 : Int) < (L.length : Int)) = true := decide_eq_true (by omega)
                                have HS := Lib.hid (show Has x11 L from Or.inr ⟨h1, hp⟩)
                                go_wp2_with fail
                                refine (timeS_at _ H10.out _).mono ?_
                                rintro e w9 ⟨rfl, rfl⟩
                                cases b10 with
                                | false =>
                                  have HV := Lib.hid (show ¬ TaskR ((x0, x1), x2, x3, x4, x5, x6, (x7, x8), x9, x10, x11, x12, L) from fun h => by have h2 := (h.2.2.2.2.2.2.2.2.2.1 HS.out).1; rw [H10.out] at h2; cases h2)
                                  go_wp2
                                  go_ret
                                  exact resB_no HV.out HB2.out
                                | true =>
                                  by_cases hl : (L.length : Int) = x4
                                  · have hl' : ((L.length : Int) == x4) = true := beq_iff_eq.2 hl
                                    have HL := Lib.hid hl
                                    clear hl
                                    go_wp2_with fail
                                    refine (nodes_spec ((H.out.below I_ok HB2.out).more I_ok hz2)).mono ?_
                                    intro e w3 h
                                    obtain ⟨b, rfl, hb, hw⟩ := resB_elim h
                                    have HB := Lib.hid (HB2.out.trans (hw.mono hz2))
                                    have HV := Lib.hid (show (b = true ↔ TaskR ((x0, x1), x2, x3, x4, x5, x6, (x7, x8), x9, x10, x11, x12, L)) from hb.trans ⟨fun hN => ⟨H0.out, H1.out, H2.out, H3.out, H4.out, H5.out, H6.out, H7.out, HD.out, fun _ => ⟨H10.out, HL.out, hN⟩, fun h => absurd HS.out h⟩, fun h => (h.2.2.2.2.2.2.2.2.2.1 HS.out).2.2⟩)
                                    clear h hb hw
                                    go_wp2
                                    go_ret
                                    exact ⟨b, rfl, HV.out, HB.out⟩
                                  · have hl' : ((L.length : Int) == x4) = false := beq_eq_false_iff_ne.2 hl
                                    have HV := Lib.hid (show ¬ TaskR ((x0, x1), x2, x3, x4, x5, x6, (x7, x8), x9, x10, x11, x12, L) from fun h => hl (h.2.2.2.2.2.2.2.2.2.1 HS.out).2.1)
                                    go_wp2
                                    go_ret
                                    exact resB_no HV.out HB2.out
                              · have hp' : decide ((0 : Int) < (L.length : Int)) = false := decide_eq_false (by omega)
                                have HS := Lib.hid (show ¬ Has x11 L from fun h => h.elim h2 (fun h => hp h.2))
                                by_cases h7 : x12 = 0
                                · have h7' : (x12 == 0) = true := beq_iff_eq.2 h7
                                  have H12 := Lib.hid h7
                                  clear h7
                                  obtain rfl : L = [] := List.eq_nil_of_length_eq_zero (by omega)
                                  clear hp hp' hn
                                  have HV := Lib.hid (show TaskR ((x0, x1), x2, x3, x4, x5, x6, (x7, x8), x9, x10, x11, x12, []) from ⟨H0.out, H1.out, H2.out, H3.out, H4.out, H5.out, H6.out, H7.out, HD.out, fun h => absurd h HS.out, fun _ => ⟨H12.out, rfl⟩⟩)
                                  go_wp2
                                  go_ret
                                  exact resB_yes HV.out HB2.out
                                · have h7' : (x12 == 0) = false := beq_eq_false_iff_ne.2 h7
                                  have HV := Lib.hid (show ¬ TaskR ((x0, x1), x2, x3, x4, x5, x6, (x7, x8), x9, x10, x11, x12, L) from fun h => h7 (h.2.2.2.2.2.2.2.2.2.2 HS.out).1)
                                  go_wp2
                                  go_ret
                                  exact resB_no HV.out HB2.out
                            · have h1' : (x11 == 1) = false := beq_eq_false_iff_ne.2 h1
                              have HS := Lib.hid (show ¬ Has x11 L from fun h => h.elim h2 (fun h => h1 h.1))
                              by_cases h7 : x12 = 0
                              · have h7' : (x12 == 0) = true := beq_iff_eq.2 h7
                                have H12 := Lib.hid h7
                                clear h7
                                by_cases hl : L.length = 0
                                · have hl' : ((L.length : Int) == 0) = true := beq_iff_eq.2 (by omega)
                                  have HL := Lib.hid hl
                                  clear hl
                                  have HV := Lib.hid (show TaskR ((x0, x1), x2, x3, x4, x5, x6, (x7, x8), x9, x10, x11, x12, L) from ⟨H0.out, H1.out, H2.out, H3.out, H4.out, H5.out, H6.out, H7.out, HD.out, fun h => absurd h HS.out, fun _ => ⟨H12.out, HL.out⟩⟩)
                                  go_wp2
                                  go_ret
                                  exact resB_yes HV.out HB2.out
                                · have hl' : ((L.length : Int) == 0) = false := beq_eq_false_iff_ne.2 (by omega)
                                  have HV := Lib.hid (show ¬ TaskR ((x0, x1), x2, x3, x4, x5, x6, (x7, x8), x9, x10, x11, x12, L) from fun h => hl (h.2.2.2.2.2.2.2.2.2.2 HS.out).2)
                                  go_wp2
                                  go_ret
                                  exact resB_no HV.out HB2.out
                              · have h7' : (x12 == 0) = false := beq_eq_false_iff_ne.2 h7
                                have HV := Lib.hid (show ¬ TaskR ((x0, x1), x2, x3, x4, x5, x6, (x7, x8), x9, x10, x11, x12, L) from fun h => h7 (h.2.2.2.2.2.2.2.2.2.2 HS.out).1)
                                go_wp2
                                go_ret
                                exact resB_no HV.out HB2.out
                        | true =>
                          by_cases hle : x2 ≤ x9
                          · have hle' : decide (x2 ≤ x9) = true := decide_eq_true hle
                            have HV := Lib.hid (show ¬ TaskR ((x0, x1), x2, x3, x4, x5, x6, (x7, x8), x9, x10, x11, x12, L) from fun h => (h.2.2.2.2.2.2.2.2.1.2 H9.out).2.2 ⟨by have h2 := of_decide_eq_true HQ.out; simpa using h2, hle⟩)
                            go_wp2
                            go_ret
                            exact resB_no HV.out HB2.out
                          · have hle' : decide (x2 ≤ x9) = false := decide_eq_false hle
                            have HD := Lib.hid (show DepR x0 x1 x2 x7 x8 x9 from ⟨fun h => absurd h H9.out, fun _ => ⟨H8.out, HBB.out, fun h => hle h.2⟩⟩)
                            by_cases h2 : x11 = 2
                            · have h2' : (x11 == 2) = true := beq_iff_eq.2 h2
                              have HS := Lib.hid (show Has x11 L from Or.inl h2)
                              go_wp2_with fail
                              refine (timeS_at _ H10.out _).mono ?_
                              rintro e w9 ⟨rfl, rfl⟩
                              cases b10 with
                              | false =>
                                have HV := Lib.hid (show ¬ TaskR ((x0, x1), x2, x3, x4, x5, x6, (x7, x8), x9, x10, x11, x12, L) from fun h => by have h2 := (h.2.2.2.2.2.2.2.2.2.1 HS.out).1; rw [H10.out] at h2; cases h2)
                                go_wp2
                                go_ret
                                exact resB_no HV.out HB2.out
                              | true =>
                                by_cases hl : (L.length : Int) = x4
                                · have hl' : ((L.length : Int) == x4) = true := beq_iff_eq.2 hl
                                  have HL := Lib.hid hl
                                  clear hl
                                  go_wp2_with fail
                                  refine (nodes_spec ((H.out.below I_ok HB2.out).more I_ok hz2)).mono ?_
                                  intro e w3 h
                                  obtain ⟨b, rfl, hb, hw⟩ := resB_elim h
                                  have HB := Lib.hid (HB2.out.trans (hw.mono hz2))
                                  have HV := Lib.hid (show (b = true ↔ TaskR ((x0, x1), x2, x3, x4, x5, x6, (x7, x8), x9, x10, x11, x12, L)) from hb.trans ⟨fun hN => ⟨H0.out, H1.out, H2.out, H3.out, H4.out, H5.out, H6.out, H7.out, HD.out, fun _ => ⟨H10.out, HL.out, hN⟩, fun h => absurd HS.out h⟩, fun h => (h.2.2.2.2.2.2.2.2.2.1 HS.out).2.2⟩)
                                  clear h hb hw
                                  go_wp2
                                  go_ret
                                  exact ⟨b, rfl, HV.out, HB.out⟩
                                · have hl' : ((L.length : Int) == x4) = false := beq_eq_false_iff_ne.2 hl
                                  have HV := Lib.hid (show ¬ TaskR ((x0, x1), x2, x3, x4, x5, x6, (x7, x8), x9, x10, x11, x12, L) from fun h => hl (h.2.2.2.2.2.2.2.2.2.1 HS.out).2.1)
                                  go_wp2
                                  go_ret
                                  exact resB_no HV.out HB2.out
                            · have h2' : (x11 == 2) = false := beq_eq_false_iff_ne.2 h2
                              by_cases h1 : x11 = 1
                              · have h1' : (x11 == 1) = true := beq_iff_eq.2 h1
                                by_cases hp : 0 < L.length
                                · have hp' : decide ((0 : Int) < (L.length : Int)) = true := decide_eq_true (by omega)
                                  have HS := Lib.hid (show Has x11 L from Or.inr ⟨h1, hp⟩)
                                  go_wp2_with fail
                                  refine (timeS_at _ H10.out _).mono ?_
                                  rintro e w9 ⟨rfl, rfl⟩
                                  cases b10 with
                                  | false =>
                                    have HV := Lib.hid (show ¬ TaskR ((x0, x1), x2, x3, x4, x5, x6, (x7, x8), x9, x10, x11, x12, L) from fun h => by have h2 := (h.2.2.2.2.2.2.2.2.2.1 HS.out).1; rw [H10.out] at h2; cases h2)
                                    go_wp2
                                    go_ret
                                    exact resB_no HV.out HB2.out
                                  | true =>
                                    by_cases hl : (L.length : Int) = x4
                                    · have hl' : ((L.length : Int) == x4) = true := beq_iff_eq.2 hl
                                      have HL := Lib.hid hl
                                      clear hl
                                      go_wp2_with fail
                                      refine (nodes_spec ((H.out.below I_ok HB2.out).more I_ok hz2)).mono ?_
                                      intro e w3 h
                                      obtain ⟨b, rfl, hb, hw⟩ := resB_elim h
                                      have HB := Lib.hid (HB2.out.trans (hw.mono hz2))
                                      have HV := Lib.hid (show (b = true ↔ TaskR ((x0, x1), x2, x3, x4, x5, x6, (x7, x8), x9, x10, x11, x12, L)) from hb.trans ⟨fun hN => ⟨H0.out, H1.out, H2.out, H3.out, H4.out, H5.out, H6.out, H7.out, HD.out, fun _ => ⟨H10.out, HL.out, hN⟩, fun h => absurd HS.out h⟩, fun h => (h.2.2.2.2.2.2.2.2.2.1 HS.out).2.2⟩)
                                      clear h hb hw
                                      go_wp2
                                      go_ret
                                      exact ⟨b, rfl, HV.out, HB.out⟩
                                    · have hl' : ((L.length : Int) == x4) = false := beq_eq_false_iff_ne.2 hl
                                      have HV := Lib.hid (show ¬ TaskR ((x0, x1), x2, x3, x4, x5, x6, (x7, x8), x9, x10, x11, x12, L) from fun h => hl (h.2.2.2.2.2.2.2.2.2.1 HS.out).2.1)
                                      go_wp2
                                      go_ret
                                      exact resB_no HV.out HB2.out
                                · have hp' : decide ((0 : Int) < (L.length : Int)) = false := decide_eq_false (by omega)
                                  have HS := Lib.hid (show ¬ Has x11 L from fun h => h.elim h2 (fun h => hp h.2))
                                  by_cases h7 : x12 = 0
                                  · have h7' : (x12 == 0) = true := beq_iff_eq.2 h7
                                    have H12 := Lib.hid h7
                                    clear h7
                                    obtain rfl : L = [] := List.eq_nil_of_length_eq_zero (by omega)
                                    clear hp hp' hn
                                    have HV := Lib.hid (show TaskR ((x0, x1), x2, x3, x4, x5, x6, (x7, x8), x9, x10, x11, x12, []) from ⟨H0.out, H1.out, H2.out, H3.out, H4.out, H5.out, H6.out, H7.out, HD.out, fun h => absurd h HS.out, fun _ => ⟨H12.out, rfl⟩⟩)
                                    go_wp2
                                    go_ret
                                    exact resB_yes HV.out HB2.out
                                  · have h7' : (x12 == 0) = false := beq_eq_false_iff_ne.2 h7
                                    have HV := Lib.hid (show ¬ TaskR ((x0, x1), x2, x3, x4, x5, x6, (x7, x8), x9, x10, x11, x12, L) from fun h => h7 (h.2.2.2.2.2.2.2.2.2.2 HS.out).1)
                                    go_wp2
                                    go_ret
                                    exact resB_no HV.out HB2.out
                              · have h1' : (x11 == 1) = false := beq_eq_false_iff_ne.2 h1
                                have HS := Lib.hid (show ¬ Has x11 L from fun h => h.elim h2 (fun h => h1 h.1))
                                by_cases h7 : x12 = 0
                                · have h7' : (x12 == 0) = true := beq_iff_eq.2 h7
                                  have H12 := Lib.hid h7
                                  clear h7
                                  by_cases hl : L.length = 0
                                  · have hl' : ((L.length : Int) == 0) = true := beq_iff_eq.2 (by omega)
                                    have HL := Lib.hid hl
                                    clear hl
                                    have HV := Lib.hid (show TaskR ((x0, x1), x2, x3, x4, x5, x6, (x7, x8), x9, x10, x11, x12, L) from ⟨H0.out, H1.out, H2.out, H3.out, H4.out, H5.out, H6.out, H7.out, HD.out, fun h => absurd h HS.out, fun _ => ⟨H12.out, HL.out⟩⟩)
                                    go_wp2
                                    go_ret
                                    exact resB_yes HV.out HB2.out
                                  · have hl' : ((L.length : Int) == 0) = false := beq_eq_false_iff_ne.2 (by omega)
                                    have HV := Lib.hid (show ¬ TaskR ((x0, x1), x2, x3, x4, x5, x6, (x7, x8), x9, x10, x11, x12, L) from fun h => hl (h.2.2.2.2.2.2.2.2.2.2 HS.out).2)
                                    go_wp2
                                    go_ret
                                    exact resB_no HV.out HB2.out
                                · have h7' : (x12 == 0) = false := beq_eq_false_iff_ne.2 h7
                                  have HV := Lib.hid (show ¬ TaskR ((x0, x1), x2, x3, x4, x5, x6, (x7, x8), x9, x10, x11, x12, L) from fun h => h7 (h.2.2.2.2.2.2.2.2.2.2 HS.out).1)
                                  go_wp2
                                  go_ret
                                  exact resB_no HV.out HB2.out
end Go.Proofs.YtelhmacfljffhabGreat.RepC
end
section
namespace Go.Proofs.YtelhmacfljffhabGreat.RepC
open Go.RowKit RowC ValC SpanC KeptC NameC
set_option linter.unusedVariables false
set_option linter.unusedSimpArgs false
theorem RdSl.take {α : Type} {E : Rp α} {W : World} {B : Nat} {L : List α} {a : Option Addr} {cap : Nat} (h : RdSl E W B L a cap) (k : Nat) : RdSl E W B (L.take k) a cap := by
  obtain ⟨h1, h2, h3⟩ := h
  refine ⟨Nat.le_trans (List.length_take_le' _ _) h1, h2, fun hn => ?_⟩
  have hl : 0 < L.length := Nat.lt_of_lt_of_le hn (List.length_take_le' _ _)
  obtain ⟨g, o, ha, hg, hc⟩ := h3 hl
  refine ⟨g, o, ha, hg, fun i x hx => ?_⟩
  rw [List.getElem?_take] at hx
  split at hx
  · exact hc i x hx
  · cases hx
theorem key_iff {x0 x1 x2 l0 l1 n : Int} : (((x0, x1), x2) : D_Label × Int) = ((l0, l1), n) ↔ decide (((x0, x1) : Int × Int) = (l0, l1)) = true ∧ (x2 == n) = true := by
  simp only [Prod.mk.injEq, decide_eq_true_eq, beq_iff_eq]
theorem nkT_step {L : List D_Task} {k : Nat} {x : D_Task} {a : D_Label × Int} (h : ∀ (i : Nat) (y : D_Task), i < k → L[i]? = some y → tKey y ≠ a) (hx : L[k]? = some x) (hk : tKey x ≠ a) : ∀ (i : Nat) (y : D_Task), i < k + 1 → L[i]? = some y → tKey y ≠ a := fun i y hi hy => by
  rcases Nat.lt_succ_iff_lt_or_eq.1 hi with h1 | h1
  · exact h i y h1 hy
  · subst h1; rw [hx] at hy; cases hy; exact hk
set_option maxRecDepth 100000 in
set_option maxHeartbeats 3200000 in
theorem at_spec {L : List D_Task} {n : Nat} {a : Option Addr} {cap : Nat} {l0 l1 id : Int} {W : World} (hLn : L.length = n) (h : RdSl R_Task W W.heap.size L a cap) :
    Calls Tryz.prog 90 #[.slice a n cap, .agg #[.int .i64 l0, .int .i64 l1], .int .i64 id] W fun e w' => e = .returned (.int .i64 (atT L ((l0, l1), id))) ∧ Below W.heap.size W w' := by
  subst hLn
  have hn : L.length ≤ 9223372036854775807 := by have h1 := h.1; have h2 := h.2.1; unfold maxLen at h2; omega
  have H := Lib.hid h
  clear h
  obtain ⟨wa, hwa⟩ : ∃ w, w = W.alloc (.cells #[.int .i64 l0, .int .i64 l1] 47) := ⟨_, rfl⟩
  have HBA := Lib.hid (show Below W.heap.size W wa from by rw [hwa]; exact (Below.refl _ _).alloc (Nat.le_refl _) _)
  have HP1 := Lib.hid (show Blk wa W.heap.size 47 #[.int .i64 l0, .int .i64 l1] from by rw [hwa]; exact Blk.new _ _ _)
  have HA1 := Lib.hid ((H.out.below R_Task_ok HBA.out).more R_Task_ok HBA.out.size)
  go_enter Tryz.func90, Tryz.ntmps90
  go_wp2_with fail
  rw [← hwa]
  clear hwa
  go_loopw [7] (fun i wr => ∃ k : Nat, k ≤ L.length ∧ i = .int .i64 k ∧ Hid (∀ (i : Nat) (y : D_Task), i < k → L[i]? = some y → tKey y ≠ ((l0, l1), id)) ∧ Below wa.heap.size wa wr) (fun i _ => L.length - (intOf i).toNat)
  case atStart => exact ⟨0, Nat.zero_le _, rfl, Lib.hid fun i y h => absurd h (Nat.not_lt_zero _), Below.refl _ _⟩
  case round =>
    obtain ⟨k, hk, rfl, HN, hB⟩ := hrel
    have HB := Lib.hid hB
    have HBW := Lib.hid (HBA.out.trans (hB.mono HBA.out.size))
    have hsz := hB.size
    by_cases hlt : k < L.length
    · skip
      obtain ⟨⟨⟨x0, x1⟩, x2, x3, x4, x5, x6, ⟨x7, x8⟩, x9, x10, x11, x12, M⟩, hx⟩ := el_some hlt
      have HX := Lib.hid hx
      obtain ⟨g, o, us, rfl, hg, hu, hr⟩ := (HA1.out.below R_Task_ok hB).at_ hx
      obtain ⟨ba, bc, rfl, k_M, b_x3⟩ := rd_Task hr
      have e0 : wr.cell? ⟨g, o + k * 14, none⟩ = some (.int .i64 x0) := by simpa [size_TaskS, Nat.add_assoc] using hu 0 _ rfl
      have e1 : wr.cell? ⟨g, o + k * 14 + 1, none⟩ = some (.int .i64 x1) := by simpa [size_TaskS, Nat.add_assoc] using hu 1 _ rfl
      have e2 : wr.cell? ⟨g, o + k * 14 + 2, none⟩ = some (.int .i64 x2) := by simpa [size_TaskS, Nat.add_assoc] using hu 2 _ rfl
      have HPR := Lib.hid (HP1.out.call hB)
      have q0 : wr.cell? ⟨W.heap.size, 0, none⟩ = some (.int .i64 l0) := HPR.out.at_ 0 rfl
      have q1 : wr.cell? ⟨W.heap.size, 1, none⟩ = some (.int .i64 l1) := HPR.out.at_ 1 rfl
      have hi0 : (0 : Int) ≤ (k : Int) := Int.natCast_nonneg _
      have hi1 : (k : Int) < (L.length : Int) := by omega
      obtain ⟨b, hb⟩ : ∃ b, decide (((x0, x1) : Int × Int) = (l0, l1)) = b := ⟨_, rfl⟩
      have hq := eql_lab x0 x1 l0 l1 b hb
      clear hu hr hg hB hx k_M
      cases b with
      | false =>
        have HN2 := Lib.hid (nkT_step HN.out HX.out (fun he => by have := (key_iff.1 he).1; rw [hb] at this; cases this))
        clear hb
        go_wp2_with fail
        go_quiet (fail)
        all_goals
          go_wp2
          go_roundw
          case rel => exact ⟨k + 1, by omega, by go_num, Lib.hid HN2.out, by first | exact HB.out | exact HB.out.drew | exact bdrewN HB.out _⟩
          case measure => simp [intOf]; omega
      | true =>
        obtain ⟨c, hc⟩ : ∃ c, (x2 == id) = c := ⟨_, rfl⟩
        cases c with
        | false =>
          have HN2 := Lib.hid (nkT_step HN.out HX.out (fun he => by have := (key_iff.1 he).2; rw [hc] at this; cases this))
          clear hb
          go_wp2_with fail
          go_quiet (fail)
          all_goals
            go_wp2
            go_roundw
            case rel => exact ⟨k + 1, by omega, by go_num, Lib.hid HN2.out, by first | exact HB.out | exact HB.out.drew | exact bdrewN HB.out _⟩
            case measure => simp [intOf]; omega
        | true =>
          have HF := Lib.hid (show atT L ((l0, l1), id) = (k : Int) from atT_hit HN.out HX.out (key_iff.2 ⟨hb, hc⟩))
          clear hb
          go_wp2_with fail
          go_quiet (fail)
          all_goals
            go_wp2
            go_ret
            exact ⟨by rw [HF.out]; rfl, by first | exact HBW.out | exact HBW.out.drew | exact bdrewN HBW.out _⟩
    · have hdl : decide ((k : Int) < (L.length : Int)) = false := decide_eq_false (by omega)
      obtain rfl : k = L.length := by omega
      have HF := Lib.hid (show atT L ((l0, l1), id) = -1 from atT_miss HN.out)
      clear hB
      go_wp2
      go_ret
      exact ⟨by rw [HF.out]; rfl, HBW.out⟩
theorem taskS_w {x : D_Task} {cs : List Value} {W : World} (h : R_Task.rd W W.heap.size x cs) : Calls Tryz.prog 55 #[.agg cs.toArray] W fun e w' => e = .returned (.bool (taskB x)) ∧ Below W.heap.size W w' := by
  obtain ⟨⟨x0, x1⟩, x2, x3, x4, x5, x6, ⟨x7, x8⟩, x9, x10, x11, x12, M⟩ := x
  obtain ⟨ba, bc, rfl, k, b⟩ := rd_Task h
  exact (taskP_spec b k).mono fun e w' h => resB_is taskB_iff h
end Go.Proofs.YtelhmacfljffhabGreat.RepC
end
