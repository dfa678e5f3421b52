/- Of this claim's texts the part 2: TaP TaR1 JobI0 TaR2 Lift Opn JobO UsO. -/
import Derived.Test.YtkghodbbgehcoaaRows
import Derived.ProofKit
import Derived.OpenShut
import Derived.Below
import Derived.Carry
import Derived.ChangeOld
import Derived.Lib.SmallJoins
import Derived.Deep.Slices
import Derived.Test.YtkghodbbgehcoaaPO1
section
namespace Go.Proofs.Ytkghodbbgehcoaa.RepC
open Go.RowKit RowC ValC SpanC KeptC NameC
set_option linter.unusedVariables false
set_option linter.unusedSimpArgs false
def PlR (need start : Int) (L : List Int) : Prop := isB start 0 1000000 = true ∧ (L.length : Int) = need ∧ NodesR L
def NoP (start : Int) (L : List Int) : Prop := start = 0 ∧ L.length = 0
def DepR (l s id ul us after : Int) : Prop := (after = 0 → ul = 0 ∧ us = 0) ∧ (after ≠ 0 → isB after 1 12 = true ∧ LabC.belowB ul us l s = true ∧ ¬ ((ul = l ∧ us = s) ∧ id ≤ after))
def Has (st : Int) (L : List Int) : Prop := st = 2 ∨ (st = 1 ∧ 0 < L.length)
def TaskR : D_Task → Prop
  | ((l, s), id, ow, need, long, prio, (ul, us), after, born, st, start, L) => LabC.rB l s = true ∧ isB id 1 12 = true ∧ nameB ow = true ∧ isB need 1 6 = true ∧ isB long 1 20 = true ∧ isB prio 0 9 = true ∧ isB born 0 999900 = true ∧ isB st 1 6 = true ∧ DepR l s id ul us after ∧ (Has st L → PlR need start L) ∧ (¬ Has st L → NoP start L)
open Classical in
noncomputable def taskB (x : D_Task) : Bool := decide (TaskR x)
open Classical in
theorem taskB_iff {x : D_Task} : taskB x = true ↔ TaskR x := by unfold taskB; simp
abbrev tLab (x : D_Task) : D_Label := x.1
abbrev tId (x : D_Task) : Int := x.2.1
abbrev tOwner (x : D_Task) : ByteArray := x.2.2.1
abbrev tUnder (x : D_Task) : D_Label := x.2.2.2.2.2.2.1
abbrev tAfter (x : D_Task) : Int := x.2.2.2.2.2.2.2.1
abbrev tState (x : D_Task) : Int := x.2.2.2.2.2.2.2.2.2.1
abbrev tNodes (x : D_Task) : List Int := x.2.2.2.2.2.2.2.2.2.2.2
abbrev tKey (x : D_Task) : D_Label × Int := (x.1, x.2.1)
theorem TaskR.lab {x : D_Task} (h : TaskR x) : LabC.rB (tLab x).1 (tLab x).2 = true := h.1
theorem TaskR.id {x : D_Task} (h : TaskR x) : 1 ≤ tId x ∧ tId x ≤ 12 := (isB_iff _ _ _).1 h.2.1
def ltK (a b : D_Label × Int) : Prop := ltLb a.1 b.1 ∨ (a.1 = b.1 ∧ a.2 < b.2)
theorem ltK_trans {a b c : D_Label × Int} (h1 : ltK a b) (h2 : ltK b c) : ltK a c := by
  obtain ⟨⟨a0, a1⟩, a2⟩ := a; obtain ⟨⟨b0, b1⟩, b2⟩ := b; obtain ⟨⟨c0, c1⟩, c2⟩ := c
  unfold ltK ltLb at *
  simp only [Prod.mk.injEq] at *
  omega
theorem ltK_irrefl {a : D_Label × Int} : ¬ ltK a a := by
  obtain ⟨⟨a0, a1⟩, a2⟩ := a
  unfold ltK ltLb
  simp only [Prod.mk.injEq]
  omega
def IncT (L : List D_Task) (n : Nat) : Prop := ∀ i j x y, i < j → j < n → L[i]? = some x → L[j]? = some y → ltK (tKey x) (tKey y)
theorem IncT.zero {L : List D_Task} : IncT L 0 := fun i j x y _ h => absurd h (Nat.not_lt_zero _)
theorem IncT.step {L : List D_Task} {n : Nat} {x : D_Task} (h : IncT L n) (hx : L[n]? = some x) (hl : ∀ y, 0 < n → L[n - 1]? = some y → ltK (tKey y) (tKey x)) : IncT L (n + 1) := by
  intro i j u v hij hj hu hv
  by_cases e : j = n
  · subst e
    rw [hx] at hv; cases hv
    have hj : j < L.length := (List.getElem?_eq_some_iff.1 hx).1
    obtain ⟨y, hy⟩ : ∃ y, L[j - 1]? = some y := ⟨L[j - 1], List.getElem?_eq_getElem (by omega)⟩
    have h1 := hl y (by omega) hy
    by_cases e2 : i = j - 1
    · subst e2; rw [hu] at hy; cases hy; exact h1
    · exact ltK_trans (h i (j - 1) u y (by omega) (by omega) hu hy) h1
  · exact h i j u v hij (by omega) hu hv
theorem IncT.take {L : List D_Task} {n m : Nat} (h : IncT L n) (hm : m ≤ n) (hL : m ≤ L.length) : IncT (L.take m) (L.take m).length := by
  intro i j x y hij hj hx hy
  rw [List.length_take, Nat.min_eq_left hL] at hj
  rw [List.getElem?_take, if_pos (by omega)] at hx hy
  exact h i j x y hij (by omega) hx hy
def atT (L : List D_Task) (a : D_Label × Int) : Int := match L.findIdx? (fun x => decide (tKey x = a)) with
  | some i => (i : Int)
  | none => -1
theorem atT_hit {L : List D_Task} {a : D_Label × Int} {k : Nat} {x : D_Task} (h : ∀ i y, i < k → L[i]? = some y → tKey y ≠ a) (hx : L[k]? = some x) (hk : tKey x = a) : atT L a = (k : Int) := by
  have hkl := (List.getElem?_eq_some_iff.1 hx).1
  have : L.findIdx? (fun x => decide (tKey x = a)) = some k := by
    rw [List.findIdx?_eq_some_iff_getElem]
    refine ⟨hkl, ?_, fun j hj => ?_⟩
    · have := (List.getElem?_eq_some_iff.1 hx).2
      rw [this]; simpa using hk
    · have h1 := h j _ hj (List.getElem?_eq_getElem (Nat.lt_trans hj hkl))
      simpa using h1
  unfold atT
  rw [this]
theorem atT_miss {L : List D_Task} {a : D_Label × Int} (h : ∀ i y, i < L.length → L[i]? = some y → tKey y ≠ a) : atT L a = -1 := by
  have : L.findIdx? (fun x => decide (tKey x = a)) = none := by
    rw [List.findIdx?_eq_none_iff]
    intro x hx
    obtain ⟨i, hi, rfl⟩ := List.mem_iff_getElem.1 hx
    have := h i _ hi (List.getElem?_eq_getElem hi)
    simpa using this
  unfold atT
  rw [this]
theorem atT_cases (L : List D_Task) (a : D_Label × Int) : (atT L a = -1 ∧ ∀ (i : Nat) (y : D_Task), L[i]? = some y → tKey y ≠ a) ∨ ∃ (k : Nat) (x : D_Task), atT L a = (k : Int) ∧ L[k]? = some x ∧ tKey x = a ∧ ∀ i y, i < k → L[i]? = some y → tKey y ≠ a := by
  cases hf : L.findIdx? (fun x => decide (tKey x = a)) with
  | none =>
    left
    rw [List.findIdx?_eq_none_iff] at hf
    refine ⟨by unfold atT; rw [show L.findIdx? (fun x => decide (tKey x = a)) = none from by rw [List.findIdx?_eq_none_iff]; exact hf], fun i y hy => ?_⟩
    have := hf y (List.mem_of_getElem? hy)
    simpa using this
  | some k =>
    right
    have hf0 := hf
    rw [List.findIdx?_eq_some_iff_getElem] at hf
    obtain ⟨hk, h1, h2⟩ := hf
    refine ⟨k, L[k], by unfold atT; rw [hf0], List.getElem?_eq_getElem hk, by simpa using h1, fun i y hi hy => ?_⟩
    have := h2 i hi
    rw [(List.getElem?_eq_some_iff.1 hy).2] at this
    simpa using this
def NextT (y x : D_Task) : Prop := (tLab y = tLab x ∧ tId x = tId y + 1) ∨ (ltLb (tLab y) (tLab x) ∧ tId x = 1)
def okT (L : List D_Task) (i : Nat) (x : D_Task) : Prop := TaskR x ∧ (i = 0 → tId x = 1) ∧ (∀ y, 0 < i → L[i - 1]? = some y → NextT y x) ∧ (tAfter x ≠ 0 → 0 ≤ atT (L.take i) (tUnder x, tAfter x))
def tasTo (L : List D_Task) (k : Nat) : Prop := ∀ i x, i < k → L[i]? = some x → okT L i x
def TasksR (L : List D_Task) : Prop := L.length ≤ 96 ∧ ∀ i x, L[i]? = some x → okT L i x
open Classical in
noncomputable def tasksB (L : List D_Task) : Bool := decide (TasksR L)
open Classical in
theorem tasksB_iff {L : List D_Task} : tasksB L = true ↔ TasksR L := by unfold tasksB; simp
theorem tasTo_zero {L : List D_Task} : tasTo L 0 := fun i x h => absurd h (Nat.not_lt_zero _)
theorem tasTo_step {L : List D_Task} {k : Nat} {x : D_Task} (h : tasTo L k) (hx : L[k]? = some x) (hk : okT L k x) : tasTo L (k + 1) := fun i y hi hy => by
  rcases Nat.lt_succ_iff_lt_or_eq.1 hi with h1 | h1
  · exact h i y h1 hy
  · subst h1; rw [hx] at hy; cases hy; exact hk
theorem tasksR_all {L : List D_Task} (h1 : L.length ≤ 96) (h : tasTo L L.length) : TasksR L := ⟨h1, fun i x hx => h i x (List.getElem?_eq_some_iff.1 hx).1 hx⟩
theorem tasksR_to {L : List D_Task} (h : TasksR L) (k : Nat) : tasTo L k := fun i x _ hx => h.2 i x hx
theorem not_tasks {L : List D_Task} {k : Nat} {x : D_Task} (hx : L[k]? = some x) (h : ¬ okT L k x) : ¬ TasksR L := fun hr => h (hr.2 k x hx)
theorem nextT_lt {y x : D_Task} (h : NextT y x) : ltK (tKey y) (tKey x) := by
  rcases h with ⟨h1, h2⟩ | ⟨h1, h2⟩
  · exact .inr ⟨h1, by show tId y < tId x; omega⟩
  · exact .inl h1
theorem tasTo_inc {L : List D_Task} : ∀ {k : Nat}, tasTo L k → k ≤ L.length → IncT L k
  | 0, _, _ => IncT.zero
  | k + 1, h, hk => by
    obtain ⟨x, hx⟩ : ∃ x, L[k]? = some x := ⟨L[k], List.getElem?_eq_getElem (by omega)⟩
    exact (tasTo_inc (fun i x hi hx => h i x (by omega) hx) (by omega)).step hx fun y h0 hy => nextT_lt ((h k x (by omega) hx).2.2.1 y h0 hy)
theorem tasksR_inc {L : List D_Task} (h : TasksR L) : IncT L L.length := tasTo_inc (tasksR_to h _) (Nat.le_refl _)
theorem incT_one {L : List D_Task} (h : IncT L L.length) {i j : Nat} {x y : D_Task} (hx : L[i]? = some x) (hy : L[j]? = some y) (he : tKey x = tKey y) : i = j := by
  have hi := (List.getElem?_eq_some_iff.1 hx).1
  have hj := (List.getElem?_eq_some_iff.1 hy).1
  rcases Nat.lt_trichotomy i j with h1 | h1 | h1
  · exact absurd (he ▸ h i j x y h1 hj hx hy) ltK_irrefl
  · exact h1
  · exact absurd (he ▸ h j i y x h1 hi hy hx) ltK_irrefl
theorem atT_of {L : List D_Task} (h : IncT L L.length) {k : Nat} {x : D_Task} {a : D_Label × Int} (hx : L[k]? = some x) (hk : tKey x = a) : atT L a = (k : Int) :=
  atT_hit (fun i y hi hy he => by have := incT_one h hy hx (he.trans hk.symm); omega) hx hk
end Go.Proofs.Ytkghodbbgehcoaa.RepC
end
section
namespace Go.Proofs.Ytkghodbbgehcoaa.RepC
open Go.RowKit RowC ValC SpanC KeptC NameC
set_option linter.unusedVariables false
set_option linter.unusedSimpArgs false
theorem isS_at (n lo hi : Int) {b : Bool} (hb : isB n lo hi = b) (w : World) :
    Calls Try.prog 63 #[.int .i64 n, .int .i64 lo, .int .i64 hi] w fun e w' => e = .returned (.bool b) ∧ w = w' := by
  subst hb
  exact is_spec n lo hi w
theorem timeS_at (n : Int) {b : Bool} (hb : isB n 0 1000000 = b) (w : World) :
    Calls Try.prog 72 #[.int .i64 n] w fun e w' => e = .returned (.bool b) ∧ w = w' := by
  subst hb
  exact time_spec n w
theorem nowS_at (n : Int) {b : Bool} (hb : isB n 0 999900 = b) (w : World) :
    Calls Try.prog 70 #[.int .i64 n] w fun e w' => e = .returned (.bool b) ∧ w = w' := by
  subst hb
  go_enter Try.func70, Try.ntmps70
  go_wp2_with (go_at_call 63; refine (is_spec _ _ _ _).mono ?_; rintro e w' ⟨rfl, rfl⟩)
  go_ret
  exact ⟨rfl, rfl⟩
theorem res_nameX {s : ByteArray} {w w' : World} {e : Ending} (h : NameC.Res (NameP s) w e w') : e = .returned (.bool (nameB s)) ∧ w = w' := by
  obtain ⟨b, rfl, hb, rfl⟩ := h
  have : b = nameB s := by
    cases b <;> cases hn : nameB s
    · rfl
    · exact absurd (hb.2 (nameB_iff.1 hn)) (by decide)
    · exact absurd (nameB_iff.2 (hb.1 rfl)) (by rw [hn]; decide)
    · rfl
  exact ⟨by rw [this], rfl⟩
theorem nameS_at {s : ByteArray} {b : Bool} (hs : s.size ≤ maxLen) (hb : nameB s = b) (w : World) : Calls Try.prog 22 #[.string s] w fun e w' => e = .returned (.bool b) ∧ w = w' := by
  subst hb
  exact (spec_any s w hs).mono fun _ _ h => res_nameX h
theorem nameI_at {s : ByteArray} {b : Bool} (hs : s.size ≤ maxLen) (hb : nameB s = b) (w : World) : Calls Try.prog 57 #[.string s] w fun e w' => e = .returned (.bool b) ∧ w = w' := by
  subst hb
  exact (impl_any s w hs).mono fun _ _ h => res_nameX h
theorem labS_at (l s : Int) {b : Bool} (hb : LabC.rB l s = b) (w : World) :
    Calls Try.prog 21 #[.agg #[.int .i64 l, .int .i64 s]] w fun e w' => e = .returned (.bool b) ∧ Below w.heap.size w w' := by
  subst hb
  exact (LabC.right_spec l s w).mono fun _ _ ⟨h1, h2⟩ => ⟨h1, by rw [← h2]; exact (Below.refl _ _).alloc (Nat.le_refl _) _⟩
theorem belS_at (l s m t : Int) {b : Bool} (hb : LabC.belowB l s m t = b) (w : World) :
    Calls Try.prog 71 #[.agg #[.int .i64 l, .int .i64 s], .agg #[.int .i64 m, .int .i64 t]] w fun e w' => e = .returned (.bool b) ∧ Below w.heap.size w w' := by
  subst hb
  exact LabC.below_spec l s m t w
theorem belI_at (l s m t : Int) {b : Bool} (hb : LabC.belowB l s m t = b) (w : World) :
    Calls Try.prog 116 #[.agg #[.int .i64 l, .int .i64 s], .agg #[.int .i64 m, .int .i64 t]] w fun e w' => e = .returned (.bool b) ∧ Below w.heap.size w w' := by
  subst hb
  exact LabC.below_impl l s m t w
set_option maxRecDepth 100000 in
set_option maxHeartbeats 6400000 in
theorem taskP_spec {x0 x1 x2 : Int} {x3 : ByteArray} {x4 x5 x6 x7 x8 x9 x10 x11 x12 : Int} {L : List Int} {a : Option Addr} {c : Nat} {W : World} (b_x3 : x3.size ≤ maxLen) (h : RdSl I W W.heap.size L a c) : Calls Try.prog 24 #[.agg #[.int .i64 x0, .int .i64 x1, .int .i64 x2, .string x3, .int .i64 x4, .int .i64 x5, .int .i64 x6, .int .i64 x7, .int .i64 x8, .int .i64 x9, .int .i64 x10, .int .i64 x11, .int .i64 x12, .slice a L.length c]] W (ResB (TaskR ((x0, x1), x2, x3, x4, x5, x6, (x7, x8), x9, x10, x11, x12, L)) W) := by
  have hn : L.length ≤ 9223372036854775807 := by have h1 := h.1; have h2 := h.2.1; unfold maxLen at h2; omega
  have H := Lib.hid h
  clear h
  have HX3 := Lib.hid b_x3
  unfold maxLen at b_x3
  obtain ⟨b0, h0⟩ : ∃ b, LabC.rB x0 x1 = b := ⟨_, rfl⟩
  have H0 := Lib.hid h0
  clear h0
  obtain ⟨b1, h1⟩ : ∃ b, isB x2 1 12 = b := ⟨_, rfl⟩
  have H1 := Lib.hid h1
  clear h1
  obtain ⟨b2, h2⟩ : ∃ b, nameB x3 = b := ⟨_, rfl⟩
  have H2 := Lib.hid h2
  clear h2
  obtain ⟨b3, h3⟩ : ∃ b, isB x4 1 6 = b := ⟨_, rfl⟩
  have H3 := Lib.hid h3
  clear h3
  obtain ⟨b4, h4⟩ : ∃ b, isB x5 1 20 = b := ⟨_, rfl⟩
  have H4 := Lib.hid h4
  clear h4
  obtain ⟨b5, h5⟩ : ∃ b, isB x6 0 9 = b := ⟨_, rfl⟩
  have H5 := Lib.hid h5
  clear h5
  obtain ⟨b6, h6⟩ : ∃ b, isB x10 0 999900 = b := ⟨_, rfl⟩
  have H6 := Lib.hid h6
  clear h6
  obtain ⟨b7, h7⟩ : ∃ b, isB x11 1 6 = b := ⟨_, rfl⟩
  have H7 := Lib.hid h7
  clear h7
  obtain ⟨b8, h8⟩ : ∃ b, isB x9 1 12 = b := ⟨_, rfl⟩
  have H8 := Lib.hid h8
  clear h8
  obtain ⟨b9, h9⟩ : ∃ b, LabC.belowB x7 x8 x0 x1 = b := ⟨_, rfl⟩
  have HBB := Lib.hid h9
  clear h9
  obtain ⟨b10, h10⟩ : ∃ b, isB x12 0 1000000 = b := ⟨_, rfl⟩
  have H10 := Lib.hid h10
  clear h10
  have HB0 := Lib.hid (show Below W.heap.size W (W.alloc (.cells #[.int .i64 x0, .int .i64 x1, .int .i64 x2, .string x3, .int .i64 x4, .int .i64 x5, .int .i64 x6, .int .i64 x7, .int .i64 x8, .int .i64 x9, .int .i64 x10, .int .i64 x11, .int .i64 x12, .slice a L.length c] 43)) from (Below.refl _ _).alloc (Nat.le_refl _) _)
  have HP0 := Lib.hid (Blk.new W 43 #[.int .i64 x0, .int .i64 x1, .int .i64 x2, .string x3, .int .i64 x4, .int .i64 x5, .int .i64 x6, .int .i64 x7, .int .i64 x8, .int .i64 x9, .int .i64 x10, .int .i64 x11, .int .i64 x12, .slice a L.length c])
  have hz0 : W.heap.size ≤ (W.alloc (.cells #[.int .i64 x0, .int .i64 x1, .int .i64 x2, .string x3, .int .i64 x4, .int .i64 x5, .int .i64 x6, .int .i64 x7, .int .i64 x8, .int .i64 x9, .int .i64 x10, .int .i64 x11, .int .i64 x12, .slice a L.length c] 43)).heap.size := HB0.out.size
  go_enter Try.func24, Try.ntmps24
  go_wp2_with fail
  refine (labS_at x0 x1 H0.out _).mono ?_
  rintro e w1 ⟨rfl, hb⟩
  have HP1 := Lib.hid (HP0.out.call hb)
  have HB1 := Lib.hid (HB0.out.trans (hb.mono hz0))
  have hz1 : W.heap.size ≤ w1.heap.size := HB1.out.size
  clear hb
  have p0 := HP1.out.at_ 0 rfl
  have p1 := HP1.out.at_ 1 rfl
  have p2 := HP1.out.at_ 2 rfl
  have p3 := HP1.out.at_ 3 rfl
  have p4 := HP1.out.at_ 4 rfl
  have p5 := HP1.out.at_ 5 rfl
  have p6 := HP1.out.at_ 6 rfl
  have p7 := HP1.out.at_ 7 rfl
  have p8 := HP1.out.at_ 8 rfl
  have p9 := HP1.out.at_ 9 rfl
  have p10 := HP1.out.at_ 10 rfl
  have p11 := HP1.out.at_ 11 rfl
  have p12 := HP1.out.at_ 12 rfl
  have p13 := HP1.out.at_ 13 rfl
  clear HP0 HB0
  cases b0 with
  | false =>
    have HV := Lib.hid (show ¬ TaskR ((x0, x1), x2, x3, x4, x5, x6, (x7, x8), x9, x10, x11, x12, L) from fun h => by have h2 := h.1; rw [H0.out] at h2; cases h2)
    go_wp2
    go_ret
    exact resB_no HV.out HB1.out
  | true =>
    go_wp2_with fail
    refine (isS_at _ _ _ H1.out _).mono ?_
    rintro e w2 ⟨rfl, rfl⟩
    cases b1 with
    | false =>
      have HV := Lib.hid (show ¬ TaskR ((x0, x1), x2, x3, x4, x5, x6, (x7, x8), x9, x10, x11, x12, L) from fun h => by have h2 := h.2.1; rw [H1.out] at h2; cases h2)
      go_wp2
      go_ret
      exact resB_no HV.out HB1.out
    | true =>
      go_wp2_with fail
      refine (nameS_at HX3.out H2.out _).mono ?_
      rintro e w2 ⟨rfl, rfl⟩
      cases b2 with
      | false =>
        have HV := Lib.hid (show ¬ TaskR ((x0, x1), x2, x3, x4, x5, x6, (x7, x8), x9, x10, x11, x12, L) from fun h => by have h2 := h.2.2.1; rw [H2.out] at h2; cases h2)
        go_wp2
        go_ret
        exact resB_no HV.out HB1.out
      | true =>
        go_wp2_with fail
        refine (isS_at _ _ _ H3.out _).mono ?_
        rintro e w2 ⟨rfl, rfl⟩
        cases b3 with
        | false =>
          have HV := Lib.hid (show ¬ TaskR ((x0, x1), x2, x3, x4, x5, x6, (x7, x8), x9, x10, x11, x12, L) from fun h => by have h2 := h.2.2.2.1; rw [H3.out] at h2; cases h2)
          go_wp2
          go_ret
          exact resB_no HV.out HB1.out
        | true =>
          go_wp2_with fail
          refine (isS_at _ _ _ H4.out _).mono ?_
          rintro e w2 ⟨rfl, rfl⟩
          cases b4 with
          | false =>
            have HV := Lib.hid (show ¬ TaskR ((x0, x1), x2, x3, x4, x5, x6, (x7, x8), x9, x10, x11, x12, L) from fun h => by have h2 := h.2.2.2.2.1; rw [H4.out] at h2; cases h2)
            go_wp2
            go_ret
            exact resB_no HV.out HB1.out
          | true =>
            go_wp2_with fail
            refine (isS_at _ _ _ H5.out _).mono ?_
            rintro e w2 ⟨rfl, rfl⟩
            cases b5 with
            | false =>
              have HV := Lib.hid (show ¬ TaskR ((x0, x1), x2, x3, x4, x5, x6, (x7, x8), x9, x10, x11, x12, L) from fun h => by have h2 := h.2.2.2.2.2.1; rw [H5.out] at h2; cases h2)
              go_wp2
              go_ret
              exact resB_no HV.out HB1.out
            | true =>
              go_wp2_with fail
              refine (nowS_at _ H6.out _).mono ?_
              rintro e w2 ⟨rfl, rfl⟩
              cases b6 with
              | false =>
                have HV := Lib.hid (show ¬ TaskR ((x0, x1), x2, x3, x4, x5, x6, (x7, x8), x9, x10, x11, x12, L) from fun h => by have h2 := h.2.2.2.2.2.2.1; rw [H6.out] at h2; cases h2)
                go_wp2
                go_ret
                exact resB_no HV.out HB1.out
              | true =>
                go_wp2_with fail
                refine (isS_at _ _ _ H7.out _).mono ?_
                rintro e w2 ⟨rfl, rfl⟩
                cases b7 with
                | false =>
                  have HV := Lib.hid (show ¬ TaskR ((x0, x1), x2, x3, x4, x5, x6, (x7, x8), x9, x10, x11, x12, L) from fun h => by have h2 := h.2.2.2.2.2.2.2.1; rw [H7.out] at h2; cases h2)
                  go_wp2
                  go_ret
                  exact resB_no HV.out HB1.out
                | true =>
                  by_cases h9 : x9 = 0
                  · have h9' : (x9 == 0) = true := beq_iff_eq.2 h9
                    have h9n : (x9 != 0) = false := by simp [h9]
                    obtain ⟨q, hq⟩ : ∃ q, decide (((x7, x8) : Int × Int) = (0, 0)) = q := ⟨_, rfl⟩
                    have hqq := neq_lab x7 x8 0 0 q hq
                    have HQ := Lib.hid hq
                    have H9 := Lib.hid h9
                    clear hq h9
                    cases q with
                    | false =>
                      have HV := Lib.hid (show ¬ TaskR ((x0, x1), x2, x3, x4, x5, x6, (x7, x8), x9, x10, x11, x12, L) from fun h => by have h2 := h.2.2.2.2.2.2.2.2.1.1 H9.out; exact of_decide_eq_false HQ.out (by rw [h2.1, h2.2]))
                      go_wp2
                      go_ret
                      exact resB_no HV.out HB1.out
                    | true =>
                      have HD := Lib.hid (show DepR x0 x1 x2 x7 x8 x9 from ⟨fun _ => by have h2 := of_decide_eq_true HQ.out; simpa using h2, fun h => absurd H9.out h⟩)
                      by_cases h2 : x11 = 2
                      · have h2' : (x11 == 2) = true := beq_iff_eq.2 h2
                        have HS := Lib.hid (show Has x11 L from Or.inl h2)
                        go_wp2_with fail
                        refine (timeS_at _ H10.out _).mono ?_
                        rintro e w9 ⟨rfl, rfl⟩
                        cases b10 with
                        | false =>
                          have HV := Lib.hid (show ¬ TaskR ((x0, x1), x2, x3, x4, x5, x6, (x7, x8), x9, x10, x11, x12, L) from fun h => by have h2 := (h.2.2.2.2.2.2.2.2.2.1 HS.out).1; rw [H10.out] at h2; cases h2)
                          go_wp2
                          go_ret
                          exact resB_no HV.out HB1.out
                        | true =>
                          by_cases hl : (L.length : Int) = x4
                          · have hl' : ((L.length : Int) == x4) = true := beq_iff_eq.2 hl
                            have HL := Lib.hid hl
                            clear hl
                            go_wp2_with fail
                            refine (nodes_spec ((H.out.below I_ok HB1.out).more I_ok hz1)).mono ?_
                            intro e w3 h
                            obtain ⟨b, rfl, hb, hw⟩ := resB_elim h
                            have HB := Lib.hid (HB1.out.trans (hw.mono hz1))
                            have HV := Lib.hid (show (b = true ↔ TaskR ((x0, x1), x2, x3, x4, x5, x6, (x7, x8), x9, x10, x11, x12, L)) from hb.trans ⟨fun hN => ⟨H0.out, H1.out, H2.out, H3.out, H4.out, H5.out, H6.out, H7.out, HD.out, fun _ => ⟨H10.out, HL.out, hN⟩, fun h => absurd HS.out h⟩, fun h => (h.2.2.2.2.2.2.2.2.2.1 HS.out).2.2⟩)
                            clear h hb hw
                            go_wp2
                            go_ret
                            exact ⟨b, rfl, HV.out, HB.out⟩
                          · have hl' : ((L.length : Int) == x4) = false := beq_eq_false_iff_ne.2 hl
                            have HV := Lib.hid (show ¬ TaskR ((x0, x1), x2, x3, x4, x5, x6, (x7, x8), x9, x10, x11, x12, L) from fun h => hl (h.2.2.2.2.2.2.2.2.2.1 HS.out).2.1)
                            go_wp2
                            go_ret
                            exact resB_no HV.out HB1.out
                      · have h2' : (x11 == 2) = false := beq_eq_false_iff_ne.2 h2
                        by_cases h1 : x11 = 1
                        · have h1' : (x11 == 1) = true := beq_iff_eq.2 h1
                          by_cases hp : 0 < L.length
                          · have hp' : decide ((0 : Int) < (L.length : Int)) = true := decide_eq_true (by omega)
                            have HS := Lib.hid (show Has x11 L from Or.inr ⟨h1, hp⟩)
                            go_wp2_with fail
                            refine (timeS_at _ H10.out _).mono ?_
                            rintro e w9 ⟨rfl, rfl⟩
                            cases b10 with
                            | false =>
                              have HV := Lib.hid (show ¬ TaskR ((x0, x1), x2, x3, x4, x5, x6, (x7, x8), x9, x10, x11, x12, L) from fun h => by have h2 := (h.2.2.2.2.2.2.2.2.2.1 HS.out).1; rw [H10.out] at h2; cases h2)
                              go_wp2
                              go_ret
                              exact resB_no HV.out HB1.out
                            | true =>
                              by_cases hl : (L.length : Int) = x4
                              · have hl' : ((L.length : Int) == x4) = true := beq_iff_eq.2 hl
                                have HL := Lib.hid hl
                                clear hl
                                go_wp2_with fail
                                refine (nodes_spec ((H.out.below I_ok HB1.out).more I_ok hz1)).mono ?_
                                intro e w3 h
                                obtain ⟨b, rfl, hb, hw⟩ := resB_elim h
                                have HB := Lib.hid (HB1.out.trans (hw.mono hz1))
                                have HV := Lib.hid (show (b = true ↔ TaskR ((x0, x1), x2, x3, x4, x5, x6, (x7, x8), x9, x10, x11, x12, L)) from hb.trans ⟨fun hN => ⟨H0.out, H1.out, H2.out, H3.out, H4.out, H5.out, H6.out, H7.out, HD.out, fun _ => ⟨H10.out, HL.out, hN⟩, fun h => absurd HS.out h⟩, fun h => (h.2.2.2.2.2.2.2.2.2.1 HS.out).2.2⟩)
                                clear h hb hw
                                go_wp2
                                go_ret
                                exact ⟨b, rfl, HV.out, HB.out⟩
                              · have hl' : ((L.length : Int) == x4) = false := beq_eq_false_iff_ne.2 hl
                                have HV := Lib.hid (show ¬ TaskR ((x0, x1), x2, x3, x4, x5, x6, (x7, x8), x9, x10, x11, x12, L) from fun h => hl (h.2.2.2.2.2.2.2.2.2.1 HS.out).2.1)
                                go_wp2
                                go_ret
                                exact resB_no HV.out HB1.out
                          · have hp' : decide ((0 : Int) < (L.length : Int)) = false := decide_eq_false (by omega)
                            have HS := Lib.hid (show ¬ Has x11 L from fun h => h.elim h2 (fun h => hp h.2))
                            by_cases h7 : x12 = 0
                            · have h7' : (x12 == 0) = true := beq_iff_eq.2 h7
                              have H12 := Lib.hid h7
                              clear h7
                              obtain rfl : L = [] := List.eq_nil_of_length_eq_zero (by omega)
                              clear hp hp' hn
                              have HV := Lib.hid (show TaskR ((x0, x1), x2, x3, x4, x5, x6, (x7, x8), x9, x10, x11, x12, []) from ⟨H0.out, H1.out, H2.out, H3.out, H4.out, H5.out, H6.out, H7.out, HD.out, fun h => absurd h HS.out, fun _ => ⟨H12.out, rfl⟩⟩)
                              go_wp2
                              go_ret
                              exact resB_yes HV.out HB1.out
                            · have h7' : (x12 == 0) = false := beq_eq_false_iff_ne.2 h7
                              have HV := Lib.hid (show ¬ TaskR ((x0, x1), x2, x3, x4, x5, x6, (x7, x8), x9, x10, x11, x12, L) from fun h => h7 (h.2.2.2.2.2.2.2.2.2.2 HS.out).1)
                              go_wp2
                              go_ret
                              exact resB_no HV.out HB1.out
                        · have h1' : (x11 == 1) = false := beq_eq_false_iff_ne.2 h1
                          have HS := Lib.hid (show ¬ Has x11 L from fun h => h.elim h2 (fun h => h1 h.1))
                          by_cases h7 : x12 = 0
                          · have h7' : (x12 == 0) = true := beq_iff_eq.2 h7
                            have H12 := Lib.hid h7
                            clear h7
                            by_cases hl : L.length = 0
                            · have hl' : ((L.length : Int) == 0) = true := beq_iff_eq.2 (by omega)
                              have HL := Lib.hid hl
                              clear hl
                              have HV := Lib.hid (show TaskR ((x0, x1), x2, x3, x4, x5, x6, (x7, x8), x9, x10, x11, x12, L) from ⟨H0.out, H1.out, H2.out, H3.out, H4.out, H5.out, H6.out, H7.out, HD.out, fun h => absurd h HS.out, fun _ => ⟨H12.out, HL.out⟩⟩)
                              go_wp2
                              go_ret
                              exact resB_yes HV.out HB1.out
                            · have hl' : ((L.length : Int) == 0) = false := beq_eq_false_iff_ne.2 (by omega)
                              have HV := Lib.hid (show ¬ TaskR ((x0, x1), x2, x3, x4, x5, x6, (x7, x8), x9, x10, x11, x12, L) from fun h => hl (h.2.2.2.2.2.2.2.2.2.2 HS.out).2)
                              go_wp2
                              go_ret
                              exact resB_no HV.out HB1.out
                          · have h7' : (x12 == 0) = false := beq_eq_false_iff_ne.2 h7
                            have HV := Lib.hid (show ¬ TaskR ((x0, x1), x2, x3, x4, x5, x6, (x7, x8), x9, x10, x11, x12, L) from fun h => h7 (h.2.2.2.2.2.2.2.2.2.2 HS.out).1)
                            go_wp2
                            go_ret
                            exact resB_no HV.out HB1.out
                  · have h9' : (x9 == 0) = false := beq_eq_false_iff_ne.2 h9
                    have h9n : (x9 != 0) = true := by simp [h9]
                    have H9 := Lib.hid h9
                    clear h9
                    go_wp2_with fail
                    refine (isS_at _ _ _ H8.out _).mono ?_
                    rintro e w2 ⟨rfl, rfl⟩
                    cases b8 with
                    | false =>
                      have HV := Lib.hid (show ¬ TaskR ((x0, x1), x2, x3, x4, x5, x6, (x7, x8), x9, x10, x11, x12, L) from fun h => by have h2 := (h.2.2.2.2.2.2.2.2.1.2 H9.out).1; rw [H8.out] at h2; cases h2)
                      go_wp2
                      go_ret
                      exact resB_no HV.out HB1.out
                    | true =>
                      go_wp2_with fail
                      refine (belS_at _ _ _ _ HBB.out _).mono ?_
                      rintro e w2 ⟨rfl, hb⟩
                      have HP2 := Lib.hid (HP1.out.call hb)
                      have HB2 := Lib.hid (HB1.out.trans (hb.mono hz1))
                      have hz2 : W.heap.size ≤ w2.heap.size := HB2.out.size
                      clear hb
                      clear p0 p1 p2 p3 p4 p5 p6 p7 p8 p9 p10 p11 p12 p13
                      have p0 := HP2.out.at_ 0 rfl
                      have p1 := HP2.out.at_ 1 rfl
                      have p2 := HP2.out.at_ 2 rfl
                      have p3 := HP2.out.at_ 3 rfl
                      have p4 := HP2.out.at_ 4 rfl
                      have p5 := HP2.out.at_ 5 rfl
                      have p6 := HP2.out.at_ 6 rfl
                      have p7 := HP2.out.at_ 7 rfl
                      have p8 := HP2.out.at_ 8 rfl
                      have p9 := HP2.out.at_ 9 rfl
                      have p10 := HP2.out.at_ 10 rfl
                      have p11 := HP2.out.at_ 11 rfl
                      have p12 := HP2.out.at_ 12 rfl
                      have p13 := HP2.out.at_ 13 rfl
                      cases b9 with
                      | false =>
                        have HV := Lib.hid (show ¬ TaskR ((x0, x1), x2, x3, x4, x5, x6, (x7, x8), x9, x10, x11, x12, L) from fun h => by have h2 := (h.2.2.2.2.2.2.2.2.1.2 H9.out).2.1; rw [HBB.out] at h2; cases h2)
                        go_wp2
                        go_ret
                        exact resB_no HV.out HB2.out
                      | true =>
                        obtain ⟨q, hq⟩ : ∃ q, decide (((x7, x8) : Int × Int) = (x0, x1)) = q := ⟨_, rfl⟩
                        have hqq := eql_lab x7 x8 x0 x1 q hq
                        have HQ := Lib.hid hq
                        clear hq
                        cases q with
                        | false =>
                          have HD := Lib.hid (show DepR x0 x1 x2 x7 x8 x9 from ⟨fun h => absurd h H9.out, fun _ => ⟨H8.out, HBB.out, fun h => of_decide_eq_false HQ.out (by rw [h.1.1, h.1.2])⟩⟩)
                          by_cases h2 : x11 = 2
                          · have h2' : (x11 == 2) = true := beq_iff_eq.2 h2
                            have HS := Lib.hid (show Has x11 L from Or.inl h2)
                            go_wp2_with fail
                            refine (timeS_at _ H10.out _).mono ?_
                            rintro e w9 ⟨rfl, rfl⟩
                            cases b10 with
                            | false =>
                              have HV := Lib.hid (show ¬ TaskR ((x0, x1), x2, x3, x4, x5, x6, (x7, x8), x9, x10, x11, x12, L) from fun h => by have h2 := (h.2.2.2.2.2.2.2.2.2.1 HS.out).1; rw [H10.out] at h2; cases h2)
                              go_wp2
                              go_ret
                              exact resB_no HV.out HB2.out
                            | true =>
                              by_cases hl : (L.length : Int) = x4
                              · have hl' : ((L.length : Int) == x4) = true := beq_iff_eq.2 hl
                                have HL := Lib.hid hl
                                clear hl
                                go_wp2_with fail
                                refine (nodes_spec ((H.out.below I_ok HB2.out).more I_ok hz2)).mono ?_
                                intro e w3 h
                                obtain ⟨b, rfl, hb, hw⟩ := resB_elim h
                                have HB := Lib.hid (HB2.out.trans (hw.mono hz2))
                                have HV := Lib.hid (show (b = true ↔ TaskR ((x0, x1), x2, x3, x4, x5, x6, (x7, x8), x9, x10, x11, x12, L)) from hb.trans ⟨fun hN => ⟨H0.out, H1.out, H2.out, H3.out, H4.out, H5.out, H6.out, H7.out, HD.out, fun _ => ⟨H10.out, HL.out, hN⟩, fun h => absurd HS.out h⟩, fun h => (h.2.2.2.2.2.2.2.2.2.1 HS.out).2.2⟩)
                                clear h hb hw
                                go_wp2
                                go_ret
                                exact ⟨b, rfl, HV.out, HB.out⟩
                              · have hl' : ((L.length : Int) == x4) = false := beq_eq_false_iff_ne.2 hl
                                have HV := Lib.hid (show ¬ TaskR ((x0, x1), x2, x3, x4, x5, x6, (x7, x8), x9, x10, x11, x12, L) from fun h => hl (h.2.2.2.2.2.2.2.2.2.1 HS.out).2.1)
                                go_wp2
                                go_ret
                                exact resB_no HV.out HB2.out
                          · have h2' : (x11 == 2) = false := beq_eq_false_iff_ne.2 h2
                            by_cases h1 : x11 = 1
                            · have h1' : (x11 == 1) = true := beq_iff_eq.2 h1
                              by_cases hp : 0 < L.length
                              · have hp' : decide ((0 : Int) < (L.length : Int)) = true := decide_eq_true (by omega)
                                have HS := Lib.hid (show Has x11 L from Or.inr ⟨h1, hp⟩)
                                go_wp2_with fail
                                refine (timeS_at _ H10.out _).mono ?_
                                rintro e w9 ⟨rfl, rfl⟩
                                cases b10 with
                                | false =>
                                  have HV := Lib.hid (show ¬ TaskR ((x0, x1), x2, x3, x4, x5, x6, (x7, x8), x9, x10, x11, x12, L) from fun h => by have h2 := (h.2.2.2.2.2.2.2.2.2.1 HS.out).1; rw [H10.out] at h2; cases h2)
                                  go_wp2
                                  go_ret
                                  exact resB_no HV.out HB2.out
                                | true =>
                                  by_cases hl : (L.length : Int) = x4
                                  · have hl' : ((L.length : Int) == x4) = true := beq_iff_eq.2 hl
                                    have HL := Lib.hid hl
                                    clear hl
                                    go_wp2_with fail
                                    refine (nodes_spec ((H.out.below I_ok HB2.out).more I_ok hz2)).mono ?_
                                    intro e w3 h
                                    obtain ⟨b, rfl, hb, hw⟩ := resB_elim h
                                    have HB := Lib.hid (HB2.out.trans (hw.mono hz2))
                                    have HV := Lib.hid (show (b = true ↔ TaskR ((x0, x1), x2, x3, x4, x5, x6, (x7, x8), x9, x10, x11, x12, L)) from hb.trans ⟨fun hN => ⟨H0.out, H1.out, H2.out, H3.out, H4.out, H5.out, H6.out, H7.out, HD.out, fun _ => ⟨H10.out, HL.out, hN⟩, fun h => absurd HS.out h⟩, fun h => (h.2.2.2.2.2.2.2.2.2.1 HS.out).2.2⟩)
                                    clear h hb hw
                                    go_wp2
                                    go_ret
                                    exact ⟨b, rfl, HV.out, HB.out⟩
                                  · have hl' : ((L.length : Int) == x4) = false := beq_eq_false_iff_ne.2 hl
                                    have HV := Lib.hid (show ¬ TaskR ((x0, x1), x2, x3, x4, x5, x6, (x7, x8), x9, x10, x11, x12, L) from fun h => hl (h.2.2.2.2.2.2.2.2.2.1 HS.out).2.1)
                                    go_wp2
                                    go_ret
                                    exact resB_no HV.out HB2.out
                              · have hp' : decide ((0 : Int) < (L.length : Int)) = false := decide_eq_false (by omega)
                                have HS := Lib.hid (show ¬ Has x11 L from fun h => h.elim h2 (fun h => hp h.2))
                                by_cases h7 : x12 = 0
                                · have h7' : (x12 == 0) = true := beq_iff_eq.2 h7
                                  have H12 := Lib.hid h7
                                  clear h7
                                  obtain rfl : L = [] := List.eq_nil_of_length_eq_zero (by omega)
                                  clear hp hp' hn
                                  have HV := Lib.hid (show TaskR ((x0, x1), x2, x3, x4, x5, x6, (x7, x8), x9, x10, x11, x12, []) from ⟨H0.out, H1.out, H2.out, H3.out, H4.out, H5.out, H6.out, H7.out, HD.out, fun h => absurd h HS.out, fun _ => ⟨H12.out, rfl⟩⟩)
                                  go_wp2
                                  go_ret
                                  exact resB_yes HV.out HB2.out
                                · have h7' : (x12 == 0) = false := beq_eq_false_iff_ne.2 h7
                                  have HV := Lib.hid (show ¬ TaskR ((x0, x1), x2, x3, x4, x5, x6, (x7, x8), x9, x10, x11, x12, L) from fun h => h7 (h.2.2.2.2.2.2.2.2.2.2 HS.out).1)
                                  go_wp2
                                  go_ret
                                  exact resB_no HV.out HB2.out
                            · have h1' : (x11 == 1) = false := beq_eq_false_iff_ne.2 h1
                              have HS := Lib.hid (show ¬ Has x11 L from fun h => h.elim h2 (fun h => h1 h.1))
                              by_cases h7 : x12 = 0
                              · have h7' : (x12 == 0) = true := beq_iff_eq.2 h7
                                have H12 := Lib.hid h7
                                clear h7
                                by_cases hl : L.length = 0
                                · have hl' : ((L.length : Int) == 0) = true := beq_iff_eq.2 (by omega)
                                  have HL := Lib.hid hl
                                  clear hl
                                  have HV := Lib.hid (show TaskR ((x0, x1), x2, x3, x4, x5, x6, (x7, x8), x9, x10, x11, x12, L) from ⟨H0.out, H1.out, H2.out, H3.out, H4.out, H5.out, H6.out, H7.out, HD.out, fun h => absurd h HS.out, fun _ => ⟨H12.out, HL.out⟩⟩)
                                  go_wp2
                                  go_ret
                                  exact resB_yes HV.out HB2.out
                                · have hl' : ((L.length : Int) == 0) = false := beq_eq_false_iff_ne.2 (by omega)
                                  have HV := Lib.hid (show ¬ TaskR ((x0, x1), x2, x3, x4, x5, x6, (x7, x8), x9, x10, x11, x12, L) from fun h => hl (h.2.2.2.2.2.2.2.2.2.2 HS.out).2)
                                  go_wp2
                                  go_ret
                                  exact resB_no HV.out HB2.out
                              · have h7' : (x12 == 0) = false := beq_eq_false_iff_ne.2 h7
                                have HV := Lib.hid (show ¬ TaskR ((x0, x1), x2, x3, x4, x5, x6, (x7, x8), x9, x10, x11, x12, L) from fun h => h7 (h.2.2.2.2.2.2.2.2.2.2 HS.out).1)
                                go_wp2
                                go_ret
                                exact resB_no HV.out HB2.out
                        | true =>
                          by_cases hle : x2 ≤ x9
                          · have hle' : decide (x2 ≤ x9) = true := decide_eq_true hle
                            have HV := Lib.hid (show ¬ TaskR ((x0, x1), x2, x3, x4, x5, x6, (x7, x8), x9, x10, x11, x12, L) from fun h => (h.2.2.2.2.2.2.2.2.1.2 H9.out).2.2 ⟨by have h2 := of_decide_eq_true HQ.out; simpa using h2, hle⟩)
                            go_wp2
                            go_ret
                            exact resB_no HV.out HB2.out
                          · have hle' : decide (x2 ≤ x9) = false := decide_eq_false hle
                            have HD := Lib.hid (show DepR x0 x1 x2 x7 x8 x9 from ⟨fun h => absurd h H9.out, fun _ => ⟨H8.out, HBB.out, fun h => hle h.2⟩⟩)
                            by_cases h2 : x11 = 2
                            · have h2' : (x11 == 2) = true := beq_iff_eq.2 h2
                              have HS := Lib.hid (show Has x11 L from Or.inl h2)
                              go_wp2_with fail
                              refine (timeS_at _ H10.out _).mono ?_
                              rintro e w9 ⟨rfl, rfl⟩
                              cases b10 with
                              | false =>
                                have HV := Lib.hid (show ¬ TaskR ((x0, x1), x2, x3, x4, x5, x6, (x7, x8), x9, x10, x11, x12, L) from fun h => by have h2 := (h.2.2.2.2.2.2.2.2.2.1 HS.out).1; rw [H10.out] at h2; cases h2)
                                go_wp2
                                go_ret
                                exact resB_no HV.out HB2.out
                              | true =>
                                by_cases hl : (L.length : Int) = x4
                                · have hl' : ((L.length : Int) == x4) = true := beq_iff_eq.2 hl
                                  have HL := Lib.hid hl
                                  clear hl
                                  go_wp2_with fail
                                  refine (nodes_spec ((H.out.below I_ok HB2.out).more I_ok hz2)).mono ?_
                                  intro e w3 h
                                  obtain ⟨b, rfl, hb, hw⟩ := resB_elim h
                                  have HB := Lib.hid (HB2.out.trans (hw.mono hz2))
                                  have HV := Lib.hid (show (b = true ↔ TaskR ((x0, x1), x2, x3, x4, x5, x6, (x7, x8), x9, x10, x11, x12, L)) from hb.trans ⟨fun hN => ⟨H0.out, H1.out, H2.out, H3.out, H4.out, H5.out, H6.out, H7.out, HD.out, fun _ => ⟨H10.out, HL.out, hN⟩, fun h => absurd HS.out h⟩, fun h => (h.2.2.2.2.2.2.2.2.2.1 HS.out).2.2⟩)
                                  clear h hb hw
                                  go_wp2
                                  go_ret
                                  exact ⟨b, rfl, HV.out, HB.out⟩
                                · have hl' : ((L.length : Int) == x4) = false := beq_eq_false_iff_ne.2 hl
                                  have HV := Lib.hid (show ¬ TaskR ((x0, x1), x2, x3, x4, x5, x6, (x7, x8), x9, x10, x11, x12, L) from fun h => hl (h.2.2.2.2.2.2.2.2.2.1 HS.out).2.1)
                                  go_wp2
                                  go_ret
                                  exact resB_no HV.out HB2.out
                            · have h2' : (x11 == 2) = false := beq_eq_false_iff_ne.2 h2
                              by_cases h1 : x11 = 1
                              · have h1' : (x11 == 1) = true := beq_iff_eq.2 h1
                                by_cases hp : 0 < L.length
                                · have hp' : decide ((0 : Int) < (L.length : Int)) = true := decide_eq_true (by omega)
                                  have HS := Lib.hid (show Has x11 L from Or.inr ⟨h1, hp⟩)
                                  go_wp2_with fail
                                  refine (timeS_at _ H10.out _).mono ?_
                                  rintro e w9 ⟨rfl, rfl⟩
                                  cases b10 with
                                  | false =>
                                    have HV := Lib.hid (show ¬ TaskR ((x0, x1), x2, x3, x4, x5, x6, (x7, x8), x9, x10, x11, x12, L) from fun h => by have h2 := (h.2.2.2.2.2.2.2.2.2.1 HS.out).1; rw [H10.out] at h2; cases h2)
                                    go_wp2
                                    go_ret
                                    exact resB_no HV.out HB2.out
                                  | true =>
                                    by_cases hl : (L.length : Int) = x4
                                    · have hl' : ((L.length : Int) == x4) = true := beq_iff_eq.2 hl
                                      have HL := Lib.hid hl
                                      clear hl
                                      go_wp2_with fail
                                      refine (nodes_spec ((H.out.below I_ok HB2.out).more I_ok hz2)).mono ?_
                                      intro e w3 h
                                      obtain ⟨b, rfl, hb, hw⟩ := resB_elim h
                                      have HB := Lib.hid (HB2.out.trans (hw.mono hz2))
                                      have HV := Lib.hid (show (b = true ↔ TaskR ((x0, x1), x2, x3, x4, x5, x6, (x7, x8), x9, x10, x11, x12, L)) from hb.trans ⟨fun hN => ⟨H0.out, H1.out, H2.out, H3.out, H4.out, H5.out, H6.out, H7.out, HD.out, fun _ => ⟨H10.out, HL.out, hN⟩, fun h => absurd HS.out h⟩, fun h => (h.2.2.2.2.2.2.2.2.2.1 HS.out).2.2⟩)
                                      clear h hb hw
                                      go_wp2
                                      go_ret
                                      exact ⟨b, rfl, HV.out, HB.out⟩
                                    · have hl' : ((L.length : Int) == x4) = false := beq_eq_false_iff_ne.2 hl
                                      have HV := Lib.hid (show ¬ TaskR ((x0, x1), x2, x3, x4, x5, x6, (x7, x8), x9, x10, x11, x12, L) from fun h => hl (h.2.2.2.2.2.2.2.2.2.1 HS.out).2.1)
                                      go_wp2
                                      go_ret
                                      exact resB_no HV.out HB2.out
                                · have hp' : decide ((0 : Int) < (L.length : Int)) = false := decide_eq_false (by omega)
                                  have HS := Lib.hid (show ¬ Has x11 L from fun h => h.elim h2 (fun h => hp h.2))
                                  by_cases h7 : x12 = 0
                                  · have h7' : (x12 == 0) = true := beq_iff_eq.2 h7
                                    have H12 := Lib.hid h7
                                    clear h7
                                    obtain rfl : L = [] := List.eq_nil_of_length_eq_zero (by omega)
                                    clear hp hp' hn
                                    have HV := Lib.hid (show TaskR ((x0, x1), x2, x3, x4, x5, x6, (x7, x8), x9, x10, x11, x12, []) from ⟨H0.out, H1.out, H2.out, H3.out, H4.out, H5.out, H6.out, H7.out, HD.out, fun h => absurd h HS.out, fun _ => ⟨H12.out, rfl⟩⟩)
                                    go_wp2
                                    go_ret
                                    exact resB_yes HV.out HB2.out
                                  · have h7' : (x12 == 0) = false := beq_eq_false_iff_ne.2 h7
                                    have HV := Lib.hid (show ¬ TaskR ((x0, x1), x2, x3, x4, x5, x6, (x7, x8), x9, x10, x11, x12, L) from fun h => h7 (h.2.2.2.2.2.2.2.2.2.2 HS.out).1)
                                    go_wp2
                                    go_ret
                                    exact resB_no HV.out HB2.out
                              · have h1' : (x11 == 1) = false := beq_eq_false_iff_ne.2 h1
                                have HS := Lib.hid (show ¬ Has x11 L from fun h => h.elim h2 (fun h => h1 h.1))
                                by_cases h7 : x12 = 0
                                · have h7' : (x12 == 0) = true := beq_iff_eq.2 h7
                                  have H12 := Lib.hid h7
                                  clear h7
                                  by_cases hl : L.length = 0
                                  · have hl' : ((L.length : Int) == 0) = true := beq_iff_eq.2 (by omega)
                                    have HL := Lib.hid hl
                                    clear hl
                                    have HV := Lib.hid (show TaskR ((x0, x1), x2, x3, x4, x5, x6, (x7, x8), x9, x10, x11, x12, L) from ⟨H0.out, H1.out, H2.out, H3.out, H4.out, H5.out, H6.out, H7.out, HD.out, fun h => absurd h HS.out, fun _ => ⟨H12.out, HL.out⟩⟩)
                                    go_wp2
                                    go_ret
                                    exact resB_yes HV.out HB2.out
                                  · have hl' : ((L.length : Int) == 0) = false := beq_eq_false_iff_ne.2 (by omega)
                                    have HV := Lib.hid (show ¬ TaskR ((x0, x1), x2, x3, x4, x5, x6, (x7, x8), x9, x10, x11, x12, L) from fun h => hl (h.2.2.2.2.2.2.2.2.2.2 HS.out).2)
                                    go_wp2
                                    go_ret
                                    exact resB_no HV.out HB2.out
                                · have h7' : (x12 == 0) = false := beq_eq_false_iff_ne.2 h7
                                  have HV := Lib.hid (show ¬ TaskR ((x0, x1), x2, x3, x4, x5, x6, (x7, x8), x9, x10, x11, x12, L) from fun h => h7 (h.2.2.2.2.2.2.2.2.2.2 HS.out).1)
                                  go_wp2
                                  go_ret
                                  exact resB_no HV.out HB2.out
end Go.Proofs.Ytkghodbbgehcoaa.RepC
end
section
namespace Go.Proofs.Ytkghodbbgehcoaa.RepC
open Go.RowKit RowC ValC SpanC KeptC
set_option linter.unusedVariables false
set_option linter.unusedSimpArgs false
theorem wi_at (n lo hi : Int) {b : Bool} (hb : isB n lo hi = b) (w : World) :
    Calls Try.prog 106 #[.int .i64 n, .int .i64 lo, .int .i64 hi] w fun e w' => e = .returned (.bool b) ∧ w = w' := by
  subst hb
  exact is_impl n lo hi w
theorem ti_at (n : Int) {b : Bool} (hb : isB n 0 1000000 = b) (w : World) :
    Calls Try.prog 136 #[.int .i64 n] w fun e w' => e = .returned (.bool b) ∧ w = w' := by
  subst hb
  exact time_impl n w
theorem labi_below (l s : Int) {b : Bool} (hb : LabC.rB l s = b) (w : World) :
    Calls Try.prog 56 #[.agg #[.int .i64 l, .int .i64 s]] w fun e w' => e = .returned (.bool b) ∧ Below w.heap.size w w' := by
  subst hb
  exact (LabC.right_impl l s w).mono fun _ _ ⟨h1, h2⟩ => ⟨h1, by rw [← h2]; exact (Below.refl _ _).alloc (Nat.le_refl _) _⟩
theorem isB_io {n lo hi : Int} : isB n lo hi = true ↔ lo ≤ n ∧ n ≤ hi := isB_iff n lo hi
theorem okN_first {L : List Int} {x : Int} (hx : L[0]? = some x) : isB x 0 5 = true ↔ okN L 0 :=
  ⟨fun h y hy => by rw [hx] at hy; obtain rfl := Option.some.inj hy; exact ⟨h, fun h => absurd h (Nat.lt_irrefl _)⟩, fun h => (h x hx).1⟩
theorem okN_next {L : List Int} {k : Nat} {x y : Int} (hx : L[k]? = some x) (hr : isB x 0 5 = true) (hy : L[k + 1]? = some y) : isB y (x + 1) 5 = true ↔ okN L (k + 1) := by
  rw [isB_io] at hr ⊢
  constructor
  · intro h z hz
    rw [hy] at hz
    obtain rfl := Option.some.inj hz
    refine ⟨isB_io.2 (by omega), fun _ u hu => ?_⟩
    rw [Nat.add_sub_cancel, hx] at hu
    obtain rfl := Option.some.inj hu
    omega
  · intro h
    obtain ⟨h1, h2⟩ := h y hy
    have h3 := h2 (Nat.succ_pos _) x (by rw [Nat.add_sub_cancel]; exact hx)
    rw [isB_io] at h1
    omega
set_option maxRecDepth 100000 in
set_option maxHeartbeats 3200000 in
theorem nodes_impl {L : List Int} {a : Option Addr} {cap : Nat} {W : World} (h : RdSl I W W.heap.size L a cap) :
    Calls Try.prog 137 #[.slice a L.length cap] W (ResB (NodesR L) W) := by
  have hn : L.length ≤ 9223372036854775807 := by have h1 := h.1; have h2 := h.2.1; unfold maxLen at h2; omega
  have H := Lib.hid h
  clear h
  go_enter Try.func137, Try.ntmps137
  go_wp2
  go_loopw [3, 8] (fun l i wr => ∃ k : Nat, k ≤ L.length ∧ i = .int .i64 k ∧ (∃ m : Int, l = .int .i64 m ∧ 0 ≤ m ∧ m ≤ 6 ∧ Hid (∀ x, L[k]? = some x → (isB x m 5 = true ↔ okN L k))) ∧ Hid (∀ j, j < k → okN L j) ∧ Below W.heap.size W wr) (fun _ i _ => L.length - (intOf i).toNat)
  case atStart => exact ⟨0, Nat.zero_le _, rfl, ⟨0, rfl, by omega, by omega, Lib.hid fun x hx => okN_first hx⟩, Lib.hid fun j h => absurd h (Nat.not_lt_zero _), Below.refl _ _⟩
  case round =>
    obtain ⟨k, hk, rfl, ⟨m, rfl, hm0, hm6, HM⟩, HA, hB⟩ := hrel
    have HB := Lib.hid hB
    have hsz := hB.size
    by_cases hlt : k < L.length
    · obtain ⟨x, hx⟩ := el_some hlt
      have HX := Lib.hid hx
      obtain ⟨g, o, us, rfl, hg, hu, hr⟩ := (H.out.below I_ok hB).at_ hx
      obtain rfl : us = [_] := hr
      have hc0 : wr.cell? ⟨g, o + k, none⟩ = some (.int .i64 x) := by simpa [show I.size = 1 from rfl] using hu 0 _ rfl
      have hi0 : (0 : Int) ≤ (k : Int) := Int.natCast_nonneg _
      have hi1 : (k : Int) < (L.length : Int) := by omega
      clear hB hx hu
      obtain ⟨b, hb⟩ : ∃ b, isB x m 5 = b := ⟨_, rfl⟩
      have HR := Lib.hid hb
      clear hb
      go_wp2_with fail
      refine (wi_at _ _ _ HR.out _).mono ?_
      rintro e w2 ⟨rfl, rfl⟩
      cases b with
      | false =>
        have Hno := Lib.hid (show ¬ NodesR L from fun h => by have := (HM.out x HX.out).2 (h k hlt); rw [HR.out] at this; cases this)
        go_wp2
        go_ret
        exact resB_no Hno.out HB.out
      | true =>
        have hxb : m ≤ x ∧ x ≤ 5 := isB_io.1 HR.out
        have hx1 : IntKind.i64.wrap (x + 1) = x + 1 := IntWalk.i64_in _ (by omega)
        have hx0 := hxb.1
        have hx5 := hxb.2
        clear hxb
        have HOK := Lib.hid (all_step HA.out ((HM.out x HX.out).1 HR.out))
        have HN := Lib.hid (fun y (hy : L[k + 1]? = some y) => okN_next HX.out (isB_io.2 ⟨by omega, hx5⟩) hy)
        go_wp2
        go_roundw
        case rel => exact ⟨k + 1, by omega, by go_num, ⟨x + 1, by go_num, by omega, by omega, HN⟩, HOK, HB.out⟩
        case measure => simp [intOf]; omega
    · have Hy := Lib.hid (show NodesR L from fun i hi => HA.out i (by omega))
      clear hB
      go_wp2
      go_ret
      exact resB_yes Hy.out HB.out
set_option maxHeartbeats 1600000 in
theorem wish_impl {x3 x4 x5 : Int} {b : Bool} (hb : (isB x3 1 6 && (isB x4 1 20 && isB x5 0 9)) = b) (W : World) : Calls Try.prog 76 #[.int .i64 x3, .int .i64 x4, .int .i64 x5] W fun e w' => e = .returned (.bool b) ∧ W = w' := by
  obtain ⟨b1, h1⟩ : ∃ b, isB x3 1 6 = b := ⟨_, rfl⟩
  obtain ⟨b2, h2⟩ : ∃ b, isB x4 1 20 = b := ⟨_, rfl⟩
  obtain ⟨b3, h3⟩ : ∃ b, isB x5 0 9 = b := ⟨_, rfl⟩
  rw [h1, h2, h3] at hb
  subst hb
  have H1 := Lib.hid h1
  have H2 := Lib.hid h2
  have H3 := Lib.hid h3
  clear h1 h2 h3
  go_enter Try.func76, Try.ntmps76
  go_wp2_with fail
  refine (wi_at _ _ _ H1.out _).mono ?_
  rintro e w2 ⟨rfl, rfl⟩
  cases b1 with
  | false =>
    go_wp2
    go_ret
    exact ⟨rfl, rfl⟩
  | true =>
    go_wp2_with fail
    refine (wi_at _ _ _ H2.out _).mono ?_
    rintro e w2 ⟨rfl, rfl⟩
    cases b2 with
    | false =>
      go_wp2
      go_ret
      exact ⟨rfl, rfl⟩
    | true =>
      go_wp2_with fail
      refine (wi_at _ _ _ H3.out _).mono ?_
      rintro e w2 ⟨rfl, rfl⟩
      go_wp2
      go_ret
      exact ⟨by simp, rfl⟩
end Go.Proofs.Ytkghodbbgehcoaa.RepC
end
section
namespace Go.Proofs.Ytkghodbbgehcoaa.RepC
open Go.RowKit RowC ValC SpanC KeptC NameC
set_option linter.unusedVariables false
set_option linter.unusedSimpArgs false
theorem tid_at (n : Int) {b : Bool} (hb : isB n 1 12 = b) (w : World) :
    Calls Try.prog 75 #[.int .i64 n] w fun e w' => e = .returned (.bool b) ∧ w = w' := by
  subst hb
  go_enter Try.func75, Try.ntmps75
  go_wp2_with (go_at_call 106; refine (is_impl _ _ _ _).mono ?_; rintro e w' ⟨rfl, rfl⟩)
  go_ret
  exact ⟨rfl, rfl⟩
theorem nowI_at (n : Int) {b : Bool} (hb : isB n 0 999900 = b) (w : World) :
    Calls Try.prog 78 #[.int .i64 n] w fun e w' => e = .returned (.bool b) ∧ w = w' := by
  subst hb
  go_enter Try.func78, Try.ntmps78
  go_wp2_with (go_at_call 106; refine (is_impl _ _ _ _).mono ?_; rintro e w' ⟨rfl, rfl⟩)
  go_ret
  exact ⟨rfl, rfl⟩
def nopB (start : Int) (L : List Int) : Bool := decide (start = 0) && decide (L.length = 0)
theorem nopB_iff {start : Int} {L : List Int} : nopB start L = true ↔ NoP start L := by simp [nopB, NoP]
theorem nop_at (start : Int) {L : List Int} {a : Option Addr} {c : Nat} {b : Bool} (hb : nopB start L = b) (hn : L.length ≤ 9223372036854775807) (w : World) :
    Calls Try.prog 118 #[.int .i64 start, .slice a L.length c] w fun e w' => e = .returned (.bool b) ∧ w = w' := by
  subst hb
  by_cases h1 : start = 0
  · have h1' : (start == 0) = true := beq_iff_eq.2 h1
    by_cases h2 : L.length = 0
    · have h2' : ((L.length : Int) == 0) = true := beq_iff_eq.2 (by omega)
      have HE := Lib.hid (show nopB start L = true from nopB_iff.2 ⟨h1, h2⟩)
      clear h1 h2
      go_enter Try.func118, Try.ntmps118
      go_wp2
      go_ret
      exact ⟨by rw [HE.out]; rfl, rfl⟩
    · have h2' : ((L.length : Int) == 0) = false := beq_eq_false_iff_ne.2 (by omega)
      have HE := Lib.hid (show nopB start L = false from by rw [Bool.eq_false_iff, ne_eq, nopB_iff]; exact fun h => h2 h.2)
      clear h1
      go_enter Try.func118, Try.ntmps118
      go_wp2
      go_ret
      exact ⟨by rw [HE.out]; rfl, rfl⟩
  · have h1' : (start == 0) = false := beq_eq_false_iff_ne.2 h1
    have HE := Lib.hid (show nopB start L = false from by rw [Bool.eq_false_iff, ne_eq, nopB_iff]; exact fun h => h1 h.1)
    go_enter Try.func118, Try.ntmps118
    go_wp2
    go_ret
    exact ⟨by rw [HE.out]; rfl, rfl⟩
set_option maxRecDepth 100000 in
set_option maxHeartbeats 1600000 in
theorem place_impl (need start : Int) {L : List Int} {a : Option Addr} {c : Nat} {W : World} (h : RdSl I W W.heap.size L a c) :
    Calls Try.prog 117 #[.int .i64 need, .int .i64 start, .slice a L.length c] W (ResB (PlR need start L) W) := by
  have hn : L.length ≤ 9223372036854775807 := by have h1 := h.1; have h2 := h.2.1; unfold maxLen at h2; omega
  have H := Lib.hid h
  clear h
  obtain ⟨b, hb⟩ : ∃ b, isB start 0 1000000 = b := ⟨_, rfl⟩
  have HB := Lib.hid hb
  clear hb
  go_enter Try.func117, Try.ntmps117
  go_wp2_with fail
  refine (ti_at _ HB.out _).mono ?_
  rintro e w2 ⟨rfl, rfl⟩
  cases b with
  | false =>
    have HV := Lib.hid (show ¬ PlR need start L from fun h => by have h2 := h.1; rw [HB.out] at h2; cases h2)
    go_wp2
    go_ret
    exact resB_no HV.out (Below.refl _ _)
  | true =>
    by_cases hl : (L.length : Int) = need
    · have hl' : ((L.length : Int) == need) = true := beq_iff_eq.2 hl
      have HL := Lib.hid hl
      clear hl
      go_wp2_with fail
      refine (nodes_impl H.out).mono ?_
      intro e w3 h
      obtain ⟨b, rfl, hb, hw⟩ := resB_elim h
      have HV := Lib.hid (show (b = true ↔ PlR need start L) from hb.trans ⟨fun hN => ⟨HB.out, HL.out, hN⟩, fun h => h.2.2⟩)
      have HW := Lib.hid hw
      clear h hb hw
      go_wp2
      go_ret
      exact ⟨b, rfl, HV.out, HW.out⟩
    · have hl' : ((L.length : Int) == need) = false := beq_eq_false_iff_ne.2 hl
      have HV := Lib.hid (show ¬ PlR need start L from fun h => hl h.2.1)
      go_wp2
      go_ret
      exact resB_no HV.out (Below.refl _ _)
set_option maxRecDepth 100000 in
set_option maxHeartbeats 3200000 in
theorem dep_impl {x0 x1 x2 : Int} {x3 : ByteArray} {x4 x5 x6 x7 x8 x9 x10 x11 x12 : Int} {L : List Int} {a : Option Addr} {c : Nat} {W : World} : Calls Try.prog 77 #[.agg #[.int .i64 x0, .int .i64 x1, .int .i64 x2, .string x3, .int .i64 x4, .int .i64 x5, .int .i64 x6, .int .i64 x7, .int .i64 x8, .int .i64 x9, .int .i64 x10, .int .i64 x11, .int .i64 x12, .slice a L.length c]] W (ResB (DepR x0 x1 x2 x7 x8 x9) W) := by
  have HB0 := Lib.hid (show Below W.heap.size W (W.alloc (.cells #[.int .i64 x0, .int .i64 x1, .int .i64 x2, .string x3, .int .i64 x4, .int .i64 x5, .int .i64 x6, .int .i64 x7, .int .i64 x8, .int .i64 x9, .int .i64 x10, .int .i64 x11, .int .i64 x12, .slice a L.length c] 43)) from (Below.refl _ _).alloc (Nat.le_refl _) _)
  have HP0 := Lib.hid (Blk.new W 43 #[.int .i64 x0, .int .i64 x1, .int .i64 x2, .string x3, .int .i64 x4, .int .i64 x5, .int .i64 x6, .int .i64 x7, .int .i64 x8, .int .i64 x9, .int .i64 x10, .int .i64 x11, .int .i64 x12, .slice a L.length c])
  have hz0 : W.heap.size ≤ (W.alloc (.cells #[.int .i64 x0, .int .i64 x1, .int .i64 x2, .string x3, .int .i64 x4, .int .i64 x5, .int .i64 x6, .int .i64 x7, .int .i64 x8, .int .i64 x9, .int .i64 x10, .int .i64 x11, .int .i64 x12, .slice a L.length c] 43)).heap.size := HB0.out.size
  obtain ⟨b8, h8⟩ : ∃ b, isB x9 1 12 = b := ⟨_, rfl⟩
  obtain ⟨b9, hh⟩ : ∃ b, LabC.belowB x7 x8 x0 x1 = b := ⟨_, rfl⟩
  have H8 := Lib.hid h8
  have HBB := Lib.hid hh
  clear h8 hh
  by_cases h9 : x9 = 0
  · have h9' : (x9 == 0) = true := beq_iff_eq.2 h9
    obtain ⟨q, hq⟩ : ∃ q, decide (((x7, x8) : Int × Int) = (0, 0)) = q := ⟨_, rfl⟩
    have hqq := eql_lab x7 x8 0 0 q hq
    have HQ := Lib.hid hq
    have H9 := Lib.hid h9
    clear hq h9
    cases q with
    | false =>
      have HV := Lib.hid (show ¬ DepR x0 x1 x2 x7 x8 x9 from fun h => by have h2 := h.1 H9.out; exact of_decide_eq_false HQ.out (by rw [h2.1, h2.2]))
      go_enter Try.func77, Try.ntmps77
      go_wp2
      go_ret
      exact resB_no HV.out HB0.out
    | true =>
      have HV := Lib.hid (show DepR x0 x1 x2 x7 x8 x9 from ⟨fun _ => by have h2 := of_decide_eq_true HQ.out; simpa using h2, fun h => absurd H9.out h⟩)
      go_enter Try.func77, Try.ntmps77
      go_wp2
      go_ret
      exact resB_yes HV.out HB0.out
  · have h9' : (x9 == 0) = false := beq_eq_false_iff_ne.2 h9
    have H9 := Lib.hid h9
    clear h9
    go_enter Try.func77, Try.ntmps77
    go_wp2_with fail
    refine (tid_at _ H8.out _).mono ?_
    rintro e w2 ⟨rfl, rfl⟩
    cases b8 with
    | false =>
      have HV := Lib.hid (show ¬ DepR x0 x1 x2 x7 x8 x9 from fun h => by have h2 := (h.2 H9.out).1; rw [H8.out] at h2; cases h2)
      go_wp2
      go_ret
      exact resB_no HV.out HB0.out
    | true =>
      go_wp2_with fail
      refine (belI_at _ _ _ _ HBB.out _).mono ?_
      rintro e w1 ⟨rfl, hb⟩
      have HP1 := Lib.hid (HP0.out.call hb)
      have HB1 := Lib.hid (HB0.out.trans (hb.mono hz0))
      have hz1 : W.heap.size ≤ w1.heap.size := HB1.out.size
      clear hb
      have p0 := HP1.out.at_ 0 rfl
      have p1 := HP1.out.at_ 1 rfl
      have p2 := HP1.out.at_ 2 rfl
      have p3 := HP1.out.at_ 3 rfl
      have p4 := HP1.out.at_ 4 rfl
      have p5 := HP1.out.at_ 5 rfl
      have p6 := HP1.out.at_ 6 rfl
      have p7 := HP1.out.at_ 7 rfl
      have p8 := HP1.out.at_ 8 rfl
      have p9 := HP1.out.at_ 9 rfl
      have p10 := HP1.out.at_ 10 rfl
      have p11 := HP1.out.at_ 11 rfl
      have p12 := HP1.out.at_ 12 rfl
      have p13 := HP1.out.at_ 13 rfl
      cases b9 with
      | false =>
        have HV := Lib.hid (show ¬ DepR x0 x1 x2 x7 x8 x9 from fun h => by have h2 := (h.2 H9.out).2.1; rw [HBB.out] at h2; cases h2)
        go_wp2
        go_ret
        exact resB_no HV.out HB1.out
      | true =>
        obtain ⟨q, hq⟩ : ∃ q, decide (((x7, x8) : Int × Int) = (x0, x1)) = q := ⟨_, rfl⟩
        have hqq := neq_lab x7 x8 x0 x1 q hq
        have HQ := Lib.hid hq
        clear hq
        cases q with
        | false =>
          have HV := Lib.hid (show DepR x0 x1 x2 x7 x8 x9 from ⟨fun h => absurd h H9.out, fun _ => ⟨H8.out, HBB.out, fun h => of_decide_eq_false HQ.out (by rw [h.1.1, h.1.2])⟩⟩)
          go_wp2
          go_ret
          exact resB_yes HV.out HB1.out
        | true =>
          by_cases hle : x9 < x2
          · have hle' : decide (x9 < x2) = true := decide_eq_true hle
            have HV := Lib.hid (show DepR x0 x1 x2 x7 x8 x9 from ⟨fun h => absurd h H9.out, fun _ => ⟨H8.out, HBB.out, fun h => by have := h.2; omega⟩⟩)
            go_wp2
            go_ret
            exact resB_yes HV.out HB1.out
          · have hle' : decide (x9 < x2) = false := decide_eq_false hle
            have HV := Lib.hid (show ¬ DepR x0 x1 x2 x7 x8 x9 from fun h => (h.2 H9.out).2.2 ⟨by have h2 := of_decide_eq_true HQ.out; simpa using h2, by omega⟩)
            go_wp2
            go_ret
            exact resB_no HV.out HB1.out
set_option maxRecDepth 100000 in
set_option maxHeartbeats 3200000 in
theorem stateT_impl {x0 x1 x2 : Int} {x3 : ByteArray} {x4 x5 x6 x7 x8 x9 x10 x11 x12 : Int} {L : List Int} {a : Option Addr} {c : Nat} {W : World} (h14 : isB x4 1 6 = true) (h : RdSl I W W.heap.size L a c) : Calls Try.prog 79 #[.agg #[.int .i64 x0, .int .i64 x1, .int .i64 x2, .string x3, .int .i64 x4, .int .i64 x5, .int .i64 x6, .int .i64 x7, .int .i64 x8, .int .i64 x9, .int .i64 x10, .int .i64 x11, .int .i64 x12, .slice a L.length c]] W (ResB ((Has x11 L → PlR x4 x12 L) ∧ (¬ Has x11 L → NoP x12 L) ∧ (1 ≤ x11 ∧ x11 ≤ 6)) W) := by
  have hn : L.length ≤ 9223372036854775807 := by have h1 := h.1; have h2 := h.2.1; unfold maxLen at h2; omega
  have H := Lib.hid h
  clear h
  have HB0 := Lib.hid (show Below W.heap.size W (W.alloc (.cells #[.int .i64 x0, .int .i64 x1, .int .i64 x2, .string x3, .int .i64 x4, .int .i64 x5, .int .i64 x6, .int .i64 x7, .int .i64 x8, .int .i64 x9, .int .i64 x10, .int .i64 x11, .int .i64 x12, .slice a L.length c] 43)) from (Below.refl _ _).alloc (Nat.le_refl _) _)
  have HP0 := Lib.hid (Blk.new W 43 #[.int .i64 x0, .int .i64 x1, .int .i64 x2, .string x3, .int .i64 x4, .int .i64 x5, .int .i64 x6, .int .i64 x7, .int .i64 x8, .int .i64 x9, .int .i64 x10, .int .i64 x11, .int .i64 x12, .slice a L.length c])
  have hz0 : W.heap.size ≤ (W.alloc (.cells #[.int .i64 x0, .int .i64 x1, .int .i64 x2, .string x3, .int .i64 x4, .int .i64 x5, .int .i64 x6, .int .i64 x7, .int .i64 x8, .int .i64 x9, .int .i64 x10, .int .i64 x11, .int .i64 x12, .slice a L.length c] 43)).heap.size := HB0.out.size
  obtain ⟨b0, h0⟩ : ∃ b, nopB x12 L = b := ⟨_, rfl⟩
  have H0 := Lib.hid h0
  clear h0
  have HN := Lib.hid hn
  have HN4 := Lib.hid h14
  clear h14
  by_cases h2 : x11 = 2
  · have h2' : (x11 == 2) = true := beq_iff_eq.2 h2
    have HS := Lib.hid (show Has x11 L from .inl h2)
    have HR := Lib.hid (show 1 ≤ x11 ∧ x11 ≤ 6 from by omega)
    clear h2
    go_enter Try.func79, Try.ntmps79
    go_wp2_with fail
    refine (place_impl x4 x12 ((H.out.below I_ok HB0.out).more I_ok hz0)).mono ?_
    intro e w3 h
    obtain ⟨b, rfl, hb, hw⟩ := resB_elim h
    have HB := Lib.hid (HB0.out.trans (hw.mono hz0))
    have HV := Lib.hid (show (b = true ↔ ((Has x11 L → PlR x4 x12 L) ∧ (¬ Has x11 L → NoP x12 L) ∧ (1 ≤ x11 ∧ x11 ≤ 6))) from hb.trans ⟨fun h => ⟨fun _ => h, fun h => absurd HS.out h, HR.out⟩, fun h => h.1 HS.out⟩)
    clear h hb hw
    go_wp2
    go_ret
    exact ⟨b, rfl, HV.out, HB.out⟩
  · have h2' : (x11 == 2) = false := beq_eq_false_iff_ne.2 h2
    by_cases h1 : x11 = 1
    · have h1' : (x11 == 1) = true := beq_iff_eq.2 h1
      have HR := Lib.hid (show 1 ≤ x11 ∧ x11 ≤ 6 from by omega)
      have HE := Lib.hid (show Has x11 L ↔ 0 < L.length from ⟨fun h => h.elim (fun h => absurd h h2) (fun h => h.2), fun h => .inr ⟨h1, h⟩⟩)
      clear h1 h2
      go_enter Try.func79, Try.ntmps79
      go_wp2_with fail
      refine (nop_at x12 H0.out HN.out _).mono ?_
      rintro e w2 ⟨rfl, rfl⟩
      cases b0 with
      | true =>
        have HV := Lib.hid (show ((Has x11 L → PlR x4 x12 L) ∧ (¬ Has x11 L → NoP x12 L) ∧ (1 ≤ x11 ∧ x11 ≤ 6)) from by have h3 := nopB_iff.1 H0.out; exact ⟨fun h => by have h4 := HE.out.1 h; have h5 := h3.2; omega, fun _ => h3, HR.out⟩)
        go_wp2
        go_ret
        exact resB_yes HV.out HB0.out
      | false =>
        go_wp2_with fail
        refine (place_impl x4 x12 ((H.out.below I_ok HB0.out).more I_ok hz0)).mono ?_
        intro e w3 h
        obtain ⟨b, rfl, hb, hw⟩ := resB_elim h
        have HB := Lib.hid (HB0.out.trans (hw.mono hz0))
        have HV := Lib.hid (show (b = true ↔ ((Has x11 L → PlR x4 x12 L) ∧ (¬ Has x11 L → NoP x12 L) ∧ (1 ≤ x11 ∧ x11 ≤ 6))) from hb.trans ⟨fun h => ⟨fun _ => h, fun h2 => by exfalso; apply h2; apply HE.out.2; by_cases hl : 0 < L.length; exact hl; exfalso; have h8 := h.2.1; have h9 := (isB_iff _ _ _).1 HN4.out; omega, HR.out⟩, fun h => h.1 (HE.out.2 (by by_cases hl : 0 < L.length; exact hl; exfalso; have h4 := h.2.1 (fun h5 => hl (HE.out.1 h5)); have h6 := nopB_iff.2 h4; rw [H0.out] at h6; cases h6))⟩)
        clear h hb hw
        go_wp2
        go_ret
        exact ⟨b, rfl, HV.out, HB.out⟩
    · have h1' : (x11 == 1) = false := beq_eq_false_iff_ne.2 h1
      have HS := Lib.hid (show ¬ Has x11 L from fun h => h.elim h2 (fun h => h1 h.1))
      by_cases h3 : x11 = 3
      · have h3' : (x11 == 3) = true := beq_iff_eq.2 h3
        have h4' : (x11 == 4) = false := beq_eq_false_iff_ne.2 (by omega)
        have h5' : (x11 == 5) = false := beq_eq_false_iff_ne.2 (by omega)
        have h6' : (x11 == 6) = false := beq_eq_false_iff_ne.2 (by omega)
        have HR := Lib.hid (show 1 ≤ x11 ∧ x11 ≤ 6 from by omega)
        clear h3 h1 h2
        go_enter Try.func79, Try.ntmps79
        go_wp2_with fail
        refine (nop_at x12 H0.out HN.out _).mono ?_
        rintro e w2 ⟨rfl, rfl⟩
        cases b0 with
        | true =>
          have HV := Lib.hid (show ((Has x11 L → PlR x4 x12 L) ∧ (¬ Has x11 L → NoP x12 L) ∧ (1 ≤ x11 ∧ x11 ≤ 6)) from ⟨fun h => absurd h HS.out, fun _ => nopB_iff.1 H0.out, HR.out⟩)
          go_wp2
          go_ret
          exact resB_yes HV.out HB0.out
        | false =>
          have HV := Lib.hid (show ¬ ((Has x11 L → PlR x4 x12 L) ∧ (¬ Has x11 L → NoP x12 L) ∧ (1 ≤ x11 ∧ x11 ≤ 6)) from fun h => by have h6 := nopB_iff.2 (h.2.1 HS.out); rw [H0.out] at h6; cases h6)
          go_wp2
          go_ret
          exact resB_no HV.out HB0.out
      have h3' : (x11 == 3) = false := beq_eq_false_iff_ne.2 h3
      by_cases h4 : x11 = 4
      · have h4' : (x11 == 4) = true := beq_iff_eq.2 h4
        have h5' : (x11 == 5) = false := beq_eq_false_iff_ne.2 (by omega)
        have h6' : (x11 == 6) = false := beq_eq_false_iff_ne.2 (by omega)
        have HR := Lib.hid (show 1 ≤ x11 ∧ x11 ≤ 6 from by omega)
        clear h4 h1 h2
        go_enter Try.func79, Try.ntmps79
        go_wp2_with fail
        refine (nop_at x12 H0.out HN.out _).mono ?_
        rintro e w2 ⟨rfl, rfl⟩
        cases b0 with
        | true =>
          have HV := Lib.hid (show ((Has x11 L → PlR x4 x12 L) ∧ (¬ Has x11 L → NoP x12 L) ∧ (1 ≤ x11 ∧ x11 ≤ 6)) from ⟨fun h => absurd h HS.out, fun _ => nopB_iff.1 H0.out, HR.out⟩)
          go_wp2
          go_ret
          exact resB_yes HV.out HB0.out
        | false =>
          have HV := Lib.hid (show ¬ ((Has x11 L → PlR x4 x12 L) ∧ (¬ Has x11 L → NoP x12 L) ∧ (1 ≤ x11 ∧ x11 ≤ 6)) from fun h => by have h6 := nopB_iff.2 (h.2.1 HS.out); rw [H0.out] at h6; cases h6)
          go_wp2
          go_ret
          exact resB_no HV.out HB0.out
      have h4' : (x11 == 4) = false := beq_eq_false_iff_ne.2 h4
      by_cases h5 : x11 = 5
      · have h5' : (x11 == 5) = true := beq_iff_eq.2 h5
        have h6' : (x11 == 6) = false := beq_eq_false_iff_ne.2 (by omega)
        have HR := Lib.hid (show 1 ≤ x11 ∧ x11 ≤ 6 from by omega)
        clear h5 h1 h2
        go_enter Try.func79, Try.ntmps79
        go_wp2_with fail
        refine (nop_at x12 H0.out HN.out _).mono ?_
        rintro e w2 ⟨rfl, rfl⟩
        cases b0 with
        | true =>
          have HV := Lib.hid (show ((Has x11 L → PlR x4 x12 L) ∧ (¬ Has x11 L → NoP x12 L) ∧ (1 ≤ x11 ∧ x11 ≤ 6)) from ⟨fun h => absurd h HS.out, fun _ => nopB_iff.1 H0.out, HR.out⟩)
          go_wp2
          go_ret
          exact resB_yes HV.out HB0.out
        | false =>
          have HV := Lib.hid (show ¬ ((Has x11 L → PlR x4 x12 L) ∧ (¬ Has x11 L → NoP x12 L) ∧ (1 ≤ x11 ∧ x11 ≤ 6)) from fun h => by have h6 := nopB_iff.2 (h.2.1 HS.out); rw [H0.out] at h6; cases h6)
          go_wp2
          go_ret
          exact resB_no HV.out HB0.out
      have h5' : (x11 == 5) = false := beq_eq_false_iff_ne.2 h5
      by_cases h6 : x11 = 6
      · have h6' : (x11 == 6) = true := beq_iff_eq.2 h6
        have HR := Lib.hid (show 1 ≤ x11 ∧ x11 ≤ 6 from by omega)
        clear h6 h1 h2
        go_enter Try.func79, Try.ntmps79
        go_wp2_with fail
        refine (nop_at x12 H0.out HN.out _).mono ?_
        rintro e w2 ⟨rfl, rfl⟩
        cases b0 with
        | true =>
          have HV := Lib.hid (show ((Has x11 L → PlR x4 x12 L) ∧ (¬ Has x11 L → NoP x12 L) ∧ (1 ≤ x11 ∧ x11 ≤ 6)) from ⟨fun h => absurd h HS.out, fun _ => nopB_iff.1 H0.out, HR.out⟩)
          go_wp2
          go_ret
          exact resB_yes HV.out HB0.out
        | false =>
          have HV := Lib.hid (show ¬ ((Has x11 L → PlR x4 x12 L) ∧ (¬ Has x11 L → NoP x12 L) ∧ (1 ≤ x11 ∧ x11 ≤ 6)) from fun h => by have h6 := nopB_iff.2 (h.2.1 HS.out); rw [H0.out] at h6; cases h6)
          go_wp2
          go_ret
          exact resB_no HV.out HB0.out
      have h6' : (x11 == 6) = false := beq_eq_false_iff_ne.2 h6
      have HR := Lib.hid (show ¬ (1 ≤ x11 ∧ x11 ≤ 6) from by omega)
      clear h1 h2 h3 h4 h5 h6
      have HV := Lib.hid (show ¬ ((Has x11 L → PlR x4 x12 L) ∧ (¬ Has x11 L → NoP x12 L) ∧ (1 ≤ x11 ∧ x11 ≤ 6)) from fun h => HR.out h.2.2)
      go_enter Try.func79, Try.ntmps79
      go_wp2
      go_ret
      exact resB_no HV.out HB0.out
theorem wishI_at {x3 x4 x5 : Int} {b : Bool} (hb : (isB x3 1 6 && (isB x4 1 20 && isB x5 0 9)) = b) (W : World) : Calls Try.prog 76 #[.int .i64 x3, .int .i64 x4, .int .i64 x5] W fun e w' => e = .returned (.bool b) ∧ W = w' := wish_impl hb W
theorem taskR_of (x0 x1 x2 : Int) (x3 : ByteArray) (x4 x5 x6 x7 x8 x9 x10 x11 x12 : Int) (L : List Int)  : TaskR ((x0, x1), x2, x3, x4, x5, x6, (x7, x8), x9, x10, x11, x12, L) ↔ LabC.rB x0 x1 = true ∧ isB x2 1 12 = true ∧ nameB x3 = true ∧ (isB x4 1 6 && (isB x5 1 20 && isB x6 0 9)) = true ∧ DepR x0 x1 x2 x7 x8 x9 ∧ isB x10 0 999900 = true ∧ ((Has x11 L → PlR x4 x12 L) ∧ (¬ Has x11 L → NoP x12 L) ∧ (1 ≤ x11 ∧ x11 ≤ 6)) := by
  show _ ∧ _ ∧ _ ∧ _ ∧ _ ∧ _ ∧ _ ∧ _ ∧ _ ∧ _ ∧ _ ↔ _
  simp only [Bool.and_eq_true]
  constructor
  · rintro ⟨h0, h1, h2, h3, h4, h5, h6, h7, h8, h9, h10⟩
    exact ⟨h0, h1, h2, ⟨h3, h4, h5⟩, h8, h6, h9, h10, (isB_iff _ _ _).1 h7⟩
  · rintro ⟨h0, h1, h2, ⟨h3, h4, h5⟩, h8, h6, h9, h10, h7⟩
    exact ⟨h0, h1, h2, h3, h4, h5, h6, (isB_iff _ _ _).2 h7, h8, h9, h10⟩
set_option maxRecDepth 100000 in
set_option maxHeartbeats 3200000 in
theorem taskP_impl {x0 x1 x2 : Int} {x3 : ByteArray} {x4 x5 x6 x7 x8 x9 x10 x11 x12 : Int} {L : List Int} {a : Option Addr} {c : Nat} {W : World} (b_x3 : x3.size ≤ maxLen) (h : RdSl I W W.heap.size L a c) : Calls Try.prog 26 #[.agg #[.int .i64 x0, .int .i64 x1, .int .i64 x2, .string x3, .int .i64 x4, .int .i64 x5, .int .i64 x6, .int .i64 x7, .int .i64 x8, .int .i64 x9, .int .i64 x10, .int .i64 x11, .int .i64 x12, .slice a L.length c]] W (ResB (TaskR ((x0, x1), x2, x3, x4, x5, x6, (x7, x8), x9, x10, x11, x12, L)) W) := by
  have hn : L.length ≤ 9223372036854775807 := by have h1 := h.1; have h2 := h.2.1; unfold maxLen at h2; omega
  have H := Lib.hid h
  clear h
  have HX3 := Lib.hid b_x3
  unfold maxLen at b_x3
  have HB0 := Lib.hid (show Below W.heap.size W (W.alloc (.cells #[.int .i64 x0, .int .i64 x1, .int .i64 x2, .string x3, .int .i64 x4, .int .i64 x5, .int .i64 x6, .int .i64 x7, .int .i64 x8, .int .i64 x9, .int .i64 x10, .int .i64 x11, .int .i64 x12, .slice a L.length c] 43)) from (Below.refl _ _).alloc (Nat.le_refl _) _)
  have HP0 := Lib.hid (Blk.new W 43 #[.int .i64 x0, .int .i64 x1, .int .i64 x2, .string x3, .int .i64 x4, .int .i64 x5, .int .i64 x6, .int .i64 x7, .int .i64 x8, .int .i64 x9, .int .i64 x10, .int .i64 x11, .int .i64 x12, .slice a L.length c])
  have hz0 : W.heap.size ≤ (W.alloc (.cells #[.int .i64 x0, .int .i64 x1, .int .i64 x2, .string x3, .int .i64 x4, .int .i64 x5, .int .i64 x6, .int .i64 x7, .int .i64 x8, .int .i64 x9, .int .i64 x10, .int .i64 x11, .int .i64 x12, .slice a L.length c] 43)).heap.size := HB0.out.size
  have JO := Lib.hid (taskR_of x0 x1 x2 x3 x4 x5 x6 x7 x8 x9 x10 x11 x12 L)
  obtain ⟨b0, h0⟩ : ∃ b, LabC.rB x0 x1 = b := ⟨_, rfl⟩
  have H0 := Lib.hid h0
  clear h0
  obtain ⟨b1, h1⟩ : ∃ b, isB x2 1 12 = b := ⟨_, rfl⟩
  have H1 := Lib.hid h1
  clear h1
  obtain ⟨b2, h2⟩ : ∃ b, nameB x3 = b := ⟨_, rfl⟩
  have H2 := Lib.hid h2
  clear h2
  obtain ⟨b3, h3⟩ : ∃ b, (isB x4 1 6 && (isB x5 1 20 && isB x6 0 9)) = b := ⟨_, rfl⟩
  have H3 := Lib.hid h3
  clear h3
  obtain ⟨b5, h5⟩ : ∃ b, isB x10 0 999900 = b := ⟨_, rfl⟩
  have H5 := Lib.hid h5
  clear h5
  go_enter Try.func26, Try.ntmps26
  go_wp2_with fail
  refine (labi_below x0 x1 H0.out _).mono ?_
  rintro e w1 ⟨rfl, hb⟩
  have HP1 := Lib.hid (HP0.out.call hb)
  have HB1 := Lib.hid (HB0.out.trans (hb.mono hz0))
  have hz1 : W.heap.size ≤ w1.heap.size := HB1.out.size
  clear hb
  have p0 := HP1.out.at_ 0 rfl
  have p1 := HP1.out.at_ 1 rfl
  have p2 := HP1.out.at_ 2 rfl
  have p3 := HP1.out.at_ 3 rfl
  have p4 := HP1.out.at_ 4 rfl
  have p5 := HP1.out.at_ 5 rfl
  have p6 := HP1.out.at_ 6 rfl
  have p7 := HP1.out.at_ 7 rfl
  have p8 := HP1.out.at_ 8 rfl
  have p9 := HP1.out.at_ 9 rfl
  have p10 := HP1.out.at_ 10 rfl
  have p11 := HP1.out.at_ 11 rfl
  have p12 := HP1.out.at_ 12 rfl
  have p13 := HP1.out.at_ 13 rfl
  clear HP0 HB0
  cases b0 with
  | false =>
    have HV := Lib.hid (show ¬ TaskR ((x0, x1), x2, x3, x4, x5, x6, (x7, x8), x9, x10, x11, x12, L) from fun h => by have h2 := (JO.out.1 h).1; rw [H0.out] at h2; cases h2)
    go_wp2
    go_ret
    exact resB_no HV.out HB1.out
  | true =>
    go_wp2_with fail
    refine (tid_at _ H1.out _).mono ?_
    rintro e w2 ⟨rfl, rfl⟩
    cases b1 with
    | false =>
      have HV := Lib.hid (show ¬ TaskR ((x0, x1), x2, x3, x4, x5, x6, (x7, x8), x9, x10, x11, x12, L) from fun h => by have h2 := (JO.out.1 h).2.1; rw [H1.out] at h2; cases h2)
      go_wp2
      go_ret
      exact resB_no HV.out HB1.out
    | true =>
      go_wp2_with fail
      refine (nameI_at HX3.out H2.out _).mono ?_
      rintro e w2 ⟨rfl, rfl⟩
      cases b2 with
      | false =>
        have HV := Lib.hid (show ¬ TaskR ((x0, x1), x2, x3, x4, x5, x6, (x7, x8), x9, x10, x11, x12, L) from fun h => by have h2 := (JO.out.1 h).2.2.1; rw [H2.out] at h2; cases h2)
        go_wp2
        go_ret
        exact resB_no HV.out HB1.out
      | true =>
        go_wp2_with fail
        refine (wishI_at H3.out _).mono ?_
        rintro e w2 ⟨rfl, rfl⟩
        cases b3 with
        | false =>
          have HV := Lib.hid (show ¬ TaskR ((x0, x1), x2, x3, x4, x5, x6, (x7, x8), x9, x10, x11, x12, L) from fun h => by have h2 := (JO.out.1 h).2.2.2.1; rw [H3.out] at h2; cases h2)
          go_wp2
          go_ret
          exact resB_no HV.out HB1.out
        | true =>
          have HN4 := Lib.hid (show isB x4 1 6 = true from by have h2 := H3.out; simp only [Bool.and_eq_true] at h2; exact h2.1)
          go_wp2_with fail
          refine (dep_impl (x3 := x3) (L := L) (a := a) (c := c)).mono ?_
          intro e w2 h
          obtain ⟨d, rfl, hd, hb⟩ := resB_elim h
          have HD := Lib.hid hd
          clear h hd
          have HP2 := Lib.hid (HP1.out.call hb)
          have HB2 := Lib.hid (HB1.out.trans (hb.mono hz1))
          have hz2 : W.heap.size ≤ w2.heap.size := HB2.out.size
          clear hb
          clear p0 p1 p2 p3 p4 p5 p6 p7 p8 p9 p10 p11 p12 p13
          have p0 := HP2.out.at_ 0 rfl
          have p1 := HP2.out.at_ 1 rfl
          have p2 := HP2.out.at_ 2 rfl
          have p3 := HP2.out.at_ 3 rfl
          have p4 := HP2.out.at_ 4 rfl
          have p5 := HP2.out.at_ 5 rfl
          have p6 := HP2.out.at_ 6 rfl
          have p7 := HP2.out.at_ 7 rfl
          have p8 := HP2.out.at_ 8 rfl
          have p9 := HP2.out.at_ 9 rfl
          have p10 := HP2.out.at_ 10 rfl
          have p11 := HP2.out.at_ 11 rfl
          have p12 := HP2.out.at_ 12 rfl
          have p13 := HP2.out.at_ 13 rfl
          cases d with
          | false =>
            have HV := Lib.hid (show ¬ TaskR ((x0, x1), x2, x3, x4, x5, x6, (x7, x8), x9, x10, x11, x12, L) from fun h => by have h2 := HD.out.2 (JO.out.1 h).2.2.2.2.1; cases h2)
            go_wp2
            go_ret
            exact resB_no HV.out HB2.out
          | true =>
            go_wp2_with fail
            refine (nowI_at _ H5.out _).mono ?_
            rintro e w3 ⟨rfl, rfl⟩
            cases b5 with
            | false =>
              have HV := Lib.hid (show ¬ TaskR ((x0, x1), x2, x3, x4, x5, x6, (x7, x8), x9, x10, x11, x12, L) from fun h => by have h2 := (JO.out.1 h).2.2.2.2.2.1; rw [H5.out] at h2; cases h2)
              go_wp2
              go_ret
              exact resB_no HV.out HB2.out
            | true =>
              go_wp2_with fail
              refine (stateT_impl (x3 := x3) HN4.out ((H.out.below I_ok HB2.out).more I_ok hz2)).mono ?_
              intro e w4 h
              obtain ⟨b, rfl, hb, hw⟩ := resB_elim h
              have HB := Lib.hid (HB2.out.trans (hw.mono hz2))
              have HV := Lib.hid (show (b = true ↔ TaskR ((x0, x1), x2, x3, x4, x5, x6, (x7, x8), x9, x10, x11, x12, L)) from hb.trans ⟨fun hS => JO.out.2 ⟨H0.out, H1.out, H2.out, H3.out, (by simpa using HD.out), H5.out, hS⟩, fun h => (JO.out.1 h).2.2.2.2.2.2⟩)
              clear h hb hw
              go_wp2
              go_ret
              exact ⟨b, rfl, HV.out, HB.out⟩
end Go.Proofs.Ytkghodbbgehcoaa.RepC
end
section
namespace Go.Proofs.Ytkghodbbgehcoaa.LiftL
open Go.ChangeShapes Go.WideShapes Go.ChangeAt Go.RowKit Go.Joins
section
variable {H : Type} {enc : TypeId × Value → H} {P : Program}
def allRead (P : Program) (ts : List TypeId) : Bool := ts.all fun t => P.readableRec t && decide (t < P.types.size)
theorem trodAll_stays (hl : laidOutB P = true) {W W' : World} (hb : Below W.heap.size W W') : ∀ (ts : List TypeId) (vs : List Value) (ds : List (DataW H)) (ps : List MemPlace), allRead P ts = true →
    DataW.TrodAll enc P W 0 (fun _ => true) true ts vs ds ps → DataW.TrodAll enc P W' 0 (fun b => decide (b < W.heap.size)) true ts vs ds ps
  | [], vs, ds, ps, _, h => by
    obtain ⟨rfl, rfl, rfl⟩ := trodAll_nil h
    exact trodAll_mk0
  | t :: ts, vs, ds, ps, hr, h => by
    obtain ⟨v, vs', d, ds', p, q, rfl, rfl, rfl, h1, h2⟩ := trodAll_cons h
    have hr' : (P.readableRec t = true ∧ t < P.types.size) ∧ allRead P ts = true := by
      unfold allRead at hr
      simpa [List.all_cons, allRead] using hr
    have lt : ∀ x ∈ p, x.block < W.heap.size := by obtain ⟨m, hm⟩ := h1; exact DataW.trod_lt m _ _ _ hm
    exact trodAll_cons_mk (Below.trod hl hr'.1.1 hr'.1.2 h1 hb lt) (trodAll_stays hl hb ts vs' ds' q hr'.2 h2)
theorem var_stays {W W' : World} (hb : Below W.heap.size W W') {n : String} {g : Nat} {cs : Array Value} (hg : P.globalNamed n = some g) (h : W.var? P n = some cs) : W'.var? P n = some cs := by
  have hlt : g < W.heap.size := by
    simp only [World.var?, hg, Option.bind_some] at h
    cases hw : W.heap[g]? with
    | none => rw [hw] at h; simp at h
    | some o => exact (Array.getElem?_eq_some_iff.1 hw).1
  simp only [World.var?, hg, Option.bind_some] at h ⊢
  rw [hb.block g hlt]
  exact h
def varsRead (P : Program) (ns : List String) : Bool := ns.all fun n => match (P.globalNamed n).bind (fun g => (P.globals[g]?).map (·.type)) with | some t => P.readableRec t && decide (t < P.types.size) | none => false
theorem trodVars_stays (hl : laidOutB P = true) {W W' : World} (hb : Below W.heap.size W W') : ∀ (ns : List String) (gs : List (DataW H)) (ps : List MemPlace), varsRead P ns = true →
    DataW.TrodVars enc P W (fun _ => true) ns gs ps → DataW.TrodVars enc P W' (fun b => decide (b < W.heap.size)) ns gs ps
  | [], gs, ps, _, h => by
    obtain ⟨rfl, rfl⟩ := trodVars_none h
    exact rfl
  | n :: ns, [], ps, _, h => by cases h
  | n :: ns, d :: gs, ps, hr, h => by
    obtain ⟨g, t, cs, fuel, p, q, h1, h2, h3, h4, h5, rfl⟩ := h
    have hr' : (P.readableRec t = true ∧ t < P.types.size) ∧ varsRead P ns = true := by
      unfold varsRead at hr
      rw [List.all_cons, Bool.and_eq_true] at hr
      have h0 := hr.1
      rw [h1, Option.bind_some, h2] at h0
      simp only [Bool.and_eq_true, decide_eq_true_eq] at h0
      exact ⟨h0, hr.2⟩
    have lt : ∀ x ∈ p, x.block < W.heap.size := DataW.trod_lt fuel _ _ _ h4
    obtain ⟨fuel', h6⟩ := Below.trod hl hr'.1.1 hr'.1.2 (v := .agg cs) (d := d) (ps := p) ⟨fuel, h4⟩ hb lt
    exact ⟨g, t, cs, fuel', p, q, h1, h2, var_stays hb h1 h3, h6, trodVars_stays hl hb ns gs q hr'.2 h5, rfl⟩
theorem post_law {f : Func} {s : ChangeSpec} {W W' : World} {args : Array Value} {ds gs : List (DataW H)} {before : List MemPlace} {tb : TypeId} (hspec : s.fn H (ds ++ gs) = { results := [.lit (.bool true)], args := ds, vars := gs })
    (hl : laidOutB P = true) (hr : allRead P f.params.toList = true) (hv : varsRead P s.vars = true) (hres : f.resultTypes = #[tb]) (hbool : P.underlying tb = some .bool)
    (hW : DataW.Whole enc P f.params.toList s.vars false W args.toList ds gs before) (hb : Below W.heap.size W W') : s.post enc P f false true false false W args (.bool true) W' := by
  have hW' := hW
  obtain ⟨p, q, hA, hV, rfl, _, _⟩ := hW
  refine ⟨ds, gs, _, [], p, q, hW', ?_, ?_, ?_, hb.frame _, fun h => by cases h⟩
  · rw [hspec, hres]
    exact trodAll_mk1 (shut_bool hbool _)
  · rw [hspec]
    exact trodAll_stays hl hb _ _ _ _ hr hA
  · rw [hspec]
    exact trodVars_stays hl hb _ _ _ hv hV
end
end Go.Proofs.Ytkghodbbgehcoaa.LiftL
end
section
namespace Go.Proofs.Ytkghodbbgehcoaa.RepC
open Go.ChangeShapes Go.WideShapes Go.ChangeAt Go.RowKit Go.Joins Go.Deep RowC ValC
set_option linter.unusedVariables false
set_option maxRecDepth 100000
def Opn {α : Type} (E : Rp α) (t : TypeId) : Prop := ∀ {H : Type} (enc : TypeId × Value → H) (W : World) (fuel : Nat) (cs : List Value) (y : DataW H × List MemPlace), DataW.trod enc Try.prog W 0 (fun _ => true) true fuel t cs = some y → ∃ d, E.rd W W.heap.size d cs
theorem opn_int {t : TypeId} (ht : Try.prog.underlying t = some (.int .i64)) : Opn I t := fun enc W fuel cs y h => by
  obtain ⟨n, rfl, _, _⟩ := DataW.trod_int ht h
  exact ⟨n, rfl⟩
theorem add_addr (b o k : Nat) : (⟨b, o, none⟩ : Addr).add k = ⟨b, o + k, none⟩ := by
  unfold Addr.add; split
  · rename_i hz; rw [hz]; rfl
  · rfl
theorem opn_sl {α : Type} {E : Rp α} {t e : TypeId} (hE : Opn E e) (hp : 0 < E.size) (ht : Try.prog.underlying t = some (.slice e)) (hc : Try.prog.cellsOf e = E.size) : Opn (Sl E) t := fun enc W fuel cs y h => by
  rcases open_slice ht h with ⟨rfl, _⟩ | ⟨x, n, cap, m, k, D, Pl, rfl, _, hl, hm, hmm, _, hi⟩
  · exact ⟨[], none, 0, rfl, Nat.le_refl _, Nat.zero_le _, fun h => absurd h (Nat.lt_irrefl _)⟩
  · simp only [if_true] at hmm
    rw [hc] at hi
    have hone : ∀ i, i < n → ∃ d us, us.length = E.size ∧ (∀ j, j < E.size → W.cell? ((x.add (i * E.size)).add j) = us[j]?) ∧ E.rd W W.heap.size d us := fun i hin => by
      obtain ⟨us, h1, h2⟩ := hi i (by omega)
      obtain ⟨_, h3, h4⟩ := World.cells?_some h1
      obtain ⟨d, hd⟩ := hE enc W k us _ h2
      exact ⟨d, us, h3, h4, hd⟩
    by_cases hn : n = 0
    · subst hn
      exact ⟨[], some x, cap, rfl, hl, hm, fun h => absurd h (Nat.lt_irrefl _)⟩
    · obtain ⟨d0, us0, l0, c0, _⟩ := hone 0 (by omega)
      have e0 : (x.add (0 * E.size)).add 0 = x := by simp [Addr.add]
      have h0 := c0 0 hp
      rw [e0] at h0
      have hu : ∃ u, us0[0]? = some u := ⟨us0[0], List.getElem?_eq_getElem (by omega)⟩
      obtain ⟨u, hu⟩ := hu
      rw [hu] at h0
      have hsp : x.spot = none := by
        cases hs : x.spot with
        | none => rfl
        | some s => simp [World.cell?, hs] at h0; split at h0 <;> simp at h0
      obtain ⟨b, off, sp⟩ := x
      simp only at hsp
      subst hsp
      have hb := World.block_lt_of_cell? W ⟨b, off, none⟩ h0
      have hall : ∀ q, q ≤ n → ∃ L : List α, L.length = q ∧ ∀ i d, L[i]? = some d → ∃ us, CellsAt W b (off + i * E.size) us ∧ E.rd W W.heap.size d us := by
        intro q
        induction q with
        | zero => exact fun _ => ⟨[], rfl, fun i d hd => by simp at hd⟩
        | succ q ih =>
          intro hq
          obtain ⟨L, hL, hall⟩ := ih (by omega)
          obtain ⟨d, us, hus, hcs, hd⟩ := hone q (by omega)
          refine ⟨L ++ [d], by simp [hL], fun i z hz => ?_⟩
          by_cases hi : i < L.length
          · rw [List.getElem?_append_left hi] at hz
            exact hall i z hz
          · rw [List.getElem?_append_right (by omega)] at hz
            have hi2 : i = q := by
              have := (List.getElem?_eq_some_iff.1 hz).1
              simp at this
              omega
            subst hi2
            simp [hL] at hz
            subst hz
            refine ⟨us, fun j c hj => ?_, hd⟩
            have hj2 := (List.getElem?_eq_some_iff.1 hj).1
            have := hcs j (by omega)
            rw [add_addr, add_addr, hj] at this
            exact this
      obtain ⟨L, hL, hel⟩ := hall n (Nat.le_refl _)
      subst hL
      exact ⟨L, some ⟨b, off, none⟩, cap, rfl, hl, hm, fun _ => ⟨b, off, rfl, hb, hel⟩⟩
theorem fld {H : Type} {enc : TypeId × Value → H} {W : World} {n : Nat} {cs : List Value} {fs : Array Field} {xs : List (DataW H × List MemPlace)} (hf : ∀ (i : Nat) (f : Field), fs[i]? = some f → DataW.trod enc Try.prog W 0 (fun _ => true) true n f.type ((cs.drop f.offset).take (Try.prog.cellsOf f.type)) = xs[i]?)
    (i : Nat) (t o k : Nat) (h : fs[i]?.map (fun f => (f.type, f.offset)) = some (t, o)) (hc : Try.prog.cellsOf t = k) : DataW.trod enc Try.prog W 0 (fun _ => true) true n t ((cs.drop o).take k) = xs[i]? := by
  cases e : fs[i]? with
  | none => rw [e] at h; cases h
  | some f =>
    rw [e] at h
    simp only [Option.map_some, Option.some.injEq, Prod.mk.injEq] at h
    obtain ⟨rfl, rfl⟩ := h
    subst hc
    exact hf i f e
theorem open_sl {α : Type} {E : Rp α} {t e : TypeId} (hO : Opn (Sl E) t) (ht : Try.prog.underlying t = some (.slice e)) {H : Type} {enc : TypeId × Value → H} {W : World} {base : Nat} {v : Value} {d : DataW H} {p : List MemPlace} (o : Value.okWide Try.prog W .any base t v)
    (h : DataW.Trod enc Try.prog W 0 (fun _ => true) true t v d p) : ∃ (L : List α) (a : Option Addr) (cap : Nat), v = .slice a L.length cap ∧ RdSl E W W.heap.size L a cap := by
  obtain ⟨a, n, cap, rfl⟩ := okWide_slice ht o
  obtain ⟨fuel, hf⟩ := h
  obtain ⟨L, a', cap', hcs, hr⟩ := hO enc W fuel _ _ hf
  simp [Value.cells] at hcs
  obtain ⟨rfl, rfl, rfl⟩ := hcs
  exact ⟨L, a, cap, rfl, hr⟩
end Go.Proofs.Ytkghodbbgehcoaa.RepC
end
section
namespace Go.Proofs.Ytkghodbbgehcoaa.RepC
open Go.ChangeShapes Go.WideShapes Go.ChangeAt Go.RowKit Go.Joins Go.Deep RowC ValC
set_option linter.unusedVariables false
set_option maxRecDepth 100000
theorem c_int64 : Try.prog.cellsOf 2 = 1 := by kernel_rfl
theorem c_i64s : Try.prog.cellsOf 37 = 1 := by kernel_rfl
theorem c_Label : Try.prog.cellsOf 36 = 2 := by kernel_rfl
theorem opn_i64 : Opn I 2 := opn_int Try.underlying2
theorem opn_i64s : Opn (Sl I) 37 := opn_sl opn_i64 (by decide) Try.underlying37 c_int64
theorem opn_Label : Opn R_Label 36 := fun enc W fuel cs y h => by
  obtain ⟨xs, n, _, _, hl, hlen, hf⟩ := DataW.trod_struct Try.underlying36 h
  rw [c_Label] at hl
  match cs, hl with
  | [c0, c1], _ =>
    have e2 : xs.length = 2 := hlen
    match xs, e2 with
    | [y0, y1], _ =>
      have g0 := fld hf 0 2 0 1 rfl c_int64
      have g1 := fld hf 1 2 1 1 rfl c_int64
      obtain ⟨d0, h0⟩ := opn_i64 enc W n [c0] y0 g0
      obtain ⟨d1, h1⟩ := opn_i64 enc W n [c1] y1 g1
      exact ⟨(d0, d1), [c0], [c1], rfl, h0, h1⟩
end Go.Proofs.Ytkghodbbgehcoaa.RepC
end
section
namespace Go.Proofs.Ytkghodbbgehcoaa.RepC
open Go.ChangeShapes Go.WideShapes Go.ChangeAt Go.RowKit Go.Joins Go.Deep RowC ValC
set_option maxRecDepth 100000
set_option linter.unusedVariables false
set_option linter.unusedSimpArgs false
theorem c_String : Try.prog.cellsOf 9 = 1 := by kernel_rfl
theorem opn_String : Opn St 9 := fun enc W fuel cs y h => by
  obtain ⟨s, rfl, _, hw⟩ := DataW.trod_string Try.underlying9 h
  exact ⟨s, rfl, hw⟩
end Go.Proofs.Ytkghodbbgehcoaa.RepC
end
