/- The program's look-up of a task in a list in order: contracts. -/
import Derived.Test.YtmmnkdilnlhbfaaTk
import Derived.Test.YtmmnkdilnlhbfaaTk
import Derived.Test.YtmmnkdilnlhbfaaTaP
import Derived.Test.YtmmnkdilnlhbfaaLbC
namespace Go.Proofs.Ytmmnkdilnlhbfaa.RepC
open Go.RowKit RowC ValC SpanC KeptC NameC SortC
set_option linter.unusedVariables false
set_option linter.unusedSimpArgs false

theorem bylab_w (a0 a1 b0 b1 : Int) (V : World) : Calls Try.prog 107 #[.agg #[.int .i64 a0, .int .i64 a1], .agg #[.int .i64 b0, .int .i64 b1]] V fun e w' => e = .returned (.int .i64 (labI a0 a1 b0 b1)) ∧ Below V.heap.size V w' :=
  (bylab_v a0 a1 b0 b1 V).mono fun e w' ⟨h1, h2⟩ => ⟨h1, by rw [h2]; exact (((Below.refl V.heap.size V).alloc (Nat.le_refl _) _).alloc (by simp) _).drew.alloc (by simp; omega) _⟩
theorem labI3 (a0 a1 b0 b1 : Int) : (labI a0 a1 b0 b1 = -1 ∧ ltLb (a0, a1) (b0, b1)) ∨ (labI a0 a1 b0 b1 = 0 ∧ ((a0, a1) : Int × Int) = (b0, b1)) ∨ (labI a0 a1 b0 b1 = 1 ∧ ltLb (b0, b1) (a0, a1)) := by
  unfold labI orI ltLb
  rcases cmpI a0 b0 with ⟨e1, h1⟩ | ⟨e1, h1⟩ | ⟨e1, h1⟩ <;> rcases cmpI a1 b1 with ⟨e2, h2⟩ | ⟨e2, h2⟩ | ⟨e2, h2⟩ <;> rw [e1, e2] <;> simp <;> omega
/-- how two keys are compared -/
def cfK (x y : D_Label × Int) : Int := orI [labI x.1.1 x.1.2 y.1.1 y.1.2, Lib.compareInt x.2 y.2]
theorem cfK_cases (x y : D_Label × Int) : (cfK x y = -1 ∧ ltK x y) ∨ (cfK x y = 0 ∧ x = y) ∨ (cfK x y = 1 ∧ ltK y x) := by
  obtain ⟨⟨a0, a1⟩, a2⟩ := x
  obtain ⟨⟨b0, b1⟩, b2⟩ := y
  unfold cfK ltK
  simp only
  rcases labI3 a0 a1 b0 b1 with ⟨e1, h1⟩ | ⟨e1, h1⟩ | ⟨e1, h1⟩
  · left; rw [e1]; exact ⟨rfl, .inl h1⟩
  · obtain ⟨rfl, rfl⟩ : a0 = b0 ∧ a1 = b1 := by simpa using h1
    rcases cmpI a2 b2 with ⟨e2, h2⟩ | ⟨e2, h2⟩ | ⟨e2, h2⟩
    · left; rw [e1, e2]; exact ⟨rfl, .inr ⟨rfl, h2⟩⟩
    · right; left; subst h2; rw [e1, e2]; exact ⟨rfl, rfl⟩
    · right; right; rw [e1, e2]; exact ⟨rfl, .inr ⟨rfl, h2⟩⟩
  · right; right; rw [e1]; exact ⟨rfl, .inl h1⟩
theorem cfK_neg (x y : D_Label × Int) : cfK x y < 0 ↔ ltK x y := by
  rcases cfK_cases x y with ⟨e, h⟩ | ⟨e, h⟩ | ⟨e, h⟩ <;> rw [e]
  · simp [h]
  · subst h; simp [ltK_irrefl]
  · constructor
    · intro h2; omega
    · intro h2; exact absurd (ltK_trans h h2) ltK_irrefl
theorem cfK_zero (x y : D_Label × Int) : cfK x y = 0 ↔ x = y := by
  rcases cfK_cases x y with ⟨e, h⟩ | ⟨e, h⟩ | ⟨e, h⟩ <;> rw [e]
  · constructor
    · intro h2; omega
    · intro h2; subst h2; exact absurd h ltK_irrefl
  · simp [h]
  · constructor
    · intro h2; omega
    · intro h2; subst h2; exact absurd h ltK_irrefl
set_option maxRecDepth 100000 in
set_option maxHeartbeats 3200000 in
theorem cmpT_w {x0 x1 x2 : Int} {x3 : ByteArray} {x4 x5 x6 x7 x8 x9 x10 x11 x12 : Int} {L : List Int} {a : Option Addr} {c : Nat} {y0 y1 y2 : Int} {y3 : ByteArray} {y4 y5 y6 y7 y8 y9 y10 y11 y12 : Int} {M : List Int} {b : Option Addr} {d : Nat} {W : World} :
    Calls Try.prog 129 #[.agg #[.int .i64 x0, .int .i64 x1, .int .i64 x2, .string x3, .int .i64 x4, .int .i64 x5, .int .i64 x6, .int .i64 x7, .int .i64 x8, .int .i64 x9, .int .i64 x10, .int .i64 x11, .int .i64 x12, .slice a L.length c], .agg #[.int .i64 y0, .int .i64 y1, .int .i64 y2, .string y3, .int .i64 y4, .int .i64 y5, .int .i64 y6, .int .i64 y7, .int .i64 y8, .int .i64 y9, .int .i64 y10, .int .i64 y11, .int .i64 y12, .slice b M.length d]] W fun e w' => e = .returned (.int .i64 (cfK ((x0, x1), x2) ((y0, y1), y2))) ∧ Below W.heap.size W w' := by
  obtain ⟨V0, hV0⟩ : ∃ V0, V0 = ((W.alloc (.cells #[.int .i64 x0, .int .i64 x1, .int .i64 x2, .string x3, .int .i64 x4, .int .i64 x5, .int .i64 x6, .int .i64 x7, .int .i64 x8, .int .i64 x9, .int .i64 x10, .int .i64 x11, .int .i64 x12, .slice a L.length c] 54)).alloc (.cells #[.int .i64 y0, .int .i64 y1, .int .i64 y2, .string y3, .int .i64 y4, .int .i64 y5, .int .i64 y6, .int .i64 y7, .int .i64 y8, .int .i64 y9, .int .i64 y10, .int .i64 y11, .int .i64 y12, .slice b M.length d] 54)) := ⟨_, rfl⟩
  have HB0 := Lib.hid (show Below W.heap.size W V0 from by rw [hV0]; exact ((Below.refl _ _).alloc (Nat.le_refl _) _).alloc (by simp) _)
  have BA := Lib.hid (show Blk V0 W.heap.size 54 #[.int .i64 x0, .int .i64 x1, .int .i64 x2, .string x3, .int .i64 x4, .int .i64 x5, .int .i64 x6, .int .i64 x7, .int .i64 x8, .int .i64 x9, .int .i64 x10, .int .i64 x11, .int .i64 x12, .slice a L.length c] from by rw [hV0]; exact (Blk.new W _ _).alloc _)
  have BB := Lib.hid (show Blk V0 (W.heap.size + 1) 54 #[.int .i64 y0, .int .i64 y1, .int .i64 y2, .string y3, .int .i64 y4, .int .i64 y5, .int .i64 y6, .int .i64 y7, .int .i64 y8, .int .i64 y9, .int .i64 y10, .int .i64 y11, .int .i64 y12, .slice b M.length d] from by
    have h9 := Blk.new (W.alloc (.cells #[.int .i64 x0, .int .i64 x1, .int .i64 x2, .string x3, .int .i64 x4, .int .i64 x5, .int .i64 x6, .int .i64 x7, .int .i64 x8, .int .i64 x9, .int .i64 x10, .int .i64 x11, .int .i64 x12, .slice a L.length c] 54)) 54 #[.int .i64 y0, .int .i64 y1, .int .i64 y2, .string y3, .int .i64 y4, .int .i64 y5, .int .i64 y6, .int .i64 y7, .int .i64 y8, .int .i64 y9, .int .i64 y10, .int .i64 y11, .int .i64 y12, .slice b M.length d]
    simp only [World.size_alloc] at h9
    rw [hV0]; exact h9)
  go_enter Try.func129, Try.ntmps129
  go_wp2_with fail
  rw [← hV0]
  clear hV0
  refine wp_region_held_drew (S := (fun V => Below (V0).heap.size (V0) V)) (by kernel_rfl) ((Below.refl _ _).drew) (fun hHeld => ?_)
  refine tk 0 hHeld ?_
  refine tk 1 hHeld ?_ (hy := fun w hSw => by (try dsimp only at hSw); have k0 := (hSw.cell (p := ⟨W.heap.size, 0, none⟩) BA.out.lt).trans (BA.out.at_ 0 rfl); have k1 := (hSw.cell (p := ⟨W.heap.size, 1, none⟩) BA.out.lt).trans (BA.out.at_ 1 rfl); clear hSw; go_simp; try with_reducible rfl)
  refine tk 2 hHeld ?_
  refine tk 3 hHeld ?_ (hy := fun w hSw => by (try dsimp only at hSw); have k0 := (hSw.cell (p := ⟨W.heap.size + 1, 0, none⟩) BB.out.lt).trans (BB.out.at_ 0 rfl); have k1 := (hSw.cell (p := ⟨W.heap.size + 1, 1, none⟩) BB.out.lt).trans (BB.out.at_ 1 rfl); clear hSw; go_simp; try with_reducible rfl)
  refine tk 5 hHeld ?_
  refine tk 6 hHeld ?_ (hy := fun w hSw => by (try dsimp only at hSw); have k0 := (hSw.cell (p := ⟨W.heap.size, 2, none⟩) BA.out.lt).trans (BA.out.at_ 2 rfl); clear hSw; go_simp; try with_reducible rfl)
  refine tk 7 hHeld ?_
  refine tk 8 hHeld ?_ (hy := fun w hSw => by (try dsimp only at hSw); have k0 := (hSw.cell (p := ⟨W.heap.size + 1, 2, none⟩) BB.out.lt).trans (BB.out.at_ 2 rfl); clear hSw; go_simp; try with_reducible rfl)
  refine rd1 4 (fun K hK => ?_)
  go_simp
  go_at_call 107
  refine (bylab_w x0 x1 y0 y1 _).mono ?_
  rintro e w1 ⟨rfl, hb⟩
  refine hK.out _ _ (hHeld.trans (hb.mono hHeld.size)) (fun hHeld => ?_)
  clear hK K hb
  refine rd1 9 (fun K hK => ?_)
  go_simp
  go_at_call 127
  refine (cmp64 x2 y2 _).mono ?_
  rintro e w2 ⟨rfl, rfl⟩
  have hb := Below.refl w2.heap.size w2
  refine hK.out _ _ (hHeld.trans (hb.mono hHeld.size)) (fun hHeld => ?_)
  clear hK K hb
  refine rd1 10 (fun K hK => ?_)
  go_simp
  have hb := (Below.refl w2.heap.size w2).alloc (Nat.le_refl _) (.cells #[.int .i64 (labI x0 x1 y0 y1), .int .i64 (Lib.compareInt x2 y2)] 3)
  have HS4 := Lib.hid (Blk.new w2 3 #[.int .i64 (labI x0 x1 y0 y1), .int .i64 (Lib.compareInt x2 y2)])
  refine hK.out _ _ (hHeld.trans (hb.mono hHeld.size)) (fun hHeld => ?_)
  clear hK K hb
  refine rd1 11 (fun K hK => ?_)
  go_simp
  go_at_call 126
  refine (or2_v _ _ _ _ HS4.out).mono ?_
  rintro e w3 ⟨rfl, rfl⟩
  have hb := Below.refl (w2.alloc (.cells #[.int .i64 (labI x0 x1 y0 y1), .int .i64 (Lib.compareInt x2 y2)] 3)).heap.size (w2.alloc (.cells #[.int .i64 (labI x0 x1 y0 y1), .int .i64 (Lib.compareInt x2 y2)] 3))
  refine hK.out _ _ (hHeld.trans (hb.mono hHeld.size)) (fun hHeld => ?_)
  clear hK K hb
  refine tk 12 hHeld ?_
  refine rd0 ?_
  have HF := Lib.hid hHeld
  clear hHeld
  have HB1 := Lib.hid (HB0.out.trans (HF.out.mono HB0.out.size))
  go_wp2
  go_ret
  exact ⟨rfl, HB1.out⟩
/-- the target as the program builds it -/
abbrev tgt (y0 y1 y2 : Int) : Value := .agg #[.int .i64 y0, .int .i64 y1, .int .i64 y2, .string ⟨#[]⟩, .int .i64 0, .int .i64 0, .int .i64 0, .int .i64 0, .int .i64 0, .int .i64 0, .int .i64 0, .int .i64 0, .int .i64 0, .slice none 0 0]
/-- lo is where the keys cease to be less -/
def Cut (L : List D_Task) (a : D_Label × Int) (lo hi : Nat) : Prop := (∀ i x, i < lo → L[i]? = some x → ltK (tKey x) a) ∧ (∀ i x, hi ≤ i → L[i]? = some x → ¬ ltK (tKey x) a)
theorem cut_up {L : List D_Task} {a : D_Label × Int} {lo hi m : Nat} {x : D_Task} (h : Cut L a lo hi) (hi' : IncT L L.length) (hx : L[m]? = some x) (hk : ltK (tKey x) a) : Cut L a (m + 1) hi := ⟨fun i y hi1 hy => by
  by_cases e : i = m
  · subst e; rw [hx] at hy; cases hy; exact hk
  · exact ltK_trans (hi' i m y x (by omega) (List.getElem?_eq_some_iff.1 hx).1 hy hx) hk, h.2⟩
theorem cut_dn {L : List D_Task} {a : D_Label × Int} {lo hi m : Nat} {x : D_Task} (h : Cut L a lo hi) (hi' : IncT L L.length) (hx : L[m]? = some x) (hk : ¬ ltK (tKey x) a) : Cut L a lo m := ⟨h.1, fun i y hi1 hy hl => by
  by_cases e : i = m
  · subst e; rw [hx] at hy; cases hy; exact hk hl
  · exact hk (ltK_trans (hi' m i x y (by omega) (List.getElem?_eq_some_iff.1 hy).1 hx hy) hl)⟩
theorem cut_hit {L : List D_Task} {a : D_Label × Int} {k : Nat} {x : D_Task} (h : Cut L a k k) (hx : L[k]? = some x) (hk : tKey x = a) : atT L a = (k : Int) :=
  atT_hit (fun i y hi hy he => by have := h.1 i y hi hy; rw [he] at this; exact ltK_irrefl this) hx hk
theorem cut_miss {L : List D_Task} {a : D_Label × Int} {k : Nat} (h : Cut L a k k) (hi' : IncT L L.length) (hk : ∀ x, L[k]? = some x → tKey x ≠ a) : atT L a = -1 :=
  atT_miss fun i y hi hy he => by
    rcases Nat.lt_trichotomy i k with h1 | h1 | h1
    · have := h.1 i y h1 hy; rw [he] at this; exact ltK_irrefl this
    · subst h1; exact hk y hy he
    · obtain ⟨x, hx⟩ : ∃ x, L[k]? = some x := ⟨L[k], List.getElem?_eq_getElem (by omega)⟩
      have := hi' k i x y h1 hi hx hy
      rw [he] at this
      exact h.2 k x (Nat.le_refl _) hx this
set_option maxRecDepth 100000 in
set_option maxHeartbeats 3200000 in
theorem bsT_w {L : List D_Task} {a : Option Addr} {cap : Nat} {y0 y1 y2 : Int} {W : World} (hn : L.length ≤ 1048576) (hI : IncT L L.length) (h : RdSl R_Task W W.heap.size L a cap) :
    Calls Try.prog 128 #[.slice a L.length cap, tgt y0 y1 y2, .func (.func 129) #[] #[]] W fun e w' => (∃ k : Nat, ∃ b : Bool, e = .returned (.tuple #[.int .i64 k, .bool b]) ∧ (b = true → atT L ((y0, y1), y2) = (k : Int)) ∧ (b = false → atT L ((y0, y1), y2) = -1) ∧ Cut L ((y0, y1), y2) k k) ∧ Below W.heap.size W w' := by
  have H := Lib.hid h
  have HI := Lib.hid hI
  clear h hI
  obtain ⟨wo, hwo⟩ : ∃ w, w = W.alloc (.cells #[.int .i64 y0, .int .i64 y1, .int .i64 y2, .string ⟨#[]⟩, .int .i64 0, .int .i64 0, .int .i64 0, .int .i64 0, .int .i64 0, .int .i64 0, .int .i64 0, .int .i64 0, .int .i64 0, .slice none 0 0] 54) := ⟨_, rfl⟩
  have HB0 := Lib.hid (show Below W.heap.size W wo from by rw [hwo]; exact (Below.refl _ _).alloc (Nat.le_refl _) _)
  have HP0 := Lib.hid (show Blk wo W.heap.size 54 #[.int .i64 y0, .int .i64 y1, .int .i64 y2, .string ⟨#[]⟩, .int .i64 0, .int .i64 0, .int .i64 0, .int .i64 0, .int .i64 0, .int .i64 0, .int .i64 0, .int .i64 0, .int .i64 0, .slice none 0 0] from by rw [hwo]; exact Blk.new _ _ _)
  have eg : ∀ args w, (callFunc 129 args).run Try.prog w = .ok (.enter 129 args) w := fun _ _ => rfl
  have HCT := Lib.hid (⟨fun i x hi => absurd hi (Nat.not_lt_zero _), fun i x hi hx => absurd (List.getElem?_eq_some_iff.1 hx).1 (by omega)⟩ : Cut L ((y0, y1), y2) 0 L.length)
  go_enter Try.func128, Try.ntmps128
  go_wp2_with fail
  rw [← hwo]
  clear hwo
  go_loopw [9, 10] (fun s9 s10 wr => ∃ lo hi : Nat, s9 = .int .i64 lo ∧ s10 = .int .i64 hi ∧ lo ≤ hi ∧ hi ≤ L.length ∧ Hid (Cut L ((y0, y1), y2) lo hi) ∧ Below wo.heap.size wo wr) (fun s9 s10 _ => (intOf s10).toNat - (intOf s9).toNat)
  case atStart => exact ⟨0, L.length, rfl, rfl, Nat.zero_le _, Nat.le_refl _, HCT, Below.refl _ _⟩
  case round =>
    obtain ⟨lo, hi, rfl, rfl, hlh, hin, HC, hB⟩ := hrel
    have HB := Lib.hid (HB0.out.trans (hB.mono HB0.out.size))
    have HP := Lib.hid (HP0.out.call hB)
    have hszW := HB.out.size
    have hB0 := Lib.hid hB
    clear hB
    by_cases hlt : lo < hi
    · obtain ⟨m, hm⟩ : ∃ m, m = (lo + hi) / 2 := ⟨_, rfl⟩
      have hm1 : lo ≤ m := by omega
      have hm2 : m < hi := by omega
      have hmid : ((lo : Int) + (hi : Int)) / 2 = (m : Int) := by omega
      clear hm
      obtain ⟨⟨⟨x0, x1⟩, x2, x3, x4, x5, x6, ⟨x7, x8⟩, x9, x10, x11, x12, M⟩, hx⟩ := el_some (show m < L.length by omega)
      have HX := Lib.hid hx
      obtain ⟨g, o, us, rfl, hg, hu, hr⟩ := (H.out.below R_Task_ok HB.out).at_ hx
      obtain ⟨ba, bc, rfl, k_M, b_x3⟩ := rd_Task hr
      have e0 : wr.cell? ⟨g, o + m * 14, none⟩ = some (.int .i64 x0) := by simpa [size_TaskS, Nat.add_assoc] using hu 0 _ rfl
      have e1 : wr.cell? ⟨g, o + m * 14 + 1, none⟩ = some (.int .i64 x1) := by simpa [size_TaskS, Nat.add_assoc] using hu 1 _ rfl
      have e2 : wr.cell? ⟨g, o + m * 14 + 2, none⟩ = some (.int .i64 x2) := by simpa [size_TaskS, Nat.add_assoc] using hu 2 _ rfl
      have e3 : wr.cell? ⟨g, o + m * 14 + 3, none⟩ = some (.string x3) := by simpa [size_TaskS, Nat.add_assoc] using hu 3 _ rfl
      have e4 : wr.cell? ⟨g, o + m * 14 + 4, none⟩ = some (.int .i64 x4) := by simpa [size_TaskS, Nat.add_assoc] using hu 4 _ rfl
      have e5 : wr.cell? ⟨g, o + m * 14 + 5, none⟩ = some (.int .i64 x5) := by simpa [size_TaskS, Nat.add_assoc] using hu 5 _ rfl
      have e6 : wr.cell? ⟨g, o + m * 14 + 6, none⟩ = some (.int .i64 x6) := by simpa [size_TaskS, Nat.add_assoc] using hu 6 _ rfl
      have e7 : wr.cell? ⟨g, o + m * 14 + 7, none⟩ = some (.int .i64 x7) := by simpa [size_TaskS, Nat.add_assoc] using hu 7 _ rfl
      have e8 : wr.cell? ⟨g, o + m * 14 + 8, none⟩ = some (.int .i64 x8) := by simpa [size_TaskS, Nat.add_assoc] using hu 8 _ rfl
      have e9 : wr.cell? ⟨g, o + m * 14 + 9, none⟩ = some (.int .i64 x9) := by simpa [size_TaskS, Nat.add_assoc] using hu 9 _ rfl
      have e10 : wr.cell? ⟨g, o + m * 14 + 10, none⟩ = some (.int .i64 x10) := by simpa [size_TaskS, Nat.add_assoc] using hu 10 _ rfl
      have e11 : wr.cell? ⟨g, o + m * 14 + 11, none⟩ = some (.int .i64 x11) := by simpa [size_TaskS, Nat.add_assoc] using hu 11 _ rfl
      have e12 : wr.cell? ⟨g, o + m * 14 + 12, none⟩ = some (.int .i64 x12) := by simpa [size_TaskS, Nat.add_assoc] using hu 12 _ rfl
      have e13 : wr.cell? ⟨g, o + m * 14 + 13, none⟩ = some (.slice ba M.length bc) := by simpa [size_TaskS, Nat.add_assoc] using hu 13 _ rfl
      have hi0 : (0 : Int) ≤ (m : Int) := Int.natCast_nonneg _
      have hi1 : (m : Int) < (L.length : Int) := by omega
      have hgl : g < wr.heap.size := Nat.lt_of_lt_of_le hg hszW
      have hC := fun V => cmpT_w (x0 := x0) (x1 := x1) (x2 := x2) (x3 := x3) (x4 := x4) (x5 := x5) (x6 := x6) (x7 := x7) (x8 := x8) (x9 := x9) (x10 := x10) (x11 := x11) (x12 := x12) (L := M) (a := ba) (c := bc) (y0 := y0) (y1 := y1) (y2 := y2) (y3 := ⟨#[]⟩) (y4 := 0) (y5 := 0) (y6 := 0) (y7 := 0) (y8 := 0) (y9 := 0) (y10 := 0) (y11 := 0) (y12 := 0) (M := []) (b := none) (d := 0) (W := V)
      obtain ⟨r, hr9⟩ : ∃ r, cfK ((x0, x1), x2) ((y0, y1), y2) = r := ⟨_, rfl⟩
      rw [hr9] at hC
      clear hu hr hg hx k_M
      by_cases hneg : r < 0
      · have HC2 := Lib.hid (cut_up HC.out HI.out HX.out ((cfK_neg _ _).1 (by show cfK ((x0, x1), x2) _ < 0; rw [hr9]; exact hneg)))
        have hd : decide (r < 0) = true := decide_eq_true hneg
        clear hr9
        go_wp2_with fail
        refine wp_region_held_drew (S := (fun V => Below (wr).heap.size (wr) V)) (by kernel_rfl) ((Below.refl _ _).drew) (fun hHeld => ?_)
        refine tk 0 hHeld ?_
        refine tk 1 hHeld ?_
        refine tk 2 hHeld ?_
        refine tk 3 hHeld ?_
        refine tk 4 hHeld ?_ (hy := fun w hSw => by (try dsimp only at hSw); have k0 := (hSw.cell (p := ⟨g, o + m * 14, none⟩) hgl).trans e0; have k1 := (hSw.cell (p := ⟨g, o + m * 14 + 1, none⟩) hgl).trans e1; have k2 := (hSw.cell (p := ⟨g, o + m * 14 + 2, none⟩) hgl).trans e2; have k3 := (hSw.cell (p := ⟨g, o + m * 14 + 3, none⟩) hgl).trans e3; have k4 := (hSw.cell (p := ⟨g, o + m * 14 + 4, none⟩) hgl).trans e4; have k5 := (hSw.cell (p := ⟨g, o + m * 14 + 5, none⟩) hgl).trans e5; have k6 := (hSw.cell (p := ⟨g, o + m * 14 + 6, none⟩) hgl).trans e6; have k7 := (hSw.cell (p := ⟨g, o + m * 14 + 7, none⟩) hgl).trans e7; have k8 := (hSw.cell (p := ⟨g, o + m * 14 + 8, none⟩) hgl).trans e8; have k9 := (hSw.cell (p := ⟨g, o + m * 14 + 9, none⟩) hgl).trans e9; have k10 := (hSw.cell (p := ⟨g, o + m * 14 + 10, none⟩) hgl).trans e10; have k11 := (hSw.cell (p := ⟨g, o + m * 14 + 11, none⟩) hgl).trans e11; have k12 := (hSw.cell (p := ⟨g, o + m * 14 + 12, none⟩) hgl).trans e12; have k13 := (hSw.cell (p := ⟨g, o + m * 14 + 13, none⟩) hgl).trans e13; clear hSw; go_simp; try with_reducible rfl)
        refine tk 5 hHeld ?_ (hy := fun w hSw => by (try dsimp only at hSw); have k0 := (hSw.cell (p := ⟨W.heap.size, 0, none⟩) HP.out.lt).trans (HP.out.at_ 0 rfl); have k1 := (hSw.cell (p := ⟨W.heap.size, 1, none⟩) HP.out.lt).trans (HP.out.at_ 1 rfl); have k2 := (hSw.cell (p := ⟨W.heap.size, 2, none⟩) HP.out.lt).trans (HP.out.at_ 2 rfl); have k3 := (hSw.cell (p := ⟨W.heap.size, 3, none⟩) HP.out.lt).trans (HP.out.at_ 3 rfl); have k4 := (hSw.cell (p := ⟨W.heap.size, 4, none⟩) HP.out.lt).trans (HP.out.at_ 4 rfl); have k5 := (hSw.cell (p := ⟨W.heap.size, 5, none⟩) HP.out.lt).trans (HP.out.at_ 5 rfl); have k6 := (hSw.cell (p := ⟨W.heap.size, 6, none⟩) HP.out.lt).trans (HP.out.at_ 6 rfl); have k7 := (hSw.cell (p := ⟨W.heap.size, 7, none⟩) HP.out.lt).trans (HP.out.at_ 7 rfl); have k8 := (hSw.cell (p := ⟨W.heap.size, 8, none⟩) HP.out.lt).trans (HP.out.at_ 8 rfl); have k9 := (hSw.cell (p := ⟨W.heap.size, 9, none⟩) HP.out.lt).trans (HP.out.at_ 9 rfl); have k10 := (hSw.cell (p := ⟨W.heap.size, 10, none⟩) HP.out.lt).trans (HP.out.at_ 10 rfl); have k11 := (hSw.cell (p := ⟨W.heap.size, 11, none⟩) HP.out.lt).trans (HP.out.at_ 11 rfl); have k12 := (hSw.cell (p := ⟨W.heap.size, 12, none⟩) HP.out.lt).trans (HP.out.at_ 12 rfl); have k13 := (hSw.cell (p := ⟨W.heap.size, 13, none⟩) HP.out.lt).trans (HP.out.at_ 13 rfl); clear hSw; go_simp; try with_reducible rfl)
        refine rd1 6 (fun K hK => ?_)
        go_simp
        go_at_fn 129
        refine (hC _).mono ?_
        rintro e w9 ⟨rfl, hb⟩
        refine hK.out _ _ (hHeld.trans (hb.mono hHeld.size)) (fun hHeld => ?_)
        clear hK K hb
        refine tk 7 hHeld ?_
        refine rd0 ?_
        have HF := Lib.hid hHeld
        clear hHeld
        have HB2 := Lib.hid (HB.out.trans (HF.out.mono hszW))
        have HB3 := Lib.hid (hB0.out.trans (HF.out.mono hB0.out.size))
        go_wp2
        go_roundw
        case rel => exact ⟨m + 1, hi, by go_num, rfl, by omega, hin, HC2, HB3.out⟩
        case measure => simp [intOf]; omega
      · have HC2 := Lib.hid (cut_dn HC.out HI.out HX.out (fun h => hneg (by have := (cfK_neg _ _).2 h; rw [← hr9]; exact this)))
        have hd : decide (r < 0) = false := decide_eq_false hneg
        clear hr9
        go_wp2_with fail
        refine wp_region_held_drew (S := (fun V => Below (wr).heap.size (wr) V)) (by kernel_rfl) ((Below.refl _ _).drew) (fun hHeld => ?_)
        refine tk 0 hHeld ?_
        refine tk 1 hHeld ?_
        refine tk 2 hHeld ?_
        refine tk 3 hHeld ?_
        refine tk 4 hHeld ?_ (hy := fun w hSw => by (try dsimp only at hSw); have k0 := (hSw.cell (p := ⟨g, o + m * 14, none⟩) hgl).trans e0; have k1 := (hSw.cell (p := ⟨g, o + m * 14 + 1, none⟩) hgl).trans e1; have k2 := (hSw.cell (p := ⟨g, o + m * 14 + 2, none⟩) hgl).trans e2; have k3 := (hSw.cell (p := ⟨g, o + m * 14 + 3, none⟩) hgl).trans e3; have k4 := (hSw.cell (p := ⟨g, o + m * 14 + 4, none⟩) hgl).trans e4; have k5 := (hSw.cell (p := ⟨g, o + m * 14 + 5, none⟩) hgl).trans e5; have k6 := (hSw.cell (p := ⟨g, o + m * 14 + 6, none⟩) hgl).trans e6; have k7 := (hSw.cell (p := ⟨g, o + m * 14 + 7, none⟩) hgl).trans e7; have k8 := (hSw.cell (p := ⟨g, o + m * 14 + 8, none⟩) hgl).trans e8; have k9 := (hSw.cell (p := ⟨g, o + m * 14 + 9, none⟩) hgl).trans e9; have k10 := (hSw.cell (p := ⟨g, o + m * 14 + 10, none⟩) hgl).trans e10; have k11 := (hSw.cell (p := ⟨g, o + m * 14 + 11, none⟩) hgl).trans e11; have k12 := (hSw.cell (p := ⟨g, o + m * 14 + 12, none⟩) hgl).trans e12; have k13 := (hSw.cell (p := ⟨g, o + m * 14 + 13, none⟩) hgl).trans e13; clear hSw; go_simp; try with_reducible rfl)
        refine tk 5 hHeld ?_ (hy := fun w hSw => by (try dsimp only at hSw); have k0 := (hSw.cell (p := ⟨W.heap.size, 0, none⟩) HP.out.lt).trans (HP.out.at_ 0 rfl); have k1 := (hSw.cell (p := ⟨W.heap.size, 1, none⟩) HP.out.lt).trans (HP.out.at_ 1 rfl); have k2 := (hSw.cell (p := ⟨W.heap.size, 2, none⟩) HP.out.lt).trans (HP.out.at_ 2 rfl); have k3 := (hSw.cell (p := ⟨W.heap.size, 3, none⟩) HP.out.lt).trans (HP.out.at_ 3 rfl); have k4 := (hSw.cell (p := ⟨W.heap.size, 4, none⟩) HP.out.lt).trans (HP.out.at_ 4 rfl); have k5 := (hSw.cell (p := ⟨W.heap.size, 5, none⟩) HP.out.lt).trans (HP.out.at_ 5 rfl); have k6 := (hSw.cell (p := ⟨W.heap.size, 6, none⟩) HP.out.lt).trans (HP.out.at_ 6 rfl); have k7 := (hSw.cell (p := ⟨W.heap.size, 7, none⟩) HP.out.lt).trans (HP.out.at_ 7 rfl); have k8 := (hSw.cell (p := ⟨W.heap.size, 8, none⟩) HP.out.lt).trans (HP.out.at_ 8 rfl); have k9 := (hSw.cell (p := ⟨W.heap.size, 9, none⟩) HP.out.lt).trans (HP.out.at_ 9 rfl); have k10 := (hSw.cell (p := ⟨W.heap.size, 10, none⟩) HP.out.lt).trans (HP.out.at_ 10 rfl); have k11 := (hSw.cell (p := ⟨W.heap.size, 11, none⟩) HP.out.lt).trans (HP.out.at_ 11 rfl); have k12 := (hSw.cell (p := ⟨W.heap.size, 12, none⟩) HP.out.lt).trans (HP.out.at_ 12 rfl); have k13 := (hSw.cell (p := ⟨W.heap.size, 13, none⟩) HP.out.lt).trans (HP.out.at_ 13 rfl); clear hSw; go_simp; try with_reducible rfl)
        refine rd1 6 (fun K hK => ?_)
        go_simp
        go_at_fn 129
        refine (hC _).mono ?_
        rintro e w9 ⟨rfl, hb⟩
        refine hK.out _ _ (hHeld.trans (hb.mono hHeld.size)) (fun hHeld => ?_)
        clear hK K hb
        refine tk 7 hHeld ?_
        refine rd0 ?_
        have HF := Lib.hid hHeld
        clear hHeld
        have HB2 := Lib.hid (HB.out.trans (HF.out.mono hszW))
        have HB3 := Lib.hid (hB0.out.trans (HF.out.mono hB0.out.size))
        go_wp2
        go_roundw
        case rel => exact ⟨lo, m, rfl, by go_num, by omega, by omega, HC2, HB3.out⟩
        case measure => simp [intOf]; omega
    · obtain rfl : lo = hi := by omega
      have hdl : decide ((lo : Int) < (lo : Int)) = false := by simp
      by_cases hlen : lo < L.length
      · obtain ⟨⟨⟨x0, x1⟩, x2, x3, x4, x5, x6, ⟨x7, x8⟩, x9, x10, x11, x12, M⟩, hx⟩ := el_some hlen
        have HX := Lib.hid hx
        obtain ⟨g, o, us, rfl, hg, hu, hr⟩ := (H.out.below R_Task_ok HB.out).at_ hx
        obtain ⟨ba, bc, rfl, k_M, b_x3⟩ := rd_Task hr
        have e0 : wr.cell? ⟨g, o + lo * 14, none⟩ = some (.int .i64 x0) := by simpa [size_TaskS, Nat.add_assoc] using hu 0 _ rfl
        have e1 : wr.cell? ⟨g, o + lo * 14 + 1, none⟩ = some (.int .i64 x1) := by simpa [size_TaskS, Nat.add_assoc] using hu 1 _ rfl
        have e2 : wr.cell? ⟨g, o + lo * 14 + 2, none⟩ = some (.int .i64 x2) := by simpa [size_TaskS, Nat.add_assoc] using hu 2 _ rfl
        have e3 : wr.cell? ⟨g, o + lo * 14 + 3, none⟩ = some (.string x3) := by simpa [size_TaskS, Nat.add_assoc] using hu 3 _ rfl
        have e4 : wr.cell? ⟨g, o + lo * 14 + 4, none⟩ = some (.int .i64 x4) := by simpa [size_TaskS, Nat.add_assoc] using hu 4 _ rfl
        have e5 : wr.cell? ⟨g, o + lo * 14 + 5, none⟩ = some (.int .i64 x5) := by simpa [size_TaskS, Nat.add_assoc] using hu 5 _ rfl
        have e6 : wr.cell? ⟨g, o + lo * 14 + 6, none⟩ = some (.int .i64 x6) := by simpa [size_TaskS, Nat.add_assoc] using hu 6 _ rfl
        have e7 : wr.cell? ⟨g, o + lo * 14 + 7, none⟩ = some (.int .i64 x7) := by simpa [size_TaskS, Nat.add_assoc] using hu 7 _ rfl
        have e8 : wr.cell? ⟨g, o + lo * 14 + 8, none⟩ = some (.int .i64 x8) := by simpa [size_TaskS, Nat.add_assoc] using hu 8 _ rfl
        have e9 : wr.cell? ⟨g, o + lo * 14 + 9, none⟩ = some (.int .i64 x9) := by simpa [size_TaskS, Nat.add_assoc] using hu 9 _ rfl
        have e10 : wr.cell? ⟨g, o + lo * 14 + 10, none⟩ = some (.int .i64 x10) := by simpa [size_TaskS, Nat.add_assoc] using hu 10 _ rfl
        have e11 : wr.cell? ⟨g, o + lo * 14 + 11, none⟩ = some (.int .i64 x11) := by simpa [size_TaskS, Nat.add_assoc] using hu 11 _ rfl
        have e12 : wr.cell? ⟨g, o + lo * 14 + 12, none⟩ = some (.int .i64 x12) := by simpa [size_TaskS, Nat.add_assoc] using hu 12 _ rfl
        have e13 : wr.cell? ⟨g, o + lo * 14 + 13, none⟩ = some (.slice ba M.length bc) := by simpa [size_TaskS, Nat.add_assoc] using hu 13 _ rfl
        have hi0 : (0 : Int) ≤ (lo : Int) := Int.natCast_nonneg _
        have hi1 : (lo : Int) < (L.length : Int) := by omega
        have hdn : decide ((lo : Int) < (L.length : Int)) = true := decide_eq_true hi1
        have hgl : g < wr.heap.size := Nat.lt_of_lt_of_le hg hszW
        have hC := fun V => cmpT_w (x0 := x0) (x1 := x1) (x2 := x2) (x3 := x3) (x4 := x4) (x5 := x5) (x6 := x6) (x7 := x7) (x8 := x8) (x9 := x9) (x10 := x10) (x11 := x11) (x12 := x12) (L := M) (a := ba) (c := bc) (y0 := y0) (y1 := y1) (y2 := y2) (y3 := ⟨#[]⟩) (y4 := 0) (y5 := 0) (y6 := 0) (y7 := 0) (y8 := 0) (y9 := 0) (y10 := 0) (y11 := 0) (y12 := 0) (M := []) (b := none) (d := 0) (W := V)
        obtain ⟨r, hr9⟩ : ∃ r, cfK ((x0, x1), x2) ((y0, y1), y2) = r := ⟨_, rfl⟩
        rw [hr9] at hC
        have HR9 := Lib.hid hr9
        clear hu hr hg hx k_M hr9
        obtain ⟨q, hq⟩ : ∃ q, (r == 0) = q := ⟨_, rfl⟩
        have HT := Lib.hid (show q = true → atT L ((y0, y1), y2) = (lo : Int) from fun h => cut_hit HC.out HX.out ((cfK_zero _ _).1 (HR9.out.trans (eq_of_beq (hq.trans h)))))
        have HM := Lib.hid (show q = false → atT L ((y0, y1), y2) = -1 from fun h => cut_miss HC.out HI.out fun x hx he => by
          obtain rfl := Option.some.inj (HX.out.symm.trans hx)
          have h2 : cfK ((x0, x1), x2) ((y0, y1), y2) = 0 := (cfK_zero _ _).2 he
          have h3 : r = 0 := HR9.out.symm.trans h2
          rw [← hq, h3] at h
          cases h)
        go_wp2_with fail
        refine wp_region_held_drew (S := (fun V => Below (wr).heap.size (wr) V)) (by kernel_rfl) ((Below.refl _ _).drew) (fun hHeld => ?_)
        refine tk 0 hHeld ?_
        refine tk 1 hHeld ?_
        refine tk 2 hHeld ?_
        refine tk 3 hHeld ?_
        refine tk 4 hHeld ?_
        refine tk 5 hHeld ?_
        refine tk 6 hHeld ?_
        refine tk 7 hHeld ?_
        refine tk 8 hHeld ?_
        refine tk 9 hHeld ?_ (hy := fun w hSw => by (try dsimp only at hSw); have k0 := (hSw.cell (p := ⟨g, o + lo * 14, none⟩) hgl).trans e0; have k1 := (hSw.cell (p := ⟨g, o + lo * 14 + 1, none⟩) hgl).trans e1; have k2 := (hSw.cell (p := ⟨g, o + lo * 14 + 2, none⟩) hgl).trans e2; have k3 := (hSw.cell (p := ⟨g, o + lo * 14 + 3, none⟩) hgl).trans e3; have k4 := (hSw.cell (p := ⟨g, o + lo * 14 + 4, none⟩) hgl).trans e4; have k5 := (hSw.cell (p := ⟨g, o + lo * 14 + 5, none⟩) hgl).trans e5; have k6 := (hSw.cell (p := ⟨g, o + lo * 14 + 6, none⟩) hgl).trans e6; have k7 := (hSw.cell (p := ⟨g, o + lo * 14 + 7, none⟩) hgl).trans e7; have k8 := (hSw.cell (p := ⟨g, o + lo * 14 + 8, none⟩) hgl).trans e8; have k9 := (hSw.cell (p := ⟨g, o + lo * 14 + 9, none⟩) hgl).trans e9; have k10 := (hSw.cell (p := ⟨g, o + lo * 14 + 10, none⟩) hgl).trans e10; have k11 := (hSw.cell (p := ⟨g, o + lo * 14 + 11, none⟩) hgl).trans e11; have k12 := (hSw.cell (p := ⟨g, o + lo * 14 + 12, none⟩) hgl).trans e12; have k13 := (hSw.cell (p := ⟨g, o + lo * 14 + 13, none⟩) hgl).trans e13; clear hSw; go_simp; try with_reducible rfl)
        refine tk 10 hHeld ?_ (hy := fun w hSw => by (try dsimp only at hSw); have k0 := (hSw.cell (p := ⟨W.heap.size, 0, none⟩) HP.out.lt).trans (HP.out.at_ 0 rfl); have k1 := (hSw.cell (p := ⟨W.heap.size, 1, none⟩) HP.out.lt).trans (HP.out.at_ 1 rfl); have k2 := (hSw.cell (p := ⟨W.heap.size, 2, none⟩) HP.out.lt).trans (HP.out.at_ 2 rfl); have k3 := (hSw.cell (p := ⟨W.heap.size, 3, none⟩) HP.out.lt).trans (HP.out.at_ 3 rfl); have k4 := (hSw.cell (p := ⟨W.heap.size, 4, none⟩) HP.out.lt).trans (HP.out.at_ 4 rfl); have k5 := (hSw.cell (p := ⟨W.heap.size, 5, none⟩) HP.out.lt).trans (HP.out.at_ 5 rfl); have k6 := (hSw.cell (p := ⟨W.heap.size, 6, none⟩) HP.out.lt).trans (HP.out.at_ 6 rfl); have k7 := (hSw.cell (p := ⟨W.heap.size, 7, none⟩) HP.out.lt).trans (HP.out.at_ 7 rfl); have k8 := (hSw.cell (p := ⟨W.heap.size, 8, none⟩) HP.out.lt).trans (HP.out.at_ 8 rfl); have k9 := (hSw.cell (p := ⟨W.heap.size, 9, none⟩) HP.out.lt).trans (HP.out.at_ 9 rfl); have k10 := (hSw.cell (p := ⟨W.heap.size, 10, none⟩) HP.out.lt).trans (HP.out.at_ 10 rfl); have k11 := (hSw.cell (p := ⟨W.heap.size, 11, none⟩) HP.out.lt).trans (HP.out.at_ 11 rfl); have k12 := (hSw.cell (p := ⟨W.heap.size, 12, none⟩) HP.out.lt).trans (HP.out.at_ 12 rfl); have k13 := (hSw.cell (p := ⟨W.heap.size, 13, none⟩) HP.out.lt).trans (HP.out.at_ 13 rfl); clear hSw; go_simp; try with_reducible rfl)
        refine rd1 11 (fun K hK => ?_)
        go_simp
        go_at_fn 129
        refine (hC _).mono ?_
        rintro e w9 ⟨rfl, hb⟩
        refine hK.out _ _ (hHeld.trans (hb.mono hHeld.size)) (fun hHeld => ?_)
        clear hK K hb
        refine tk 12 hHeld ?_
        refine tk 13 hHeld ?_
        refine tk 14 hHeld ?_
        refine tk 15 hHeld ?_
        refine rd0 ?_
        have HF := Lib.hid hHeld
        clear hHeld
        have HB2 := Lib.hid (HB.out.trans (HF.out.mono hszW))
        go_wp2
        go_ret2
        exact ⟨⟨lo, q, rfl, HT.out, HM.out, HC.out⟩, HB2.out⟩
      · have hdn : decide ((lo : Int) < (L.length : Int)) = false := decide_eq_false (by omega)
        have HM := Lib.hid (cut_miss HC.out HI.out fun x hx => absurd (List.getElem?_eq_some_iff.1 hx).1 hlen)
        go_wp2_with fail
        go_quiet (fail)
        all_goals
          go_wp2
          go_ret2
          exact ⟨⟨lo, false, rfl, fun h => (by cases h), fun _ => HM.out, HC.out⟩, by first | exact HB.out | exact HB.out.drew | exact bdrewN HB.out _⟩
set_option maxRecDepth 100000 in
set_option maxHeartbeats 1600000 in
theorem taskplace_impl {L : List D_Task} {a : Option Addr} {cap : Nat} {y0 y1 y2 : Int} {W : World} (hn : L.length ≤ 1048576) (hI : IncT L L.length) (h : RdSl R_Task W W.heap.size L a cap) :
    Calls Try.prog 108 #[.slice a L.length cap, .agg #[.int .i64 y0, .int .i64 y1], .int .i64 y2] W fun e w' => (∃ k : Nat, ∃ b : Bool, e = .returned (.tuple #[.int .i64 k, .bool b]) ∧ (b = true → atT L ((y0, y1), y2) = (k : Int)) ∧ (b = false → atT L ((y0, y1), y2) = -1) ∧ Cut L ((y0, y1), y2) k k) ∧ Below W.heap.size W w' := by
  have H := Lib.hid h
  have HI := Lib.hid hI
  clear h hI
  obtain ⟨wo, hwo⟩ : ∃ w, w = W.alloc (.cells #[.int .i64 y0, .int .i64 y1] 38) := ⟨_, rfl⟩
  have HB0 := Lib.hid (show Below W.heap.size W wo from by rw [hwo]; exact (Below.refl _ _).alloc (Nat.le_refl _) _)
  have HA := Lib.hid ((H.out.below R_Task_ok HB0.out).more R_Task_ok HB0.out.size)
  go_enter Try.func108, Try.ntmps108
  go_wp2_with fail
  rw [← hwo]
  clear hwo
  refine (bsT_w hn HI.out HA.out).mono ?_
  rintro e w1 ⟨⟨k, b, rfl, h1⟩, hb⟩
  have HB := Lib.hid (HB0.out.trans (hb.mono HB0.out.size))
  have H1 := Lib.hid h1
  clear hb h1
  go_wp2
  go_ret2
  exact ⟨⟨k, b, rfl, H1.out⟩, HB.out⟩
set_option maxRecDepth 100000 in
set_option maxHeartbeats 1600000 in
theorem taskat_impl {L : List D_Task} {a : Option Addr} {cap : Nat} {y0 y1 y2 : Int} {W : World} (hn : L.length ≤ 1048576) (hI : IncT L L.length) (h : RdSl R_Task W W.heap.size L a cap) :
    Calls Try.prog 63 #[.slice a L.length cap, .agg #[.int .i64 y0, .int .i64 y1], .int .i64 y2] W fun e w' => e = .returned (.int .i64 (atT L ((y0, y1), y2))) ∧ Below W.heap.size W w' := by
  have H := Lib.hid h
  have HI := Lib.hid hI
  clear h hI
  obtain ⟨wo, hwo⟩ : ∃ w, w = W.alloc (.cells #[.int .i64 y0, .int .i64 y1] 38) := ⟨_, rfl⟩
  have HB0 := Lib.hid (show Below W.heap.size W wo from by rw [hwo]; exact (Below.refl _ _).alloc (Nat.le_refl _) _)
  have HA := Lib.hid ((H.out.below R_Task_ok HB0.out).more R_Task_ok HB0.out.size)
  go_enter Try.func63, Try.ntmps63
  go_wp2_with fail
  rw [← hwo]
  clear hwo
  refine (taskplace_impl hn HI.out HA.out).mono ?_
  rintro e w1 ⟨⟨k, b, rfl, h1, h2, _⟩, hb⟩
  have HB := Lib.hid (HB0.out.trans (hb.mono HB0.out.size))
  have H1 := Lib.hid h1
  have H2 := Lib.hid h2
  clear hb h1 h2
  cases b with
  | true =>
    have HE := Lib.hid (H1.out rfl)
    go_wp2
    go_ret
    exact ⟨by rw [HE.out]; rfl, HB.out⟩
  | false =>
    have HE := Lib.hid (H2.out rfl)
    go_wp2
    go_ret
    exact ⟨by rw [HE.out]; rfl, HB.out⟩
end Go.Proofs.Ytmmnkdilnlhbfaa.RepC
