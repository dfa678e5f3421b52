/- Uses: what both sides ask of names and labels; the model's order of uses: contracts. -/
import Derived.Test.YtkghodbbgehcoaaTk
import Derived.Test.YtkghodbbgehcoaaTk
import Derived.Test.YtkghodbbgehcoaaUsP
import Derived.Test.YtkghodbbgehcoaaLabBelow
import Derived.Test.YtkghodbbgehcoaaLabEq
import Derived.Test.YtkghodbbgehcoaaTk
namespace Go.Proofs.Ytkghodbbgehcoaa.RepC
open Go.RowKit RowC ValC SpanC KeptC NameC
set_option linter.unusedVariables false
set_option linter.unusedSimpArgs false

open Classical in
noncomputable def nameB (s : ByteArray) : Bool := decide (NameP s)
open Classical in
theorem nameB_iff {s : ByteArray} : nameB s = true ↔ NameP s := by unfold nameB; simp
theorem res_name {s : ByteArray} {w w' : World} {e : Ending} (h : NameC.Res (NameP s) w e w') : e = .returned (.bool (nameB s)) ∧ Below w.heap.size w w' := by
  obtain ⟨b, rfl, hb, rfl⟩ := h
  have : b = nameB s := by
    cases b <;> cases hn : nameB s
    · rfl
    · exact absurd (hb.2 (nameB_iff.1 hn)) (by decide)
    · exact absurd (nameB_iff.2 (hb.1 rfl)) (by rw [hn]; decide)
    · rfl
  exact ⟨by rw [this], Below.refl _ _⟩
theorem ns_w (s : ByteArray) (hs : s.size ≤ maxLen) (w : World) : Calls Try.prog 22 #[.string s] w fun e w' => e = .returned (.bool (nameB s)) ∧ Below w.heap.size w w' := (spec_any s w hs).mono fun _ _ h => res_name h
theorem ni_w (s : ByteArray) (hs : s.size ≤ maxLen) (w : World) : Calls Try.prog 57 #[.string s] w fun e w' => e = .returned (.bool (nameB s)) ∧ Below w.heap.size w w' := (impl_any s w hs).mono fun _ _ h => res_name h
theorem is_w (n lo hi : Int) (w : World) : Calls Try.prog 63 #[.int .i64 n, .int .i64 lo, .int .i64 hi] w fun e w' => e = .returned (.bool (isB n lo hi)) ∧ Below w.heap.size w w' := (is_spec n lo hi w).mono fun _ _ ⟨h1, h2⟩ => ⟨h1, by rw [h2]; exact Below.refl _ _⟩
theorem ur_w (n : Int) (w : World) : Calls Try.prog 58 #[.int .i64 n] w fun e w' => e = .returned (.bool (isB n 1 100000)) ∧ Below w.heap.size w w' := by
  go_enter Try.func58, Try.ntmps58
  go_wp2_with (go_at_call 106; refine (is_impl _ _ _ _).mono ?_; rintro e w' ⟨rfl, rfl⟩)
  go_ret
  exact ⟨rfl, Below.refl _ _⟩
theorem rB_bd {l s : Int} (h : LabC.rB l s = true) : 0 ≤ l ∧ l ≤ 3 ∧ 0 ≤ s ∧ s ≤ 7 := by simpa [LabC.rB_iff, LabC.rP] using h
theorem ord_w {l s : Int} (h : LabC.rB l s = true) (w : World) : Calls Try.prog 82 #[.agg #[.int .i64 l, .int .i64 s]] w fun e w' => e = .returned (.int .i64 (8 * l + s)) ∧ Below w.heap.size w w' := by
  obtain ⟨h1, h2, h3, h4⟩ := rB_bd h
  go_enter Try.func82, Try.ntmps82
  go_wp2
  go_ret
  exact ⟨rfl, (Below.refl _ _).alloc (Nat.le_refl _) _⟩
/-- the model's 'ahead of' -/
def lessB (x y : D_Use) : Bool := if decide (x.1 = y.1) = true then sLt x.2.1 y.2.1 else decide (8 * x.1.1 + x.1.2 < 8 * y.1.1 + y.1.2)
theorem lessB_iff {x y : D_Use} (hx : LabC.rB x.1.1 x.1.2 = true) (hy : LabC.rB y.1.1 y.1.2 = true) : lessB x y = true ↔ ltU x y := by
  obtain ⟨⟨a, b⟩, o, n⟩ := x
  obtain ⟨⟨c, d⟩, p, m⟩ := y
  have h1 := rB_bd hx
  have h2 := rB_bd hy
  unfold lessB ltU ltLb
  simp only at *
  split
  · rename_i h
    simp only [decide_eq_true_eq, Prod.mk.injEq] at h
    obtain ⟨rfl, rfl⟩ := h
    simp
  · rename_i h
    simp only [decide_eq_true_eq, Prod.mk.injEq] at h
    simp only [decide_eq_true_eq, Prod.mk.injEq]
    constructor
    · intro h3; left; omega
    · rintro (h3 | ⟨h3, _⟩) <;> omega
set_option maxRecDepth 100000 in
set_option maxHeartbeats 1600000 in
theorem less_w {x0 x1 x3 y0 y1 y3 : Int} {x2 y2 : ByteArray} (hx : LabC.rB x0 x1 = true) (hy : LabC.rB y0 y1 = true) (W : World) :
    Calls Try.prog 65 #[.agg #[.int .i64 x0, .int .i64 x1, .string x2, .int .i64 x3], .agg #[.int .i64 y0, .int .i64 y1, .string y2, .int .i64 y3]] W fun e w' => e = .returned (.bool (lessB ((x0, x1), x2, x3) ((y0, y1), y2, y3))) ∧ Below W.heap.size W w' := by
  obtain ⟨V0, hV0⟩ : ∃ V0, V0 = (W.alloc (.cells #[.int .i64 x0, .int .i64 x1, .string x2, .int .i64 x3] 82)).alloc (.cells #[.int .i64 y0, .int .i64 y1, .string y2, .int .i64 y3] 82) := ⟨_, rfl⟩
  have BA := Lib.hid (show Blk V0 W.heap.size 82 #[.int .i64 x0, .int .i64 x1, .string x2, .int .i64 x3] from by rw [hV0]; exact (Blk.new W _ _).alloc _)
  have BB := Lib.hid (show Blk V0 (W.heap.size + 1) 82 #[.int .i64 y0, .int .i64 y1, .string y2, .int .i64 y3] from by
    have h9 := Blk.new (W.alloc (.cells #[.int .i64 x0, .int .i64 x1, .string x2, .int .i64 x3] 82)) 82 #[.int .i64 y0, .int .i64 y1, .string y2, .int .i64 y3]
    simp only [World.size_alloc] at h9
    rw [hV0]; exact h9)
  have HB0 := Lib.hid (show Below W.heap.size W V0 from by rw [hV0]; exact ((Below.refl _ _).alloc (Nat.le_refl _) _).alloc (by simp) _)
  obtain ⟨b, hb⟩ : ∃ b, decide (((x0, x1) : Int × Int) = (y0, y1)) = b := ⟨_, rfl⟩
  have hn := neq_lab x0 x1 y0 y1 b hb
  cases b with
  | true =>
    have HE := Lib.hid (show lessB ((x0, x1), x2, x3) ((y0, y1), y2, y3) = sLt x2 y2 from by unfold lessB; rw [if_pos hb])
    clear hb
    rw [hV0] at HB0
    clear hV0 BA BB
    go_enter Try.func65, Try.ntmps65
    go_wp2
    go_ret
    exact ⟨by rw [HE.out]; rfl, HB0.out⟩
  | false =>
    have HE := Lib.hid (show lessB ((x0, x1), x2, x3) ((y0, y1), y2, y3) = decide (8 * x0 + x1 < 8 * y0 + y1) from by unfold lessB; rw [if_neg (by rw [hb]; decide)])
    clear hb
    have a0 := BA.out.at_ 0 rfl
    have a1 := BA.out.at_ 1 rfl
    have b0 := BB.out.at_ 0 rfl
    have b1 := BB.out.at_ 1 rfl
    rw [hV0] at a0 a1 b0 b1
    go_enter Try.func65, Try.ntmps65
    go_wp2_with fail
    rw [← hV0]
    clear hV0 a0 a1 b0 b1 hn
    refine wp_region_held_drew (S := (fun V => Below (V0).heap.size (V0) V)) (by kernel_rfl) ((Below.refl _ _).drew) (fun hHeld => ?_)
    refine tk 0 hHeld ?_
    refine tk 1 hHeld ?_ (hy := fun w hSw => by (try dsimp only at hSw); have k0 := (hSw.cell (p := ⟨W.heap.size, 0, none⟩) BA.out.lt).trans (BA.out.at_ 0 rfl); have k1 := (hSw.cell (p := ⟨W.heap.size, 1, none⟩) BA.out.lt).trans (BA.out.at_ 1 rfl); clear hSw; go_simp; try with_reducible rfl)
    refine tk 3 hHeld ?_
    refine tk 4 hHeld ?_ (hy := fun w hSw => by (try dsimp only at hSw); have k0 := (hSw.cell (p := ⟨W.heap.size + 1, 0, none⟩) BB.out.lt).trans (BB.out.at_ 0 rfl); have k1 := (hSw.cell (p := ⟨W.heap.size + 1, 1, none⟩) BB.out.lt).trans (BB.out.at_ 1 rfl); clear hSw; go_simp; try with_reducible rfl)
    refine rd1 2 (fun K hK => ?_)
    go_simp
    go_at_call 82
    refine (ord_w hx _).mono ?_
    rintro e w1 ⟨rfl, hb⟩
    refine hK.out _ _ (hHeld.trans (hb.mono hHeld.size)) (fun hHeld => ?_)
    clear hK K hb
    refine rd1 5 (fun K hK => ?_)
    go_simp
    go_at_call 82
    refine (ord_w hy _).mono ?_
    rintro e w2 ⟨rfl, hb⟩
    refine hK.out _ _ (hHeld.trans (hb.mono hHeld.size)) (fun hHeld => ?_)
    clear hK K hb
    refine tk 6 hHeld ?_
    refine tk 7 hHeld ?_
    refine rd0 ?_
    have HF := Lib.hid hHeld
    clear hHeld
    have HB1 := Lib.hid (HB0.out.trans (HF.out.mono HB0.out.size))
    go_wp2
    go_ret
    exact ⟨by rw [HE.out]; rfl, HB1.out⟩
end Go.Proofs.Ytkghodbbgehcoaa.RepC
