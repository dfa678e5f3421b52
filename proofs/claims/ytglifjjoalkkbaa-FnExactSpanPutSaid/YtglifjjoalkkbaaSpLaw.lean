/- The laws on SpansRight, IsFree and SpanPut, out of the contracts. -/
import Derived.Test.YtglifjjoalkkbaaSpOpen
import Derived.Test.YtglifjjoalkkbaaSpPut3
namespace Go.Proofs.Ytglifjjoalkkbaa.SpanC
open Go.RowKit KeptC RowC ValC
set_option linter.unusedSimpArgs false
set_option linter.unusedVariables false

theorem putP_le {n : Nat} {f : Nat → Int × Int} {a b : Int} {m : Nat} {h : Nat → Int × Int} (hn : n ≤ 1048576) (hq : PutP n f a b m h) : m ≤ 1048577 := by
  rcases hq with ⟨_, rfl⟩ | ⟨_, _, rfl, _⟩ | ⟨_, _, _, rfl, _⟩ <;> omega
theorem size1 {w W : World} {o : Obj} (h : Below (w.heap.size + 1) (w.alloc o) W) : w.heap.size + 1 ≤ W.heap.size := by have := h.size; simpa using this

set_option maxRecDepth 100000 in
set_option maxHeartbeats 3200000 in
theorem law_right (a : Option Addr) (n cap : Nat) (f : Nat → Int × Int) (w : World) (hp : PairsIn w a n cap f) :
    Calls Try.prog 4 #[.slice a n cap] w fun e w' => e = .returned (.bool true) ∧ Below w.heap.size w w' := by
  have hm : n ≤ 9223372036854775807 := by
    obtain ⟨h1, h2, _⟩ := hp
    unfold maxLen at h2
    omega
  have hs := fun W => szS a n cap W hm
  by_cases hn : n ≤ 1048576
  · have HT := Lib.hid (pairs_to hp hn)
    have hl : (0 : Int) ≤ 1048576 - (n : Int) := by omega
    clear hp
    simp only [hn, if_true] at hs
    go_enter Try.func4, Try.ntmps4
    go_wp2_with fail
    refine (hs _).mono ?_
    rintro e w' ⟨rfl, rfl⟩
    clear hs
    go_wp2_with fail
    refine (toS_new (HT.out _ (Below.refl _ _))).mono ?_
    rintro e w1 ⟨rfl, hv, hr, hb, hlt⟩
    have HR := Lib.hid hr
    have HB1 := Lib.hid hb
    clear hv hr hb
    go_wp2_with fail
    refine (spans_spec _ n f _ hn HR.out hlt).mono ?_
    intro e w2 h
    obtain ⟨b, rfl, hq, hb⟩ := resB_elim h
    have HQ := Lib.hid hq
    have HB2 := Lib.hid (HB1.out.trans (hb.mono (Nat.le_of_lt hlt)))
    clear h hq hb HR
    go_wp2_with fail
    refine (toS_new (HT.out _ HB2.out)).mono ?_
    rintro e w3 ⟨rfl, hv, hr, hb, hlt3⟩
    have HR := Lib.hid hr
    have HV := Lib.hid hv
    have HB3 := Lib.hid (HB2.out.trans (hb.mono HB2.out.size))
    clear hv hr hb
    go_wp2_with fail
    refine (spans_impl _ n f _ hn HR.out hlt3).mono ?_
    intro e w4 h
    obtain ⟨c, rfl, hq, hb⟩ := resB_elim h
    obtain rfl : c = b := by rw [Bool.eq_iff_iff]; exact hq.trans HQ.out.symm
    have HV := Lib.hid (HV.out.below hb)
    have HB4 := Lib.hid (HB3.out.trans (hb.mono HB3.out.size))
    clear h hq hb HQ HR
    go_wp2_with fail
    refine (toS_new (HT.out _ HB4.out)).mono ?_
    rintro e w5 ⟨rfl, hv, hr, hb, hlt5⟩
    have HV := Lib.hid (HV.out.below hb)
    have HV5 := Lib.hid hv
    have HB5 := Lib.hid (HB4.out.trans (hb.mono HB4.out.size))
    clear hv hr hb
    go_wp2_with fail
    refine (eqS_v (by omega) HV.out HV5.out (fun _ _ => rfl)).mono ?_
    intro e w6 h
    obtain ⟨rfl, hb⟩ := isB_elim h
    have HB6 := Lib.hid (HB5.out.trans (hb.mono HB5.out.size))
    clear h hb HV HV5
    go_wp2
    all_goals
      go_ret
      exact ⟨rfl, HB6.out⟩
  · simp only [hn, if_false] at hs
    clear hp
    go_enter Try.func4, Try.ntmps4
    go_wp2_with (go_at_call 25; refine (hs _).mono ?_; rintro e w' ⟨rfl, rfl⟩)
    go_ret
    exact ⟨rfl, Below.refl _ _⟩

set_option maxRecDepth 100000 in
set_option maxHeartbeats 3200000 in
theorem law_free (a : Option Addr) (n cap : Nat) (f : Nat → Int × Int) (x y : Int) (w : World) (hp : PairsIn w a n cap f) :
    Calls Try.prog 5 #[.slice a n cap, .agg #[.int .i64 x, .int .i64 y]] w fun e w' => e = .returned (.bool true) ∧ Below w.heap.size w w' := by
  have hm : n ≤ 9223372036854775807 := by
    obtain ⟨h1, h2, _⟩ := hp
    unfold maxLen at h2
    omega
  have hs := fun W => szS a n cap W hm
  by_cases hn : n ≤ 1048576
  · have HT := Lib.hid (pairs_to hp hn)
    have hl : (0 : Int) ≤ 1048576 - (n : Int) := by omega
    clear hp
    simp only [hn, if_true] at hs
    go_enter Try.func5, Try.ntmps5
    go_wp2_with fail
    refine (hs _).mono ?_
    rintro e w' ⟨rfl, rfl⟩
    clear hs
    go_wp2_with fail
    have HB0 := Lib.hid (Below.refl (w.heap.size + 1) (w.alloc (.cells #[.int .i64 x, .int .i64 y] 46)))
    have hxl : w.heap.size < ((w.alloc (.cells #[.int .i64 x, .int .i64 y] 46))).heap.size := by simp
    have hsz : (w.heap.size + 1) ≤ ((w.alloc (.cells #[.int .i64 x, .int .i64 y] 46))).heap.size := by simp
    have hx0 : ((w.alloc (.cells #[.int .i64 x, .int .i64 y] 46))).cell? ⟨w.heap.size, 0, none⟩ = some (.int .i64 x) := by simp
    have hx1 : ((w.alloc (.cells #[.int .i64 x, .int .i64 y] 46))).cell? ⟨w.heap.size, 1, none⟩ = some (.int .i64 y) := by simp
    refine wp_region_held_drew (S := (fun W => W.cell? ⟨w.heap.size, 0, none⟩ = some (.int .i64 x) ∧ W.cell? ⟨w.heap.size, 1, none⟩ = some (.int .i64 y) ∧ ((w.alloc (.cells #[.int .i64 x, .int .i64 y] 46))).heap.size ≤ W.heap.size ∧ Below (((w.alloc (.cells #[.int .i64 x, .int .i64 y] 46))).heap.size) ((w.alloc (.cells #[.int .i64 x, .int .i64 y] 46))) W)) (by kernel_rfl) (⟨hx0, hx1, Nat.le_refl _, (Below.refl _ _).drew⟩) (fun hHeld => ?_)
    (refine wpAnyH_take (i := 0) (v := ?hv1) rfl (by kernel_rfl) (by kernel_rfl) (by kernel_rfl) (fun _ _ _ h => h) (Or.inl ⟨by kernel_rfl, ?hy1⟩) hHeld ?hr1; case hy1 => (intro w hSw; (try dsimp only at hSw); go_simp; try with_reducible rfl))
    simp only [Act.put, List.getElem_toArray, List.getElem_cons_succ, List.getElem_cons_zero, List.setIfInBounds_toArray, List.set_cons_zero, List.set_cons_succ]
    (refine wpAnyH_take (i := 2) (v := ?hv2) rfl (by kernel_rfl) (by kernel_rfl) (by kernel_rfl) (fun _ _ _ h => h) (Or.inl ⟨by kernel_rfl, ?hy2⟩) hHeld ?hr2; case hy2 => (intro w hSw; (try dsimp only at hSw); go_simp; try with_reducible rfl))
    simp only [Act.put, List.getElem_toArray, List.getElem_cons_succ, List.getElem_cons_zero, List.setIfInBounds_toArray, List.set_cons_zero, List.set_cons_succ]
    refine wpAnyH_ready (rs := [1]) (by kernel_rfl) (by simp) ?_
    refine AllReadyH.cons rfl (fun K hK => ?_) AllReadyH.nil
    go_simp
    go_at_call 26; refine (toS_new (HT.out _ (bel1 (HB0.out.trans (hHeld.2.2.2.mono hsz))))).mono ?_; rintro e u1 ⟨rfl, hv1, hr1, hb, hl1⟩; have HR1 := Lib.hid (show PRow u1 (w.heap.size + 1) 0 n f by simpa using hr1); have hl1 : w.heap.size + 1 < u1.heap.size := (by simpa using hl1); clear hr1 hv1
    refine hK.out _ _ (⟨(hb.cell (p := ⟨w.heap.size, 0, none⟩) (Nat.lt_of_lt_of_le hxl hHeld.2.2.1)).trans hHeld.1, (hb.cell (p := ⟨w.heap.size, 1, none⟩) (Nat.lt_of_lt_of_le hxl hHeld.2.2.1)).trans hHeld.2.1, Nat.le_trans hHeld.2.2.1 hb.size, hHeld.2.2.2.trans (hb.mono hHeld.2.2.1)⟩) (fun hHeld => ?_)
    clear hK K
    try simp only [Act.put, List.getElem_toArray, List.getElem_cons_succ, List.getElem_cons_zero, List.setIfInBounds_toArray, List.set_cons_zero, List.set_cons_succ]
    refine wpAnyH_ready (rs := [3]) (by kernel_rfl) (by simp) ?_
    refine AllReadyH.cons rfl (fun K hK => ?_) AllReadyH.nil
    go_simp
    go_at_call 28; refine (to_w _ _ _).mono ?_; rintro e u2 ⟨rfl, hb⟩; have HR2 := Lib.hid (HR1.out.below hb hl1); have hl2 := Nat.lt_of_lt_of_le hl1 hb.size
    refine hK.out _ _ (⟨(hb.cell (p := ⟨w.heap.size, 0, none⟩) (Nat.lt_of_lt_of_le hxl hHeld.2.2.1)).trans hHeld.1, (hb.cell (p := ⟨w.heap.size, 1, none⟩) (Nat.lt_of_lt_of_le hxl hHeld.2.2.1)).trans hHeld.2.1, Nat.le_trans hHeld.2.2.1 hb.size, hHeld.2.2.2.trans (hb.mono hHeld.2.2.1)⟩) (fun hHeld => ?_)
    clear hK K
    try simp only [Act.put, List.getElem_toArray, List.getElem_cons_succ, List.getElem_cons_zero, List.setIfInBounds_toArray, List.set_cons_zero, List.set_cons_succ]
    refine wpAnyH_ready (rs := [4]) (by kernel_rfl) (by simp) ?_
    refine AllReadyH.cons rfl (fun K hK => ?_) AllReadyH.nil
    go_simp
    go_at_call 22; refine (isfree_spec _ n f x y _ hn HR2.out hl2).mono ?_; intro e u3 h3; obtain ⟨b, rfl, hq, hb⟩ := resB_elim h3; have HQ := Lib.hid hq; clear hq; clear h3
    refine hK.out _ _ (⟨(hb.cell (p := ⟨w.heap.size, 0, none⟩) (Nat.lt_of_lt_of_le hxl hHeld.2.2.1)).trans hHeld.1, (hb.cell (p := ⟨w.heap.size, 1, none⟩) (Nat.lt_of_lt_of_le hxl hHeld.2.2.1)).trans hHeld.2.1, Nat.le_trans hHeld.2.2.1 hb.size, hHeld.2.2.2.trans (hb.mono hHeld.2.2.1)⟩) (fun hHeld => ?_)
    clear hK K
    try simp only [Act.put, List.getElem_toArray, List.getElem_cons_succ, List.getElem_cons_zero, List.setIfInBounds_toArray, List.set_cons_zero, List.set_cons_succ]
    (refine wpAnyH_take (i := 5) (v := ?hv3) rfl (by kernel_rfl) (by kernel_rfl) (by kernel_rfl) (fun _ _ _ h => h) (Or.inl ⟨by kernel_rfl, ?hy3⟩) hHeld ?hr3; case hy3 => (intro w hSw; (try dsimp only at hSw); go_simp; try with_reducible rfl))
    simp only [Act.put, List.getElem_toArray, List.getElem_cons_succ, List.getElem_cons_zero, List.setIfInBounds_toArray, List.set_cons_zero, List.set_cons_succ]
    refine wpAnyH_done (by kernel_rfl) ?_ _
    have HB3 := Lib.hid (show Below (w.heap.size + 1) (w.alloc (.cells #[.int .i64 x, .int .i64 y] 46)) u3 by simpa using hHeld.2.2.2)
    have hs3 := size1 HB3.out
    have hlo3 := hHeld.2.2.1
    (try simp at hs3 hlo3)
    clear hHeld
    go_wp2_with fail
    refine (toS_new (HT.out _ (bel1 HB3.out))).mono ?_
    rintro e w4 ⟨rfl, hv, hr, hb, hlt4⟩
    have HR := Lib.hid hr
    have HV := Lib.hid hv
    have HB4 := Lib.hid (HB3.out.trans (hb.mono hs3))
    have ⟨hy0, hy1, hyl⟩ := box0 HB4.out
    have hs4 := size1 HB4.out
    clear hv hr hb
    go_wp2_with fail
    refine (to_w _ _ _).mono ?_
    rintro e w5 ⟨rfl, hb⟩
    have HR := Lib.hid (HR.out.below hb hlt4)
    have HV := Lib.hid (HV.out.below hb)
    have hlt5 := Nat.lt_of_lt_of_le hlt4 hb.size
    have HB5 := Lib.hid (HB4.out.trans (hb.mono hs4))
    have hs5 := size1 HB5.out
    clear hb
    go_wp2_with fail
    refine (isfree_impl _ n f x y _ hn HR.out hlt5).mono ?_
    intro e w6 h
    obtain ⟨c, rfl, hq, hb⟩ := resB_elim h
    obtain rfl : c = b := by rw [Bool.eq_iff_iff]; exact hq.trans HQ.out.symm
    have HV := Lib.hid (HV.out.below hb)
    have HB6 := Lib.hid (HB5.out.trans (hb.mono hs5))
    have hs6 := size1 HB6.out
    clear h hq hb HQ HR
    go_wp2_with fail
    refine (toS_new (HT.out _ (bel1 HB6.out))).mono ?_
    rintro e w7 ⟨rfl, hv, hr, hb, hlt7⟩
    have HV := Lib.hid (HV.out.below hb)
    have HV7 := Lib.hid hv
    have HB7 := Lib.hid (HB6.out.trans (hb.mono hs6))
    have hs7 := size1 HB7.out
    clear hv hr hb
    go_wp2_with fail
    refine (eqS_v (by omega) HV.out HV7.out (fun _ _ => rfl)).mono ?_
    intro e w8 h
    obtain ⟨rfl, hb⟩ := isB_elim h
    have HB8 := Lib.hid (HB7.out.trans (hb.mono hs7))
    clear h hb HV HV7
    go_wp2
    all_goals
      go_ret
      exact ⟨rfl, bel1 HB8.out⟩
  · simp only [hn, if_false] at hs
    clear hp
    go_enter Try.func5, Try.ntmps5
    go_wp2_with (go_at_call 25; refine (hs _).mono ?_; rintro e w' ⟨rfl, rfl⟩)
    go_ret
    exact ⟨rfl, (Below.refl _ _).alloc (Nat.le_refl _) _⟩

set_option maxRecDepth 100000 in
set_option maxHeartbeats 3200000 in
theorem law_put (a : Option Addr) (n cap : Nat) (f : Nat → Int × Int) (x y : Int) (w : World) (hp : PairsIn w a n cap f) :
    Calls Try.prog 6 #[.slice a n cap, .agg #[.int .i64 x, .int .i64 y]] w fun e w' => e = .returned (.bool true) ∧ Below w.heap.size w w' := by
  have hm : n ≤ 9223372036854775807 := by
    obtain ⟨h1, h2, _⟩ := hp
    unfold maxLen at h2
    omega
  have hs := fun W => szS a n cap W hm
  by_cases hn : n ≤ 1048576
  · have HT := Lib.hid (pairs_to hp hn)
    have hl : (0 : Int) ≤ 1048576 - (n : Int) := by omega
    clear hp
    simp only [hn, if_true] at hs
    go_enter Try.func6, Try.ntmps6
    go_wp2_with fail
    refine (hs _).mono ?_
    rintro e w' ⟨rfl, rfl⟩
    clear hs
    go_wp2_with fail
    have HB0 := Lib.hid (Below.refl (w.heap.size + 1) (w.alloc (.cells #[.int .i64 x, .int .i64 y] 46)))
    have hxl : w.heap.size < ((w.alloc (.cells #[.int .i64 x, .int .i64 y] 46))).heap.size := by simp
    have hsz : (w.heap.size + 1) ≤ ((w.alloc (.cells #[.int .i64 x, .int .i64 y] 46))).heap.size := by simp
    have hx0 : ((w.alloc (.cells #[.int .i64 x, .int .i64 y] 46))).cell? ⟨w.heap.size, 0, none⟩ = some (.int .i64 x) := by simp
    have hx1 : ((w.alloc (.cells #[.int .i64 x, .int .i64 y] 46))).cell? ⟨w.heap.size, 1, none⟩ = some (.int .i64 y) := by simp
    refine wp_region_held_drew (S := (fun W => W.cell? ⟨w.heap.size, 0, none⟩ = some (.int .i64 x) ∧ W.cell? ⟨w.heap.size, 1, none⟩ = some (.int .i64 y) ∧ ((w.alloc (.cells #[.int .i64 x, .int .i64 y] 46))).heap.size ≤ W.heap.size ∧ Below (((w.alloc (.cells #[.int .i64 x, .int .i64 y] 46))).heap.size) ((w.alloc (.cells #[.int .i64 x, .int .i64 y] 46))) W)) (by kernel_rfl) (⟨hx0, hx1, Nat.le_refl _, (Below.refl _ _).drew⟩) (fun hHeld => ?_)
    (refine wpAnyH_take (i := 0) (v := ?hv4) rfl (by kernel_rfl) (by kernel_rfl) (by kernel_rfl) (fun _ _ _ h => h) (Or.inl ⟨by kernel_rfl, ?hy4⟩) hHeld ?hr4; case hy4 => (intro w hSw; (try dsimp only at hSw); go_simp; try with_reducible rfl))
    simp only [Act.put, List.getElem_toArray, List.getElem_cons_succ, List.getElem_cons_zero, List.setIfInBounds_toArray, List.set_cons_zero, List.set_cons_succ]
    (refine wpAnyH_take (i := 2) (v := ?hv5) rfl (by kernel_rfl) (by kernel_rfl) (by kernel_rfl) (fun _ _ _ h => h) (Or.inl ⟨by kernel_rfl, ?hy5⟩) hHeld ?hr5; case hy5 => (intro w hSw; (try dsimp only at hSw); go_simp; try with_reducible rfl))
    simp only [Act.put, List.getElem_toArray, List.getElem_cons_succ, List.getElem_cons_zero, List.setIfInBounds_toArray, List.set_cons_zero, List.set_cons_succ]
    refine wpAnyH_ready (rs := [1]) (by kernel_rfl) (by simp) ?_
    refine AllReadyH.cons rfl (fun K hK => ?_) AllReadyH.nil
    go_simp
    go_at_call 26; refine (toS_new (HT.out _ (bel1 (HB0.out.trans (hHeld.2.2.2.mono hsz))))).mono ?_; rintro e u1 ⟨rfl, hv1, hr1, hb, hl1⟩; have HR1 := Lib.hid (show PRow u1 (w.heap.size + 1) 0 n f by simpa using hr1); have hl1 : w.heap.size + 1 < u1.heap.size := (by simpa using hl1); clear hr1 hv1
    refine hK.out _ _ (⟨(hb.cell (p := ⟨w.heap.size, 0, none⟩) (Nat.lt_of_lt_of_le hxl hHeld.2.2.1)).trans hHeld.1, (hb.cell (p := ⟨w.heap.size, 1, none⟩) (Nat.lt_of_lt_of_le hxl hHeld.2.2.1)).trans hHeld.2.1, Nat.le_trans hHeld.2.2.1 hb.size, hHeld.2.2.2.trans (hb.mono hHeld.2.2.1)⟩) (fun hHeld => ?_)
    clear hK K
    try simp only [Act.put, List.getElem_toArray, List.getElem_cons_succ, List.getElem_cons_zero, List.setIfInBounds_toArray, List.set_cons_zero, List.set_cons_succ]
    refine wpAnyH_ready (rs := [3]) (by kernel_rfl) (by simp) ?_
    refine AllReadyH.cons rfl (fun K hK => ?_) AllReadyH.nil
    go_simp
    go_at_call 28; refine (to_w _ _ _).mono ?_; rintro e u2 ⟨rfl, hb⟩; have HR2 := Lib.hid (HR1.out.below hb hl1); have hl2 := Nat.lt_of_lt_of_le hl1 hb.size
    refine hK.out _ _ (⟨(hb.cell (p := ⟨w.heap.size, 0, none⟩) (Nat.lt_of_lt_of_le hxl hHeld.2.2.1)).trans hHeld.1, (hb.cell (p := ⟨w.heap.size, 1, none⟩) (Nat.lt_of_lt_of_le hxl hHeld.2.2.1)).trans hHeld.2.1, Nat.le_trans hHeld.2.2.1 hb.size, hHeld.2.2.2.trans (hb.mono hHeld.2.2.1)⟩) (fun hHeld => ?_)
    clear hK K
    try simp only [Act.put, List.getElem_toArray, List.getElem_cons_succ, List.getElem_cons_zero, List.setIfInBounds_toArray, List.set_cons_zero, List.set_cons_succ]
    refine wpAnyH_ready (rs := [4]) (by kernel_rfl) (by simp) ?_
    refine AllReadyH.cons rfl (fun K hK => ?_) AllReadyH.nil
    go_simp
    go_at_call 16; refine (put_spec _ n f x y _ hn HR2.out hl2).mono ?_; intro e u3 h3; obtain ⟨v0, m0, h0, rfl, hq, hrow, hb⟩ := resRow_elim h3; have HQ := Lib.hid hq; have HV0 := Lib.hid (RowV.of_own hrow); clear hq hrow; clear h3
    refine hK.out _ _ (⟨(hb.cell (p := ⟨w.heap.size, 0, none⟩) (Nat.lt_of_lt_of_le hxl hHeld.2.2.1)).trans hHeld.1, (hb.cell (p := ⟨w.heap.size, 1, none⟩) (Nat.lt_of_lt_of_le hxl hHeld.2.2.1)).trans hHeld.2.1, Nat.le_trans hHeld.2.2.1 hb.size, hHeld.2.2.2.trans (hb.mono hHeld.2.2.1)⟩) (fun hHeld => ?_)
    clear hK K
    try simp only [Act.put, List.getElem_toArray, List.getElem_cons_succ, List.getElem_cons_zero, List.setIfInBounds_toArray, List.set_cons_zero, List.set_cons_succ]
    (refine wpAnyH_take (i := 5) (v := ?hv6) rfl (by kernel_rfl) (by kernel_rfl) (by kernel_rfl) (fun _ _ _ h => h) (Or.inl ⟨by kernel_rfl, ?hy6⟩) hHeld ?hr6; case hy6 => (intro w hSw; (try dsimp only at hSw); go_simp; try with_reducible rfl))
    simp only [Act.put, List.getElem_toArray, List.getElem_cons_succ, List.getElem_cons_zero, List.setIfInBounds_toArray, List.set_cons_zero, List.set_cons_succ]
    refine wpAnyH_done (by kernel_rfl) ?_ _
    have HB3 := Lib.hid (show Below (w.heap.size + 1) (w.alloc (.cells #[.int .i64 x, .int .i64 y] 46)) u3 by simpa using hHeld.2.2.2)
    have hs3 := size1 HB3.out
    have hlo3 := hHeld.2.2.1
    (try simp at hs3 hlo3)
    clear hHeld
    have hm0 : m0 ≤ 1048577 := putP_le hn HQ.out
    have hu3 := HV0.out.1
    go_wp2_with fail
    refine (toS_new (HT.out _ (bel1 HB3.out))).mono ?_
    rintro e w4 ⟨rfl, hv, hr, hb, hlt4⟩
    have HV0 := Lib.hid (HV0.out.below hb)
    have HR := Lib.hid hr
    have HX := Lib.hid hv
    have HB4 := Lib.hid (HB3.out.trans (hb.mono hs3))
    have ⟨hy0, hy1, hyl⟩ := box0 HB4.out
    have hs4 := size1 HB4.out
    clear hv hr hb
    go_wp2_with fail
    refine (to_w _ _ _).mono ?_
    rintro e w5 ⟨rfl, hb⟩
    have HR := Lib.hid (HR.out.below hb hlt4)
    have HX := Lib.hid (HX.out.below hb)
    have HV0 := Lib.hid (HV0.out.below hb)
    have hlt5 := Nat.lt_of_lt_of_le hlt4 hb.size
    have hle5 := hb.size
    have HB5 := Lib.hid (HB4.out.trans (hb.mono hs4))
    have hs5 := size1 HB5.out
    clear hb
    go_wp2_with fail
    refine (put_impl _ n f x y _ hn HR.out hlt5).mono ?_
    intro e w6 h
    obtain ⟨v1, m1, h1, rfl, hq, hrow, hb⟩ := resRow_elim h
    have hone := putP_one HQ.out hq
    obtain rfl : m1 = m0 := hone.1.symm
    have HE := Lib.hid hone.2
    have HG := Lib.hid (RowV.of_own hrow)
    have HX := Lib.hid (HX.out.below hb)
    have HV0 := Lib.hid (HV0.out.below hb)
    have hle6 := hb.size
    have HB6 := Lib.hid (HB5.out.trans (hb.mono hs5))
    have hs6 := size1 HB6.out
    clear h hq hb hone hrow HR
    go_wp2_with fail
    refine (eqS_v (by omega) HG.out HV0.out (fun i hi => (HE.out i hi).symm)).mono ?_
    intro e w7 h
    obtain ⟨rfl, hb⟩ := isB_elim h
    have HG := Lib.hid (HG.out.below hb)
    have HV0 := Lib.hid (HV0.out.below hb)
    have HX := Lib.hid (HX.out.below hb)
    have hle7 := hb.size
    have HB7 := Lib.hid (HB6.out.trans (hb.mono hs6))
    have hs7 := size1 HB7.out
    clear h hb
    go_wp2_with fail
    refine (toS_new (HT.out _ (bel1 HB7.out))).mono ?_
    rintro e w8 ⟨rfl, hv, hr, hb, hlt8⟩
    have HY := Lib.hid hv
    have HG := Lib.hid (HG.out.below hb)
    have HV0 := Lib.hid (HV0.out.below hb)
    have HX := Lib.hid (HX.out.below hb)
    have hle8 := hb.size
    have HB8 := Lib.hid (HB7.out.trans (hb.mono hs7))
    have hs8 := size1 HB8.out
    clear hv hr hb
    go_wp2_with fail
    refine (eqS_v (by omega) HX.out HY.out (fun _ _ => rfl)).mono ?_
    intro e w9 h
    obtain ⟨rfl, hb⟩ := isB_elim h
    have HG := Lib.hid (HG.out.below hb)
    have HV0 := Lib.hid (HV0.out.below hb)
    have HX := Lib.hid (HX.out.below hb)
    have hle9 := hb.size
    have HB9 := Lib.hid (HB8.out.trans (hb.mono hs8))
    have hs9 := size1 HB9.out
    clear h hb
    clear HY
    go_wp2_with fail
    refine (markS_v (k := 1) (by omega) (by omega) (by omega) HX.out).mono ?_
    intro e w10 h
    obtain ⟨rfl, hmk, ho⟩ := marks_elim h
    have HG := Lib.hid (HG.out.off ho (fun k h1 => rg_apart (by omega) h1))
    have HV0 := Lib.hid (HV0.out.off ho (fun k h1 => rg_apart (by omega) h1))
    have hb := ho.below (B := w.heap.size + 1) hs9 (fun k hk => by unfold Rg at hk; omega)
    have hle10 := hb.size
    have HB10 := Lib.hid (HB9.out.trans hb)
    have hs10 := size1 HB10.out
    clear h hb ho hmk
    clear HX
    go_wp2_with fail
    refine (eqS_v (by omega) HG.out HV0.out (fun i hi => (HE.out i hi).symm)).mono ?_
    intro e w11 h
    obtain ⟨rfl, hb⟩ := isB_elim h
    have HG := Lib.hid (HG.out.below hb)
    have HV0 := Lib.hid (HV0.out.below hb)
    have hle11 := hb.size
    have HB11 := Lib.hid (HB10.out.trans (hb.mono hs10))
    have hs11 := size1 HB11.out
    clear h hb
    go_wp2_with fail
    refine (markS_v (k := 1) (by omega) (by omega) (by omega) HG.out).mono ?_
    intro e w12 h
    obtain ⟨rfl, hmk, ho⟩ := marks_elim h
    have HV0 := Lib.hid (HV0.out.off ho (fun k h1 => rg_apart (by omega) h1))
    have HG := Lib.hid hmk
    have hb := ho.below (B := w.heap.size + 1) hs11 (fun k hk => by unfold Rg at hk; omega)
    have hle12 := hb.size
    have HB12 := Lib.hid (HB11.out.trans hb)
    have hs12 := size1 HB12.out
    clear h hb ho hmk
    go_wp2_with fail
    refine (heldS_v (k := 1) (by omega) (by omega) (by omega) HG.out).mono ?_
    rintro e w13 ⟨rfl, hb⟩
    have HG := Lib.hid (HG.out.below hb)
    have HV0 := Lib.hid (HV0.out.below hb)
    have hle13 := hb.size
    have HB13 := Lib.hid (HB12.out.trans (hb.mono hs12))
    have hs13 := size1 HB13.out
    clear hb
    clear hx0 hx1 hxl hy0 hy1 hyl
    have ⟨hx0, hx1, hxl⟩ := box0 HB13.out
    go_wp2_with fail
    refine wp_region_held_drew (S := (fun W => W.cell? ⟨w.heap.size, 0, none⟩ = some (.int .i64 x) ∧ W.cell? ⟨w.heap.size, 1, none⟩ = some (.int .i64 y) ∧ (w13).heap.size ≤ W.heap.size ∧ Below ((w13).heap.size) (w13) W)) (by kernel_rfl) (⟨hx0, hx1, Nat.le_refl _, (Below.refl _ _).drew⟩) (fun hHeld => ?_)
    (refine wpAnyH_take (i := 0) (v := ?hv7) rfl (by kernel_rfl) (by kernel_rfl) (by kernel_rfl) (fun _ _ _ h => h) (Or.inl ⟨by kernel_rfl, ?hy7⟩) hHeld ?hr7; case hy7 => (intro w hSw; (try dsimp only at hSw); go_simp; try with_reducible rfl))
    simp only [Act.put, List.getElem_toArray, List.getElem_cons_succ, List.getElem_cons_zero, List.setIfInBounds_toArray, List.set_cons_zero, List.set_cons_succ]
    (refine wpAnyH_take (i := 2) (v := ?hv8) rfl (by kernel_rfl) (by kernel_rfl) (by kernel_rfl) (fun _ _ _ h => h) (Or.inl ⟨by kernel_rfl, ?hy8⟩) hHeld ?hr8; case hy8 => (intro w hSw; (try dsimp only at hSw); go_simp; try with_reducible rfl))
    simp only [Act.put, List.getElem_toArray, List.getElem_cons_succ, List.getElem_cons_zero, List.setIfInBounds_toArray, List.set_cons_zero, List.set_cons_succ]
    refine wpAnyH_ready (rs := [1]) (by kernel_rfl) (by simp) ?_
    refine AllReadyH.cons rfl (fun K hK => ?_) AllReadyH.nil
    go_simp
    go_at_call 26; refine (toS_new (HT.out _ (bel1 (HB13.out.trans (hHeld.2.2.2.mono hs13))))).mono ?_; rintro e u1 ⟨rfl, hv1, hr1, hb, hl1⟩; have HR1 := Lib.hid (show PRow u1 (w13.heap.size) 0 n f by simpa using hr1); have hl1 : w13.heap.size < u1.heap.size := (by simpa using hl1); clear hr1 hv1
    refine hK.out _ _ (⟨(hb.cell (p := ⟨w.heap.size, 0, none⟩) (Nat.lt_of_lt_of_le hxl hHeld.2.2.1)).trans hHeld.1, (hb.cell (p := ⟨w.heap.size, 1, none⟩) (Nat.lt_of_lt_of_le hxl hHeld.2.2.1)).trans hHeld.2.1, Nat.le_trans hHeld.2.2.1 hb.size, hHeld.2.2.2.trans (hb.mono hHeld.2.2.1)⟩) (fun hHeld => ?_)
    clear hK K
    try simp only [Act.put, List.getElem_toArray, List.getElem_cons_succ, List.getElem_cons_zero, List.setIfInBounds_toArray, List.set_cons_zero, List.set_cons_succ]
    refine wpAnyH_ready (rs := [3]) (by kernel_rfl) (by simp) ?_
    refine AllReadyH.cons rfl (fun K hK => ?_) AllReadyH.nil
    go_simp
    go_at_call 28; refine (to_w _ _ _).mono ?_; rintro e u2 ⟨rfl, hb⟩; have HR2 := Lib.hid (HR1.out.below hb hl1); have hl2 := Nat.lt_of_lt_of_le hl1 hb.size
    refine hK.out _ _ (⟨(hb.cell (p := ⟨w.heap.size, 0, none⟩) (Nat.lt_of_lt_of_le hxl hHeld.2.2.1)).trans hHeld.1, (hb.cell (p := ⟨w.heap.size, 1, none⟩) (Nat.lt_of_lt_of_le hxl hHeld.2.2.1)).trans hHeld.2.1, Nat.le_trans hHeld.2.2.1 hb.size, hHeld.2.2.2.trans (hb.mono hHeld.2.2.1)⟩) (fun hHeld => ?_)
    clear hK K
    try simp only [Act.put, List.getElem_toArray, List.getElem_cons_succ, List.getElem_cons_zero, List.setIfInBounds_toArray, List.set_cons_zero, List.set_cons_succ]
    refine wpAnyH_ready (rs := [4]) (by kernel_rfl) (by simp) ?_
    refine AllReadyH.cons rfl (fun K hK => ?_) AllReadyH.nil
    go_simp
    go_at_call 10; refine (put_impl _ n f x y _ hn HR2.out hl2).mono ?_; intro e u3 h3; obtain ⟨v2, m2, h2, rfl, hq, hrow, hb⟩ := resRow_elim h3; have hone := putP_one HQ.out hq; obtain rfl : m2 = m1 := hone.1.symm; have HE2 := Lib.hid hone.2; have HH := Lib.hid (RowV.of_own hrow); clear hone hq hrow; clear h3
    refine hK.out _ _ (⟨(hb.cell (p := ⟨w.heap.size, 0, none⟩) (Nat.lt_of_lt_of_le hxl hHeld.2.2.1)).trans hHeld.1, (hb.cell (p := ⟨w.heap.size, 1, none⟩) (Nat.lt_of_lt_of_le hxl hHeld.2.2.1)).trans hHeld.2.1, Nat.le_trans hHeld.2.2.1 hb.size, hHeld.2.2.2.trans (hb.mono hHeld.2.2.1)⟩) (fun hHeld => ?_)
    clear hK K
    try simp only [Act.put, List.getElem_toArray, List.getElem_cons_succ, List.getElem_cons_zero, List.setIfInBounds_toArray, List.set_cons_zero, List.set_cons_succ]
    (refine wpAnyH_take (i := 5) (v := ?hv9) rfl (by kernel_rfl) (by kernel_rfl) (by kernel_rfl) (fun _ _ _ h => h) (Or.inl ⟨by kernel_rfl, ?hy9⟩) hHeld ?hr9; case hy9 => (intro w hSw; (try dsimp only at hSw); go_simp; try with_reducible rfl))
    simp only [Act.put, List.getElem_toArray, List.getElem_cons_succ, List.getElem_cons_zero, List.setIfInBounds_toArray, List.set_cons_zero, List.set_cons_succ]
    refine wpAnyH_done (by kernel_rfl) ?_ _
    have HG := Lib.hid (HG.out.below hHeld.2.2.2)
    have HV0 := Lib.hid (HV0.out.below hHeld.2.2.2)
    have HB14 := Lib.hid (HB13.out.trans (hHeld.2.2.2.mono hs13))
    have hs14 := size1 HB14.out
    have hle14 := hHeld.2.2.1
    clear hHeld
    go_wp2_with fail
    refine (eqS_v (by omega) HH.out HV0.out (fun i hi => (HE2.out i hi).symm)).mono ?_
    intro e w15 h
    obtain ⟨rfl, hb⟩ := isB_elim h
    have HG := Lib.hid (HG.out.below hb)
    have hle15 := hb.size
    have HB15 := Lib.hid (HB14.out.trans (hb.mono hs14))
    have hs15 := size1 HB15.out
    clear h hb
    clear HH HV0
    go_wp2_with fail
    refine (heldS_v (k := 1) (by omega) (by omega) (by omega) HG.out).mono ?_
    rintro e w16 ⟨rfl, hb⟩
    have hle16 := hb.size
    have HB16 := Lib.hid (HB15.out.trans (hb.mono hs15))
    have hs16 := size1 HB16.out
    clear hb
    go_wp2
    go_ret
    exact ⟨rfl, bel1 HB16.out⟩
  · simp only [hn, if_false] at hs
    clear hp
    go_enter Try.func6, Try.ntmps6
    go_wp2_with (go_at_call 25; refine (hs _).mono ?_; rintro e w' ⟨rfl, rfl⟩)
    go_ret
    exact ⟨rfl, (Below.refl _ _).alloc (Nat.le_refl _) _⟩
end Go.Proofs.Ytglifjjoalkkbaa.SpanC
