/- NodesNew in the model and in the program: contracts. -/
import Derived.Test.YtfciojkibklkfaaNARow
import Derived.Test.YtfciojkibklkfaaNdC
namespace Go.Proofs.Ytfciojkibklkfaa.RepC
open Go.RowKit RowC ValC SpanC KeptC
set_option linter.unusedVariables false
set_option linter.unusedSimpArgs false

theorem newV_no {n : Int} (h : isB n 1 6 = false) : newV n = [] := by unfold newV; rw [h]; rfl
theorem newV_yes {n : Int} (h : isB n 1 6 = true) : newV n = List.replicate n.toNat (1, []) := by unfold newV; rw [h]; rfl
set_option maxRecDepth 100000 in
set_option maxHeartbeats 1600000 in
theorem new_spec (n : Int) (W : World) : Calls Try.prog 30 #[.int .i64 n] W (NewS R_Node (newV n) W) := by
  obtain ⟨w0, hw0⟩ : ∃ w, w = W.alloc (.cells #[] 42) := ⟨_, rfl⟩
  have hb0 : Below W.heap.size W w0 := by rw [hw0]; exact (Below.refl _ _).alloc (Nat.le_refl _) _
  have HR0 := Lib.hid (show ARow R_Node w0 W.heap.size 42 (.slice (some ⟨W.heap.size, 0, none⟩) 0 0) [] from by rw [hw0]; exact ARow.made _ _ _)
  have HB0 := Lib.hid hb0
  have hz0 := hb0.size
  clear hb0
  have hs := fun W => is_spec n 1 6 W
  cases hq : isB n 1 6 with
  | false =>
    rw [newV_no hq]
    rw [hq] at hs
    clear hq
    go_enter Try.func30, Try.ntmps30
    go_wp2_with (go_at_call 81; refine (hs _).mono ?_; rintro e w' ⟨rfl, rfl⟩)
    rw [← hw0]
    go_ret
    exact HR0.out.news R_Node_ok (Nat.le_refl _) HB0.out
  | true =>
    have hn := (isB_iff _ _ _).1 hq
    have HN := Lib.hid (newV_yes hq)
    rw [hq] at hs
    obtain ⟨m, rfl⟩ : ∃ m : Nat, n = m := ⟨n.toNat, by omega⟩
    have hm : m ≤ 6 := by omega
    clear hq hn
    go_enter Try.func30, Try.ntmps30
    go_wp2_with (first | (go_at_call 81; refine (hs _).mono ?_; rintro e w' ⟨rfl, rfl⟩) | fail)
    rw [← hw0]
    clear hw0
    go_loopw [0, 3] (fun i v wr => ∃ k : Nat, k ≤ m ∧ i = .int .i64 ((m - k : Nat) : Int) ∧ Hid (ARow R_Node wr W.heap.size 42 v (List.replicate k (1, []))) ∧ Below W.heap.size W wr) (fun i _ _ => (intOf i).toNat)
    case atStart => exact ⟨0, Nat.zero_le _, rfl, HR0, HB0.out⟩
    case round =>
      obtain ⟨k, hk, rfl, HR, hB⟩ := hrel
      have HB := Lib.hid hB
      have hsz := hB.size
      obtain ⟨va, vc, rfl⟩ := HR.out.isSlice
      clear hB
      by_cases hlt : k < m
      · have hd : decide ((0 : Int) < ((m - k : Nat) : Int)) = true := decide_eq_true (by omega)
        obtain ⟨w1, hw1⟩ : ∃ w, w = wr.alloc (.cells #[.int .i64 1, .slice none 0 0] 42) := ⟨_, rfl⟩
        have hb1 : Below wr.heap.size wr w1 := by rw [hw1]; exact (Below.refl _ _).alloc (Nat.le_refl _) _
        have hbl : Blk w1 wr.heap.size 42 #[.int .i64 1, .slice none 0 0] := by rw [hw1]; exact Blk.new _ _ _
        obtain ⟨a', c', w2, hrun, hrow, hb2⟩ := app_node HR.out hb1 (M := []) hbl ⟨Nat.le_refl _, by unfold maxLen; omega, fun h => absurd h (Nat.lt_irrefl _)⟩ (by simp; omega)
        have HRun := Lib.hid hrun
        rw [hw1] at HRun
        have HR2 := Lib.hid (show ARow R_Node w2 W.heap.size 42 (.slice a' (List.replicate k (1, []) ++ [((1 : Int), ([] : List D_Span))]).length c') (List.replicate (k + 1) (1, [])) from by rw [List.replicate_succ']; exact hrow)
        have HB2 := Lib.hid ((HB.out.trans (hb1.mono hsz)).trans hb2)
        clear hrun hrow hb1 hb2 hbl hw1
        have hwr : IntKind.i64.wrap (((m - k : Nat) : Int) - 1) = ((m - (k + 1) : Nat) : Int) := by rw [show ((m - k : Nat) : Int) - 1 = ((m - (k + 1) : Nat) : Int) by omega]; exact IntWalk.i64_in _ (by omega)
        go_wp2_with (at_builtin; refine wpList_app rfl (.tmp 13) (.tmp 15) 23 rfl rfl rfl HRun.out ?_)
        go_roundw
        case rel => exact ⟨k + 1, by omega, by first | rfl | go_num, Lib.hid (by simpa using HR2.out), HB2.out⟩
        case measure => simp [intOf]; omega
      · have hd : decide ((0 : Int) < ((m - k : Nat) : Int)) = false := decide_eq_false (by omega)
        obtain rfl : k = m := by omega
        go_wp2
        go_ret
        have hz := HN.out
        rw [Int.toNat_natCast] at hz
        rw [hz]
        exact HR.out.news R_Node_ok (Nat.le_refl _) HB.out
/-- the made row: the first k nodes are set -/
structure NewM (w w' : World) (m k : Nat) : Prop where
  el : ∀ i, i < m → w'.cell? ⟨w.heap.size, i * 2, none⟩ = some (.int .i64 (if i < k then 1 else 0)) ∧ w'.cell? ⟨w.heap.size, i * 2 + 1, none⟩ = some (.slice none 0 0)
  soft : ∀ j, w'.frozen? ⟨w.heap.size, j, none⟩ = false
  lt : w.heap.size < w'.heap.size
  below : Below w.heap.size w w'
theorem NewM.new (w : World) (m : Nat) (hm : m ≤ 6) : NewM w (w.alloc (.cells (zs_NodeS m) 42)) m 0 := by
  refine ⟨fun i hi => ?_, fun j => by simp, by simp, (Below.refl _ _).alloc (Nat.le_refl _) _⟩
  have hb := Blk.new w 42 (zs_NodeS m)
  have e : ∀ j, j < m * 2 → (zs_NodeS m)[j]? = some (if j % 2 = 0 then .int .i64 0 else .slice none 0 0) := fun j hj => by
    unfold zs_NodeS madeCells
    rcases Nat.mod_two_eq_zero_or_one j with h | h <;> simp [hj, h]
  rw [if_neg (Nat.not_lt_zero _)]
  exact ⟨hb.at_ (i * 2) (by rw [e _ (by omega), if_pos (by omega)]), hb.at_ (i * 2 + 1) (by rw [e _ (by omega), if_neg (by omega)])⟩
theorem NewM.put {w w' : World} {m k : Nat} (h : NewM w w' m k) (hk : k < m) : NewM w (w'.setCell ⟨w.heap.size, k * 2, none⟩ (.int .i64 1)) m (k + 1) := by
  refine ⟨fun i hi => ?_, fun j => by simp only [World.frozen?_setCell]; exact h.soft j, by simp [h.lt], h.below.setCell (Nat.le_refl _) _⟩
  obtain ⟨h1, h2⟩ := h.el i hi
  refine ⟨?_, ?_⟩
  · by_cases e : i = k
    · subst e
      rw [if_pos (by omega)]
      exact World.cell?_setCell_same _ _ _ h1
    · rw [World.cell?_setCell_other _ _ _ _ (fun q => by injection q with _ q2; omega), h1]
      by_cases e2 : i < k
      · rw [if_pos e2, if_pos (by omega)]
      · rw [if_neg e2, if_neg (by omega)]
  · rw [World.cell?_setCell_other _ _ _ _ (fun q => by injection q with _ q2; omega)]
    exact h2
theorem NewM.done {w w' : World} {m : Nat} (h : NewM w w' m m) (hm : m ≤ 6) : NewS R_Node (List.replicate m (1, [])) w (.returned (.slice (some ⟨w.heap.size, 0, none⟩) m m)) w' := by
  refine ⟨some ⟨w.heap.size, 0, none⟩, m, by simp, ⟨by simp, by unfold maxLen; omega, fun _ => ⟨w.heap.size, fun _ _ => False, rfl, ⟨Nat.le_refl _, h.lt⟩, h.soft, fun i k h => h.elim, fun i j k _ h => h.elim, fun i x hx => ?_⟩⟩, h.below⟩
  have hi := el_lt hx
  rw [List.length_replicate] at hi
  obtain rfl : x = (1, []) := by rw [List.getElem?_replicate, if_pos hi] at hx; exact (Option.some.inj hx).symm
  obtain ⟨h1, h2⟩ := h.el i hi
  rw [if_pos hi] at h1
  refine ⟨[.int .i64 1, .slice none 0 0], fun j d hd => ?_, mkow_Node (T0 := fun _ => False) (L0 := []) (a0 := none) (c0 := 0) (fun k h => h.elim) ⟨Nat.le_refl _, by unfold maxLen; omega, fun h => absurd h (Nat.lt_irrefl _)⟩⟩
  rw [size_NodeS]
  match j, hd with
  | 0, hd => simp at hd; subst hd; simpa using h1
  | 1, hd => simp at hd; subst hd; exact h2
  | j + 2, hd => simp at hd
set_option maxRecDepth 100000 in
set_option maxHeartbeats 1600000 in
theorem new_impl (n : Int) (W : World) : Calls Try.prog 31 #[.int .i64 n] W (NewS R_Node (newV n) W) := by
  have hs := fun W => is_impl n 1 6 W
  cases hq : isB n 1 6 with
  | false =>
    rw [newV_no hq]
    rw [hq] at hs
    clear hq
    go_enter Try.func31, Try.ntmps31
    go_wp2_with (go_at_call 67; refine (hs _).mono ?_; rintro e w' ⟨rfl, rfl⟩)
    go_ret
    exact ⟨_, _, rfl, ⟨Nat.le_refl _, by unfold maxLen; omega, fun h => absurd h (Nat.lt_irrefl _)⟩, Below.refl _ _⟩
  | true =>
    have hn := (isB_iff _ _ _).1 hq
    rw [newV_yes hq]
    rw [hq] at hs
    obtain ⟨m, rfl⟩ : ∃ m : Nat, n = m := ⟨n.toNat, by omega⟩
    have hm : m ≤ 6 := by omega
    rw [Int.toNat_natCast]
    clear hq hn
    have hmk := make_NodeS m (by omega)
    obtain ⟨w0, hw0⟩ : ∃ w, w = W.alloc (.cells (zs_NodeS m) 42) := ⟨_, rfl⟩
    have HM0 := Lib.hid (show NewM W w0 m 0 from by rw [hw0]; exact NewM.new W m hm)
    go_enter Try.func31, Try.ntmps31
    go_wp2_with (first | (go_at_call 67; refine (hs _).mono ?_; rintro e w' ⟨rfl, rfl⟩) | fail)
    rw [← hw0]
    clear hw0 hmk hs
    go_loopw [12] (fun i wr => ∃ k : Nat, k ≤ m ∧ i = .int .i64 k ∧ Hid (NewM W wr m k)) (fun i _ => m - (intOf i).toNat)
    case atStart => exact ⟨0, Nat.zero_le _, rfl, HM0⟩
    case round =>
      obtain ⟨k, hk, rfl, HM⟩ := hrel
      by_cases hlt : k < m
      · have HM2 := Lib.hid (HM.out.put hlt)
        have c0 := (HM.out.el k hlt).1
        rw [if_neg (Nat.lt_irrefl _)] at c0
        have f0 := HM.out.soft (k * 2)
        have hi0 : (0 : Int) ≤ (k : Int) := Int.natCast_nonneg _
        have hi1 : (k : Int) < (m : Int) := by omega
        go_wp2
        go_roundw
        case rel => exact ⟨k + 1, by omega, by go_num, HM2⟩
        case measure => simp [intOf]; omega
      · have hd : decide ((k : Int) < (m : Int)) = false := decide_eq_false (by omega)
        obtain rfl : k = m := by omega
        go_wp2
        go_ret
        exact HM.out.done hm
end Go.Proofs.Ytfciojkibklkfaa.RepC
