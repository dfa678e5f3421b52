/- BooksPass in the program: a contract. -/
import Derived.Test.YtfciojkibklkfaaNdX2
import Derived.Test.YtfciojkibklkfaaNdD
import Derived.Shelf.Abstract
namespace Go.Proofs.Ytfciojkibklkfaa.RepC
open Go.RowKit RowC ValC SpanC KeptC
set_option linter.unusedVariables false
set_option linter.unusedSimpArgs false

/-- the first k are changed -/
def mid {α : Type} (f : α → α) (L : List α) (k : Nat) : List α := (L.take k).map f ++ L.drop k
theorem mid_at {α : Type} {f : α → α} {L : List α} {k : Nat} {x : α} (h : L[k]? = some x) : (mid f L k)[k]? = some x := by
  have hk := el_lt h
  unfold mid
  rw [List.getElem?_append_right (by simp; omega), List.length_map, List.length_take, show k - min k L.length = 0 by omega, List.getElem?_drop, Nat.add_zero, h]
theorem mid_set {α : Type} {f : α → α} {L : List α} {k : Nat} {x : α} (h : L[k]? = some x) : (mid f L k).set k (f x) = mid f L (k + 1) := by
  obtain ⟨hk, hx⟩ := List.getElem?_eq_some_iff.1 h
  unfold mid
  rw [List.set_append_right _ _ (by simp; omega), List.length_map, List.length_take, show k - min k L.length = 0 by omega, List.drop_eq_getElem_cons hk, List.set_cons_zero, ← map_more f h, List.append_assoc]
  rfl
theorem mid_zero {α : Type} {f : α → α} {L : List α} : mid f L 0 = L := by simp [mid]
theorem mid_end {α : Type} {f : α → α} {L : List α} : mid f L L.length = L.map f := by simp [mid]
theorem mid_len {α : Type} {f : α → α} {L : List α} {k : Nat} : (mid f L k).length = L.length := by simp [mid]; omega
theorem passV_no {L : List D_Node} {now : Int} (h : nodesB L = false) : passV L now = [] := by unfold passV; rw [h]; rfl
theorem passV_yes {L : List D_Node} {now : Int} (h : nodesB L = true) : passV L now = L.map (passN now) := by unfold passV; rw [h]; rfl
theorem pass_pred (bx : Nat) (now : Int) : PredS 77 bx (.int .i64 now) (fun x => decide (x.2 ≤ now)) := fun w x0 x1 h => by
  have hbl := World.block_lt_of_cell? w ⟨bx, 0, none⟩ h
  have hne : bx ≠ w.heap.size := by have : bx < w.heap.size := hbl; omega
  have h2 : (w.alloc (.cells #[.int .i64 x0, .int .i64 x1] 25)).cell? ⟨bx, 0, none⟩ = some (.int .i64 now) := (((Below.refl _ w).alloc (Nat.le_refl _) _).cell (p := ⟨bx, 0, none⟩) hbl).trans h
  go_enter Try.func77, Try.ntmps77
  go_wp2
  go_ret
  exact ⟨rfl, (Below.refl _ _).alloc (Nat.le_refl _) _⟩
theorem pass_filter (M : List D_Span) (now : Int) : M.filter (fun y => !decide (y.2 ≤ now)) = M.filter (fun s => decide (now < s.2)) := by
  congr 1
  funext y
  by_cases h : y.2 ≤ now
  · have h' : ¬ now < y.2 := by omega
    simp [h, h']
  · have h' : now < y.2 := by omega
    simp [h, h']
set_option maxRecDepth 100000 in
set_option maxHeartbeats 3200000 in
theorem pass_impl {L : List D_Node} {now : Int} {a : Option Addr} {cap : Nat} {W : World} (h : RdSl R_Node W W.heap.size L a cap) :
    Calls Try.prog 24 #[.slice a L.length cap, .int .i64 now] W (NewS R_Node (passV L now) W) := by
  obtain ⟨w0, hw0⟩ : ∃ w, w = W.alloc (.cells #[.int .i64 now] 2) := ⟨_, rfl⟩
  have hb0 : Below W.heap.size W w0 := by rw [hw0]; exact (Below.refl _ _).alloc (Nat.le_refl _) _
  have X0 := Lib.hid (show Blk w0 W.heap.size 2 #[.int .i64 now] from by rw [hw0]; exact Blk.new _ _ _)
  have H0 := Lib.hid (mv_rd R_Node_ok h hb0)
  have HB0 := Lib.hid hb0
  have hz0 := hb0.size
  obtain ⟨z, hz⟩ : ∃ z, nodesB L = z := ⟨_, rfl⟩
  have hs := nodes_impl H0.out
  rw [hz] at hs
  have HZ := Lib.hid hz
  clear h hz hb0
  have hmf : ∀ (fn : Fn) (first cap : Array Value) (w : World), (Instr.makeFunc fn first cap).run Try.prog w = .ok (.func fn first cap) w := fun _ _ _ _ => rfl
  have eg : ∀ args w, (callFunc 77 args).run Try.prog w = .ok (.enter 77 args) w := enters_of Try.func77 (by kernel_rfl) rfl
  have HEG := Lib.hid eg
  clear eg
  go_enter Try.func24, Try.ntmps24
  go_wp2_with fail
  rw [← hw0]
  clear hw0
  refine hs.mono ?_
  intro e w1 h
  obtain ⟨rfl, hb⟩ := isB_elim h
  have H := Lib.hid (mv_rd R_Node_ok H0.out hb)
  have X1 := Lib.hid (X0.out.call hb)
  have HB1 := Lib.hid (HB0.out.trans (hb.mono hz0))
  clear h hb hs
  cases z with
  | false =>
    go_wp2
    go_ret
    rw [passV_no HZ.out]
    exact ⟨_, _, rfl, ⟨Nat.le_refl _, by unfold maxLen; omega, fun h => absurd h (Nat.lt_irrefl _)⟩, HB1.out⟩
  | true =>
  have hN := nodesB_iff.1 HZ.out
  have hsm := nodesR_small hN
  have hL1 := hN.1.1
  have hL6 := hN.1.2
  clear hN
  go_wp2_with fail
  refine (copy_impl hsm.1 (by omega) hsm.2 H.out).mono ?_
  intro e w2 h
  obtain ⟨a', c', rfl, ho, hb⟩ := newS_elim h
  obtain ⟨g, Sf, rfl, hrow⟩ := ho.row (by omega)
  have hc1 := ho.1
  have hc2 := ho.2.1
  have HR0 := Lib.hid (show Row R_Node w2 (Rg w1.heap.size w2.heap.size) (mid (passN now) L 0) g Sf from by rw [mid_zero]; exact hrow)
  have HB2 := Lib.hid (HB1.out.trans (hb.mono HB1.out.size))
  have X2 := Lib.hid (X1.out.call hb)
  have HX1 := Lib.hid (show W.heap.size < w1.heap.size from X1.out.lt)
  clear h ho hb hrow hsm
  go_wp2
  go_loopw [15] (fun i wr => ∃ k : Nat, k ≤ L.length ∧ i = .int .i64 k ∧ Hid (Row R_Node wr (Rg w1.heap.size w2.heap.size) (mid (passN now) L k) g Sf) ∧ Hid (Off (Rg w1.heap.size w2.heap.size) w2 wr)) (fun i _ => L.length - (intOf i).toNat)
  case atStart => exact ⟨0, Nat.zero_le _, rfl, HR0, Lib.hid (Off.refl _ _)⟩
  case round =>
    obtain ⟨k, hk, rfl, HR, HO⟩ := hrel
    have hsz := HO.out.size
    by_cases hlt : k < L.length
    · obtain ⟨x, hx⟩ := el_some hlt
      obtain ⟨us, hu, hr⟩ := HR.out.el k x (mid_at hx)
      obtain ⟨st, M⟩ := x
      obtain ⟨ba, bc, T0, rfl, hT0, hM⟩ := ow_Node hr
      rw [size_NodeS] at hu
      have hgl : g < wr.heap.size := Nat.lt_of_lt_of_le HR.out.own.2 hsz
      have e0 : wr.cell? ⟨g, k * 2, none⟩ = some (.int .i64 st) := by simpa using hu 0 _ rfl
      have e1 : wr.cell? ⟨g, k * 2 + 1, none⟩ = some (.slice ba M.length bc) := hu 1 _ rfl
      have hi0 : (0 : Int) ≤ (k : Int) := Int.natCast_nonneg _
      have hi1 : (k : Int) < (L.length : Int) := by omega
      obtain ⟨w3, hw3⟩ : ∃ w, w = wr.alloc (.cells #[.int .i64 st, .slice ba M.length bc] 42) := ⟨_, rfl⟩
      have hb3 : Below wr.heap.size wr w3 := by rw [hw3]; exact (Below.refl _ _).alloc (Nat.le_refl _) _
      have X3 : Blk w3 wr.heap.size 42 #[.int .i64 st, .slice ba M.length bc] := by rw [hw3]; exact Blk.new _ _ _
      have hTS : ∀ q, T0 q → w1.heap.size ≤ q ∧ q < wr.heap.size ∧ q ≠ g := fun q hq => by
        have h1 := HR.out.sub k q (hT0 q hq)
        exact ⟨h1.1.1, Nat.lt_of_lt_of_le h1.1.2 hsz, h1.2⟩
      have hbw : w3.cell? ⟨W.heap.size, 0, none⟩ = some (.int .i64 now) := by
        have h1 := X2.out.at_ 0 rfl
        have h2 : wr.cell? ⟨W.heap.size, 0, none⟩ = some (.int .i64 now) := (World.cell?_of_block (a := ⟨W.heap.size, 0, none⟩) (HO.out.block _ X2.out.lt (fun h => by have h9 : w1.heap.size ≤ W.heap.size := h.1; have := HX1.out; omega))).trans h1
        exact (hb3.cell (p := ⟨W.heap.size, 0, none⟩) (show W.heap.size < wr.heap.size by have := X2.out.lt; omega)).trans h2
      have hdel := delf_spans (S := T0) HEG.out (pass_pred W.heap.size now) hbw (by have := X2.out.lt; have := hb3.size; omega) (fun h => by have := (hTS _ h).1; have := HX1.out; omega) (fun q hq => Nat.lt_of_lt_of_le (hTS q hq).2.1 hb3.size) (hM.keep R_Span_ok fun q hq => hb3.block q (hTS q hq).2.1)
      have HDEL := Lib.hid hdel
      have HB3 := Lib.hid hb3
      have HT0 := Lib.hid hT0
      have HTS := Lib.hid hTS
      have HX := Lib.hid hx
      have p0 := X3.at_ 0 rfl
      have p1 := X3.at_ 1 rfl
      rw [hw3] at p0 p1
      clear hdel hb3 X3 hTS hT0 hx hM hu hr hbw
      go_wp2_with fail
      rw [← hw3]
      clear p0 p1 hw3
      refine HDEL.out.mono ?_
      intro e w4 h
      obtain ⟨rfl, ho, hof⟩ := delR_elim h
      rw [pass_filter] at ho ⊢
      have hz3 := HB3.out.size
      have hz4 := hof.size
      have d0 : w4.cell? ⟨g, k * 2, none⟩ = some (.int .i64 st) := (World.cell?_of_block (a := ⟨g, k * 2, none⟩) (hof.block g (by omega) (fun h => (HTS.out g h).2.2 rfl))).trans ((HB3.out.cell (p := ⟨g, k * 2, none⟩) hgl).trans e0)
      have d1 : w4.cell? ⟨g, k * 2 + 1, none⟩ = some (.slice ba M.length bc) := (World.cell?_of_block (a := ⟨g, k * 2 + 1, none⟩) (hof.block g (by omega) (fun h => (HTS.out g h).2.2 rfl))).trans ((HB3.out.cell (p := ⟨g, k * 2 + 1, none⟩) hgl).trans e1)
      have f1 : w4.frozen? ⟨g, k * 2 + 1, none⟩ = false := (World.frozen?_of_block (a := ⟨g, k * 2 + 1, none⟩) (hof.block g (by omega) (fun h => (HTS.out g h).2.2 rfl))).trans ((HB3.out.frozen (p := ⟨g, k * 2 + 1, none⟩) hgl).trans (HR.out.soft _))
      obtain ⟨w5, hw5⟩ : ∃ w, w = w4.setCell ⟨g, k * 2 + 1, none⟩ (.slice ba (M.filter fun s => decide (now < s.2)).length bc) := ⟨_, rfl⟩
      have hset : ∀ q, q ≠ g → w5.heap[q]? = w4.heap[q]? := fun q hq => by rw [hw5]; exact Below.heap_setCell w4 ⟨g, k * 2 + 1, none⟩ _ q hq
      have hU : Upd wr w5 g (k * 2) ((k + 1) * 2) (Sf k) := by
        refine ((Upd.below (T := Sf k) HB3.out hgl).trans (Upd.off (T := Sf k) (hof.more HT0.out) (by omega) (fun h => (HR.out.sub k g h).2 rfl))).trans ?_
        rw [hw5]
        exact Upd.set _ _ ⟨by omega, by omega⟩ _
      have hrow := HR.out.set R_Node_ok (fun q hq => Nat.lt_of_lt_of_le hq.2 hsz) (x := passN now (st, M)) (us := [.int .i64 st, .slice ba (M.filter fun s => decide (now < s.2)).length bc]) (by rw [size_NodeS]; exact hU) (fun j d hd => by
        rw [size_NodeS, hw5]
        match j, hd with
        | 0, hd => simp at hd; subst hd; rw [Nat.add_zero, World.cell?_setCell_other _ _ _ _ (fun e => by injection e with _ e2; omega)]; exact d0
        | 1, hd => simp at hd; subst hd; exact World.cell?_setCell_same _ _ _ d1
        | j + 2, hd => simp at hd) (mkow_Node HT0.out (ho.keep R_Span_ok fun q hq => hset q (HTS.out q hq).2.2))
      rw [mid_set HX.out] at hrow
      have HR5 := Lib.hid hrow
      have HO5 := Lib.hid (show Off (Rg w1.heap.size w2.heap.size) w2 w5 from by
        rw [hw5]
        refine ((HO.out.of_below HB3.out).trans (hof.more fun q hq => (HR.out.sub k q (HT0.out q hq)).1)).setCell (p := ⟨g, k * 2 + 1, none⟩) HR.out.own _)
      rw [hw5] at HR5 HO5
      clear h ho hof hset hU hrow hw5 e0 e1 d0
      go_wp2
      go_roundw
      case rel => exact ⟨k + 1, by omega, by go_num, HR5, HO5⟩
      case measure => simp [intOf]; omega
    · have hdl : decide ((k : Int) < (L.length : Int)) = false := decide_eq_false (by omega)
      obtain rfl : k = L.length := by omega
      go_wp2
      go_ret
      rw [passV_yes HZ.out]
      have hrow := HR.out
      rw [mid_end] at hrow
      refine ⟨some ⟨g, 0, none⟩, c', by rw [List.length_map]; rfl, (hrow.slice (by rw [List.length_map]; exact hc1) hc2).more fun q hq => ⟨Nat.le_trans HB1.out.size hq.1, Nat.lt_of_lt_of_le hq.2 hsz⟩, HB2.out.trans (HO.out.below HB2.out.size fun q hq => Nat.le_trans HB1.out.size hq.1)⟩
end Go.Proofs.Ytfciojkibklkfaa.RepC
