/- Of this claim's texts the part 6: NdQ2. -/
import Derived.Test.YtfciojkibklkfaaPN5
section
namespace Go.Proofs.Ytfciojkibklkfaa.RepC
open Go.RowKit RowC ValC SpanC KeptC
set_option linter.unusedVariables false
set_option linter.unusedSimpArgs false
theorem alltime_impl (W : World) : Calls Try.prog 96 #[] W (NewS R_Span [(0, 1000000)] W) := by
  have hb := Blk.new W 25 #[.int .i64 0, .int .i64 1000000]
  have HB := Lib.hid hb
  clear hb
  go_enter Try.func96, Try.ntmps96
  go_wp2
  go_ret
  exact ⟨_, _, rfl, own_oneS 0 1000000 HB.out ⟨Nat.le_refl _, HB.out.lt⟩, (Below.refl _ _).alloc (Nat.le_refl _) _⟩
def closedV (st : Int) (M : List D_Span) (b : Bool) : List D_Span := rowOf (if b = true then 2 else 3) (st, M)
set_option maxRecDepth 100000 in
set_option maxHeartbeats 1600000 in
theorem closed_impl {st : Int} {M : List D_Span} {a : Option Addr} {c : Nat} {b : Bool} {W : World} (hst : 1 ≤ st ∧ st ≤ 3) (hM : M.length ≤ 1048576) (h : RdSl R_Span W W.heap.size M a c) :
    Calls Try.prog 90 #[.agg #[.int .i64 st, .slice a M.length c], .bool b] W (NewS R_Span (closedV st M b) W) := by
  obtain ⟨w0, hw0⟩ : ∃ w, w = W.alloc (.cells #[.int .i64 st, .slice a M.length c] 42) := ⟨_, rfl⟩
  have hb0 : Below W.heap.size W w0 := by rw [hw0]; exact (Below.refl _ _).alloc (Nat.le_refl _) _
  have X0 := Lib.hid (show Blk w0 W.heap.size 42 #[.int .i64 st, .slice a M.length c] from by rw [hw0]; exact Blk.new _ _ _)
  have HM := Lib.hid (mv_rd R_Span_ok h hb0)
  have HB0 := Lib.hid hb0
  have hz0 := hb0.size
  clear h hb0
  have p0 := X0.out.at_ 0 rfl
  have p1 := X0.out.at_ 1 rfl
  have key : (closedV st M b = [(0, 1000000)] ∧ (st = 3 ∨ (st = 2 ∧ b = true))) ∨ (closedV st M b = M ∧ ((st = 2 ∧ b = false) ∨ st = 1)) := by
    unfold closedV rowOf
    rcases (show st = 1 ∨ st = 2 ∨ st = 3 by omega) with h | h | h <;> subst h <;> cases b <;> simp
  rcases key with ⟨hc, hk⟩ | ⟨hc, hk⟩
  · rw [hc]
    clear hc
    go_enter Try.func90, Try.ntmps90
    rw [hw0] at p0 p1
    rcases hk with h3 | ⟨h2, hb⟩
    · have h3' : (st == 3) = true := beq_iff_eq.2 h3
      clear h3
      go_wp2_with fail
      rw [← hw0]
      refine (alltime_impl w0).mono ?_
      intro e w2 h
      obtain ⟨a', c', rfl, ho, hb⟩ := newS_elim h
      have HO := Lib.hid ho
      have HB2 := Lib.hid hb
      clear h ho hb p0 p1 hw0
      go_wp2
      go_ret
      exact ⟨a', c', rfl, HO.out.more fun q hq => ⟨Nat.le_trans hz0 hq.1, hq.2⟩, HB0.out.trans (HB2.out.mono hz0)⟩
    · have h3' : (st == 3) = false := beq_eq_false_iff_ne.2 (by omega)
      have h2' : (st == 2) = true := beq_iff_eq.2 h2
      subst hb
      clear h2
      go_wp2_with fail
      rw [← hw0]
      refine (alltime_impl w0).mono ?_
      intro e w2 h
      obtain ⟨a', c', rfl, ho, hb⟩ := newS_elim h
      have HO := Lib.hid ho
      have HB2 := Lib.hid hb
      clear h ho hb p0 p1 hw0
      go_wp2
      go_ret
      exact ⟨a', c', rfl, HO.out.more fun q hq => ⟨Nat.le_trans hz0 hq.1, hq.2⟩, HB0.out.trans (HB2.out.mono hz0)⟩
  · rw [hc]
    clear hc
    obtain ⟨w1, hw1⟩ : ∃ w, w = w0.alloc (.cells #[.slice a M.length c] 39) := ⟨_, rfl⟩
    have hb1 : Below w0.heap.size w0 w1 := by rw [hw1]; exact (Below.refl _ _).alloc (Nat.le_refl _) _
    have hbl1 : Blk w1 w0.heap.size 39 #[.slice a M.length c] := by rw [hw1]; exact Blk.new _ _ _
    have hs0 : w0.heap.size = W.heap.size + 1 := by rw [hw0]; simp
    have hbk := books_impl (Ls := [M]) (by simpa using hM) (rd_oneM hbl1 (mv_rd R_Span_ok HM.out hb1))
    rw [show ([M] : List (List D_Span)).flatten = M by simp, hs0] at hbk
    have HBK := Lib.hid hbk
    have HB1 := Lib.hid (HB0.out.trans (hb1.mono hz0))
    clear hb1 hbl1 hbk hs0
    go_enter Try.func90, Try.ntmps90
    rw [hw0] at p0 p1
    rcases hk with ⟨h2, hb⟩ | h1
    · have h3' : (st == 3) = false := beq_eq_false_iff_ne.2 (by omega)
      have h2' : (st == 2) = true := beq_iff_eq.2 h2
      subst hb
      clear h2
      go_wp2_with fail
      rw [← hw0, ← hw1]
      refine HBK.out.mono ?_
      intro e w2 h
      obtain ⟨a', c', rfl, ho, hb⟩ := newS_elim h
      have HO := Lib.hid ho
      have HB2 := Lib.hid hb
      clear h ho hb p0 p1 hw0 hw1
      go_wp2
      go_ret
      exact ⟨a', c', rfl, HO.out.more fun q hq => ⟨Nat.le_trans HB1.out.size hq.1, hq.2⟩, HB1.out.trans (HB2.out.mono HB1.out.size)⟩
    · have h3' : (st == 3) = false := beq_eq_false_iff_ne.2 (by omega)
      have h2' : (st == 2) = false := beq_eq_false_iff_ne.2 (by omega)
      clear h1
      go_wp2_with fail
      rw [← hw0, ← hw1]
      refine HBK.out.mono ?_
      intro e w2 h
      obtain ⟨a', c', rfl, ho, hb⟩ := newS_elim h
      have HO := Lib.hid ho
      have HB2 := Lib.hid hb
      clear h ho hb p0 p1 hw0 hw1
      go_wp2
      go_ret
      exact ⟨a', c', rfl, HO.out.more fun q hq => ⟨Nat.le_trans HB1.out.size hq.1, hq.2⟩, HB1.out.trans (HB2.out.mono HB1.out.size)⟩
set_option maxRecDepth 100000 in
set_option maxHeartbeats 3200000 in
theorem closedrows_impl {L : List D_Node} {b : Bool} {a : Option Addr} {cap : Nat} {W : World} (h : RdSl R_Node W W.heap.size L a cap) :
    Calls Try.prog 70 #[.slice a L.length cap, .bool b] W (NewS (Sl R_Span) (rowsV (if b = true then 2 else 3) L) W) := by
  have H0 := Lib.hid h
  have hn := nd_len h
  obtain ⟨z, hz⟩ : ∃ z, nodesB L = z := ⟨_, rfl⟩
  have hs := nodes_impl h
  rw [hz] at hs
  have HZ := Lib.hid hz
  clear h hz
  obtain ⟨t, ht⟩ : ∃ t : Int, (if b = true then 2 else 3) = t := ⟨_, rfl⟩
  have HTT := Lib.hid ht
  rw [ht]
  clear ht
  go_enter Try.func70, Try.ntmps70
  go_wp2_with fail
  refine hs.mono ?_
  intro e w1 h
  obtain ⟨rfl, hb⟩ := isB_elim h
  have HB1 := Lib.hid hb
  have H := Lib.hid (mv_rd R_Node_ok H0.out hb)
  clear h hb hs
  cases z with
  | false =>
    go_wp2
    go_ret
    rw [rowsV_no HZ.out]
    exact ⟨_, _, rfl, ⟨Nat.le_refl _, by unfold maxLen; omega, fun h => absurd h (Nat.lt_irrefl _)⟩, HB1.out⟩
  | true =>
  have HN := Lib.hid (nodesB_iff.1 HZ.out)
  have hL6 := HN.out.1.2
  go_wp2
  go_loopw [13, 5] (fun i v wr => ∃ k : Nat, k ≤ L.length ∧ i = .int .i64 k ∧ Hid (ARow (Sl R_Span) wr w1.heap.size 39 v ((L.take k).map (rowOf t))) ∧ Below w1.heap.size w1 wr) (fun i _ _ => L.length - (intOf i).toNat)
  case atStart => exact ⟨0, Nat.zero_le _, rfl, Lib.hid (ARow.none_ _ _ _), Below.refl _ _⟩
  case round =>
    obtain ⟨k, hk, rfl, HR, hB⟩ := hrel
    have HB := Lib.hid hB
    have hsz := hB.size
    obtain ⟨va, vc, hv⟩ := HR.out.isSlice
    rw [List.length_map, List.length_take, Nat.min_eq_left hk] at hv
    subst hv
    by_cases hlt : k < L.length
    · obtain ⟨x, hx⟩ := el_some hlt
      have hT := map_more (rowOf t) hx
      have hok := nodesR_at HN.out hx
      have hcr := H.out
      obtain ⟨g, o, us, rfl, hg, hu, hr⟩ := hcr.at_ hx
      obtain ⟨st, M⟩ := x
      obtain ⟨ba, bc, rfl, hM⟩ := rd_Node hr
      have e0 : wr.cell? ⟨g, o + k * 2, none⟩ = some (.int .i64 st) := (hB.cell (p := ⟨g, o + k * 2, none⟩) hg).trans (by simpa [size_NodeS] using hu 0 _ rfl)
      have e1 : wr.cell? ⟨g, o + k * 2 + 1, none⟩ = some (.slice ba M.length bc) := (hB.cell (p := ⟨g, o + k * 2 + 1, none⟩) hg).trans (by simpa [size_NodeS, Nat.add_assoc] using hu 1 _ rfl)
      have hi0 : (0 : Int) ≤ (k : Int) := Int.natCast_nonneg _
      have hi1 : (k : Int) < (L.length : Int) := by omega
      have hlen : ((L.take (k + 1)).map (rowOf t)).length = k + 1 := by rw [List.length_map, List.length_take]; omega
      obtain ⟨w2, hw2⟩ : ∃ w, w = wr.alloc (.cells #[.int .i64 st, .slice ba M.length bc] 42) := ⟨_, rfl⟩
      have hb2 : Below wr.heap.size wr w2 := by rw [hw2]; exact (Below.refl _ _).alloc (Nat.le_refl _) _
      have X2 : Blk w2 wr.heap.size 42 #[.int .i64 st, .slice ba M.length bc] := by rw [hw2]; exact Blk.new _ _ _
      have hst := (isB_iff _ _ _).1 hok.1
      have hcl := closed_impl (b := b) hst (by have h9 : M.length ≤ 4 := hok.2.1; omega) (mv_rd R_Span_ok (mv_rd R_Span_ok hM hB) hb2)
      have HCL := Lib.hid hcl
      have HT := Lib.hid hT
      have HB2 := Lib.hid hb2
      have p0 := X2.at_ 0 rfl
      have p1 := X2.at_ 1 rfl
      have hrw : rowOf t (st, M) = closedV st M b := by unfold closedV; rw [HTT.out]
      have HRW := Lib.hid hrw
      clear hcr hu hr hM hx hok hst hcl hT hb2 X2 hrw hB
      rw [hw2] at p0 p1
      go_wp2_with fail
      rw [← hw2]
      clear p0 p1
      refine HCL.out.mono ?_
      intro e w3 h
      obtain ⟨a', c', rfl, ho, hb⟩ := newS_elim h
      obtain ⟨w4, hw4⟩ : ∃ w, w = w3.alloc (.cells #[.slice a' (closedV st M b).length c'] 39) := ⟨_, rfl⟩
      have hb34 : Below w3.heap.size w3 w4 := by rw [hw4]; exact (Below.refl _ _).alloc (Nat.le_refl _) _
      have hbl4 : Blk w4 w3.heap.size 39 #[.slice a' (closedV st M b).length c'] := by rw [hw4]; exact Blk.new _ _ _
      have hz2 := HB2.out.size
      have hz3 := hb.size
      have hb4 : Below wr.heap.size wr w4 := (HB2.out.trans (hb.mono hz2)).trans (hb34.mono (by omega))
      have ho4 : OwSl R_Span w4 (Rg wr.heap.size w4.heap.size) (closedV st M b) a' c' := (ho.keep R_Span_ok fun q hq => hb34.block q hq.2).more fun q hq => ⟨Nat.le_trans hz2 hq.1, Nat.lt_of_lt_of_le hq.2 hb34.size⟩
      obtain ⟨a5, c5, w5, hrun5, hrow, hb5⟩ := app_spans HR.out hb4 hbl4 ho4 (by rw [List.length_map, List.length_take]; omega)
      have hT := HT.out
      rw [HRW.out] at hT
      rw [hT, hlen] at hrun5 hrow
      have HRun5 := Lib.hid hrun5
      rw [hw4] at HRun5
      have HR5 := Lib.hid hrow
      have HB5 := Lib.hid ((HB.out.trans (hb4.mono hsz)).trans hb5)
      clear h ho hb hb34 hbl4 hb4 ho4 hrun5 hrow hb5 hw4 hT e0 e1 hw2
      go_wp2_with (at_builtin; refine wpList_app rfl (.tmp 17) (.tmp 21) 36 rfl rfl rfl HRun5.out ?_)
      go_roundw
      case rel => exact ⟨k + 1, by omega, by go_num, HR5, HB5.out⟩
      case measure => simp [intOf]; omega
    · have hdl : decide ((k : Int) < (L.length : Int)) = false := decide_eq_false (by omega)
      obtain rfl : k = L.length := by omega
      have HR2 := Lib.hid (show ARow (Sl R_Span) wr w1.heap.size 39 (.slice va L.length vc) (L.map (rowOf t)) from by have := HR.out; rwa [List.take_length] at this)
      clear hB
      go_wp2
      go_ret
      rw [rowsV_yes HZ.out]
      exact HR2.out.news (Sl_ok R_Span_ok) HB1.out.size (HB1.out.trans (HB.out.mono HB1.out.size))
theorem rowsnew_impl {L : List D_Node} {a : Option Addr} {cap : Nat} {W : World} (h : RdSl R_Node W W.heap.size L a cap) :
    Calls Try.prog 21 #[.slice a L.length cap] W (NewS (Sl R_Span) (rowsV 2 L) W) := by
  have hs := closedrows_impl (b := true) h
  go_enter Try.func21, Try.ntmps21
  go_wp2_with fail
  refine hs.mono ?_
  intro e w1 h
  obtain ⟨a', c', rfl, ho, hb⟩ := newS_elim h
  have HO := Lib.hid ho
  have HB := Lib.hid hb
  clear h ho hb hs
  go_wp2
  go_ret
  exact ⟨a', c', rfl, HO.out, HB.out⟩
theorem rowshard_impl {L : List D_Node} {a : Option Addr} {cap : Nat} {W : World} (h : RdSl R_Node W W.heap.size L a cap) :
    Calls Try.prog 25 #[.slice a L.length cap] W (NewS (Sl R_Span) (rowsV 3 L) W) := by
  have hs := closedrows_impl (b := false) h
  go_enter Try.func25, Try.ntmps25
  go_wp2_with fail
  refine hs.mono ?_
  intro e w1 h
  obtain ⟨a', c', rfl, ho, hb⟩ := newS_elim h
  have HO := Lib.hid ho
  have HB := Lib.hid hb
  clear h ho hb hs
  go_wp2
  go_ret
  exact ⟨a', c', rfl, HO.out, HB.out⟩
end Go.Proofs.Ytfciojkibklkfaa.RepC
end
