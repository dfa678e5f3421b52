/- BooksPass in the model: a contract. -/
import Derived.Test.YtfciojkibklkfaaNdY
import Derived.Test.YtfciojkibklkfaaNdL
namespace Go.Proofs.Ytfciojkibklkfaa.RepC
open Go.RowKit RowC ValC SpanC KeptC
set_option linter.unusedVariables false
set_option linter.unusedSimpArgs false

theorem filt_yes {q : D_Span → Bool} {M : List D_Span} {j : Nat} {y : D_Span} (h : M[j]? = some y) (hq : q y = true) : (M.take (j + 1)).filter q = (M.take j).filter q ++ [y] := by
  rw [← take_more h, List.filter_append]; simp [hq]
theorem filt_no {q : D_Span → Bool} {M : List D_Span} {j : Nat} {y : D_Span} (h : M[j]? = some y) (hq : q y = false) : (M.take (j + 1)).filter q = (M.take j).filter q := by
  rw [← take_more h, List.filter_append]; simp [hq]
/-- the books of one node become others, in blocks of their own that are new -/
theorem Row.books {W wr wq : World} {S Sf : _} {L : List D_Node} {g k : Nat} {st : Int} {M M' : List D_Span} {v : Value} (h : Row R_Node wr S L g Sf) (hS : ∀ q, S q → W.heap.size ≤ q ∧ q < wr.heap.size) (hx : L[k]? = some (st, M)) (hb : Below wr.heap.size wr wq) (hv : XRow wq wr.heap.size v M') (hW : Below W.heap.size W wr) :
    ∃ S' Sf', Row R_Node (wq.setCell ⟨g, k * 2 + 1, none⟩ v) S' (L.set k (st, M')) g Sf' ∧ (∀ q, S' q → W.heap.size ≤ q ∧ q < (wq.setCell ⟨g, k * 2 + 1, none⟩ v).heap.size) ∧ Below W.heap.size W (wq.setCell ⟨g, k * 2 + 1, none⟩ v) ∧
      (∃ u, wq.cell? ⟨g, k * 2 + 1, none⟩ = some u) ∧ wq.frozen? ⟨g, k * 2 + 1, none⟩ = false := by
  obtain ⟨us, hu, hr⟩ := h.el k _ hx
  obtain ⟨ba, bc, T0, rfl, hT0, hM⟩ := ow_Node hr
  rw [size_NodeS] at hu
  have hgS := hS g h.own
  have hsz := hb.size
  obtain ⟨va, vc, rfl, hO⟩ := hv.sl R_Span_ok flat_Span
  have d0 : wq.cell? ⟨g, k * 2, none⟩ = some (.int .i64 st) := (hb.cell (p := ⟨g, k * 2, none⟩) hgS.2).trans (by simpa using hu 0 _ rfl)
  have d1 : wq.cell? ⟨g, k * 2 + 1, none⟩ = some (.slice ba M.length bc) := (hb.cell (p := ⟨g, k * 2 + 1, none⟩) hgS.2).trans (hu 1 _ rfl)
  have hset : ∀ q, q ≠ g → (wq.setCell ⟨g, k * 2 + 1, none⟩ (.slice va M'.length vc)).heap[q]? = wq.heap[q]? := fun q hq => Below.heap_setCell wq ⟨g, k * 2 + 1, none⟩ _ q hq
  have hrow := Row.put R_Node_ok (T := fun q => (Value.slice va M'.length vc).ownBlock = some q) (x := (st, M')) (us := [.int .i64 st, .slice va M'.length vc]) h (fun q hq => (hS q hq).2)
    (W' := wq.setCell ⟨g, k * 2 + 1, none⟩ (.slice va M'.length vc)) (by rw [size_NodeS]; exact (Upd.below hb hgS.2).trans (Upd.set (lo := k * 2) (hi := (k + 1) * 2) _ _ ⟨by omega, by omega⟩ _)) (fun q hq => (hv.blk q hq).1) (fun j d hd => by
      rw [size_NodeS]
      match j, hd with
      | 0, hd => simp at hd; subst hd; rw [Nat.add_zero, World.cell?_setCell_other _ _ _ _ (fun e => by injection e with _ e2; omega)]; exact d0
      | 1, hd => simp at hd; subst hd; exact World.cell?_setCell_same _ _ _ d1
      | j + 2, hd => simp at hd) (mkow_Node (fun q hq => hq) (hO.keep R_Span_ok fun q hq => hset q (by have := (hv.blk q hq).1; omega)))
  refine ⟨_, _, hrow, fun q hq => ?_, (hW.trans (hb.mono hW.size)).setCell (p := ⟨g, k * 2 + 1, none⟩) hgS.1 _, ⟨_, d1⟩, (hb.frozen (p := ⟨g, k * 2 + 1, none⟩) hgS.2).trans (h.soft _)⟩
  rcases hq with hq | hq
  · have := hS q hq
    simp; omega
  · have := hv.blk q hq
    have := hW.size
    simp; omega
set_option maxRecDepth 100000 in
set_option maxHeartbeats 3200000 in
theorem pass_spec {L : List D_Node} {now : Int} {a : Option Addr} {cap : Nat} {W : World} (h : RdSl R_Node W W.heap.size L a cap) :
    Calls Try.prog 39 #[.slice a L.length cap, .int .i64 now] W (NewS R_Node (passV L now) W) := by
  have H := Lib.hid h
  obtain ⟨z, hz⟩ : ∃ z, nodesB L = z := ⟨_, rfl⟩
  have hs := nodes_spec h
  rw [hz] at hs
  have HZ := Lib.hid hz
  have hnn := nd_len h
  clear h hz
  go_enter Try.func39, Try.ntmps39
  go_wp2_with fail
  refine hs.mono ?_
  intro e w1 h
  obtain ⟨rfl, hb⟩ := isB_elim h
  have H1 := Lib.hid (mv_rd R_Node_ok H.out hb)
  have HB1 := Lib.hid hb
  clear h hb hs
  cases z with
  | false =>
    go_wp2
    go_ret
    rw [passV_no HZ.out]
    exact ⟨_, _, rfl, ⟨Nat.le_refl _, by unfold maxLen; omega, fun h => absurd h (Nat.lt_irrefl _)⟩, HB1.out.alloc HB1.out.size _⟩
  | true =>
  have hN := nodesB_iff.1 HZ.out
  have hsm := nodesR_small hN
  have hL1 := hN.1.1
  have hL6 := hN.1.2
  clear hN
  go_wp2_with fail
  refine (copy_nodes hsm.1 hsm.2 H1.out).mono ?_
  intro e w2 h
  obtain ⟨a', c', rfl, ho, hb⟩ := newS_elim h
  obtain ⟨g, Sf, rfl, hrow⟩ := ho.row (by omega)
  have hc1 := ho.1
  have hc2 := ho.2.1
  have HR0 := Lib.hid (show Row R_Node w2 (Rg w1.heap.size w2.heap.size) (mid (passN now) L 0) g Sf from by rw [mid_zero]; exact hrow)
  have HB2 := Lib.hid (HB1.out.trans (hb.mono HB1.out.size))
  have HS0 := Lib.hid (show ∀ q, Rg w1.heap.size w2.heap.size q → W.heap.size ≤ q ∧ q < w2.heap.size from fun q hq => ⟨Nat.le_trans HB1.out.size hq.1, hq.2⟩)
  clear h ho hb hrow hsm
  go_wp2
  go_loopw [6] (fun i wr => ∃ k : Nat, k ≤ L.length ∧ i = .int .i64 k ∧ ∃ S Sf, Hid (Row R_Node wr S (mid (passN now) L k) g Sf) ∧ Hid (∀ q, S q → W.heap.size ≤ q ∧ q < wr.heap.size) ∧ Below W.heap.size W wr) (fun i _ => L.length - (intOf i).toNat)
  case atStart => exact ⟨0, Nat.zero_le _, rfl, _, _, HR0, HS0, HB2.out⟩
  case round =>
    obtain ⟨k, hk, rfl, S, Sf', HR, HS, hB⟩ := hrel
    have HB := Lib.hid hB
    have hsz := hB.size
    by_cases hlt : k < L.length
    · obtain ⟨x, hx⟩ := el_some hlt
      have hcr := H.out
      obtain ⟨gl, o, us, rfl, hg, hu, hr⟩ := hcr.at_ hx
      obtain ⟨st, M⟩ := x
      obtain ⟨ba, bc, rfl, hM⟩ := rd_Node hr
      have e1 : W.cell? ⟨gl, o + k * 2 + 1, none⟩ = some (.slice ba M.length bc) := by simpa [size_NodeS, Nat.add_assoc] using hu 1 _ rfl
      have hi0 : (0 : Int) ≤ (k : Int) := Int.natCast_nonneg _
      have hi1 : (k : Int) < (L.length : Int) := by omega
      have hml : M.length ≤ 4 := ((nodesB_iff.1 HZ.out).2 _ (List.mem_of_getElem? hx)).2.1
      have HE1 := Lib.hid e1
      have HM := Lib.hid hM
      have HX := Lib.hid hx
      have HG := Lib.hid hg
      have hdk : decide ((k : Int) < (L.length : Int)) = true := decide_eq_true hi1
      obtain ⟨w3, hw3⟩ : ∃ w, w = wr.alloc (.cells #[] 25) := ⟨_, rfl⟩
      have HL3 := Lib.hid (show XRow w3 wr.heap.size (.slice (some ⟨wr.heap.size, 0, none⟩) 0 0) ((M.take 0).filter fun s => decide (now < s.2)) from by rw [hw3]; exact FRow.made _ _ _ _)
      have HB3 := Lib.hid (show Below wr.heap.size wr w3 from by rw [hw3]; exact (Below.refl _ _).alloc (Nat.le_refl _) _)
      clear hB hcr hu hr hM hx e1 hg
      go_wp2
      rw [← hw3]
      clear hw3
      go_loopw [8, 7] (fun i v wq => ∃ j : Nat, j ≤ M.length ∧ i = .int .i64 j ∧ Hid (XRow wq wr.heap.size v ((M.take j).filter fun s => decide (now < s.2))) ∧ Hid (Below wr.heap.size wr wq)) (fun i _ _ => M.length - (intOf i).toNat)
      case atStart => exact ⟨0, Nat.zero_le _, rfl, HL3, HB3⟩
      case round =>
        obtain ⟨j, hj, rfl, HV, HQ⟩ := hrel
        rename World => wq
        have hBW : Below W.heap.size W wq := HB.out.trans (HQ.out.mono hsz)
        have hgw : gl < wq.heap.size := Nat.lt_of_lt_of_le HG.out hBW.size
        have e1 : wq.cell? ⟨gl, o + k * 2 + 1, none⟩ = some (.slice ba M.length bc) := (hBW.cell (p := ⟨gl, o + k * 2 + 1, none⟩) HG.out).trans HE1.out
        obtain ⟨va, vc, rfl⟩ := HV.out.isSlice
        have hvl : ((M.take j).filter fun s => decide (now < s.2)).length ≤ j := Nat.le_trans (List.length_filter_le _ _) (by rw [List.length_take]; omega)
        have hqz := HQ.out.size
        by_cases hjl : j < M.length
        · obtain ⟨y, hy⟩ := el_some hjl
          obtain ⟨gb, ob, us, rfl, hgb, hu, hr⟩ := HM.out.at_ hy
          obtain ⟨y0, y1⟩ := y
          obtain rfl := rd_Span hr
          have c0 : wq.cell? ⟨gb, ob + j * 2, none⟩ = some (.int .i64 y0) := (hBW.cell (p := ⟨gb, ob + j * 2, none⟩) hgb).trans (by simpa [size_SpanS] using hu 0 _ rfl)
          have c1 : wq.cell? ⟨gb, ob + j * 2 + 1, none⟩ = some (.int .i64 y1) := (hBW.cell (p := ⟨gb, ob + j * 2 + 1, none⟩) hgb).trans (by simpa [size_SpanS, Nat.add_assoc] using hu 1 _ rfl)
          have hj0 : (0 : Int) ≤ (j : Int) := Int.natCast_nonneg _
          have hj1 : (j : Int) < (M.length : Int) := by omega
          by_cases hnow : now < y1
          · have hd : decide (now < y1) = true := decide_eq_true hnow
            have HF := Lib.hid (filt_yes (q := fun s => decide (now < s.2)) hy hd)
            obtain ⟨w5, hw5⟩ : ∃ w, w = wq.alloc (.cells #[.int .i64 y0, .int .i64 y1] 25) := ⟨_, rfl⟩
            have hb5 : Below wq.heap.size wq w5 := by rw [hw5]; exact (Below.refl _ _).alloc (Nat.le_refl _) _
            have X5 : Blk w5 wq.heap.size 25 #[.int .i64 y0, .int .i64 y1] := by rw [hw5]; exact Blk.new _ _ _
            have hz5 := hb5.size
            obtain ⟨a6, c6, w6, hrun, hrow, hb6⟩ := XRow.more (HV.out.call hb5) (rd_oneS y0 y1 X5) (show wr.heap.size ≤ w5.heap.size by omega) (by simp only [List.length_singleton]; omega)
            have HRun := Lib.hid hrun
            rw [hw5] at HRun
            have HV6 := Lib.hid hrow
            have HQ6 := Lib.hid ((HQ.out.trans (hb5.mono hqz)).trans hb6)
            clear hrun hrow hb5 hb6 X5 hw5 hBW hy hu hr
            go_wp2_with (at_builtin; refine wpList_app rfl (.tmp 43) (.tmp 52) 39 rfl rfl rfl HRun.out ?_)
            go_roundw
            case rel => exact ⟨j + 1, by omega, by go_num, Lib.hid (by rw [HF.out]; simpa using HV6.out), HQ6⟩
            case measure => simp [intOf]; omega
          · have hd : decide (now < y1) = false := decide_eq_false hnow
            have HF := Lib.hid (filt_no (q := fun s => decide (now < s.2)) hy hd)
            clear hBW hy hu hr
            go_wp2
            go_roundw
            case rel => exact ⟨j + 1, by omega, by go_num, Lib.hid (by rw [HF.out]; exact HV.out), HQ⟩
            case measure => simp [intOf]; omega
        · have hdj : decide ((j : Int) < (M.length : Int)) = false := decide_eq_false (by omega)
          obtain rfl : j = M.length := by omega
          have HVM := Lib.hid (show XRow wq wr.heap.size (.slice va (M.filter fun s => decide (now < s.2)).length vc) (M.filter fun s => decide (now < s.2)) from by have := HV.out; rw [List.take_length] at this; exact this)
          obtain ⟨S', Sf2, hrow, hS', hW', ⟨u, d1⟩, f1⟩ := Row.books HR.out HS.out (mid_at HX.out) HQ.out HVM.out HB.out
          rw [show ((st, M.filter fun s => decide (now < s.2)) : D_Node) = passN now (st, M) from rfl, mid_set HX.out] at hrow
          have HR5 := Lib.hid hrow
          have HS5 := Lib.hid hS'
          have HW5 := Lib.hid hW'
          clear hrow hS' hW' hBW
          go_wp2
          go_roundw
          case rel => exact ⟨k + 1, by omega, by go_num, S', Sf2, HR5, HS5, HW5.out⟩
          case measure => simp [intOf]; omega
    · have hdl : decide ((k : Int) < (L.length : Int)) = false := decide_eq_false (by omega)
      obtain rfl : k = L.length := by omega
      clear hB
      go_wp2
      go_ret
      rw [passV_yes HZ.out]
      have hrow := HR.out
      rw [mid_end] at hrow
      exact ⟨some ⟨g, 0, none⟩, c', by rw [List.length_map]; rfl, (hrow.slice (by rw [List.length_map]; exact hc1) hc2).more fun q hq => HS.out q hq, HB.out⟩
end Go.Proofs.Ytfciojkibklkfaa.RepC
