/- RowsNew and RowsHard in the model and in the program: contracts. -/
import Derived.Test.YtfciojkibklkfaaNdL
import Derived.Test.YtfciojkibklkfaaNdK
namespace Go.Proofs.Ytfciojkibklkfaa.RepC
open Go.RowKit RowC ValC SpanC KeptC
set_option linter.unusedVariables false
set_option linter.unusedSimpArgs false

theorem own_oneS {w : World} {g : Nat} {S : Nat → Prop} (x0 x1 : Int) (h : Blk w g 25 #[.int .i64 x0, .int .i64 x1]) (hS : S g) : OwSl R_Span w S [(x0, x1)] (some ⟨g, 0, none⟩) 1 := by
  refine ⟨Nat.le_refl _, by unfold maxLen; omega, fun _ => ⟨g, fun _ _ => False, rfl, hS, h.soft, fun _ _ h => h.elim, fun _ _ _ _ h => h.elim, fun i x hx => ?_⟩⟩
  cases i with
  | zero =>
    simp at hx
    subst hx
    refine ⟨[.int .i64 x0, .int .i64 x1], fun j c hj => ?_, mkow_Span⟩
    simpa using h.at_ j (by simpa using hj)
  | succ i => simp at hx
theorem rd_oneM {w : World} {g : Nat} {M : List D_Span} {a : Option Addr} {c : Nat} (h : Blk w g 39 #[.slice a M.length c]) (hM : RdSl R_Span w w.heap.size M a c) : RdSl (Sl R_Span) w w.heap.size [M] (some ⟨g, 0, none⟩) 1 := by
  refine ⟨Nat.le_refl _, by unfold maxLen; omega, fun _ => ⟨g, 0, rfl, h.lt, fun i x hx => ?_⟩⟩
  cases i with
  | zero =>
    simp at hx
    subst hx
    refine ⟨[.slice a M.length c], fun j d hj => ?_, a, c, rfl, hM⟩
    simpa using h.at_ j (by simpa using hj)
  | succ i => simp at hx
theorem map_more {α β : Type} (f : α → β) {L : List α} {k : Nat} {x : α} (h : L[k]? = some x) : (L.take k).map f ++ [f x] = (L.take (k + 1)).map f := by rw [← take_more h, List.map_append]; rfl
theorem news_nil {α : Type} {E : Rp α} {w w' : World} {a : Option Addr} {c : Nat} (hc : c ≤ maxLen) (hb : Below w.heap.size w w') : NewS E [] w (.returned (.slice a 0 c)) w' := ⟨a, c, rfl, ⟨Nat.zero_le _, hc, fun h => absurd h (Nat.lt_irrefl _)⟩, hb⟩
set_option maxRecDepth 100000 in
set_option maxHeartbeats 3200000 in
theorem rows_of {L : List D_Node} {t : Int} {a : Option Addr} {cap : Nat} {W : World} (hn : L.length ≤ 4096) (hM : ∀ x ∈ L, x.2.length ≤ 1048576) (h : RdSl R_Node W W.heap.size L a cap) :
    Calls Try.prog 84 #[.slice a L.length cap, .int .i64 t] W (NewS (Sl R_Span) (L.map (rowOf t)) W) := by
  have H := Lib.hid h
  have HS := Lib.hid hM
  clear h hM
  obtain ⟨w0, hw0⟩ : ∃ w, w = W.alloc (.cells #[] 39) := ⟨_, rfl⟩
  have hb0 : Below W.heap.size W w0 := by rw [hw0]; exact (Below.refl _ _).alloc (Nat.le_refl _) _
  have HR0 := Lib.hid (show ARow (Sl R_Span) w0 W.heap.size 39 (.slice (some ⟨W.heap.size, 0, none⟩) 0 0) [] from by rw [hw0]; exact ARow.made _ _ _)
  have HB0 := Lib.hid hb0
  clear hb0
  go_enter Try.func84, Try.ntmps84
  go_wp2
  rw [← hw0]
  clear hw0
  go_loopw [6, 5] (fun i v wr => ∃ k : Nat, k ≤ L.length ∧ i = .int .i64 k ∧ Hid (ARow (Sl R_Span) wr W.heap.size 39 v ((L.take k).map (rowOf t))) ∧ Below W.heap.size W wr) (fun i _ _ => L.length - (intOf i).toNat)
  case atStart => exact ⟨0, Nat.zero_le _, rfl, HR0, HB0.out⟩
  case round =>
    obtain ⟨k, hk, rfl, HR, hB⟩ := hrel
    have HB := Lib.hid hB
    have hsz := hB.size
    obtain ⟨va, vc, hv⟩ := HR.out.isSlice
    rw [List.length_map, List.length_take, Nat.min_eq_left hk] at hv
    subst hv
    by_cases hlt : k < L.length
    · obtain ⟨x, hx⟩ := el_some hlt
      have hT := map_more (rowOf t) hx
      have hxl := HS.out x (List.mem_of_getElem? hx)
      have hcr := H.out
      obtain ⟨g, o, us, rfl, hg, hu, hr⟩ := hcr.at_ hx
      obtain ⟨st, M⟩ := x
      obtain ⟨ba, bc, rfl, hM⟩ := rd_Node hr
      have e0 : wr.cell? ⟨g, o + k * 2, none⟩ = some (.int .i64 st) := (hB.cell (p := ⟨g, o + k * 2, none⟩) hg).trans (by simpa [size_NodeS] using hu 0 _ rfl)
      have e1 : wr.cell? ⟨g, o + k * 2 + 1, none⟩ = some (.slice ba M.length bc) := (hB.cell (p := ⟨g, o + k * 2 + 1, none⟩) hg).trans (by simpa [size_NodeS, Nat.add_assoc] using hu 1 _ rfl)
      have hi0 : (0 : Int) ≤ (k : Int) := Int.natCast_nonneg _
      have hi1 : (k : Int) < (L.length : Int) := by omega
      have hlen : ((L.take (k + 1)).map (rowOf t)).length = k + 1 := by rw [List.length_map, List.length_take]; omega
      have HM := Lib.hid (mv_rd R_Span_ok hM hB)
      have e1' : (wr.alloc (.cells #[] 25)).cell? ⟨g, o + k * 2 + 1, none⟩ = some (.slice ba M.length bc) := ((Below.refl _ wr).alloc (Nat.le_refl _) (.cells #[] 25)).cell (p := ⟨g, o + k * 2 + 1, none⟩) (Nat.lt_of_lt_of_le hg hsz) |>.trans e1
      clear hcr hu hr hM hx
      by_cases hst : t ≤ st
      · have hd : decide (t ≤ st) = true := decide_eq_true hst
        have hro : rowOf t (st, M) = [(0, 1000000)] := if_pos hst
        rw [hro] at hT
        obtain ⟨w1, hw1⟩ : ∃ w, w = wr.alloc (.cells #[.int .i64 0, .int .i64 1000000] 25) := ⟨_, rfl⟩
        have hb1 : Below wr.heap.size wr w1 := by rw [hw1]; exact (Below.refl _ _).alloc (Nat.le_refl _) _
        have hbl1 : Blk w1 wr.heap.size 25 #[.int .i64 0, .int .i64 1000000] := by rw [hw1]; exact Blk.new _ _ _
        have hs1 : w1.heap.size = wr.heap.size + 1 := by rw [hw1]; simp
        obtain ⟨w2, hw2⟩ : ∃ w, w = w1.alloc (.cells #[.slice (some ⟨wr.heap.size, 0, none⟩) 1 1] 39) := ⟨_, rfl⟩
        have hb12 : Below w1.heap.size w1 w2 := by rw [hw2]; exact (Below.refl _ _).alloc (Nat.le_refl _) _
        have hbl2 : Blk w2 w1.heap.size 39 #[.slice (some ⟨wr.heap.size, 0, none⟩) ([((0 : Int), (1000000 : Int))] : List D_Span).length 1] := by rw [hw2]; exact Blk.new _ _ _
        have hb2 : Below wr.heap.size wr w2 := hb1.trans (hb12.mono hb1.size)
        obtain ⟨a3, c3, w3, hrun3, hrow, hb3⟩ := app_spans HR.out hb2 hbl2 (own_oneS (S := Rg wr.heap.size w2.heap.size) 0 1000000 (hbl1.call hb12) ⟨Nat.le_refl _, by have := hb12.size; omega⟩) (by rw [List.length_map, List.length_take]; omega)
        rw [hT, hlen] at hrun3 hrow
        have HRun3 := Lib.hid hrun3
        rw [hs1, hw2, hw1] at HRun3
        have HR3 := Lib.hid hrow
        have HB3 := Lib.hid ((HB.out.trans (hb2.mono hsz)).trans hb3)
        clear hrun3 hrow hb1 hbl1 hb12 hbl2 hb2 hb3 hw2 hw1 hT hro hB e1 e1' hs1
        go_wp2_with (at_builtin; refine wpList_app rfl (.tmp 21) (.tmp 24) 36 rfl rfl rfl HRun3.out ?_)
        go_roundw
        case rel => exact ⟨k + 1, by omega, by go_num, HR3, HB3.out⟩
        case measure => simp [intOf]; omega
      · have hd : decide (t ≤ st) = false := decide_eq_false hst
        have hro : rowOf t (st, M) = M := if_neg hst
        rw [hro] at hT
        obtain ⟨a1, c1, w1, hrun1, ho1, hb1⟩ := copy_spans (ty := 39) (w := wr) hxl HM.out
        have HRun1 := Lib.hid hrun1
        obtain ⟨w2, hw2⟩ : ∃ w, w = w1.alloc (.cells #[.slice a1 M.length c1] 39) := ⟨_, rfl⟩
        have hb12 : Below w1.heap.size w1 w2 := by rw [hw2]; exact (Below.refl _ _).alloc (Nat.le_refl _) _
        have hbl2 : Blk w2 w1.heap.size 39 #[.slice a1 M.length c1] := by rw [hw2]; exact Blk.new _ _ _
        have hb2 : Below wr.heap.size wr w2 := hb1.trans (hb12.mono hb1.size)
        have ho2 : OwSl R_Span w2 (Rg wr.heap.size w2.heap.size) M a1 c1 := (ho1.keep R_Span_ok fun q hq => hb12.block q hq.2).more fun q hq => ⟨hq.1, Nat.lt_of_lt_of_le hq.2 hb12.size⟩
        obtain ⟨a3, c3, w3, hrun3, hrow, hb3⟩ := app_spans HR.out hb2 hbl2 ho2 (by rw [List.length_map, List.length_take]; omega)
        rw [hT, hlen] at hrun3 hrow
        have HRun3 := Lib.hid hrun3
        rw [hw2] at HRun3
        have HR3 := Lib.hid hrow
        have HB3 := Lib.hid ((HB.out.trans (hb2.mono hsz)).trans hb3)
        clear hrun1 hrun3 hrow hb1 ho1 hb12 hbl2 hb2 ho2 hb3 hw2 hT hro hB e1
        go_wp2_with (at_builtin; first | refine wpList_app rfl (.tmp 27) (.tmp 32) 39 rfl rfl rfl HRun1.out ?_ | refine wpList_app rfl (.tmp 26) (.tmp 34) 36 rfl rfl rfl HRun3.out ?_)
        go_roundw
        case rel => exact ⟨k + 1, by omega, by go_num, HR3, HB3.out⟩
        case measure => simp [intOf]; omega
    · have hdl : decide ((k : Int) < (L.length : Int)) = false := decide_eq_false (by omega)
      obtain rfl : k = L.length := by omega
      have HR2 := Lib.hid (show ARow (Sl R_Span) wr W.heap.size 39 (.slice va L.length vc) (L.map (rowOf t)) from by have := HR.out; rwa [List.take_length] at this)
      clear hB
      go_wp2
      go_ret
      exact HR2.out.news (Sl_ok R_Span_ok) (Nat.le_refl _) HB.out
theorem nodesR_small {L : List D_Node} (h : NodesR L) : L.length ≤ 4096 ∧ ∀ x ∈ L, x.2.length ≤ 1048576 := ⟨by have := h.1.2; omega, fun x hx => by have := (h.2 x hx).2.1; omega⟩
theorem rowsV_no {t : Int} {L : List D_Node} (h : nodesB L = false) : rowsV t L = [] := by unfold rowsV; rw [h]; rfl
theorem rowsV_yes {t : Int} {L : List D_Node} (h : nodesB L = true) : rowsV t L = L.map (rowOf t) := by unfold rowsV; rw [h]; rfl
set_option maxRecDepth 100000 in
set_option maxHeartbeats 1600000 in
theorem rowsnew_spec {L : List D_Node} {a : Option Addr} {cap : Nat} {W : World} (h : RdSl R_Node W W.heap.size L a cap) :
    Calls Try.prog 40 #[.slice a L.length cap] W (NewS (Sl R_Span) (rowsV 2 L) W) := by
  have H := Lib.hid h
  obtain ⟨z, hz⟩ : ∃ z, nodesB L = z := ⟨_, rfl⟩
  have hs := nodes_spec h
  rw [hz] at hs
  have HZ := Lib.hid hz
  clear h hz
  go_enter Try.func40, Try.ntmps40
  go_wp2_with fail
  refine hs.mono ?_
  intro e w1 h
  obtain ⟨rfl, hb⟩ := isB_elim h
  have HB := Lib.hid hb
  have HM := Lib.hid (mv_rd R_Node_ok H.out hb)
  clear h hb hs
  cases z with
  | false =>
    go_wp2
    go_ret
    rw [rowsV_no HZ.out]
    exact ⟨_, _, rfl, ⟨Nat.le_refl _, by unfold maxLen; omega, fun h => absurd h (Nat.lt_irrefl _)⟩, HB.out.alloc HB.out.size _⟩
  | true =>
    have hsm := nodesR_small (nodesB_iff.1 HZ.out)
    go_wp2_with fail
    refine (rows_of hsm.1 hsm.2 HM.out).mono ?_
    intro e w2 h
    obtain ⟨a', c', rfl, ho, hb⟩ := newS_elim h
    have HO := Lib.hid ho
    have HB2 := Lib.hid hb
    clear h ho hb
    go_wp2
    go_ret
    rw [rowsV_yes HZ.out]
    exact ⟨a', c', by rw [List.length_map]; rfl, HO.out.more fun q hq => ⟨Nat.le_trans HB.out.size hq.1, hq.2⟩, HB.out.trans (HB2.out.mono HB.out.size)⟩
set_option maxRecDepth 100000 in
set_option maxHeartbeats 1600000 in
theorem rowshard_spec {L : List D_Node} {a : Option Addr} {cap : Nat} {W : World} (h : RdSl R_Node W W.heap.size L a cap) :
    Calls Try.prog 44 #[.slice a L.length cap] W (NewS (Sl R_Span) (rowsV 3 L) W) := by
  have H := Lib.hid h
  obtain ⟨z, hz⟩ : ∃ z, nodesB L = z := ⟨_, rfl⟩
  have hs := nodes_spec h
  rw [hz] at hs
  have HZ := Lib.hid hz
  clear h hz
  go_enter Try.func44, Try.ntmps44
  go_wp2_with fail
  refine hs.mono ?_
  intro e w1 h
  obtain ⟨rfl, hb⟩ := isB_elim h
  have HB := Lib.hid hb
  have HM := Lib.hid (mv_rd R_Node_ok H.out hb)
  clear h hb hs
  cases z with
  | false =>
    go_wp2
    go_ret
    rw [rowsV_no HZ.out]
    exact ⟨_, _, rfl, ⟨Nat.le_refl _, by unfold maxLen; omega, fun h => absurd h (Nat.lt_irrefl _)⟩, HB.out.alloc HB.out.size _⟩
  | true =>
    have hsm := nodesR_small (nodesB_iff.1 HZ.out)
    go_wp2_with fail
    refine (rows_of hsm.1 hsm.2 HM.out).mono ?_
    intro e w2 h
    obtain ⟨a', c', rfl, ho, hb⟩ := newS_elim h
    have HO := Lib.hid ho
    have HB2 := Lib.hid hb
    clear h ho hb
    go_wp2
    go_ret
    rw [rowsV_yes HZ.out]
    exact ⟨a', c', by rw [List.length_map]; rfl, HO.out.more fun q hq => ⟨Nat.le_trans HB.out.size hq.1, hq.2⟩, HB.out.trans (HB2.out.mono HB.out.size)⟩
end Go.Proofs.Ytfciojkibklkfaa.RepC
