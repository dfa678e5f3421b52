/- Of this claim's texts the part 2: NdX2 NdR NdL NdQ NdD NdY NdU1 NdZ NdG NdS NdS2 SqRows SqFit SqFirst NdU2 NdN NdA NdA1. -/
import Derived.Shelf.Abstract
import Derived.Test.YtfciojkibklkfaaPN1
section
namespace Go.Proofs.Ytfciojkibklkfaa.RepC
open Go.RowKit RowC ValC SpanC KeptC
set_option linter.unusedVariables false
set_option linter.unusedSimpArgs false
set_option maxRecDepth 100000 in
set_option maxHeartbeats 3200000 in
theorem delf_spans {F bx : Nat} {v0 : Value} {p : D_Span → Bool} (eg : ∀ args w, (callFunc F args).run Try.prog w = .ok (.enter F args) w) (hp : PredS F bx v0 p) {L : List D_Span} {S : Nat → Prop} {a : Option Addr} {c : Nat} {W : World} (hbx : W.cell? ⟨bx, 0, none⟩ = some v0) (hbl : bx < W.heap.size) (hne : ¬ S bx) (hS : ∀ q, S q → q < W.heap.size) (hO : OwSl R_Span W S L a c) :
    Calls Try.prog 76 #[.slice a L.length c, .func (.func F) #[] #[.pointer (some ⟨bx, 0, none⟩)]] W (DelR L p S a c W) := by
  have hix := indexf_spans eg hp hbx hbl (hO.rd R_Span_ok hS)
  have hn : L.length ≤ 9223372036854775807 := by have h1 := hO.1; have h2 := hO.2.1; unfold maxLen at h2; omega
  have H := Lib.hid hO
  have HP := Lib.hid hp
  have HX := Lib.hid hbx
  have HS := Lib.hid hS
  have HNE := Lib.hid hne
  clear hp hbx hS hO hne
  go_enter Try.func76, Try.ntmps76
  go_wp2_with fail
  refine hix.mono ?_
  intro e w1 h
  obtain ⟨z, rfl, hb, hz⟩ := ixP_elim h
  have HB1 := Lib.hid hb
  clear h hb hix
  rcases hz with ⟨rfl, hall⟩ | ⟨k, x, rfl, hx, hpx, hall⟩
  · have hF : L.filter (fun y => !p y) = L := List.filter_eq_self.2 fun y hy => by
      obtain ⟨i, hi, rfl⟩ := List.getElem_of_mem hy
      rw [hall i _ (List.getElem?_eq_getElem hi)]
      rfl
    have HF := Lib.hid hF
    clear hall hF
    go_wp2
    go_ret
    refine ⟨?_, ?_, (Off.refl _ W).of_below HB1.out⟩
    · rw [HF.out]; rfl
    · rw [HF.out]; exact H.out.keep R_Span_ok fun q hq => HB1.out.block q (HS.out q hq)
  · have hk := el_lt hx
    obtain ⟨g, Sf, rfl, hSg, hso, _, _, _⟩ := H.out.2.2 (by omega)
    have hg := HS.out g hSg
    have hbg : bx ≠ g := fun e => HNE.out (e ▸ hSg)
    obtain ⟨hD, hD2⟩ := DelM.start (c := c) H.out hg HB1.out hx hpx hall (wr := w1) (a := none)
    have HD0 := Lib.hid hD
    have HD2 := Lib.hid hD2
    have hne1 : ((k : Int) == -1) = false := beq_eq_false_iff_ne.2 (by omega)
    have hc1 := H.out.1
    have hc2 := H.out.2.1
    have hwk : IntKind.i64.wrap ((k : Int) + 1) = ((k + 1 : Nat) : Int) := by rw [show (k : Int) + 1 = ((k + 1 : Nat) : Int) by omega]; exact IntWalk.i64_in _ (by unfold maxLen at hc2; omega)
    unfold maxLen at hc2
    clear hx hpx hall hD hD2 hso
    go_wp2
    go_loopw [5, 6] (fun s5 s6 wr => ∃ (i j : Nat), s5 = .int .i64 i ∧ s6 = .int .i64 j ∧ j ≤ L.length ∧ i < j ∧ Hid (DelM W wr L g p j) ∧ Hid (((L.take j).filter fun y => !p y).length = i)) (fun _ s6 _ => L.length - (intOf s6).toNat)
    case atStart => exact ⟨k, k + 1, rfl, by first | rfl | go_num, by omega, by omega, HD0, HD2⟩
    case round =>
      obtain ⟨i, j, rfl, rfl, hj, hij, HD, HI⟩ := hrel
      have hgw : g < wr.heap.size := Nat.lt_of_lt_of_le hg HD.out.off.size
      by_cases hlt : j < L.length
      · obtain ⟨y, hy⟩ := el_some hlt
        obtain ⟨c0, c1⟩ := HD.out.high j y (Nat.le_refl _) hy
        obtain ⟨y0, y1⟩ := y
        have hj0 : (0 : Int) ≤ (j : Int) := Int.natCast_nonneg _
        have hj1 : (j : Int) < (L.length : Int) := by omega
        have hi0 : (0 : Int) ≤ (i : Int) := Int.natCast_nonneg _
        have hi1 : (i : Int) < (L.length : Int) := by omega
        obtain ⟨w2, hw2⟩ : ∃ w, w = wr.alloc (.cells #[.int .i64 y0, .int .i64 y1] 25) := ⟨_, rfl⟩
        have hb2 : Below wr.heap.size wr w2 := by rw [hw2]; exact (Below.refl _ _).alloc (Nat.le_refl _) _
        have X2 : Blk w2 wr.heap.size 25 #[.int .i64 y0, .int .i64 y1] := by rw [hw2]; exact Blk.new _ _ _
        have hbw : wr.cell? ⟨bx, 0, none⟩ = some v0 := (World.cell?_of_block (a := ⟨bx, 0, none⟩) (HD.out.off.block bx hbl hbg)).trans HX.out
        have hbl2 : bx < wr.heap.size := Nat.lt_of_lt_of_le hbl HD.out.off.size
        have hcl := HP.out w2 y0 y1 ((hb2.cell (p := ⟨bx, 0, none⟩) hbl2).trans hbw)
        have HC := Lib.hid hcl
        have HD3 := Lib.hid (HD.out.call hb2)
        have HY := Lib.hid hy
        have HXX := Lib.hid X2
        have p0 := X2.at_ 0 rfl
        have p1 := X2.at_ 1 rfl
        rw [hw2] at p0 p1
        clear hcl hy hbw hb2 X2 HD
        go_wp2_with fail
        rw [← hw2]
        clear hw2 p0 p1
        refine HC.out.mono ?_
        intro e w3 h
        obtain ⟨rfl, hb⟩ := isB_elim h
        have HD4 := Lib.hid (HD3.out.call hb)
        have X3 := Lib.hid (HXX.out.call hb)
        obtain ⟨b, hbb⟩ : ∃ b, p (y0, y1) = b := ⟨_, rfl⟩
        have HBB := Lib.hid hbb
        rw [hbb]
        clear h hb hbb HC HD3 HXX c0 c1
        cases b with
        | true =>
          obtain ⟨hD5, hT⟩ := HD4.out.drop HY.out HBB.out
          have HD5 := Lib.hid hD5
          have HI5 := Lib.hid (show ((L.take (j + 1)).filter fun y => !p y).length = i from by rw [hT]; exact HI.out)
          clear hD5 hT
          go_wp2
          go_roundw
          case rel => exact ⟨i, j + 1, rfl, by go_num, by omega, by omega, HD5, HI5⟩
          case measure => simp [intOf]; omega
        | false =>
          obtain ⟨hD5, hT⟩ := HD4.out.keep HY.out HBB.out HI.out
          have HD5 := Lib.hid hD5
          have HI5 := Lib.hid hT
          obtain ⟨u0, d0⟩ := HD4.out.there (i * 2) (by omega)
          obtain ⟨u1, d1⟩ := HD4.out.there (i * 2 + 1) (by omega)
          have f0 := HD4.out.soft (i * 2)
          have f1 := HD4.out.soft (i * 2 + 1)
          have p0 := X3.out.at_ 0 rfl
          have p1 := X3.out.at_ 1 rfl
          clear hD5 hT
          go_wp2
          go_roundw
          case rel => exact ⟨i + 1, j + 1, by go_num, by go_num, by omega, by omega, HD5, HI5⟩
          case measure => simp [intOf]; omega
      · have hdl : decide ((j : Int) < (L.length : Int)) = false := decide_eq_false (by omega)
        obtain rfl : j = L.length := by omega
        have hi0 : (0 : Int) ≤ (i : Int) := Int.natCast_nonneg _
        have hi1 : (i : Int) ≤ (L.length : Int) := by omega
        have hi2 : (i : Int) ≤ (c : Int) := by omega
        have hci : ¬ c = i := by omega
        obtain ⟨w9, hclr, hlo, hso, hof⟩ := run_clear_spans wr g (i * 2) (L.length - i) (c - i) (by omega) (fun q hq => HD.out.there _ (by omega)) HD.out.soft
        have HI9 := HI.out
        rw [List.take_length] at HI9
        have HIF := Lib.hid HI9
        have HR := Lib.hid (show OwSl R_Span w9 S (L.filter fun y => !p y) (some ⟨g, 0, none⟩) c from ⟨by rw [HI9]; omega, by unfold maxLen; omega, fun _ => ⟨g, fun _ _ => False, rfl, hSg, hso, fun _ _ h => h.elim, fun _ _ _ _ h => h.elim, fun r y hy => by
          have hr := el_lt hy
          rw [HI9] at hr
          obtain ⟨h1, h2⟩ := HD.out.low r y (by rw [List.take_length]; exact hy)
          refine ⟨[.int .i64 y.1, .int .i64 y.2], fun q d hd => ?_, mkow_Span⟩
          rw [size_SpanS]
          match q, hd with
          | 0, hd => simp at hd; subst hd; rw [Nat.add_zero, hlo _ (by omega)]; exact h1
          | 1, hd => simp at hd; subst hd; rw [hlo _ (by omega)]; exact h2
          | q + 2, hd => simp at hd⟩⟩)
        have HOF := Lib.hid ((HD.out.off.trans hof).more (T := S) fun q hq => by rw [hq]; exact hSg)
        clear hlo hso hof HI9
        go_wp2
        go_ret
        exact ⟨by rw [HIF.out]; rfl, HR.out, HOF.out⟩
end Go.Proofs.Ytfciojkibklkfaa.RepC
end
section
namespace Go.Proofs.Ytfciojkibklkfaa.RepC
open Go.RowKit RowC ValC SpanC KeptC
set_option linter.unusedVariables false
set_option linter.unusedSimpArgs false
theorem state_spec (n : Int) (w : World) : Calls Try.prog 66 #[.int .i64 n] w fun e w' => e = .returned (.bool (isB n 1 3)) ∧ w = w' := by
  go_enter Try.func66, Try.ntmps66
  go_wp2_with (go_at_call 81; refine (is_spec _ _ _ _).mono ?_; rintro e w' ⟨rfl, rfl⟩)
  go_ret
  exact ⟨rfl, rfl⟩
theorem state_impl (n : Int) (w : World) : Calls Try.prog 64 #[.int .i64 n] w fun e w' => e = .returned (.bool (isB n 1 3)) ∧ w = w' := by
  go_enter Try.func64, Try.ntmps64
  go_wp2_with (go_at_call 67; refine (is_impl _ _ _ _).mono ?_; rintro e w' ⟨rfl, rfl⟩)
  go_ret
  exact ⟨rfl, rfl⟩
theorem nd_len {α : Type} {E : Rp α} {L : List α} {W : World} {B : Nat} {a : Option Addr} {cap : Nat} (h : RdSl E W B L a cap) : L.length ≤ 9223372036854775807 := by
  have h1 := h.1; have h2 := h.2.1; unfold maxLen at h2; omega
set_option maxRecDepth 100000 in
set_option maxHeartbeats 3200000 in
theorem nodes_spec {L : List D_Node} {a : Option Addr} {cap : Nat} {W : World} (h : RdSl R_Node W W.heap.size L a cap) :
    Calls Try.prog 20 #[.slice a L.length cap] W (IsB (nodesB L) W) := by
  refine Calls.mono ?_ fun e w' h => resB_is nodesB_iff h
  have hn := nd_len h
  have H := Lib.hid h
  clear h
  by_cases h1 : 1 ≤ L.length
  rotate_left
  · have HN := Lib.hid (show ¬ NodesR L from fun h => h1 h.1.1)
    have hd : decide ((L.length : Int) < 1) = true := decide_eq_true (by omega)
    go_enter Try.func20, Try.ntmps20
    go_wp2
    go_ret
    exact resB_no HN.out (Below.refl _ _)
  have hd : decide ((L.length : Int) < 1) = false := decide_eq_false (by omega)
  by_cases h6 : L.length ≤ 6
  rotate_left
  · have HN := Lib.hid (show ¬ NodesR L from fun h => h6 h.1.2)
    have hd2 : decide ((6 : Int) < (L.length : Int)) = true := decide_eq_true (by omega)
    go_enter Try.func20, Try.ntmps20
    go_wp2
    go_ret
    exact resB_no HN.out (Below.refl _ _)
  have hd2 : decide ((6 : Int) < (L.length : Int)) = false := decide_eq_false (by omega)
  go_enter Try.func20, Try.ntmps20
  go_wp2
  go_loopw [3] (fun i wr => ∃ k : Nat, k ≤ L.length ∧ i = .int .i64 k ∧ Hid (okTo L k) ∧ Below W.heap.size W wr) (fun i _ => L.length - (intOf i).toNat)
  case atStart => exact ⟨0, Nat.zero_le _, rfl, Lib.hid okTo_zero, Below.refl _ _⟩
  case round =>
    obtain ⟨k, hk, rfl, HO, hB⟩ := hrel
    have HB := Lib.hid hB
    have hsz := hB.size
    by_cases hlt : k < L.length
    · skip
      obtain ⟨x, hx⟩ := el_some hlt
      have HX := Lib.hid hx
      have hcr := mv_rd R_Node_ok H.out hB
      obtain ⟨g, o, us, rfl, hg, hu, hr⟩ := hcr.at_ hx
      obtain ⟨st, M⟩ := x
      obtain ⟨ba, bc, rfl, hM⟩ := rd_Node hr
      have e0 : wr.cell? ⟨g, o + k * 2, none⟩ = some (.int .i64 st) := by simpa [size_NodeS] using hu 0 _ rfl
      have e1 : wr.cell? ⟨g, o + k * 2 + 1, none⟩ = some (.slice ba M.length bc) := by simpa [size_NodeS, Nat.add_assoc] using hu 1 _ rfl
      have hi0 : (0 : Int) ≤ (k : Int) := Int.natCast_nonneg _
      have hi1 : (k : Int) < (L.length : Int) := by omega
      have HG := Lib.hid hg
      have HM := Lib.hid hM
      clear hcr hu hr hM hg hB hx
      cases hq : isB st 1 3 with
      | false =>
        have HN := Lib.hid (show ¬ NodesR L from fun h => by have := (nodesR_at h HX.out).1; rw [hq] at this; cases this)
        have hs := fun W => state_spec st W
        rw [hq] at hs
        clear hq
        go_wp2_with (go_at_call 66; refine (hs _).mono ?_; rintro e w' ⟨rfl, rfl⟩)
        go_ret
        exact resB_no HN.out HB.out
      | true =>
      have HQ := Lib.hid hq
      have hs := fun W => state_spec st W
      rw [hq] at hs
      clear hq
      by_cases h4 : M.length ≤ 4
      rotate_left
      · have HN := Lib.hid (show ¬ NodesR L from fun h => h4 (nodesR_at h HX.out).2.1)
        have hd : decide ((4 : Int) < (M.length : Int)) = true := decide_eq_true (by omega)
        go_wp2_with (go_at_call 66; refine (hs _).mono ?_; rintro e w' ⟨rfl, rfl⟩)
        go_ret
        exact resB_no HN.out HB.out
      have hd : decide ((4 : Int) < (M.length : Int)) = false := decide_eq_false (by omega)
      go_wp2_with (first | (go_at_call 66; refine (hs _).mono ?_; rintro e w' ⟨rfl, rfl⟩) | fail)
      refine (spansA_spec ba M.length bc (gt M) _ (by omega) (pa_of (mv_rd R_Span_ok HM.out (w' := _) (Below.refl _ _)) (Nat.le_refl _))).mono ?_
      intro e w5 h
      obtain ⟨z, rfl, hz, hb⟩ := resB_elim h
      have HZ := Lib.hid hz
      have HB5 := Lib.hid (HB.out.trans (hb.mono hsz))
      clear h hz hb hs hd
      cases z with
      | false =>
        have HN := Lib.hid (show ¬ NodesR L from fun h => by have := HZ.out.2 (nodesR_at h HX.out).2.2; cases this)
        go_wp2
        go_ret
        exact resB_no HN.out HB5.out
      | true =>
        have HO2 := Lib.hid (okTo_step HO.out HX.out ⟨HQ.out, h4, HZ.out.1 rfl⟩)
        go_wp2
        go_roundw
        case rel => exact ⟨k + 1, by omega, by go_num, HO2, HB5.out⟩
        case measure => simp [intOf]; omega
    · have hdl : decide ((k : Int) < (L.length : Int)) = false := decide_eq_false (by omega)
      obtain rfl : k = L.length := by omega
      have HY := Lib.hid (nodesR_all h1 h6 HO.out)
      clear hB
      go_wp2
      go_ret
      exact resB_yes HY.out HB.out
set_option maxRecDepth 100000 in
set_option maxHeartbeats 3200000 in
theorem nodes_impl {L : List D_Node} {a : Option Addr} {cap : Nat} {W : World} (h : RdSl R_Node W W.heap.size L a cap) :
    Calls Try.prog 19 #[.slice a L.length cap] W (IsB (nodesB L) W) := by
  refine Calls.mono ?_ fun e w' h => resB_is nodesB_iff h
  have hn := nd_len h
  have H := Lib.hid h
  clear h
  cases h16 : isB (L.length : Int) 1 6 with
  | false =>
    have HN := Lib.hid (show ¬ NodesR L from fun h => by have h1 := h.1.1; have h2 := h.1.2; rw [(isB_iff _ _ _).2 ⟨by omega, by omega⟩] at h16; cases h16)
    have hs := fun W => is_impl (L.length : Int) 1 6 W
    rw [h16] at hs
    clear h16
    go_enter Try.func19, Try.ntmps19
    go_wp2_with (go_at_call 67; refine (hs _).mono ?_; rintro e w' ⟨rfl, rfl⟩)
    go_ret
    exact resB_no HN.out (Below.refl _ _)
  | true =>
  have h1 : 1 ≤ L.length := by have := ((isB_iff _ _ _).1 h16).1; omega
  have h6 : L.length ≤ 6 := by have := ((isB_iff _ _ _).1 h16).2; omega
  have hs := fun W => is_impl (L.length : Int) 1 6 W
  rw [h16] at hs
  clear h16
  go_enter Try.func19, Try.ntmps19
  go_wp2_with (go_at_call 67; refine (hs _).mono ?_; rintro e w' ⟨rfl, rfl⟩)
  clear hs
  go_loopw [11] (fun i wr => ∃ k : Nat, k ≤ L.length ∧ i = .int .i64 k ∧ Hid (okTo L k) ∧ Below W.heap.size W wr) (fun i _ => L.length - (intOf i).toNat)
  case atStart => exact ⟨0, Nat.zero_le _, rfl, Lib.hid okTo_zero, Below.refl _ _⟩
  case round =>
    obtain ⟨k, hk, rfl, HO, hB⟩ := hrel
    have HB := Lib.hid hB
    have hsz := hB.size
    by_cases hlt : k < L.length
    · skip
      obtain ⟨x, hx⟩ := el_some hlt
      have HX := Lib.hid hx
      have hcr := mv_rd R_Node_ok H.out hB
      obtain ⟨g, o, us, rfl, hg, hu, hr⟩ := hcr.at_ hx
      obtain ⟨st, M⟩ := x
      obtain ⟨ba, bc, rfl, hM⟩ := rd_Node hr
      have e0 : wr.cell? ⟨g, o + k * 2, none⟩ = some (.int .i64 st) := by simpa [size_NodeS] using hu 0 _ rfl
      have e1 : wr.cell? ⟨g, o + k * 2 + 1, none⟩ = some (.slice ba M.length bc) := by simpa [size_NodeS, Nat.add_assoc] using hu 1 _ rfl
      have hi0 : (0 : Int) ≤ (k : Int) := Int.natCast_nonneg _
      have hi1 : (k : Int) < (L.length : Int) := by omega
      have HG := Lib.hid hg
      have HM := Lib.hid hM
      clear hcr hu hr hM hg hB hx
      cases hq : isB st 1 3 with
      | false =>
        have HN := Lib.hid (show ¬ NodesR L from fun h => by have := (nodesR_at h HX.out).1; rw [hq] at this; cases this)
        have hs := fun W => state_impl st W
        rw [hq] at hs
        clear hq
        go_wp2_with (go_at_call 64; refine (hs _).mono ?_; rintro e w' ⟨rfl, rfl⟩)
        go_ret
        exact resB_no HN.out (HB.out.trans (Below.mono (B := wr.heap.size) (by repeat (first | exact Below.refl _ _ | refine Below.drew ?_ | refine Below.setCell ?_ (by first | omega | (simp; done) | (simp; omega)) _ | refine Below.alloc ?_ (by first | omega | (simp; done) | (simp; omega)) _)) hsz))
      | true =>
      have HQ := Lib.hid hq
      have hs := fun W => state_impl st W
      rw [hq] at hs
      clear hq
      by_cases h4 : M.length ≤ 4
      rotate_left
      · have HN := Lib.hid (show ¬ NodesR L from fun h => h4 (nodesR_at h HX.out).2.1)
        have hd : decide ((4 : Int) < (M.length : Int)) = true := decide_eq_true (by omega)
        go_wp2_with (go_at_call 64; refine (hs _).mono ?_; rintro e w' ⟨rfl, rfl⟩)
        go_ret
        exact resB_no HN.out (HB.out.trans (Below.mono (B := wr.heap.size) (by repeat (first | exact Below.refl _ _ | refine Below.drew ?_ | refine Below.setCell ?_ (by first | omega | (simp; done) | (simp; omega)) _ | refine Below.alloc ?_ (by first | omega | (simp; done) | (simp; omega)) _)) hsz))
      have hd : decide ((4 : Int) < (M.length : Int)) = false := decide_eq_false (by omega)
      go_wp2_with (first | (go_at_call 64; refine (hs _).mono ?_; rintro e w' ⟨rfl, rfl⟩) | fail)
      refine (spans_impl ba M.length bc (gt M) _ (by omega) (pa_of (mv_rd R_Span_ok HM.out (w' := _) (by repeat (first | exact Below.refl _ _ | refine Below.drew ?_ | refine Below.setCell ?_ (by first | omega | (simp; done) | (simp; omega)) _ | refine Below.alloc ?_ (by first | omega | (simp; done) | (simp; omega)) _))) (Nat.le_refl _))).mono ?_
      intro e w5 h
      obtain ⟨z, rfl, hz, hb⟩ := resB_elim h
      have HZ := Lib.hid hz
      have HB5 := Lib.hid ((HB.out.trans (Below.mono (B := wr.heap.size) (by repeat (first | exact Below.refl _ _ | refine Below.drew ?_ | refine Below.setCell ?_ (by first | omega | (simp; done) | (simp; omega)) _ | refine Below.alloc ?_ (by first | omega | (simp; done) | (simp; omega)) _)) hsz)).trans (hb.mono (by simp; omega)))
      clear h hz hb hs hd
      cases z with
      | false =>
        have HN := Lib.hid (show ¬ NodesR L from fun h => by have := HZ.out.2 (nodesR_at h HX.out).2.2; cases this)
        go_wp2
        go_ret
        exact resB_no HN.out HB5.out
      | true =>
        have HO2 := Lib.hid (okTo_step HO.out HX.out ⟨HQ.out, h4, HZ.out.1 rfl⟩)
        go_wp2
        go_roundw
        case rel => exact ⟨k + 1, by omega, by go_num, HO2, HB5.out⟩
        case measure => simp [intOf]; omega
    · have hdl : decide ((k : Int) < (L.length : Int)) = false := decide_eq_false (by omega)
      obtain rfl : k = L.length := by omega
      have HY := Lib.hid (nodesR_all h1 h6 HO.out)
      clear hB
      go_wp2
      go_ret
      exact resB_yes HY.out HB.out
end Go.Proofs.Ytfciojkibklkfaa.RepC
end
section
namespace Go.Proofs.Ytfciojkibklkfaa.RepC
open Go.RowKit RowC ValC SpanC KeptC
set_option linter.unusedVariables false
set_option linter.unusedSimpArgs false
theorem take_more {α : Type} {L : List α} {k : Nat} {x : α} (h : L[k]? = some x) : L.take k ++ [x] = L.take (k + 1) := by rw [List.take_add_one, h, Option.toList_some]
end Go.Proofs.Ytfciojkibklkfaa.RepC
end
section
namespace Go.Proofs.Ytfciojkibklkfaa.RepC
open Go.RowKit RowC ValC SpanC KeptC
set_option linter.unusedVariables false
set_option linter.unusedSimpArgs false
theorem own_oneS {w : World} {g : Nat} {S : Nat → Prop} (x0 x1 : Int) (h : Blk w g 25 #[.int .i64 x0, .int .i64 x1]) (hS : S g) : OwSl R_Span w S [(x0, x1)] (some ⟨g, 0, none⟩) 1 := by
  refine ⟨Nat.le_refl _, by unfold maxLen; omega, fun _ => ⟨g, fun _ _ => False, rfl, hS, h.soft, fun _ _ h => h.elim, fun _ _ _ _ h => h.elim, fun i x hx => ?_⟩⟩
  cases i with
  | zero =>
    simp at hx
    subst hx
    refine ⟨[.int .i64 x0, .int .i64 x1], fun j c hj => ?_, mkow_Span⟩
    simpa using h.at_ j (by simpa using hj)
  | succ i => simp at hx
theorem rd_oneM {w : World} {g : Nat} {M : List D_Span} {a : Option Addr} {c : Nat} (h : Blk w g 39 #[.slice a M.length c]) (hM : RdSl R_Span w w.heap.size M a c) : RdSl (Sl R_Span) w w.heap.size [M] (some ⟨g, 0, none⟩) 1 := by
  refine ⟨Nat.le_refl _, by unfold maxLen; omega, fun _ => ⟨g, 0, rfl, h.lt, fun i x hx => ?_⟩⟩
  cases i with
  | zero =>
    simp at hx
    subst hx
    refine ⟨[.slice a M.length c], fun j d hj => ?_, a, c, rfl, hM⟩
    simpa using h.at_ j (by simpa using hj)
  | succ i => simp at hx
theorem map_more {α β : Type} (f : α → β) {L : List α} {k : Nat} {x : α} (h : L[k]? = some x) : (L.take k).map f ++ [f x] = (L.take (k + 1)).map f := by rw [← take_more h, List.map_append]; rfl
theorem nodesR_small {L : List D_Node} (h : NodesR L) : L.length ≤ 4096 ∧ ∀ x ∈ L, x.2.length ≤ 1048576 := ⟨by have := h.1.2; omega, fun x hx => by have := (h.2 x hx).2.1; omega⟩
theorem rowsV_no {t : Int} {L : List D_Node} (h : nodesB L = false) : rowsV t L = [] := by unfold rowsV; rw [h]; rfl
theorem rowsV_yes {t : Int} {L : List D_Node} (h : nodesB L = true) : rowsV t L = L.map (rowOf t) := by unfold rowsV; rw [h]; rfl
end Go.Proofs.Ytfciojkibklkfaa.RepC
end
section
namespace Go.Proofs.Ytfciojkibklkfaa.RepC
open Go.RowKit RowC ValC SpanC KeptC
set_option linter.unusedVariables false
set_option linter.unusedSimpArgs false
theorem node_cells {W : World} {B : Nat} {L : List D_Node} {g o cap : Nat} (h : RdSl R_Node W B L (some ⟨g, o, none⟩) cap) : ∀ q, q ≤ L.length → ∃ cs : List Value, cs.length = q * 2 ∧ CellsAt W g o cs ∧ (∀ u ∈ cs, u.oneCell' = true) ∧
    ∀ i x, i < q → L[i]? = some x → ∃ a c, cs[i * 2]? = some (.int .i64 x.1) ∧ cs[i * 2 + 1]? = some (.slice a x.2.length c) ∧ RdSl R_Span W B x.2 a c := by
  intro q
  induction q with
  | zero => exact fun _ => ⟨[], rfl, CellsAt.nil, fun u hu => by simp at hu, fun i x hi => absurd hi (Nat.not_lt_zero _)⟩
  | succ q ih =>
    intro hq
    obtain ⟨cs, hl, hc, h1, he⟩ := ih (by omega)
    obtain ⟨x, hx⟩ := el_some (show q < L.length by omega)
    obtain ⟨g', o', us, e, _, hu, hr⟩ := h.at_ hx
    cases e
    obtain ⟨st, M⟩ := x
    obtain ⟨a, c, rfl, hM⟩ := rd_Node hr
    rw [size_NodeS] at hu
    refine ⟨cs ++ [.int .i64 st, .slice a M.length c], by simp [hl]; omega, CellsAt.app.2 ⟨hc, by rw [hl]; exact hu⟩, fun u hu => ?_, fun i y hi hy => ?_⟩
    · rcases List.mem_append.1 hu with h | h
      · exact h1 u h
      · simp at h; rcases h with rfl | rfl <;> rfl
    · by_cases e : i = q
      · subst e
        rw [hx] at hy
        cases hy
        refine ⟨a, c, ?_, ?_, hM⟩
        · rw [List.getElem?_append_right (by omega), hl, Nat.sub_self]; rfl
        · rw [List.getElem?_append_right (by omega), hl, show i * 2 + 1 - i * 2 = 1 by omega]; rfl
      · obtain ⟨a', c', h2, h3, h4⟩ := he i y (by omega) hy
        exact ⟨a', c', by rw [List.getElem?_append_left (by omega)]; exact h2, by rw [List.getElem?_append_left (by omega)]; exact h3, h4⟩
def CopR (L : List D_Node) (W : World) (e : Ending) (w' : World) : Prop := ∃ g c, e = .returned (.slice (some ⟨g, 0, none⟩) L.length c) ∧ L.length ≤ c ∧ c ≤ maxLen ∧ CopN W w' L g 0 noSf
theorem copR_elim {L : List D_Node} {W : World} {e : Ending} {w' : World} (h : CopR L W e w') : ∃ g c, e = .returned (.slice (some ⟨g, 0, none⟩) L.length c) ∧ L.length ≤ c ∧ c ≤ maxLen ∧ CopN W w' L g 0 noSf := h
theorem app_cells {W : World} {L : List D_Node} {a : Option Addr} {cap : Nat} (hn : L.length ≤ 4096) (h0 : 0 < L.length) (h : RdSl R_Node W W.heap.size L a cap) :
    ∃ g c w', (Builtin.append_ #[23, 23] 23 #[.slice (some ⟨W.heap.size, 0, none⟩) 0 0, .slice a L.length cap]).run Try.prog (W.alloc (.cells #[] 42)) = .ok (.slice (some ⟨g, 0, none⟩) L.length c) w' ∧ L.length ≤ c ∧ c ≤ maxLen ∧ CopN W w' L g 0 noSf := by
  obtain ⟨i, hi, hz, hs, hby⟩ := infoNode
  have hbel : Below W.heap.size W (W.alloc (.cells #[] 42)) := (Below.refl _ _).alloc (Nat.le_refl _) _
  obtain ⟨g, o, rfl, hg, _⟩ := h.2.2 h0
  obtain ⟨cs, hl, hc, h1, he⟩ := node_cells h L.length (Nat.le_refl _)
  obtain ⟨v', w', hrun, hown, hgr, _, hat⟩ := run_append_own_at (P := Try.prog) (W.alloc (.cells #[] 42)) W.heap.size 23 23 42 i _ 2 32 Try.underlying23 hi hz hs hby rfl (by decide) _ 0 [] (App.made R_Node W 42).own ⟨g, o, none⟩ L.length cap cs hl
    (fun j u hj => by
      have hadd : (⟨g, o, none⟩ : Addr).add j = ⟨g, o + j, none⟩ := by unfold Addr.add; split <;> simp_all
      rw [hadd]
      exact (hbel.cell (p := ⟨g, o + j, none⟩) hg).trans (hc j u hj)) h1 (by unfold maxLen; omega) (by omega) (by simp)
  rw [Nat.zero_add, List.nil_append] at hown
  have hb2 : Below W.heap.size W w' := hbel.trans (by
    refine ⟨hgr.os, hgr.tape, hgr.output, hgr.size, fun k hk => hgr.block k (by simp; omega) (fun e => by cases e; exact Nat.lt_irrefl _ hk)⟩)
  rcases hown.2 with ⟨hn0, hL0⟩ | ⟨g', cap', cur, rfl, hlo, hgg, hnc, hm, hcc, htk⟩
  · omega
  · have hgl : g' < w'.heap.size := (Array.getElem?_eq_some_iff.1 hgg).1
    have hcell : ∀ j u, cs[j]? = some u → w'.cell? ⟨g', j, none⟩ = some u := fun j u hj => by
      rw [← htk, List.getElem?_take] at hj
      split at hj
      · exact (cell_of_row w' g' j cur _ _ hgg).trans (by simpa using hj)
      · cases hj
    refine ⟨g', cap', w', hrun, hnc, hm, ⟨fun i x hx => ?_, fun j => by simp [World.frozen?, hgg], fun _ _ h => h.elim, fun _ _ _ _ h => h.elim, hlo, hgl, hb2⟩⟩
    obtain ⟨a, c, h2, h3, h4⟩ := he i x (el_lt hx) hx
    exact ⟨a, c, hcell _ _ h2, hcell _ _ h3, fun h => absurd h (Nat.not_lt_zero _), fun _ => h4.below R_Span_ok hb2⟩
set_option maxRecDepth 100000 in
set_option maxHeartbeats 1600000 in
theorem cloneN_impl {L : List D_Node} {a : Option Addr} {cap : Nat} {W : World} (hn : L.length ≤ 4096) (h0 : 0 < L.length) (h : RdSl R_Node W W.heap.size L a cap) :
    Calls Try.prog 91 #[.slice a L.length cap] W (CopR L W) := by
  obtain ⟨g, c, w', hrun, h1, h2, h3⟩ := app_cells hn h0 h
  obtain ⟨g0, o0, rfl, _⟩ := h.2.2 h0
  have HRun := Lib.hid hrun
  have HC := Lib.hid h3
  clear h hrun h3
  have hnil : ∀ W, (binOp .eql 23 (.slice (some ⟨g0, o0, none⟩) L.length cap) (.slice none 0 0)).run Try.prog W = .ok (.bool false) W := fun W => Lib.run_eql_slice_nil W _ _ _ _ _ _ _ Try.underlying23
  go_enter Try.func91, Try.ntmps91
  go_wp2_with (at_builtin; refine wpList_app rfl (.tmp 5) (.tmp 6) 23 rfl rfl rfl HRun.out ?_)
  go_ret
  exact ⟨g, c, rfl, h1, h2, HC.out⟩
set_option maxRecDepth 100000 in
set_option maxHeartbeats 3200000 in
theorem copy_impl {L : List D_Node} {a : Option Addr} {cap : Nat} {W : World} (hn : L.length ≤ 4096) (h0 : 0 < L.length) (hM : ∀ x ∈ L, x.2.length ≤ 1048576) (h : RdSl R_Node W W.heap.size L a cap) :
    Calls Try.prog 75 #[.slice a L.length cap] W (NewS R_Node L W) := by
  have hcl := cloneN_impl hn h0 h
  have HS := Lib.hid hM
  clear h hM
  go_enter Try.func75, Try.ntmps75
  go_wp2_with fail
  refine hcl.mono ?_
  intro e w0 h
  obtain ⟨g, c, rfl, hc1, hc2, hC⟩ := copR_elim h
  have HC0 := Lib.hid hC
  clear h hC hcl
  go_wp2
  go_loopw [10] (fun i wr => ∃ k : Nat, k ≤ L.length ∧ i = .int .i64 k ∧ ∃ Sf, Hid (CopN W wr L g k Sf)) (fun i _ => L.length - (intOf i).toNat)
  case atStart => exact ⟨0, Nat.zero_le _, rfl, _, HC0⟩
  case round =>
    obtain ⟨k, hk, rfl, Sf, HC⟩ := hrel
    by_cases hlt : k < L.length
    · obtain ⟨x, hx⟩ := el_some hlt
      have hxl := HS.out x (List.mem_of_getElem? hx)
      have hlt' := HC.out.lt
      obtain ⟨ba, bc, e0, e1, _, hr⟩ := HC.out.el k x hx
      have hr := (hr (Nat.le_refl _)).more R_Span_ok HC.out.below.size
      obtain ⟨st, M⟩ := x
      have hi0 : (0 : Int) ≤ (k : Int) := Int.natCast_nonneg _
      have hi1 : (k : Int) < (L.length : Int) := by omega
      obtain ⟨w1, hw1⟩ : ∃ w, w = wr.alloc (.cells #[.int .i64 st, .slice ba M.length bc] 42) := ⟨_, rfl⟩
      have hb1 : Below wr.heap.size wr w1 := by rw [hw1]; exact (Below.refl _ _).alloc (Nat.le_refl _) _
      have X1 : Blk w1 wr.heap.size 42 #[.int .i64 st, .slice ba M.length bc] := by rw [hw1]; exact Blk.new _ _ _
      have hs1 : w1.heap.size = wr.heap.size + 1 := by rw [hw1]; simp
      obtain ⟨w2, hw2⟩ : ∃ w, w = w1.alloc (.cells #[.slice ba M.length bc] 39) := ⟨_, rfl⟩
      have hb2 : Below w1.heap.size w1 w2 := by rw [hw2]; exact (Below.refl _ _).alloc (Nat.le_refl _) _
      have X2 : Blk w2 w1.heap.size 39 #[.slice ba M.length bc] := by rw [hw2]; exact Blk.new _ _ _
      have hb12 : Below wr.heap.size wr w2 := hb1.trans (hb2.mono (by omega))
      have hbk := books_impl (Ls := [M]) (by simpa using hxl) (rd_oneM X2 (mv_rd R_Span_ok hr hb12))
      rw [show ([M] : List (List D_Span)).flatten = M by simp, hs1] at hbk
      have HBK := Lib.hid hbk
      have HB12 := Lib.hid hb12
      have HX := Lib.hid hx
      have p0 := X1.at_ 0 rfl
      have p1 := X1.at_ 1 rfl
      rw [hw1] at p0 p1
      clear hbk hb1 hb2 hb12 X1 X2 hr hx hs1
      go_wp2_with fail
      rw [← hw1, ← hw2]
      clear p0 p1 hw1 hw2
      refine HBK.out.mono ?_
      intro e w3 h
      obtain ⟨a', c', rfl, ho, hb⟩ := newS_elim h
      have hz2 := HB12.out.size
      have hb3 : Below wr.heap.size wr w3 := HB12.out.trans (hb.mono hz2)
      have hput := HC.out.put HX.out hb3 (ho.more fun q hq => ⟨Nat.le_trans hz2 hq.1, hq.2⟩)
      have HP := Lib.hid hput
      have d1 : w3.cell? ⟨g, k * 2 + 1, none⟩ = some (.slice ba M.length bc) := (hb3.cell (p := ⟨g, k * 2 + 1, none⟩) hlt').trans e1
      have f1 : w3.frozen? ⟨g, k * 2 + 1, none⟩ = false := (hb3.frozen (p := ⟨g, k * 2 + 1, none⟩) hlt').trans (HC.out.soft _)
      clear h ho hb hb3 hput e0 e1
      go_wp2
      go_roundw
      case rel => exact ⟨k + 1, by omega, by go_num, _, HP⟩
      case measure => simp [intOf]; omega
    · have hdl : decide ((k : Int) < (L.length : Int)) = false := decide_eq_false (by omega)
      obtain rfl : k = L.length := by omega
      have HD := Lib.hid HC.out.done
      go_wp2
      go_ret
      exact ⟨_, _, rfl, HD.out.slice hc1 hc2, HC.out.below⟩
end Go.Proofs.Ytfciojkibklkfaa.RepC
end
section
namespace Go.Proofs.Ytfciojkibklkfaa.RepC
open Go.RowKit RowC ValC SpanC KeptC
set_option linter.unusedVariables false
set_option linter.unusedSimpArgs false
def mid {α : Type} (f : α → α) (L : List α) (k : Nat) : List α := (L.take k).map f ++ L.drop k
theorem mid_at {α : Type} {f : α → α} {L : List α} {k : Nat} {x : α} (h : L[k]? = some x) : (mid f L k)[k]? = some x := by
  have hk := el_lt h
  unfold mid
  rw [List.getElem?_append_right (by simp; omega), List.length_map, List.length_take, show k - min k L.length = 0 by omega, List.getElem?_drop, Nat.add_zero, h]
theorem mid_set {α : Type} {f : α → α} {L : List α} {k : Nat} {x : α} (h : L[k]? = some x) : (mid f L k).set k (f x) = mid f L (k + 1) := by
  obtain ⟨hk, hx⟩ := List.getElem?_eq_some_iff.1 h
  unfold mid
  rw [List.set_append_right _ _ (by simp; omega), List.length_map, List.length_take, show k - min k L.length = 0 by omega, List.drop_eq_getElem_cons hk, List.set_cons_zero, ← map_more f h, List.append_assoc]
  rfl
theorem mid_zero {α : Type} {f : α → α} {L : List α} : mid f L 0 = L := by simp [mid]
theorem mid_end {α : Type} {f : α → α} {L : List α} : mid f L L.length = L.map f := by simp [mid]
theorem passV_no {L : List D_Node} {now : Int} (h : nodesB L = false) : passV L now = [] := by unfold passV; rw [h]; rfl
theorem passV_yes {L : List D_Node} {now : Int} (h : nodesB L = true) : passV L now = L.map (passN now) := by unfold passV; rw [h]; rfl
theorem pass_pred (bx : Nat) (now : Int) : PredS 77 bx (.int .i64 now) (fun x => decide (x.2 ≤ now)) := fun w x0 x1 h => by
  have hbl := World.block_lt_of_cell? w ⟨bx, 0, none⟩ h
  have hne : bx ≠ w.heap.size := by have : bx < w.heap.size := hbl; omega
  have h2 : (w.alloc (.cells #[.int .i64 x0, .int .i64 x1] 25)).cell? ⟨bx, 0, none⟩ = some (.int .i64 now) := (((Below.refl _ w).alloc (Nat.le_refl _) _).cell (p := ⟨bx, 0, none⟩) hbl).trans h
  go_enter Try.func77, Try.ntmps77
  go_wp2
  go_ret
  exact ⟨rfl, (Below.refl _ _).alloc (Nat.le_refl _) _⟩
theorem pass_filter (M : List D_Span) (now : Int) : M.filter (fun y => !decide (y.2 ≤ now)) = M.filter (fun s => decide (now < s.2)) := by
  congr 1
  funext y
  by_cases h : y.2 ≤ now
  · have h' : ¬ now < y.2 := by omega
    simp [h, h']
  · have h' : now < y.2 := by omega
    simp [h, h']
set_option maxRecDepth 100000 in
set_option maxHeartbeats 3200000 in
theorem pass_impl {L : List D_Node} {now : Int} {a : Option Addr} {cap : Nat} {W : World} (h : RdSl R_Node W W.heap.size L a cap) :
    Calls Try.prog 24 #[.slice a L.length cap, .int .i64 now] W (NewS R_Node (passV L now) W) := by
  obtain ⟨w0, hw0⟩ : ∃ w, w = W.alloc (.cells #[.int .i64 now] 2) := ⟨_, rfl⟩
  have hb0 : Below W.heap.size W w0 := by rw [hw0]; exact (Below.refl _ _).alloc (Nat.le_refl _) _
  have X0 := Lib.hid (show Blk w0 W.heap.size 2 #[.int .i64 now] from by rw [hw0]; exact Blk.new _ _ _)
  have H0 := Lib.hid (mv_rd R_Node_ok h hb0)
  have HB0 := Lib.hid hb0
  have hz0 := hb0.size
  obtain ⟨z, hz⟩ : ∃ z, nodesB L = z := ⟨_, rfl⟩
  have hs := nodes_impl H0.out
  rw [hz] at hs
  have HZ := Lib.hid hz
  clear h hz hb0
  have hmf : ∀ (fn : Fn) (first cap : Array Value) (w : World), (Instr.makeFunc fn first cap).run Try.prog w = .ok (.func fn first cap) w := fun _ _ _ _ => rfl
  have eg : ∀ args w, (callFunc 77 args).run Try.prog w = .ok (.enter 77 args) w := enters_of Try.func77 (by kernel_rfl) rfl
  have HEG := Lib.hid eg
  clear eg
  go_enter Try.func24, Try.ntmps24
  go_wp2_with fail
  rw [← hw0]
  clear hw0
  refine hs.mono ?_
  intro e w1 h
  obtain ⟨rfl, hb⟩ := isB_elim h
  have H := Lib.hid (mv_rd R_Node_ok H0.out hb)
  have X1 := Lib.hid (X0.out.call hb)
  have HB1 := Lib.hid (HB0.out.trans (hb.mono hz0))
  clear h hb hs
  cases z with
  | false =>
    go_wp2
    go_ret
    rw [passV_no HZ.out]
    exact ⟨_, _, rfl, ⟨Nat.le_refl _, by unfold maxLen; omega, fun h => absurd h (Nat.lt_irrefl _)⟩, HB1.out⟩
  | true =>
  have hN := nodesB_iff.1 HZ.out
  have hsm := nodesR_small hN
  have hL1 := hN.1.1
  have hL6 := hN.1.2
  clear hN
  go_wp2_with fail
  refine (copy_impl hsm.1 (by omega) hsm.2 H.out).mono ?_
  intro e w2 h
  obtain ⟨a', c', rfl, ho, hb⟩ := newS_elim h
  obtain ⟨g, Sf, rfl, hrow⟩ := ho.row (by omega)
  have hc1 := ho.1
  have hc2 := ho.2.1
  have HR0 := Lib.hid (show Row R_Node w2 (Rg w1.heap.size w2.heap.size) (mid (passN now) L 0) g Sf from by rw [mid_zero]; exact hrow)
  have HB2 := Lib.hid (HB1.out.trans (hb.mono HB1.out.size))
  have X2 := Lib.hid (X1.out.call hb)
  have HX1 := Lib.hid (show W.heap.size < w1.heap.size from X1.out.lt)
  clear h ho hb hrow hsm
  go_wp2
  go_loopw [15] (fun i wr => ∃ k : Nat, k ≤ L.length ∧ i = .int .i64 k ∧ Hid (Row R_Node wr (Rg w1.heap.size w2.heap.size) (mid (passN now) L k) g Sf) ∧ Hid (Off (Rg w1.heap.size w2.heap.size) w2 wr)) (fun i _ => L.length - (intOf i).toNat)
  case atStart => exact ⟨0, Nat.zero_le _, rfl, HR0, Lib.hid (Off.refl _ _)⟩
  case round =>
    obtain ⟨k, hk, rfl, HR, HO⟩ := hrel
    have hsz := HO.out.size
    by_cases hlt : k < L.length
    · obtain ⟨x, hx⟩ := el_some hlt
      obtain ⟨us, hu, hr⟩ := HR.out.el k x (mid_at hx)
      obtain ⟨st, M⟩ := x
      obtain ⟨ba, bc, T0, rfl, hT0, hM⟩ := ow_Node hr
      rw [size_NodeS] at hu
      have hgl : g < wr.heap.size := Nat.lt_of_lt_of_le HR.out.own.2 hsz
      have e0 : wr.cell? ⟨g, k * 2, none⟩ = some (.int .i64 st) := by simpa using hu 0 _ rfl
      have e1 : wr.cell? ⟨g, k * 2 + 1, none⟩ = some (.slice ba M.length bc) := hu 1 _ rfl
      have hi0 : (0 : Int) ≤ (k : Int) := Int.natCast_nonneg _
      have hi1 : (k : Int) < (L.length : Int) := by omega
      obtain ⟨w3, hw3⟩ : ∃ w, w = wr.alloc (.cells #[.int .i64 st, .slice ba M.length bc] 42) := ⟨_, rfl⟩
      have hb3 : Below wr.heap.size wr w3 := by rw [hw3]; exact (Below.refl _ _).alloc (Nat.le_refl _) _
      have X3 : Blk w3 wr.heap.size 42 #[.int .i64 st, .slice ba M.length bc] := by rw [hw3]; exact Blk.new _ _ _
      have hTS : ∀ q, T0 q → w1.heap.size ≤ q ∧ q < wr.heap.size ∧ q ≠ g := fun q hq => by
        have h1 := HR.out.sub k q (hT0 q hq)
        exact ⟨h1.1.1, Nat.lt_of_lt_of_le h1.1.2 hsz, h1.2⟩
      have hbw : w3.cell? ⟨W.heap.size, 0, none⟩ = some (.int .i64 now) := by
        have h1 := X2.out.at_ 0 rfl
        have h2 : wr.cell? ⟨W.heap.size, 0, none⟩ = some (.int .i64 now) := (World.cell?_of_block (a := ⟨W.heap.size, 0, none⟩) (HO.out.block _ X2.out.lt (fun h => by have h9 : w1.heap.size ≤ W.heap.size := h.1; have := HX1.out; omega))).trans h1
        exact (hb3.cell (p := ⟨W.heap.size, 0, none⟩) (show W.heap.size < wr.heap.size by have := X2.out.lt; omega)).trans h2
      have hdel := delf_spans (S := T0) HEG.out (pass_pred W.heap.size now) hbw (by have := X2.out.lt; have := hb3.size; omega) (fun h => by have := (hTS _ h).1; have := HX1.out; omega) (fun q hq => Nat.lt_of_lt_of_le (hTS q hq).2.1 hb3.size) (hM.keep R_Span_ok fun q hq => hb3.block q (hTS q hq).2.1)
      have HDEL := Lib.hid hdel
      have HB3 := Lib.hid hb3
      have HT0 := Lib.hid hT0
      have HTS := Lib.hid hTS
      have HX := Lib.hid hx
      have p0 := X3.at_ 0 rfl
      have p1 := X3.at_ 1 rfl
      rw [hw3] at p0 p1
      clear hdel hb3 X3 hTS hT0 hx hM hu hr hbw
      go_wp2_with fail
      rw [← hw3]
      clear p0 p1 hw3
      refine HDEL.out.mono ?_
      intro e w4 h
      obtain ⟨rfl, ho, hof⟩ := delR_elim h
      rw [pass_filter] at ho ⊢
      have hz3 := HB3.out.size
      have hz4 := hof.size
      have d0 : w4.cell? ⟨g, k * 2, none⟩ = some (.int .i64 st) := (World.cell?_of_block (a := ⟨g, k * 2, none⟩) (hof.block g (by omega) (fun h => (HTS.out g h).2.2 rfl))).trans ((HB3.out.cell (p := ⟨g, k * 2, none⟩) hgl).trans e0)
      have d1 : w4.cell? ⟨g, k * 2 + 1, none⟩ = some (.slice ba M.length bc) := (World.cell?_of_block (a := ⟨g, k * 2 + 1, none⟩) (hof.block g (by omega) (fun h => (HTS.out g h).2.2 rfl))).trans ((HB3.out.cell (p := ⟨g, k * 2 + 1, none⟩) hgl).trans e1)
      have f1 : w4.frozen? ⟨g, k * 2 + 1, none⟩ = false := (World.frozen?_of_block (a := ⟨g, k * 2 + 1, none⟩) (hof.block g (by omega) (fun h => (HTS.out g h).2.2 rfl))).trans ((HB3.out.frozen (p := ⟨g, k * 2 + 1, none⟩) hgl).trans (HR.out.soft _))
      obtain ⟨w5, hw5⟩ : ∃ w, w = w4.setCell ⟨g, k * 2 + 1, none⟩ (.slice ba (M.filter fun s => decide (now < s.2)).length bc) := ⟨_, rfl⟩
      have hset : ∀ q, q ≠ g → w5.heap[q]? = w4.heap[q]? := fun q hq => by rw [hw5]; exact Below.heap_setCell w4 ⟨g, k * 2 + 1, none⟩ _ q hq
      have hU : Upd wr w5 g (k * 2) ((k + 1) * 2) (Sf k) := by
        refine ((Upd.below (T := Sf k) HB3.out hgl).trans (Upd.off (T := Sf k) (hof.more HT0.out) (by omega) (fun h => (HR.out.sub k g h).2 rfl))).trans ?_
        rw [hw5]
        exact Upd.set _ _ ⟨by omega, by omega⟩ _
      have hrow := HR.out.set R_Node_ok (fun q hq => Nat.lt_of_lt_of_le hq.2 hsz) (x := passN now (st, M)) (us := [.int .i64 st, .slice ba (M.filter fun s => decide (now < s.2)).length bc]) (by rw [size_NodeS]; exact hU) (fun j d hd => by
        rw [size_NodeS, hw5]
        match j, hd with
        | 0, hd => simp at hd; subst hd; rw [Nat.add_zero, World.cell?_setCell_other _ _ _ _ (fun e => by injection e with _ e2; omega)]; exact d0
        | 1, hd => simp at hd; subst hd; exact World.cell?_setCell_same _ _ _ d1
        | j + 2, hd => simp at hd) (mkow_Node HT0.out (ho.keep R_Span_ok fun q hq => hset q (HTS.out q hq).2.2))
      rw [mid_set HX.out] at hrow
      have HR5 := Lib.hid hrow
      have HO5 := Lib.hid (show Off (Rg w1.heap.size w2.heap.size) w2 w5 from by
        rw [hw5]
        refine ((HO.out.of_below HB3.out).trans (hof.more fun q hq => (HR.out.sub k q (HT0.out q hq)).1)).setCell (p := ⟨g, k * 2 + 1, none⟩) HR.out.own _)
      rw [hw5] at HR5 HO5
      clear h ho hof hset hU hrow hw5 e0 e1 d0
      go_wp2
      go_roundw
      case rel => exact ⟨k + 1, by omega, by go_num, HR5, HO5⟩
      case measure => simp [intOf]; omega
    · have hdl : decide ((k : Int) < (L.length : Int)) = false := decide_eq_false (by omega)
      obtain rfl : k = L.length := by omega
      go_wp2
      go_ret
      rw [passV_yes HZ.out]
      have hrow := HR.out
      rw [mid_end] at hrow
      refine ⟨some ⟨g, 0, none⟩, c', by rw [List.length_map]; rfl, (hrow.slice (by rw [List.length_map]; exact hc1) hc2).more fun q hq => ⟨Nat.le_trans HB1.out.size hq.1, Nat.lt_of_lt_of_le hq.2 hsz⟩, HB2.out.trans (HO.out.below HB2.out.size fun q hq => Nat.le_trans HB1.out.size hq.1)⟩
end Go.Proofs.Ytfciojkibklkfaa.RepC
end
section
namespace Go.Proofs.Ytfciojkibklkfaa.SpanC
open Go.RowKit KeptC RowC ValC
set_option linter.unusedVariables false
set_option linter.unusedSimpArgs false
set_option maxRecDepth 100000 in
set_option maxHeartbeats 6400000 in
theorem put2_bad (ad : Addr) (qc : Nat) (f : Nat → Int × Int) (a b : Int) (w : World) (hF : FreeB 0 f a b) :
    Calls Try.prog 61 #[.slice (some ad) 0 qc, .agg #[.int .i64 a, .int .i64 b]] w (ResRow (fun m h => m = 0 + 1 ∧ ∃ p, PlaceP 0 f a p ∧ ∀ i, i < 0 + 1 → h i = insF f p (a, b) i) w) := by
  by_cases hq0 : qc = 0
  · subst hq0
    have HFr := Lib.hid hF
    clear hF
    go_enter Try.func61, Try.ntmps61
    go_wp2
    go_loopw [5] (fun i wr => i = .int .i64 0 ∧ Below (w.heap.size + 1) (w.alloc (.cells #[.int .i64 a, .int .i64 b] 25)) wr) (fun i _ => 0)
    case atStart => exact ⟨rfl, by simpa using Below.refl _ _⟩
    case round =>
      obtain ⟨rfl, hb⟩ := hrel
      have HB := Lib.hid hb
      have ⟨hx0, hx1, hxl⟩ := box0 hb
      have hsz : w.heap.size + 1 ≤ wr.heap.size := hxl
      have HP := Lib.hid (place_from HFr.out (Nat.le_refl 0) (fun j h => absurd h (Nat.not_lt_zero _)) (fun h => absurd h (Nat.lt_irrefl _)))
      clear hb
      go_wp2_with fail
      refine wp_region_held_drew (S := (fun W => W.cell? ⟨w.heap.size, 0, none⟩ = some (.int .i64 a) ∧ W.cell? ⟨w.heap.size, 1, none⟩ = some (.int .i64 b) ∧ wr.heap.size ≤ W.heap.size ∧ Below (w.heap.size + 1) (w.alloc (.cells #[.int .i64 a, .int .i64 b] 25)) W)) (by kernel_rfl) (⟨hx0, hx1, Nat.le_refl _, HB.out.drew⟩) (fun hHeld => ?_)
      refine tk 0 hHeld ?_
      refine tk 1 hHeld ?_
      refine tk 2 hHeld ?_
      refine tk 3 hHeld ?_
      refine tk 4 hHeld ?_
      refine tn 5 hHeld ?_
      refine tn 6 hHeld ?_
      refine tn 7 hHeld ?_
      refine tn 8 hHeld ?_
      refine tn 9 hHeld ?_
      refine tn 10 hHeld ?_
      refine tn 11 hHeld ?_
      refine tn 12 hHeld ?_
      refine tk 13 hHeld ?_
      refine rd0 ?_
      have HF := Lib.hid hHeld.2.2.2
      clear hHeld
      have hbD : Below w.heap.size w wr := bel1 HB.out
      obtain ⟨W2, hW2e⟩ : ∃ W2, W2 = (wr.alloc (.cells #[] 25)).drew := ⟨_, rfl⟩
      have hmade : RowS W2 wr.heap.size (.slice (some ⟨wr.heap.size, 0, none⟩) 0 0) 0 f := by rw [hW2e]; exact RowO.made0 wr.drew wr.heap.size _ 2 (pc f) (Nat.le_refl _)
      have hr2 : ∀ W, (Builtin.append_ #[39, 39] 39 #[.slice (some ⟨wr.heap.size, 0, none⟩) 0 0, .slice (some ad) 0 0]).run Try.prog W = .ok (.slice (some ⟨wr.heap.size, 0, none⟩) 0 0) W := fun W => app_none Try.underlying39 infoS.choose_spec.1 _ _ 0 0 0 (Nat.le_refl _)
      have hW2 : Below wr.heap.size wr W2 := by rw [hW2e]; exact ((Below.refl wr.heap.size wr).alloc (Nat.le_refl _) _).drew
      have HR2 := Lib.hid hr2
      have hl2 : wr.heap.size ≤ W2.heap.size := hW2.size
      have ⟨hy0, hy1, hyl⟩ := box0 (HB.out.trans (hW2.mono hsz))
      have hrow2 := hmade.alloc (.cells #[.int .i64 a, .int .i64 b] 25)
      obtain ⟨v3, W4, hr4, hown4, hbel4, hg4, hat4⟩ := app_sp (W2.alloc (.cells #[.int .i64 a, .int .i64 b] 25)) wr.heap.size 39 39 Try.underlying39 hrow2 (m := 1) 1 one_row (by omega) (by simp; omega)
      obtain ⟨a4, c4, rfl⟩ := hown4.isSlice
      have HR4 := Lib.hid hr4
      have hW4 : Below wr.heap.size wr W4 := (hW2.alloc hl2 _).trans hbel4
      have hr6 : ∀ W, (Builtin.append_ #[39, 39] 39 #[.slice a4 (0 + 1) c4, .slice (some ad) 0 0]).run Try.prog W = .ok (.slice a4 (0 + 1) c4) W := fun W => app_none Try.underlying39 infoS.choose_spec.1 _ _ (0 + 1) c4 0 (rowO_cap_le hown4)
      have HR6 := Lib.hid hr6
      have HY := Lib.hid (show ResRow (fun m h => m = 0 + 1 ∧ ∃ p, PlaceP 0 f a p ∧ ∀ i, i < 0 + 1 → h i = insF f p (a, b) i) w (.returned (.slice a4 (0 + 1) c4)) W4 from ⟨_, 0 + 1, _, rfl, ⟨by omega, 0, HP.out, ins0⟩, hown4.lower (by omega), hbD.trans (hW4.mono (by omega))⟩)
      clear hmade hr2 hrow2 hown4 hbel4 hg4 hat4 hr4 hr6 hW2 hW4 hbD HF
      go_wp2_with (first | (at_builtin; refine wpList_app rfl (.tmp 23) (.tmp 26) 39 rfl rfl rfl (HR2.out _) ?_; rw [← hW2e]; clear hW2e) | (at_builtin; refine wpList_app rfl (.tmp 28) (.tmp 30) 39 rfl rfl rfl HR4.out ?_) | (at_builtin; refine wpList_app rfl (.tmp 32) (.tmp 35) 39 rfl rfl rfl (HR6.out _) ?_))
      go_ret
      exact HY.out
  · have hq1 : ¬ 0 = qc := fun e => hq0 e.symm
    have HFr := Lib.hid hF
    clear hF
    go_enter Try.func61, Try.ntmps61
    go_wp2
    go_loopw [5] (fun i wr => i = .int .i64 0 ∧ Below (w.heap.size + 1) (w.alloc (.cells #[.int .i64 a, .int .i64 b] 25)) wr) (fun i _ => 0)
    case atStart => exact ⟨rfl, by simpa using Below.refl _ _⟩
    case round =>
      obtain ⟨rfl, hb⟩ := hrel
      have HB := Lib.hid hb
      have ⟨hx0, hx1, hxl⟩ := box0 hb
      have hsz : w.heap.size + 1 ≤ wr.heap.size := hxl
      have HP := Lib.hid (place_from HFr.out (Nat.le_refl 0) (fun j h => absurd h (Nat.not_lt_zero _)) (fun h => absurd h (Nat.lt_irrefl _)))
      clear hb
      go_wp2_with fail
      refine wp_region_held_drew (S := (fun W => W.cell? ⟨w.heap.size, 0, none⟩ = some (.int .i64 a) ∧ W.cell? ⟨w.heap.size, 1, none⟩ = some (.int .i64 b) ∧ wr.heap.size ≤ W.heap.size ∧ Below (w.heap.size + 1) (w.alloc (.cells #[.int .i64 a, .int .i64 b] 25)) W)) (by kernel_rfl) (⟨hx0, hx1, Nat.le_refl _, HB.out.drew⟩) (fun hHeld => ?_)
      refine tk 0 hHeld ?_
      refine tk 1 hHeld ?_
      refine tk 2 hHeld ?_
      refine tk 3 hHeld ?_
      refine tk 4 hHeld ?_
      refine tn 5 hHeld ?_
      refine tn 6 hHeld ?_
      refine tn 7 hHeld ?_
      refine tn 8 hHeld ?_
      refine tn 9 hHeld ?_
      refine tn 10 hHeld ?_
      refine tn 11 hHeld ?_
      refine tn 12 hHeld ?_
      refine tk 13 hHeld ?_
      refine rd0 ?_
      have HF := Lib.hid hHeld.2.2.2
      clear hHeld
      have hbD : Below w.heap.size w wr := bel1 HB.out
      obtain ⟨W2, hW2e⟩ : ∃ W2, W2 = (wr.alloc (.cells #[] 25)).drew := ⟨_, rfl⟩
      have hmade : RowS W2 wr.heap.size (.slice (some ⟨wr.heap.size, 0, none⟩) 0 0) 0 f := by rw [hW2e]; exact RowO.made0 wr.drew wr.heap.size _ 2 (pc f) (Nat.le_refl _)
      have hr2 : ∀ W, (Builtin.append_ #[39, 39] 39 #[.slice (some ⟨wr.heap.size, 0, none⟩) 0 0, .slice (some ad) 0 qc]).run Try.prog W = .ok (.slice (some ⟨wr.heap.size, 0, none⟩) 0 0) W := fun W => app_none Try.underlying39 infoS.choose_spec.1 _ _ 0 0 qc (Nat.le_refl _)
      have hW2 : Below wr.heap.size wr W2 := by rw [hW2e]; exact ((Below.refl wr.heap.size wr).alloc (Nat.le_refl _) _).drew
      have HR2 := Lib.hid hr2
      have hl2 : wr.heap.size ≤ W2.heap.size := hW2.size
      have ⟨hy0, hy1, hyl⟩ := box0 (HB.out.trans (hW2.mono hsz))
      have hrow2 := hmade.alloc (.cells #[.int .i64 a, .int .i64 b] 25)
      obtain ⟨v3, W4, hr4, hown4, hbel4, hg4, hat4⟩ := app_sp (W2.alloc (.cells #[.int .i64 a, .int .i64 b] 25)) wr.heap.size 39 39 Try.underlying39 hrow2 (m := 1) 1 one_row (by omega) (by simp; omega)
      obtain ⟨a4, c4, rfl⟩ := hown4.isSlice
      have HR4 := Lib.hid hr4
      have hW4 : Below wr.heap.size wr W4 := (hW2.alloc hl2 _).trans hbel4
      have hr6 : ∀ W, (Builtin.append_ #[39, 39] 39 #[.slice a4 (0 + 1) c4, .slice (some ad) 0 qc]).run Try.prog W = .ok (.slice a4 (0 + 1) c4) W := fun W => app_none Try.underlying39 infoS.choose_spec.1 _ _ (0 + 1) c4 qc (rowO_cap_le hown4)
      have HR6 := Lib.hid hr6
      have HY := Lib.hid (show ResRow (fun m h => m = 0 + 1 ∧ ∃ p, PlaceP 0 f a p ∧ ∀ i, i < 0 + 1 → h i = insF f p (a, b) i) w (.returned (.slice a4 (0 + 1) c4)) W4 from ⟨_, 0 + 1, _, rfl, ⟨by omega, 0, HP.out, ins0⟩, hown4.lower (by omega), hbD.trans (hW4.mono (by omega))⟩)
      clear hmade hr2 hrow2 hown4 hbel4 hg4 hat4 hr4 hr6 hW2 hW4 hbD HF
      go_wp2_with (first | (at_builtin; refine wpList_app rfl (.tmp 23) (.tmp 26) 39 rfl rfl rfl (HR2.out _) ?_; rw [← hW2e]; clear hW2e) | (at_builtin; refine wpList_app rfl (.tmp 28) (.tmp 30) 39 rfl rfl rfl HR4.out ?_) | (at_builtin; refine wpList_app rfl (.tmp 32) (.tmp 35) 39 rfl rfl rfl (HR6.out _) ?_))
      go_ret
      exact HY.out
end Go.Proofs.Ytfciojkibklkfaa.SpanC
namespace Go.Proofs.Ytfciojkibklkfaa.RepC
open Go.RowKit RowC ValC SpanC KeptC
set_option linter.unusedVariables false
set_option linter.unusedSimpArgs false
theorem flat_cl (h : Nat → Int × Int) : ∀ n : Nat, ((List.range n).map h).flatMap (fun x => [Value.int .i64 x.1, Value.int .i64 x.2]) = cl (pc h) (n * 2)
  | 0 => rfl
  | n + 1 => by
    have ih := flat_cl h n
    rw [List.range_succ, List.map_append, List.flatMap_append, ih]
    unfold cl
    rw [show (n + 1) * 2 = n * 2 + 1 + 1 by omega, List.range_succ, List.range_succ, List.map_append, List.map_append]
    simp [pc_even, pc_odd]
theorem rowS_x {w : World} {lo n : Nat} {v : Value} {h : Nat → Int × Int} (hr : RowS w lo v n h) : XRow w lo v ((List.range n).map h) := by
  refine ⟨?_, fun k hk => ?_⟩
  · rw [flat_cl]
    have e : ((List.range n).map h).length = n := by simp
    rw [e]
    exact hr
  · rcases hr.2 with ⟨rfl, _⟩ | ⟨g, cap, cur, rfl, hlo, hg, _⟩
    · cases hk
    · cases hk
      exact ⟨hlo, (Array.getElem?_eq_some_iff.1 hg).1⟩
theorem pN_range {x : D_Span} {now : Int} {d : D_Node} (h : (decide (x.1 ≤ now) || decide (now + 40 < x.2)) = true) : putN x now d = (8, d) := by unfold putN; rw [if_pos h]
theorem pN_there {x : D_Span} {now : Int} {d : D_Node} (h : (decide (x.1 ≤ now) || decide (now + 40 < x.2)) = false) (h2 : ¬ FreeP d.2.length (gt d.2) x.1 x.2) : putN x now d = (7, d) := by unfold putN; rw [if_neg (by rw [h]; decide), if_pos h2]
theorem pN_full {x : D_Span} {now : Int} {d : D_Node} (h : (decide (x.1 ≤ now) || decide (now + 40 < x.2)) = false) (h2 : FreeP d.2.length (gt d.2) x.1 x.2) (h3 : d.2.length = 4) : putN x now d = (9, d) := by unfold putN; rw [if_neg (by rw [h]; decide), if_neg (fun h => h h2), if_pos h3]
theorem pN_yes {x : D_Span} {now : Int} {d : D_Node} (h : (decide (x.1 ≤ now) || decide (now + 40 < x.2)) = false) (h2 : FreeP d.2.length (gt d.2) x.1 x.2) (h3 : ¬ d.2.length = 4) : putN x now d = (0, (d.1, putL d.2 x)) := by unfold putN; rw [if_neg (by rw [h]; decide), if_neg (fun h => h h2), if_neg h3]
def PutX (M : List D_Span) (x : D_Span) (w : World) (e : Ending) (w' : World) : Prop := ∃ v, e = .returned v ∧ XRow w' w.heap.size v (putL M x) ∧ Below w.heap.size w w'
theorem putX_elim {M : List D_Span} {x : D_Span} {w : World} {e : Ending} {w' : World} (h : PutX M x w e w') : ∃ v, e = .returned v ∧ XRow w' w.heap.size v (putL M x) ∧ Below w.heap.size w w' := h
theorem put_any {M : List D_Span} {ba : Option Addr} {bc : Nat} {a b : Int} {w : World} (hn : M.length ≤ 1048576) (h : RdSl R_Span w w.heap.size M ba bc) (hF : FreeB M.length (gt M) a b) :
    Calls Try.prog 61 #[.slice ba M.length bc, .agg #[.int .i64 a, .int .i64 b]] w (PutX M (a, b) w) := by
  have key : Calls Try.prog 61 #[.slice ba M.length bc, .agg #[.int .i64 a, .int .i64 b]] w (ResRow (fun m h => m = M.length + 1 ∧ ∃ p, PlaceP M.length (gt M) a p ∧ ∀ i, i < M.length + 1 → h i = insF (gt M) p (a, b) i) w) := by
    by_cases h0 : M.length = 0
    · rw [h0] at hF ⊢
      cases ba with
      | none => exact put2_none bc (gt M) a b w hF
      | some ad => exact put2_bad ad bc (gt M) a b w hF
    · obtain ⟨g, o, rfl, hg, _⟩ := h.2.2 (by omega)
      exact put2_spec _ _ _ _ a b w hn (.inr ⟨g, o, rfl, hg, h.1, PA.row (pa_of h (Nat.le_refl _))⟩) hF
  refine key.mono fun e w' hh => ?_
  obtain ⟨v, m, f, rfl, ⟨rfl, p, hp, hf⟩, hr, hb⟩ := resRow_elim hh
  have hx := rowS_x hr
  rw [ins_list hp.1 hf, ← putL_eq (x := (a, b)) hp] at hx
  exact ⟨v, rfl, hx, hb⟩
end Go.Proofs.Ytfciojkibklkfaa.RepC
end
section
namespace Go.Proofs.Ytfciojkibklkfaa.RepC
open Go.RowKit RowC ValC SpanC KeptC
set_option linter.unusedVariables false
set_option linter.unusedSimpArgs false
def ChgR (wq : World) (S : Nat → Prop) (chg : D_Node → Int × D_Node) (M : List D_Node) (g k : Nat) (x : D_Node) (e : Ending) (w' : World) : Prop :=
  e = .returned (.int .i64 (chg x).1) ∧ Off S wq w' ∧ ((chg x).1 = 0 → ∃ S' Sf', Row R_Node w' S' (M.set k (chg x).2) g Sf' ∧ ∀ q, S' q → (S q ∨ wq.heap.size ≤ q) ∧ q < w'.heap.size)
theorem chgR_elim {wq : World} {S : Nat → Prop} {chg : D_Node → Int × D_Node} {M : List D_Node} {g k : Nat} {x : D_Node} {e : Ending} {w' : World} (h : ChgR wq S chg M g k x e w') : e = .returned (.int .i64 (chg x).1) ∧ Off S wq w' ∧ ((chg x).1 = 0 → ∃ S' Sf', Row R_Node w' S' (M.set k (chg x).2) g Sf' ∧ ∀ q, S' q → (S q ∨ wq.heap.size ≤ q) ∧ q < w'.heap.size) := h
def ChgF (F : Nat) (lb : Array Value) (chg : D_Node → Int × D_Node) (W : World) : Prop :=
  ∀ (wq : World) (S : Nat → Prop) (M : List D_Node) (g k : Nat) (Sf : Nat → Nat → Prop) (x : D_Node), Row R_Node wq S M g Sf → (∀ q, S q → q < wq.heap.size) → (∀ q, S q → W.heap.size ≤ q) → Below W.heap.size W wq → M[k]? = some x → okN x →
    Calls Try.prog F (#[.pointer (some ⟨g, k * 2, none⟩)] ++ lb) wq (ChgR wq S chg M g k x)
theorem out_ill {W w' : World} {c : Int} (hb : Below W.heap.size W w') : NewV R_NodesOut ([], c) W (.returned (.agg #[.slice none 0 0, .int .i64 c])) w' :=
  ⟨[.slice none 0 0, .int .i64 c], rfl, mkow_NodesOut (T0 := fun _ => False) (L0 := []) (fun k h => h.elim) ⟨Nat.le_refl _, Nat.zero_le _, fun h => absurd h (Nat.lt_irrefl _)⟩, hb⟩
theorem chgV_size {L : List D_Node} {n : Int} {ok : Bool} {chg : D_Node → Int × D_Node} (h : 400 < L.length) : chgV L n ok chg = ([], 2) := by unfold chgV; rw [if_pos h]
theorem chgV_form {L : List D_Node} {n : Int} {ok : Bool} {chg : D_Node → Int × D_Node} (h : ¬ 400 < L.length) (h2 : (nodesB L && ok) = false) : chgV L n ok chg = ([], 1) := by unfold chgV; rw [if_neg h, if_pos h2]
theorem chgV_none {L : List D_Node} {n : Int} {ok : Bool} {chg : D_Node → Int × D_Node} (h : ¬ 400 < L.length) (h2 : (nodesB L && ok) = true) (h3 : isB n 0 ((L.length : Int) - 1) = false) : chgV L n ok chg = ([], 6) := by unfold chgV; rw [if_neg h, if_neg (by rw [h2]; decide), if_pos h3]
theorem chgV_at {L : List D_Node} {m : Nat} {ok : Bool} {chg : D_Node → Int × D_Node} {x : D_Node} (h : ¬ 400 < L.length) (h2 : (nodesB L && ok) = true) (hx : L[m]? = some x) : chgV L m ok chg = if (chg x).1 = 0 then (L.set m (chg x).2, 0) else ([], (chg x).1) := by
  have hm := el_lt hx
  have h3 : isB (m : Int) 0 ((L.length : Int) - 1) = true := (isB_iff _ _ _).2 ⟨by omega, by omega⟩
  unfold chgV
  rw [if_neg h, if_neg (by rw [h2]; decide), if_neg (by rw [h3]; decide), Int.toNat_natCast, hx]
set_option maxRecDepth 100000 in
set_option maxHeartbeats 3200000 in
theorem change_impl {F : Nat} {lb : Array Value} {chg : D_Node → Int × D_Node} (eg : ∀ args w, (callFunc F args).run Try.prog w = .ok (.enter F args) w) {L : List D_Node} {n : Int} {ok : Bool} {a : Option Addr} {cap : Nat} {W : World} (h : RdSl R_Node W W.heap.size L a cap) (hF : ChgF F lb chg W) :
    Calls Try.prog 49 #[.slice a L.length cap, .int .i64 n, .bool ok, .func (.func F) #[] lb] W (NewV R_NodesOut (chgV L n ok chg) W) := by
  obtain ⟨w0, hw0⟩ : ∃ w, w = W.alloc (.cells #[.slice none 0 0, .int .i64 0] 29) := ⟨_, rfl⟩
  have hb0 : Below W.heap.size W w0 := by rw [hw0]; exact (Below.refl _ _).alloc (Nat.le_refl _) _
  have X0 := Lib.hid (show Blk w0 W.heap.size 29 #[.slice none 0 0, .int .i64 0] from by rw [hw0]; exact Blk.new _ _ _)
  have H0 := Lib.hid (mv_rd R_Node_ok h hb0)
  have HB0 := Lib.hid hb0
  have HF := Lib.hid hF
  have HEG := Lib.hid eg
  have hnn := nd_len h
  have hz0 := hb0.size
  have hs := nodes_impl H0.out
  obtain ⟨z, hz⟩ : ∃ z, nodesB L = z := ⟨_, rfl⟩
  rw [hz] at hs
  have HZ := Lib.hid hz
  clear h hF eg hz hb0
  by_cases h400 : 400 < L.length
  · rw [chgV_size h400]
    have hd : decide ((400 : Int) < (L.length : Int)) = true := decide_eq_true (by omega)
    go_enter Try.func49, Try.ntmps49
    go_wp2
    refine bodyPost_ret (v := .agg #[.slice none 0 0, .int .i64 2]) (by simp [results, Try.results49, go_sem, *]) rfl (out_ill ?_)
    first | exact (Below.refl _ _).alloc (Nat.le_refl _) _ | exact ((Below.refl _ _).alloc (Nat.le_refl _) _).setCell (by first | omega | simp) _
  have hd : decide ((400 : Int) < (L.length : Int)) = false := decide_eq_false (by omega)
  go_enter Try.func49, Try.ntmps49
  go_wp2_with fail
  rw [← hw0]
  clear hw0
  refine hs.mono ?_
  intro e w1 h
  obtain ⟨rfl, hb⟩ := isB_elim h
  have X1 := Lib.hid (X0.out.call hb)
  have H1 := Lib.hid (mv_rd R_Node_ok H0.out hb)
  have HB1 := Lib.hid (HB0.out.trans (hb.mono hz0))
  have q0 := X1.out.at_ 0 rfl
  have q1 := X1.out.at_ 1 rfl
  have f0 := X1.out.soft 0
  have f1 := X1.out.soft 1
  clear h hb hs
  by_cases hzo : (z && ok) = false
  · have HE := Lib.hid (chgV_form (n := n) (chg := chg) h400 (show (nodesB L && ok) = false from by rw [HZ.out]; exact hzo))
    have key : z = false ∨ (z = true ∧ ok = false) := by cases z <;> cases ok <;> simp_all
    clear hzo
    rcases key with rfl | ⟨rfl, rfl⟩
    · go_wp2
      rw [HE.out]
      refine bodyPost_ret (v := .agg #[.slice none 0 0, .int .i64 1]) (by simp [results, Try.results49, go_sem, *]) rfl (out_ill ?_)
      exact (HB1.out.setCell (p := ⟨W.heap.size, 0, none⟩) (Nat.le_refl _) _).setCell (p := ⟨W.heap.size, 1, none⟩) (Nat.le_refl _) _
    · go_wp2
      rw [HE.out]
      refine bodyPost_ret (v := .agg #[.slice none 0 0, .int .i64 1]) (by simp [results, Try.results49, go_sem, *]) rfl (out_ill ?_)
      exact (HB1.out.setCell (p := ⟨W.heap.size, 0, none⟩) (Nat.le_refl _) _).setCell (p := ⟨W.heap.size, 1, none⟩) (Nat.le_refl _) _
  have hzo2 : z = true ∧ ok = true := by cases z <;> cases ok <;> simp_all
  obtain ⟨rfl, rfl⟩ := hzo2
  have HZO := Lib.hid (show (nodesB L && true) = true from by rw [HZ.out]; rfl)
  have hN := nodesB_iff.1 HZ.out
  have hsm := nodesR_small hN
  have hL1 := hN.1.1
  have hL6 := hN.1.2
  have HN := Lib.hid hN
  clear hzo hN
  have hwr : IntKind.i64.wrap ((L.length : Int) - 1) = (L.length : Int) - 1 := IntWalk.i64_in _ (by omega)
  obtain ⟨y, hy⟩ : ∃ y, isB n 0 ((L.length : Int) - 1) = y := ⟨_, rfl⟩
  have hi := fun W => is_impl n 0 ((L.length : Int) - 1) W
  rw [hy] at hi
  have HY := Lib.hid hy
  clear hy
  cases y with
  | false =>
    have HE := Lib.hid (chgV_none (chg := chg) h400 HZO.out HY.out)
    go_wp2_with (go_at_call 67; refine (hi _).mono ?_; rintro e w' ⟨rfl, rfl⟩)
    rw [HE.out]
    refine bodyPost_ret (v := .agg #[.slice none 0 0, .int .i64 6]) (by simp [results, Try.results49, go_sem, *]) rfl (out_ill ?_)
    exact (HB1.out.setCell (p := ⟨W.heap.size, 0, none⟩) (Nat.le_refl _) _).setCell (p := ⟨W.heap.size, 1, none⟩) (Nat.le_refl _) _
  | true =>
    have hnb := (isB_iff _ _ _).1 HY.out
    obtain ⟨m, rfl⟩ : ∃ m : Nat, n = m := ⟨n.toNat, by omega⟩
    have hm : m < L.length := by omega
    obtain ⟨x, hx⟩ := el_some hm
    have HV := Lib.hid (chgV_at (chg := chg) h400 HZO.out hx)
    have HOK := Lib.hid (nodesR_at HN.out hx)
    have HX := Lib.hid hx
    have hi0 : (0 : Int) ≤ (m : Int) := Int.natCast_nonneg _
    have hi1 : (m : Int) < (L.length : Int) := by omega
    clear hx hnb q0 q1 f0 f1
    go_wp2_with (first | (go_at_call 67; refine (hi _).mono ?_; rintro e w' ⟨rfl, rfl⟩) | fail)
    refine (copy_impl hsm.1 (by omega) hsm.2 H1.out).mono ?_
    intro e w2 h
    obtain ⟨a', c', rfl, ho, hb⟩ := newS_elim h
    obtain ⟨g, Sf, rfl, hrow⟩ := ho.row (by omega)
    have hc1 := ho.1
    have hc2 := ho.2.1
    have HB2 := Lib.hid (HB1.out.trans (hb.mono HB1.out.size))
    have X2 := Lib.hid (X1.out.call hb)
    have hsz12 := hb.size
    have hlt1 := X1.out.lt
    have hcl := HF.out w2 _ L g m Sf x hrow (fun q hq => hq.2) (fun q hq => Nat.le_trans HB1.out.size hq.1) HB2.out HX.out HOK.out
    have HCL := Lib.hid hcl
    have eg := HEG.out
    clear h ho hb hrow hcl hi hwr
    go_wp2_with fail
    refine HCL.out.mono ?_
    intro e w3 h
    obtain ⟨rfl, hof, hrow⟩ := chgR_elim h
    have hz2 := HB2.out.size
    have hz3 := hof.size
    have hxl := X2.out.lt
    have X3 := Lib.hid (show Blk w3 W.heap.size 29 #[.slice none 0 0, .int .i64 0] from (hof.block W.heap.size hxl (fun h => by have h9 : w1.heap.size ≤ W.heap.size := h.1; omega)).trans X2.out)
    have HB3 := Lib.hid (HB2.out.trans (hof.below hz2 fun q hq => Nat.le_trans HB1.out.size hq.1))
    have HROW := Lib.hid hrow
    have HVV := Lib.hid HV.out
    obtain ⟨c, hc⟩ : ∃ c, (chg x).1 = c := ⟨_, rfl⟩
    have HC := Lib.hid hc
    rw [hc]
    have q0 := X3.out.at_ 0 rfl
    have q1 := X3.out.at_ 1 rfl
    have f0 := X3.out.soft 0
    have f1 := X3.out.soft 1
    clear h hof hrow hc eg
    by_cases hc0 : c = 0
    · have HC0 := Lib.hid hc0
      subst hc0
      go_wp2
      rw [HV.out, if_pos HC.out]
      obtain ⟨S', Sf', hR, hS⟩ := HROW.out HC.out
      refine bodyPost_ret (v := .agg #[.slice (some ⟨g, 0, none⟩) L.length c', .int .i64 0]) (by simp [results, Try.results49, go_sem, *]) rfl ⟨[.slice (some ⟨g, 0, none⟩) (L.set m (chg x).2).length c', .int .i64 0], by rw [List.length_set], ?_, (HB3.out.setCell (p := ⟨W.heap.size, 0, none⟩) (Nat.le_refl _) _).setCell (p := ⟨W.heap.size, 1, none⟩) (Nat.le_refl _) _⟩
      refine mkow_NodesOut (T0 := S') (fun q hq => ?_) ((hR.slice (by rw [List.length_set]; exact hc1) hc2).keep R_Node_ok fun q hq => ?_)
      · obtain ⟨h1, h2⟩ := hS q hq
        refine ⟨?_, by simp; exact h2⟩
        rcases h1 with h1 | h1
        · exact Nat.le_trans HB1.out.size h1.1
        · omega
      · have hq2 : q ≠ W.heap.size := by
          obtain ⟨h1, h2⟩ := hS q hq
          rcases h1 with h1 | h1
          · have h9 : w1.heap.size ≤ q := h1.1; omega
          · omega
        rw [Below.heap_setCell _ ⟨W.heap.size, 1, none⟩ _ q hq2, Below.heap_setCell _ ⟨W.heap.size, 0, none⟩ _ q hq2]
    · have hb : (c != 0) = true := by simp [hc0]
      have HC0 := Lib.hid hc0
      clear hc0
      go_wp2
      rw [HV.out, if_neg (by rw [HC.out]; exact HC0.out), HC.out]
      refine bodyPost_ret (v := .agg #[.slice none 0 0, .int .i64 c]) (by simp [results, Try.results49, go_sem, *]) rfl (out_ill ?_)
      exact (HB3.out.setCell (p := ⟨W.heap.size, 0, none⟩) (Nat.le_refl _) _).setCell (p := ⟨W.heap.size, 1, none⟩) (Nat.le_refl _) _
end Go.Proofs.Ytfciojkibklkfaa.RepC
end
section
namespace Go.Proofs.Ytfciojkibklkfaa.RepC
open Go.RowKit RowC ValC
set_option linter.unusedVariables false
set_option linter.unusedSimpArgs false
theorem owc_NodesOut {W : World} {S : Nat → Prop} {L0 : List (D_Node)} {x1 : Int} {cs : List Value} (h : R_NodesOut.ow W S (L0, x1) cs) : ∃ a0 c0, cs = [.slice a0 L0.length c0, .int .i64 x1] ∧ R_NodesOut.ow W S (L0, x1) [.slice a0 L0.length c0, .int .i64 x1] := by
  have h0 := h
  obtain ⟨a0, c0, T0, rfl, _⟩ := ow_NodesOut h
  exact ⟨a0, c0, rfl, h0⟩
end Go.Proofs.Ytfciojkibklkfaa.RepC
end
section
namespace Go.Proofs.Ytfciojkibklkfaa.RepC
open Go.RowKit RowC ValC SpanC KeptC
set_option linter.unusedVariables false
set_option linter.unusedSimpArgs false
theorem setN_same {st : Int} {M : List D_Span} {s : Int} (h : s = st) : setN st (s, M) = (10, (s, M)) := if_pos h
theorem setN_new {st : Int} {M : List D_Span} {s : Int} (h : s ≠ st) : setN st (s, M) = (0, (st, M)) := if_neg h
set_option maxRecDepth 100000 in
set_option maxHeartbeats 1600000 in
theorem set_chg {bx : Nat} {st : Int} {W : World} (hbx : W.cell? ⟨bx, 0, none⟩ = some (.int .i64 st)) (hbl : bx < W.heap.size) : ChgF 65 #[.pointer (some ⟨bx, 0, none⟩)] (setN st) W := fun wq S M g k Sf x hR hS1 hS2 hB hx hok => by
  show Calls Try.prog 65 #[.pointer (some ⟨g, k * 2, none⟩), .pointer (some ⟨bx, 0, none⟩)] wq _
  obtain ⟨us, hu, hr⟩ := hR.el k x hx
  obtain ⟨s, B⟩ := x
  obtain ⟨ba, bc, T0, rfl, hT0, hO⟩ := ow_Node hr
  rw [size_NodeS] at hu
  have hgl : g < wq.heap.size := hS1 g hR.own
  have e0 : wq.cell? ⟨g, k * 2, none⟩ = some (.int .i64 s) := by simpa using hu 0 _ rfl
  have e1 : wq.cell? ⟨g, k * 2 + 1, none⟩ = some (.slice ba B.length bc) := hu 1 _ rfl
  have eb : wq.cell? ⟨bx, 0, none⟩ = some (.int .i64 st) := (hB.cell (p := ⟨bx, 0, none⟩) hbl).trans hbx
  have hbl2 : bx < wq.heap.size := Nat.lt_of_lt_of_le hbl hB.size
  have HR := Lib.hid hR
  have HS1 := Lib.hid hS1
  have HT0 := Lib.hid hT0
  have HO := Lib.hid hO
  have HX := Lib.hid hx
  have HE1 := Lib.hid e1
  have hgb : bx ≠ g := fun e => by have := hS2 g hR.own; omega
  clear hR hS1 hT0 hO hx hu hr hok hB hS2 hbx hbl e1
  by_cases hs : s = st
  · have hq : (s == st) = true := beq_iff_eq.2 hs
    have HV := Lib.hid (setN_same (M := B) hs)
    clear hs
    go_enter Try.func65, Try.ntmps65
    go_wp2_with fail
    refine wp_region_held_drew (S := (fun V => Below (wq).heap.size (wq) V)) (by kernel_rfl) ((Below.refl _ _).drew) (fun hHeld => ?_)
    refine tk 0 hHeld ?_
    refine tk 1 hHeld ?_
    refine tk 2 hHeld ?_
    refine tk 3 hHeld ?_ (hy := fun w hSw => by (try dsimp only at hSw); have k0 := (hSw.cell (p := ⟨g, k * 2, none⟩) hgl).trans e0; clear hSw; go_simp; try with_reducible rfl)
    refine tk 4 hHeld ?_ (hy := fun w hSw => by (try dsimp only at hSw); have k0 := (hSw.cell (p := ⟨bx, 0, none⟩) hbl2).trans eb; clear hSw; go_simp; try with_reducible rfl)
    refine tk 5 hHeld ?_
    refine rd0 ?_
    have HF := Lib.hid hHeld
    clear hHeld
    go_wp2
    go_ret
    exact ⟨by rw [HV.out]; rfl, (Off.refl _ wq).of_below HF.out, fun h => by rw [HV.out] at h; cases h⟩
  · have hq : (s == st) = false := beq_eq_false_iff_ne.2 hs
    have HV := Lib.hid (setN_new (M := B) hs)
    clear hs
    go_enter Try.func65, Try.ntmps65
    go_wp2_with fail
    refine wp_region_held_drew (S := (fun V => Below (wq).heap.size (wq) V)) (by kernel_rfl) ((Below.refl _ _).drew) (fun hHeld => ?_)
    refine tk 0 hHeld ?_
    refine tk 1 hHeld ?_
    refine tk 2 hHeld ?_
    refine tk 3 hHeld ?_ (hy := fun w hSw => by (try dsimp only at hSw); have k0 := (hSw.cell (p := ⟨g, k * 2, none⟩) hgl).trans e0; clear hSw; go_simp; try with_reducible rfl)
    refine tk 4 hHeld ?_ (hy := fun w hSw => by (try dsimp only at hSw); have k0 := (hSw.cell (p := ⟨bx, 0, none⟩) hbl2).trans eb; clear hSw; go_simp; try with_reducible rfl)
    refine tk 5 hHeld ?_
    refine rd0 ?_
    have HF := Lib.hid hHeld
    clear hHeld
    have s0 := HR.out.soft (k * 2)
    go_wp2
    go_ret
    have hset : ∀ q, q ≠ g → (wq.drew.setCell ⟨g, k * 2, none⟩ (.int .i64 st)).heap[q]? = wq.heap[q]? := fun q hq => Below.heap_setCell wq.drew ⟨g, k * 2, none⟩ _ q hq
    have hU : Upd wq (wq.drew.setCell ⟨g, k * 2, none⟩ (.int .i64 st)) g (k * 2) ((k + 1) * 2) (Sf k) := (Upd.below (T := Sf k) (Below.refl _ wq).drew hgl).trans (Upd.set (lo := k * 2) (hi := (k + 1) * 2) _ _ ⟨by omega, by omega⟩ _)
    have hrow := HR.out.set R_Node_ok HS1.out (x := (st, B)) (us := [.int .i64 st, .slice ba B.length bc]) (by rw [size_NodeS]; exact hU) (fun j d hd => by
      rw [size_NodeS]
      match j, hd with
      | 0, hd => simp at hd; subst hd; exact World.cell?_setCell_same _ _ _ e0
      | 1, hd => simp at hd; subst hd; rw [World.cell?_setCell_other _ _ _ _ (fun e => by injection e with _ e2; omega)]; exact HE1.out
      | j + 2, hd => simp at hd) (mkow_Node HT0.out (HO.out.keep R_Span_ok fun q hq => hset q (HR.out.sub k q (HT0.out q hq)).2))
    refine ⟨by rw [HV.out]; rfl, ((Off.refl _ wq).of_below (Below.refl _ wq).drew).setCell (p := ⟨g, k * 2, none⟩) HR.out.own _, fun _ => ⟨S, Sf, by rw [HV.out]; exact hrow, fun q hq => ⟨.inl hq, by have := HS1.out q hq; simpa using this⟩⟩⟩
set_option maxRecDepth 100000 in
set_option maxHeartbeats 1600000 in
theorem set_impl {L : List D_Node} {n st : Int} {a : Option Addr} {cap : Nat} {W : World} (h : RdSl R_Node W W.heap.size L a cap) :
    Calls Try.prog 16 #[.slice a L.length cap, .int .i64 n, .int .i64 st] W (NewV R_NodesOut (chgV L n (isB st 1 3) (setN st)) W) := by
  obtain ⟨w0, hw0⟩ : ∃ w, w = W.alloc (.cells #[.int .i64 st] 2) := ⟨_, rfl⟩
  have hb0 : Below W.heap.size W w0 := by rw [hw0]; exact (Below.refl _ _).alloc (Nat.le_refl _) _
  have hs0 : w0.heap.size = W.heap.size + 1 := by rw [hw0]; simp
  have x0 : Blk w0 W.heap.size 2 #[.int .i64 st] := by rw [hw0]; exact Blk.new _ _ _
  obtain ⟨w1, hw1⟩ : ∃ w, w = w0.alloc (.cells #[.slice none 0 0, .int .i64 0] 29) := ⟨_, rfl⟩
  have hb1 : Below w0.heap.size w0 w1 := by rw [hw1]; exact (Below.refl _ _).alloc (Nat.le_refl _) _
  have hs1 : w1.heap.size = W.heap.size + 2 := by rw [hw1]; simp [hs0]
  have XR := Lib.hid (show Blk w1 (W.heap.size + 1) 29 #[.slice none 0 0, .int .i64 0] from by rw [← hs0, hw1]; exact Blk.new _ _ _)
  have X1 := Lib.hid (x0.call hb1)
  have HB1 := Lib.hid (hb0.trans (hb1.mono hb0.size))
  have HSW := Lib.hid hs1
  have H := Lib.hid (mv_rd R_Node_ok h HB1.out)
  have HCH := Lib.hid (set_chg (X1.out.at_ 0 rfl) X1.out.lt)
  have hst := fun W => state_impl st W
  have hmf : ∀ (fn : Fn) (first cap : Array Value) (w : World), (Instr.makeFunc fn first cap).run Try.prog w = .ok (.func fn first cap) w := fun _ _ _ _ => rfl
  have eg : ∀ args w, (callFunc 65 args).run Try.prog w = .ok (.enter 65 args) w := enters_of Try.func65 (by kernel_rfl) rfl
  have HEG := Lib.hid eg
  clear eg h hb0 hb1 x0 hs1
  have p0 := X1.out.at_ 0 rfl
  rw [hw1, hw0] at p0
  go_enter Try.func16, Try.ntmps16
  go_wp2_with (first | (go_at_call 64; refine (hst _).mono ?_; rintro e w' ⟨rfl, rfl⟩) | fail)
  rw [← hw0, ← hw1]
  clear p0 hw1 hw0 hs0
  refine (change_impl HEG.out H.out HCH.out).mono ?_
  intro e w5 h
  obtain ⟨⟨R, cd⟩, hd⟩ : ∃ d, chgV L n (isB st 1 3) (setN st) = d := ⟨_, rfl⟩
  rw [hd] at h
  have HDD := Lib.hid hd
  obtain ⟨us, rfl, hu, hb⟩ := newV_elim h
  obtain ⟨a0, c0, rfl, hu⟩ := owc_NodesOut hu
  have XR := Lib.hid (XR.out.call hb)
  have HB5 := Lib.hid (HB1.out.trans (hb.mono HB1.out.size))
  have HU := Lib.hid hu
  have q0 := XR.out.at_ 0 rfl
  have q1 := XR.out.at_ 1 rfl
  have f0 := XR.out.soft 0
  have f1 := XR.out.soft 1
  have hzr := XR.out.lt
  have hz1 := hb.size
  clear h hu hb hd
  go_wp2
  refine bodyPost_ret (v := .agg #[.slice a0 R.length c0, .int .i64 cd]) (by simp [results, Try.results16, go_sem, *]) rfl ⟨[.slice a0 R.length c0, .int .i64 cd], rfl, ?_, (HB5.out.setCell (p := ⟨W.heap.size + 1, 0, none⟩) (show W.heap.size ≤ W.heap.size + 1 by omega) _).setCell (p := ⟨W.heap.size + 1, 1, none⟩) (show W.heap.size ≤ W.heap.size + 1 by omega) _⟩
  have hsw := HSW.out
  rw [HDD.out]
  refine R_NodesOut_ok.ow_more (R_NodesOut_ok.ow_keep HU.out fun q hq => ?_) fun q hq => ⟨?_, ?_⟩
  · have hq1 := hq.1
    rw [Below.heap_setCell _ ⟨W.heap.size + 1, 1, none⟩ _ q (show q ≠ W.heap.size + 1 by omega), Below.heap_setCell _ ⟨W.heap.size + 1, 0, none⟩ _ q (show q ≠ W.heap.size + 1 by omega)]
  · have hq1 := hq.1
    omega
  · have hq2 := hq.2
    simp; exact hq2
end Go.Proofs.Ytfciojkibklkfaa.RepC
end
section
namespace Go.Proofs.Ytfciojkibklkfaa.RepC
open Go.RowKit RowC ValC SpanC KeptC
set_option linter.unusedVariables false
set_option linter.unusedSimpArgs false
theorem ill_spec (c : Int) (W : World) : Calls Try.prog 55 #[.int .i64 c] W fun e w' => e = .returned (.agg #[.slice none 0 0, .int .i64 c]) ∧ Below W.heap.size W w' := by
  have HX := Lib.hid (Blk.new W 29 #[.slice none 0 0, .int .i64 0])
  go_enter Try.func55, Try.ntmps55
  go_wp2
  refine bodyPost_ret (v := .agg #[.slice none 0 0, .int .i64 c]) (by simp [results, Try.results55, go_sem, *]) rfl ⟨rfl, ?_⟩
  first | exact (Below.refl _ _).alloc (Nat.le_refl _) _ | exact ((Below.refl _ _).alloc (Nat.le_refl _) _).setCell (by first | omega | simp) _
theorem place_spec {L : List D_Node} (a : Option Addr) (cap : Nat) (n : Int) (w : World) (hL : L.length ≤ 4096) :
    Calls Try.prog 58 #[.slice a L.length cap, .int .i64 n] w fun e w' => e = .returned (.bool (isB n 0 ((L.length : Int) - 1))) ∧ w = w' := by
  by_cases h1 : 0 ≤ n
  · by_cases h2 : n < L.length
    · have hb : isB n 0 ((L.length : Int) - 1) = true := (isB_iff _ _ _).2 ⟨h1, by omega⟩
      rw [hb]; clear hb
      go_enter Try.func58, Try.ntmps58
      go_wp2
      go_ret
      exact ⟨rfl, rfl⟩
    · have hb : isB n 0 ((L.length : Int) - 1) = false := by
        cases hq : isB n 0 ((L.length : Int) - 1) with
        | false => rfl
        | true => have := (isB_iff _ _ _).1 hq; omega
      rw [hb]; clear hb
      have h2' : decide (n < (L.length : Int)) = false := by simpa using h2
      go_enter Try.func58, Try.ntmps58
      go_wp2
      go_ret
      exact ⟨rfl, rfl⟩
  · have hb : isB n 0 ((L.length : Int) - 1) = false := by
      cases hq : isB n 0 ((L.length : Int) - 1) with
      | false => rfl
      | true => have := (isB_iff _ _ _).1 hq; omega
    rw [hb]; clear hb
    have h1' : decide (0 ≤ n) = false := by simpa using h1
    go_enter Try.func58, Try.ntmps58
    go_wp2
    go_ret
    exact ⟨rfl, rfl⟩
end Go.Proofs.Ytfciojkibklkfaa.RepC
end
section
namespace Go.Proofs.Ytfciojkibklkfaa.SpanC
open Go.RowKit KeptC RowC ValC
set_option linter.unusedSimpArgs false
set_option linter.unusedVariables false
structure RA (W : World) (qa : Option Addr) (m : Nat) (N : Nat → Nat) (F : Nat → Nat → Int × Int) (qA : Nat → Option Addr) (qC : Nat → Nat) : Prop where
  cell : ∀ k, k < m → ∃ g o, qa = some ⟨g, o, none⟩ ∧ g < W.heap.size ∧ W.cell? ⟨g, o + k, none⟩ = some (.slice (qA k) (N k) (qC k))
  row : ∀ k, k < m → PA W (qA k) (N k) (F k)
theorem RA.below {W W' : World} {qa : Option Addr} {m : Nat} {N : Nat → Nat} {F : Nat → Nat → Int × Int} {qA : Nat → Option Addr} {qC : Nat → Nat} (h : RA W qa m N F qA qC) (hb : Below W.heap.size W W') : RA W' qa m N F qA qC :=
  ⟨fun k hk => by obtain ⟨g, o, e, hg, hc⟩ := h.cell k hk; exact ⟨g, o, e, Nat.lt_of_lt_of_le hg hb.size, (hb.cell (p := ⟨g, _, none⟩) hg).trans hc⟩, fun k hk => (h.row k hk).bel hb⟩
end Go.Proofs.Ytfciojkibklkfaa.SpanC
end
section
namespace Go.Proofs.Ytfciojkibklkfaa.SpanC
open Go.RowKit KeptC RowC ValC
set_option linter.unusedSimpArgs false
set_option linter.unusedVariables false
def ic (L : List Nat) (j : Nat) : Value := .int .i64 (L.getD j 0 : Nat)
def RowL (W : World) (lo : Nat) (A : Option Addr) (ln cap : Nat) (L : List Nat) : Prop := ln = L.length ∧ RowO W lo 2 1 (.slice A ln cap) ln (ic L)
theorem RowL.below {W W' : World} {lo ln cap : Nat} {A : Option Addr} {L : List Nat} (h : RowL W lo A ln cap L) (hb : Below W.heap.size W W') : RowL W' lo A ln cap L := ⟨h.1, h.2.below hb⟩
end Go.Proofs.Ytfciojkibklkfaa.SpanC
end
section
namespace Go.Proofs.Ytfciojkibklkfaa.SpanC
open Go.RowKit KeptC RowC ValC
set_option linter.unusedSimpArgs false
set_option linter.unusedVariables false
theorem now_spec (n : Int) (w : World) :
    Calls Try.prog 57 #[.int .i64 n] w fun e w' => e = .returned (.bool (isB n 0 999900)) ∧ w = w' := by
  go_enter Try.func57, Try.ntmps57
  go_wp2_with (go_at_call 81; refine (is_spec _ _ _ _).mono ?_; rintro e w' ⟨rfl, rfl⟩)
  go_ret
  exact ⟨rfl, rfl⟩
theorem now_impl (n : Int) (w : World) :
    Calls Try.prog 51 #[.int .i64 n] w fun e w' => e = .returned (.bool (isB n 0 999900)) ∧ w = w' := by
  go_enter Try.func51, Try.ntmps51
  go_wp2_with (go_at_call 67; refine (is_impl _ _ _ _).mono ?_; rintro e w' ⟨rfl, rfl⟩)
  go_ret
  exact ⟨rfl, rfl⟩
end Go.Proofs.Ytfciojkibklkfaa.SpanC
end
section
namespace Go.Proofs.Ytfciojkibklkfaa.RepC
open Go.RowKit RowC ValC SpanC KeptC
set_option linter.unusedVariables false
set_option linter.unusedSimpArgs false
theorem chgV_no {L : List D_Node} {n : Int} {chg : D_Node → Int × D_Node} (h : ¬ 400 < L.length) : chgV L n false chg = ([], 1) := by unfold chgV; rw [if_neg h, if_pos (by simp)]
end Go.Proofs.Ytfciojkibklkfaa.RepC
end
section
namespace Go.Proofs.Ytfciojkibklkfaa.RepC
open Go.RowKit RowC ValC SpanC KeptC
set_option linter.unusedVariables false
set_option linter.unusedSimpArgs false
theorem newV_no {n : Int} (h : isB n 1 6 = false) : newV n = [] := by unfold newV; rw [h]; rfl
theorem newV_yes {n : Int} (h : isB n 1 6 = true) : newV n = List.replicate n.toNat (1, []) := by unfold newV; rw [h]; rfl
structure NewM (w w' : World) (m k : Nat) : Prop where
  el : ∀ i, i < m → w'.cell? ⟨w.heap.size, i * 2, none⟩ = some (.int .i64 (if i < k then 1 else 0)) ∧ w'.cell? ⟨w.heap.size, i * 2 + 1, none⟩ = some (.slice none 0 0)
  soft : ∀ j, w'.frozen? ⟨w.heap.size, j, none⟩ = false
  lt : w.heap.size < w'.heap.size
  below : Below w.heap.size w w'
theorem NewM.new (w : World) (m : Nat) (hm : m ≤ 6) : NewM w (w.alloc (.cells (zs_NodeS m) 42)) m 0 := by
  refine ⟨fun i hi => ?_, fun j => by simp, by simp, (Below.refl _ _).alloc (Nat.le_refl _) _⟩
  have hb := Blk.new w 42 (zs_NodeS m)
  have e : ∀ j, j < m * 2 → (zs_NodeS m)[j]? = some (if j % 2 = 0 then .int .i64 0 else .slice none 0 0) := fun j hj => by
    unfold zs_NodeS madeCells
    rcases Nat.mod_two_eq_zero_or_one j with h | h <;> simp [hj, h]
  rw [if_neg (Nat.not_lt_zero _)]
  exact ⟨hb.at_ (i * 2) (by rw [e _ (by omega), if_pos (by omega)]), hb.at_ (i * 2 + 1) (by rw [e _ (by omega), if_neg (by omega)])⟩
theorem NewM.put {w w' : World} {m k : Nat} (h : NewM w w' m k) (hk : k < m) : NewM w (w'.setCell ⟨w.heap.size, k * 2, none⟩ (.int .i64 1)) m (k + 1) := by
  refine ⟨fun i hi => ?_, fun j => by simp only [World.frozen?_setCell]; exact h.soft j, by simp [h.lt], h.below.setCell (Nat.le_refl _) _⟩
  obtain ⟨h1, h2⟩ := h.el i hi
  refine ⟨?_, ?_⟩
  · by_cases e : i = k
    · subst e
      rw [if_pos (by omega)]
      exact World.cell?_setCell_same _ _ _ h1
    · rw [World.cell?_setCell_other _ _ _ _ (fun q => by injection q with _ q2; omega), h1]
      by_cases e2 : i < k
      · rw [if_pos e2, if_pos (by omega)]
      · rw [if_neg e2, if_neg (by omega)]
  · rw [World.cell?_setCell_other _ _ _ _ (fun q => by injection q with _ q2; omega)]
    exact h2
theorem NewM.done {w w' : World} {m : Nat} (h : NewM w w' m m) (hm : m ≤ 6) : NewS R_Node (List.replicate m (1, [])) w (.returned (.slice (some ⟨w.heap.size, 0, none⟩) m m)) w' := by
  refine ⟨some ⟨w.heap.size, 0, none⟩, m, by simp, ⟨by simp, by unfold maxLen; omega, fun _ => ⟨w.heap.size, fun _ _ => False, rfl, ⟨Nat.le_refl _, h.lt⟩, h.soft, fun i k h => h.elim, fun i j k _ h => h.elim, fun i x hx => ?_⟩⟩, h.below⟩
  have hi := el_lt hx
  rw [List.length_replicate] at hi
  obtain rfl : x = (1, []) := by rw [List.getElem?_replicate, if_pos hi] at hx; exact (Option.some.inj hx).symm
  obtain ⟨h1, h2⟩ := h.el i hi
  rw [if_pos hi] at h1
  refine ⟨[.int .i64 1, .slice none 0 0], fun j d hd => ?_, mkow_Node (T0 := fun _ => False) (L0 := []) (a0 := none) (c0 := 0) (fun k h => h.elim) ⟨Nat.le_refl _, by unfold maxLen; omega, fun h => absurd h (Nat.lt_irrefl _)⟩⟩
  rw [size_NodeS]
  match j, hd with
  | 0, hd => simp at hd; subst hd; simpa using h1
  | 1, hd => simp at hd; subst hd; exact h2
  | j + 2, hd => simp at hd
end Go.Proofs.Ytfciojkibklkfaa.RepC
end
section
namespace Go.Proofs.Ytfciojkibklkfaa.RepC
open Go.RowKit RowC ValC SpanC KeptC
set_option linter.unusedVariables false
set_option linter.unusedSimpArgs false
set_option maxRecDepth 100000
theorem set_at {α : Type} {L : List α} {i : Nat} {y z : α} (h : (L.set i y)[i]? = some z) : z = y := by
  have hi := el_lt h
  rw [List.length_set] at hi
  rw [List.getElem?_set_self hi] at h
  exact (Option.some.inj h).symm
theorem App.put {α : Type} {E : Rp α} (hE : Ok E) {w w1 : World} {lo hi n cap g i j0 : Nat} {T : TypeId} {L : List α} {xs us : List Value} {Sf : Nat → Nat → Prop} {x x' : α} {c : Value} {T' : Nat → Prop} (h : App E w lo hi T (.slice (some ⟨g, 0, none⟩) n cap) L xs Sf) (hb : Below w.heap.size w w1) (hx : L[i]? = some x)
    (hus : ∀ j d, us[j]? = some d → xs[i * E.size + j]? = some d) (hul : us.length = E.size) (hj0 : j0 < E.size) (hT : ∀ k, T' k → (Sf i k ∨ w.heap.size ≤ k) ∧ k < w1.heap.size) (hr : E.ow (w1.setCell ⟨g, i * E.size + j0, none⟩ c) T' x' (us.set j0 c)) :
    ∃ xs' Sf', App E (w1.setCell ⟨g, i * E.size + j0, none⟩ c) lo w1.heap.size T (.slice (some ⟨g, 0, none⟩) n cap) (L.set i x') xs' Sf' := by
  have hil := el_lt hx
  have hgb := h.blk g rfl
  have hle := h.le
  have hsz := hb.size
  obtain ⟨hxl, h2⟩ := h.own
  rcases h2 with ⟨h3, _⟩ | ⟨g', cap', cur, hv, hlo, hg, hnc, hm, hcs, htk⟩
  · cases h3
  cases hv
  have hset : ∀ q, q ≠ g → (w1.setCell ⟨g, i * E.size + j0, none⟩ c).heap[q]? = w1.heap[q]? := fun q hq => Below.heap_setCell w1 ⟨g, i * E.size + j0, none⟩ c q hq
  have hss : (w1.setCell ⟨g, i * E.size + j0, none⟩ c).heap.size = w1.heap.size := by simp
  have hg1 : w1.heap[g]? = some (.cells cur T (0, 0)) := (hb.block g (by omega)).trans hg
  have hg2 : (w1.setCell ⟨g, i * E.size + j0, none⟩ c).heap[g]? = some (.cells (cur.setIfInBounds (i * E.size + j0) c) T (0, 0)) := by simp [World.setCell, Array.getElem?_modify, hg1]
  refine ⟨xs.set (i * E.size + j0) c, fun q k => if q = i then T' k else Sf q k, ⟨⟨?_, .inr ⟨g, cap, cur.setIfInBounds (i * E.size + j0) c, ?_, hlo, hg2, by rw [List.length_set]; exact hnc, hm, by simpa using hcs, ?_⟩⟩, fun q y hy => ?_, fun q k hk => ?_, fun q p k hqp hq => ?_, fun k hk => ?_, ?_⟩⟩
  · rw [List.length_set, List.length_set]; exact hxl
  · rw [List.length_set]
  · rw [List.length_set, Array.toList_setIfInBounds, List.take_set, htk]
  · by_cases e : q = i
    · subst e
      obtain rfl := set_at hy
      refine ⟨us.set j0 c, fun j d hj => ?_, by simpa using hr⟩
      by_cases ej : j = j0
      · subst ej
        rw [List.getElem?_set_self (by omega)] at hj
        have hlt : q * E.size + j < xs.length := by
          obtain ⟨d0, hd0⟩ : ∃ d0, us[j]? = some d0 := ⟨us[j], List.getElem?_eq_getElem (by omega)⟩
          exact el_lt (hus j d0 hd0)
        rw [List.getElem?_set_self hlt]; exact hj
      · rw [List.getElem?_set_ne (by omega)] at hj
        rw [List.getElem?_set_ne (by omega)]
        exact hus j d hj
    · rw [List.getElem?_set_ne (by omega)] at hy
      obtain ⟨vs, h4, h5⟩ := h.el q y hy
      refine ⟨vs, fun j d hj => ?_, ?_⟩
      · have hl := el_lt hj
        rw [hE.ow_len h5] at hl
        have hml := mul_lt_el (i := i) (j := q) hl (fun z => e z.symm)
        rw [Nat.add_mul, Nat.one_mul] at hml
        rw [List.getElem?_set_ne (by omega)]
        exact h4 j d hj
      · simp only [e, if_false]
        refine hE.ow_keep h5 fun k hk => ?_
        have hs := h.sub q k hk
        rw [hset k (fun z => hs.2.2 (by rw [z]; rfl))]
        exact hb.block k (by omega)
  · rw [show ((Value.slice (some ⟨g, 0, none⟩) L.length cap).ownBlock ≠ some k) = (some g ≠ some k) from rfl]
    by_cases e : q = i
    · simp only [e, if_true] at hk
      obtain ⟨h4, h5⟩ := hT k hk
      rcases h4 with h4 | h4
      · have hs := h.sub i k h4
        exact ⟨hs.1, h5, hs.2.2⟩
      · exact ⟨by omega, h5, fun z => by cases z; omega⟩
    · simp only [e, if_false] at hk
      have hs := h.sub q k hk
      exact ⟨hs.1, by omega, hs.2.2⟩
  · by_cases e : q = i
    · have e2 : p ≠ i := by omega
      simp only [e, if_true] at hq
      simp only [e2, if_false]
      intro hp
      rcases (hT k hq).1 with h4 | h4
      · exact h.dis i p k (by omega) h4 hp
      · have := (h.sub p k hp).2.1; omega
    · simp only [e, if_false] at hq
      by_cases e2 : p = i
      · simp only [e2, if_true]
        intro hp
        rcases (hT k hp).1 with h4 | h4
        · exact h.dis q i k (by omega) hq h4
        · have := (h.sub q k hq).2.1; omega
      · simp only [e2, if_false]
        exact h.dis q p k hqp hq
  · cases hk
    exact ⟨hgb.1, show g < w1.heap.size by omega⟩
  · rw [hss]; exact Nat.le_refl _
theorem ARow.open_ {w : World} {lo : Nat} {v : Value} {L : List D_Node} {m : Nat} {st : Int} {M : List D_Span} (h : ARow R_Node w lo 42 v L) (hx : L[m]? = some (st, M)) :
    ∃ g c ba bc, v = .slice (some ⟨g, 0, none⟩) L.length c ∧ lo ≤ g ∧ g < w.heap.size ∧ w.cell? ⟨g, m * 2, none⟩ = some (.int .i64 st) ∧ w.cell? ⟨g, m * 2 + 1, none⟩ = some (.slice ba M.length bc) ∧ (∀ j, w.frozen? ⟨g, j, none⟩ = false) ∧ RdSl R_Span w w.heap.size M ba bc ∧
      (∀ st', ARow R_Node (w.setCell ⟨g, m * 2, none⟩ (.int .i64 st')) lo 42 v (L.set m (st', M))) ∧
      (∀ w1 M' a c, Below w.heap.size w w1 → OwSl R_Span w1 (Rg w.heap.size w1.heap.size) M' a c → ARow R_Node (w1.setCell ⟨g, m * 2 + 1, none⟩ (.slice a M'.length c)) lo 42 v (L.set m (st, M'))) := by
  obtain ⟨S, lo', hi, xs, Sf, h1, h2, h3, hA, _⟩ := h
  have hm := el_lt hx
  obtain ⟨us, h4, h5⟩ := hA.el m _ hx
  obtain ⟨ba, bc, T0, rfl, hT0, hO⟩ := ow_Node h5
  have hown := hA.own.2
  rcases hown with ⟨rfl, h0⟩ | ⟨g, cap, cur, rfl, hlo, hg, hnc, hmx, hcs, htk⟩
  · omega
  have hgl : g < w.heap.size := (Array.getElem?_eq_some_iff.1 hg).1
  have hcell : ∀ j d, [Value.int .i64 st, .slice ba M.length bc][j]? = some d → w.cell? ⟨g, m * 2 + j, none⟩ = some d := fun j d hj => by
    have h6 := h4 j d hj
    rw [size_NodeS, ← htk, List.getElem?_take] at h6
    split at h6
    · exact (cell_of_row w g _ cur _ _ hg).trans (by simpa using h6)
    · cases h6
  have d0 : w.cell? ⟨g, m * 2, none⟩ = some (.int .i64 st) := by simpa using hcell 0 _ rfl
  have d1 := hcell 1 _ rfl
  have hsub := hA.sub m
  refine ⟨g, cap, ba, bc, rfl, by omega, hgl, d0, d1, fun j => by simp [World.frozen?, hg], hO.rd R_Span_ok fun q hq => by have := hsub q (hT0 q hq); have := hA.le; omega, fun st' => ?_, fun w1 M' a c hb hO' => ?_⟩
  · obtain ⟨xs', Sf', hP⟩ := hA.put R_Node_ok (Below.refl _ _) hx h4 rfl (show 0 < R_Node.size by decide) (x' := (st', M)) (c := .int .i64 st') (T' := Sf m) (fun k hk => ⟨.inl hk, by have := hsub k hk; have := hA.le; omega⟩) (mkow_Node hT0 (hO.keep R_Span_ok fun q hq => Below.heap_setCell w _ _ q (fun z => (hsub q (hT0 q hq)).2.2 (by rw [z]; rfl))))
    rw [size_NodeS, Nat.add_zero] at hP
    exact ⟨_, lo', w.heap.size, xs', Sf', h1, by have := hA.le; omega, by simp, hP, fun k => Iff.rfl⟩
  · have hset : ∀ q, q ≠ g → (w1.setCell ⟨g, m * R_Node.size + 1, none⟩ (.slice a M'.length c)).heap[q]? = w1.heap[q]? := fun q hq => Below.heap_setCell w1 _ _ q hq
    obtain ⟨xs', Sf', hP⟩ := hA.put R_Node_ok hb hx h4 rfl (show 1 < R_Node.size by decide) (x' := (st, M')) (c := .slice a M'.length c) (T' := Rg w.heap.size w1.heap.size) (fun k hk => ⟨.inr hk.1, hk.2⟩) (mkow_Node (fun k hk => hk) (hO'.keep R_Span_ok fun q hq => hset q (by have := hq.1; omega)))
    rw [size_NodeS] at hP
    exact ⟨_, lo', w1.heap.size, xs', Sf', h1, by have := hA.le; have := hb.size; omega, by simp, hP, fun k => Iff.rfl⟩
end Go.Proofs.Ytfciojkibklkfaa.RepC
end
section
namespace Go.Proofs.Ytfciojkibklkfaa.RepC
open Go.RowKit RowC ValC SpanC KeptC
set_option linter.unusedVariables false
set_option linter.unusedSimpArgs false
def NewA (L : List D_Node) (W : World) (e : Ending) (w' : World) : Prop := ∃ v, e = .returned v ∧ ARow R_Node w' W.heap.size 42 v L ∧ Below W.heap.size W w'
theorem newA_elim {L : List D_Node} {W : World} {e : Ending} {w' : World} (h : NewA L W e w') : ∃ v, e = .returned v ∧ ARow R_Node w' W.heap.size 42 v L ∧ Below W.heap.size W w' := h
theorem ARow.nil {w : World} {lo : Nat} (h : lo ≤ w.heap.size) : ARow R_Node w lo 42 (.slice none 0 0) [] :=
  ⟨_, lo, lo, [], _, Nat.le_refl _, Nat.le_refl _, h, App.none_ R_Node w 42 h, fun k => Iff.rfl⟩
theorem ARow.lower {w : World} {lo lo' : Nat} {v : Value} {L : List D_Node} (h : ARow R_Node w lo 42 v L) (hl : lo' ≤ lo) : ARow R_Node w lo' 42 v L := by
  obtain ⟨S, a, b, xs, Sf, h1, h2⟩ := h
  exact ⟨S, a, b, xs, Sf, Nat.le_trans hl h1, h2⟩
theorem ARow.far {w : World} {lo b : Nat} {v : Value} {L : List D_Node} (h : ARow R_Node w lo 42 v L) (hb : b < lo) (o : Nat) (u : Value) : ARow R_Node (w.setCell ⟨b, o, none⟩ u) lo 42 v L := by
  obtain ⟨S, h⟩ := h
  exact ⟨S, (h.mv R_Node_ok (by simp) fun k hk => Below.heap_setCell w ⟨b, o, none⟩ u k (show k ≠ b by have := (h.bnd hk).1; omega)).rise (by simp)⟩
def ChgA (d : D_NodesOut) (W : World) (e : Ending) (w' : World) : Prop := ∃ v, e = .returned (.agg #[v, .int .i64 d.2]) ∧ ARow R_Node w' W.heap.size 42 v d.1 ∧ Below W.heap.size W w'
theorem chgA_elim {d : D_NodesOut} {W : World} {e : Ending} {w' : World} (h : ChgA d W e w') : ∃ v, e = .returned (.agg #[v, .int .i64 d.2]) ∧ ARow R_Node w' W.heap.size 42 v d.1 ∧ Below W.heap.size W w' := h
theorem outA_ill {W w' : World} {c : Int} (hb : Below W.heap.size W w') : ChgA ([], c) W (.returned (.agg #[.slice none 0 0, .int .i64 c])) w' := ⟨_, rfl, ARow.nil hb.size, hb⟩
set_option maxRecDepth 100000 in
set_option maxHeartbeats 3200000 in
theorem copy_nodesA {L : List D_Node} {a : Option Addr} {cap : Nat} {W : World} (hn : L.length ≤ 4096) (hM : ∀ x ∈ L, x.2.length ≤ 1048576) (h : RdSl R_Node W W.heap.size L a cap) :
    Calls Try.prog 60 #[.slice a L.length cap] W (NewA L W) := by
  have H := Lib.hid h
  have HS := Lib.hid hM
  clear h hM
  obtain ⟨w0, hw0⟩ : ∃ w, w = W.alloc (.cells #[] 42) := ⟨_, rfl⟩
  have hb0 : Below W.heap.size W w0 := by rw [hw0]; exact (Below.refl _ _).alloc (Nat.le_refl _) _
  have HR0 := Lib.hid (show ARow R_Node w0 W.heap.size 42 (.slice (some ⟨W.heap.size, 0, none⟩) 0 0) [] from by rw [hw0]; exact ARow.made _ _ _)
  have HB0 := Lib.hid hb0
  clear hb0
  go_enter Try.func60, Try.ntmps60
  go_wp2
  rw [← hw0]
  clear hw0
  go_loopw [4, 3] (fun i v wr => ∃ k : Nat, k ≤ L.length ∧ i = .int .i64 k ∧ Hid (ARow R_Node wr W.heap.size 42 v (L.take k)) ∧ Below W.heap.size W wr) (fun i _ _ => L.length - (intOf i).toNat)
  case atStart => exact ⟨0, Nat.zero_le _, rfl, HR0, HB0.out⟩
  case round =>
    obtain ⟨k, hk, rfl, HR, hB⟩ := hrel
    have HB := Lib.hid hB
    have hsz := hB.size
    obtain ⟨va, vc, hv⟩ := HR.out.isSlice
    rw [List.length_take, Nat.min_eq_left hk] at hv
    subst hv
    by_cases hlt : k < L.length
    · obtain ⟨x, hx⟩ := el_some hlt
      have HT := Lib.hid (take_more hx)
      have hxl := HS.out x (List.mem_of_getElem? hx)
      have hcr := H.out
      obtain ⟨g, o, us, rfl, hg, hu, hr⟩ := hcr.at_ hx
      obtain ⟨st, M⟩ := x
      obtain ⟨ba, bc, rfl, hM⟩ := rd_Node hr
      have e0 : W.cell? ⟨g, o + k * 2, none⟩ = some (.int .i64 st) := by simpa [size_NodeS] using hu 0 _ rfl
      have e1 : W.cell? ⟨g, o + k * 2 + 1, none⟩ = some (.slice ba M.length bc) := by simpa [size_NodeS, Nat.add_assoc] using hu 1 _ rfl
      have hi0 : (0 : Int) ≤ (k : Int) := Int.natCast_nonneg _
      have hi1 : (k : Int) < (L.length : Int) := by omega
      have hMr : RdSl R_Span wr.drew wr.drew.heap.size M ba bc := (mv_rd R_Span_ok hM HB.out.drew)
      obtain ⟨a1, c1, w1, hrun1, ho1, hb1⟩ := copy_spans (ty := 39) (w := wr.drew) hxl hMr
      have hb1' : Below wr.heap.size wr w1 := (Below.refl _ wr).drew.trans hb1
      have ho1' : OwSl R_Span w1 (Rg wr.heap.size w1.heap.size) M a1 c1 := ho1
      have HRun1 := Lib.hid (show (Builtin.append_ #[39, 39] 39 #[.slice (some ⟨wr.heap.size, 0, none⟩) 0 0, .slice ba M.length bc]).run Try.prog ((wr.alloc (.cells #[] 25)).drew) = .ok (.slice a1 M.length c1) w1 from hrun1)
      obtain ⟨w2, hw2⟩ : ∃ w, w = w1.alloc (.cells #[.int .i64 st, .slice a1 M.length c1] 42) := ⟨_, rfl⟩
      have hb12 : Below w1.heap.size w1 w2 := by rw [hw2]; exact (Below.refl _ _).alloc (Nat.le_refl _) _
      have hbl : Blk w2 w1.heap.size 42 #[.int .i64 st, .slice a1 M.length c1] := by rw [hw2]; exact Blk.new _ _ _
      have ho2 : OwSl R_Span w2 (Rg wr.heap.size w2.heap.size) M a1 c1 := (ho1'.keep R_Span_ok fun q hq => hb12.block q hq.2).more fun q hq => ⟨hq.1, Nat.lt_of_lt_of_le hq.2 hb12.size⟩
      have hb2 : Below wr.heap.size wr w2 := hb1'.trans (hb12.mono hb1'.size)
      obtain ⟨a3, c3, w3, hrun3, hrow, hb3⟩ := app_node HR.out hb2 hbl ho2 (by rw [List.length_take]; omega)
      have HRun3 := Lib.hid hrun3
      rw [hw2] at HRun3
      have HB1 := Lib.hid (HB.out.trans (hb1'.mono hsz))
      have HB2 := Lib.hid (HB.out.trans (hb2.mono hsz))
      have HB3 := Lib.hid (HB2.out.trans hb3)
      rw [hw2] at HB2
      have hlen : (L.take (k + 1)).length = k + 1 := by rw [List.length_take]; omega
      rw [HT.out, hlen] at hrow HRun3
      have HR3 := Lib.hid hrow
      have HA1 := Lib.hid (HB.out.drew.alloc hsz (.cells #[] 25))
      have HG := Lib.hid hg
      clear hrun1 hrun3 hrow hb1 hb1' ho1 ho1' hb12 hbl ho2 hb2 hb3 hw2 hMr hB hcr hu hr hM hx hlen
      go_upto_region 5 with fail
      refine wp_region_held_drew (S := (fun V => Below W.heap.size W V)) (by kernel_rfl) (HB.out.drew) (fun hHeld => ?_)
      refine tk 0 hHeld ?_
      refine tk 1 hHeld ?_
      refine tk 2 hHeld ?_
      refine tk 3 hHeld ?_
      refine tk 4 hHeld ?_
      refine tk 5 hHeld ?_ (hy := fun w hSw => by (try dsimp only at hSw); have k0 := (hSw.cell (p := ⟨g, o + k * 2, none⟩) HG.out).trans e0; clear hSw; go_simp; try with_reducible rfl)
      refine tk 7 hHeld ?_
      refine tk 8 hHeld ?_
      refine tk 9 hHeld ?_
      refine tk 10 hHeld ?_
      refine tk 11 hHeld ?_ (hy := fun w hSw => by (try dsimp only at hSw); have k0 := (hSw.cell (p := ⟨g, o + k * 2 + 1, none⟩) HG.out).trans e1; clear hSw; go_simp; try with_reducible rfl)
      refine rd1 6 (fun K hK => ?_)
      go_simp
      refine hK.out _ _ HA1.out (fun hHeld => ?_)
      clear hK K
      refine rd1 12 (fun K hK => ?_)
      refine step_app rfl (.tmp 18) (.tmp 23) 39 rfl rfl rfl HRun1.out ?_
      refine hK.out _ _ HB1.out (fun hHeld => ?_)
      clear hK K
      refine tk 13 hHeld ?_
      refine rd1 14 (fun K hK => ?_)
      go_simp
      refine hK.out _ _ HB2.out (fun hHeld => ?_)
      clear hK K
      refine rd1 15 (fun K hK => ?_)
      refine step_app rfl (.tmp 12) (.tmp 26) 23 rfl rfl rfl HRun3.out ?_
      refine hK.out _ _ HB3.out (fun hHeld => ?_)
      clear hK K
      refine tk 16 hHeld ?_
      refine rd0 ?_
      clear hHeld
      go_wp2
      go_roundw
      case rel => exact ⟨k + 1, by omega, by go_num, HR3, HB3.out⟩
      case measure => simp [intOf]; omega
    · have hdl : decide ((k : Int) < (L.length : Int)) = false := decide_eq_false (by omega)
      obtain rfl : k = L.length := by omega
      have HR2 := Lib.hid (show ARow R_Node wr W.heap.size 42 (.slice va L.length vc) L from by have := HR.out; rwa [List.take_length] at this)
      clear hB
      go_wp2
      go_ret
      exact ⟨_, rfl, HR2.out, HB.out⟩
set_option maxRecDepth 100000 in
set_option maxHeartbeats 1600000 in
theorem new_specA (n : Int) (W : World) : Calls Try.prog 30 #[.int .i64 n] W (NewA (newV n) W) := by
  obtain ⟨w0, hw0⟩ : ∃ w, w = W.alloc (.cells #[] 42) := ⟨_, rfl⟩
  have hb0 : Below W.heap.size W w0 := by rw [hw0]; exact (Below.refl _ _).alloc (Nat.le_refl _) _
  have HR0 := Lib.hid (show ARow R_Node w0 W.heap.size 42 (.slice (some ⟨W.heap.size, 0, none⟩) 0 0) [] from by rw [hw0]; exact ARow.made _ _ _)
  have HB0 := Lib.hid hb0
  have hz0 := hb0.size
  clear hb0
  have hs := fun W => is_spec n 1 6 W
  cases hq : isB n 1 6 with
  | false =>
    rw [newV_no hq]
    rw [hq] at hs
    clear hq
    go_enter Try.func30, Try.ntmps30
    go_wp2_with (go_at_call 81; refine (hs _).mono ?_; rintro e w' ⟨rfl, rfl⟩)
    rw [← hw0]
    go_ret
    exact ⟨_, rfl, HR0.out, HB0.out⟩
  | true =>
    have hn := (isB_iff _ _ _).1 hq
    have HN := Lib.hid (newV_yes hq)
    rw [hq] at hs
    obtain ⟨m, rfl⟩ : ∃ m : Nat, n = m := ⟨n.toNat, by omega⟩
    have hm : m ≤ 6 := by omega
    clear hq hn
    go_enter Try.func30, Try.ntmps30
    go_wp2_with (first | (go_at_call 81; refine (hs _).mono ?_; rintro e w' ⟨rfl, rfl⟩) | fail)
    rw [← hw0]
    clear hw0
    go_loopw [0, 3] (fun i v wr => ∃ k : Nat, k ≤ m ∧ i = .int .i64 ((m - k : Nat) : Int) ∧ Hid (ARow R_Node wr W.heap.size 42 v (List.replicate k (1, []))) ∧ Below W.heap.size W wr) (fun i _ _ => (intOf i).toNat)
    case atStart => exact ⟨0, Nat.zero_le _, rfl, HR0, HB0.out⟩
    case round =>
      obtain ⟨k, hk, rfl, HR, hB⟩ := hrel
      have HB := Lib.hid hB
      have hsz := hB.size
      obtain ⟨va, vc, rfl⟩ := HR.out.isSlice
      clear hB
      by_cases hlt : k < m
      · have hd : decide ((0 : Int) < ((m - k : Nat) : Int)) = true := decide_eq_true (by omega)
        obtain ⟨w1, hw1⟩ : ∃ w, w = wr.alloc (.cells #[.int .i64 1, .slice none 0 0] 42) := ⟨_, rfl⟩
        have hb1 : Below wr.heap.size wr w1 := by rw [hw1]; exact (Below.refl _ _).alloc (Nat.le_refl _) _
        have hbl : Blk w1 wr.heap.size 42 #[.int .i64 1, .slice none 0 0] := by rw [hw1]; exact Blk.new _ _ _
        obtain ⟨a', c', w2, hrun, hrow, hb2⟩ := app_node HR.out hb1 (M := []) hbl ⟨Nat.le_refl _, by unfold maxLen; omega, fun h => absurd h (Nat.lt_irrefl _)⟩ (by simp; omega)
        have HRun := Lib.hid hrun
        rw [hw1] at HRun
        have HR2 := Lib.hid (show ARow R_Node w2 W.heap.size 42 (.slice a' (List.replicate k (1, []) ++ [((1 : Int), ([] : List D_Span))]).length c') (List.replicate (k + 1) (1, [])) from by rw [List.replicate_succ']; exact hrow)
        have HB2 := Lib.hid ((HB.out.trans (hb1.mono hsz)).trans hb2)
        clear hrun hrow hb1 hb2 hbl hw1
        have hwr : IntKind.i64.wrap (((m - k : Nat) : Int) - 1) = ((m - (k + 1) : Nat) : Int) := by rw [show ((m - k : Nat) : Int) - 1 = ((m - (k + 1) : Nat) : Int) by omega]; exact IntWalk.i64_in _ (by omega)
        go_wp2_with (at_builtin; refine wpList_app rfl (.tmp 13) (.tmp 15) 23 rfl rfl rfl HRun.out ?_)
        go_roundw
        case rel => exact ⟨k + 1, by omega, by first | rfl | go_num, Lib.hid (by simpa using HR2.out), HB2.out⟩
        case measure => simp [intOf]; omega
      · have hd : decide ((0 : Int) < ((m - k : Nat) : Int)) = false := decide_eq_false (by omega)
        obtain rfl : k = m := by omega
        go_wp2
        go_ret
        have hz := HN.out
        rw [Int.toNat_natCast] at hz
        rw [hz]
        exact ⟨_, rfl, HR.out, HB.out⟩
end Go.Proofs.Ytfciojkibklkfaa.RepC
end
