/- slices.DeleteFunc at spans: a contract. -/
import Derived.Test.YtfciojkibklkfaaNdX
namespace Go.Proofs.Ytfciojkibklkfaa.RepC
open Go.RowKit RowC ValC SpanC KeptC
set_option linter.unusedVariables false
set_option linter.unusedSimpArgs false

set_option maxRecDepth 100000 in
set_option maxHeartbeats 3200000 in
theorem delf_spans {F bx : Nat} {v0 : Value} {p : D_Span → Bool} (eg : ∀ args w, (callFunc F args).run Try.prog w = .ok (.enter F args) w) (hp : PredS F bx v0 p) {L : List D_Span} {S : Nat → Prop} {a : Option Addr} {c : Nat} {W : World} (hbx : W.cell? ⟨bx, 0, none⟩ = some v0) (hbl : bx < W.heap.size) (hne : ¬ S bx) (hS : ∀ q, S q → q < W.heap.size) (hO : OwSl R_Span W S L a c) :
    Calls Try.prog 76 #[.slice a L.length c, .func (.func F) #[] #[.pointer (some ⟨bx, 0, none⟩)]] W (DelR L p S a c W) := by
  have hix := indexf_spans eg hp hbx hbl (hO.rd R_Span_ok hS)
  have hn : L.length ≤ 9223372036854775807 := by have h1 := hO.1; have h2 := hO.2.1; unfold maxLen at h2; omega
  have H := Lib.hid hO
  have HP := Lib.hid hp
  have HX := Lib.hid hbx
  have HS := Lib.hid hS
  have HNE := Lib.hid hne
  clear hp hbx hS hO hne
  go_enter Try.func76, Try.ntmps76
  go_wp2_with fail
  refine hix.mono ?_
  intro e w1 h
  obtain ⟨z, rfl, hb, hz⟩ := ixP_elim h
  have HB1 := Lib.hid hb
  clear h hb hix
  rcases hz with ⟨rfl, hall⟩ | ⟨k, x, rfl, hx, hpx, hall⟩
  · have hF : L.filter (fun y => !p y) = L := List.filter_eq_self.2 fun y hy => by
      obtain ⟨i, hi, rfl⟩ := List.getElem_of_mem hy
      rw [hall i _ (List.getElem?_eq_getElem hi)]
      rfl
    have HF := Lib.hid hF
    clear hall hF
    go_wp2
    go_ret
    refine ⟨?_, ?_, (Off.refl _ W).of_below HB1.out⟩
    · rw [HF.out]; rfl
    · rw [HF.out]; exact H.out.keep R_Span_ok fun q hq => HB1.out.block q (HS.out q hq)
  · have hk := el_lt hx
    obtain ⟨g, Sf, rfl, hSg, hso, _, _, _⟩ := H.out.2.2 (by omega)
    have hg := HS.out g hSg
    have hbg : bx ≠ g := fun e => HNE.out (e ▸ hSg)
    obtain ⟨hD, hD2⟩ := DelM.start (c := c) H.out hg HB1.out hx hpx hall (wr := w1) (a := none)
    have HD0 := Lib.hid hD
    have HD2 := Lib.hid hD2
    have hne1 : ((k : Int) == -1) = false := beq_eq_false_iff_ne.2 (by omega)
    have hc1 := H.out.1
    have hc2 := H.out.2.1
    have hwk : IntKind.i64.wrap ((k : Int) + 1) = ((k + 1 : Nat) : Int) := by rw [show (k : Int) + 1 = ((k + 1 : Nat) : Int) by omega]; exact IntWalk.i64_in _ (by unfold maxLen at hc2; omega)
    unfold maxLen at hc2
    clear hx hpx hall hD hD2 hso
    go_wp2
    go_loopw [5, 6] (fun s5 s6 wr => ∃ (i j : Nat), s5 = .int .i64 i ∧ s6 = .int .i64 j ∧ j ≤ L.length ∧ i < j ∧ Hid (DelM W wr L g p j) ∧ Hid (((L.take j).filter fun y => !p y).length = i)) (fun _ s6 _ => L.length - (intOf s6).toNat)
    case atStart => exact ⟨k, k + 1, rfl, by first | rfl | go_num, by omega, by omega, HD0, HD2⟩
    case round =>
      obtain ⟨i, j, rfl, rfl, hj, hij, HD, HI⟩ := hrel
      have hgw : g < wr.heap.size := Nat.lt_of_lt_of_le hg HD.out.off.size
      by_cases hlt : j < L.length
      · obtain ⟨y, hy⟩ := el_some hlt
        obtain ⟨c0, c1⟩ := HD.out.high j y (Nat.le_refl _) hy
        obtain ⟨y0, y1⟩ := y
        have hj0 : (0 : Int) ≤ (j : Int) := Int.natCast_nonneg _
        have hj1 : (j : Int) < (L.length : Int) := by omega
        have hi0 : (0 : Int) ≤ (i : Int) := Int.natCast_nonneg _
        have hi1 : (i : Int) < (L.length : Int) := by omega
        obtain ⟨w2, hw2⟩ : ∃ w, w = wr.alloc (.cells #[.int .i64 y0, .int .i64 y1] 25) := ⟨_, rfl⟩
        have hb2 : Below wr.heap.size wr w2 := by rw [hw2]; exact (Below.refl _ _).alloc (Nat.le_refl _) _
        have X2 : Blk w2 wr.heap.size 25 #[.int .i64 y0, .int .i64 y1] := by rw [hw2]; exact Blk.new _ _ _
        have hbw : wr.cell? ⟨bx, 0, none⟩ = some v0 := (World.cell?_of_block (a := ⟨bx, 0, none⟩) (HD.out.off.block bx hbl hbg)).trans HX.out
        have hbl2 : bx < wr.heap.size := Nat.lt_of_lt_of_le hbl HD.out.off.size
        have hcl := HP.out w2 y0 y1 ((hb2.cell (p := ⟨bx, 0, none⟩) hbl2).trans hbw)
        have HC := Lib.hid hcl
        have HD3 := Lib.hid (HD.out.call hb2)
        have HY := Lib.hid hy
        have HXX := Lib.hid X2
        have p0 := X2.at_ 0 rfl
        have p1 := X2.at_ 1 rfl
        rw [hw2] at p0 p1
        clear hcl hy hbw hb2 X2 HD
        go_wp2_with fail
        rw [← hw2]
        clear hw2 p0 p1
        refine HC.out.mono ?_
        intro e w3 h
        obtain ⟨rfl, hb⟩ := isB_elim h
        have HD4 := Lib.hid (HD3.out.call hb)
        have X3 := Lib.hid (HXX.out.call hb)
        obtain ⟨b, hbb⟩ : ∃ b, p (y0, y1) = b := ⟨_, rfl⟩
        have HBB := Lib.hid hbb
        rw [hbb]
        clear h hb hbb HC HD3 HXX c0 c1
        cases b with
        | true =>
          obtain ⟨hD5, hT⟩ := HD4.out.drop HY.out HBB.out
          have HD5 := Lib.hid hD5
          have HI5 := Lib.hid (show ((L.take (j + 1)).filter fun y => !p y).length = i from by rw [hT]; exact HI.out)
          clear hD5 hT
          go_wp2
          go_roundw
          case rel => exact ⟨i, j + 1, rfl, by go_num, by omega, by omega, HD5, HI5⟩
          case measure => simp [intOf]; omega
        | false =>
          obtain ⟨hD5, hT⟩ := HD4.out.keep HY.out HBB.out HI.out
          have HD5 := Lib.hid hD5
          have HI5 := Lib.hid hT
          obtain ⟨u0, d0⟩ := HD4.out.there (i * 2) (by omega)
          obtain ⟨u1, d1⟩ := HD4.out.there (i * 2 + 1) (by omega)
          have f0 := HD4.out.soft (i * 2)
          have f1 := HD4.out.soft (i * 2 + 1)
          have p0 := X3.out.at_ 0 rfl
          have p1 := X3.out.at_ 1 rfl
          clear hD5 hT
          go_wp2
          go_roundw
          case rel => exact ⟨i + 1, j + 1, by go_num, by go_num, by omega, by omega, HD5, HI5⟩
          case measure => simp [intOf]; omega
      · have hdl : decide ((j : Int) < (L.length : Int)) = false := decide_eq_false (by omega)
        obtain rfl : j = L.length := by omega
        have hi0 : (0 : Int) ≤ (i : Int) := Int.natCast_nonneg _
        have hi1 : (i : Int) ≤ (L.length : Int) := by omega
        have hi2 : (i : Int) ≤ (c : Int) := by omega
        have hci : ¬ c = i := by omega
        obtain ⟨w9, hclr, hlo, hso, hof⟩ := run_clear_spans wr g (i * 2) (L.length - i) (c - i) (by omega) (fun q hq => HD.out.there _ (by omega)) HD.out.soft
        have HI9 := HI.out
        rw [List.take_length] at HI9
        have HIF := Lib.hid HI9
        have HR := Lib.hid (show OwSl R_Span w9 S (L.filter fun y => !p y) (some ⟨g, 0, none⟩) c from ⟨by rw [HI9]; omega, by unfold maxLen; omega, fun _ => ⟨g, fun _ _ => False, rfl, hSg, hso, fun _ _ h => h.elim, fun _ _ _ _ h => h.elim, fun r y hy => by
          have hr := el_lt hy
          rw [HI9] at hr
          obtain ⟨h1, h2⟩ := HD.out.low r y (by rw [List.take_length]; exact hy)
          refine ⟨[.int .i64 y.1, .int .i64 y.2], fun q d hd => ?_, mkow_Span⟩
          rw [size_SpanS]
          match q, hd with
          | 0, hd => simp at hd; subst hd; rw [Nat.add_zero, hlo _ (by omega)]; exact h1
          | 1, hd => simp at hd; subst hd; rw [hlo _ (by omega)]; exact h2
          | q + 2, hd => simp at hd⟩⟩)
        have HOF := Lib.hid ((HD.out.off.trans hof).more (T := S) fun q hq => by rw [hq]; exact hSg)
        clear hlo hso hof HI9
        go_wp2
        go_ret
        exact ⟨by rw [HIF.out]; rfl, HR.out, HOF.out⟩
end Go.Proofs.Ytfciojkibklkfaa.RepC
