/- BookCut in the program: a contract. -/
import Derived.Test.YtfciojkibklkfaaTk
import Derived.Test.YtfciojkibklkfaaTk
import Derived.Test.YtfciojkibklkfaaNdT1
namespace Go.Proofs.Ytfciojkibklkfaa.RepC
open Go.RowKit RowC ValC SpanC KeptC
set_option linter.unusedVariables false
set_option linter.unusedSimpArgs false

theorem cut_pred (bx : Nat) (frm : Int) : PredS 73 bx (.int .i64 frm) (fun x => x.1 == frm) := fun w x0 x1 h => by
  have hbl := World.block_lt_of_cell? w ⟨bx, 0, none⟩ h
  have hne : bx ≠ w.heap.size := by have : bx < w.heap.size := hbl; omega
  have h2 : (w.alloc (.cells #[.int .i64 x0, .int .i64 x1] 25)).cell? ⟨bx, 0, none⟩ = some (.int .i64 frm) := (((Below.refl _ w).alloc (Nat.le_refl _) _).cell (p := ⟨bx, 0, none⟩) hbl).trans h
  go_enter Try.func73, Try.ntmps73
  go_wp2
  go_ret
  exact ⟨rfl, (Below.refl _ _).alloc (Nat.le_refl _) _⟩
theorem cutN_no {frm : Int} {s : Int} {M : List D_Span} (h : ∀ (i : Nat) x, M[i]? = some x → (x.1 == frm) = false) : cutN frm (s, M) = (6, (s, M)) := by
  have e : M.filter (fun s => !decide (s.1 = frm)) = M := List.filter_eq_self.2 fun y hy => by
    obtain ⟨i, hi, rfl⟩ := List.getElem_of_mem hy
    have := h i _ (List.getElem?_eq_getElem hi)
    have h2 : ¬ M[i].1 = frm := by simpa using this
    simp [h2]
  unfold cutN
  rw [if_pos (by rw [e])]
theorem cutN_yes {frm : Int} {s : Int} {M : List D_Span} (hS : SpR M.length (gt M)) {q : Nat} {x : D_Span} (hx : M[q]? = some x) (hq : (x.1 == frm) = true) : cutN frm (s, M) = (0, (s, M.take q ++ M.drop (q + 1))) := by
  have e1 : x.1 = frm := by simpa using hq
  have e := cut_eq hS hx
  rw [e1] at e
  have hl := el_lt hx
  unfold cutN
  rw [e]
  rw [if_neg (by rw [List.length_append, List.length_take, List.length_drop]; show ¬ _ = M.length; omega)]
set_option maxRecDepth 100000 in
set_option maxHeartbeats 3200000 in
theorem cut_chg {bx : Nat} {frm : Int} {W : World} (hbx : W.cell? ⟨bx, 0, none⟩ = some (.int .i64 frm)) (hbl : bx < W.heap.size) : ChgF 71 #[.pointer (some ⟨bx, 0, none⟩)] (cutN frm) W := fun wq S L g k Sf x hR hS1 hS2 hB hx hok => by
  show Calls Try.prog 71 #[.pointer (some ⟨g, k * 2, none⟩), .pointer (some ⟨bx, 0, none⟩)] wq _
  obtain ⟨us, hu, hr⟩ := hR.el k x hx
  obtain ⟨s, M⟩ := x
  obtain ⟨ba, bc, T0, rfl, hT0, hO⟩ := ow_Node hr
  rw [size_NodeS] at hu
  have hgl : g < wq.heap.size := hS1 g hR.own
  have e1 : wq.cell? ⟨g, k * 2 + 1, none⟩ = some (.slice ba M.length bc) := hu 1 _ rfl
  have eb : wq.cell? ⟨bx, 0, none⟩ = some (.int .i64 frm) := (hB.cell (p := ⟨bx, 0, none⟩) hbl).trans hbx
  have hbl2 : bx < wq.heap.size := Nat.lt_of_lt_of_le hbl hB.size
  have hrd : RdSl R_Span wq wq.heap.size M ba bc := hO.rd R_Span_ok fun q hq => hS1 q (hR.sub k q (hT0 q hq)).1
  have hm4 : M.length ≤ 4 := hok.2.1
  have HSP := Lib.hid hok.2.2
  have hmf : ∀ (fn : Fn) (first cap : Array Value) (w : World), (Instr.makeFunc fn first cap).run Try.prog w = .ok (.func fn first cap) w := fun _ _ _ _ => rfl
  have eg : ∀ args w, (callFunc 73 args).run Try.prog w = .ok (.enter 73 args) w := enters_of Try.func73 (by kernel_rfl) rfl
  have hix := indexf_spans eg (cut_pred bx frm) eb hbl2 hrd
  have HR := Lib.hid hR
  have HS1 := Lib.hid hS1
  have HX := Lib.hid hx
  have HRD := Lib.hid hrd
  have HE1 := Lib.hid e1
  clear hR hS1 hT0 hO hx hu hr hok hB hS2 hbx hbl hrd eg eb
  go_enter Try.func71, Try.ntmps71
  go_wp2_with fail
  refine hix.mono ?_
  intro e w1 h
  obtain ⟨z, rfl, hb, hz⟩ := ixP_elim h
  have HB := Lib.hid hb
  have hsz := hb.size
  clear h hb hix e1
  rcases hz with ⟨rfl, hall⟩ | ⟨q, x, rfl, hxq, hpx, hall⟩
  · have HV := Lib.hid (cutN_no (s := s) hall)
    clear hall
    go_wp2
    go_ret
    exact ⟨by rw [HV.out]; rfl, (Off.refl _ wq).of_below HB.out, fun h => by rw [HV.out] at h; cases h⟩
  · have HV := Lib.hid (cutN_yes (s := s) HSP.out hxq hpx)
    have hq := el_lt hxq
    have hn : decide ((q : Int) < 0) = false := decide_eq_false (by omega)
    obtain ⟨gb, ob, rfl, _, _⟩ := HRD.out.2.2 (by omega)
    have hbc := HRD.out.1
    have hbm := HRD.out.2.1
    have hwr : IntKind.i64.wrap ((q : Int) + 1) = (q : Int) + 1 := IntWalk.i64_in _ (by omega)
    have hq0 : (0 : Int) ≤ (q : Int) := Int.natCast_nonneg _
    have hq1 : (q : Int) ≤ (bc : Int) := by omega
    have hq2 : (0 : Int) ≤ (q : Int) + 1 := by omega
    have hq3 : (q : Int) + 1 ≤ (M.length : Int) := by omega
    have hq4 : q ≤ bc := by omega
    clear hall hxq hpx
    have HRD1 := Lib.hid (mv_rd R_Span_ok HRD.out HB.out)
    have hlt : (M.take q).length = q := by rw [List.length_take]; omega
    have hld : (M.drop (q + 1)).length = M.length - (q + 1) := List.length_drop ..
    have c1 : w1.cell? ⟨g, k * 2 + 1, none⟩ = some (.slice (some ⟨gb, ob, none⟩) M.length bc) := (HB.out.cell (p := ⟨g, k * 2 + 1, none⟩) hgl).trans HE1.out
    obtain ⟨ad, had⟩ : ∃ ad : Option Addr, ad = if bc = q + 1 then some ⟨gb, ob, none⟩ else some ⟨gb, ob + (q + 1) * 2, none⟩ := ⟨_, rfl⟩
    obtain ⟨w2, hw2⟩ : ∃ w, w = (w1.alloc (.cells #[.slice (some ⟨gb, ob, none⟩) q bc, .slice ad (M.length - (q + 1)) (bc - (q + 1))] 39)).drew := ⟨_, rfl⟩
    have hb2 : Below w1.heap.size w1 w2 := by rw [hw2]; exact ((Below.refl _ _).alloc (Nat.le_refl _) _).drew
    have X2 : Blk w2 w1.heap.size 39 #[.slice (some ⟨gb, ob, none⟩) q bc, .slice ad (M.length - (q + 1)) (bc - (q + 1))] := by rw [hw2]; exact Blk.new w1 _ _
    have hrd2 := mv_rd R_Span_ok HRD1.out hb2
    have hbk := books_impl (Ls := [M.take q, M.drop (q + 1)]) (W := w2) (by simp; omega) (rd_parts (cs := [.slice (some ⟨gb, ob, none⟩) q bc, .slice ad (M.length - (q + 1)) (bc - (q + 1))]) X2 rfl (by simp) (fun i N hN => by
      match i, hN with
      | 0, hN => simp at hN; subst hN; exact ⟨_, _, by rw [hlt]; rfl, rd_take hrd2 q⟩
      | 1, hN => simp at hN; subst hN; exact ⟨_, _, by rw [hld]; rfl, rd_drop hrd2 (fun h => by rw [had, if_neg (by omega), size_SpanS])⟩
      | i + 2, hN => simp at hN))
    rw [show ([M.take q, M.drop (q + 1)] : List (List D_Span)).flatten = M.take q ++ M.drop (q + 1) by simp] at hbk
    obtain ⟨R, hRR⟩ : ∃ R, M.take q ++ M.drop (q + 1) = R := ⟨_, rfl⟩
    rw [hRR] at hbk HV
    have HBK := Lib.hid hbk
    have HB2 := Lib.hid hb2
    rw [hw2] at HBK
    have HW2 := Lib.hid hw2
    have c1' : w1.drew.cell? ⟨g, k * 2 + 1, none⟩ = some (.slice (some ⟨gb, ob, none⟩) M.length bc) := c1
    have HAD := Lib.hid had
    clear hbk hb2 X2 hrd2 hlt hld hRR c1 had hw2
    by_cases hcap : bc = q + 1
    · have HAD2 := HAD.out
      rw [if_pos hcap] at HAD2
      subst HAD2
      have hqx : (q : Int) ≤ (q : Int) + 1 := by omega
      subst hcap
      have hm0 : M.length - (q + 1) = 0 := by omega
      simp only [Nat.sub_self, hm0] at HBK HW2
      clear hm0
      go_upto_region 4 with fail
      refine wp_region_held_drew (S := (fun V => True)) (by kernel_rfl) (trivial) (fun hHeld => ?_)
      refine tk 0 hHeld ?_
      refine tk 1 hHeld ?_
      refine tk 2 hHeld ?_
      refine tk 3 hHeld ?_
      refine tk 5 hHeld ?_
      refine tk 7 hHeld ?_
      refine tk 8 hHeld ?_
      refine tk 9 hHeld ?_
      refine tk 11 hHeld ?_
      refine tk 12 hHeld ?_
      refine rd2 4 10 (fun K hK => ?_) (fun K hK => ?_)
      · skip
        go_simp
        refine hK.out _ _ trivial (fun hHeld => ?_)
        clear hK K
        refine tk 6 hHeld ?_
        refine rd1 10 (fun K hK => ?_)
        go_simp
        refine hK.out _ _ trivial (fun hHeld => ?_)
        clear hK K
        refine tk 13 hHeld ?_
        refine rd1 14 (fun K hK => ?_)
        go_simp
        refine hK.out _ _ trivial (fun hHeld => ?_)
        clear hK K
        refine rd1 15 (fun K hK => ?_)
        go_simp
        go_at_call 54
        refine (HBK.out).mono ?_
        intro e w3 h
        obtain ⟨a3, c3, rfl, ho3, hb3⟩ := newS_elim h
        rw [← HW2.out] at ho3 hb3
        have HO3 := Lib.hid ho3
        have HB3 := Lib.hid (HB2.out.trans (hb3.mono HB2.out.size))
        have hzq := HB2.out.size
        have hz3 := hb3.size
        have d1 : w3.cell? ⟨g, k * 2 + 1, none⟩ = some (.slice (some ⟨gb, ob, none⟩) M.length _) := (HB3.out.cell (p := ⟨g, k * 2 + 1, none⟩) (show g < w1.heap.size by omega)).trans c1'
        have f1 : w3.frozen? ⟨g, k * 2 + 1, none⟩ = false := (HB3.out.frozen (p := ⟨g, k * 2 + 1, none⟩) (show g < w1.heap.size by omega)).trans ((HB.out.frozen (p := ⟨g, k * 2 + 1, none⟩) hgl).trans (HR.out.soft _))
        clear h ho3 hb3
        refine hK.out _ _ trivial (fun hHeld => ?_)
        clear hK K
        refine tk 16 hHeld ?_
        refine tk 17 hHeld ?_
        refine rd1 18 (fun K hK => ?_)
        go_simp
        refine hK.out _ _ trivial (fun hHeld => ?_)
        clear hK K
        refine rd0 ?_
        clear hHeld
        go_wp2
        go_ret
        obtain ⟨hrow, hoff⟩ := Row.books2 (T := Rg w2.heap.size w3.heap.size) HR.out HS1.out HX.out (HB.out.trans (HB3.out.mono hsz)) HO3.out (fun q hq => ⟨by have := hq.1; omega, hq.2⟩)
        exact ⟨by rw [HV.out]; rfl, hoff, fun _ => by rw [HV.out]; exact hrow⟩
      · skip
        go_simp
        refine hK.out _ _ trivial (fun hHeld => ?_)
        clear hK K
        refine tk 13 hHeld ?_
        refine rd1 4 (fun K hK => ?_)
        go_simp
        refine hK.out _ _ trivial (fun hHeld => ?_)
        clear hK K
        refine tk 6 hHeld ?_
        refine rd1 14 (fun K hK => ?_)
        go_simp
        refine hK.out _ _ trivial (fun hHeld => ?_)
        clear hK K
        refine rd1 15 (fun K hK => ?_)
        go_simp
        go_at_call 54
        refine (HBK.out).mono ?_
        intro e w3 h
        obtain ⟨a3, c3, rfl, ho3, hb3⟩ := newS_elim h
        rw [← HW2.out] at ho3 hb3
        have HO3 := Lib.hid ho3
        have HB3 := Lib.hid (HB2.out.trans (hb3.mono HB2.out.size))
        have hzq := HB2.out.size
        have hz3 := hb3.size
        have d1 : w3.cell? ⟨g, k * 2 + 1, none⟩ = some (.slice (some ⟨gb, ob, none⟩) M.length _) := (HB3.out.cell (p := ⟨g, k * 2 + 1, none⟩) (show g < w1.heap.size by omega)).trans c1'
        have f1 : w3.frozen? ⟨g, k * 2 + 1, none⟩ = false := (HB3.out.frozen (p := ⟨g, k * 2 + 1, none⟩) (show g < w1.heap.size by omega)).trans ((HB.out.frozen (p := ⟨g, k * 2 + 1, none⟩) hgl).trans (HR.out.soft _))
        clear h ho3 hb3
        refine hK.out _ _ trivial (fun hHeld => ?_)
        clear hK K
        refine tk 16 hHeld ?_
        refine tk 17 hHeld ?_
        refine rd1 18 (fun K hK => ?_)
        go_simp
        refine hK.out _ _ trivial (fun hHeld => ?_)
        clear hK K
        refine rd0 ?_
        clear hHeld
        go_wp2
        go_ret
        obtain ⟨hrow, hoff⟩ := Row.books2 (T := Rg w2.heap.size w3.heap.size) HR.out HS1.out HX.out (HB.out.trans (HB3.out.mono hsz)) HO3.out (fun q hq => ⟨by have := hq.1; omega, hq.2⟩)
        exact ⟨by rw [HV.out]; rfl, hoff, fun _ => by rw [HV.out]; exact hrow⟩
    · have HAD2 := HAD.out
      rw [if_neg hcap] at HAD2
      subst HAD2
      have hcap2 : ¬ q + 1 = bc := fun e => hcap e.symm
      go_upto_region 4 with fail
      refine wp_region_held_drew (S := (fun V => True)) (by kernel_rfl) (trivial) (fun hHeld => ?_)
      refine tk 0 hHeld ?_
      refine tk 1 hHeld ?_
      refine tk 2 hHeld ?_
      refine tk 3 hHeld ?_
      refine tk 5 hHeld ?_
      refine tk 7 hHeld ?_
      refine tk 8 hHeld ?_
      refine tk 9 hHeld ?_
      refine tk 11 hHeld ?_
      refine tk 12 hHeld ?_
      refine rd2 4 10 (fun K hK => ?_) (fun K hK => ?_)
      · skip
        go_simp
        refine hK.out _ _ trivial (fun hHeld => ?_)
        clear hK K
        refine tk 6 hHeld ?_
        refine rd1 10 (fun K hK => ?_)
        go_simp
        refine hK.out _ _ trivial (fun hHeld => ?_)
        clear hK K
        refine tk 13 hHeld ?_
        refine rd1 14 (fun K hK => ?_)
        go_simp
        refine hK.out _ _ trivial (fun hHeld => ?_)
        clear hK K
        refine rd1 15 (fun K hK => ?_)
        go_simp
        go_at_call 54
        refine (HBK.out).mono ?_
        intro e w3 h
        obtain ⟨a3, c3, rfl, ho3, hb3⟩ := newS_elim h
        rw [← HW2.out] at ho3 hb3
        have HO3 := Lib.hid ho3
        have HB3 := Lib.hid (HB2.out.trans (hb3.mono HB2.out.size))
        have hzq := HB2.out.size
        have hz3 := hb3.size
        have d1 : w3.cell? ⟨g, k * 2 + 1, none⟩ = some (.slice (some ⟨gb, ob, none⟩) M.length _) := (HB3.out.cell (p := ⟨g, k * 2 + 1, none⟩) (show g < w1.heap.size by omega)).trans c1'
        have f1 : w3.frozen? ⟨g, k * 2 + 1, none⟩ = false := (HB3.out.frozen (p := ⟨g, k * 2 + 1, none⟩) (show g < w1.heap.size by omega)).trans ((HB.out.frozen (p := ⟨g, k * 2 + 1, none⟩) hgl).trans (HR.out.soft _))
        clear h ho3 hb3
        refine hK.out _ _ trivial (fun hHeld => ?_)
        clear hK K
        refine tk 16 hHeld ?_
        refine tk 17 hHeld ?_
        refine rd1 18 (fun K hK => ?_)
        go_simp
        refine hK.out _ _ trivial (fun hHeld => ?_)
        clear hK K
        refine rd0 ?_
        clear hHeld
        go_wp2
        go_ret
        obtain ⟨hrow, hoff⟩ := Row.books2 (T := Rg w2.heap.size w3.heap.size) HR.out HS1.out HX.out (HB.out.trans (HB3.out.mono hsz)) HO3.out (fun q hq => ⟨by have := hq.1; omega, hq.2⟩)
        exact ⟨by rw [HV.out]; rfl, hoff, fun _ => by rw [HV.out]; exact hrow⟩
      · skip
        go_simp
        refine hK.out _ _ trivial (fun hHeld => ?_)
        clear hK K
        refine tk 13 hHeld ?_
        refine rd1 4 (fun K hK => ?_)
        go_simp
        refine hK.out _ _ trivial (fun hHeld => ?_)
        clear hK K
        refine tk 6 hHeld ?_
        refine rd1 14 (fun K hK => ?_)
        go_simp
        refine hK.out _ _ trivial (fun hHeld => ?_)
        clear hK K
        refine rd1 15 (fun K hK => ?_)
        go_simp
        go_at_call 54
        refine (HBK.out).mono ?_
        intro e w3 h
        obtain ⟨a3, c3, rfl, ho3, hb3⟩ := newS_elim h
        rw [← HW2.out] at ho3 hb3
        have HO3 := Lib.hid ho3
        have HB3 := Lib.hid (HB2.out.trans (hb3.mono HB2.out.size))
        have hzq := HB2.out.size
        have hz3 := hb3.size
        have d1 : w3.cell? ⟨g, k * 2 + 1, none⟩ = some (.slice (some ⟨gb, ob, none⟩) M.length _) := (HB3.out.cell (p := ⟨g, k * 2 + 1, none⟩) (show g < w1.heap.size by omega)).trans c1'
        have f1 : w3.frozen? ⟨g, k * 2 + 1, none⟩ = false := (HB3.out.frozen (p := ⟨g, k * 2 + 1, none⟩) (show g < w1.heap.size by omega)).trans ((HB.out.frozen (p := ⟨g, k * 2 + 1, none⟩) hgl).trans (HR.out.soft _))
        clear h ho3 hb3
        refine hK.out _ _ trivial (fun hHeld => ?_)
        clear hK K
        refine tk 16 hHeld ?_
        refine tk 17 hHeld ?_
        refine rd1 18 (fun K hK => ?_)
        go_simp
        refine hK.out _ _ trivial (fun hHeld => ?_)
        clear hK K
        refine rd0 ?_
        clear hHeld
        go_wp2
        go_ret
        obtain ⟨hrow, hoff⟩ := Row.books2 (T := Rg w2.heap.size w3.heap.size) HR.out HS1.out HX.out (HB.out.trans (HB3.out.mono hsz)) HO3.out (fun q hq => ⟨by have := hq.1; omega, hq.2⟩)
        exact ⟨by rw [HV.out]; rfl, hoff, fun _ => by rw [HV.out]; exact hrow⟩
set_option maxRecDepth 100000 in
set_option maxHeartbeats 1600000 in
theorem cut_impl {L : List D_Node} {n frm : Int} {a : Option Addr} {cap : Nat} {W : World} (h : RdSl R_Node W W.heap.size L a cap) :
    Calls Try.prog 22 #[.slice a L.length cap, .int .i64 n, .int .i64 frm] W (NewV R_NodesOut (chgV L n true (cutN frm)) W) := by
  obtain ⟨w0, hw0⟩ : ∃ w, w = W.alloc (.cells #[.int .i64 frm] 2) := ⟨_, rfl⟩
  have hb0 : Below W.heap.size W w0 := by rw [hw0]; exact (Below.refl _ _).alloc (Nat.le_refl _) _
  have hs0 : w0.heap.size = W.heap.size + 1 := by rw [hw0]; simp
  have x0 : Blk w0 W.heap.size 2 #[.int .i64 frm] := by rw [hw0]; exact Blk.new _ _ _
  obtain ⟨w1, hw1⟩ : ∃ w, w = w0.alloc (.cells #[.slice none 0 0, .int .i64 0] 29) := ⟨_, rfl⟩
  have hb1 : Below w0.heap.size w0 w1 := by rw [hw1]; exact (Below.refl _ _).alloc (Nat.le_refl _) _
  have hs1 : w1.heap.size = W.heap.size + 2 := by rw [hw1]; simp [hs0]
  have XR := Lib.hid (show Blk w1 (W.heap.size + 1) 29 #[.slice none 0 0, .int .i64 0] from by rw [← hs0, hw1]; exact Blk.new _ _ _)
  have X1 := Lib.hid (x0.call hb1)
  have HB1 := Lib.hid (hb0.trans (hb1.mono hb0.size))
  have HSW := Lib.hid hs1
  have H := Lib.hid (mv_rd R_Node_ok h HB1.out)
  have HCH := Lib.hid (cut_chg (X1.out.at_ 0 rfl) X1.out.lt)
  have hmf : ∀ (fn : Fn) (first cap : Array Value) (w : World), (Instr.makeFunc fn first cap).run Try.prog w = .ok (.func fn first cap) w := fun _ _ _ _ => rfl
  have eg : ∀ args w, (callFunc 71 args).run Try.prog w = .ok (.enter 71 args) w := enters_of Try.func71 (by kernel_rfl) rfl
  have HEG := Lib.hid eg
  clear eg h hb0 hb1 x0 hs1
  go_enter Try.func22, Try.ntmps22
  go_wp2_with fail
  rw [← hw0, ← hw1]
  clear hw1 hw0 hs0
  refine (change_impl HEG.out H.out HCH.out).mono ?_
  intro e w5 h
  obtain ⟨⟨R, cd⟩, hd⟩ : ∃ d, chgV L n true (cutN frm) = d := ⟨_, rfl⟩
  rw [hd] at h
  have HDD := Lib.hid hd
  obtain ⟨us, rfl, hu, hb⟩ := newV_elim h
  obtain ⟨a0, c0, rfl, hu⟩ := owc_NodesOut hu
  have XR := Lib.hid (XR.out.call hb)
  have HB5 := Lib.hid (HB1.out.trans (hb.mono HB1.out.size))
  have HU := Lib.hid hu
  have q0 := XR.out.at_ 0 rfl
  have q1 := XR.out.at_ 1 rfl
  have f0 := XR.out.soft 0
  have f1 := XR.out.soft 1
  have hzr := XR.out.lt
  have hz1 := hb.size
  clear h hu hb hd
  go_wp2
  refine bodyPost_ret (v := .agg #[.slice a0 R.length c0, .int .i64 cd]) (by simp [results, Try.results22, go_sem, *]) rfl ⟨[.slice a0 R.length c0, .int .i64 cd], rfl, ?_, (HB5.out.setCell (p := ⟨W.heap.size + 1, 0, none⟩) (show W.heap.size ≤ W.heap.size + 1 by omega) _).setCell (p := ⟨W.heap.size + 1, 1, none⟩) (show W.heap.size ≤ W.heap.size + 1 by omega) _⟩
  have hsw := HSW.out
  rw [HDD.out]
  refine R_NodesOut_ok.ow_more (R_NodesOut_ok.ow_keep HU.out fun q hq => ?_) fun q hq => ⟨?_, ?_⟩
  · have hq1 := hq.1
    rw [Below.heap_setCell _ ⟨W.heap.size + 1, 1, none⟩ _ q (show q ≠ W.heap.size + 1 by omega), Below.heap_setCell _ ⟨W.heap.size + 1, 0, none⟩ _ q (show q ≠ W.heap.size + 1 by omega)]
  · have hq1 := hq.1
    omega
  · have hq2 := hq.2
    simp; exact hq2
end Go.Proofs.Ytfciojkibklkfaa.RepC
