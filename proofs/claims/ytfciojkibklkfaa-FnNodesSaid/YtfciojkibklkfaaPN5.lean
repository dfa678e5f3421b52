/- Of this claim's texts the part 5: NdT3 NdT4 NdT2. -/
import Derived.Test.YtfciojkibklkfaaPN4
section
namespace Go.Proofs.Ytfciojkibklkfaa.RepC
open Go.RowKit RowC ValC SpanC KeptC
set_option linter.unusedVariables false
set_option linter.unusedSimpArgs false
theorem putN_range {x : D_Span} {now : Int} {d : D_Node} (h : (decide (x.1 ≤ now) || decide (now + 40 < x.2)) = true) : putN x now d = (8, d) := by unfold putN; rw [if_pos h]
theorem putN_there {x : D_Span} {now : Int} {d : D_Node} (h : (decide (x.1 ≤ now) || decide (now + 40 < x.2)) = false) (h2 : ¬ FreeP d.2.length (gt d.2) x.1 x.2) : putN x now d = (7, d) := by unfold putN; rw [if_neg (by rw [h]; decide), if_pos h2]
theorem putN_full {x : D_Span} {now : Int} {d : D_Node} (h : (decide (x.1 ≤ now) || decide (now + 40 < x.2)) = false) (h2 : FreeP d.2.length (gt d.2) x.1 x.2) (h3 : d.2.length = 4) : putN x now d = (9, d) := by unfold putN; rw [if_neg (by rw [h]; decide), if_neg (fun h => h h2), if_pos h3]
theorem putN_yes {x : D_Span} {now : Int} {d : D_Node} (h : (decide (x.1 ≤ now) || decide (now + 40 < x.2)) = false) (h2 : FreeP d.2.length (gt d.2) x.1 x.2) (h3 : ¬ d.2.length = 4) : putN x now d = (0, (d.1, putL d.2 x)) := by unfold putN; rw [if_neg (by rw [h]; decide), if_neg (fun h => h h2), if_neg h3]
set_option maxRecDepth 100000 in
set_option maxHeartbeats 8000000 in
theorem put_chg {bx bn : Nat} {a b now : Int} {W : World} (hx0 : W.cell? ⟨bx, 0, none⟩ = some (.int .i64 a)) (hx1 : W.cell? ⟨bx, 1, none⟩ = some (.int .i64 b)) (hxl : bx < W.heap.size) (hn0 : W.cell? ⟨bn, 0, none⟩ = some (.int .i64 now)) (hnl : bn < W.heap.size) (hsp : spB a b = true) (hnow : isB now 0 999900 = true) :
    ChgF 52 #[.pointer (some ⟨bx, 0, none⟩), .pointer (some ⟨bn, 0, none⟩)] (putN (a, b) now) W := fun wq S L g k Sf x hR hS1 hS2 hB hx hok => by
  show Calls Try.prog 52 #[.pointer (some ⟨g, k * 2, none⟩), .pointer (some ⟨bx, 0, none⟩), .pointer (some ⟨bn, 0, none⟩)] wq _
  obtain ⟨us, hu, hr⟩ := hR.el k x hx
  obtain ⟨s, M⟩ := x
  obtain ⟨ba, bc, T0, rfl, hT0, hO⟩ := ow_Node hr
  rw [size_NodeS] at hu
  have hgl : g < wq.heap.size := hS1 g hR.own
  have e1 : wq.cell? ⟨g, k * 2 + 1, none⟩ = some (.slice ba M.length bc) := hu 1 _ rfl
  have x0 : wq.cell? ⟨bx, 0, none⟩ = some (.int .i64 a) := (hB.cell (p := ⟨bx, 0, none⟩) hxl).trans hx0
  have x1 : wq.cell? ⟨bx, 1, none⟩ = some (.int .i64 b) := (hB.cell (p := ⟨bx, 1, none⟩) hxl).trans hx1
  have y0 : wq.cell? ⟨bn, 0, none⟩ = some (.int .i64 now) := (hB.cell (p := ⟨bn, 0, none⟩) hnl).trans hn0
  have hxg : bx ≠ g := fun e => by have := hS2 g hR.own; omega
  have hxl2 : bx < wq.heap.size := Nat.lt_of_lt_of_le hxl hB.size
  have hrd : RdSl R_Span wq wq.heap.size M ba bc := hO.rd R_Span_ok fun q hq => hS1 q (hR.sub k q (hT0 q hq)).1
  have hm4 : M.length ≤ 4 := hok.2.1
  have HSP := Lib.hid hok.2.2
  have HAB := Lib.hid ((spB_iff a b).1 hsp)
  have hnb := (isB_iff _ _ _).1 hnow
  have hwr : IntKind.i64.wrap (now + 40) = now + 40 := IntWalk.i64_in _ (by omega)
  have HR := Lib.hid hR
  have HS1 := Lib.hid hS1
  have HX := Lib.hid hx
  have HRD := Lib.hid hrd
  have HE1 := Lib.hid e1
  have HX0 := Lib.hid x0
  have HX1 := Lib.hid x1
  clear hR hS1 hT0 hO hx hu hr hok hB hS2 hrd hx0 hx1 hn0 hsp hnow hnb hxl hnl
  by_cases h1 : a ≤ now
  · have HV := Lib.hid (putN_range (x := (a, b)) (now := now) (d := (s, M)) (by simp [h1]))
    have hd1 : decide (a ≤ now) = true := decide_eq_true h1
    clear h1 e1
    go_enter Try.func52, Try.ntmps52
    go_wp2
    go_ret
    exact ⟨by rw [HV.out]; rfl, Off.refl _ wq, fun h => by rw [HV.out] at h; cases h⟩
  have hd1 : decide (a ≤ now) = false := decide_eq_false h1
  by_cases h2 : now + 40 < b
  · have HV := Lib.hid (putN_range (x := (a, b)) (now := now) (d := (s, M)) (by simp [h2]))
    have hd2 : decide (now + 40 < b) = true := decide_eq_true h2
    clear h1 h2 e1
    go_enter Try.func52, Try.ntmps52
    go_wp2
    go_ret
    exact ⟨by rw [HV.out]; rfl, Off.refl _ wq, fun h => by rw [HV.out] at h; cases h⟩
  have hd2 : decide (now + 40 < b) = false := decide_eq_false h2
  have HRG := Lib.hid (show (decide ((a, b).1 ≤ now) || decide (now + 40 < (a, b).2)) = false from by show (decide (a ≤ now) || decide (now + 40 < b)) = false; rw [hd1, hd2]; rfl)
  clear h1 h2
  go_enter Try.func52, Try.ntmps52
  go_wp2_with fail
  clear x0 x1 y0 e1
  refine wp_region_held_drew (S := (fun V => Below (wq).heap.size (wq) V)) (by kernel_rfl) ((Below.refl _ _).drew) (fun hHeld => ?_)
  refine tk 0 hHeld ?_
  refine tk 1 hHeld ?_
  refine tk 2 hHeld ?_
  refine tk 3 hHeld ?_ (hy := fun w hSw => by (try dsimp only at hSw); have k0 := (hSw.cell (p := ⟨g, k * 2 + 1, none⟩) hgl).trans HE1.out; clear hSw; go_simp; try with_reducible rfl)
  refine tk 4 hHeld ?_ (hy := fun w hSw => by (try dsimp only at hSw); have k0 := (hSw.cell (p := ⟨bx, 0, none⟩) hxl2).trans HX0.out; have k1 := (hSw.cell (p := ⟨bx, 1, none⟩) hxl2).trans HX1.out; clear hSw; go_simp; try with_reducible rfl)
  refine rd1 5 (fun K hK => ?_)
  go_simp
  go_at_call 23
  refine (isfree_impl ba M.length bc (gt M) a b _ (by omega) (pa_of (mv_rd R_Span_ok HRD.out hHeld) (Nat.le_refl _))).mono ?_
  intro e w3 h
  obtain ⟨z3, rfl, hz3, hb⟩ := resB_elim h
  have HZ3 := Lib.hid hz3
  clear h hz3
  refine hK.out _ _ (hHeld.trans (hb.mono hHeld.size)) (fun hHeld => ?_)
  clear hK K hb
  refine tk 6 hHeld ?_
  refine tk 7 hHeld ?_
  refine rd0 ?_
  have HF := Lib.hid hHeld
  clear hHeld
  have HB3 := HF
  have hz3w := HB3.out.size
  have e3 : w3.cell? ⟨g, k * 2 + 1, none⟩ = some (.slice ba M.length bc) := (HB3.out.cell (p := ⟨g, k * 2 + 1, none⟩) hgl).trans HE1.out
  cases z3 with
  | false =>
    have HV := Lib.hid (putN_there (x := (a, b)) (d := (s, M)) HRG.out (fun h => by have := HZ3.out.2 ⟨HSP.out, HAB.out, h⟩; cases this))
    clear e3
    go_wp2
    go_ret
    exact ⟨by rw [HV.out]; rfl, (Off.refl _ wq).of_below HB3.out, fun h => by rw [HV.out] at h; cases h⟩
  | true =>
  have HFB := Lib.hid (HZ3.out.1 rfl)
  by_cases h4 : M.length = 4
  · have HV := Lib.hid (putN_full (x := (a, b)) (d := (s, M)) HRG.out HFB.out.2.2 h4)
    have hq4 : ((M.length : Int) == 4) = true := beq_iff_eq.2 (by omega)
    clear h4
    go_wp2
    go_ret
    exact ⟨by rw [HV.out]; rfl, (Off.refl _ wq).of_below HB3.out, fun h => by rw [HV.out] at h; cases h⟩
  have hq4 : ((M.length : Int) == 4) = false := beq_eq_false_iff_ne.2 (by omega)
  have HPY := Lib.hid (putN_yes (x := (a, b)) (d := (s, M)) HRG.out HFB.out.2.2 h4)
  clear h4
  go_upto_region 7 with fail
  clear e3 hq4
  refine wp_region_held_drew (S := (fun V => Below (w3).heap.size (w3) V)) (by kernel_rfl) ((Below.refl _ _).drew) (fun hHeld => ?_)
  refine tk 0 hHeld ?_
  refine tk 1 hHeld ?_
  refine tk 2 hHeld ?_
  refine tk 3 hHeld ?_ (hy := fun w hSw => by (try dsimp only at hSw); have k0 := (hSw.cell (p := ⟨g, k * 2 + 1, none⟩) (show g < w3.heap.size by omega)).trans ((HB3.out.cell (p := ⟨g, k * 2 + 1, none⟩) hgl).trans HE1.out); clear hSw; go_simp; try with_reducible rfl)
  refine tk 4 hHeld ?_ (hy := fun w hSw => by (try dsimp only at hSw); have k0 := (hSw.cell (p := ⟨bx, 0, none⟩) (show bx < w3.heap.size by omega)).trans ((HB3.out.cell (p := ⟨bx, 0, none⟩) hxl2).trans HX0.out); have k1 := (hSw.cell (p := ⟨bx, 1, none⟩) (show bx < w3.heap.size by omega)).trans ((HB3.out.cell (p := ⟨bx, 1, none⟩) hxl2).trans HX1.out); clear hSw; go_simp; try with_reducible rfl)
  refine rd1 5 (fun K hK => ?_)
  go_simp
  go_at_call 53
  refine (place_impl ba M.length bc (gt M) a b _ (by omega) (pa_of (mv_rd R_Span_ok (mv_rd R_Span_ok HRD.out HB3.out) hHeld) (Nat.le_refl _))).mono ?_
  intro e w4 h
  obtain ⟨p, rfl, hpp, hb⟩ := resPlace_elim h
  have HPP := Lib.hid hpp
  clear h hpp
  refine hK.out _ _ (hHeld.trans (hb.mono hHeld.size)) (fun hHeld => ?_)
  clear hK K hb
  refine tk 6 hHeld ?_
  refine rd0 ?_
  have HF := Lib.hid hHeld
  clear hHeld
  have HB4 := Lib.hid (HB3.out.trans (HF.out.mono HB3.out.size))
  have hz4w := HB4.out.size
  clear HF
  have hpm := HPP.out.1
  have HV := Lib.hid (show putN (a, b) now (s, M) = (0, (s, M.take p ++ (a, b) :: M.drop p)) from by rw [HPY.out, putL_eq HPP.out])
  obtain ⟨R, hRR⟩ : ∃ R, M.take p ++ (a, b) :: M.drop p = R := ⟨_, rfl⟩
  have HRR := Lib.hid hRR
  rw [hRR] at HV
  clear hRR
  have hbc := HRD.out.1
  have hbm := HRD.out.2.1
  have hp0 : (0 : Int) ≤ (p : Int) := Int.natCast_nonneg _
  have hp1 : (p : Int) ≤ (bc : Int) := by omega
  have hp2 : (p : Int) ≤ (M.length : Int) := by omega
  have hp3 : p ≤ bc := by omega
  have HRD4 := Lib.hid (mv_rd R_Span_ok HRD.out HB4.out)
  have c4 : w4.drew.cell? ⟨g, k * 2 + 1, none⟩ = some (.slice ba M.length bc) := (HB4.out.cell (p := ⟨g, k * 2 + 1, none⟩) hgl).trans HE1.out
  have hgl4 : g < w4.heap.size := by omega
  have b0 : w4.cell? ⟨bx, 0, none⟩ = some (.int .i64 a) := (HB4.out.cell (p := ⟨bx, 0, none⟩) hxl2).trans HX0.out
  have b1 : w4.cell? ⟨bx, 1, none⟩ = some (.int .i64 b) := (HB4.out.cell (p := ⟨bx, 1, none⟩) hxl2).trans HX1.out
  have hcell : ∀ V : World, V.heap[bx]? = w4.heap[bx]? → V.cell? ⟨bx, 0, none⟩ = some (.int .i64 a) ∧ V.cell? ⟨bx, 1, none⟩ = some (.int .i64 b) := fun V h => ⟨(World.cell?_of_block (a := ⟨bx, 0, none⟩) h).trans b0, (World.cell?_of_block (a := ⟨bx, 1, none⟩) h).trans b1⟩
  -- the span's own block
  obtain ⟨v1, hv1⟩ : ∃ w, w = (w4.alloc (.cells #[.int .i64 a, .int .i64 b] 25)).drew := ⟨_, rfl⟩
  have hbv1 : Below w4.heap.size w4 v1 := by rw [hv1]; exact ((Below.refl _ _).alloc (Nat.le_refl _) _).drew
  have Y1 : Blk v1 w4.heap.size 25 #[.int .i64 a, .int .i64 b] := by rw [hv1]; exact Blk.new w4 _ _
  have hv1s : v1.heap.size = w4.heap.size + 1 := by rw [hv1]; simp
  have c5 : v1.cell? ⟨g, k * 2 + 1, none⟩ = some (.slice ba M.length bc) := (hbv1.cell (p := ⟨g, k * 2 + 1, none⟩) hgl4).trans c4
  have HBV1 := Lib.hid hbv1
  have HY1 := Lib.hid Y1
  have SV1 := Lib.hid (hcell v1 (hbv1.block bx (by omega)))
  have hS4 : w4.drew.cell? ⟨bx, 0, none⟩ = some (.int .i64 a) ∧ w4.drew.cell? ⟨bx, 1, none⟩ = some (.int .i64 b) := hcell w4.drew rfl
  have HCE := Lib.hid hcell
  have HV1 := Lib.hid hv1
  have HS4 := Lib.hid hS4
  have HRG3 : ∀ (ad : Option Addr) (cd : Nat), cd ≤ maxLen → (p < M.length → (∃ g o, ba = some ⟨g, o, none⟩ ∧ ad = some ⟨g, o + p * 2, none⟩) ∧ cd = bc - p) →
      ∀ v2, v2 = v1.alloc (.cells #[.slice ba p bc, .slice (some ⟨w4.heap.size, 0, none⟩) 1 1, .slice ad (M.length - p) cd] 39) → Calls Try.prog 54 #[.slice (some ⟨w4.heap.size + 1, 0, none⟩) 3 3] v2 (NewS R_Span R v2) ∧ Below w4.heap.size w4 v2 := by
    intro ad cd hcd had v2 hv2
    have hb12 : Below v1.heap.size v1 v2 := by rw [hv2]; exact (Below.refl _ _).alloc (Nat.le_refl _) _
    have hbv2 : Below w4.heap.size w4 v2 := HBV1.out.trans (hb12.mono HBV1.out.size)
    have X2 : Blk v2 v1.heap.size 39 #[.slice ba p bc, .slice (some ⟨w4.heap.size, 0, none⟩) 1 1, .slice ad (M.length - p) cd] := by rw [hv2]; exact Blk.new v1 _ _
    have hrd2 := mv_rd R_Span_ok HRD4.out hbv2
    have hone := rd_oneS a b (HY1.out.call hb12)
    have hlt : (M.take p).length = p := by rw [List.length_take]; omega
    have hld : (M.drop p).length = M.length - p := List.length_drop ..
    have hbk := books_impl (Ls := [M.take p, [(a, b)], M.drop p]) (W := v2) (by simp; omega) (rd_parts (cs := [.slice ba p bc, .slice (some ⟨w4.heap.size, 0, none⟩) 1 1, .slice ad (M.length - p) cd]) X2 rfl (by simp) (fun i N hN => by
      match i, hN with
      | 0, hN => simp at hN; subst hN; exact ⟨_, _, by rw [hlt]; rfl, rd_take hrd2 p⟩
      | 1, hN => simp at hN; subst hN; exact ⟨_, _, rfl, hone⟩
      | 2, hN =>
        simp at hN; subst hN
        refine ⟨ad, cd, by rw [hld]; rfl, ?_⟩
        by_cases hp : p < M.length
        · obtain ⟨⟨g', o', e, had2⟩, hcde⟩ := had hp
          rw [e] at hrd2
          rw [hcde]
          exact rd_drop hrd2 (fun h => by rw [had2, size_SpanS])
        · have h0 : M.drop p = [] := List.drop_eq_nil_of_le (by omega)
          rw [h0]
          exact ⟨Nat.zero_le _, hcd, fun h => absurd h (Nat.lt_irrefl _)⟩
      | i + 3, hN => simp at hN))
    rw [show ([M.take p, [(a, b)], M.drop p] : List (List D_Span)).flatten = M.take p ++ (a, b) :: M.drop p by simp, HRR.out, hv1s] at hbk
    exact ⟨hbk, hbv2⟩
  have H3 := Lib.hid HRG3
  clear hbv1 Y1 hS4 hcell hv1 HRG3 b0 b1
  by_cases hM0 : M.length = 0
  rotate_left
  · obtain ⟨gb, ob, rfl, _, _⟩ := HRD.out.2.2 (by omega)
    clear hM0
    by_cases hcap : bc = p
    · have hml : M.length = p := by omega
      have hm0 : M.length - p = 0 := by omega
      have hcap' := hcap.symm
      subst hcap'
      obtain ⟨v2, hv2⟩ : ∃ w, w = v1.alloc (.cells #[.slice (some ⟨gb, ob, none⟩) p p, .slice (some ⟨w4.heap.size, 0, none⟩) 1 1, .slice (some ⟨gb, ob, none⟩) (M.length - p) (0)] 39) := ⟨_, rfl⟩
      obtain ⟨hbk, hbv2⟩ := H3.out (some ⟨gb, ob, none⟩) (0) (by unfold maxLen at hbm ⊢; omega) (fun h => by omega) v2 hv2
      have HBK := Lib.hid hbk
      have HBV2 := Lib.hid hbv2
      have SV2 := Lib.hid (HCE.out v2 (hbv2.block bx (by omega)))
      have hw2 : v2 = ((w4.alloc (.cells #[.int .i64 a, .int .i64 b] 25)).alloc (.cells #[.slice (some ⟨gb, ob, none⟩) p p, .slice (some ⟨w4.heap.size, 0, none⟩) 1 1, .slice (some ⟨gb, ob, none⟩) (M.length - p) (0)] 39)).drew := by rw [hv2, HV1.out]; rfl
      rw [hw2] at HBK SV2
      have HW2 := Lib.hid hw2
      rw [HV1.out] at c5
      have SV1 := SV1
      rw [HV1.out] at SV1
      clear hbk hbv2 hv2 hv1s hw2
      rw [hm0] at HBK HW2 SV2
      go_upto_region 8 with fail
      refine wp_region_held_drew (S := (fun V => V.cell? ⟨bx, 0, none⟩ = some (.int .i64 a) ∧ V.cell? ⟨bx, 1, none⟩ = some (.int .i64 b))) (by kernel_rfl) (HS4.out) (fun hHeld => ?_)
      refine tk 0 hHeld ?_
      refine tk 1 hHeld ?_
      refine tk 2 hHeld ?_
      refine tk 3 hHeld ?_
      refine tk 5 hHeld ?_
      refine tk 7 hHeld ?_ (hy := fun w hSw => by (try dsimp only at hSw); have k0 := hSw.1; have k1 := hSw.2; clear hSw; go_simp; try with_reducible rfl)
      refine tk 9 hHeld ?_
      refine tk 10 hHeld ?_
      refine tk 11 hHeld ?_
      refine tk 13 hHeld ?_
      refine rd3 4 8 12 (fun K hK => ?_) (fun K hK => ?_) (fun K hK => ?_)
      · skip
        go_simp
        refine hK.out _ _ hHeld (fun hHeld => ?_)
        clear hK K
        refine tk 6 hHeld ?_
        refine rd2 8 12 (fun K hK => ?_) (fun K hK => ?_)
        · skip
          go_simp
          refine hK.out _ _ SV1.out (fun hHeld => ?_)
          clear hK K
          refine rd1 12 (fun K hK => ?_)
          go_simp
          refine hK.out _ _ hHeld (fun hHeld => ?_)
          clear hK K
          refine tk 14 hHeld ?_
          refine rd1 15 (fun K hK => ?_)
          go_simp
          refine hK.out _ _ SV2.out (fun hHeld => ?_)
          clear hK K
          refine rd1 16 (fun K hK => ?_)
          go_simp
          go_at_call 54
          refine (HBK.out).mono ?_
          intro e w5 h
          obtain ⟨a3, c3, rfl, ho3, hb3⟩ := newS_elim h
          rw [← HW2.out] at ho3 hb3
          have HO3 := Lib.hid ho3
          have HB5 := Lib.hid (HBV2.out.trans (hb3.mono HBV2.out.size))
          have hzq := HBV2.out.size
          have hz3 := hb3.size
          have d1 : w5.cell? ⟨g, k * 2 + 1, none⟩ = some (.slice _ _ _) := (HB5.out.cell (p := ⟨g, k * 2 + 1, none⟩) hgl4).trans c4
          have f1 : w5.frozen? ⟨g, k * 2 + 1, none⟩ = false := (HB5.out.frozen (p := ⟨g, k * 2 + 1, none⟩) hgl4).trans ((HB4.out.frozen (p := ⟨g, k * 2 + 1, none⟩) hgl).trans (HR.out.soft _))
          have SF := Lib.hid (HCE.out w5 (HB5.out.block bx (by omega)))
          have SF2 := Lib.hid (HCE.out (w5.setCell ⟨g, k * 2 + 1, none⟩ (.slice a3 R.length c3)) ((Below.heap_setCell w5 ⟨g, k * 2 + 1, none⟩ _ bx hxg).trans (HB5.out.block bx (by omega))))
          clear h ho3 hb3
          refine hK.out _ _ SF.out (fun hHeld => ?_)
          clear hK K
          refine tk 17 hHeld ?_
          refine tk 18 hHeld ?_
          refine rd1 19 (fun K hK => ?_)
          go_simp
          refine hK.out _ _ SF2.out (fun hHeld => ?_)
          clear hK K
          refine rd0 ?_
          clear hHeld
          go_wp2
          go_ret
          obtain ⟨hrow, hoff⟩ := Row.books2 (T := Rg v2.heap.size w5.heap.size) HR.out HS1.out HX.out (HB4.out.trans (HB5.out.mono (by omega))) HO3.out (fun q hq => ⟨by have := hq.1; omega, hq.2⟩)
          exact ⟨by rw [HV.out]; rfl, hoff, fun _ => by rw [HV.out]; exact hrow⟩
        · skip
          go_simp
          refine hK.out _ _ hHeld (fun hHeld => ?_)
          clear hK K
          refine tk 14 hHeld ?_
          refine rd1 8 (fun K hK => ?_)
          go_simp
          refine hK.out _ _ SV1.out (fun hHeld => ?_)
          clear hK K
          refine rd1 15 (fun K hK => ?_)
          go_simp
          refine hK.out _ _ SV2.out (fun hHeld => ?_)
          clear hK K
          refine rd1 16 (fun K hK => ?_)
          go_simp
          go_at_call 54
          refine (HBK.out).mono ?_
          intro e w5 h
          obtain ⟨a3, c3, rfl, ho3, hb3⟩ := newS_elim h
          rw [← HW2.out] at ho3 hb3
          have HO3 := Lib.hid ho3
          have HB5 := Lib.hid (HBV2.out.trans (hb3.mono HBV2.out.size))
          have hzq := HBV2.out.size
          have hz3 := hb3.size
          have d1 : w5.cell? ⟨g, k * 2 + 1, none⟩ = some (.slice _ _ _) := (HB5.out.cell (p := ⟨g, k * 2 + 1, none⟩) hgl4).trans c4
          have f1 : w5.frozen? ⟨g, k * 2 + 1, none⟩ = false := (HB5.out.frozen (p := ⟨g, k * 2 + 1, none⟩) hgl4).trans ((HB4.out.frozen (p := ⟨g, k * 2 + 1, none⟩) hgl).trans (HR.out.soft _))
          have SF := Lib.hid (HCE.out w5 (HB5.out.block bx (by omega)))
          have SF2 := Lib.hid (HCE.out (w5.setCell ⟨g, k * 2 + 1, none⟩ (.slice a3 R.length c3)) ((Below.heap_setCell w5 ⟨g, k * 2 + 1, none⟩ _ bx hxg).trans (HB5.out.block bx (by omega))))
          clear h ho3 hb3
          refine hK.out _ _ SF.out (fun hHeld => ?_)
          clear hK K
          refine tk 17 hHeld ?_
          refine tk 18 hHeld ?_
          refine rd1 19 (fun K hK => ?_)
          go_simp
          refine hK.out _ _ SF2.out (fun hHeld => ?_)
          clear hK K
          refine rd0 ?_
          clear hHeld
          go_wp2
          go_ret
          obtain ⟨hrow, hoff⟩ := Row.books2 (T := Rg v2.heap.size w5.heap.size) HR.out HS1.out HX.out (HB4.out.trans (HB5.out.mono (by omega))) HO3.out (fun q hq => ⟨by have := hq.1; omega, hq.2⟩)
          exact ⟨by rw [HV.out]; rfl, hoff, fun _ => by rw [HV.out]; exact hrow⟩
      · skip
        go_simp
        refine hK.out _ _ SV1.out (fun hHeld => ?_)
        clear hK K
        refine rd2 4 12 (fun K hK => ?_) (fun K hK => ?_)
        · skip
          go_simp
          refine hK.out _ _ hHeld (fun hHeld => ?_)
          clear hK K
          refine tk 6 hHeld ?_
          refine rd1 12 (fun K hK => ?_)
          go_simp
          refine hK.out _ _ hHeld (fun hHeld => ?_)
          clear hK K
          refine tk 14 hHeld ?_
          refine rd1 15 (fun K hK => ?_)
          go_simp
          refine hK.out _ _ SV2.out (fun hHeld => ?_)
          clear hK K
          refine rd1 16 (fun K hK => ?_)
          go_simp
          go_at_call 54
          refine (HBK.out).mono ?_
          intro e w5 h
          obtain ⟨a3, c3, rfl, ho3, hb3⟩ := newS_elim h
          rw [← HW2.out] at ho3 hb3
          have HO3 := Lib.hid ho3
          have HB5 := Lib.hid (HBV2.out.trans (hb3.mono HBV2.out.size))
          have hzq := HBV2.out.size
          have hz3 := hb3.size
          have d1 : w5.cell? ⟨g, k * 2 + 1, none⟩ = some (.slice _ _ _) := (HB5.out.cell (p := ⟨g, k * 2 + 1, none⟩) hgl4).trans c4
          have f1 : w5.frozen? ⟨g, k * 2 + 1, none⟩ = false := (HB5.out.frozen (p := ⟨g, k * 2 + 1, none⟩) hgl4).trans ((HB4.out.frozen (p := ⟨g, k * 2 + 1, none⟩) hgl).trans (HR.out.soft _))
          have SF := Lib.hid (HCE.out w5 (HB5.out.block bx (by omega)))
          have SF2 := Lib.hid (HCE.out (w5.setCell ⟨g, k * 2 + 1, none⟩ (.slice a3 R.length c3)) ((Below.heap_setCell w5 ⟨g, k * 2 + 1, none⟩ _ bx hxg).trans (HB5.out.block bx (by omega))))
          clear h ho3 hb3
          refine hK.out _ _ SF.out (fun hHeld => ?_)
          clear hK K
          refine tk 17 hHeld ?_
          refine tk 18 hHeld ?_
          refine rd1 19 (fun K hK => ?_)
          go_simp
          refine hK.out _ _ SF2.out (fun hHeld => ?_)
          clear hK K
          refine rd0 ?_
          clear hHeld
          go_wp2
          go_ret
          obtain ⟨hrow, hoff⟩ := Row.books2 (T := Rg v2.heap.size w5.heap.size) HR.out HS1.out HX.out (HB4.out.trans (HB5.out.mono (by omega))) HO3.out (fun q hq => ⟨by have := hq.1; omega, hq.2⟩)
          exact ⟨by rw [HV.out]; rfl, hoff, fun _ => by rw [HV.out]; exact hrow⟩
        · skip
          go_simp
          refine hK.out _ _ hHeld (fun hHeld => ?_)
          clear hK K
          refine tk 14 hHeld ?_
          refine rd1 4 (fun K hK => ?_)
          go_simp
          refine hK.out _ _ hHeld (fun hHeld => ?_)
          clear hK K
          refine tk 6 hHeld ?_
          refine rd1 15 (fun K hK => ?_)
          go_simp
          refine hK.out _ _ SV2.out (fun hHeld => ?_)
          clear hK K
          refine rd1 16 (fun K hK => ?_)
          go_simp
          go_at_call 54
          refine (HBK.out).mono ?_
          intro e w5 h
          obtain ⟨a3, c3, rfl, ho3, hb3⟩ := newS_elim h
          rw [← HW2.out] at ho3 hb3
          have HO3 := Lib.hid ho3
          have HB5 := Lib.hid (HBV2.out.trans (hb3.mono HBV2.out.size))
          have hzq := HBV2.out.size
          have hz3 := hb3.size
          have d1 : w5.cell? ⟨g, k * 2 + 1, none⟩ = some (.slice _ _ _) := (HB5.out.cell (p := ⟨g, k * 2 + 1, none⟩) hgl4).trans c4
          have f1 : w5.frozen? ⟨g, k * 2 + 1, none⟩ = false := (HB5.out.frozen (p := ⟨g, k * 2 + 1, none⟩) hgl4).trans ((HB4.out.frozen (p := ⟨g, k * 2 + 1, none⟩) hgl).trans (HR.out.soft _))
          have SF := Lib.hid (HCE.out w5 (HB5.out.block bx (by omega)))
          have SF2 := Lib.hid (HCE.out (w5.setCell ⟨g, k * 2 + 1, none⟩ (.slice a3 R.length c3)) ((Below.heap_setCell w5 ⟨g, k * 2 + 1, none⟩ _ bx hxg).trans (HB5.out.block bx (by omega))))
          clear h ho3 hb3
          refine hK.out _ _ SF.out (fun hHeld => ?_)
          clear hK K
          refine tk 17 hHeld ?_
          refine tk 18 hHeld ?_
          refine rd1 19 (fun K hK => ?_)
          go_simp
          refine hK.out _ _ SF2.out (fun hHeld => ?_)
          clear hK K
          refine rd0 ?_
          clear hHeld
          go_wp2
          go_ret
          obtain ⟨hrow, hoff⟩ := Row.books2 (T := Rg v2.heap.size w5.heap.size) HR.out HS1.out HX.out (HB4.out.trans (HB5.out.mono (by omega))) HO3.out (fun q hq => ⟨by have := hq.1; omega, hq.2⟩)
          exact ⟨by rw [HV.out]; rfl, hoff, fun _ => by rw [HV.out]; exact hrow⟩
      · skip
        go_simp
        refine hK.out _ _ hHeld (fun hHeld => ?_)
        clear hK K
        refine tk 14 hHeld ?_
        refine rd2 4 8 (fun K hK => ?_) (fun K hK => ?_)
        · skip
          go_simp
          refine hK.out _ _ hHeld (fun hHeld => ?_)
          clear hK K
          refine tk 6 hHeld ?_
          refine rd1 8 (fun K hK => ?_)
          go_simp
          refine hK.out _ _ SV1.out (fun hHeld => ?_)
          clear hK K
          refine rd1 15 (fun K hK => ?_)
          go_simp
          refine hK.out _ _ SV2.out (fun hHeld => ?_)
          clear hK K
          refine rd1 16 (fun K hK => ?_)
          go_simp
          go_at_call 54
          refine (HBK.out).mono ?_
          intro e w5 h
          obtain ⟨a3, c3, rfl, ho3, hb3⟩ := newS_elim h
          rw [← HW2.out] at ho3 hb3
          have HO3 := Lib.hid ho3
          have HB5 := Lib.hid (HBV2.out.trans (hb3.mono HBV2.out.size))
          have hzq := HBV2.out.size
          have hz3 := hb3.size
          have d1 : w5.cell? ⟨g, k * 2 + 1, none⟩ = some (.slice _ _ _) := (HB5.out.cell (p := ⟨g, k * 2 + 1, none⟩) hgl4).trans c4
          have f1 : w5.frozen? ⟨g, k * 2 + 1, none⟩ = false := (HB5.out.frozen (p := ⟨g, k * 2 + 1, none⟩) hgl4).trans ((HB4.out.frozen (p := ⟨g, k * 2 + 1, none⟩) hgl).trans (HR.out.soft _))
          have SF := Lib.hid (HCE.out w5 (HB5.out.block bx (by omega)))
          have SF2 := Lib.hid (HCE.out (w5.setCell ⟨g, k * 2 + 1, none⟩ (.slice a3 R.length c3)) ((Below.heap_setCell w5 ⟨g, k * 2 + 1, none⟩ _ bx hxg).trans (HB5.out.block bx (by omega))))
          clear h ho3 hb3
          refine hK.out _ _ SF.out (fun hHeld => ?_)
          clear hK K
          refine tk 17 hHeld ?_
          refine tk 18 hHeld ?_
          refine rd1 19 (fun K hK => ?_)
          go_simp
          refine hK.out _ _ SF2.out (fun hHeld => ?_)
          clear hK K
          refine rd0 ?_
          clear hHeld
          go_wp2
          go_ret
          obtain ⟨hrow, hoff⟩ := Row.books2 (T := Rg v2.heap.size w5.heap.size) HR.out HS1.out HX.out (HB4.out.trans (HB5.out.mono (by omega))) HO3.out (fun q hq => ⟨by have := hq.1; omega, hq.2⟩)
          exact ⟨by rw [HV.out]; rfl, hoff, fun _ => by rw [HV.out]; exact hrow⟩
        · skip
          go_simp
          refine hK.out _ _ SV1.out (fun hHeld => ?_)
          clear hK K
          refine rd1 4 (fun K hK => ?_)
          go_simp
          refine hK.out _ _ hHeld (fun hHeld => ?_)
          clear hK K
          refine tk 6 hHeld ?_
          refine rd1 15 (fun K hK => ?_)
          go_simp
          refine hK.out _ _ SV2.out (fun hHeld => ?_)
          clear hK K
          refine rd1 16 (fun K hK => ?_)
          go_simp
          go_at_call 54
          refine (HBK.out).mono ?_
          intro e w5 h
          obtain ⟨a3, c3, rfl, ho3, hb3⟩ := newS_elim h
          rw [← HW2.out] at ho3 hb3
          have HO3 := Lib.hid ho3
          have HB5 := Lib.hid (HBV2.out.trans (hb3.mono HBV2.out.size))
          have hzq := HBV2.out.size
          have hz3 := hb3.size
          have d1 : w5.cell? ⟨g, k * 2 + 1, none⟩ = some (.slice _ _ _) := (HB5.out.cell (p := ⟨g, k * 2 + 1, none⟩) hgl4).trans c4
          have f1 : w5.frozen? ⟨g, k * 2 + 1, none⟩ = false := (HB5.out.frozen (p := ⟨g, k * 2 + 1, none⟩) hgl4).trans ((HB4.out.frozen (p := ⟨g, k * 2 + 1, none⟩) hgl).trans (HR.out.soft _))
          have SF := Lib.hid (HCE.out w5 (HB5.out.block bx (by omega)))
          have SF2 := Lib.hid (HCE.out (w5.setCell ⟨g, k * 2 + 1, none⟩ (.slice a3 R.length c3)) ((Below.heap_setCell w5 ⟨g, k * 2 + 1, none⟩ _ bx hxg).trans (HB5.out.block bx (by omega))))
          clear h ho3 hb3
          refine hK.out _ _ SF.out (fun hHeld => ?_)
          clear hK K
          refine tk 17 hHeld ?_
          refine tk 18 hHeld ?_
          refine rd1 19 (fun K hK => ?_)
          go_simp
          refine hK.out _ _ SF2.out (fun hHeld => ?_)
          clear hK K
          refine rd0 ?_
          clear hHeld
          go_wp2
          go_ret
          obtain ⟨hrow, hoff⟩ := Row.books2 (T := Rg v2.heap.size w5.heap.size) HR.out HS1.out HX.out (HB4.out.trans (HB5.out.mono (by omega))) HO3.out (fun q hq => ⟨by have := hq.1; omega, hq.2⟩)
          exact ⟨by rw [HV.out]; rfl, hoff, fun _ => by rw [HV.out]; exact hrow⟩
    · have hcap2 : ¬ p = bc := fun e => hcap e.symm
      obtain ⟨v2, hv2⟩ : ∃ w, w = v1.alloc (.cells #[.slice (some ⟨gb, ob, none⟩) p bc, .slice (some ⟨w4.heap.size, 0, none⟩) 1 1, .slice (some ⟨gb, ob + p * 2, none⟩) (M.length - p) (bc - p)] 39) := ⟨_, rfl⟩
      obtain ⟨hbk, hbv2⟩ := H3.out (some ⟨gb, ob + p * 2, none⟩) (bc - p) (by unfold maxLen at hbm ⊢; omega) (fun _ => ⟨⟨gb, ob, rfl, rfl⟩, rfl⟩) v2 hv2
      have HBK := Lib.hid hbk
      have HBV2 := Lib.hid hbv2
      have SV2 := Lib.hid (HCE.out v2 (hbv2.block bx (by omega)))
      have hw2 : v2 = ((w4.alloc (.cells #[.int .i64 a, .int .i64 b] 25)).alloc (.cells #[.slice (some ⟨gb, ob, none⟩) p bc, .slice (some ⟨w4.heap.size, 0, none⟩) 1 1, .slice (some ⟨gb, ob + p * 2, none⟩) (M.length - p) (bc - p)] 39)).drew := by rw [hv2, HV1.out]; rfl
      rw [hw2] at HBK SV2
      have HW2 := Lib.hid hw2
      rw [HV1.out] at c5
      have SV1 := SV1
      rw [HV1.out] at SV1
      clear hbk hbv2 hv2 hv1s hw2
      go_upto_region 8 with fail
      refine wp_region_held_drew (S := (fun V => V.cell? ⟨bx, 0, none⟩ = some (.int .i64 a) ∧ V.cell? ⟨bx, 1, none⟩ = some (.int .i64 b))) (by kernel_rfl) (HS4.out) (fun hHeld => ?_)
      refine tk 0 hHeld ?_
      refine tk 1 hHeld ?_
      refine tk 2 hHeld ?_
      refine tk 3 hHeld ?_
      refine tk 5 hHeld ?_
      refine tk 7 hHeld ?_ (hy := fun w hSw => by (try dsimp only at hSw); have k0 := hSw.1; have k1 := hSw.2; clear hSw; go_simp; try with_reducible rfl)
      refine tk 9 hHeld ?_
      refine tk 10 hHeld ?_
      refine tk 11 hHeld ?_
      refine tk 13 hHeld ?_
      refine rd3 4 8 12 (fun K hK => ?_) (fun K hK => ?_) (fun K hK => ?_)
      · skip
        go_simp
        refine hK.out _ _ hHeld (fun hHeld => ?_)
        clear hK K
        refine tk 6 hHeld ?_
        refine rd2 8 12 (fun K hK => ?_) (fun K hK => ?_)
        · skip
          go_simp
          refine hK.out _ _ SV1.out (fun hHeld => ?_)
          clear hK K
          refine rd1 12 (fun K hK => ?_)
          go_simp
          refine hK.out _ _ hHeld (fun hHeld => ?_)
          clear hK K
          refine tk 14 hHeld ?_
          refine rd1 15 (fun K hK => ?_)
          go_simp
          refine hK.out _ _ SV2.out (fun hHeld => ?_)
          clear hK K
          refine rd1 16 (fun K hK => ?_)
          go_simp
          go_at_call 54
          refine (HBK.out).mono ?_
          intro e w5 h
          obtain ⟨a3, c3, rfl, ho3, hb3⟩ := newS_elim h
          rw [← HW2.out] at ho3 hb3
          have HO3 := Lib.hid ho3
          have HB5 := Lib.hid (HBV2.out.trans (hb3.mono HBV2.out.size))
          have hzq := HBV2.out.size
          have hz3 := hb3.size
          have d1 : w5.cell? ⟨g, k * 2 + 1, none⟩ = some (.slice _ _ _) := (HB5.out.cell (p := ⟨g, k * 2 + 1, none⟩) hgl4).trans c4
          have f1 : w5.frozen? ⟨g, k * 2 + 1, none⟩ = false := (HB5.out.frozen (p := ⟨g, k * 2 + 1, none⟩) hgl4).trans ((HB4.out.frozen (p := ⟨g, k * 2 + 1, none⟩) hgl).trans (HR.out.soft _))
          have SF := Lib.hid (HCE.out w5 (HB5.out.block bx (by omega)))
          have SF2 := Lib.hid (HCE.out (w5.setCell ⟨g, k * 2 + 1, none⟩ (.slice a3 R.length c3)) ((Below.heap_setCell w5 ⟨g, k * 2 + 1, none⟩ _ bx hxg).trans (HB5.out.block bx (by omega))))
          clear h ho3 hb3
          refine hK.out _ _ SF.out (fun hHeld => ?_)
          clear hK K
          refine tk 17 hHeld ?_
          refine tk 18 hHeld ?_
          refine rd1 19 (fun K hK => ?_)
          go_simp
          refine hK.out _ _ SF2.out (fun hHeld => ?_)
          clear hK K
          refine rd0 ?_
          clear hHeld
          go_wp2
          go_ret
          obtain ⟨hrow, hoff⟩ := Row.books2 (T := Rg v2.heap.size w5.heap.size) HR.out HS1.out HX.out (HB4.out.trans (HB5.out.mono (by omega))) HO3.out (fun q hq => ⟨by have := hq.1; omega, hq.2⟩)
          exact ⟨by rw [HV.out]; rfl, hoff, fun _ => by rw [HV.out]; exact hrow⟩
        · skip
          go_simp
          refine hK.out _ _ hHeld (fun hHeld => ?_)
          clear hK K
          refine tk 14 hHeld ?_
          refine rd1 8 (fun K hK => ?_)
          go_simp
          refine hK.out _ _ SV1.out (fun hHeld => ?_)
          clear hK K
          refine rd1 15 (fun K hK => ?_)
          go_simp
          refine hK.out _ _ SV2.out (fun hHeld => ?_)
          clear hK K
          refine rd1 16 (fun K hK => ?_)
          go_simp
          go_at_call 54
          refine (HBK.out).mono ?_
          intro e w5 h
          obtain ⟨a3, c3, rfl, ho3, hb3⟩ := newS_elim h
          rw [← HW2.out] at ho3 hb3
          have HO3 := Lib.hid ho3
          have HB5 := Lib.hid (HBV2.out.trans (hb3.mono HBV2.out.size))
          have hzq := HBV2.out.size
          have hz3 := hb3.size
          have d1 : w5.cell? ⟨g, k * 2 + 1, none⟩ = some (.slice _ _ _) := (HB5.out.cell (p := ⟨g, k * 2 + 1, none⟩) hgl4).trans c4
          have f1 : w5.frozen? ⟨g, k * 2 + 1, none⟩ = false := (HB5.out.frozen (p := ⟨g, k * 2 + 1, none⟩) hgl4).trans ((HB4.out.frozen (p := ⟨g, k * 2 + 1, none⟩) hgl).trans (HR.out.soft _))
          have SF := Lib.hid (HCE.out w5 (HB5.out.block bx (by omega)))
          have SF2 := Lib.hid (HCE.out (w5.setCell ⟨g, k * 2 + 1, none⟩ (.slice a3 R.length c3)) ((Below.heap_setCell w5 ⟨g, k * 2 + 1, none⟩ _ bx hxg).trans (HB5.out.block bx (by omega))))
          clear h ho3 hb3
          refine hK.out _ _ SF.out (fun hHeld => ?_)
          clear hK K
          refine tk 17 hHeld ?_
          refine tk 18 hHeld ?_
          refine rd1 19 (fun K hK => ?_)
          go_simp
          refine hK.out _ _ SF2.out (fun hHeld => ?_)
          clear hK K
          refine rd0 ?_
          clear hHeld
          go_wp2
          go_ret
          obtain ⟨hrow, hoff⟩ := Row.books2 (T := Rg v2.heap.size w5.heap.size) HR.out HS1.out HX.out (HB4.out.trans (HB5.out.mono (by omega))) HO3.out (fun q hq => ⟨by have := hq.1; omega, hq.2⟩)
          exact ⟨by rw [HV.out]; rfl, hoff, fun _ => by rw [HV.out]; exact hrow⟩
      · skip
        go_simp
        refine hK.out _ _ SV1.out (fun hHeld => ?_)
        clear hK K
        refine rd2 4 12 (fun K hK => ?_) (fun K hK => ?_)
        · skip
          go_simp
          refine hK.out _ _ hHeld (fun hHeld => ?_)
          clear hK K
          refine tk 6 hHeld ?_
          refine rd1 12 (fun K hK => ?_)
          go_simp
          refine hK.out _ _ hHeld (fun hHeld => ?_)
          clear hK K
          refine tk 14 hHeld ?_
          refine rd1 15 (fun K hK => ?_)
          go_simp
          refine hK.out _ _ SV2.out (fun hHeld => ?_)
          clear hK K
          refine rd1 16 (fun K hK => ?_)
          go_simp
          go_at_call 54
          refine (HBK.out).mono ?_
          intro e w5 h
          obtain ⟨a3, c3, rfl, ho3, hb3⟩ := newS_elim h
          rw [← HW2.out] at ho3 hb3
          have HO3 := Lib.hid ho3
          have HB5 := Lib.hid (HBV2.out.trans (hb3.mono HBV2.out.size))
          have hzq := HBV2.out.size
          have hz3 := hb3.size
          have d1 : w5.cell? ⟨g, k * 2 + 1, none⟩ = some (.slice _ _ _) := (HB5.out.cell (p := ⟨g, k * 2 + 1, none⟩) hgl4).trans c4
          have f1 : w5.frozen? ⟨g, k * 2 + 1, none⟩ = false := (HB5.out.frozen (p := ⟨g, k * 2 + 1, none⟩) hgl4).trans ((HB4.out.frozen (p := ⟨g, k * 2 + 1, none⟩) hgl).trans (HR.out.soft _))
          have SF := Lib.hid (HCE.out w5 (HB5.out.block bx (by omega)))
          have SF2 := Lib.hid (HCE.out (w5.setCell ⟨g, k * 2 + 1, none⟩ (.slice a3 R.length c3)) ((Below.heap_setCell w5 ⟨g, k * 2 + 1, none⟩ _ bx hxg).trans (HB5.out.block bx (by omega))))
          clear h ho3 hb3
          refine hK.out _ _ SF.out (fun hHeld => ?_)
          clear hK K
          refine tk 17 hHeld ?_
          refine tk 18 hHeld ?_
          refine rd1 19 (fun K hK => ?_)
          go_simp
          refine hK.out _ _ SF2.out (fun hHeld => ?_)
          clear hK K
          refine rd0 ?_
          clear hHeld
          go_wp2
          go_ret
          obtain ⟨hrow, hoff⟩ := Row.books2 (T := Rg v2.heap.size w5.heap.size) HR.out HS1.out HX.out (HB4.out.trans (HB5.out.mono (by omega))) HO3.out (fun q hq => ⟨by have := hq.1; omega, hq.2⟩)
          exact ⟨by rw [HV.out]; rfl, hoff, fun _ => by rw [HV.out]; exact hrow⟩
        · skip
          go_simp
          refine hK.out _ _ hHeld (fun hHeld => ?_)
          clear hK K
          refine tk 14 hHeld ?_
          refine rd1 4 (fun K hK => ?_)
          go_simp
          refine hK.out _ _ hHeld (fun hHeld => ?_)
          clear hK K
          refine tk 6 hHeld ?_
          refine rd1 15 (fun K hK => ?_)
          go_simp
          refine hK.out _ _ SV2.out (fun hHeld => ?_)
          clear hK K
          refine rd1 16 (fun K hK => ?_)
          go_simp
          go_at_call 54
          refine (HBK.out).mono ?_
          intro e w5 h
          obtain ⟨a3, c3, rfl, ho3, hb3⟩ := newS_elim h
          rw [← HW2.out] at ho3 hb3
          have HO3 := Lib.hid ho3
          have HB5 := Lib.hid (HBV2.out.trans (hb3.mono HBV2.out.size))
          have hzq := HBV2.out.size
          have hz3 := hb3.size
          have d1 : w5.cell? ⟨g, k * 2 + 1, none⟩ = some (.slice _ _ _) := (HB5.out.cell (p := ⟨g, k * 2 + 1, none⟩) hgl4).trans c4
          have f1 : w5.frozen? ⟨g, k * 2 + 1, none⟩ = false := (HB5.out.frozen (p := ⟨g, k * 2 + 1, none⟩) hgl4).trans ((HB4.out.frozen (p := ⟨g, k * 2 + 1, none⟩) hgl).trans (HR.out.soft _))
          have SF := Lib.hid (HCE.out w5 (HB5.out.block bx (by omega)))
          have SF2 := Lib.hid (HCE.out (w5.setCell ⟨g, k * 2 + 1, none⟩ (.slice a3 R.length c3)) ((Below.heap_setCell w5 ⟨g, k * 2 + 1, none⟩ _ bx hxg).trans (HB5.out.block bx (by omega))))
          clear h ho3 hb3
          refine hK.out _ _ SF.out (fun hHeld => ?_)
          clear hK K
          refine tk 17 hHeld ?_
          refine tk 18 hHeld ?_
          refine rd1 19 (fun K hK => ?_)
          go_simp
          refine hK.out _ _ SF2.out (fun hHeld => ?_)
          clear hK K
          refine rd0 ?_
          clear hHeld
          go_wp2
          go_ret
          obtain ⟨hrow, hoff⟩ := Row.books2 (T := Rg v2.heap.size w5.heap.size) HR.out HS1.out HX.out (HB4.out.trans (HB5.out.mono (by omega))) HO3.out (fun q hq => ⟨by have := hq.1; omega, hq.2⟩)
          exact ⟨by rw [HV.out]; rfl, hoff, fun _ => by rw [HV.out]; exact hrow⟩
      · skip
        go_simp
        refine hK.out _ _ hHeld (fun hHeld => ?_)
        clear hK K
        refine tk 14 hHeld ?_
        refine rd2 4 8 (fun K hK => ?_) (fun K hK => ?_)
        · skip
          go_simp
          refine hK.out _ _ hHeld (fun hHeld => ?_)
          clear hK K
          refine tk 6 hHeld ?_
          refine rd1 8 (fun K hK => ?_)
          go_simp
          refine hK.out _ _ SV1.out (fun hHeld => ?_)
          clear hK K
          refine rd1 15 (fun K hK => ?_)
          go_simp
          refine hK.out _ _ SV2.out (fun hHeld => ?_)
          clear hK K
          refine rd1 16 (fun K hK => ?_)
          go_simp
          go_at_call 54
          refine (HBK.out).mono ?_
          intro e w5 h
          obtain ⟨a3, c3, rfl, ho3, hb3⟩ := newS_elim h
          rw [← HW2.out] at ho3 hb3
          have HO3 := Lib.hid ho3
          have HB5 := Lib.hid (HBV2.out.trans (hb3.mono HBV2.out.size))
          have hzq := HBV2.out.size
          have hz3 := hb3.size
          have d1 : w5.cell? ⟨g, k * 2 + 1, none⟩ = some (.slice _ _ _) := (HB5.out.cell (p := ⟨g, k * 2 + 1, none⟩) hgl4).trans c4
          have f1 : w5.frozen? ⟨g, k * 2 + 1, none⟩ = false := (HB5.out.frozen (p := ⟨g, k * 2 + 1, none⟩) hgl4).trans ((HB4.out.frozen (p := ⟨g, k * 2 + 1, none⟩) hgl).trans (HR.out.soft _))
          have SF := Lib.hid (HCE.out w5 (HB5.out.block bx (by omega)))
          have SF2 := Lib.hid (HCE.out (w5.setCell ⟨g, k * 2 + 1, none⟩ (.slice a3 R.length c3)) ((Below.heap_setCell w5 ⟨g, k * 2 + 1, none⟩ _ bx hxg).trans (HB5.out.block bx (by omega))))
          clear h ho3 hb3
          refine hK.out _ _ SF.out (fun hHeld => ?_)
          clear hK K
          refine tk 17 hHeld ?_
          refine tk 18 hHeld ?_
          refine rd1 19 (fun K hK => ?_)
          go_simp
          refine hK.out _ _ SF2.out (fun hHeld => ?_)
          clear hK K
          refine rd0 ?_
          clear hHeld
          go_wp2
          go_ret
          obtain ⟨hrow, hoff⟩ := Row.books2 (T := Rg v2.heap.size w5.heap.size) HR.out HS1.out HX.out (HB4.out.trans (HB5.out.mono (by omega))) HO3.out (fun q hq => ⟨by have := hq.1; omega, hq.2⟩)
          exact ⟨by rw [HV.out]; rfl, hoff, fun _ => by rw [HV.out]; exact hrow⟩
        · skip
          go_simp
          refine hK.out _ _ SV1.out (fun hHeld => ?_)
          clear hK K
          refine rd1 4 (fun K hK => ?_)
          go_simp
          refine hK.out _ _ hHeld (fun hHeld => ?_)
          clear hK K
          refine tk 6 hHeld ?_
          refine rd1 15 (fun K hK => ?_)
          go_simp
          refine hK.out _ _ SV2.out (fun hHeld => ?_)
          clear hK K
          refine rd1 16 (fun K hK => ?_)
          go_simp
          go_at_call 54
          refine (HBK.out).mono ?_
          intro e w5 h
          obtain ⟨a3, c3, rfl, ho3, hb3⟩ := newS_elim h
          rw [← HW2.out] at ho3 hb3
          have HO3 := Lib.hid ho3
          have HB5 := Lib.hid (HBV2.out.trans (hb3.mono HBV2.out.size))
          have hzq := HBV2.out.size
          have hz3 := hb3.size
          have d1 : w5.cell? ⟨g, k * 2 + 1, none⟩ = some (.slice _ _ _) := (HB5.out.cell (p := ⟨g, k * 2 + 1, none⟩) hgl4).trans c4
          have f1 : w5.frozen? ⟨g, k * 2 + 1, none⟩ = false := (HB5.out.frozen (p := ⟨g, k * 2 + 1, none⟩) hgl4).trans ((HB4.out.frozen (p := ⟨g, k * 2 + 1, none⟩) hgl).trans (HR.out.soft _))
          have SF := Lib.hid (HCE.out w5 (HB5.out.block bx (by omega)))
          have SF2 := Lib.hid (HCE.out (w5.setCell ⟨g, k * 2 + 1, none⟩ (.slice a3 R.length c3)) ((Below.heap_setCell w5 ⟨g, k * 2 + 1, none⟩ _ bx hxg).trans (HB5.out.block bx (by omega))))
          clear h ho3 hb3
          refine hK.out _ _ SF.out (fun hHeld => ?_)
          clear hK K
          refine tk 17 hHeld ?_
          refine tk 18 hHeld ?_
          refine rd1 19 (fun K hK => ?_)
          go_simp
          refine hK.out _ _ SF2.out (fun hHeld => ?_)
          clear hK K
          refine rd0 ?_
          clear hHeld
          go_wp2
          go_ret
          obtain ⟨hrow, hoff⟩ := Row.books2 (T := Rg v2.heap.size w5.heap.size) HR.out HS1.out HX.out (HB4.out.trans (HB5.out.mono (by omega))) HO3.out (fun q hq => ⟨by have := hq.1; omega, hq.2⟩)
          exact ⟨by rw [HV.out]; rfl, hoff, fun _ => by rw [HV.out]; exact hrow⟩
  · obtain rfl : p = 0 := by omega
    have hm0 : M.length - 0 = 0 := by omega
    rw [hM0] at c4 c5
    have hb0 : (0 : Int) ≤ (bc : Int) := Int.natCast_nonneg _
    cases ba with
    | none =>
      obtain ⟨v2, hv2⟩ : ∃ w, w = v1.alloc (.cells #[.slice none 0 bc, .slice (some ⟨w4.heap.size, 0, none⟩) 1 1, .slice (none) (M.length - 0) (bc)] 39) := ⟨_, rfl⟩
      obtain ⟨hbk, hbv2⟩ := H3.out (none) (bc) (by unfold maxLen at hbm ⊢; omega) (fun h => by omega) v2 hv2
      have HBK := Lib.hid hbk
      have HBV2 := Lib.hid hbv2
      have SV2 := Lib.hid (HCE.out v2 (hbv2.block bx (by omega)))
      have hw2 : v2 = ((w4.alloc (.cells #[.int .i64 a, .int .i64 b] 25)).alloc (.cells #[.slice none 0 bc, .slice (some ⟨w4.heap.size, 0, none⟩) 1 1, .slice (none) (M.length - 0) (bc)] 39)).drew := by rw [hv2, HV1.out]; rfl
      rw [hw2] at HBK SV2
      have HW2 := Lib.hid hw2
      rw [HV1.out] at c5
      have SV1 := SV1
      rw [HV1.out] at SV1
      clear hbk hbv2 hv2 hv1s hw2
      rw [hm0] at HBK HW2 SV2
      go_upto_region 8 with fail
      refine wp_region_held_drew (S := (fun V => V.cell? ⟨bx, 0, none⟩ = some (.int .i64 a) ∧ V.cell? ⟨bx, 1, none⟩ = some (.int .i64 b))) (by kernel_rfl) (HS4.out) (fun hHeld => ?_)
      refine tk 0 hHeld ?_
      refine tk 1 hHeld ?_
      refine tk 2 hHeld ?_
      refine tk 3 hHeld ?_
      refine tk 5 hHeld ?_
      refine tk 7 hHeld ?_ (hy := fun w hSw => by (try dsimp only at hSw); have k0 := hSw.1; have k1 := hSw.2; clear hSw; go_simp; try with_reducible rfl)
      refine tk 9 hHeld ?_
      refine tk 10 hHeld ?_
      refine tk 11 hHeld ?_
      refine tk 13 hHeld ?_
      refine rd3 4 8 12 (fun K hK => ?_) (fun K hK => ?_) (fun K hK => ?_)
      · skip
        go_simp
        refine hK.out _ _ hHeld (fun hHeld => ?_)
        clear hK K
        refine tk 6 hHeld ?_
        refine rd2 8 12 (fun K hK => ?_) (fun K hK => ?_)
        · skip
          go_simp
          refine hK.out _ _ SV1.out (fun hHeld => ?_)
          clear hK K
          refine rd1 12 (fun K hK => ?_)
          go_simp
          refine hK.out _ _ hHeld (fun hHeld => ?_)
          clear hK K
          refine tk 14 hHeld ?_
          refine rd1 15 (fun K hK => ?_)
          go_simp
          refine hK.out _ _ SV2.out (fun hHeld => ?_)
          clear hK K
          refine rd1 16 (fun K hK => ?_)
          go_simp
          go_at_call 54
          refine (HBK.out).mono ?_
          intro e w5 h
          obtain ⟨a3, c3, rfl, ho3, hb3⟩ := newS_elim h
          rw [← HW2.out] at ho3 hb3
          have HO3 := Lib.hid ho3
          have HB5 := Lib.hid (HBV2.out.trans (hb3.mono HBV2.out.size))
          have hzq := HBV2.out.size
          have hz3 := hb3.size
          have d1 : w5.cell? ⟨g, k * 2 + 1, none⟩ = some (.slice _ _ _) := (HB5.out.cell (p := ⟨g, k * 2 + 1, none⟩) hgl4).trans c4
          have f1 : w5.frozen? ⟨g, k * 2 + 1, none⟩ = false := (HB5.out.frozen (p := ⟨g, k * 2 + 1, none⟩) hgl4).trans ((HB4.out.frozen (p := ⟨g, k * 2 + 1, none⟩) hgl).trans (HR.out.soft _))
          have SF := Lib.hid (HCE.out w5 (HB5.out.block bx (by omega)))
          have SF2 := Lib.hid (HCE.out (w5.setCell ⟨g, k * 2 + 1, none⟩ (.slice a3 R.length c3)) ((Below.heap_setCell w5 ⟨g, k * 2 + 1, none⟩ _ bx hxg).trans (HB5.out.block bx (by omega))))
          clear h ho3 hb3
          refine hK.out _ _ SF.out (fun hHeld => ?_)
          clear hK K
          refine tk 17 hHeld ?_
          refine tk 18 hHeld ?_
          refine rd1 19 (fun K hK => ?_)
          go_simp
          refine hK.out _ _ SF2.out (fun hHeld => ?_)
          clear hK K
          refine rd0 ?_
          clear hHeld
          go_wp2
          go_ret
          obtain ⟨hrow, hoff⟩ := Row.books2 (T := Rg v2.heap.size w5.heap.size) HR.out HS1.out HX.out (HB4.out.trans (HB5.out.mono (by omega))) HO3.out (fun q hq => ⟨by have := hq.1; omega, hq.2⟩)
          exact ⟨by rw [HV.out]; rfl, hoff, fun _ => by rw [HV.out]; exact hrow⟩
        · skip
          go_simp
          refine hK.out _ _ hHeld (fun hHeld => ?_)
          clear hK K
          refine tk 14 hHeld ?_
          refine rd1 8 (fun K hK => ?_)
          go_simp
          refine hK.out _ _ SV1.out (fun hHeld => ?_)
          clear hK K
          refine rd1 15 (fun K hK => ?_)
          go_simp
          refine hK.out _ _ SV2.out (fun hHeld => ?_)
          clear hK K
          refine rd1 16 (fun K hK => ?_)
          go_simp
          go_at_call 54
          refine (HBK.out).mono ?_
          intro e w5 h
          obtain ⟨a3, c3, rfl, ho3, hb3⟩ := newS_elim h
          rw [← HW2.out] at ho3 hb3
          have HO3 := Lib.hid ho3
          have HB5 := Lib.hid (HBV2.out.trans (hb3.mono HBV2.out.size))
          have hzq := HBV2.out.size
          have hz3 := hb3.size
          have d1 : w5.cell? ⟨g, k * 2 + 1, none⟩ = some (.slice _ _ _) := (HB5.out.cell (p := ⟨g, k * 2 + 1, none⟩) hgl4).trans c4
          have f1 : w5.frozen? ⟨g, k * 2 + 1, none⟩ = false := (HB5.out.frozen (p := ⟨g, k * 2 + 1, none⟩) hgl4).trans ((HB4.out.frozen (p := ⟨g, k * 2 + 1, none⟩) hgl).trans (HR.out.soft _))
          have SF := Lib.hid (HCE.out w5 (HB5.out.block bx (by omega)))
          have SF2 := Lib.hid (HCE.out (w5.setCell ⟨g, k * 2 + 1, none⟩ (.slice a3 R.length c3)) ((Below.heap_setCell w5 ⟨g, k * 2 + 1, none⟩ _ bx hxg).trans (HB5.out.block bx (by omega))))
          clear h ho3 hb3
          refine hK.out _ _ SF.out (fun hHeld => ?_)
          clear hK K
          refine tk 17 hHeld ?_
          refine tk 18 hHeld ?_
          refine rd1 19 (fun K hK => ?_)
          go_simp
          refine hK.out _ _ SF2.out (fun hHeld => ?_)
          clear hK K
          refine rd0 ?_
          clear hHeld
          go_wp2
          go_ret
          obtain ⟨hrow, hoff⟩ := Row.books2 (T := Rg v2.heap.size w5.heap.size) HR.out HS1.out HX.out (HB4.out.trans (HB5.out.mono (by omega))) HO3.out (fun q hq => ⟨by have := hq.1; omega, hq.2⟩)
          exact ⟨by rw [HV.out]; rfl, hoff, fun _ => by rw [HV.out]; exact hrow⟩
      · skip
        go_simp
        refine hK.out _ _ SV1.out (fun hHeld => ?_)
        clear hK K
        refine rd2 4 12 (fun K hK => ?_) (fun K hK => ?_)
        · skip
          go_simp
          refine hK.out _ _ hHeld (fun hHeld => ?_)
          clear hK K
          refine tk 6 hHeld ?_
          refine rd1 12 (fun K hK => ?_)
          go_simp
          refine hK.out _ _ hHeld (fun hHeld => ?_)
          clear hK K
          refine tk 14 hHeld ?_
          refine rd1 15 (fun K hK => ?_)
          go_simp
          refine hK.out _ _ SV2.out (fun hHeld => ?_)
          clear hK K
          refine rd1 16 (fun K hK => ?_)
          go_simp
          go_at_call 54
          refine (HBK.out).mono ?_
          intro e w5 h
          obtain ⟨a3, c3, rfl, ho3, hb3⟩ := newS_elim h
          rw [← HW2.out] at ho3 hb3
          have HO3 := Lib.hid ho3
          have HB5 := Lib.hid (HBV2.out.trans (hb3.mono HBV2.out.size))
          have hzq := HBV2.out.size
          have hz3 := hb3.size
          have d1 : w5.cell? ⟨g, k * 2 + 1, none⟩ = some (.slice _ _ _) := (HB5.out.cell (p := ⟨g, k * 2 + 1, none⟩) hgl4).trans c4
          have f1 : w5.frozen? ⟨g, k * 2 + 1, none⟩ = false := (HB5.out.frozen (p := ⟨g, k * 2 + 1, none⟩) hgl4).trans ((HB4.out.frozen (p := ⟨g, k * 2 + 1, none⟩) hgl).trans (HR.out.soft _))
          have SF := Lib.hid (HCE.out w5 (HB5.out.block bx (by omega)))
          have SF2 := Lib.hid (HCE.out (w5.setCell ⟨g, k * 2 + 1, none⟩ (.slice a3 R.length c3)) ((Below.heap_setCell w5 ⟨g, k * 2 + 1, none⟩ _ bx hxg).trans (HB5.out.block bx (by omega))))
          clear h ho3 hb3
          refine hK.out _ _ SF.out (fun hHeld => ?_)
          clear hK K
          refine tk 17 hHeld ?_
          refine tk 18 hHeld ?_
          refine rd1 19 (fun K hK => ?_)
          go_simp
          refine hK.out _ _ SF2.out (fun hHeld => ?_)
          clear hK K
          refine rd0 ?_
          clear hHeld
          go_wp2
          go_ret
          obtain ⟨hrow, hoff⟩ := Row.books2 (T := Rg v2.heap.size w5.heap.size) HR.out HS1.out HX.out (HB4.out.trans (HB5.out.mono (by omega))) HO3.out (fun q hq => ⟨by have := hq.1; omega, hq.2⟩)
          exact ⟨by rw [HV.out]; rfl, hoff, fun _ => by rw [HV.out]; exact hrow⟩
        · skip
          go_simp
          refine hK.out _ _ hHeld (fun hHeld => ?_)
          clear hK K
          refine tk 14 hHeld ?_
          refine rd1 4 (fun K hK => ?_)
          go_simp
          refine hK.out _ _ hHeld (fun hHeld => ?_)
          clear hK K
          refine tk 6 hHeld ?_
          refine rd1 15 (fun K hK => ?_)
          go_simp
          refine hK.out _ _ SV2.out (fun hHeld => ?_)
          clear hK K
          refine rd1 16 (fun K hK => ?_)
          go_simp
          go_at_call 54
          refine (HBK.out).mono ?_
          intro e w5 h
          obtain ⟨a3, c3, rfl, ho3, hb3⟩ := newS_elim h
          rw [← HW2.out] at ho3 hb3
          have HO3 := Lib.hid ho3
          have HB5 := Lib.hid (HBV2.out.trans (hb3.mono HBV2.out.size))
          have hzq := HBV2.out.size
          have hz3 := hb3.size
          have d1 : w5.cell? ⟨g, k * 2 + 1, none⟩ = some (.slice _ _ _) := (HB5.out.cell (p := ⟨g, k * 2 + 1, none⟩) hgl4).trans c4
          have f1 : w5.frozen? ⟨g, k * 2 + 1, none⟩ = false := (HB5.out.frozen (p := ⟨g, k * 2 + 1, none⟩) hgl4).trans ((HB4.out.frozen (p := ⟨g, k * 2 + 1, none⟩) hgl).trans (HR.out.soft _))
          have SF := Lib.hid (HCE.out w5 (HB5.out.block bx (by omega)))
          have SF2 := Lib.hid (HCE.out (w5.setCell ⟨g, k * 2 + 1, none⟩ (.slice a3 R.length c3)) ((Below.heap_setCell w5 ⟨g, k * 2 + 1, none⟩ _ bx hxg).trans (HB5.out.block bx (by omega))))
          clear h ho3 hb3
          refine hK.out _ _ SF.out (fun hHeld => ?_)
          clear hK K
          refine tk 17 hHeld ?_
          refine tk 18 hHeld ?_
          refine rd1 19 (fun K hK => ?_)
          go_simp
          refine hK.out _ _ SF2.out (fun hHeld => ?_)
          clear hK K
          refine rd0 ?_
          clear hHeld
          go_wp2
          go_ret
          obtain ⟨hrow, hoff⟩ := Row.books2 (T := Rg v2.heap.size w5.heap.size) HR.out HS1.out HX.out (HB4.out.trans (HB5.out.mono (by omega))) HO3.out (fun q hq => ⟨by have := hq.1; omega, hq.2⟩)
          exact ⟨by rw [HV.out]; rfl, hoff, fun _ => by rw [HV.out]; exact hrow⟩
      · skip
        go_simp
        refine hK.out _ _ hHeld (fun hHeld => ?_)
        clear hK K
        refine tk 14 hHeld ?_
        refine rd2 4 8 (fun K hK => ?_) (fun K hK => ?_)
        · skip
          go_simp
          refine hK.out _ _ hHeld (fun hHeld => ?_)
          clear hK K
          refine tk 6 hHeld ?_
          refine rd1 8 (fun K hK => ?_)
          go_simp
          refine hK.out _ _ SV1.out (fun hHeld => ?_)
          clear hK K
          refine rd1 15 (fun K hK => ?_)
          go_simp
          refine hK.out _ _ SV2.out (fun hHeld => ?_)
          clear hK K
          refine rd1 16 (fun K hK => ?_)
          go_simp
          go_at_call 54
          refine (HBK.out).mono ?_
          intro e w5 h
          obtain ⟨a3, c3, rfl, ho3, hb3⟩ := newS_elim h
          rw [← HW2.out] at ho3 hb3
          have HO3 := Lib.hid ho3
          have HB5 := Lib.hid (HBV2.out.trans (hb3.mono HBV2.out.size))
          have hzq := HBV2.out.size
          have hz3 := hb3.size
          have d1 : w5.cell? ⟨g, k * 2 + 1, none⟩ = some (.slice _ _ _) := (HB5.out.cell (p := ⟨g, k * 2 + 1, none⟩) hgl4).trans c4
          have f1 : w5.frozen? ⟨g, k * 2 + 1, none⟩ = false := (HB5.out.frozen (p := ⟨g, k * 2 + 1, none⟩) hgl4).trans ((HB4.out.frozen (p := ⟨g, k * 2 + 1, none⟩) hgl).trans (HR.out.soft _))
          have SF := Lib.hid (HCE.out w5 (HB5.out.block bx (by omega)))
          have SF2 := Lib.hid (HCE.out (w5.setCell ⟨g, k * 2 + 1, none⟩ (.slice a3 R.length c3)) ((Below.heap_setCell w5 ⟨g, k * 2 + 1, none⟩ _ bx hxg).trans (HB5.out.block bx (by omega))))
          clear h ho3 hb3
          refine hK.out _ _ SF.out (fun hHeld => ?_)
          clear hK K
          refine tk 17 hHeld ?_
          refine tk 18 hHeld ?_
          refine rd1 19 (fun K hK => ?_)
          go_simp
          refine hK.out _ _ SF2.out (fun hHeld => ?_)
          clear hK K
          refine rd0 ?_
          clear hHeld
          go_wp2
          go_ret
          obtain ⟨hrow, hoff⟩ := Row.books2 (T := Rg v2.heap.size w5.heap.size) HR.out HS1.out HX.out (HB4.out.trans (HB5.out.mono (by omega))) HO3.out (fun q hq => ⟨by have := hq.1; omega, hq.2⟩)
          exact ⟨by rw [HV.out]; rfl, hoff, fun _ => by rw [HV.out]; exact hrow⟩
        · skip
          go_simp
          refine hK.out _ _ SV1.out (fun hHeld => ?_)
          clear hK K
          refine rd1 4 (fun K hK => ?_)
          go_simp
          refine hK.out _ _ hHeld (fun hHeld => ?_)
          clear hK K
          refine tk 6 hHeld ?_
          refine rd1 15 (fun K hK => ?_)
          go_simp
          refine hK.out _ _ SV2.out (fun hHeld => ?_)
          clear hK K
          refine rd1 16 (fun K hK => ?_)
          go_simp
          go_at_call 54
          refine (HBK.out).mono ?_
          intro e w5 h
          obtain ⟨a3, c3, rfl, ho3, hb3⟩ := newS_elim h
          rw [← HW2.out] at ho3 hb3
          have HO3 := Lib.hid ho3
          have HB5 := Lib.hid (HBV2.out.trans (hb3.mono HBV2.out.size))
          have hzq := HBV2.out.size
          have hz3 := hb3.size
          have d1 : w5.cell? ⟨g, k * 2 + 1, none⟩ = some (.slice _ _ _) := (HB5.out.cell (p := ⟨g, k * 2 + 1, none⟩) hgl4).trans c4
          have f1 : w5.frozen? ⟨g, k * 2 + 1, none⟩ = false := (HB5.out.frozen (p := ⟨g, k * 2 + 1, none⟩) hgl4).trans ((HB4.out.frozen (p := ⟨g, k * 2 + 1, none⟩) hgl).trans (HR.out.soft _))
          have SF := Lib.hid (HCE.out w5 (HB5.out.block bx (by omega)))
          have SF2 := Lib.hid (HCE.out (w5.setCell ⟨g, k * 2 + 1, none⟩ (.slice a3 R.length c3)) ((Below.heap_setCell w5 ⟨g, k * 2 + 1, none⟩ _ bx hxg).trans (HB5.out.block bx (by omega))))
          clear h ho3 hb3
          refine hK.out _ _ SF.out (fun hHeld => ?_)
          clear hK K
          refine tk 17 hHeld ?_
          refine tk 18 hHeld ?_
          refine rd1 19 (fun K hK => ?_)
          go_simp
          refine hK.out _ _ SF2.out (fun hHeld => ?_)
          clear hK K
          refine rd0 ?_
          clear hHeld
          go_wp2
          go_ret
          obtain ⟨hrow, hoff⟩ := Row.books2 (T := Rg v2.heap.size w5.heap.size) HR.out HS1.out HX.out (HB4.out.trans (HB5.out.mono (by omega))) HO3.out (fun q hq => ⟨by have := hq.1; omega, hq.2⟩)
          exact ⟨by rw [HV.out]; rfl, hoff, fun _ => by rw [HV.out]; exact hrow⟩
    | some bad =>
      by_cases hbc0 : bc = 0
      · have hbc0' := hbc0.symm
        subst hbc0'
        obtain ⟨v2, hv2⟩ : ∃ w, w = v1.alloc (.cells #[.slice (some bad) 0 0, .slice (some ⟨w4.heap.size, 0, none⟩) 1 1, .slice (some bad) (M.length - 0) (0)] 39) := ⟨_, rfl⟩
        obtain ⟨hbk, hbv2⟩ := H3.out (some bad) (0) (by unfold maxLen at hbm ⊢; omega) (fun h => by omega) v2 hv2
        have HBK := Lib.hid hbk
        have HBV2 := Lib.hid hbv2
        have SV2 := Lib.hid (HCE.out v2 (hbv2.block bx (by omega)))
        have hw2 : v2 = ((w4.alloc (.cells #[.int .i64 a, .int .i64 b] 25)).alloc (.cells #[.slice (some bad) 0 0, .slice (some ⟨w4.heap.size, 0, none⟩) 1 1, .slice (some bad) (M.length - 0) (0)] 39)).drew := by rw [hv2, HV1.out]; rfl
        rw [hw2] at HBK SV2
        have HW2 := Lib.hid hw2
        rw [HV1.out] at c5
        have SV1 := SV1
        rw [HV1.out] at SV1
        clear hbk hbv2 hv2 hv1s hw2
        rw [hm0] at HBK HW2 SV2
        go_upto_region 8 with fail
        refine wp_region_held_drew (S := (fun V => V.cell? ⟨bx, 0, none⟩ = some (.int .i64 a) ∧ V.cell? ⟨bx, 1, none⟩ = some (.int .i64 b))) (by kernel_rfl) (HS4.out) (fun hHeld => ?_)
        refine tk 0 hHeld ?_
        refine tk 1 hHeld ?_
        refine tk 2 hHeld ?_
        refine tk 3 hHeld ?_
        refine tk 5 hHeld ?_
        refine tk 7 hHeld ?_ (hy := fun w hSw => by (try dsimp only at hSw); have k0 := hSw.1; have k1 := hSw.2; clear hSw; go_simp; try with_reducible rfl)
        refine tk 9 hHeld ?_
        refine tk 10 hHeld ?_
        refine tk 11 hHeld ?_
        refine tk 13 hHeld ?_
        refine rd3 4 8 12 (fun K hK => ?_) (fun K hK => ?_) (fun K hK => ?_)
        · skip
          go_simp
          refine hK.out _ _ hHeld (fun hHeld => ?_)
          clear hK K
          refine tk 6 hHeld ?_
          refine rd2 8 12 (fun K hK => ?_) (fun K hK => ?_)
          · skip
            go_simp
            refine hK.out _ _ SV1.out (fun hHeld => ?_)
            clear hK K
            refine rd1 12 (fun K hK => ?_)
            go_simp
            refine hK.out _ _ hHeld (fun hHeld => ?_)
            clear hK K
            refine tk 14 hHeld ?_
            refine rd1 15 (fun K hK => ?_)
            go_simp
            refine hK.out _ _ SV2.out (fun hHeld => ?_)
            clear hK K
            refine rd1 16 (fun K hK => ?_)
            go_simp
            go_at_call 54
            refine (HBK.out).mono ?_
            intro e w5 h
            obtain ⟨a3, c3, rfl, ho3, hb3⟩ := newS_elim h
            rw [← HW2.out] at ho3 hb3
            have HO3 := Lib.hid ho3
            have HB5 := Lib.hid (HBV2.out.trans (hb3.mono HBV2.out.size))
            have hzq := HBV2.out.size
            have hz3 := hb3.size
            have d1 : w5.cell? ⟨g, k * 2 + 1, none⟩ = some (.slice _ _ _) := (HB5.out.cell (p := ⟨g, k * 2 + 1, none⟩) hgl4).trans c4
            have f1 : w5.frozen? ⟨g, k * 2 + 1, none⟩ = false := (HB5.out.frozen (p := ⟨g, k * 2 + 1, none⟩) hgl4).trans ((HB4.out.frozen (p := ⟨g, k * 2 + 1, none⟩) hgl).trans (HR.out.soft _))
            have SF := Lib.hid (HCE.out w5 (HB5.out.block bx (by omega)))
            have SF2 := Lib.hid (HCE.out (w5.setCell ⟨g, k * 2 + 1, none⟩ (.slice a3 R.length c3)) ((Below.heap_setCell w5 ⟨g, k * 2 + 1, none⟩ _ bx hxg).trans (HB5.out.block bx (by omega))))
            clear h ho3 hb3
            refine hK.out _ _ SF.out (fun hHeld => ?_)
            clear hK K
            refine tk 17 hHeld ?_
            refine tk 18 hHeld ?_
            refine rd1 19 (fun K hK => ?_)
            go_simp
            refine hK.out _ _ SF2.out (fun hHeld => ?_)
            clear hK K
            refine rd0 ?_
            clear hHeld
            go_wp2
            go_ret
            obtain ⟨hrow, hoff⟩ := Row.books2 (T := Rg v2.heap.size w5.heap.size) HR.out HS1.out HX.out (HB4.out.trans (HB5.out.mono (by omega))) HO3.out (fun q hq => ⟨by have := hq.1; omega, hq.2⟩)
            exact ⟨by rw [HV.out]; rfl, hoff, fun _ => by rw [HV.out]; exact hrow⟩
          · skip
            go_simp
            refine hK.out _ _ hHeld (fun hHeld => ?_)
            clear hK K
            refine tk 14 hHeld ?_
            refine rd1 8 (fun K hK => ?_)
            go_simp
            refine hK.out _ _ SV1.out (fun hHeld => ?_)
            clear hK K
            refine rd1 15 (fun K hK => ?_)
            go_simp
            refine hK.out _ _ SV2.out (fun hHeld => ?_)
            clear hK K
            refine rd1 16 (fun K hK => ?_)
            go_simp
            go_at_call 54
            refine (HBK.out).mono ?_
            intro e w5 h
            obtain ⟨a3, c3, rfl, ho3, hb3⟩ := newS_elim h
            rw [← HW2.out] at ho3 hb3
            have HO3 := Lib.hid ho3
            have HB5 := Lib.hid (HBV2.out.trans (hb3.mono HBV2.out.size))
            have hzq := HBV2.out.size
            have hz3 := hb3.size
            have d1 : w5.cell? ⟨g, k * 2 + 1, none⟩ = some (.slice _ _ _) := (HB5.out.cell (p := ⟨g, k * 2 + 1, none⟩) hgl4).trans c4
            have f1 : w5.frozen? ⟨g, k * 2 + 1, none⟩ = false := (HB5.out.frozen (p := ⟨g, k * 2 + 1, none⟩) hgl4).trans ((HB4.out.frozen (p := ⟨g, k * 2 + 1, none⟩) hgl).trans (HR.out.soft _))
            have SF := Lib.hid (HCE.out w5 (HB5.out.block bx (by omega)))
            have SF2 := Lib.hid (HCE.out (w5.setCell ⟨g, k * 2 + 1, none⟩ (.slice a3 R.length c3)) ((Below.heap_setCell w5 ⟨g, k * 2 + 1, none⟩ _ bx hxg).trans (HB5.out.block bx (by omega))))
            clear h ho3 hb3
            refine hK.out _ _ SF.out (fun hHeld => ?_)
            clear hK K
            refine tk 17 hHeld ?_
            refine tk 18 hHeld ?_
            refine rd1 19 (fun K hK => ?_)
            go_simp
            refine hK.out _ _ SF2.out (fun hHeld => ?_)
            clear hK K
            refine rd0 ?_
            clear hHeld
            go_wp2
            go_ret
            obtain ⟨hrow, hoff⟩ := Row.books2 (T := Rg v2.heap.size w5.heap.size) HR.out HS1.out HX.out (HB4.out.trans (HB5.out.mono (by omega))) HO3.out (fun q hq => ⟨by have := hq.1; omega, hq.2⟩)
            exact ⟨by rw [HV.out]; rfl, hoff, fun _ => by rw [HV.out]; exact hrow⟩
        · skip
          go_simp
          refine hK.out _ _ SV1.out (fun hHeld => ?_)
          clear hK K
          refine rd2 4 12 (fun K hK => ?_) (fun K hK => ?_)
          · skip
            go_simp
            refine hK.out _ _ hHeld (fun hHeld => ?_)
            clear hK K
            refine tk 6 hHeld ?_
            refine rd1 12 (fun K hK => ?_)
            go_simp
            refine hK.out _ _ hHeld (fun hHeld => ?_)
            clear hK K
            refine tk 14 hHeld ?_
            refine rd1 15 (fun K hK => ?_)
            go_simp
            refine hK.out _ _ SV2.out (fun hHeld => ?_)
            clear hK K
            refine rd1 16 (fun K hK => ?_)
            go_simp
            go_at_call 54
            refine (HBK.out).mono ?_
            intro e w5 h
            obtain ⟨a3, c3, rfl, ho3, hb3⟩ := newS_elim h
            rw [← HW2.out] at ho3 hb3
            have HO3 := Lib.hid ho3
            have HB5 := Lib.hid (HBV2.out.trans (hb3.mono HBV2.out.size))
            have hzq := HBV2.out.size
            have hz3 := hb3.size
            have d1 : w5.cell? ⟨g, k * 2 + 1, none⟩ = some (.slice _ _ _) := (HB5.out.cell (p := ⟨g, k * 2 + 1, none⟩) hgl4).trans c4
            have f1 : w5.frozen? ⟨g, k * 2 + 1, none⟩ = false := (HB5.out.frozen (p := ⟨g, k * 2 + 1, none⟩) hgl4).trans ((HB4.out.frozen (p := ⟨g, k * 2 + 1, none⟩) hgl).trans (HR.out.soft _))
            have SF := Lib.hid (HCE.out w5 (HB5.out.block bx (by omega)))
            have SF2 := Lib.hid (HCE.out (w5.setCell ⟨g, k * 2 + 1, none⟩ (.slice a3 R.length c3)) ((Below.heap_setCell w5 ⟨g, k * 2 + 1, none⟩ _ bx hxg).trans (HB5.out.block bx (by omega))))
            clear h ho3 hb3
            refine hK.out _ _ SF.out (fun hHeld => ?_)
            clear hK K
            refine tk 17 hHeld ?_
            refine tk 18 hHeld ?_
            refine rd1 19 (fun K hK => ?_)
            go_simp
            refine hK.out _ _ SF2.out (fun hHeld => ?_)
            clear hK K
            refine rd0 ?_
            clear hHeld
            go_wp2
            go_ret
            obtain ⟨hrow, hoff⟩ := Row.books2 (T := Rg v2.heap.size w5.heap.size) HR.out HS1.out HX.out (HB4.out.trans (HB5.out.mono (by omega))) HO3.out (fun q hq => ⟨by have := hq.1; omega, hq.2⟩)
            exact ⟨by rw [HV.out]; rfl, hoff, fun _ => by rw [HV.out]; exact hrow⟩
          · skip
            go_simp
            refine hK.out _ _ hHeld (fun hHeld => ?_)
            clear hK K
            refine tk 14 hHeld ?_
            refine rd1 4 (fun K hK => ?_)
            go_simp
            refine hK.out _ _ hHeld (fun hHeld => ?_)
            clear hK K
            refine tk 6 hHeld ?_
            refine rd1 15 (fun K hK => ?_)
            go_simp
            refine hK.out _ _ SV2.out (fun hHeld => ?_)
            clear hK K
            refine rd1 16 (fun K hK => ?_)
            go_simp
            go_at_call 54
            refine (HBK.out).mono ?_
            intro e w5 h
            obtain ⟨a3, c3, rfl, ho3, hb3⟩ := newS_elim h
            rw [← HW2.out] at ho3 hb3
            have HO3 := Lib.hid ho3
            have HB5 := Lib.hid (HBV2.out.trans (hb3.mono HBV2.out.size))
            have hzq := HBV2.out.size
            have hz3 := hb3.size
            have d1 : w5.cell? ⟨g, k * 2 + 1, none⟩ = some (.slice _ _ _) := (HB5.out.cell (p := ⟨g, k * 2 + 1, none⟩) hgl4).trans c4
            have f1 : w5.frozen? ⟨g, k * 2 + 1, none⟩ = false := (HB5.out.frozen (p := ⟨g, k * 2 + 1, none⟩) hgl4).trans ((HB4.out.frozen (p := ⟨g, k * 2 + 1, none⟩) hgl).trans (HR.out.soft _))
            have SF := Lib.hid (HCE.out w5 (HB5.out.block bx (by omega)))
            have SF2 := Lib.hid (HCE.out (w5.setCell ⟨g, k * 2 + 1, none⟩ (.slice a3 R.length c3)) ((Below.heap_setCell w5 ⟨g, k * 2 + 1, none⟩ _ bx hxg).trans (HB5.out.block bx (by omega))))
            clear h ho3 hb3
            refine hK.out _ _ SF.out (fun hHeld => ?_)
            clear hK K
            refine tk 17 hHeld ?_
            refine tk 18 hHeld ?_
            refine rd1 19 (fun K hK => ?_)
            go_simp
            refine hK.out _ _ SF2.out (fun hHeld => ?_)
            clear hK K
            refine rd0 ?_
            clear hHeld
            go_wp2
            go_ret
            obtain ⟨hrow, hoff⟩ := Row.books2 (T := Rg v2.heap.size w5.heap.size) HR.out HS1.out HX.out (HB4.out.trans (HB5.out.mono (by omega))) HO3.out (fun q hq => ⟨by have := hq.1; omega, hq.2⟩)
            exact ⟨by rw [HV.out]; rfl, hoff, fun _ => by rw [HV.out]; exact hrow⟩
        · skip
          go_simp
          refine hK.out _ _ hHeld (fun hHeld => ?_)
          clear hK K
          refine tk 14 hHeld ?_
          refine rd2 4 8 (fun K hK => ?_) (fun K hK => ?_)
          · skip
            go_simp
            refine hK.out _ _ hHeld (fun hHeld => ?_)
            clear hK K
            refine tk 6 hHeld ?_
            refine rd1 8 (fun K hK => ?_)
            go_simp
            refine hK.out _ _ SV1.out (fun hHeld => ?_)
            clear hK K
            refine rd1 15 (fun K hK => ?_)
            go_simp
            refine hK.out _ _ SV2.out (fun hHeld => ?_)
            clear hK K
            refine rd1 16 (fun K hK => ?_)
            go_simp
            go_at_call 54
            refine (HBK.out).mono ?_
            intro e w5 h
            obtain ⟨a3, c3, rfl, ho3, hb3⟩ := newS_elim h
            rw [← HW2.out] at ho3 hb3
            have HO3 := Lib.hid ho3
            have HB5 := Lib.hid (HBV2.out.trans (hb3.mono HBV2.out.size))
            have hzq := HBV2.out.size
            have hz3 := hb3.size
            have d1 : w5.cell? ⟨g, k * 2 + 1, none⟩ = some (.slice _ _ _) := (HB5.out.cell (p := ⟨g, k * 2 + 1, none⟩) hgl4).trans c4
            have f1 : w5.frozen? ⟨g, k * 2 + 1, none⟩ = false := (HB5.out.frozen (p := ⟨g, k * 2 + 1, none⟩) hgl4).trans ((HB4.out.frozen (p := ⟨g, k * 2 + 1, none⟩) hgl).trans (HR.out.soft _))
            have SF := Lib.hid (HCE.out w5 (HB5.out.block bx (by omega)))
            have SF2 := Lib.hid (HCE.out (w5.setCell ⟨g, k * 2 + 1, none⟩ (.slice a3 R.length c3)) ((Below.heap_setCell w5 ⟨g, k * 2 + 1, none⟩ _ bx hxg).trans (HB5.out.block bx (by omega))))
            clear h ho3 hb3
            refine hK.out _ _ SF.out (fun hHeld => ?_)
            clear hK K
            refine tk 17 hHeld ?_
            refine tk 18 hHeld ?_
            refine rd1 19 (fun K hK => ?_)
            go_simp
            refine hK.out _ _ SF2.out (fun hHeld => ?_)
            clear hK K
            refine rd0 ?_
            clear hHeld
            go_wp2
            go_ret
            obtain ⟨hrow, hoff⟩ := Row.books2 (T := Rg v2.heap.size w5.heap.size) HR.out HS1.out HX.out (HB4.out.trans (HB5.out.mono (by omega))) HO3.out (fun q hq => ⟨by have := hq.1; omega, hq.2⟩)
            exact ⟨by rw [HV.out]; rfl, hoff, fun _ => by rw [HV.out]; exact hrow⟩
          · skip
            go_simp
            refine hK.out _ _ SV1.out (fun hHeld => ?_)
            clear hK K
            refine rd1 4 (fun K hK => ?_)
            go_simp
            refine hK.out _ _ hHeld (fun hHeld => ?_)
            clear hK K
            refine tk 6 hHeld ?_
            refine rd1 15 (fun K hK => ?_)
            go_simp
            refine hK.out _ _ SV2.out (fun hHeld => ?_)
            clear hK K
            refine rd1 16 (fun K hK => ?_)
            go_simp
            go_at_call 54
            refine (HBK.out).mono ?_
            intro e w5 h
            obtain ⟨a3, c3, rfl, ho3, hb3⟩ := newS_elim h
            rw [← HW2.out] at ho3 hb3
            have HO3 := Lib.hid ho3
            have HB5 := Lib.hid (HBV2.out.trans (hb3.mono HBV2.out.size))
            have hzq := HBV2.out.size
            have hz3 := hb3.size
            have d1 : w5.cell? ⟨g, k * 2 + 1, none⟩ = some (.slice _ _ _) := (HB5.out.cell (p := ⟨g, k * 2 + 1, none⟩) hgl4).trans c4
            have f1 : w5.frozen? ⟨g, k * 2 + 1, none⟩ = false := (HB5.out.frozen (p := ⟨g, k * 2 + 1, none⟩) hgl4).trans ((HB4.out.frozen (p := ⟨g, k * 2 + 1, none⟩) hgl).trans (HR.out.soft _))
            have SF := Lib.hid (HCE.out w5 (HB5.out.block bx (by omega)))
            have SF2 := Lib.hid (HCE.out (w5.setCell ⟨g, k * 2 + 1, none⟩ (.slice a3 R.length c3)) ((Below.heap_setCell w5 ⟨g, k * 2 + 1, none⟩ _ bx hxg).trans (HB5.out.block bx (by omega))))
            clear h ho3 hb3
            refine hK.out _ _ SF.out (fun hHeld => ?_)
            clear hK K
            refine tk 17 hHeld ?_
            refine tk 18 hHeld ?_
            refine rd1 19 (fun K hK => ?_)
            go_simp
            refine hK.out _ _ SF2.out (fun hHeld => ?_)
            clear hK K
            refine rd0 ?_
            clear hHeld
            go_wp2
            go_ret
            obtain ⟨hrow, hoff⟩ := Row.books2 (T := Rg v2.heap.size w5.heap.size) HR.out HS1.out HX.out (HB4.out.trans (HB5.out.mono (by omega))) HO3.out (fun q hq => ⟨by have := hq.1; omega, hq.2⟩)
            exact ⟨by rw [HV.out]; rfl, hoff, fun _ => by rw [HV.out]; exact hrow⟩
      · have hbc1 : ¬ 0 = bc := fun e => hbc0 e.symm
        obtain ⟨v2, hv2⟩ : ∃ w, w = v1.alloc (.cells #[.slice (some bad) 0 bc, .slice (some ⟨w4.heap.size, 0, none⟩) 1 1, .slice (some bad) (M.length - 0) (bc)] 39) := ⟨_, rfl⟩
        obtain ⟨hbk, hbv2⟩ := H3.out (some bad) (bc) (by unfold maxLen at hbm ⊢; omega) (fun h => by omega) v2 hv2
        have HBK := Lib.hid hbk
        have HBV2 := Lib.hid hbv2
        have SV2 := Lib.hid (HCE.out v2 (hbv2.block bx (by omega)))
        have hw2 : v2 = ((w4.alloc (.cells #[.int .i64 a, .int .i64 b] 25)).alloc (.cells #[.slice (some bad) 0 bc, .slice (some ⟨w4.heap.size, 0, none⟩) 1 1, .slice (some bad) (M.length - 0) (bc)] 39)).drew := by rw [hv2, HV1.out]; rfl
        rw [hw2] at HBK SV2
        have HW2 := Lib.hid hw2
        rw [HV1.out] at c5
        have SV1 := SV1
        rw [HV1.out] at SV1
        clear hbk hbv2 hv2 hv1s hw2
        rw [hm0] at HBK HW2 SV2
        go_upto_region 8 with fail
        refine wp_region_held_drew (S := (fun V => V.cell? ⟨bx, 0, none⟩ = some (.int .i64 a) ∧ V.cell? ⟨bx, 1, none⟩ = some (.int .i64 b))) (by kernel_rfl) (HS4.out) (fun hHeld => ?_)
        refine tk 0 hHeld ?_
        refine tk 1 hHeld ?_
        refine tk 2 hHeld ?_
        refine tk 3 hHeld ?_
        refine tk 5 hHeld ?_
        refine tk 7 hHeld ?_ (hy := fun w hSw => by (try dsimp only at hSw); have k0 := hSw.1; have k1 := hSw.2; clear hSw; go_simp; try with_reducible rfl)
        refine tk 9 hHeld ?_
        refine tk 10 hHeld ?_
        refine tk 11 hHeld ?_
        refine tk 13 hHeld ?_
        refine rd3 4 8 12 (fun K hK => ?_) (fun K hK => ?_) (fun K hK => ?_)
        · skip
          go_simp
          refine hK.out _ _ hHeld (fun hHeld => ?_)
          clear hK K
          refine tk 6 hHeld ?_
          refine rd2 8 12 (fun K hK => ?_) (fun K hK => ?_)
          · skip
            go_simp
            refine hK.out _ _ SV1.out (fun hHeld => ?_)
            clear hK K
            refine rd1 12 (fun K hK => ?_)
            go_simp
            refine hK.out _ _ hHeld (fun hHeld => ?_)
            clear hK K
            refine tk 14 hHeld ?_
            refine rd1 15 (fun K hK => ?_)
            go_simp
            refine hK.out _ _ SV2.out (fun hHeld => ?_)
            clear hK K
            refine rd1 16 (fun K hK => ?_)
            go_simp
            go_at_call 54
            refine (HBK.out).mono ?_
            intro e w5 h
            obtain ⟨a3, c3, rfl, ho3, hb3⟩ := newS_elim h
            rw [← HW2.out] at ho3 hb3
            have HO3 := Lib.hid ho3
            have HB5 := Lib.hid (HBV2.out.trans (hb3.mono HBV2.out.size))
            have hzq := HBV2.out.size
            have hz3 := hb3.size
            have d1 : w5.cell? ⟨g, k * 2 + 1, none⟩ = some (.slice _ _ _) := (HB5.out.cell (p := ⟨g, k * 2 + 1, none⟩) hgl4).trans c4
            have f1 : w5.frozen? ⟨g, k * 2 + 1, none⟩ = false := (HB5.out.frozen (p := ⟨g, k * 2 + 1, none⟩) hgl4).trans ((HB4.out.frozen (p := ⟨g, k * 2 + 1, none⟩) hgl).trans (HR.out.soft _))
            have SF := Lib.hid (HCE.out w5 (HB5.out.block bx (by omega)))
            have SF2 := Lib.hid (HCE.out (w5.setCell ⟨g, k * 2 + 1, none⟩ (.slice a3 R.length c3)) ((Below.heap_setCell w5 ⟨g, k * 2 + 1, none⟩ _ bx hxg).trans (HB5.out.block bx (by omega))))
            clear h ho3 hb3
            refine hK.out _ _ SF.out (fun hHeld => ?_)
            clear hK K
            refine tk 17 hHeld ?_
            refine tk 18 hHeld ?_
            refine rd1 19 (fun K hK => ?_)
            go_simp
            refine hK.out _ _ SF2.out (fun hHeld => ?_)
            clear hK K
            refine rd0 ?_
            clear hHeld
            go_wp2
            go_ret
            obtain ⟨hrow, hoff⟩ := Row.books2 (T := Rg v2.heap.size w5.heap.size) HR.out HS1.out HX.out (HB4.out.trans (HB5.out.mono (by omega))) HO3.out (fun q hq => ⟨by have := hq.1; omega, hq.2⟩)
            exact ⟨by rw [HV.out]; rfl, hoff, fun _ => by rw [HV.out]; exact hrow⟩
          · skip
            go_simp
            refine hK.out _ _ hHeld (fun hHeld => ?_)
            clear hK K
            refine tk 14 hHeld ?_
            refine rd1 8 (fun K hK => ?_)
            go_simp
            refine hK.out _ _ SV1.out (fun hHeld => ?_)
            clear hK K
            refine rd1 15 (fun K hK => ?_)
            go_simp
            refine hK.out _ _ SV2.out (fun hHeld => ?_)
            clear hK K
            refine rd1 16 (fun K hK => ?_)
            go_simp
            go_at_call 54
            refine (HBK.out).mono ?_
            intro e w5 h
            obtain ⟨a3, c3, rfl, ho3, hb3⟩ := newS_elim h
            rw [← HW2.out] at ho3 hb3
            have HO3 := Lib.hid ho3
            have HB5 := Lib.hid (HBV2.out.trans (hb3.mono HBV2.out.size))
            have hzq := HBV2.out.size
            have hz3 := hb3.size
            have d1 : w5.cell? ⟨g, k * 2 + 1, none⟩ = some (.slice _ _ _) := (HB5.out.cell (p := ⟨g, k * 2 + 1, none⟩) hgl4).trans c4
            have f1 : w5.frozen? ⟨g, k * 2 + 1, none⟩ = false := (HB5.out.frozen (p := ⟨g, k * 2 + 1, none⟩) hgl4).trans ((HB4.out.frozen (p := ⟨g, k * 2 + 1, none⟩) hgl).trans (HR.out.soft _))
            have SF := Lib.hid (HCE.out w5 (HB5.out.block bx (by omega)))
            have SF2 := Lib.hid (HCE.out (w5.setCell ⟨g, k * 2 + 1, none⟩ (.slice a3 R.length c3)) ((Below.heap_setCell w5 ⟨g, k * 2 + 1, none⟩ _ bx hxg).trans (HB5.out.block bx (by omega))))
            clear h ho3 hb3
            refine hK.out _ _ SF.out (fun hHeld => ?_)
            clear hK K
            refine tk 17 hHeld ?_
            refine tk 18 hHeld ?_
            refine rd1 19 (fun K hK => ?_)
            go_simp
            refine hK.out _ _ SF2.out (fun hHeld => ?_)
            clear hK K
            refine rd0 ?_
            clear hHeld
            go_wp2
            go_ret
            obtain ⟨hrow, hoff⟩ := Row.books2 (T := Rg v2.heap.size w5.heap.size) HR.out HS1.out HX.out (HB4.out.trans (HB5.out.mono (by omega))) HO3.out (fun q hq => ⟨by have := hq.1; omega, hq.2⟩)
            exact ⟨by rw [HV.out]; rfl, hoff, fun _ => by rw [HV.out]; exact hrow⟩
        · skip
          go_simp
          refine hK.out _ _ SV1.out (fun hHeld => ?_)
          clear hK K
          refine rd2 4 12 (fun K hK => ?_) (fun K hK => ?_)
          · skip
            go_simp
            refine hK.out _ _ hHeld (fun hHeld => ?_)
            clear hK K
            refine tk 6 hHeld ?_
            refine rd1 12 (fun K hK => ?_)
            go_simp
            refine hK.out _ _ hHeld (fun hHeld => ?_)
            clear hK K
            refine tk 14 hHeld ?_
            refine rd1 15 (fun K hK => ?_)
            go_simp
            refine hK.out _ _ SV2.out (fun hHeld => ?_)
            clear hK K
            refine rd1 16 (fun K hK => ?_)
            go_simp
            go_at_call 54
            refine (HBK.out).mono ?_
            intro e w5 h
            obtain ⟨a3, c3, rfl, ho3, hb3⟩ := newS_elim h
            rw [← HW2.out] at ho3 hb3
            have HO3 := Lib.hid ho3
            have HB5 := Lib.hid (HBV2.out.trans (hb3.mono HBV2.out.size))
            have hzq := HBV2.out.size
            have hz3 := hb3.size
            have d1 : w5.cell? ⟨g, k * 2 + 1, none⟩ = some (.slice _ _ _) := (HB5.out.cell (p := ⟨g, k * 2 + 1, none⟩) hgl4).trans c4
            have f1 : w5.frozen? ⟨g, k * 2 + 1, none⟩ = false := (HB5.out.frozen (p := ⟨g, k * 2 + 1, none⟩) hgl4).trans ((HB4.out.frozen (p := ⟨g, k * 2 + 1, none⟩) hgl).trans (HR.out.soft _))
            have SF := Lib.hid (HCE.out w5 (HB5.out.block bx (by omega)))
            have SF2 := Lib.hid (HCE.out (w5.setCell ⟨g, k * 2 + 1, none⟩ (.slice a3 R.length c3)) ((Below.heap_setCell w5 ⟨g, k * 2 + 1, none⟩ _ bx hxg).trans (HB5.out.block bx (by omega))))
            clear h ho3 hb3
            refine hK.out _ _ SF.out (fun hHeld => ?_)
            clear hK K
            refine tk 17 hHeld ?_
            refine tk 18 hHeld ?_
            refine rd1 19 (fun K hK => ?_)
            go_simp
            refine hK.out _ _ SF2.out (fun hHeld => ?_)
            clear hK K
            refine rd0 ?_
            clear hHeld
            go_wp2
            go_ret
            obtain ⟨hrow, hoff⟩ := Row.books2 (T := Rg v2.heap.size w5.heap.size) HR.out HS1.out HX.out (HB4.out.trans (HB5.out.mono (by omega))) HO3.out (fun q hq => ⟨by have := hq.1; omega, hq.2⟩)
            exact ⟨by rw [HV.out]; rfl, hoff, fun _ => by rw [HV.out]; exact hrow⟩
          · skip
            go_simp
            refine hK.out _ _ hHeld (fun hHeld => ?_)
            clear hK K
            refine tk 14 hHeld ?_
            refine rd1 4 (fun K hK => ?_)
            go_simp
            refine hK.out _ _ hHeld (fun hHeld => ?_)
            clear hK K
            refine tk 6 hHeld ?_
            refine rd1 15 (fun K hK => ?_)
            go_simp
            refine hK.out _ _ SV2.out (fun hHeld => ?_)
            clear hK K
            refine rd1 16 (fun K hK => ?_)
            go_simp
            go_at_call 54
            refine (HBK.out).mono ?_
            intro e w5 h
            obtain ⟨a3, c3, rfl, ho3, hb3⟩ := newS_elim h
            rw [← HW2.out] at ho3 hb3
            have HO3 := Lib.hid ho3
            have HB5 := Lib.hid (HBV2.out.trans (hb3.mono HBV2.out.size))
            have hzq := HBV2.out.size
            have hz3 := hb3.size
            have d1 : w5.cell? ⟨g, k * 2 + 1, none⟩ = some (.slice _ _ _) := (HB5.out.cell (p := ⟨g, k * 2 + 1, none⟩) hgl4).trans c4
            have f1 : w5.frozen? ⟨g, k * 2 + 1, none⟩ = false := (HB5.out.frozen (p := ⟨g, k * 2 + 1, none⟩) hgl4).trans ((HB4.out.frozen (p := ⟨g, k * 2 + 1, none⟩) hgl).trans (HR.out.soft _))
            have SF := Lib.hid (HCE.out w5 (HB5.out.block bx (by omega)))
            have SF2 := Lib.hid (HCE.out (w5.setCell ⟨g, k * 2 + 1, none⟩ (.slice a3 R.length c3)) ((Below.heap_setCell w5 ⟨g, k * 2 + 1, none⟩ _ bx hxg).trans (HB5.out.block bx (by omega))))
            clear h ho3 hb3
            refine hK.out _ _ SF.out (fun hHeld => ?_)
            clear hK K
            refine tk 17 hHeld ?_
            refine tk 18 hHeld ?_
            refine rd1 19 (fun K hK => ?_)
            go_simp
            refine hK.out _ _ SF2.out (fun hHeld => ?_)
            clear hK K
            refine rd0 ?_
            clear hHeld
            go_wp2
            go_ret
            obtain ⟨hrow, hoff⟩ := Row.books2 (T := Rg v2.heap.size w5.heap.size) HR.out HS1.out HX.out (HB4.out.trans (HB5.out.mono (by omega))) HO3.out (fun q hq => ⟨by have := hq.1; omega, hq.2⟩)
            exact ⟨by rw [HV.out]; rfl, hoff, fun _ => by rw [HV.out]; exact hrow⟩
        · skip
          go_simp
          refine hK.out _ _ hHeld (fun hHeld => ?_)
          clear hK K
          refine tk 14 hHeld ?_
          refine rd2 4 8 (fun K hK => ?_) (fun K hK => ?_)
          · skip
            go_simp
            refine hK.out _ _ hHeld (fun hHeld => ?_)
            clear hK K
            refine tk 6 hHeld ?_
            refine rd1 8 (fun K hK => ?_)
            go_simp
            refine hK.out _ _ SV1.out (fun hHeld => ?_)
            clear hK K
            refine rd1 15 (fun K hK => ?_)
            go_simp
            refine hK.out _ _ SV2.out (fun hHeld => ?_)
            clear hK K
            refine rd1 16 (fun K hK => ?_)
            go_simp
            go_at_call 54
            refine (HBK.out).mono ?_
            intro e w5 h
            obtain ⟨a3, c3, rfl, ho3, hb3⟩ := newS_elim h
            rw [← HW2.out] at ho3 hb3
            have HO3 := Lib.hid ho3
            have HB5 := Lib.hid (HBV2.out.trans (hb3.mono HBV2.out.size))
            have hzq := HBV2.out.size
            have hz3 := hb3.size
            have d1 : w5.cell? ⟨g, k * 2 + 1, none⟩ = some (.slice _ _ _) := (HB5.out.cell (p := ⟨g, k * 2 + 1, none⟩) hgl4).trans c4
            have f1 : w5.frozen? ⟨g, k * 2 + 1, none⟩ = false := (HB5.out.frozen (p := ⟨g, k * 2 + 1, none⟩) hgl4).trans ((HB4.out.frozen (p := ⟨g, k * 2 + 1, none⟩) hgl).trans (HR.out.soft _))
            have SF := Lib.hid (HCE.out w5 (HB5.out.block bx (by omega)))
            have SF2 := Lib.hid (HCE.out (w5.setCell ⟨g, k * 2 + 1, none⟩ (.slice a3 R.length c3)) ((Below.heap_setCell w5 ⟨g, k * 2 + 1, none⟩ _ bx hxg).trans (HB5.out.block bx (by omega))))
            clear h ho3 hb3
            refine hK.out _ _ SF.out (fun hHeld => ?_)
            clear hK K
            refine tk 17 hHeld ?_
            refine tk 18 hHeld ?_
            refine rd1 19 (fun K hK => ?_)
            go_simp
            refine hK.out _ _ SF2.out (fun hHeld => ?_)
            clear hK K
            refine rd0 ?_
            clear hHeld
            go_wp2
            go_ret
            obtain ⟨hrow, hoff⟩ := Row.books2 (T := Rg v2.heap.size w5.heap.size) HR.out HS1.out HX.out (HB4.out.trans (HB5.out.mono (by omega))) HO3.out (fun q hq => ⟨by have := hq.1; omega, hq.2⟩)
            exact ⟨by rw [HV.out]; rfl, hoff, fun _ => by rw [HV.out]; exact hrow⟩
          · skip
            go_simp
            refine hK.out _ _ SV1.out (fun hHeld => ?_)
            clear hK K
            refine rd1 4 (fun K hK => ?_)
            go_simp
            refine hK.out _ _ hHeld (fun hHeld => ?_)
            clear hK K
            refine tk 6 hHeld ?_
            refine rd1 15 (fun K hK => ?_)
            go_simp
            refine hK.out _ _ SV2.out (fun hHeld => ?_)
            clear hK K
            refine rd1 16 (fun K hK => ?_)
            go_simp
            go_at_call 54
            refine (HBK.out).mono ?_
            intro e w5 h
            obtain ⟨a3, c3, rfl, ho3, hb3⟩ := newS_elim h
            rw [← HW2.out] at ho3 hb3
            have HO3 := Lib.hid ho3
            have HB5 := Lib.hid (HBV2.out.trans (hb3.mono HBV2.out.size))
            have hzq := HBV2.out.size
            have hz3 := hb3.size
            have d1 : w5.cell? ⟨g, k * 2 + 1, none⟩ = some (.slice _ _ _) := (HB5.out.cell (p := ⟨g, k * 2 + 1, none⟩) hgl4).trans c4
            have f1 : w5.frozen? ⟨g, k * 2 + 1, none⟩ = false := (HB5.out.frozen (p := ⟨g, k * 2 + 1, none⟩) hgl4).trans ((HB4.out.frozen (p := ⟨g, k * 2 + 1, none⟩) hgl).trans (HR.out.soft _))
            have SF := Lib.hid (HCE.out w5 (HB5.out.block bx (by omega)))
            have SF2 := Lib.hid (HCE.out (w5.setCell ⟨g, k * 2 + 1, none⟩ (.slice a3 R.length c3)) ((Below.heap_setCell w5 ⟨g, k * 2 + 1, none⟩ _ bx hxg).trans (HB5.out.block bx (by omega))))
            clear h ho3 hb3
            refine hK.out _ _ SF.out (fun hHeld => ?_)
            clear hK K
            refine tk 17 hHeld ?_
            refine tk 18 hHeld ?_
            refine rd1 19 (fun K hK => ?_)
            go_simp
            refine hK.out _ _ SF2.out (fun hHeld => ?_)
            clear hK K
            refine rd0 ?_
            clear hHeld
            go_wp2
            go_ret
            obtain ⟨hrow, hoff⟩ := Row.books2 (T := Rg v2.heap.size w5.heap.size) HR.out HS1.out HX.out (HB4.out.trans (HB5.out.mono (by omega))) HO3.out (fun q hq => ⟨by have := hq.1; omega, hq.2⟩)
            exact ⟨by rw [HV.out]; rfl, hoff, fun _ => by rw [HV.out]; exact hrow⟩
end Go.Proofs.Ytfciojkibklkfaa.RepC
end
section
namespace Go.Proofs.Ytfciojkibklkfaa.RepC
open Go.RowKit RowC ValC SpanC KeptC
set_option linter.unusedVariables false
set_option linter.unusedSimpArgs false
set_option maxRecDepth 100000 in
set_option maxHeartbeats 3200000 in
theorem put_impl2 {L : List D_Node} {n a b now : Int} {al : Option Addr} {cap : Nat} {W : World} (h : RdSl R_Node W W.heap.size L al cap) :
    Calls Try.prog 13 #[.slice al L.length cap, .int .i64 n, .agg #[.int .i64 a, .int .i64 b], .int .i64 now] W (NewV R_NodesOut (chgV L n (spB a b && isB now 0 999900) (putN (a, b) now)) W) := by
  obtain ⟨w0, hw0⟩ : ∃ w, w = W.alloc (.cells #[.int .i64 a, .int .i64 b] 25) := ⟨_, rfl⟩
  have hb0 : Below W.heap.size W w0 := by rw [hw0]; exact (Below.refl _ _).alloc (Nat.le_refl _) _
  have hs0 : w0.heap.size = W.heap.size + 1 := by rw [hw0]; simp
  have x0 : Blk w0 W.heap.size 25 #[.int .i64 a, .int .i64 b] := by rw [hw0]; exact Blk.new _ _ _
  obtain ⟨w1, hw1⟩ : ∃ w, w = w0.alloc (.cells #[.int .i64 now] 2) := ⟨_, rfl⟩
  have hb1 : Below w0.heap.size w0 w1 := by rw [hw1]; exact (Below.refl _ _).alloc (Nat.le_refl _) _
  have hs1 : w1.heap.size = W.heap.size + 2 := by rw [hw1]; simp [hs0]
  have y0 : Blk w1 (W.heap.size + 1) 2 #[.int .i64 now] := by rw [← hs0, hw1]; exact Blk.new _ _ _
  obtain ⟨w2, hw2⟩ : ∃ w, w = w1.alloc (.cells #[.slice none 0 0, .int .i64 0] 29) := ⟨_, rfl⟩
  have hb2 : Below w1.heap.size w1 w2 := by rw [hw2]; exact (Below.refl _ _).alloc (Nat.le_refl _) _
  have XR := Lib.hid (show Blk w2 (W.heap.size + 2) 29 #[.slice none 0 0, .int .i64 0] from by rw [← hs1, hw2]; exact Blk.new _ _ _)
  have X2 := Lib.hid ((x0.call hb1).call hb2)
  have Y2 := Lib.hid (y0.call hb2)
  have HB2 := Lib.hid ((hb0.trans (hb1.mono hb0.size)).trans (hb2.mono (Nat.le_trans hb0.size hb1.size)))
  have H := Lib.hid (mv_rd R_Node_ok h HB2.out)
  have hmf : ∀ (fn : Fn) (first cap : Array Value) (w : World), (Instr.makeFunc fn first cap).run Try.prog w = .ok (.func fn first cap) w := fun _ _ _ _ => rfl
  have eg : ∀ args w, (callFunc 52 args).run Try.prog w = .ok (.enter 52 args) w := enters_of Try.func52 (by kernel_rfl) rfl
  have HEG := Lib.hid eg
  clear eg h hb0 hb1 hb2 x0 y0
  have p0 := X2.out.at_ 0 rfl
  have p1 := X2.out.at_ 1 rfl
  rw [hw2, hw1, hw0] at p0 p1
  obtain ⟨zs, hzs⟩ : ∃ zs, spB a b = zs := ⟨_, rfl⟩
  obtain ⟨zn, hzn⟩ : ∃ zn, isB now 0 999900 = zn := ⟨_, rfl⟩
  have hrs := fun W => right_impl a b W
  have hnw := fun W => now_impl now W
  rw [hzs] at hrs
  rw [hzn] at hnw
  have HZS := Lib.hid hzs
  have HZN := Lib.hid hzn
  obtain ⟨okv, hok⟩ : ∃ o, (zs && zn) = o := ⟨_, rfl⟩
  have HOK := Lib.hid hok
  rw [hzs, hzn, hok]
  clear hzs hzn hok
  go_enter Try.func13, Try.ntmps13
  go_wp2_with fail
  rw [← hw0, ← hw1, ← hw2]
  clear hw0 hw1 hw2 p0 p1
  refine (hrs _).mono ?_
  rintro e wr ⟨rfl, hb⟩
  have HB1 := Lib.hid (HB2.out.trans (hb.mono HB2.out.size))
  have XR := Lib.hid (XR.out.call hb)
  have X3 := Lib.hid (X2.out.call hb)
  have Y3 := Lib.hid (Y2.out.call hb)
  have H3 := Lib.hid (mv_rd R_Node_ok H.out hb)
  have HSW := Lib.hid (show W.heap.size + 2 < wr.heap.size from XR.out.lt)
  have HCH := Lib.hid (show okv = true → ChgF 52 #[.pointer (some ⟨W.heap.size, 0, none⟩), .pointer (some ⟨W.heap.size + 1, 0, none⟩)] (putN (a, b) now) wr from fun ho => by
    have h1 := HOK.out
    rw [ho, Bool.and_eq_true] at h1
    exact put_chg (X3.out.at_ 0 rfl) (X3.out.at_ 1 rfl) X3.out.lt (Y3.out.at_ 0 rfl) Y3.out.lt (by rw [HZS.out]; exact h1.1) (by rw [HZN.out]; exact h1.2))
  have n0 := Y3.out.at_ 0 rfl
  clear hb hrs hs0 hs1
  cases zs with
  | false =>
    obtain rfl : okv = false := by have := HOK.out; simpa using this.symm
    go_wp2_with fail
    refine (change_impl2 HEG.out H3.out HCH.out).mono ?_
    intro e w5 h
    obtain ⟨⟨R, cd⟩, hd⟩ : ∃ d, chgV L n false (putN (a, b) now) = d := ⟨_, rfl⟩
    rw [hd] at h
    have HDD := Lib.hid hd
    obtain ⟨us, rfl, hu, hb⟩ := newV_elim h
    obtain ⟨a0, c0, rfl, hu⟩ := owc_NodesOut hu
    have XR := Lib.hid (XR.out.call hb)
    have HB5 := Lib.hid (HB1.out.trans (hb.mono HB1.out.size))
    have HU := Lib.hid hu
    have q0 := XR.out.at_ 0 rfl
    have q1 := XR.out.at_ 1 rfl
    have f0 := XR.out.soft 0
    have f1 := XR.out.soft 1
    have hzr := XR.out.lt
    have hz1 := hb.size
    clear h hu hb hd
    go_wp2
    refine bodyPost_ret (v := .agg #[.slice a0 R.length c0, .int .i64 cd]) (by simp [results, Try.results13, go_sem, *]) rfl ⟨[.slice a0 R.length c0, .int .i64 cd], rfl, ?_, (HB5.out.setCell (p := ⟨W.heap.size + 2, 0, none⟩) (show W.heap.size ≤ W.heap.size + 2 by omega) _).setCell (p := ⟨W.heap.size + 2, 1, none⟩) (show W.heap.size ≤ W.heap.size + 2 by omega) _⟩
    have hsw := HSW.out
    rw [HDD.out]
    refine R_NodesOut_ok.ow_more (R_NodesOut_ok.ow_keep HU.out fun q hq => ?_) fun q hq => ⟨?_, ?_⟩
    · have hq1 := hq.1
      rw [Below.heap_setCell _ ⟨W.heap.size + 2, 1, none⟩ _ q (show q ≠ W.heap.size + 2 by omega), Below.heap_setCell _ ⟨W.heap.size + 2, 0, none⟩ _ q (show q ≠ W.heap.size + 2 by omega)]
    · have hq1 := hq.1
      omega
    · have hq2 := hq.2
      simp; exact hq2
  | true =>
    obtain rfl : okv = zn := by have := HOK.out; simpa using this.symm
    go_wp2_with (first | (go_at_call 51; refine (hnw _).mono ?_; rintro e w' ⟨rfl, rfl⟩) | fail)
    refine (change_impl2 HEG.out H3.out HCH.out).mono ?_
    intro e w5 h
    obtain ⟨⟨R, cd⟩, hd⟩ : ∃ d, chgV L n okv (putN (a, b) now) = d := ⟨_, rfl⟩
    rw [hd] at h
    have HDD := Lib.hid hd
    obtain ⟨us, rfl, hu, hb⟩ := newV_elim h
    obtain ⟨a0, c0, rfl, hu⟩ := owc_NodesOut hu
    have XR := Lib.hid (XR.out.call hb)
    have HB5 := Lib.hid (HB1.out.trans (hb.mono HB1.out.size))
    have HU := Lib.hid hu
    have q0 := XR.out.at_ 0 rfl
    have q1 := XR.out.at_ 1 rfl
    have f0 := XR.out.soft 0
    have f1 := XR.out.soft 1
    have hzr := XR.out.lt
    have hz1 := hb.size
    clear h hu hb hd
    go_wp2
    refine bodyPost_ret (v := .agg #[.slice a0 R.length c0, .int .i64 cd]) (by simp [results, Try.results13, go_sem, *]) rfl ⟨[.slice a0 R.length c0, .int .i64 cd], rfl, ?_, (HB5.out.setCell (p := ⟨W.heap.size + 2, 0, none⟩) (show W.heap.size ≤ W.heap.size + 2 by omega) _).setCell (p := ⟨W.heap.size + 2, 1, none⟩) (show W.heap.size ≤ W.heap.size + 2 by omega) _⟩
    have hsw := HSW.out
    rw [HDD.out]
    refine R_NodesOut_ok.ow_more (R_NodesOut_ok.ow_keep HU.out fun q hq => ?_) fun q hq => ⟨?_, ?_⟩
    · have hq1 := hq.1
      rw [Below.heap_setCell _ ⟨W.heap.size + 2, 1, none⟩ _ q (show q ≠ W.heap.size + 2 by omega), Below.heap_setCell _ ⟨W.heap.size + 2, 0, none⟩ _ q (show q ≠ W.heap.size + 2 by omega)]
    · have hq1 := hq.1
      omega
    · have hq2 := hq.2
      simp; exact hq2
end Go.Proofs.Ytfciojkibklkfaa.RepC
end
section
namespace Go.Proofs.Ytfciojkibklkfaa.RepC
open Go.RowKit RowC ValC SpanC KeptC
set_option linter.unusedVariables false
set_option linter.unusedSimpArgs false
theorem cut_pred (bx : Nat) (frm : Int) : PredS 73 bx (.int .i64 frm) (fun x => x.1 == frm) := fun w x0 x1 h => by
  have hbl := World.block_lt_of_cell? w ⟨bx, 0, none⟩ h
  have hne : bx ≠ w.heap.size := by have : bx < w.heap.size := hbl; omega
  have h2 : (w.alloc (.cells #[.int .i64 x0, .int .i64 x1] 25)).cell? ⟨bx, 0, none⟩ = some (.int .i64 frm) := (((Below.refl _ w).alloc (Nat.le_refl _) _).cell (p := ⟨bx, 0, none⟩) hbl).trans h
  go_enter Try.func73, Try.ntmps73
  go_wp2
  go_ret
  exact ⟨rfl, (Below.refl _ _).alloc (Nat.le_refl _) _⟩
theorem cutN_no {frm : Int} {s : Int} {M : List D_Span} (h : ∀ (i : Nat) x, M[i]? = some x → (x.1 == frm) = false) : cutN frm (s, M) = (6, (s, M)) := by
  have e : M.filter (fun s => !decide (s.1 = frm)) = M := List.filter_eq_self.2 fun y hy => by
    obtain ⟨i, hi, rfl⟩ := List.getElem_of_mem hy
    have := h i _ (List.getElem?_eq_getElem hi)
    have h2 : ¬ M[i].1 = frm := by simpa using this
    simp [h2]
  unfold cutN
  rw [if_pos (by rw [e])]
theorem cutN_yes {frm : Int} {s : Int} {M : List D_Span} (hS : SpR M.length (gt M)) {q : Nat} {x : D_Span} (hx : M[q]? = some x) (hq : (x.1 == frm) = true) : cutN frm (s, M) = (0, (s, M.take q ++ M.drop (q + 1))) := by
  have e1 : x.1 = frm := by simpa using hq
  have e := cut_eq hS hx
  rw [e1] at e
  have hl := el_lt hx
  unfold cutN
  rw [e]
  rw [if_neg (by rw [List.length_append, List.length_take, List.length_drop]; show ¬ _ = M.length; omega)]
set_option maxRecDepth 100000 in
set_option maxHeartbeats 3200000 in
theorem cut_chg {bx : Nat} {frm : Int} {W : World} (hbx : W.cell? ⟨bx, 0, none⟩ = some (.int .i64 frm)) (hbl : bx < W.heap.size) : ChgF 71 #[.pointer (some ⟨bx, 0, none⟩)] (cutN frm) W := fun wq S L g k Sf x hR hS1 hS2 hB hx hok => by
  show Calls Try.prog 71 #[.pointer (some ⟨g, k * 2, none⟩), .pointer (some ⟨bx, 0, none⟩)] wq _
  obtain ⟨us, hu, hr⟩ := hR.el k x hx
  obtain ⟨s, M⟩ := x
  obtain ⟨ba, bc, T0, rfl, hT0, hO⟩ := ow_Node hr
  rw [size_NodeS] at hu
  have hgl : g < wq.heap.size := hS1 g hR.own
  have e1 : wq.cell? ⟨g, k * 2 + 1, none⟩ = some (.slice ba M.length bc) := hu 1 _ rfl
  have eb : wq.cell? ⟨bx, 0, none⟩ = some (.int .i64 frm) := (hB.cell (p := ⟨bx, 0, none⟩) hbl).trans hbx
  have hbl2 : bx < wq.heap.size := Nat.lt_of_lt_of_le hbl hB.size
  have hrd : RdSl R_Span wq wq.heap.size M ba bc := hO.rd R_Span_ok fun q hq => hS1 q (hR.sub k q (hT0 q hq)).1
  have hm4 : M.length ≤ 4 := hok.2.1
  have HSP := Lib.hid hok.2.2
  have hmf : ∀ (fn : Fn) (first cap : Array Value) (w : World), (Instr.makeFunc fn first cap).run Try.prog w = .ok (.func fn first cap) w := fun _ _ _ _ => rfl
  have eg : ∀ args w, (callFunc 73 args).run Try.prog w = .ok (.enter 73 args) w := enters_of Try.func73 (by kernel_rfl) rfl
  have hix := indexf_spans eg (cut_pred bx frm) eb hbl2 hrd
  have HR := Lib.hid hR
  have HS1 := Lib.hid hS1
  have HX := Lib.hid hx
  have HRD := Lib.hid hrd
  have HE1 := Lib.hid e1
  clear hR hS1 hT0 hO hx hu hr hok hB hS2 hbx hbl hrd eg eb
  go_enter Try.func71, Try.ntmps71
  go_wp2_with fail
  refine hix.mono ?_
  intro e w1 h
  obtain ⟨z, rfl, hb, hz⟩ := ixP_elim h
  have HB := Lib.hid hb
  have hsz := hb.size
  clear h hb hix e1
  rcases hz with ⟨rfl, hall⟩ | ⟨q, x, rfl, hxq, hpx, hall⟩
  · have HV := Lib.hid (cutN_no (s := s) hall)
    clear hall
    go_wp2
    go_ret
    exact ⟨by rw [HV.out]; rfl, (Off.refl _ wq).of_below HB.out, fun h => by rw [HV.out] at h; cases h⟩
  · have HV := Lib.hid (cutN_yes (s := s) HSP.out hxq hpx)
    have hq := el_lt hxq
    have hn : decide ((q : Int) < 0) = false := decide_eq_false (by omega)
    obtain ⟨gb, ob, rfl, _, _⟩ := HRD.out.2.2 (by omega)
    have hbc := HRD.out.1
    have hbm := HRD.out.2.1
    have hwr : IntKind.i64.wrap ((q : Int) + 1) = (q : Int) + 1 := IntWalk.i64_in _ (by omega)
    have hq0 : (0 : Int) ≤ (q : Int) := Int.natCast_nonneg _
    have hq1 : (q : Int) ≤ (bc : Int) := by omega
    have hq2 : (0 : Int) ≤ (q : Int) + 1 := by omega
    have hq3 : (q : Int) + 1 ≤ (M.length : Int) := by omega
    have hq4 : q ≤ bc := by omega
    clear hall hxq hpx
    have HRD1 := Lib.hid (mv_rd R_Span_ok HRD.out HB.out)
    have hlt : (M.take q).length = q := by rw [List.length_take]; omega
    have hld : (M.drop (q + 1)).length = M.length - (q + 1) := List.length_drop ..
    have c1 : w1.cell? ⟨g, k * 2 + 1, none⟩ = some (.slice (some ⟨gb, ob, none⟩) M.length bc) := (HB.out.cell (p := ⟨g, k * 2 + 1, none⟩) hgl).trans HE1.out
    obtain ⟨ad, had⟩ : ∃ ad : Option Addr, ad = if bc = q + 1 then some ⟨gb, ob, none⟩ else some ⟨gb, ob + (q + 1) * 2, none⟩ := ⟨_, rfl⟩
    obtain ⟨w2, hw2⟩ : ∃ w, w = (w1.alloc (.cells #[.slice (some ⟨gb, ob, none⟩) q bc, .slice ad (M.length - (q + 1)) (bc - (q + 1))] 39)).drew := ⟨_, rfl⟩
    have hb2 : Below w1.heap.size w1 w2 := by rw [hw2]; exact ((Below.refl _ _).alloc (Nat.le_refl _) _).drew
    have X2 : Blk w2 w1.heap.size 39 #[.slice (some ⟨gb, ob, none⟩) q bc, .slice ad (M.length - (q + 1)) (bc - (q + 1))] := by rw [hw2]; exact Blk.new w1 _ _
    have hrd2 := mv_rd R_Span_ok HRD1.out hb2
    have hbk := books_impl (Ls := [M.take q, M.drop (q + 1)]) (W := w2) (by simp; omega) (rd_parts (cs := [.slice (some ⟨gb, ob, none⟩) q bc, .slice ad (M.length - (q + 1)) (bc - (q + 1))]) X2 rfl (by simp) (fun i N hN => by
      match i, hN with
      | 0, hN => simp at hN; subst hN; exact ⟨_, _, by rw [hlt]; rfl, rd_take hrd2 q⟩
      | 1, hN => simp at hN; subst hN; exact ⟨_, _, by rw [hld]; rfl, rd_drop hrd2 (fun h => by rw [had, if_neg (by omega), size_SpanS])⟩
      | i + 2, hN => simp at hN))
    rw [show ([M.take q, M.drop (q + 1)] : List (List D_Span)).flatten = M.take q ++ M.drop (q + 1) by simp] at hbk
    obtain ⟨R, hRR⟩ : ∃ R, M.take q ++ M.drop (q + 1) = R := ⟨_, rfl⟩
    rw [hRR] at hbk HV
    have HBK := Lib.hid hbk
    have HB2 := Lib.hid hb2
    rw [hw2] at HBK
    have HW2 := Lib.hid hw2
    have c1' : w1.drew.cell? ⟨g, k * 2 + 1, none⟩ = some (.slice (some ⟨gb, ob, none⟩) M.length bc) := c1
    have HAD := Lib.hid had
    clear hbk hb2 X2 hrd2 hlt hld hRR c1 had hw2
    by_cases hcap : bc = q + 1
    · have HAD2 := HAD.out
      rw [if_pos hcap] at HAD2
      subst HAD2
      have hqx : (q : Int) ≤ (q : Int) + 1 := by omega
      subst hcap
      have hm0 : M.length - (q + 1) = 0 := by omega
      simp only [Nat.sub_self, hm0] at HBK HW2
      clear hm0
      go_upto_region 4 with fail
      refine wp_region_held_drew (S := (fun V => True)) (by kernel_rfl) (trivial) (fun hHeld => ?_)
      refine tk 0 hHeld ?_
      refine tk 1 hHeld ?_
      refine tk 2 hHeld ?_
      refine tk 3 hHeld ?_
      refine tk 5 hHeld ?_
      refine tk 7 hHeld ?_
      refine tk 8 hHeld ?_
      refine tk 9 hHeld ?_
      refine tk 11 hHeld ?_
      refine tk 12 hHeld ?_
      refine rd2 4 10 (fun K hK => ?_) (fun K hK => ?_)
      · skip
        go_simp
        refine hK.out _ _ trivial (fun hHeld => ?_)
        clear hK K
        refine tk 6 hHeld ?_
        refine rd1 10 (fun K hK => ?_)
        go_simp
        refine hK.out _ _ trivial (fun hHeld => ?_)
        clear hK K
        refine tk 13 hHeld ?_
        refine rd1 14 (fun K hK => ?_)
        go_simp
        refine hK.out _ _ trivial (fun hHeld => ?_)
        clear hK K
        refine rd1 15 (fun K hK => ?_)
        go_simp
        go_at_call 54
        refine (HBK.out).mono ?_
        intro e w3 h
        obtain ⟨a3, c3, rfl, ho3, hb3⟩ := newS_elim h
        rw [← HW2.out] at ho3 hb3
        have HO3 := Lib.hid ho3
        have HB3 := Lib.hid (HB2.out.trans (hb3.mono HB2.out.size))
        have hzq := HB2.out.size
        have hz3 := hb3.size
        have d1 : w3.cell? ⟨g, k * 2 + 1, none⟩ = some (.slice (some ⟨gb, ob, none⟩) M.length _) := (HB3.out.cell (p := ⟨g, k * 2 + 1, none⟩) (show g < w1.heap.size by omega)).trans c1'
        have f1 : w3.frozen? ⟨g, k * 2 + 1, none⟩ = false := (HB3.out.frozen (p := ⟨g, k * 2 + 1, none⟩) (show g < w1.heap.size by omega)).trans ((HB.out.frozen (p := ⟨g, k * 2 + 1, none⟩) hgl).trans (HR.out.soft _))
        clear h ho3 hb3
        refine hK.out _ _ trivial (fun hHeld => ?_)
        clear hK K
        refine tk 16 hHeld ?_
        refine tk 17 hHeld ?_
        refine rd1 18 (fun K hK => ?_)
        go_simp
        refine hK.out _ _ trivial (fun hHeld => ?_)
        clear hK K
        refine rd0 ?_
        clear hHeld
        go_wp2
        go_ret
        obtain ⟨hrow, hoff⟩ := Row.books2 (T := Rg w2.heap.size w3.heap.size) HR.out HS1.out HX.out (HB.out.trans (HB3.out.mono hsz)) HO3.out (fun q hq => ⟨by have := hq.1; omega, hq.2⟩)
        exact ⟨by rw [HV.out]; rfl, hoff, fun _ => by rw [HV.out]; exact hrow⟩
      · skip
        go_simp
        refine hK.out _ _ trivial (fun hHeld => ?_)
        clear hK K
        refine tk 13 hHeld ?_
        refine rd1 4 (fun K hK => ?_)
        go_simp
        refine hK.out _ _ trivial (fun hHeld => ?_)
        clear hK K
        refine tk 6 hHeld ?_
        refine rd1 14 (fun K hK => ?_)
        go_simp
        refine hK.out _ _ trivial (fun hHeld => ?_)
        clear hK K
        refine rd1 15 (fun K hK => ?_)
        go_simp
        go_at_call 54
        refine (HBK.out).mono ?_
        intro e w3 h
        obtain ⟨a3, c3, rfl, ho3, hb3⟩ := newS_elim h
        rw [← HW2.out] at ho3 hb3
        have HO3 := Lib.hid ho3
        have HB3 := Lib.hid (HB2.out.trans (hb3.mono HB2.out.size))
        have hzq := HB2.out.size
        have hz3 := hb3.size
        have d1 : w3.cell? ⟨g, k * 2 + 1, none⟩ = some (.slice (some ⟨gb, ob, none⟩) M.length _) := (HB3.out.cell (p := ⟨g, k * 2 + 1, none⟩) (show g < w1.heap.size by omega)).trans c1'
        have f1 : w3.frozen? ⟨g, k * 2 + 1, none⟩ = false := (HB3.out.frozen (p := ⟨g, k * 2 + 1, none⟩) (show g < w1.heap.size by omega)).trans ((HB.out.frozen (p := ⟨g, k * 2 + 1, none⟩) hgl).trans (HR.out.soft _))
        clear h ho3 hb3
        refine hK.out _ _ trivial (fun hHeld => ?_)
        clear hK K
        refine tk 16 hHeld ?_
        refine tk 17 hHeld ?_
        refine rd1 18 (fun K hK => ?_)
        go_simp
        refine hK.out _ _ trivial (fun hHeld => ?_)
        clear hK K
        refine rd0 ?_
        clear hHeld
        go_wp2
        go_ret
        obtain ⟨hrow, hoff⟩ := Row.books2 (T := Rg w2.heap.size w3.heap.size) HR.out HS1.out HX.out (HB.out.trans (HB3.out.mono hsz)) HO3.out (fun q hq => ⟨by have := hq.1; omega, hq.2⟩)
        exact ⟨by rw [HV.out]; rfl, hoff, fun _ => by rw [HV.out]; exact hrow⟩
    · have HAD2 := HAD.out
      rw [if_neg hcap] at HAD2
      subst HAD2
      have hcap2 : ¬ q + 1 = bc := fun e => hcap e.symm
      go_upto_region 4 with fail
      refine wp_region_held_drew (S := (fun V => True)) (by kernel_rfl) (trivial) (fun hHeld => ?_)
      refine tk 0 hHeld ?_
      refine tk 1 hHeld ?_
      refine tk 2 hHeld ?_
      refine tk 3 hHeld ?_
      refine tk 5 hHeld ?_
      refine tk 7 hHeld ?_
      refine tk 8 hHeld ?_
      refine tk 9 hHeld ?_
      refine tk 11 hHeld ?_
      refine tk 12 hHeld ?_
      refine rd2 4 10 (fun K hK => ?_) (fun K hK => ?_)
      · skip
        go_simp
        refine hK.out _ _ trivial (fun hHeld => ?_)
        clear hK K
        refine tk 6 hHeld ?_
        refine rd1 10 (fun K hK => ?_)
        go_simp
        refine hK.out _ _ trivial (fun hHeld => ?_)
        clear hK K
        refine tk 13 hHeld ?_
        refine rd1 14 (fun K hK => ?_)
        go_simp
        refine hK.out _ _ trivial (fun hHeld => ?_)
        clear hK K
        refine rd1 15 (fun K hK => ?_)
        go_simp
        go_at_call 54
        refine (HBK.out).mono ?_
        intro e w3 h
        obtain ⟨a3, c3, rfl, ho3, hb3⟩ := newS_elim h
        rw [← HW2.out] at ho3 hb3
        have HO3 := Lib.hid ho3
        have HB3 := Lib.hid (HB2.out.trans (hb3.mono HB2.out.size))
        have hzq := HB2.out.size
        have hz3 := hb3.size
        have d1 : w3.cell? ⟨g, k * 2 + 1, none⟩ = some (.slice (some ⟨gb, ob, none⟩) M.length _) := (HB3.out.cell (p := ⟨g, k * 2 + 1, none⟩) (show g < w1.heap.size by omega)).trans c1'
        have f1 : w3.frozen? ⟨g, k * 2 + 1, none⟩ = false := (HB3.out.frozen (p := ⟨g, k * 2 + 1, none⟩) (show g < w1.heap.size by omega)).trans ((HB.out.frozen (p := ⟨g, k * 2 + 1, none⟩) hgl).trans (HR.out.soft _))
        clear h ho3 hb3
        refine hK.out _ _ trivial (fun hHeld => ?_)
        clear hK K
        refine tk 16 hHeld ?_
        refine tk 17 hHeld ?_
        refine rd1 18 (fun K hK => ?_)
        go_simp
        refine hK.out _ _ trivial (fun hHeld => ?_)
        clear hK K
        refine rd0 ?_
        clear hHeld
        go_wp2
        go_ret
        obtain ⟨hrow, hoff⟩ := Row.books2 (T := Rg w2.heap.size w3.heap.size) HR.out HS1.out HX.out (HB.out.trans (HB3.out.mono hsz)) HO3.out (fun q hq => ⟨by have := hq.1; omega, hq.2⟩)
        exact ⟨by rw [HV.out]; rfl, hoff, fun _ => by rw [HV.out]; exact hrow⟩
      · skip
        go_simp
        refine hK.out _ _ trivial (fun hHeld => ?_)
        clear hK K
        refine tk 13 hHeld ?_
        refine rd1 4 (fun K hK => ?_)
        go_simp
        refine hK.out _ _ trivial (fun hHeld => ?_)
        clear hK K
        refine tk 6 hHeld ?_
        refine rd1 14 (fun K hK => ?_)
        go_simp
        refine hK.out _ _ trivial (fun hHeld => ?_)
        clear hK K
        refine rd1 15 (fun K hK => ?_)
        go_simp
        go_at_call 54
        refine (HBK.out).mono ?_
        intro e w3 h
        obtain ⟨a3, c3, rfl, ho3, hb3⟩ := newS_elim h
        rw [← HW2.out] at ho3 hb3
        have HO3 := Lib.hid ho3
        have HB3 := Lib.hid (HB2.out.trans (hb3.mono HB2.out.size))
        have hzq := HB2.out.size
        have hz3 := hb3.size
        have d1 : w3.cell? ⟨g, k * 2 + 1, none⟩ = some (.slice (some ⟨gb, ob, none⟩) M.length _) := (HB3.out.cell (p := ⟨g, k * 2 + 1, none⟩) (show g < w1.heap.size by omega)).trans c1'
        have f1 : w3.frozen? ⟨g, k * 2 + 1, none⟩ = false := (HB3.out.frozen (p := ⟨g, k * 2 + 1, none⟩) (show g < w1.heap.size by omega)).trans ((HB.out.frozen (p := ⟨g, k * 2 + 1, none⟩) hgl).trans (HR.out.soft _))
        clear h ho3 hb3
        refine hK.out _ _ trivial (fun hHeld => ?_)
        clear hK K
        refine tk 16 hHeld ?_
        refine tk 17 hHeld ?_
        refine rd1 18 (fun K hK => ?_)
        go_simp
        refine hK.out _ _ trivial (fun hHeld => ?_)
        clear hK K
        refine rd0 ?_
        clear hHeld
        go_wp2
        go_ret
        obtain ⟨hrow, hoff⟩ := Row.books2 (T := Rg w2.heap.size w3.heap.size) HR.out HS1.out HX.out (HB.out.trans (HB3.out.mono hsz)) HO3.out (fun q hq => ⟨by have := hq.1; omega, hq.2⟩)
        exact ⟨by rw [HV.out]; rfl, hoff, fun _ => by rw [HV.out]; exact hrow⟩
set_option maxRecDepth 100000 in
set_option maxHeartbeats 1600000 in
theorem cut_impl {L : List D_Node} {n frm : Int} {a : Option Addr} {cap : Nat} {W : World} (h : RdSl R_Node W W.heap.size L a cap) :
    Calls Try.prog 22 #[.slice a L.length cap, .int .i64 n, .int .i64 frm] W (NewV R_NodesOut (chgV L n true (cutN frm)) W) := by
  obtain ⟨w0, hw0⟩ : ∃ w, w = W.alloc (.cells #[.int .i64 frm] 2) := ⟨_, rfl⟩
  have hb0 : Below W.heap.size W w0 := by rw [hw0]; exact (Below.refl _ _).alloc (Nat.le_refl _) _
  have hs0 : w0.heap.size = W.heap.size + 1 := by rw [hw0]; simp
  have x0 : Blk w0 W.heap.size 2 #[.int .i64 frm] := by rw [hw0]; exact Blk.new _ _ _
  obtain ⟨w1, hw1⟩ : ∃ w, w = w0.alloc (.cells #[.slice none 0 0, .int .i64 0] 29) := ⟨_, rfl⟩
  have hb1 : Below w0.heap.size w0 w1 := by rw [hw1]; exact (Below.refl _ _).alloc (Nat.le_refl _) _
  have hs1 : w1.heap.size = W.heap.size + 2 := by rw [hw1]; simp [hs0]
  have XR := Lib.hid (show Blk w1 (W.heap.size + 1) 29 #[.slice none 0 0, .int .i64 0] from by rw [← hs0, hw1]; exact Blk.new _ _ _)
  have X1 := Lib.hid (x0.call hb1)
  have HB1 := Lib.hid (hb0.trans (hb1.mono hb0.size))
  have HSW := Lib.hid hs1
  have H := Lib.hid (mv_rd R_Node_ok h HB1.out)
  have HCH := Lib.hid (cut_chg (X1.out.at_ 0 rfl) X1.out.lt)
  have hmf : ∀ (fn : Fn) (first cap : Array Value) (w : World), (Instr.makeFunc fn first cap).run Try.prog w = .ok (.func fn first cap) w := fun _ _ _ _ => rfl
  have eg : ∀ args w, (callFunc 71 args).run Try.prog w = .ok (.enter 71 args) w := enters_of Try.func71 (by kernel_rfl) rfl
  have HEG := Lib.hid eg
  clear eg h hb0 hb1 x0 hs1
  go_enter Try.func22, Try.ntmps22
  go_wp2_with fail
  rw [← hw0, ← hw1]
  clear hw1 hw0 hs0
  refine (change_impl HEG.out H.out HCH.out).mono ?_
  intro e w5 h
  obtain ⟨⟨R, cd⟩, hd⟩ : ∃ d, chgV L n true (cutN frm) = d := ⟨_, rfl⟩
  rw [hd] at h
  have HDD := Lib.hid hd
  obtain ⟨us, rfl, hu, hb⟩ := newV_elim h
  obtain ⟨a0, c0, rfl, hu⟩ := owc_NodesOut hu
  have XR := Lib.hid (XR.out.call hb)
  have HB5 := Lib.hid (HB1.out.trans (hb.mono HB1.out.size))
  have HU := Lib.hid hu
  have q0 := XR.out.at_ 0 rfl
  have q1 := XR.out.at_ 1 rfl
  have f0 := XR.out.soft 0
  have f1 := XR.out.soft 1
  have hzr := XR.out.lt
  have hz1 := hb.size
  clear h hu hb hd
  go_wp2
  refine bodyPost_ret (v := .agg #[.slice a0 R.length c0, .int .i64 cd]) (by simp [results, Try.results22, go_sem, *]) rfl ⟨[.slice a0 R.length c0, .int .i64 cd], rfl, ?_, (HB5.out.setCell (p := ⟨W.heap.size + 1, 0, none⟩) (show W.heap.size ≤ W.heap.size + 1 by omega) _).setCell (p := ⟨W.heap.size + 1, 1, none⟩) (show W.heap.size ≤ W.heap.size + 1 by omega) _⟩
  have hsw := HSW.out
  rw [HDD.out]
  refine R_NodesOut_ok.ow_more (R_NodesOut_ok.ow_keep HU.out fun q hq => ?_) fun q hq => ⟨?_, ?_⟩
  · have hq1 := hq.1
    rw [Below.heap_setCell _ ⟨W.heap.size + 1, 1, none⟩ _ q (show q ≠ W.heap.size + 1 by omega), Below.heap_setCell _ ⟨W.heap.size + 1, 0, none⟩ _ q (show q ≠ W.heap.size + 1 by omega)]
  · have hq1 := hq.1
    omega
  · have hq2 := hq.2
    simp; exact hq2
end Go.Proofs.Ytfciojkibklkfaa.RepC
end
