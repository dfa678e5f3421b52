/- The laws' data: contracts. -/
import Derived.Test.YtelhmacfljffhaaJobT
import Derived.Test.YtelhmacfljffhaaMkT
namespace Go.Proofs.Ytelhmacfljffhaa.RepC
open Go.RowKit RowC ValC
set_option linter.unusedVariables false
set_option linter.unusedSimpArgs false

abbrev D_Wish : Type := (ByteArray) × (Int) × (Int) × (Int) × (D_Label) × (Int) × (Int)
def R_Wish : Rp D_Wish := (Pr St (Pr I (Pr I (Pr I (Pr R_Label (Pr I I))))))
theorem R_Wish_ok : Ok R_Wish := (Pr_ok St_ok (Pr_ok I_ok (Pr_ok I_ok (Pr_ok I_ok (Pr_ok R_Label_ok (Pr_ok I_ok I_ok))))))
theorem rd_Wish {W : World} {B : Nat} {x0 : ByteArray} {x1 : Int} {x2 : Int} {x3 : Int} {x4 : Int} {x5 : Int} {x6 : Int} {x7 : Int} {cs : List Value} (h : R_Wish.rd W B (x0, x1, x2, x3, (x4, x5), x6, x7) cs) : cs = [.string x0, .int .i64 x1, .int .i64 x2, .int .i64 x3, .int .i64 x4, .int .i64 x5, .int .i64 x6, .int .i64 x7] ∧ x0.size ≤ maxLen := by
  obtain ⟨u1, v1, rfl, h1, g1⟩ := h
  obtain ⟨hq_x0, b_x0⟩ := h1
  obtain rfl : u1 = [_] := hq_x0
  obtain ⟨u2, v2, rfl, h2, g2⟩ := g1
  obtain rfl : u2 = [_] := h2
  obtain ⟨u3, v3, rfl, h3, g3⟩ := g2
  obtain rfl : u3 = [_] := h3
  obtain ⟨u4, v4, rfl, h4, g4⟩ := g3
  obtain rfl : u4 = [_] := h4
  obtain ⟨u5, v5, rfl, h5, g5⟩ := g4
  obtain ⟨u6, v6, rfl, h6, g6⟩ := h5
  obtain rfl : u6 = [_] := h6
  obtain rfl : v6 = [_] := g6
  obtain ⟨u7, v7, rfl, h7, g7⟩ := g5
  obtain rfl : u7 = [_] := h7
  obtain rfl : v7 = [_] := g7
  exact ⟨rfl, b_x0⟩
theorem mkrd_Wish {W : World} {B : Nat} {x0 : ByteArray} {x1 : Int} {x2 : Int} {x3 : Int} {x4 : Int} {x5 : Int} {x6 : Int} {x7 : Int}  (b_x0 : x0.size ≤ maxLen) : R_Wish.rd W B (x0, x1, x2, x3, (x4, x5), x6, x7) [.string x0, .int .i64 x1, .int .i64 x2, .int .i64 x3, .int .i64 x4, .int .i64 x5, .int .i64 x6, .int .i64 x7] := ⟨[.string x0], [.int .i64 x1, .int .i64 x2, .int .i64 x3, .int .i64 x4, .int .i64 x5, .int .i64 x6, .int .i64 x7], rfl, ⟨rfl, b_x0⟩, ⟨[.int .i64 x1], [.int .i64 x2, .int .i64 x3, .int .i64 x4, .int .i64 x5, .int .i64 x6, .int .i64 x7], rfl, rfl, ⟨[.int .i64 x2], [.int .i64 x3, .int .i64 x4, .int .i64 x5, .int .i64 x6, .int .i64 x7], rfl, rfl, ⟨[.int .i64 x3], [.int .i64 x4, .int .i64 x5, .int .i64 x6, .int .i64 x7], rfl, rfl, ⟨[.int .i64 x4, .int .i64 x5], [.int .i64 x6, .int .i64 x7], rfl, ⟨[.int .i64 x4], [.int .i64 x5], rfl, rfl, rfl⟩, ⟨[.int .i64 x6], [.int .i64 x7], rfl, rfl, rfl⟩⟩⟩⟩⟩⟩
theorem mkow_Wish {W : World} {S : Nat → Prop} {x0 : ByteArray} {x1 : Int} {x2 : Int} {x3 : Int} {x4 : Int} {x5 : Int} {x6 : Int} {x7 : Int}  (b_x0 : x0.size ≤ maxLen) : R_Wish.ow W S (x0, x1, x2, x3, (x4, x5), x6, x7) [.string x0, .int .i64 x1, .int .i64 x2, .int .i64 x3, .int .i64 x4, .int .i64 x5, .int .i64 x6, .int .i64 x7] := ⟨[.string x0], [.int .i64 x1, .int .i64 x2, .int .i64 x3, .int .i64 x4, .int .i64 x5, .int .i64 x6, .int .i64 x7], (fun _ => False), (fun _ => False), rfl, (fun k h => h.elim), (fun k h => h.elim), (fun k h h' => h.elim), ⟨rfl, b_x0⟩, ⟨[.int .i64 x1], [.int .i64 x2, .int .i64 x3, .int .i64 x4, .int .i64 x5, .int .i64 x6, .int .i64 x7], (fun _ => False), (fun _ => False), rfl, (fun k h => h.elim), (fun k h => h.elim), (fun k h h' => h.elim), rfl, ⟨[.int .i64 x2], [.int .i64 x3, .int .i64 x4, .int .i64 x5, .int .i64 x6, .int .i64 x7], (fun _ => False), (fun _ => False), rfl, (fun k h => h.elim), (fun k h => h.elim), (fun k h h' => h.elim), rfl, ⟨[.int .i64 x3], [.int .i64 x4, .int .i64 x5, .int .i64 x6, .int .i64 x7], (fun _ => False), (fun _ => False), rfl, (fun k h => h.elim), (fun k h => h.elim), (fun k h h' => h.elim), rfl, ⟨[.int .i64 x4, .int .i64 x5], [.int .i64 x6, .int .i64 x7], (fun _ => False), (fun _ => False), rfl, (fun k h => h.elim), (fun k h => h.elim), (fun k h h' => h.elim), ⟨[.int .i64 x4], [.int .i64 x5], (fun _ => False), (fun _ => False), rfl, (fun k h => h.elim), (fun k h => h.elim), (fun k h h' => h.elim), rfl, rfl⟩, ⟨[.int .i64 x6], [.int .i64 x7], (fun _ => False), (fun _ => False), rfl, (fun k h => h.elim), (fun k h => h.elim), (fun k h h' => h.elim), rfl, rfl⟩⟩⟩⟩⟩⟩
theorem ow0_Wish {W : World} {S : Nat → Prop} {x0 : ByteArray} {x1 : Int} {x2 : Int} {x3 : Int} {x4 : Int} {x5 : Int} {x6 : Int} {x7 : Int} {cs : List Value} (h : R_Wish.ow W S (x0, x1, x2, x3, (x4, x5), x6, x7) cs) : cs = [.string x0, .int .i64 x1, .int .i64 x2, .int .i64 x3, .int .i64 x4, .int .i64 x5, .int .i64 x6, .int .i64 x7] ∧ x0.size ≤ maxLen := by
  obtain ⟨u1, v1, A1, B1, rfl, sa1, sb1, dd1, h1, g1⟩ := h
  obtain ⟨hq_x0, b_x0⟩ := h1
  obtain rfl : u1 = [_] := hq_x0
  obtain ⟨u2, v2, A2, B2, rfl, sa2, sb2, dd2, h2, g2⟩ := g1
  obtain rfl : u2 = [_] := h2
  obtain ⟨u3, v3, A3, B3, rfl, sa3, sb3, dd3, h3, g3⟩ := g2
  obtain rfl : u3 = [_] := h3
  obtain ⟨u4, v4, A4, B4, rfl, sa4, sb4, dd4, h4, g4⟩ := g3
  obtain rfl : u4 = [_] := h4
  obtain ⟨u5, v5, A5, B5, rfl, sa5, sb5, dd5, h5, g5⟩ := g4
  obtain ⟨u6, v6, A6, B6, rfl, sa6, sb6, dd6, h6, g6⟩ := h5
  obtain rfl : u6 = [_] := h6
  obtain rfl : v6 = [_] := g6
  obtain ⟨u7, v7, A7, B7, rfl, sa7, sb7, dd7, h7, g7⟩ := g5
  obtain rfl : u7 = [_] := h7
  obtain rfl : v7 = [_] := g7
  exact ⟨rfl, b_x0⟩


set_option maxRecDepth 100000 in
set_option maxHeartbeats 3200000 in
theorem to_Wish {x0 : ByteArray} {x1 : Int} {x2 : Int} {x3 : Int} {x4 : Int} {x5 : Int} {x6 : Int} {x7 : Int}  {W : World} (hsz : R_Wish.sz (x0, x1, x2, x3, (x4, x5), x6, x7) ≤ 1048576) (b_x0 : x0.size ≤ maxLen) : Calls Try.prog 6 #[.agg #[.string x0, .int .i64 x1, .int .i64 x2, .int .i64 x3, .int .i64 x4, .int .i64 x5, .int .i64 x6, .int .i64 x7]] W (NewV R_Wish (x0, x1, x2, x3, (x4, x5), x6, x7) W) := by
  have HSZ := Lib.hid hsz
  clear hsz
  have hP := ((Blk.new W 25 #[.string x0, .int .i64 x1, .int .i64 x2, .int .i64 x3, .int .i64 x4, .int .i64 x5, .int .i64 x6, .int .i64 x7]).alloc (.cells #[.string ⟨#[]⟩, .int .i64 0, .int .i64 0, .int .i64 0, .int .i64 0, .int .i64 0, .int .i64 0, .int .i64 0] 30)).alloc (.cells #[.string x0, .int .i64 x1, .int .i64 x2, .int .i64 x3, .int .i64 0, .int .i64 0, .int .i64 0, .int .i64 0] 30)
  have hR := (Blk.new (W.alloc (.cells #[.string x0, .int .i64 x1, .int .i64 x2, .int .i64 x3, .int .i64 x4, .int .i64 x5, .int .i64 x6, .int .i64 x7] 25)) 30 #[.string ⟨#[]⟩, .int .i64 0, .int .i64 0, .int .i64 0, .int .i64 0, .int .i64 0, .int .i64 0, .int .i64 0]).alloc (.cells #[.string x0, .int .i64 x1, .int .i64 x2, .int .i64 x3, .int .i64 0, .int .i64 0, .int .i64 0, .int .i64 0] 30)
  have hO := Blk.new ((W.alloc (.cells #[.string x0, .int .i64 x1, .int .i64 x2, .int .i64 x3, .int .i64 x4, .int .i64 x5, .int .i64 x6, .int .i64 x7] 25)).alloc (.cells #[.string ⟨#[]⟩, .int .i64 0, .int .i64 0, .int .i64 0, .int .i64 0, .int .i64 0, .int .i64 0, .int .i64 0] 30)) 30 #[.string x0, .int .i64 x1, .int .i64 x2, .int .i64 x3, .int .i64 0, .int .i64 0, .int .i64 0, .int .i64 0]
  simp only [World.size_alloc] at hP hR hO
  have HB0 := Lib.hid (show Below W.heap.size W (((W.alloc (.cells #[.string x0, .int .i64 x1, .int .i64 x2, .int .i64 x3, .int .i64 x4, .int .i64 x5, .int .i64 x6, .int .i64 x7] 25)).alloc (.cells #[.string ⟨#[]⟩, .int .i64 0, .int .i64 0, .int .i64 0, .int .i64 0, .int .i64 0, .int .i64 0, .int .i64 0] 30)).alloc (.cells #[.string x0, .int .i64 x1, .int .i64 x2, .int .i64 x3, .int .i64 0, .int .i64 0, .int .i64 0, .int .i64 0] 30)) from (((Below.refl _ _).alloc (Nat.le_refl _) _).alloc (by simp) _).alloc (by simp; omega) _)
  have hz0 : W.heap.size + 3 ≤ (((W.alloc (.cells #[.string x0, .int .i64 x1, .int .i64 x2, .int .i64 x3, .int .i64 x4, .int .i64 x5, .int .i64 x6, .int .i64 x7] 25)).alloc (.cells #[.string ⟨#[]⟩, .int .i64 0, .int .i64 0, .int .i64 0, .int .i64 0, .int .i64 0, .int .i64 0, .int .i64 0] 30)).alloc (.cells #[.string x0, .int .i64 x1, .int .i64 x2, .int .i64 x3, .int .i64 0, .int .i64 0, .int .i64 0, .int .i64 0] 30)).heap.size := by simp
  have HP0 := Lib.hid hP
  have HR0 := Lib.hid hR
  have HO0 := Lib.hid hO
  clear hP hR hO
  go_enter Try.func6, Try.ntmps6
  go_wp2_with fail
  refine (to_Label (by have h0 := HSZ.out; simp only [R_Wish, R_Label, Pr, Sl, I, Bo, St, atom] at h0 ⊢; omega)).mono ?_
  intro e w1 h
  obtain ⟨vs, rfl, how, hb⟩ := newV_elim h
  obtain rfl := ow0_Label how
  have hP : Blk w1 (W.heap.size) 25 #[.string x0, .int .i64 x1, .int .i64 x2, .int .i64 x3, .int .i64 x4, .int .i64 x5, .int .i64 x6, .int .i64 x7] := Blk.call HP0.out hb
  have hR : Blk w1 (W.heap.size + 1) 30 #[.string ⟨#[]⟩, .int .i64 0, .int .i64 0, .int .i64 0, .int .i64 0, .int .i64 0, .int .i64 0, .int .i64 0] := Blk.call HR0.out hb
  have hO : Blk w1 (W.heap.size + 1 + 1) 30 #[.string x0, .int .i64 x1, .int .i64 x2, .int .i64 x3, .int .i64 0, .int .i64 0, .int .i64 0, .int .i64 0] := Blk.call HO0.out hb
  have hz1 : W.heap.size + 3 ≤ w1.heap.size := Nat.le_trans hz0 (size_call hb (S := fun x => x < W.heap.size + 3) (Off.refl (fun x => x < W.heap.size + 3) _))
  have HB1 := Lib.hid (Below.trans (B := W.heap.size) (a := W) HB0.out (hb.mono (by have h0 := hz0; first | omega | (simp; omega))))
  have HP1 := Lib.hid hP
  have HR1 := Lib.hid hR
  have HO1 := Lib.hid hO
  clear h hb hP hR hO how
  have p1_0 := HP1.out.at_ 0 rfl
  have o1_0 := HO1.out.at_ 0 rfl
  have r1_0 := HR1.out.at_ 0 rfl
  have f1_0 := HO1.out.soft 0
  have g1_0 := HR1.out.soft 0
  have p1_1 := HP1.out.at_ 1 rfl
  have o1_1 := HO1.out.at_ 1 rfl
  have r1_1 := HR1.out.at_ 1 rfl
  have f1_1 := HO1.out.soft 1
  have g1_1 := HR1.out.soft 1
  have p1_2 := HP1.out.at_ 2 rfl
  have o1_2 := HO1.out.at_ 2 rfl
  have r1_2 := HR1.out.at_ 2 rfl
  have f1_2 := HO1.out.soft 2
  have g1_2 := HR1.out.soft 2
  have p1_3 := HP1.out.at_ 3 rfl
  have o1_3 := HO1.out.at_ 3 rfl
  have r1_3 := HR1.out.at_ 3 rfl
  have f1_3 := HO1.out.soft 3
  have g1_3 := HR1.out.soft 3
  have p1_4 := HP1.out.at_ 4 rfl
  have o1_4 := HO1.out.at_ 4 rfl
  have r1_4 := HR1.out.at_ 4 rfl
  have f1_4 := HO1.out.soft 4
  have g1_4 := HR1.out.soft 4
  have p1_5 := HP1.out.at_ 5 rfl
  have o1_5 := HO1.out.at_ 5 rfl
  have r1_5 := HR1.out.at_ 5 rfl
  have f1_5 := HO1.out.soft 5
  have g1_5 := HR1.out.soft 5
  have p1_6 := HP1.out.at_ 6 rfl
  have o1_6 := HO1.out.at_ 6 rfl
  have r1_6 := HR1.out.at_ 6 rfl
  have f1_6 := HO1.out.soft 6
  have g1_6 := HR1.out.soft 6
  have p1_7 := HP1.out.at_ 7 rfl
  have o1_7 := HO1.out.at_ 7 rfl
  have r1_7 := HR1.out.at_ 7 rfl
  have f1_7 := HO1.out.soft 7
  have g1_7 := HR1.out.soft 7
  go_wp2
  refine bodyPost_ret (v := .agg #[.string x0, .int .i64 x1, .int .i64 x2, .int .i64 x3, .int .i64 x4, .int .i64 x5, .int .i64 x6, .int .i64 x7]) (by simp [results, Try.results6, go_sem, *]) rfl ⟨[.string x0, .int .i64 x1, .int .i64 x2, .int .i64 x3, .int .i64 x4, .int .i64 x5, .int .i64 x6, .int .i64 x7], rfl, ?_, ((((((((((((HB1.out.setCell (p := ⟨W.heap.size + 1 + 1, 4, none⟩) (by show W.heap.size ≤ W.heap.size + 1 + 1; omega) (.int .i64 x4)).setCell (p := ⟨W.heap.size + 1 + 1, 5, none⟩) (by show W.heap.size ≤ W.heap.size + 1 + 1; omega) (.int .i64 x5)).setCell (p := ⟨W.heap.size + 1 + 1, 6, none⟩) (by show W.heap.size ≤ W.heap.size + 1 + 1; omega) (.int .i64 x6)).setCell (p := ⟨W.heap.size + 1 + 1, 7, none⟩) (by show W.heap.size ≤ W.heap.size + 1 + 1; omega) (.int .i64 x7)).setCell (p := ⟨W.heap.size + 1, 0, none⟩) (by show W.heap.size ≤ W.heap.size + 1; omega) (.string x0)).setCell (p := ⟨W.heap.size + 1, 1, none⟩) (by show W.heap.size ≤ W.heap.size + 1; omega) (.int .i64 x1)).setCell (p := ⟨W.heap.size + 1, 2, none⟩) (by show W.heap.size ≤ W.heap.size + 1; omega) (.int .i64 x2)).setCell (p := ⟨W.heap.size + 1, 3, none⟩) (by show W.heap.size ≤ W.heap.size + 1; omega) (.int .i64 x3)).setCell (p := ⟨W.heap.size + 1, 4, none⟩) (by show W.heap.size ≤ W.heap.size + 1; omega) (.int .i64 x4)).setCell (p := ⟨W.heap.size + 1, 5, none⟩) (by show W.heap.size ≤ W.heap.size + 1; omega) (.int .i64 x5)).setCell (p := ⟨W.heap.size + 1, 6, none⟩) (by show W.heap.size ≤ W.heap.size + 1; omega) (.int .i64 x6)).setCell (p := ⟨W.heap.size + 1, 7, none⟩) (by show W.heap.size ≤ W.heap.size + 1; omega) (.int .i64 x7))⟩
  have hoff := (((((((((((((Off.refl (fun x => x < W.heap.size + 3) w1).setCell (p := ⟨W.heap.size + 1 + 1, 4, none⟩) (by show W.heap.size + 1 + 1 < W.heap.size + 3; omega) (.int .i64 x4)).setCell (p := ⟨W.heap.size + 1 + 1, 5, none⟩) (by show W.heap.size + 1 + 1 < W.heap.size + 3; omega) (.int .i64 x5)).setCell (p := ⟨W.heap.size + 1 + 1, 6, none⟩) (by show W.heap.size + 1 + 1 < W.heap.size + 3; omega) (.int .i64 x6)).setCell (p := ⟨W.heap.size + 1 + 1, 7, none⟩) (by show W.heap.size + 1 + 1 < W.heap.size + 3; omega) (.int .i64 x7)).setCell (p := ⟨W.heap.size + 1, 0, none⟩) (by show W.heap.size + 1 < W.heap.size + 3; omega) (.string x0)).setCell (p := ⟨W.heap.size + 1, 1, none⟩) (by show W.heap.size + 1 < W.heap.size + 3; omega) (.int .i64 x1)).setCell (p := ⟨W.heap.size + 1, 2, none⟩) (by show W.heap.size + 1 < W.heap.size + 3; omega) (.int .i64 x2)).setCell (p := ⟨W.heap.size + 1, 3, none⟩) (by show W.heap.size + 1 < W.heap.size + 3; omega) (.int .i64 x3)).setCell (p := ⟨W.heap.size + 1, 4, none⟩) (by show W.heap.size + 1 < W.heap.size + 3; omega) (.int .i64 x4)).setCell (p := ⟨W.heap.size + 1, 5, none⟩) (by show W.heap.size + 1 < W.heap.size + 3; omega) (.int .i64 x5)).setCell (p := ⟨W.heap.size + 1, 6, none⟩) (by show W.heap.size + 1 < W.heap.size + 3; omega) (.int .i64 x6)).setCell (p := ⟨W.heap.size + 1, 7, none⟩) (by show W.heap.size + 1 < W.heap.size + 3; omega) (.int .i64 x7))
  have hsz := hoff.size
  exact mkow_Wish b_x0


theorem szd_Wish {x0 : ByteArray} {x1 : Int} {x2 : Int} {x3 : Int} {x4 : Int} {x5 : Int} {x6 : Int} {x7 : Int} : R_Wish.sz (x0, x1, x2, x3, (x4, x5), x6, x7) = x0.size := by
  simp only [R_Wish, Pr, I, Bo, St, atom, R_Label]; omega
set_option maxRecDepth 100000 in
set_option maxHeartbeats 1600000 in
theorem sz_Wish {x0 : ByteArray} {x1 : Int} {x2 : Int} {x3 : Int} {x4 : Int} {x5 : Int} {x6 : Int} {x7 : Int} {W : World} {l : Int} (h0 : 0 ≤ l) (h1 : l ≤ 1048576) (b_x0 : x0.size ≤ maxLen) : Calls Try.prog 4 #[.agg #[.string x0, .int .i64 x1, .int .i64 x2, .int .i64 x3, .int .i64 x4, .int .i64 x5, .int .i64 x6, .int .i64 x7], .int .i64 l] W (SzC l (R_Wish.sz (x0, x1, x2, x3, (x4, x5), x6, x7)) W) := by
  unfold maxLen at b_x0
  have HD := Lib.hid (szd_Wish (x0 := x0) (x1 := x1) (x2 := x2) (x3 := x3) (x4 := x4) (x5 := x5) (x6 := x6) (x7 := x7))
  by_cases hf : (x0.size : Int) ≤ l
  · have HR := Lib.hid (szR_yes (l := l) (s := R_Wish.sz (x0, x1, x2, x3, (x4, x5), x6, x7)) (by rw [HD.out]; exact hf))
    have hd : decide (l - (x0.size : Int) < 0) = false := decide_eq_false (by omega)
    go_enter Try.func4, Try.ntmps4
    go_wp2
    go_ret
    exact ⟨by rw [HR.out, HD.out]; rfl, by first | exact Below.refl _ _ | exact (Below.refl _ _).alloc (Nat.le_refl _) _⟩
  · have HR := Lib.hid (szR_no (l := l) (s := R_Wish.sz (x0, x1, x2, x3, (x4, x5), x6, x7)) (by rw [HD.out]; exact hf))
    have hd : decide (l - (x0.size : Int) < 0) = true := decide_eq_true (by omega)
    go_enter Try.func4, Try.ntmps4
    go_wp2
    go_ret
    exact ⟨by rw [HR.out]; rfl, by first | exact Below.refl _ _ | exact (Below.refl _ _).alloc (Nat.le_refl _) _⟩

end Go.Proofs.Ytelhmacfljffhaa.RepC
