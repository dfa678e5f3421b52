/- TaC1, TaC2, TaGx, TaW3 in one text. -/
import Derived.Test.YtmmnkdilnlhbfaaTk
import Derived.Test.YtmmnkdilnlhbfaaTaP
import Derived.Test.YtmmnkdilnlhbfaaIntC
import Derived.Test.YtmmnkdilnlhbfaaCloneM
import Derived.Test.YtmmnkdilnlhbfaaTaR4
import Derived.Test.YtmmnkdilnlhbfaaTaGw
import Derived.Test.YtmmnkdilnlhbfaaTk
namespace Go.Proofs.Ytmmnkdilnlhbfaa.RepC
open Go.RowKit RowC ValC SpanC KeptC NameC
set_option linter.unusedVariables false
set_option linter.unusedSimpArgs false

set_option maxRecDepth 100000 in
set_option maxHeartbeats 1600000 in
theorem copyT_spec {x0 x1 x2 : Int} {x3 : ByteArray} {x4 x5 x6 x7 x8 x9 x10 x11 x12 : Int} {L : List Int} {a : Option Addr} {c : Nat} {W : World} (b_x3 : x3.size ≤ maxLen) (hn : L.length ≤ 1048576) (h : RdSl I W W.heap.size L a c) :
    Calls Try.prog 64 #[.agg #[.int .i64 x0, .int .i64 x1, .int .i64 x2, .string x3, .int .i64 x4, .int .i64 x5, .int .i64 x6, .int .i64 x7, .int .i64 x8, .int .i64 x9, .int .i64 x10, .int .i64 x11, .int .i64 x12, .slice a L.length c]] W (NewV R_Task ((x0, x1), x2, x3, x4, x5, x6, (x7, x8), x9, x10, x11, x12, L) W) := by
  have HX3 := Lib.hid b_x3
  have hB0 : Below W.heap.size W ((W.alloc (.cells #[.int .i64 x0, .int .i64 x1, .int .i64 x2, .string x3, .int .i64 x4, .int .i64 x5, .int .i64 x6, .int .i64 x7, .int .i64 x8, .int .i64 x9, .int .i64 x10, .int .i64 x11, .int .i64 x12, .slice a L.length c] 54)).alloc (.cells #[.int .i64 0, .int .i64 0, .int .i64 0, .string ⟨#[]⟩, .int .i64 0, .int .i64 0, .int .i64 0, .int .i64 0, .int .i64 0, .int .i64 0, .int .i64 0, .int .i64 0, .int .i64 0, .slice none 0 0] 54)) := ((Below.refl _ _).alloc (Nat.le_refl _) _).alloc (by simp) _
  obtain ⟨a', c', w5, hr, hos, hb⟩ := app_copy (ty := 30) hn ((h.below I_ok hB0).more I_ok hB0.size)
  have hP := (Blk.new W 54 #[.int .i64 x0, .int .i64 x1, .int .i64 x2, .string x3, .int .i64 x4, .int .i64 x5, .int .i64 x6, .int .i64 x7, .int .i64 x8, .int .i64 x9, .int .i64 x10, .int .i64 x11, .int .i64 x12, .slice a L.length c]).alloc (.cells #[.int .i64 0, .int .i64 0, .int .i64 0, .string ⟨#[]⟩, .int .i64 0, .int .i64 0, .int .i64 0, .int .i64 0, .int .i64 0, .int .i64 0, .int .i64 0, .int .i64 0, .int .i64 0, .slice none 0 0] 54)
  have hR := Blk.new (W.alloc (.cells #[.int .i64 x0, .int .i64 x1, .int .i64 x2, .string x3, .int .i64 x4, .int .i64 x5, .int .i64 x6, .int .i64 x7, .int .i64 x8, .int .i64 x9, .int .i64 x10, .int .i64 x11, .int .i64 x12, .slice a L.length c] 54)) 54 #[.int .i64 0, .int .i64 0, .int .i64 0, .string ⟨#[]⟩, .int .i64 0, .int .i64 0, .int .i64 0, .int .i64 0, .int .i64 0, .int .i64 0, .int .i64 0, .int .i64 0, .int .i64 0, .slice none 0 0]
  have hP5 := Lib.hid (hP.call hb)
  have hR5 := Lib.hid (hR.call hb)
  have HB5 := Lib.hid (hB0.trans (hb.mono hB0.size))
  have hsz5 := hb.size
  simp only [World.size_alloc] at hr
  have HR := Lib.hid hr
  have HO := Lib.hid hos
  simp only [World.size_alloc] at hsz5 hP hR
  have hgo : W.heap.size + 2 ≤ w5.heap.size := hsz5
  have p0 := hP.at_ 0 rfl
  have p1 := hP.at_ 1 rfl
  have p2 := hP.at_ 2 rfl
  have p3 := hP.at_ 3 rfl
  have p4 := hP.at_ 4 rfl
  have p5 := hP.at_ 5 rfl
  have p6 := hP.at_ 6 rfl
  have p7 := hP.at_ 7 rfl
  have p8 := hP.at_ 8 rfl
  have p9 := hP.at_ 9 rfl
  have p10 := hP.at_ 10 rfl
  have p11 := hP.at_ 11 rfl
  have p12 := hP.at_ 12 rfl
  have p13 := hP.at_ 13 rfl
  clear hP hR hB0 hr hos hb h
  have hRx := hR5.out
  simp only [World.size_alloc] at hRx
  have HR5 := Lib.hid hRx
  have q0 := hP5.out.at_ 0 rfl
  have f0 := hP5.out.soft 0
  have r0 := HR5.out.at_ 0 rfl
  have g0 := HR5.out.soft 0
  have q1 := hP5.out.at_ 1 rfl
  have f1 := hP5.out.soft 1
  have r1 := HR5.out.at_ 1 rfl
  have g1 := HR5.out.soft 1
  have q2 := hP5.out.at_ 2 rfl
  have f2 := hP5.out.soft 2
  have r2 := HR5.out.at_ 2 rfl
  have g2 := HR5.out.soft 2
  have q3 := hP5.out.at_ 3 rfl
  have f3 := hP5.out.soft 3
  have r3 := HR5.out.at_ 3 rfl
  have g3 := HR5.out.soft 3
  have q4 := hP5.out.at_ 4 rfl
  have f4 := hP5.out.soft 4
  have r4 := HR5.out.at_ 4 rfl
  have g4 := HR5.out.soft 4
  have q5 := hP5.out.at_ 5 rfl
  have f5 := hP5.out.soft 5
  have r5 := HR5.out.at_ 5 rfl
  have g5 := HR5.out.soft 5
  have q6 := hP5.out.at_ 6 rfl
  have f6 := hP5.out.soft 6
  have r6 := HR5.out.at_ 6 rfl
  have g6 := HR5.out.soft 6
  have q7 := hP5.out.at_ 7 rfl
  have f7 := hP5.out.soft 7
  have r7 := HR5.out.at_ 7 rfl
  have g7 := HR5.out.soft 7
  have q8 := hP5.out.at_ 8 rfl
  have f8 := hP5.out.soft 8
  have r8 := HR5.out.at_ 8 rfl
  have g8 := HR5.out.soft 8
  have q9 := hP5.out.at_ 9 rfl
  have f9 := hP5.out.soft 9
  have r9 := HR5.out.at_ 9 rfl
  have g9 := HR5.out.soft 9
  have q10 := hP5.out.at_ 10 rfl
  have f10 := hP5.out.soft 10
  have r10 := HR5.out.at_ 10 rfl
  have g10 := HR5.out.soft 10
  have q11 := hP5.out.at_ 11 rfl
  have f11 := hP5.out.soft 11
  have r11 := HR5.out.at_ 11 rfl
  have g11 := HR5.out.soft 11
  have q12 := hP5.out.at_ 12 rfl
  have f12 := hP5.out.soft 12
  have r12 := HR5.out.at_ 12 rfl
  have g12 := HR5.out.soft 12
  have q13 := hP5.out.at_ 13 rfl
  have f13 := hP5.out.soft 13
  have r13 := HR5.out.at_ 13 rfl
  have g13 := HR5.out.soft 13
  clear hRx hR5 b_x3
  go_enter Try.func64, Try.ntmps64
  go_wp2_with (at_builtin; refine wpList_app rfl (.tmp 3) (.tmp 5) 30 rfl rfl rfl HR.out ?_)
  refine bodyPost_ret (v := .agg #[.int .i64 x0, .int .i64 x1, .int .i64 x2, .string x3, .int .i64 x4, .int .i64 x5, .int .i64 x6, .int .i64 x7, .int .i64 x8, .int .i64 x9, .int .i64 x10, .int .i64 x11, .int .i64 x12, .slice a' L.length c']) (by simp [results, Try.results64, go_sem, *]) rfl ⟨[.int .i64 x0, .int .i64 x1, .int .i64 x2, .string x3, .int .i64 x4, .int .i64 x5, .int .i64 x6, .int .i64 x7, .int .i64 x8, .int .i64 x9, .int .i64 x10, .int .i64 x11, .int .i64 x12, .slice a' L.length c'], rfl, ?_, (((((((((((((((HB5.out.setCell (p := ⟨W.heap.size, 13, none⟩) (by show W.heap.size ≤ W.heap.size; omega) (.slice a' L.length c')).setCell (p := ⟨W.heap.size + 1, 0, none⟩) (by show W.heap.size ≤ W.heap.size + 1; omega) (.int .i64 x0)).setCell (p := ⟨W.heap.size + 1, 1, none⟩) (by show W.heap.size ≤ W.heap.size + 1; omega) (.int .i64 x1)).setCell (p := ⟨W.heap.size + 1, 2, none⟩) (by show W.heap.size ≤ W.heap.size + 1; omega) (.int .i64 x2)).setCell (p := ⟨W.heap.size + 1, 3, none⟩) (by show W.heap.size ≤ W.heap.size + 1; omega) (.string x3)).setCell (p := ⟨W.heap.size + 1, 4, none⟩) (by show W.heap.size ≤ W.heap.size + 1; omega) (.int .i64 x4)).setCell (p := ⟨W.heap.size + 1, 5, none⟩) (by show W.heap.size ≤ W.heap.size + 1; omega) (.int .i64 x5)).setCell (p := ⟨W.heap.size + 1, 6, none⟩) (by show W.heap.size ≤ W.heap.size + 1; omega) (.int .i64 x6)).setCell (p := ⟨W.heap.size + 1, 7, none⟩) (by show W.heap.size ≤ W.heap.size + 1; omega) (.int .i64 x7)).setCell (p := ⟨W.heap.size + 1, 8, none⟩) (by show W.heap.size ≤ W.heap.size + 1; omega) (.int .i64 x8)).setCell (p := ⟨W.heap.size + 1, 9, none⟩) (by show W.heap.size ≤ W.heap.size + 1; omega) (.int .i64 x9)).setCell (p := ⟨W.heap.size + 1, 10, none⟩) (by show W.heap.size ≤ W.heap.size + 1; omega) (.int .i64 x10)).setCell (p := ⟨W.heap.size + 1, 11, none⟩) (by show W.heap.size ≤ W.heap.size + 1; omega) (.int .i64 x11)).setCell (p := ⟨W.heap.size + 1, 12, none⟩) (by show W.heap.size ≤ W.heap.size + 1; omega) (.int .i64 x12)).setCell (p := ⟨W.heap.size + 1, 13, none⟩) (by show W.heap.size ≤ W.heap.size + 1; omega) (.slice a' L.length c'))⟩
  have hoff := ((((((((((((((((Off.refl (fun x => x < W.heap.size + 2) w5).setCell (p := ⟨W.heap.size, 13, none⟩) (by show W.heap.size < W.heap.size + 2; omega) (.slice a' L.length c')).setCell (p := ⟨W.heap.size + 1, 0, none⟩) (by show W.heap.size + 1 < W.heap.size + 2; omega) (.int .i64 x0)).setCell (p := ⟨W.heap.size + 1, 1, none⟩) (by show W.heap.size + 1 < W.heap.size + 2; omega) (.int .i64 x1)).setCell (p := ⟨W.heap.size + 1, 2, none⟩) (by show W.heap.size + 1 < W.heap.size + 2; omega) (.int .i64 x2)).setCell (p := ⟨W.heap.size + 1, 3, none⟩) (by show W.heap.size + 1 < W.heap.size + 2; omega) (.string x3)).setCell (p := ⟨W.heap.size + 1, 4, none⟩) (by show W.heap.size + 1 < W.heap.size + 2; omega) (.int .i64 x4)).setCell (p := ⟨W.heap.size + 1, 5, none⟩) (by show W.heap.size + 1 < W.heap.size + 2; omega) (.int .i64 x5)).setCell (p := ⟨W.heap.size + 1, 6, none⟩) (by show W.heap.size + 1 < W.heap.size + 2; omega) (.int .i64 x6)).setCell (p := ⟨W.heap.size + 1, 7, none⟩) (by show W.heap.size + 1 < W.heap.size + 2; omega) (.int .i64 x7)).setCell (p := ⟨W.heap.size + 1, 8, none⟩) (by show W.heap.size + 1 < W.heap.size + 2; omega) (.int .i64 x8)).setCell (p := ⟨W.heap.size + 1, 9, none⟩) (by show W.heap.size + 1 < W.heap.size + 2; omega) (.int .i64 x9)).setCell (p := ⟨W.heap.size + 1, 10, none⟩) (by show W.heap.size + 1 < W.heap.size + 2; omega) (.int .i64 x10)).setCell (p := ⟨W.heap.size + 1, 11, none⟩) (by show W.heap.size + 1 < W.heap.size + 2; omega) (.int .i64 x11)).setCell (p := ⟨W.heap.size + 1, 12, none⟩) (by show W.heap.size + 1 < W.heap.size + 2; omega) (.int .i64 x12)).setCell (p := ⟨W.heap.size + 1, 13, none⟩) (by show W.heap.size + 1 < W.heap.size + 2; omega) (.slice a' L.length c'))
  have hsz := hoff.size
  have hos := HO.out
  simp only [World.size_alloc] at hos
  exact mkow_Task (fun k hk => ⟨by have := hk.1; omega, by have := hk.2; omega⟩) (hos.keep I_ok (fun k hk => hoff.block k hk.2 (by have := hk.1; omega))) HX3.out
set_option maxRecDepth 100000 in
set_option maxHeartbeats 1600000 in
theorem copyT_impl {x0 x1 x2 : Int} {x3 : ByteArray} {x4 x5 x6 x7 x8 x9 x10 x11 x12 : Int} {L : List Int} {a : Option Addr} {c : Nat} {W : World} (b_x3 : x3.size ≤ 1048576) (hn : L.length ≤ 1048576) (h : RdSl I W W.heap.size L a c) :
    Calls Try.prog 65 #[.agg #[.int .i64 x0, .int .i64 x1, .int .i64 x2, .string x3, .int .i64 x4, .int .i64 x5, .int .i64 x6, .int .i64 x7, .int .i64 x8, .int .i64 x9, .int .i64 x10, .int .i64 x11, .int .i64 x12, .slice a L.length c]] W (NewV R_Task ((x0, x1), x2, x3, x4, x5, x6, (x7, x8), x9, x10, x11, x12, L) W) := by
  have HX3 := Lib.hid (show x3.size ≤ maxLen from by unfold maxLen; omega)
  obtain ⟨w0, hw0⟩ : ∃ w, w = (W.alloc (.cells #[.int .i64 x0, .int .i64 x1, .int .i64 x2, .string x3, .int .i64 x4, .int .i64 x5, .int .i64 x6, .int .i64 x7, .int .i64 x8, .int .i64 x9, .int .i64 x10, .int .i64 x11, .int .i64 x12, .slice a L.length c] 54)).alloc (.cells #[.int .i64 0, .int .i64 0, .int .i64 0, .string ⟨#[]⟩, .int .i64 0, .int .i64 0, .int .i64 0, .int .i64 0, .int .i64 0, .int .i64 0, .int .i64 0, .int .i64 0, .int .i64 0, .slice none 0 0] 54) := ⟨_, rfl⟩
  have hB0 : Below W.heap.size W w0 := by rw [hw0]; exact ((Below.refl _ _).alloc (Nat.le_refl _) _).alloc (by simp) _
  have HP0 := Lib.hid (show Blk w0 W.heap.size 54 #[.int .i64 x0, .int .i64 x1, .int .i64 x2, .string x3, .int .i64 x4, .int .i64 x5, .int .i64 x6, .int .i64 x7, .int .i64 x8, .int .i64 x9, .int .i64 x10, .int .i64 x11, .int .i64 x12, .slice a L.length c] from by rw [hw0]; exact (Blk.new W 54 #[.int .i64 x0, .int .i64 x1, .int .i64 x2, .string x3, .int .i64 x4, .int .i64 x5, .int .i64 x6, .int .i64 x7, .int .i64 x8, .int .i64 x9, .int .i64 x10, .int .i64 x11, .int .i64 x12, .slice a L.length c]).alloc (.cells #[.int .i64 0, .int .i64 0, .int .i64 0, .string ⟨#[]⟩, .int .i64 0, .int .i64 0, .int .i64 0, .int .i64 0, .int .i64 0, .int .i64 0, .int .i64 0, .int .i64 0, .int .i64 0, .slice none 0 0] 54))
  have HR0 := Lib.hid (show Blk w0 (W.heap.size + 1) 54 #[.int .i64 0, .int .i64 0, .int .i64 0, .string ⟨#[]⟩, .int .i64 0, .int .i64 0, .int .i64 0, .int .i64 0, .int .i64 0, .int .i64 0, .int .i64 0, .int .i64 0, .int .i64 0, .slice none 0 0] from by
    have h9 := Blk.new (W.alloc (.cells #[.int .i64 x0, .int .i64 x1, .int .i64 x2, .string x3, .int .i64 x4, .int .i64 x5, .int .i64 x6, .int .i64 x7, .int .i64 x8, .int .i64 x9, .int .i64 x10, .int .i64 x11, .int .i64 x12, .slice a L.length c] 54)) 54 #[.int .i64 0, .int .i64 0, .int .i64 0, .string ⟨#[]⟩, .int .i64 0, .int .i64 0, .int .i64 0, .int .i64 0, .int .i64 0, .int .i64 0, .int .i64 0, .int .i64 0, .int .i64 0, .slice none 0 0]
    simp only [World.size_alloc] at h9
    rw [hw0]; exact h9)
  have HH := Lib.hid ((h.below I_ok hB0).more I_ok hB0.size)
  have HB0 := Lib.hid hB0
  have HN := Lib.hid hn
  clear h hB0
  go_enter Try.func65, Try.ntmps65
  go_upto_region 1 with fail
  rw [← hw0]
  clear hw0
  have q0 := HP0.out.at_ 0 rfl
  have q1 := HP0.out.at_ 1 rfl
  have q2 := HP0.out.at_ 2 rfl
  have q3 := HP0.out.at_ 3 rfl
  have q4 := HP0.out.at_ 4 rfl
  have q5 := HP0.out.at_ 5 rfl
  have q6 := HP0.out.at_ 6 rfl
  have q7 := HP0.out.at_ 7 rfl
  have q8 := HP0.out.at_ 8 rfl
  have q9 := HP0.out.at_ 9 rfl
  have q10 := HP0.out.at_ 10 rfl
  have q11 := HP0.out.at_ 11 rfl
  have q12 := HP0.out.at_ 12 rfl
  have q13 := HP0.out.at_ 13 rfl
  go_wp2_with fail
  refine (CloneM.clone_any x3 _ b_x3).mono ?_
  rintro e w1 ⟨rfl, hb⟩
  have HP1 := Lib.hid (HP0.out.call hb)
  have HR1 := Lib.hid (HR0.out.call hb)
  have HB1 := Lib.hid (HB0.out.trans (hb.mono HB0.out.size))
  have HH1 := Lib.hid ((HH.out.below I_ok hb).more I_ok hb.size)
  have HS := Lib.hid (show w1.setCell ⟨W.heap.size, 3, none⟩ (.string x3) = w1 from setCell_id (HP1.out.at_ 3 rfl))
  clear hb q0 q1 q2 q3 q4 q5 q6 q7 q8 q9 q10 q11 q12 q13
  have q0 := HP1.out.at_ 0 rfl
  have f0 := HP1.out.soft 0
  have q1 := HP1.out.at_ 1 rfl
  have f1 := HP1.out.soft 1
  have q2 := HP1.out.at_ 2 rfl
  have f2 := HP1.out.soft 2
  have q3 := HP1.out.at_ 3 rfl
  have f3 := HP1.out.soft 3
  have q4 := HP1.out.at_ 4 rfl
  have f4 := HP1.out.soft 4
  have q5 := HP1.out.at_ 5 rfl
  have f5 := HP1.out.soft 5
  have q6 := HP1.out.at_ 6 rfl
  have f6 := HP1.out.soft 6
  have q7 := HP1.out.at_ 7 rfl
  have f7 := HP1.out.soft 7
  have q8 := HP1.out.at_ 8 rfl
  have f8 := HP1.out.soft 8
  have q9 := HP1.out.at_ 9 rfl
  have f9 := HP1.out.soft 9
  have q10 := HP1.out.at_ 10 rfl
  have f10 := HP1.out.soft 10
  have q11 := HP1.out.at_ 11 rfl
  have f11 := HP1.out.soft 11
  have q12 := HP1.out.at_ 12 rfl
  have f12 := HP1.out.soft 12
  have q13 := HP1.out.at_ 13 rfl
  have f13 := HP1.out.soft 13
  go_wp2_with fail
  rw [HS.out]
  refine (clone_ints HN.out HH1.out).mono ?_
  intro e w5 h
  obtain ⟨a', c', rfl, hos, hb⟩ := newS_elim h
  have HP5 := Lib.hid (HP1.out.call hb)
  have HR5 := Lib.hid (HR1.out.call hb)
  have HB5 := Lib.hid (HB1.out.trans (hb.mono HB1.out.size))
  have HO := Lib.hid hos
  have hgo : W.heap.size + 2 ≤ w1.heap.size := by have := HR1.out.lt; omega
  have hgo5 : W.heap.size + 2 ≤ w5.heap.size := by have := HR5.out.lt; omega
  clear h hb hos HS q0 f0 q1 f1 q2 f2 q3 f3 q4 f4 q5 f5 q6 f6 q7 f7 q8 f8 q9 f9 q10 f10 q11 f11 q12 f12 q13 f13
  have q0 := HP5.out.at_ 0 rfl
  have f0 := HP5.out.soft 0
  have r0 := HR5.out.at_ 0 rfl
  have g0 := HR5.out.soft 0
  have q1 := HP5.out.at_ 1 rfl
  have f1 := HP5.out.soft 1
  have r1 := HR5.out.at_ 1 rfl
  have g1 := HR5.out.soft 1
  have q2 := HP5.out.at_ 2 rfl
  have f2 := HP5.out.soft 2
  have r2 := HR5.out.at_ 2 rfl
  have g2 := HR5.out.soft 2
  have q3 := HP5.out.at_ 3 rfl
  have f3 := HP5.out.soft 3
  have r3 := HR5.out.at_ 3 rfl
  have g3 := HR5.out.soft 3
  have q4 := HP5.out.at_ 4 rfl
  have f4 := HP5.out.soft 4
  have r4 := HR5.out.at_ 4 rfl
  have g4 := HR5.out.soft 4
  have q5 := HP5.out.at_ 5 rfl
  have f5 := HP5.out.soft 5
  have r5 := HR5.out.at_ 5 rfl
  have g5 := HR5.out.soft 5
  have q6 := HP5.out.at_ 6 rfl
  have f6 := HP5.out.soft 6
  have r6 := HR5.out.at_ 6 rfl
  have g6 := HR5.out.soft 6
  have q7 := HP5.out.at_ 7 rfl
  have f7 := HP5.out.soft 7
  have r7 := HR5.out.at_ 7 rfl
  have g7 := HR5.out.soft 7
  have q8 := HP5.out.at_ 8 rfl
  have f8 := HP5.out.soft 8
  have r8 := HR5.out.at_ 8 rfl
  have g8 := HR5.out.soft 8
  have q9 := HP5.out.at_ 9 rfl
  have f9 := HP5.out.soft 9
  have r9 := HR5.out.at_ 9 rfl
  have g9 := HR5.out.soft 9
  have q10 := HP5.out.at_ 10 rfl
  have f10 := HP5.out.soft 10
  have r10 := HR5.out.at_ 10 rfl
  have g10 := HR5.out.soft 10
  have q11 := HP5.out.at_ 11 rfl
  have f11 := HP5.out.soft 11
  have r11 := HR5.out.at_ 11 rfl
  have g11 := HR5.out.soft 11
  have q12 := HP5.out.at_ 12 rfl
  have f12 := HP5.out.soft 12
  have r12 := HR5.out.at_ 12 rfl
  have g12 := HR5.out.soft 12
  have q13 := HP5.out.at_ 13 rfl
  have f13 := HP5.out.soft 13
  have r13 := HR5.out.at_ 13 rfl
  have g13 := HR5.out.soft 13
  go_wp2
  refine bodyPost_ret (v := .agg #[.int .i64 x0, .int .i64 x1, .int .i64 x2, .string x3, .int .i64 x4, .int .i64 x5, .int .i64 x6, .int .i64 x7, .int .i64 x8, .int .i64 x9, .int .i64 x10, .int .i64 x11, .int .i64 x12, .slice a' L.length c']) (by simp [results, Try.results65, go_sem, *]) rfl ⟨[.int .i64 x0, .int .i64 x1, .int .i64 x2, .string x3, .int .i64 x4, .int .i64 x5, .int .i64 x6, .int .i64 x7, .int .i64 x8, .int .i64 x9, .int .i64 x10, .int .i64 x11, .int .i64 x12, .slice a' L.length c'], rfl, ?_, (((((((((((((((HB5.out.setCell (p := ⟨W.heap.size, 13, none⟩) (by show W.heap.size ≤ W.heap.size; omega) (.slice a' L.length c')).setCell (p := ⟨W.heap.size + 1, 0, none⟩) (by show W.heap.size ≤ W.heap.size + 1; omega) (.int .i64 x0)).setCell (p := ⟨W.heap.size + 1, 1, none⟩) (by show W.heap.size ≤ W.heap.size + 1; omega) (.int .i64 x1)).setCell (p := ⟨W.heap.size + 1, 2, none⟩) (by show W.heap.size ≤ W.heap.size + 1; omega) (.int .i64 x2)).setCell (p := ⟨W.heap.size + 1, 3, none⟩) (by show W.heap.size ≤ W.heap.size + 1; omega) (.string x3)).setCell (p := ⟨W.heap.size + 1, 4, none⟩) (by show W.heap.size ≤ W.heap.size + 1; omega) (.int .i64 x4)).setCell (p := ⟨W.heap.size + 1, 5, none⟩) (by show W.heap.size ≤ W.heap.size + 1; omega) (.int .i64 x5)).setCell (p := ⟨W.heap.size + 1, 6, none⟩) (by show W.heap.size ≤ W.heap.size + 1; omega) (.int .i64 x6)).setCell (p := ⟨W.heap.size + 1, 7, none⟩) (by show W.heap.size ≤ W.heap.size + 1; omega) (.int .i64 x7)).setCell (p := ⟨W.heap.size + 1, 8, none⟩) (by show W.heap.size ≤ W.heap.size + 1; omega) (.int .i64 x8)).setCell (p := ⟨W.heap.size + 1, 9, none⟩) (by show W.heap.size ≤ W.heap.size + 1; omega) (.int .i64 x9)).setCell (p := ⟨W.heap.size + 1, 10, none⟩) (by show W.heap.size ≤ W.heap.size + 1; omega) (.int .i64 x10)).setCell (p := ⟨W.heap.size + 1, 11, none⟩) (by show W.heap.size ≤ W.heap.size + 1; omega) (.int .i64 x11)).setCell (p := ⟨W.heap.size + 1, 12, none⟩) (by show W.heap.size ≤ W.heap.size + 1; omega) (.int .i64 x12)).setCell (p := ⟨W.heap.size + 1, 13, none⟩) (by show W.heap.size ≤ W.heap.size + 1; omega) (.slice a' L.length c'))⟩
  have hoff := ((((((((((((((((Off.refl (fun x => x < W.heap.size + 2) w5).setCell (p := ⟨W.heap.size, 13, none⟩) (by show W.heap.size < W.heap.size + 2; omega) (.slice a' L.length c')).setCell (p := ⟨W.heap.size + 1, 0, none⟩) (by show W.heap.size + 1 < W.heap.size + 2; omega) (.int .i64 x0)).setCell (p := ⟨W.heap.size + 1, 1, none⟩) (by show W.heap.size + 1 < W.heap.size + 2; omega) (.int .i64 x1)).setCell (p := ⟨W.heap.size + 1, 2, none⟩) (by show W.heap.size + 1 < W.heap.size + 2; omega) (.int .i64 x2)).setCell (p := ⟨W.heap.size + 1, 3, none⟩) (by show W.heap.size + 1 < W.heap.size + 2; omega) (.string x3)).setCell (p := ⟨W.heap.size + 1, 4, none⟩) (by show W.heap.size + 1 < W.heap.size + 2; omega) (.int .i64 x4)).setCell (p := ⟨W.heap.size + 1, 5, none⟩) (by show W.heap.size + 1 < W.heap.size + 2; omega) (.int .i64 x5)).setCell (p := ⟨W.heap.size + 1, 6, none⟩) (by show W.heap.size + 1 < W.heap.size + 2; omega) (.int .i64 x6)).setCell (p := ⟨W.heap.size + 1, 7, none⟩) (by show W.heap.size + 1 < W.heap.size + 2; omega) (.int .i64 x7)).setCell (p := ⟨W.heap.size + 1, 8, none⟩) (by show W.heap.size + 1 < W.heap.size + 2; omega) (.int .i64 x8)).setCell (p := ⟨W.heap.size + 1, 9, none⟩) (by show W.heap.size + 1 < W.heap.size + 2; omega) (.int .i64 x9)).setCell (p := ⟨W.heap.size + 1, 10, none⟩) (by show W.heap.size + 1 < W.heap.size + 2; omega) (.int .i64 x10)).setCell (p := ⟨W.heap.size + 1, 11, none⟩) (by show W.heap.size + 1 < W.heap.size + 2; omega) (.int .i64 x11)).setCell (p := ⟨W.heap.size + 1, 12, none⟩) (by show W.heap.size + 1 < W.heap.size + 2; omega) (.int .i64 x12)).setCell (p := ⟨W.heap.size + 1, 13, none⟩) (by show W.heap.size + 1 < W.heap.size + 2; omega) (.slice a' L.length c'))
  have hsz := hoff.size
  have hos := HO.out
  exact mkow_Task (fun k hk => ⟨by have := hk.1; omega, by have := hk.2; omega⟩) (hos.keep I_ok (fun k hk => hoff.block k hk.2 (by have := hk.1; omega))) HX3.out
end Go.Proofs.Ytmmnkdilnlhbfaa.RepC
namespace Go.Proofs.Ytmmnkdilnlhbfaa.RepC
open Go.RowKit RowC ValC SpanC KeptC NameC
set_option linter.unusedVariables false
set_option linter.unusedSimpArgs false

def zeroT : D_Task := ((0, 0), 0, ⟨#[]⟩, 0, 0, 0, (0, 0), 0, 0, 0, 0, [])
/-- the task with that key in a right list, or none -/
noncomputable def taskOf (L : List D_Task) (a : D_Label × Int) : D_Task := if tasksB L = true ∧ 0 ≤ atT L a then (L[(atT L a).toNat]?).getD zeroT else zeroT
theorem taskOf_not {L : List D_Task} {a : D_Label × Int} (h : tasksB L = false) : taskOf L a = zeroT := if_neg fun h2 => by rw [h] at h2; exact absurd h2.1 (by decide)
theorem taskOf_none {L : List D_Task} {a : D_Label × Int} (h : atT L a = -1) : taskOf L a = zeroT := if_neg fun h2 => by rw [h] at h2; exact absurd h2.2 (by decide)
theorem taskOf_hit {L : List D_Task} {a : D_Label × Int} {k : Nat} {x : D_Task} (h : tasksB L = true) (hk : atT L a = (k : Int)) (hx : L[k]? = some x) : taskOf L a = x := by
  unfold taskOf
  rw [if_pos ⟨h, by omega⟩, hk, Int.toNat_natCast, hx]
  rfl
theorem newT_zero {w w' : World} (hb : Below w.heap.size w w') : NewV R_Task zeroT w (.returned (.agg #[.int .i64 0, .int .i64 0, .int .i64 0, .string ⟨#[]⟩, .int .i64 0, .int .i64 0, .int .i64 0, .int .i64 0, .int .i64 0, .int .i64 0, .int .i64 0, .int .i64 0, .int .i64 0, .slice none 0 0])) w' :=
  ⟨[.int .i64 0, .int .i64 0, .int .i64 0, .string ⟨#[]⟩, .int .i64 0, .int .i64 0, .int .i64 0, .int .i64 0, .int .i64 0, .int .i64 0, .int .i64 0, .int .i64 0, .int .i64 0, .slice none 0 0], rfl, mkow_Task (T0 := fun _ => False) (L0 := []) (fun k h => h.elim) ⟨Nat.le_refl _, Nat.zero_le _, fun h => absurd h (Nat.lt_irrefl _)⟩ (by decide), hb⟩
theorem sz_in {L : List D_Task} {k : Nat} {x : D_Task} (hsz : (Sl R_Task).sz L ≤ 1048576) (hx : L[k]? = some x) : (tOwner x).size ≤ 1048576 ∧ (tNodes x).length ≤ 1048576 := by
  have h1 := sz_at (f := R_Task.sz) hx hsz
  rw [sz_task] at h1
  omega
set_option maxRecDepth 100000 in
set_option maxHeartbeats 3200000 in
theorem taskof_spec {L : List D_Task} {a : Option Addr} {cap : Nat} {l s id : Int} {W : World} (hsz : (Sl R_Task).sz L ≤ 1048576) (h : RdSl R_Task W W.heap.size L a cap) :
    Calls Try.prog 26 #[.slice a L.length cap, .agg #[.int .i64 l, .int .i64 s], .int .i64 id] W (NewV R_Task (taskOf L ((l, s), id)) W) := by
  have hn : L.length ≤ 1048576 := Nat.le_trans (Nat.le_add_right _ _) hsz
  have HSZ := Lib.hid hsz
  have H := Lib.hid h
  clear h hsz
  have hbA : Below (W).heap.size (W) (W.alloc (.cells #[.int .i64 l, .int .i64 s] 38)) := (Below.refl _ _).alloc (Nat.le_refl _) _
  have H_1 := Lib.hid (rdt_mv R_Task_ok H.out hbA)
  have HB1 := Lib.hid (show Below W.heap.size W (W.alloc (.cells #[.int .i64 l, .int .i64 s] 38)) from hbA)
  clear H
  have P_1 := Blk.new (W) 38 #[.int .i64 l, .int .i64 s]
  have Ph_1 := Lib.hid P_1
  clear P_1 hbA
  have hbA : Below (W.alloc (.cells #[.int .i64 l, .int .i64 s] 38)).heap.size (W.alloc (.cells #[.int .i64 l, .int .i64 s] 38)) ((W.alloc (.cells #[.int .i64 l, .int .i64 s] 38)).alloc (.cells #[.int .i64 0, .int .i64 0, .int .i64 0, .string ⟨#[]⟩, .int .i64 0, .int .i64 0, .int .i64 0, .int .i64 0, .int .i64 0, .int .i64 0, .int .i64 0, .int .i64 0, .int .i64 0, .slice none 0 0] 54)) := (Below.refl _ _).alloc (Nat.le_refl _) _
  have P_2 := Lib.hid (Ph_1.out.call hbA)
  have H_2 := Lib.hid (rdt_mv R_Task_ok H_1.out hbA)
  have HB2 := Lib.hid (HB1.out.trans ((hbA).mono HB1.out.size))
  clear Ph_1 H_1 HB1
  have R_2 := Blk.new (W.alloc (.cells #[.int .i64 l, .int .i64 s] 38)) 54 #[.int .i64 0, .int .i64 0, .int .i64 0, .string ⟨#[]⟩, .int .i64 0, .int .i64 0, .int .i64 0, .int .i64 0, .int .i64 0, .int .i64 0, .int .i64 0, .int .i64 0, .int .i64 0, .slice none 0 0]
  have Rh_2 := Lib.hid R_2
  clear R_2 hbA
  have hR := Rh_2.out
  simp only [World.size_alloc] at hR
  have Rs := Lib.hid hR
  clear hR Rh_2
  go_enter Try.func26, Try.ntmps26
  go_wp2_with fail
  refine (tasks_spec (H_2.out)).mono ?_
  intro e w3 h
  obtain ⟨rfl, hb⟩ := isB_elim h
  have P_3 := Lib.hid (P_2.out.call hb)
  have R_3 := Lib.hid (Rs.out.call hb)
  have H_3 := Lib.hid (rdt_mv R_Task_ok H_2.out hb)
  have HB3 := Lib.hid (HB2.out.trans ((hb).mono HB2.out.size))
  clear P_2 Rs H_2 HB2
  clear h hb
  cases hq : tasksB L with
  | false =>
    have HQ := Lib.hid hq
    clear hq
    have HZ := Lib.hid (show taskOf L ((l, s), id) = zeroT from taskOf_not HQ.out)
    have qR_0 := R_3.out.at_ 0 rfl
    have qR_1 := R_3.out.at_ 1 rfl
    have qR_2 := R_3.out.at_ 2 rfl
    have qR_3 := R_3.out.at_ 3 rfl
    have qR_4 := R_3.out.at_ 4 rfl
    have qR_5 := R_3.out.at_ 5 rfl
    have qR_6 := R_3.out.at_ 6 rfl
    have qR_7 := R_3.out.at_ 7 rfl
    have qR_8 := R_3.out.at_ 8 rfl
    have qR_9 := R_3.out.at_ 9 rfl
    have qR_10 := R_3.out.at_ 10 rfl
    have qR_11 := R_3.out.at_ 11 rfl
    have qR_12 := R_3.out.at_ 12 rfl
    have qR_13 := R_3.out.at_ 13 rfl
    have sR_0 := R_3.out.soft 0
    have sR_1 := R_3.out.soft 1
    have sR_2 := R_3.out.soft 2
    have sR_3 := R_3.out.soft 3
    have sR_4 := R_3.out.soft 4
    have sR_5 := R_3.out.soft 5
    have sR_6 := R_3.out.soft 6
    have sR_7 := R_3.out.soft 7
    have sR_8 := R_3.out.soft 8
    have sR_9 := R_3.out.soft 9
    have sR_10 := R_3.out.soft 10
    have sR_11 := R_3.out.soft 11
    have sR_12 := R_3.out.soft 12
    have sR_13 := R_3.out.soft 13
    go_wp2
    rw [HZ.out]
    refine bodyPost_ret (v := .agg #[.int .i64 0, .int .i64 0, .int .i64 0, .string ⟨#[]⟩, .int .i64 0, .int .i64 0, .int .i64 0, .int .i64 0, .int .i64 0, .int .i64 0, .int .i64 0, .int .i64 0, .int .i64 0, .slice none 0 0]) (by simp [results, Try.results26, go_sem, *]) rfl (newT_zero ((((((((((((((HB3.out.setCell (p := ⟨W.heap.size + 1, 0, none⟩) (by show W.heap.size ≤ W.heap.size + 1; omega) (.int .i64 0)).setCell (p := ⟨W.heap.size + 1, 1, none⟩) (by show W.heap.size ≤ W.heap.size + 1; omega) (.int .i64 0)).setCell (p := ⟨W.heap.size + 1, 2, none⟩) (by show W.heap.size ≤ W.heap.size + 1; omega) (.int .i64 0)).setCell (p := ⟨W.heap.size + 1, 3, none⟩) (by show W.heap.size ≤ W.heap.size + 1; omega) (.string ⟨#[]⟩)).setCell (p := ⟨W.heap.size + 1, 4, none⟩) (by show W.heap.size ≤ W.heap.size + 1; omega) (.int .i64 0)).setCell (p := ⟨W.heap.size + 1, 5, none⟩) (by show W.heap.size ≤ W.heap.size + 1; omega) (.int .i64 0)).setCell (p := ⟨W.heap.size + 1, 6, none⟩) (by show W.heap.size ≤ W.heap.size + 1; omega) (.int .i64 0)).setCell (p := ⟨W.heap.size + 1, 7, none⟩) (by show W.heap.size ≤ W.heap.size + 1; omega) (.int .i64 0)).setCell (p := ⟨W.heap.size + 1, 8, none⟩) (by show W.heap.size ≤ W.heap.size + 1; omega) (.int .i64 0)).setCell (p := ⟨W.heap.size + 1, 9, none⟩) (by show W.heap.size ≤ W.heap.size + 1; omega) (.int .i64 0)).setCell (p := ⟨W.heap.size + 1, 10, none⟩) (by show W.heap.size ≤ W.heap.size + 1; omega) (.int .i64 0)).setCell (p := ⟨W.heap.size + 1, 11, none⟩) (by show W.heap.size ≤ W.heap.size + 1; omega) (.int .i64 0)).setCell (p := ⟨W.heap.size + 1, 12, none⟩) (by show W.heap.size ≤ W.heap.size + 1; omega) (.int .i64 0)).setCell (p := ⟨W.heap.size + 1, 13, none⟩) (by show W.heap.size ≤ W.heap.size + 1; omega) (.slice none 0 0)))
  | true =>
    have HQ := Lib.hid hq
    have HTR := Lib.hid (tasksB_iff.1 hq)
    clear hq
    have qP_0 := P_3.out.at_ 0 rfl
    have qP_1 := P_3.out.at_ 1 rfl
    go_wp2_with fail
    refine (at_spec rfl (H_3.out)).mono ?_
    intro e w4 h
    obtain ⟨rfl, hb⟩ := h
    have h := hb
    clear qP_0 qP_1
    have P_4 := Lib.hid (P_3.out.call hb)
    have R_4 := Lib.hid (R_3.out.call hb)
    have H_4 := Lib.hid (rdt_mv R_Task_ok H_3.out hb)
    have HB4 := Lib.hid (HB3.out.trans ((hb).mono HB3.out.size))
    clear P_3 R_3 H_3 HB3
    clear h hb
    rcases atT_cases L ((l, s), id) with ⟨hc, _⟩ | ⟨k, x, hc, hx, _, _⟩
    · rw [hc]
      have hng : decide ((-1 : Int) < 0) = true := rfl
      have HC := Lib.hid hc
      clear hc
      have HZ := Lib.hid (show taskOf L ((l, s), id) = zeroT from taskOf_none HC.out)
      have qR_0 := R_4.out.at_ 0 rfl
      have qR_1 := R_4.out.at_ 1 rfl
      have qR_2 := R_4.out.at_ 2 rfl
      have qR_3 := R_4.out.at_ 3 rfl
      have qR_4 := R_4.out.at_ 4 rfl
      have qR_5 := R_4.out.at_ 5 rfl
      have qR_6 := R_4.out.at_ 6 rfl
      have qR_7 := R_4.out.at_ 7 rfl
      have qR_8 := R_4.out.at_ 8 rfl
      have qR_9 := R_4.out.at_ 9 rfl
      have qR_10 := R_4.out.at_ 10 rfl
      have qR_11 := R_4.out.at_ 11 rfl
      have qR_12 := R_4.out.at_ 12 rfl
      have qR_13 := R_4.out.at_ 13 rfl
      have sR_0 := R_4.out.soft 0
      have sR_1 := R_4.out.soft 1
      have sR_2 := R_4.out.soft 2
      have sR_3 := R_4.out.soft 3
      have sR_4 := R_4.out.soft 4
      have sR_5 := R_4.out.soft 5
      have sR_6 := R_4.out.soft 6
      have sR_7 := R_4.out.soft 7
      have sR_8 := R_4.out.soft 8
      have sR_9 := R_4.out.soft 9
      have sR_10 := R_4.out.soft 10
      have sR_11 := R_4.out.soft 11
      have sR_12 := R_4.out.soft 12
      have sR_13 := R_4.out.soft 13
      go_wp2
      rw [HZ.out]
      refine bodyPost_ret (v := .agg #[.int .i64 0, .int .i64 0, .int .i64 0, .string ⟨#[]⟩, .int .i64 0, .int .i64 0, .int .i64 0, .int .i64 0, .int .i64 0, .int .i64 0, .int .i64 0, .int .i64 0, .int .i64 0, .slice none 0 0]) (by simp [results, Try.results26, go_sem, *]) rfl (newT_zero ((((((((((((((HB4.out.setCell (p := ⟨W.heap.size + 1, 0, none⟩) (by show W.heap.size ≤ W.heap.size + 1; omega) (.int .i64 0)).setCell (p := ⟨W.heap.size + 1, 1, none⟩) (by show W.heap.size ≤ W.heap.size + 1; omega) (.int .i64 0)).setCell (p := ⟨W.heap.size + 1, 2, none⟩) (by show W.heap.size ≤ W.heap.size + 1; omega) (.int .i64 0)).setCell (p := ⟨W.heap.size + 1, 3, none⟩) (by show W.heap.size ≤ W.heap.size + 1; omega) (.string ⟨#[]⟩)).setCell (p := ⟨W.heap.size + 1, 4, none⟩) (by show W.heap.size ≤ W.heap.size + 1; omega) (.int .i64 0)).setCell (p := ⟨W.heap.size + 1, 5, none⟩) (by show W.heap.size ≤ W.heap.size + 1; omega) (.int .i64 0)).setCell (p := ⟨W.heap.size + 1, 6, none⟩) (by show W.heap.size ≤ W.heap.size + 1; omega) (.int .i64 0)).setCell (p := ⟨W.heap.size + 1, 7, none⟩) (by show W.heap.size ≤ W.heap.size + 1; omega) (.int .i64 0)).setCell (p := ⟨W.heap.size + 1, 8, none⟩) (by show W.heap.size ≤ W.heap.size + 1; omega) (.int .i64 0)).setCell (p := ⟨W.heap.size + 1, 9, none⟩) (by show W.heap.size ≤ W.heap.size + 1; omega) (.int .i64 0)).setCell (p := ⟨W.heap.size + 1, 10, none⟩) (by show W.heap.size ≤ W.heap.size + 1; omega) (.int .i64 0)).setCell (p := ⟨W.heap.size + 1, 11, none⟩) (by show W.heap.size ≤ W.heap.size + 1; omega) (.int .i64 0)).setCell (p := ⟨W.heap.size + 1, 12, none⟩) (by show W.heap.size ≤ W.heap.size + 1; omega) (.int .i64 0)).setCell (p := ⟨W.heap.size + 1, 13, none⟩) (by show W.heap.size ≤ W.heap.size + 1; omega) (.slice none 0 0)))
    · rw [hc]
      have hng : decide ((k : Int) < 0) = false := decide_eq_false (by omega)
      have hil := (List.getElem?_eq_some_iff.1 hx).1
      have HZ := Lib.hid (taskOf_hit HQ.out hc hx)
      have HI := Lib.hid hx
      have HSI := sz_in HSZ.out hx
      clear hc hx
      obtain ⟨⟨x0, x1⟩, x2, x3, x4, x5, x6, ⟨x7, x8⟩, x9, x10, x11, x12, L0⟩ := x
      obtain ⟨g, o, us, rfl, hg, hu, hr⟩ := (H_4.out).at_ HI.out
      obtain ⟨a0, c0, rfl, k_L0, b_x3⟩ := rd_Task hr
      have e0 : w4.cell? ⟨g, o + k * 14, none⟩ = some (.int .i64 x0) := by simpa [size_TaskS, Nat.add_assoc] using hu 0 _ rfl
      have e1 : w4.cell? ⟨g, o + k * 14 + 1, none⟩ = some (.int .i64 x1) := by simpa [size_TaskS, Nat.add_assoc] using hu 1 _ rfl
      have e2 : w4.cell? ⟨g, o + k * 14 + 2, none⟩ = some (.int .i64 x2) := by simpa [size_TaskS, Nat.add_assoc] using hu 2 _ rfl
      have e3 : w4.cell? ⟨g, o + k * 14 + 3, none⟩ = some (.string x3) := by simpa [size_TaskS, Nat.add_assoc] using hu 3 _ rfl
      have e4 : w4.cell? ⟨g, o + k * 14 + 4, none⟩ = some (.int .i64 x4) := by simpa [size_TaskS, Nat.add_assoc] using hu 4 _ rfl
      have e5 : w4.cell? ⟨g, o + k * 14 + 5, none⟩ = some (.int .i64 x5) := by simpa [size_TaskS, Nat.add_assoc] using hu 5 _ rfl
      have e6 : w4.cell? ⟨g, o + k * 14 + 6, none⟩ = some (.int .i64 x6) := by simpa [size_TaskS, Nat.add_assoc] using hu 6 _ rfl
      have e7 : w4.cell? ⟨g, o + k * 14 + 7, none⟩ = some (.int .i64 x7) := by simpa [size_TaskS, Nat.add_assoc] using hu 7 _ rfl
      have e8 : w4.cell? ⟨g, o + k * 14 + 8, none⟩ = some (.int .i64 x8) := by simpa [size_TaskS, Nat.add_assoc] using hu 8 _ rfl
      have e9 : w4.cell? ⟨g, o + k * 14 + 9, none⟩ = some (.int .i64 x9) := by simpa [size_TaskS, Nat.add_assoc] using hu 9 _ rfl
      have e10 : w4.cell? ⟨g, o + k * 14 + 10, none⟩ = some (.int .i64 x10) := by simpa [size_TaskS, Nat.add_assoc] using hu 10 _ rfl
      have e11 : w4.cell? ⟨g, o + k * 14 + 11, none⟩ = some (.int .i64 x11) := by simpa [size_TaskS, Nat.add_assoc] using hu 11 _ rfl
      have e12 : w4.cell? ⟨g, o + k * 14 + 12, none⟩ = some (.int .i64 x12) := by simpa [size_TaskS, Nat.add_assoc] using hu 12 _ rfl
      have e13 : w4.cell? ⟨g, o + k * 14 + 13, none⟩ = some (.slice a0 L0.length c0) := by simpa [size_TaskS, Nat.add_assoc] using hu 13 _ rfl
      have hi0 : (0 : Int) ≤ (k : Int) := Int.natCast_nonneg _
      have hi1 : (k : Int) < (L.length : Int) := by omega
      have HK := Lib.hid k_L0
      have HL0 := Lib.hid (show L0.length ≤ 1048576 from HSI.2)
      have HL3 := Lib.hid (b_x3)
      have HX3 := Lib.hid b_x3
      clear hu hr k_L0 HSI
      have hlo : W.heap.size + 2 ≤ w4.heap.size := by have := R_4.out.lt; omega
      go_wp2_with fail
      refine (copyT_spec HL3.out HL0.out HK.out).mono ?_
      intro e w5 h
      obtain ⟨us, rfl, hu, hb⟩ := newV_elim h
      obtain ⟨a5, c5, T5, rfl, hT, ho, _⟩ := ow_Task hu
      have P_5 := Lib.hid (P_4.out.call hb)
      have R_5 := Lib.hid (R_4.out.call hb)
      have H_5 := Lib.hid (rdt_mv R_Task_ok H_4.out hb)
      have HB5 := Lib.hid (HB4.out.trans ((hb).mono HB4.out.size))
      clear P_4 R_4 H_4 HB4
      have HT := Lib.hid hT
      have HO := Lib.hid ho
      clear hu hT ho e0 e1 e2 e3 e4 e5 e6 e7 e8 e9 e10 e11 e12 e13
      clear h hb
      have qR_0 := R_5.out.at_ 0 rfl
      have qR_1 := R_5.out.at_ 1 rfl
      have qR_2 := R_5.out.at_ 2 rfl
      have qR_3 := R_5.out.at_ 3 rfl
      have qR_4 := R_5.out.at_ 4 rfl
      have qR_5 := R_5.out.at_ 5 rfl
      have qR_6 := R_5.out.at_ 6 rfl
      have qR_7 := R_5.out.at_ 7 rfl
      have qR_8 := R_5.out.at_ 8 rfl
      have qR_9 := R_5.out.at_ 9 rfl
      have qR_10 := R_5.out.at_ 10 rfl
      have qR_11 := R_5.out.at_ 11 rfl
      have qR_12 := R_5.out.at_ 12 rfl
      have qR_13 := R_5.out.at_ 13 rfl
      have sR_0 := R_5.out.soft 0
      have sR_1 := R_5.out.soft 1
      have sR_2 := R_5.out.soft 2
      have sR_3 := R_5.out.soft 3
      have sR_4 := R_5.out.soft 4
      have sR_5 := R_5.out.soft 5
      have sR_6 := R_5.out.soft 6
      have sR_7 := R_5.out.soft 7
      have sR_8 := R_5.out.soft 8
      have sR_9 := R_5.out.soft 9
      have sR_10 := R_5.out.soft 10
      have sR_11 := R_5.out.soft 11
      have sR_12 := R_5.out.soft 12
      have sR_13 := R_5.out.soft 13
      have hzz := HB5.out.size
      go_wp2
      rw [HZ.out]
      refine bodyPost_ret (v := .agg #[.int .i64 x0, .int .i64 x1, .int .i64 x2, .string x3, .int .i64 x4, .int .i64 x5, .int .i64 x6, .int .i64 x7, .int .i64 x8, .int .i64 x9, .int .i64 x10, .int .i64 x11, .int .i64 x12, .slice a5 L0.length c5]) (by simp [results, Try.results26, go_sem, *]) rfl ⟨[.int .i64 x0, .int .i64 x1, .int .i64 x2, .string x3, .int .i64 x4, .int .i64 x5, .int .i64 x6, .int .i64 x7, .int .i64 x8, .int .i64 x9, .int .i64 x10, .int .i64 x11, .int .i64 x12, .slice a5 L0.length c5], rfl, ?_, ((((((((((((((HB5.out.setCell (p := ⟨W.heap.size + 1, 0, none⟩) (by show W.heap.size ≤ W.heap.size + 1; omega) (.int .i64 x0)).setCell (p := ⟨W.heap.size + 1, 1, none⟩) (by show W.heap.size ≤ W.heap.size + 1; omega) (.int .i64 x1)).setCell (p := ⟨W.heap.size + 1, 2, none⟩) (by show W.heap.size ≤ W.heap.size + 1; omega) (.int .i64 x2)).setCell (p := ⟨W.heap.size + 1, 3, none⟩) (by show W.heap.size ≤ W.heap.size + 1; omega) (.string x3)).setCell (p := ⟨W.heap.size + 1, 4, none⟩) (by show W.heap.size ≤ W.heap.size + 1; omega) (.int .i64 x4)).setCell (p := ⟨W.heap.size + 1, 5, none⟩) (by show W.heap.size ≤ W.heap.size + 1; omega) (.int .i64 x5)).setCell (p := ⟨W.heap.size + 1, 6, none⟩) (by show W.heap.size ≤ W.heap.size + 1; omega) (.int .i64 x6)).setCell (p := ⟨W.heap.size + 1, 7, none⟩) (by show W.heap.size ≤ W.heap.size + 1; omega) (.int .i64 x7)).setCell (p := ⟨W.heap.size + 1, 8, none⟩) (by show W.heap.size ≤ W.heap.size + 1; omega) (.int .i64 x8)).setCell (p := ⟨W.heap.size + 1, 9, none⟩) (by show W.heap.size ≤ W.heap.size + 1; omega) (.int .i64 x9)).setCell (p := ⟨W.heap.size + 1, 10, none⟩) (by show W.heap.size ≤ W.heap.size + 1; omega) (.int .i64 x10)).setCell (p := ⟨W.heap.size + 1, 11, none⟩) (by show W.heap.size ≤ W.heap.size + 1; omega) (.int .i64 x11)).setCell (p := ⟨W.heap.size + 1, 12, none⟩) (by show W.heap.size ≤ W.heap.size + 1; omega) (.int .i64 x12)).setCell (p := ⟨W.heap.size + 1, 13, none⟩) (by show W.heap.size ≤ W.heap.size + 1; omega) (.slice a5 L0.length c5))⟩
      have hoff := (((((((((((((((Off.refl (fun x => x < W.heap.size + 2) w5).setCell (p := ⟨W.heap.size + 1, 0, none⟩) (by show W.heap.size + 1 < W.heap.size + 2; omega) (.int .i64 x0)).setCell (p := ⟨W.heap.size + 1, 1, none⟩) (by show W.heap.size + 1 < W.heap.size + 2; omega) (.int .i64 x1)).setCell (p := ⟨W.heap.size + 1, 2, none⟩) (by show W.heap.size + 1 < W.heap.size + 2; omega) (.int .i64 x2)).setCell (p := ⟨W.heap.size + 1, 3, none⟩) (by show W.heap.size + 1 < W.heap.size + 2; omega) (.string x3)).setCell (p := ⟨W.heap.size + 1, 4, none⟩) (by show W.heap.size + 1 < W.heap.size + 2; omega) (.int .i64 x4)).setCell (p := ⟨W.heap.size + 1, 5, none⟩) (by show W.heap.size + 1 < W.heap.size + 2; omega) (.int .i64 x5)).setCell (p := ⟨W.heap.size + 1, 6, none⟩) (by show W.heap.size + 1 < W.heap.size + 2; omega) (.int .i64 x6)).setCell (p := ⟨W.heap.size + 1, 7, none⟩) (by show W.heap.size + 1 < W.heap.size + 2; omega) (.int .i64 x7)).setCell (p := ⟨W.heap.size + 1, 8, none⟩) (by show W.heap.size + 1 < W.heap.size + 2; omega) (.int .i64 x8)).setCell (p := ⟨W.heap.size + 1, 9, none⟩) (by show W.heap.size + 1 < W.heap.size + 2; omega) (.int .i64 x9)).setCell (p := ⟨W.heap.size + 1, 10, none⟩) (by show W.heap.size + 1 < W.heap.size + 2; omega) (.int .i64 x10)).setCell (p := ⟨W.heap.size + 1, 11, none⟩) (by show W.heap.size + 1 < W.heap.size + 2; omega) (.int .i64 x11)).setCell (p := ⟨W.heap.size + 1, 12, none⟩) (by show W.heap.size + 1 < W.heap.size + 2; omega) (.int .i64 x12)).setCell (p := ⟨W.heap.size + 1, 13, none⟩) (by show W.heap.size + 1 < W.heap.size + 2; omega) (.slice a5 L0.length c5))
      have hsz := hoff.size
      exact mkow_Task (fun k hk => ⟨by have := (HT.out k hk).1; omega, by have := (HT.out k hk).2; omega⟩) (HO.out.keep I_ok (fun k hk => hoff.block k (HT.out k hk).2 (by have := (HT.out k hk).1; omega))) HX3.out
set_option maxRecDepth 100000 in
set_option maxHeartbeats 3200000 in
theorem taskof_impl {L : List D_Task} {a : Option Addr} {cap : Nat} {l s id : Int} {W : World} (hsz : (Sl R_Task).sz L ≤ 1048576) (h : RdSl R_Task W W.heap.size L a cap) :
    Calls Try.prog 27 #[.slice a L.length cap, .agg #[.int .i64 l, .int .i64 s], .int .i64 id] W (NewV R_Task (taskOf L ((l, s), id)) W) := by
  have hn : L.length ≤ 1048576 := Nat.le_trans (Nat.le_add_right _ _) hsz
  have HSZ := Lib.hid hsz
  have H := Lib.hid h
  clear h hsz
  have hbA : Below (W).heap.size (W) (W.alloc (.cells #[.int .i64 l, .int .i64 s] 38)) := (Below.refl _ _).alloc (Nat.le_refl _) _
  have H_1 := Lib.hid (rdt_mv R_Task_ok H.out hbA)
  have HB1 := Lib.hid (show Below W.heap.size W (W.alloc (.cells #[.int .i64 l, .int .i64 s] 38)) from hbA)
  clear H
  have P_1 := Blk.new (W) 38 #[.int .i64 l, .int .i64 s]
  have Ph_1 := Lib.hid P_1
  clear P_1 hbA
  have hbA : Below (W.alloc (.cells #[.int .i64 l, .int .i64 s] 38)).heap.size (W.alloc (.cells #[.int .i64 l, .int .i64 s] 38)) ((W.alloc (.cells #[.int .i64 l, .int .i64 s] 38)).alloc (.cells #[.int .i64 0, .int .i64 0, .int .i64 0, .string ⟨#[]⟩, .int .i64 0, .int .i64 0, .int .i64 0, .int .i64 0, .int .i64 0, .int .i64 0, .int .i64 0, .int .i64 0, .int .i64 0, .slice none 0 0] 54)) := (Below.refl _ _).alloc (Nat.le_refl _) _
  have P_2 := Lib.hid (Ph_1.out.call hbA)
  have H_2 := Lib.hid (rdt_mv R_Task_ok H_1.out hbA)
  have HB2 := Lib.hid (HB1.out.trans ((hbA).mono HB1.out.size))
  clear Ph_1 H_1 HB1
  have R_2 := Blk.new (W.alloc (.cells #[.int .i64 l, .int .i64 s] 38)) 54 #[.int .i64 0, .int .i64 0, .int .i64 0, .string ⟨#[]⟩, .int .i64 0, .int .i64 0, .int .i64 0, .int .i64 0, .int .i64 0, .int .i64 0, .int .i64 0, .int .i64 0, .int .i64 0, .slice none 0 0]
  have Rh_2 := Lib.hid R_2
  clear R_2 hbA
  have hR := Rh_2.out
  simp only [World.size_alloc] at hR
  have Rs := Lib.hid hR
  clear hR Rh_2
  go_enter Try.func27, Try.ntmps27
  go_wp2_with fail
  refine (tasks_impl (H_2.out)).mono ?_
  intro e w3 h
  obtain ⟨rfl, hb⟩ := isB_elim h
  have P_3 := Lib.hid (P_2.out.call hb)
  have R_3 := Lib.hid (Rs.out.call hb)
  have H_3 := Lib.hid (rdt_mv R_Task_ok H_2.out hb)
  have HB3 := Lib.hid (HB2.out.trans ((hb).mono HB2.out.size))
  clear P_2 Rs H_2 HB2
  clear h hb
  cases hq : tasksB L with
  | false =>
    have HQ := Lib.hid hq
    clear hq
    have HZ := Lib.hid (show taskOf L ((l, s), id) = zeroT from taskOf_not HQ.out)
    have qR_0 := R_3.out.at_ 0 rfl
    have qR_1 := R_3.out.at_ 1 rfl
    have qR_2 := R_3.out.at_ 2 rfl
    have qR_3 := R_3.out.at_ 3 rfl
    have qR_4 := R_3.out.at_ 4 rfl
    have qR_5 := R_3.out.at_ 5 rfl
    have qR_6 := R_3.out.at_ 6 rfl
    have qR_7 := R_3.out.at_ 7 rfl
    have qR_8 := R_3.out.at_ 8 rfl
    have qR_9 := R_3.out.at_ 9 rfl
    have qR_10 := R_3.out.at_ 10 rfl
    have qR_11 := R_3.out.at_ 11 rfl
    have qR_12 := R_3.out.at_ 12 rfl
    have qR_13 := R_3.out.at_ 13 rfl
    have sR_0 := R_3.out.soft 0
    have sR_1 := R_3.out.soft 1
    have sR_2 := R_3.out.soft 2
    have sR_3 := R_3.out.soft 3
    have sR_4 := R_3.out.soft 4
    have sR_5 := R_3.out.soft 5
    have sR_6 := R_3.out.soft 6
    have sR_7 := R_3.out.soft 7
    have sR_8 := R_3.out.soft 8
    have sR_9 := R_3.out.soft 9
    have sR_10 := R_3.out.soft 10
    have sR_11 := R_3.out.soft 11
    have sR_12 := R_3.out.soft 12
    have sR_13 := R_3.out.soft 13
    go_wp2
    rw [HZ.out]
    refine bodyPost_ret (v := .agg #[.int .i64 0, .int .i64 0, .int .i64 0, .string ⟨#[]⟩, .int .i64 0, .int .i64 0, .int .i64 0, .int .i64 0, .int .i64 0, .int .i64 0, .int .i64 0, .int .i64 0, .int .i64 0, .slice none 0 0]) (by simp [results, Try.results27, go_sem, *]) rfl (newT_zero ((((((((((((((HB3.out.setCell (p := ⟨W.heap.size + 1, 0, none⟩) (by show W.heap.size ≤ W.heap.size + 1; omega) (.int .i64 0)).setCell (p := ⟨W.heap.size + 1, 1, none⟩) (by show W.heap.size ≤ W.heap.size + 1; omega) (.int .i64 0)).setCell (p := ⟨W.heap.size + 1, 2, none⟩) (by show W.heap.size ≤ W.heap.size + 1; omega) (.int .i64 0)).setCell (p := ⟨W.heap.size + 1, 3, none⟩) (by show W.heap.size ≤ W.heap.size + 1; omega) (.string ⟨#[]⟩)).setCell (p := ⟨W.heap.size + 1, 4, none⟩) (by show W.heap.size ≤ W.heap.size + 1; omega) (.int .i64 0)).setCell (p := ⟨W.heap.size + 1, 5, none⟩) (by show W.heap.size ≤ W.heap.size + 1; omega) (.int .i64 0)).setCell (p := ⟨W.heap.size + 1, 6, none⟩) (by show W.heap.size ≤ W.heap.size + 1; omega) (.int .i64 0)).setCell (p := ⟨W.heap.size + 1, 7, none⟩) (by show W.heap.size ≤ W.heap.size + 1; omega) (.int .i64 0)).setCell (p := ⟨W.heap.size + 1, 8, none⟩) (by show W.heap.size ≤ W.heap.size + 1; omega) (.int .i64 0)).setCell (p := ⟨W.heap.size + 1, 9, none⟩) (by show W.heap.size ≤ W.heap.size + 1; omega) (.int .i64 0)).setCell (p := ⟨W.heap.size + 1, 10, none⟩) (by show W.heap.size ≤ W.heap.size + 1; omega) (.int .i64 0)).setCell (p := ⟨W.heap.size + 1, 11, none⟩) (by show W.heap.size ≤ W.heap.size + 1; omega) (.int .i64 0)).setCell (p := ⟨W.heap.size + 1, 12, none⟩) (by show W.heap.size ≤ W.heap.size + 1; omega) (.int .i64 0)).setCell (p := ⟨W.heap.size + 1, 13, none⟩) (by show W.heap.size ≤ W.heap.size + 1; omega) (.slice none 0 0)))
  | true =>
    have HQ := Lib.hid hq
    have HTR := Lib.hid (tasksB_iff.1 hq)
    clear hq
    have qP_0 := P_3.out.at_ 0 rfl
    have qP_1 := P_3.out.at_ 1 rfl
    go_wp2_with fail
    refine (taskat_n rfl hn (tasksR_inc HTR.out) (H_3.out)).mono ?_
    intro e w4 h
    obtain ⟨rfl, hb⟩ := h
    have h := hb
    clear qP_0 qP_1
    have P_4 := Lib.hid (P_3.out.call hb)
    have R_4 := Lib.hid (R_3.out.call hb)
    have H_4 := Lib.hid (rdt_mv R_Task_ok H_3.out hb)
    have HB4 := Lib.hid (HB3.out.trans ((hb).mono HB3.out.size))
    clear P_3 R_3 H_3 HB3
    clear h hb
    rcases atT_cases L ((l, s), id) with ⟨hc, _⟩ | ⟨k, x, hc, hx, _, _⟩
    · rw [hc]
      have hng : decide ((-1 : Int) < 0) = true := rfl
      have HC := Lib.hid hc
      clear hc
      have HZ := Lib.hid (show taskOf L ((l, s), id) = zeroT from taskOf_none HC.out)
      have qR_0 := R_4.out.at_ 0 rfl
      have qR_1 := R_4.out.at_ 1 rfl
      have qR_2 := R_4.out.at_ 2 rfl
      have qR_3 := R_4.out.at_ 3 rfl
      have qR_4 := R_4.out.at_ 4 rfl
      have qR_5 := R_4.out.at_ 5 rfl
      have qR_6 := R_4.out.at_ 6 rfl
      have qR_7 := R_4.out.at_ 7 rfl
      have qR_8 := R_4.out.at_ 8 rfl
      have qR_9 := R_4.out.at_ 9 rfl
      have qR_10 := R_4.out.at_ 10 rfl
      have qR_11 := R_4.out.at_ 11 rfl
      have qR_12 := R_4.out.at_ 12 rfl
      have qR_13 := R_4.out.at_ 13 rfl
      have sR_0 := R_4.out.soft 0
      have sR_1 := R_4.out.soft 1
      have sR_2 := R_4.out.soft 2
      have sR_3 := R_4.out.soft 3
      have sR_4 := R_4.out.soft 4
      have sR_5 := R_4.out.soft 5
      have sR_6 := R_4.out.soft 6
      have sR_7 := R_4.out.soft 7
      have sR_8 := R_4.out.soft 8
      have sR_9 := R_4.out.soft 9
      have sR_10 := R_4.out.soft 10
      have sR_11 := R_4.out.soft 11
      have sR_12 := R_4.out.soft 12
      have sR_13 := R_4.out.soft 13
      go_wp2
      rw [HZ.out]
      refine bodyPost_ret (v := .agg #[.int .i64 0, .int .i64 0, .int .i64 0, .string ⟨#[]⟩, .int .i64 0, .int .i64 0, .int .i64 0, .int .i64 0, .int .i64 0, .int .i64 0, .int .i64 0, .int .i64 0, .int .i64 0, .slice none 0 0]) (by simp [results, Try.results27, go_sem, *]) rfl (newT_zero ((((((((((((((HB4.out.setCell (p := ⟨W.heap.size + 1, 0, none⟩) (by show W.heap.size ≤ W.heap.size + 1; omega) (.int .i64 0)).setCell (p := ⟨W.heap.size + 1, 1, none⟩) (by show W.heap.size ≤ W.heap.size + 1; omega) (.int .i64 0)).setCell (p := ⟨W.heap.size + 1, 2, none⟩) (by show W.heap.size ≤ W.heap.size + 1; omega) (.int .i64 0)).setCell (p := ⟨W.heap.size + 1, 3, none⟩) (by show W.heap.size ≤ W.heap.size + 1; omega) (.string ⟨#[]⟩)).setCell (p := ⟨W.heap.size + 1, 4, none⟩) (by show W.heap.size ≤ W.heap.size + 1; omega) (.int .i64 0)).setCell (p := ⟨W.heap.size + 1, 5, none⟩) (by show W.heap.size ≤ W.heap.size + 1; omega) (.int .i64 0)).setCell (p := ⟨W.heap.size + 1, 6, none⟩) (by show W.heap.size ≤ W.heap.size + 1; omega) (.int .i64 0)).setCell (p := ⟨W.heap.size + 1, 7, none⟩) (by show W.heap.size ≤ W.heap.size + 1; omega) (.int .i64 0)).setCell (p := ⟨W.heap.size + 1, 8, none⟩) (by show W.heap.size ≤ W.heap.size + 1; omega) (.int .i64 0)).setCell (p := ⟨W.heap.size + 1, 9, none⟩) (by show W.heap.size ≤ W.heap.size + 1; omega) (.int .i64 0)).setCell (p := ⟨W.heap.size + 1, 10, none⟩) (by show W.heap.size ≤ W.heap.size + 1; omega) (.int .i64 0)).setCell (p := ⟨W.heap.size + 1, 11, none⟩) (by show W.heap.size ≤ W.heap.size + 1; omega) (.int .i64 0)).setCell (p := ⟨W.heap.size + 1, 12, none⟩) (by show W.heap.size ≤ W.heap.size + 1; omega) (.int .i64 0)).setCell (p := ⟨W.heap.size + 1, 13, none⟩) (by show W.heap.size ≤ W.heap.size + 1; omega) (.slice none 0 0)))
    · rw [hc]
      have hng : decide ((k : Int) < 0) = false := decide_eq_false (by omega)
      have hil := (List.getElem?_eq_some_iff.1 hx).1
      have HZ := Lib.hid (taskOf_hit HQ.out hc hx)
      have HI := Lib.hid hx
      have HSI := sz_in HSZ.out hx
      clear hc hx
      obtain ⟨⟨x0, x1⟩, x2, x3, x4, x5, x6, ⟨x7, x8⟩, x9, x10, x11, x12, L0⟩ := x
      obtain ⟨g, o, us, rfl, hg, hu, hr⟩ := (H_4.out).at_ HI.out
      obtain ⟨a0, c0, rfl, k_L0, b_x3⟩ := rd_Task hr
      have e0 : w4.cell? ⟨g, o + k * 14, none⟩ = some (.int .i64 x0) := by simpa [size_TaskS, Nat.add_assoc] using hu 0 _ rfl
      have e1 : w4.cell? ⟨g, o + k * 14 + 1, none⟩ = some (.int .i64 x1) := by simpa [size_TaskS, Nat.add_assoc] using hu 1 _ rfl
      have e2 : w4.cell? ⟨g, o + k * 14 + 2, none⟩ = some (.int .i64 x2) := by simpa [size_TaskS, Nat.add_assoc] using hu 2 _ rfl
      have e3 : w4.cell? ⟨g, o + k * 14 + 3, none⟩ = some (.string x3) := by simpa [size_TaskS, Nat.add_assoc] using hu 3 _ rfl
      have e4 : w4.cell? ⟨g, o + k * 14 + 4, none⟩ = some (.int .i64 x4) := by simpa [size_TaskS, Nat.add_assoc] using hu 4 _ rfl
      have e5 : w4.cell? ⟨g, o + k * 14 + 5, none⟩ = some (.int .i64 x5) := by simpa [size_TaskS, Nat.add_assoc] using hu 5 _ rfl
      have e6 : w4.cell? ⟨g, o + k * 14 + 6, none⟩ = some (.int .i64 x6) := by simpa [size_TaskS, Nat.add_assoc] using hu 6 _ rfl
      have e7 : w4.cell? ⟨g, o + k * 14 + 7, none⟩ = some (.int .i64 x7) := by simpa [size_TaskS, Nat.add_assoc] using hu 7 _ rfl
      have e8 : w4.cell? ⟨g, o + k * 14 + 8, none⟩ = some (.int .i64 x8) := by simpa [size_TaskS, Nat.add_assoc] using hu 8 _ rfl
      have e9 : w4.cell? ⟨g, o + k * 14 + 9, none⟩ = some (.int .i64 x9) := by simpa [size_TaskS, Nat.add_assoc] using hu 9 _ rfl
      have e10 : w4.cell? ⟨g, o + k * 14 + 10, none⟩ = some (.int .i64 x10) := by simpa [size_TaskS, Nat.add_assoc] using hu 10 _ rfl
      have e11 : w4.cell? ⟨g, o + k * 14 + 11, none⟩ = some (.int .i64 x11) := by simpa [size_TaskS, Nat.add_assoc] using hu 11 _ rfl
      have e12 : w4.cell? ⟨g, o + k * 14 + 12, none⟩ = some (.int .i64 x12) := by simpa [size_TaskS, Nat.add_assoc] using hu 12 _ rfl
      have e13 : w4.cell? ⟨g, o + k * 14 + 13, none⟩ = some (.slice a0 L0.length c0) := by simpa [size_TaskS, Nat.add_assoc] using hu 13 _ rfl
      have hi0 : (0 : Int) ≤ (k : Int) := Int.natCast_nonneg _
      have hi1 : (k : Int) < (L.length : Int) := by omega
      have HK := Lib.hid k_L0
      have HL0 := Lib.hid (show L0.length ≤ 1048576 from HSI.2)
      have HL3 := Lib.hid (show x3.size ≤ 1048576 from HSI.1)
      have HX3 := Lib.hid b_x3
      clear hu hr k_L0 HSI
      have hlo : W.heap.size + 2 ≤ w4.heap.size := by have := R_4.out.lt; omega
      go_wp2_with fail
      refine (copyT_impl HL3.out HL0.out HK.out).mono ?_
      intro e w5 h
      obtain ⟨us, rfl, hu, hb⟩ := newV_elim h
      obtain ⟨a5, c5, T5, rfl, hT, ho, _⟩ := ow_Task hu
      have P_5 := Lib.hid (P_4.out.call hb)
      have R_5 := Lib.hid (R_4.out.call hb)
      have H_5 := Lib.hid (rdt_mv R_Task_ok H_4.out hb)
      have HB5 := Lib.hid (HB4.out.trans ((hb).mono HB4.out.size))
      clear P_4 R_4 H_4 HB4
      have HT := Lib.hid hT
      have HO := Lib.hid ho
      clear hu hT ho e0 e1 e2 e3 e4 e5 e6 e7 e8 e9 e10 e11 e12 e13
      clear h hb
      have qR_0 := R_5.out.at_ 0 rfl
      have qR_1 := R_5.out.at_ 1 rfl
      have qR_2 := R_5.out.at_ 2 rfl
      have qR_3 := R_5.out.at_ 3 rfl
      have qR_4 := R_5.out.at_ 4 rfl
      have qR_5 := R_5.out.at_ 5 rfl
      have qR_6 := R_5.out.at_ 6 rfl
      have qR_7 := R_5.out.at_ 7 rfl
      have qR_8 := R_5.out.at_ 8 rfl
      have qR_9 := R_5.out.at_ 9 rfl
      have qR_10 := R_5.out.at_ 10 rfl
      have qR_11 := R_5.out.at_ 11 rfl
      have qR_12 := R_5.out.at_ 12 rfl
      have qR_13 := R_5.out.at_ 13 rfl
      have sR_0 := R_5.out.soft 0
      have sR_1 := R_5.out.soft 1
      have sR_2 := R_5.out.soft 2
      have sR_3 := R_5.out.soft 3
      have sR_4 := R_5.out.soft 4
      have sR_5 := R_5.out.soft 5
      have sR_6 := R_5.out.soft 6
      have sR_7 := R_5.out.soft 7
      have sR_8 := R_5.out.soft 8
      have sR_9 := R_5.out.soft 9
      have sR_10 := R_5.out.soft 10
      have sR_11 := R_5.out.soft 11
      have sR_12 := R_5.out.soft 12
      have sR_13 := R_5.out.soft 13
      have hzz := HB5.out.size
      go_wp2
      rw [HZ.out]
      refine bodyPost_ret (v := .agg #[.int .i64 x0, .int .i64 x1, .int .i64 x2, .string x3, .int .i64 x4, .int .i64 x5, .int .i64 x6, .int .i64 x7, .int .i64 x8, .int .i64 x9, .int .i64 x10, .int .i64 x11, .int .i64 x12, .slice a5 L0.length c5]) (by simp [results, Try.results27, go_sem, *]) rfl ⟨[.int .i64 x0, .int .i64 x1, .int .i64 x2, .string x3, .int .i64 x4, .int .i64 x5, .int .i64 x6, .int .i64 x7, .int .i64 x8, .int .i64 x9, .int .i64 x10, .int .i64 x11, .int .i64 x12, .slice a5 L0.length c5], rfl, ?_, ((((((((((((((HB5.out.setCell (p := ⟨W.heap.size + 1, 0, none⟩) (by show W.heap.size ≤ W.heap.size + 1; omega) (.int .i64 x0)).setCell (p := ⟨W.heap.size + 1, 1, none⟩) (by show W.heap.size ≤ W.heap.size + 1; omega) (.int .i64 x1)).setCell (p := ⟨W.heap.size + 1, 2, none⟩) (by show W.heap.size ≤ W.heap.size + 1; omega) (.int .i64 x2)).setCell (p := ⟨W.heap.size + 1, 3, none⟩) (by show W.heap.size ≤ W.heap.size + 1; omega) (.string x3)).setCell (p := ⟨W.heap.size + 1, 4, none⟩) (by show W.heap.size ≤ W.heap.size + 1; omega) (.int .i64 x4)).setCell (p := ⟨W.heap.size + 1, 5, none⟩) (by show W.heap.size ≤ W.heap.size + 1; omega) (.int .i64 x5)).setCell (p := ⟨W.heap.size + 1, 6, none⟩) (by show W.heap.size ≤ W.heap.size + 1; omega) (.int .i64 x6)).setCell (p := ⟨W.heap.size + 1, 7, none⟩) (by show W.heap.size ≤ W.heap.size + 1; omega) (.int .i64 x7)).setCell (p := ⟨W.heap.size + 1, 8, none⟩) (by show W.heap.size ≤ W.heap.size + 1; omega) (.int .i64 x8)).setCell (p := ⟨W.heap.size + 1, 9, none⟩) (by show W.heap.size ≤ W.heap.size + 1; omega) (.int .i64 x9)).setCell (p := ⟨W.heap.size + 1, 10, none⟩) (by show W.heap.size ≤ W.heap.size + 1; omega) (.int .i64 x10)).setCell (p := ⟨W.heap.size + 1, 11, none⟩) (by show W.heap.size ≤ W.heap.size + 1; omega) (.int .i64 x11)).setCell (p := ⟨W.heap.size + 1, 12, none⟩) (by show W.heap.size ≤ W.heap.size + 1; omega) (.int .i64 x12)).setCell (p := ⟨W.heap.size + 1, 13, none⟩) (by show W.heap.size ≤ W.heap.size + 1; omega) (.slice a5 L0.length c5))⟩
      have hoff := (((((((((((((((Off.refl (fun x => x < W.heap.size + 2) w5).setCell (p := ⟨W.heap.size + 1, 0, none⟩) (by show W.heap.size + 1 < W.heap.size + 2; omega) (.int .i64 x0)).setCell (p := ⟨W.heap.size + 1, 1, none⟩) (by show W.heap.size + 1 < W.heap.size + 2; omega) (.int .i64 x1)).setCell (p := ⟨W.heap.size + 1, 2, none⟩) (by show W.heap.size + 1 < W.heap.size + 2; omega) (.int .i64 x2)).setCell (p := ⟨W.heap.size + 1, 3, none⟩) (by show W.heap.size + 1 < W.heap.size + 2; omega) (.string x3)).setCell (p := ⟨W.heap.size + 1, 4, none⟩) (by show W.heap.size + 1 < W.heap.size + 2; omega) (.int .i64 x4)).setCell (p := ⟨W.heap.size + 1, 5, none⟩) (by show W.heap.size + 1 < W.heap.size + 2; omega) (.int .i64 x5)).setCell (p := ⟨W.heap.size + 1, 6, none⟩) (by show W.heap.size + 1 < W.heap.size + 2; omega) (.int .i64 x6)).setCell (p := ⟨W.heap.size + 1, 7, none⟩) (by show W.heap.size + 1 < W.heap.size + 2; omega) (.int .i64 x7)).setCell (p := ⟨W.heap.size + 1, 8, none⟩) (by show W.heap.size + 1 < W.heap.size + 2; omega) (.int .i64 x8)).setCell (p := ⟨W.heap.size + 1, 9, none⟩) (by show W.heap.size + 1 < W.heap.size + 2; omega) (.int .i64 x9)).setCell (p := ⟨W.heap.size + 1, 10, none⟩) (by show W.heap.size + 1 < W.heap.size + 2; omega) (.int .i64 x10)).setCell (p := ⟨W.heap.size + 1, 11, none⟩) (by show W.heap.size + 1 < W.heap.size + 2; omega) (.int .i64 x11)).setCell (p := ⟨W.heap.size + 1, 12, none⟩) (by show W.heap.size + 1 < W.heap.size + 2; omega) (.int .i64 x12)).setCell (p := ⟨W.heap.size + 1, 13, none⟩) (by show W.heap.size + 1 < W.heap.size + 2; omega) (.slice a5 L0.length c5))
      have hsz := hoff.size
      exact mkow_Task (fun k hk => ⟨by have := (HT.out k hk).1; omega, by have := (HT.out k hk).2; omega⟩) (HO.out.keep I_ok (fun k hk => hoff.block k (HT.out k hk).2 (by have := (HT.out k hk).1; omega))) HX3.out
end Go.Proofs.Ytmmnkdilnlhbfaa.RepC
namespace Go.Proofs.Ytmmnkdilnlhbfaa.RepC
open Go.RowKit RowC ValC SpanC KeptC
set_option linter.unusedVariables false
set_option linter.unusedSimpArgs false

theorem gtaskof_spec {L : List D_Task} {v : Value} {l s id : Int} {W : World} (hsz : (Sl R_Task).sz L ≤ 1048576) (h : (Sl R_Task).rd W W.heap.size L [v]) : Calls Try.prog 26 #[v, .agg #[.int .i64 l, .int .i64 s], .int .i64 id] W (NewV R_Task (taskOf L ((l, s), id)) W) := by
  obtain ⟨al, cap, he, k⟩ := h; cases he
  exact taskof_spec hsz k
theorem gtaskof_impl {L : List D_Task} {v : Value} {l s id : Int} {W : World} (hsz : (Sl R_Task).sz L ≤ 1048576) (h : (Sl R_Task).rd W W.heap.size L [v]) : Calls Try.prog 27 #[v, .agg #[.int .i64 l, .int .i64 s], .int .i64 id] W (NewV R_Task (taskOf L ((l, s), id)) W) := by
  obtain ⟨al, cap, he, k⟩ := h; cases he
  exact taskof_impl hsz k
theorem taskof_small {L : List D_Task} {a : D_Label × Int} {d : D_Task} (hsz : (Sl R_Task).sz L ≤ 1048576) (hd : taskOf L a = d) : R_Task.cv d ≤ 8388608 := by
  apply cvs_Task
  rw [← hd]
  have hz : R_Task.sz zeroT ≤ 1048576 := by rw [sz_task]; decide
  unfold taskOf
  split
  · cases hx : L[(atT L a).toNat]? with
    | none => exact hz
    | some x =>
      have := sz_at (f := R_Task.sz) hx hsz
      simpa using this
  · exact hz
end Go.Proofs.Ytmmnkdilnlhbfaa.RepC
namespace Go.Proofs.Ytmmnkdilnlhbfaa.RepC
open Go.RowKit RowC ValC SpanC KeptC
set_option linter.unusedVariables false
set_option linter.unusedSimpArgs false

theorem sets_Task {w : World} {g : Nat} {v0 v1 v2 v3 v4 v5 v6 v7 v8 v9 v10 v11 v12 v13 : Value} {t : TypeId} (h : Blk w g t #[.int .i64 0, .int .i64 0, .int .i64 0, .string ⟨#[]⟩, .int .i64 0, .int .i64 0, .int .i64 0, .int .i64 0, .int .i64 0, .int .i64 0, .int .i64 0, .int .i64 0, .int .i64 0, .slice none 0 0]) : Blk ((((((((((((((w.setCell ⟨g, 0, none⟩ v0).setCell ⟨g, 1, none⟩ v1).setCell ⟨g, 2, none⟩ v2).setCell ⟨g, 3, none⟩ v3).setCell ⟨g, 4, none⟩ v4).setCell ⟨g, 5, none⟩ v5).setCell ⟨g, 6, none⟩ v6).setCell ⟨g, 7, none⟩ v7).setCell ⟨g, 8, none⟩ v8).setCell ⟨g, 9, none⟩ v9).setCell ⟨g, 10, none⟩ v10).setCell ⟨g, 11, none⟩ v11).setCell ⟨g, 12, none⟩ v12).setCell ⟨g, 13, none⟩ v13) g t #[v0, v1, v2, v3, v4, v5, v6, v7, v8, v9, v10, v11, v12, v13] := Blk.as ((((((((((((((h.set 0 v0).set 1 v1).set 2 v2).set 3 v3).set 4 v4).set 5 v5).set 6 v6).set 7 v7).set 8 v8).set 9 v9).set 10 v10).set 11 v11).set 12 v12).set 13 v13) (by kernel_rfl)
theorem soff_Task (w : World) (g : Nat) (v0 v1 v2 v3 v4 v5 v6 v7 v8 v9 v10 v11 v12 v13 : Value) : Off (fun x => x = g) w ((((((((((((((w.setCell ⟨g, 0, none⟩ v0).setCell ⟨g, 1, none⟩ v1).setCell ⟨g, 2, none⟩ v2).setCell ⟨g, 3, none⟩ v3).setCell ⟨g, 4, none⟩ v4).setCell ⟨g, 5, none⟩ v5).setCell ⟨g, 6, none⟩ v6).setCell ⟨g, 7, none⟩ v7).setCell ⟨g, 8, none⟩ v8).setCell ⟨g, 9, none⟩ v9).setCell ⟨g, 10, none⟩ v10).setCell ⟨g, 11, none⟩ v11).setCell ⟨g, 12, none⟩ v12).setCell ⟨g, 13, none⟩ v13) := (((((((((((((((Off.refl (fun x => x = g) w).setCell (p := ⟨g, 0, none⟩) rfl v0).setCell (p := ⟨g, 1, none⟩) rfl v1).setCell (p := ⟨g, 2, none⟩) rfl v2).setCell (p := ⟨g, 3, none⟩) rfl v3).setCell (p := ⟨g, 4, none⟩) rfl v4).setCell (p := ⟨g, 5, none⟩) rfl v5).setCell (p := ⟨g, 6, none⟩) rfl v6).setCell (p := ⟨g, 7, none⟩) rfl v7).setCell (p := ⟨g, 8, none⟩) rfl v8).setCell (p := ⟨g, 9, none⟩) rfl v9).setCell (p := ⟨g, 10, none⟩) rfl v10).setCell (p := ⟨g, 11, none⟩) rfl v11).setCell (p := ⟨g, 12, none⟩) rfl v12).setCell (p := ⟨g, 13, none⟩) rfl v13)
set_option maxRecDepth 100000 in
set_option maxHeartbeats 4000000 in
theorem law_taskof {L : List (D_Task)} {La : Option Addr} {Lc : Nat} {Xx0 : Int} {Xx1 : Int}  {N : Int} {W : World} (hL : (Sl R_Task).rd W W.heap.size L [.slice La L.length Lc]) :
    Calls Try.prog 6 #[.slice La L.length Lc, .agg #[.int .i64 Xx0, .int .i64 Xx1], .int .i64 N] W fun e w' => e = .returned (.bool true) ∧ Below W.heap.size W w' := by
  have HL := Lib.hid hL
  have HL0 := Lib.hid hL
  clear hL
  have hbA : Below (W).heap.size (W) (W.alloc (.cells #[.int .i64 Xx0, .int .i64 Xx1] 28)) := (Below.refl _ _).alloc (Nat.le_refl _) _
  have HL_1 := Lib.hid (gmv (Sl_ok R_Task_ok) HL.out hbA)
  have HB1 := Lib.hid (show Below W.heap.size W (W.alloc (.cells #[.int .i64 Xx0, .int .i64 Xx1] 28)) from hbA)
  have HZ1 := Lib.hid ((hbA).size)
  clear HL
  have PX_1 := Blk.new (W) 28 #[.int .i64 Xx0, .int .i64 Xx1]
  have PXh_1 := Lib.hid PX_1
  clear PX_1 hbA
  by_cases hsz : (Sl R_Task).sz L ≤ 1048576
  rotate_left
  · skip
    go_enter Try.func6, Try.ntmps6
    have qPX_0 := PXh_1.out.at_ 0 rfl
    have qPX_1 := PXh_1.out.at_ 1 rfl
    go_wp2_with fail
    refine (gsz_TaskS (by omega) (by omega) HL_1.out).mono ?_
    intro e w2 h
    obtain ⟨rfl, hb⟩ := szC_elim h
    rw [szR_no (by omega)]
    clear qPX_0 qPX_1
    have PX_2 := Lib.hid (PXh_1.out.call hb)
    have HL_2 := Lib.hid (gmv (Sl_ok R_Task_ok) HL_1.out hb)
    have HB2 := Lib.hid (HB1.out.trans ((hb).mono HB1.out.size))
    have HZ2 := Lib.hid ((hb).size)
    clear PXh_1 HL_1 HB1
    clear h hb
    go_wp2
    go_ret
    exact ⟨rfl, HB2.out⟩
  have HSZL := Lib.hid hsz
  have HSAL := Lib.hid (cvs_TaskS hsz)
  obtain ⟨m, hm⟩ : ∃ m : Nat, (Sl R_Task).sz L = m := ⟨_, rfl⟩
  have HM := Lib.hid hm
  rw [hm] at hsz
  clear hm
  have hlt1 : decide ((1048576 : Int) - (m : Int) < 0) = false := decide_eq_false (by omega)
  obtain ⟨⟨⟨dx0, dx1⟩, dx2, dx3, dx4, dx5, dx6, ⟨dx7, dx8⟩, dx9, dx10, dx11, dx12, dL0⟩, hD⟩ : ∃ d, taskOf L ((Xx0, Xx1), N) = d := ⟨_, rfl⟩
  have HDD := Lib.hid hD
  have HSM := Lib.hid (taskof_small HSZL.out hD)
  clear hD
  go_enter Try.func6, Try.ntmps6
  have qPX_0 := PXh_1.out.at_ 0 rfl
  have qPX_1 := PXh_1.out.at_ 1 rfl
  go_wp2_with fail
  refine (gsz_TaskS (by omega) (by omega) HL_1.out).mono ?_
  intro e w2 h
  obtain ⟨rfl, hb⟩ := szC_elim h
  rw [HM.out, szR_yes (by omega)]
  clear qPX_0 qPX_1
  have PX_2 := Lib.hid (PXh_1.out.call hb)
  have HL_2 := Lib.hid (gmv (Sl_ok R_Task_ok) HL_1.out hb)
  have HB2 := Lib.hid (HB1.out.trans ((hb).mono HB1.out.size))
  have HZ2 := Lib.hid ((hb).size)
  clear PXh_1 HL_1 HB1
  clear hsz
  clear h hb
  have HPL := Lib.hid (PX_2.out.lt)
  go_upto_region 5 with fail
  go_cut [8] (fun s8 wx => ∃ (gw : Nat) (ra0w : Option Addr) (rc0w : Nat) (Sw : Nat → Prop), s8 = .pointer (some ⟨gw, 0, none⟩) ∧ Hid (Blk wx gw 54 #[.int .i64 dx0, .int .i64 dx1, .int .i64 dx2, .string dx3, .int .i64 dx4, .int .i64 dx5, .int .i64 dx6, .int .i64 dx7, .int .i64 dx8, .int .i64 dx9, .int .i64 dx10, .int .i64 dx11, .int .i64 dx12, .slice ra0w dL0.length rc0w]) ∧ Hid (OwG R_Task wx Sw ((dx0, dx1), dx2, dx3, dx4, dx5, dx6, (dx7, dx8), dx9, dx10, dx11, dx12, dL0) [.int .i64 dx0, .int .i64 dx1, .int .i64 dx2, .string dx3, .int .i64 dx4, .int .i64 dx5, .int .i64 dx6, .int .i64 dx7, .int .i64 dx8, .int .i64 dx9, .int .i64 dx10, .int .i64 dx11, .int .i64 dx12, .slice ra0w dL0.length rc0w]) ∧ Hid (∀ k, Sw k → w2.heap.size ≤ k ∧ k ≠ gw) ∧ Hid (w2.heap.size ≤ gw) ∧ Hid (Below w2.heap.size w2 wx))
  case first =>
    refine wp_region_held_drew (S := (fun V => Below w2.heap.size w2 V)) (by kernel_rfl) ((Below.refl _ _).drew) (fun hHeld => ?_)
    refine tk 0 hHeld ?_
    refine tk 2 hHeld ?_ (hy := fun w hSw => by (try dsimp only at hSw); have k0 := (hSw.cell (p := ⟨W.heap.size, 0, none⟩) PX_2.out.lt).trans (PX_2.out.at_ 0 rfl); have k1 := (hSw.cell (p := ⟨W.heap.size, 1, none⟩) PX_2.out.lt).trans (PX_2.out.at_ 1 rfl); clear hSw; go_simp; try with_reducible rfl)
    refine tk 4 hHeld ?_
    refine rd2 1 6 (fun K hK => ?_) (fun K hK => ?_)
    · skip
      go_simp
      go_at_call 23
      refine (gto_TaskS HSZL.out (gmv (Sl_ok R_Task_ok) HL_2.out hHeld)).mono ?_
      intro e v5_1 h
      obtain ⟨aL_5_1, cL_5_1, rfl, hu, hb⟩ := newS_elim2 h
      have NL := Lib.hid (owG_new hu)
      clear h hu
      refine hK.out _ _ (hHeld.trans (hb.mono hHeld.size)) (fun hHeld => ?_)
      clear hK K hb
      refine rd2 3 6 (fun K hK => ?_) (fun K hK => ?_)
      · skip
        go_simp
        go_at_call 12
        refine (to_Label (by simp only [R_Label, Pr, I, atom] <;> omega)).mono ?_
        intro e v5_2 h
        obtain ⟨us, rfl, hu, hb⟩ := newV_elim h
        obtain rfl := ow0_Label hu
        have NL := Lib.hid (NL.out.mv (Sl_ok R_Task_ok) hb)
        clear h hu
        refine hK.out _ _ (hHeld.trans (hb.mono hHeld.size)) (fun hHeld => ?_)
        clear hK K hb
        refine rd2 5 6 (fun K hK => ?_) (fun K hK => ?_)
        · skip
          go_simp
          go_at_call 26
          refine (gtaskof_spec HSZL.out (NL.out.rd (Sl_ok R_Task_ok))).mono ?_
          intro e v5_3 h
          rw [HDD.out] at h
          obtain ⟨us, rfl, hu, hb⟩ := newV_elim h
          obtain ⟨ra05_3, rc05_3, rfl, hu⟩ := owc_Task hu
          have hHeld0 := Lib.hid hHeld
          have OW := Lib.hid (owG_new hu)
          clear h hu NL
          refine hK.out _ _ (hHeld.trans (hb.mono hHeld.size)) (fun hHeld => ?_)
          clear hK K hb
          refine rd1 6 (fun K hK => ?_)
          go_simp
          have hb : Below (v5_3).heap.size (v5_3) (v5_3.alloc (.cells #[.int .i64 0, .int .i64 0, .int .i64 0, .string ⟨#[]⟩, .int .i64 0, .int .i64 0, .int .i64 0, .int .i64 0, .int .i64 0, .int .i64 0, .int .i64 0, .int .i64 0, .int .i64 0, .slice none 0 0] 54)) := (Below.refl _ _).alloc (Nat.le_refl _) _
          have OW0 := OW
          have OW := Lib.hid (OW.out.mv R_Task_ok hb)
          have GB := Lib.hid (show Blk (v5_3.alloc (.cells #[.int .i64 0, .int .i64 0, .int .i64 0, .string ⟨#[]⟩, .int .i64 0, .int .i64 0, .int .i64 0, .int .i64 0, .int .i64 0, .int .i64 0, .int .i64 0, .int .i64 0, .int .i64 0, .slice none 0 0] 54)) v5_3.heap.size 54 #[.int .i64 0, .int .i64 0, .int .i64 0, .string ⟨#[]⟩, .int .i64 0, .int .i64 0, .int .i64 0, .int .i64 0, .int .i64 0, .int .i64 0, .int .i64 0, .int .i64 0, .int .i64 0, .slice none 0 0] from Blk.new (v5_3) 54 #[.int .i64 0, .int .i64 0, .int .i64 0, .string ⟨#[]⟩, .int .i64 0, .int .i64 0, .int .i64 0, .int .i64 0, .int .i64 0, .int .i64 0, .int .i64 0, .int .i64 0, .int .i64 0, .slice none 0 0])
          have HGE := Lib.hid (show w2.heap.size ≤ v5_3.heap.size from hHeld.size)
          have HTB := Lib.hid (show ∀ k, Rg v5_2.heap.size v5_3.heap.size k → w2.heap.size ≤ k ∧ k ≠ v5_3.heap.size from fun k hk => ⟨Nat.le_trans hHeld0.out.size hk.1, by have := hk.2; omega⟩)
          have hPre := Lib.hid hHeld
          refine hK.out _ _ (hHeld.trans (hb.mono hHeld.size)) (fun hHeld => ?_)
          clear hK K hb
          refine rd1 7 (fun K hK => ?_)
          go_simp
          refine hK.out _ _ (hPre.out.alloc HGE.out (.cells #[.int .i64 dx0, .int .i64 dx1, .int .i64 dx2, .string dx3, .int .i64 dx4, .int .i64 dx5, .int .i64 dx6, .int .i64 dx7, .int .i64 dx8, .int .i64 dx9, .int .i64 dx10, .int .i64 dx11, .int .i64 dx12, .slice ra05_3 dL0.length rc05_3] 54)) (fun hHeld => ?_)
          clear hK K
          refine rd0 ?_
          go_wp2_with fail
          go_meet
          exact ⟨_, _, _, _, rfl, Lib.hid (Blk.new v5_3 54 #[.int .i64 dx0, .int .i64 dx1, .int .i64 dx2, .string dx3, .int .i64 dx4, .int .i64 dx5, .int .i64 dx6, .int .i64 dx7, .int .i64 dx8, .int .i64 dx9, .int .i64 dx10, .int .i64 dx11, .int .i64 dx12, .slice ra05_3 dL0.length rc05_3]), Lib.hid (OW0.out.mv R_Task_ok ((Below.refl _ _).alloc (Nat.le_refl _) (.cells #[.int .i64 dx0, .int .i64 dx1, .int .i64 dx2, .string dx3, .int .i64 dx4, .int .i64 dx5, .int .i64 dx6, .int .i64 dx7, .int .i64 dx8, .int .i64 dx9, .int .i64 dx10, .int .i64 dx11, .int .i64 dx12, .slice ra05_3 dL0.length rc05_3] 54))), HTB, HGE, Lib.hid hHeld⟩
        · skip
          go_simp
          have hb : Below (v5_2).heap.size (v5_2) (v5_2.alloc (.cells #[.int .i64 0, .int .i64 0, .int .i64 0, .string ⟨#[]⟩, .int .i64 0, .int .i64 0, .int .i64 0, .int .i64 0, .int .i64 0, .int .i64 0, .int .i64 0, .int .i64 0, .int .i64 0, .slice none 0 0] 54)) := (Below.refl _ _).alloc (Nat.le_refl _) _
          have NL := Lib.hid (NL.out.mv (Sl_ok R_Task_ok) hb)
          have GB := Lib.hid (show Blk (v5_2.alloc (.cells #[.int .i64 0, .int .i64 0, .int .i64 0, .string ⟨#[]⟩, .int .i64 0, .int .i64 0, .int .i64 0, .int .i64 0, .int .i64 0, .int .i64 0, .int .i64 0, .int .i64 0, .int .i64 0, .slice none 0 0] 54)) v5_2.heap.size 54 #[.int .i64 0, .int .i64 0, .int .i64 0, .string ⟨#[]⟩, .int .i64 0, .int .i64 0, .int .i64 0, .int .i64 0, .int .i64 0, .int .i64 0, .int .i64 0, .int .i64 0, .int .i64 0, .slice none 0 0] from Blk.new (v5_2) 54 #[.int .i64 0, .int .i64 0, .int .i64 0, .string ⟨#[]⟩, .int .i64 0, .int .i64 0, .int .i64 0, .int .i64 0, .int .i64 0, .int .i64 0, .int .i64 0, .int .i64 0, .int .i64 0, .slice none 0 0])
          have HGE := Lib.hid (show w2.heap.size ≤ v5_2.heap.size from hHeld.size)
          refine hK.out _ _ (hHeld.trans (hb.mono hHeld.size)) (fun hHeld => ?_)
          clear hK K hb
          have GBl := Lib.hid (show v5_2.heap.size < (v5_2.alloc (.cells #[.int .i64 0, .int .i64 0, .int .i64 0, .string ⟨#[]⟩, .int .i64 0, .int .i64 0, .int .i64 0, .int .i64 0, .int .i64 0, .int .i64 0, .int .i64 0, .int .i64 0, .int .i64 0, .slice none 0 0] 54)).heap.size from GB.out.lt)
          refine rd1 5 (fun K hK => ?_)
          go_simp
          go_at_call 26
          refine (gtaskof_spec HSZL.out (NL.out.rd (Sl_ok R_Task_ok))).mono ?_
          intro e v5_4 h
          rw [HDD.out] at h
          obtain ⟨us, rfl, hu, hb⟩ := newV_elim h
          obtain ⟨ra05_4, rc05_4, rfl, hu⟩ := owc_Task hu
          have hHeld0 := Lib.hid hHeld
          have GB := Lib.hid (GB.out.call hb)
          have OW := Lib.hid (owG_new hu)
          have HTB := Lib.hid (show ∀ k, Rg (v5_2.alloc (.cells #[.int .i64 0, .int .i64 0, .int .i64 0, .string ⟨#[]⟩, .int .i64 0, .int .i64 0, .int .i64 0, .int .i64 0, .int .i64 0, .int .i64 0, .int .i64 0, .int .i64 0, .int .i64 0, .slice none 0 0] 54)).heap.size v5_4.heap.size k → w2.heap.size ≤ k ∧ k ≠ v5_2.heap.size from fun k hk => ⟨Nat.le_trans hHeld.size hk.1, by have h1 := hk.1; have h2 := GBl.out; omega⟩)
          clear h hu NL
          refine hK.out _ _ (hHeld.trans (hb.mono hHeld.size)) (fun hHeld => ?_)
          clear hK K hb
          have GBl := Lib.hid (show v5_2.heap.size < v5_4.heap.size from GB.out.lt)
          refine rd1 7 (fun K hK => ?_)
          have q0 := GB.out.at_ 0 rfl
          have f0 := GB.out.soft 0
          have q1 := GB.out.at_ 1 rfl
          have f1 := GB.out.soft 1
          have q2 := GB.out.at_ 2 rfl
          have f2 := GB.out.soft 2
          have q3 := GB.out.at_ 3 rfl
          have f3 := GB.out.soft 3
          have q4 := GB.out.at_ 4 rfl
          have f4 := GB.out.soft 4
          have q5 := GB.out.at_ 5 rfl
          have f5 := GB.out.soft 5
          have q6 := GB.out.at_ 6 rfl
          have f6 := GB.out.soft 6
          have q7 := GB.out.at_ 7 rfl
          have f7 := GB.out.soft 7
          have q8 := GB.out.at_ 8 rfl
          have f8 := GB.out.soft 8
          have q9 := GB.out.at_ 9 rfl
          have f9 := GB.out.soft 9
          have q10 := GB.out.at_ 10 rfl
          have f10 := GB.out.soft 10
          have q11 := GB.out.at_ 11 rfl
          have f11 := GB.out.soft 11
          have q12 := GB.out.at_ 12 rfl
          have f12 := GB.out.soft 12
          have q13 := GB.out.at_ 13 rfl
          have f13 := GB.out.soft 13
          go_simp
          refine hK.out _ _ ((((((((((((((hHeld.setCell (p := ⟨v5_2.heap.size, 0, none⟩) (by exact HGE.out) (.int .i64 dx0)).setCell (p := ⟨v5_2.heap.size, 1, none⟩) (by exact HGE.out) (.int .i64 dx1)).setCell (p := ⟨v5_2.heap.size, 2, none⟩) (by exact HGE.out) (.int .i64 dx2)).setCell (p := ⟨v5_2.heap.size, 3, none⟩) (by exact HGE.out) (.string dx3)).setCell (p := ⟨v5_2.heap.size, 4, none⟩) (by exact HGE.out) (.int .i64 dx4)).setCell (p := ⟨v5_2.heap.size, 5, none⟩) (by exact HGE.out) (.int .i64 dx5)).setCell (p := ⟨v5_2.heap.size, 6, none⟩) (by exact HGE.out) (.int .i64 dx6)).setCell (p := ⟨v5_2.heap.size, 7, none⟩) (by exact HGE.out) (.int .i64 dx7)).setCell (p := ⟨v5_2.heap.size, 8, none⟩) (by exact HGE.out) (.int .i64 dx8)).setCell (p := ⟨v5_2.heap.size, 9, none⟩) (by exact HGE.out) (.int .i64 dx9)).setCell (p := ⟨v5_2.heap.size, 10, none⟩) (by exact HGE.out) (.int .i64 dx10)).setCell (p := ⟨v5_2.heap.size, 11, none⟩) (by exact HGE.out) (.int .i64 dx11)).setCell (p := ⟨v5_2.heap.size, 12, none⟩) (by exact HGE.out) (.int .i64 dx12)).setCell (p := ⟨v5_2.heap.size, 13, none⟩) (by exact HGE.out) (.slice ra05_4 dL0.length rc05_4)) (fun hHeld => ?_)
          clear hK K q0 f0 q1 f1 q2 f2 q3 f3 q4 f4 q5 f5 q6 f6 q7 f7 q8 f8 q9 f9 q10 f10 q11 f11 q12 f12 q13 f13
          refine rd0 ?_
          go_wp2_with fail
          go_meet
          exact ⟨_, _, _, _, rfl, Lib.hid (sets_Task GB.out), Lib.hid (OW.out.off R_Task_ok (soff_Task _ _ _ _ _ _ _ _ _ _ _ _ _ _ _ _) (fun k hk h2 => (HTB.out k hk).2 h2)), HTB, HGE, Lib.hid hHeld⟩
      · skip
        go_simp
        have hb : Below (v5_1).heap.size (v5_1) (v5_1.alloc (.cells #[.int .i64 0, .int .i64 0, .int .i64 0, .string ⟨#[]⟩, .int .i64 0, .int .i64 0, .int .i64 0, .int .i64 0, .int .i64 0, .int .i64 0, .int .i64 0, .int .i64 0, .int .i64 0, .slice none 0 0] 54)) := (Below.refl _ _).alloc (Nat.le_refl _) _
        have NL := Lib.hid (NL.out.mv (Sl_ok R_Task_ok) hb)
        have GB := Lib.hid (show Blk (v5_1.alloc (.cells #[.int .i64 0, .int .i64 0, .int .i64 0, .string ⟨#[]⟩, .int .i64 0, .int .i64 0, .int .i64 0, .int .i64 0, .int .i64 0, .int .i64 0, .int .i64 0, .int .i64 0, .int .i64 0, .slice none 0 0] 54)) v5_1.heap.size 54 #[.int .i64 0, .int .i64 0, .int .i64 0, .string ⟨#[]⟩, .int .i64 0, .int .i64 0, .int .i64 0, .int .i64 0, .int .i64 0, .int .i64 0, .int .i64 0, .int .i64 0, .int .i64 0, .slice none 0 0] from Blk.new (v5_1) 54 #[.int .i64 0, .int .i64 0, .int .i64 0, .string ⟨#[]⟩, .int .i64 0, .int .i64 0, .int .i64 0, .int .i64 0, .int .i64 0, .int .i64 0, .int .i64 0, .int .i64 0, .int .i64 0, .slice none 0 0])
        have HGE := Lib.hid (show w2.heap.size ≤ v5_1.heap.size from hHeld.size)
        refine hK.out _ _ (hHeld.trans (hb.mono hHeld.size)) (fun hHeld => ?_)
        clear hK K hb
        have GBl := Lib.hid (show v5_1.heap.size < (v5_1.alloc (.cells #[.int .i64 0, .int .i64 0, .int .i64 0, .string ⟨#[]⟩, .int .i64 0, .int .i64 0, .int .i64 0, .int .i64 0, .int .i64 0, .int .i64 0, .int .i64 0, .int .i64 0, .int .i64 0, .slice none 0 0] 54)).heap.size from GB.out.lt)
        refine rd1 3 (fun K hK => ?_)
        go_simp
        go_at_call 12
        refine (to_Label (by simp only [R_Label, Pr, I, atom] <;> omega)).mono ?_
        intro e v5_5 h
        obtain ⟨us, rfl, hu, hb⟩ := newV_elim h
        obtain rfl := ow0_Label hu
        have NL := Lib.hid (NL.out.mv (Sl_ok R_Task_ok) hb)
        have GB := Lib.hid (GB.out.call hb)
        clear h hu
        refine hK.out _ _ (hHeld.trans (hb.mono hHeld.size)) (fun hHeld => ?_)
        clear hK K hb
        have GBl := Lib.hid (show v5_1.heap.size < v5_5.heap.size from GB.out.lt)
        refine rd1 5 (fun K hK => ?_)
        go_simp
        go_at_call 26
        refine (gtaskof_spec HSZL.out (NL.out.rd (Sl_ok R_Task_ok))).mono ?_
        intro e v5_6 h
        rw [HDD.out] at h
        obtain ⟨us, rfl, hu, hb⟩ := newV_elim h
        obtain ⟨ra05_6, rc05_6, rfl, hu⟩ := owc_Task hu
        have hHeld0 := Lib.hid hHeld
        have GB := Lib.hid (GB.out.call hb)
        have OW := Lib.hid (owG_new hu)
        have HTB := Lib.hid (show ∀ k, Rg v5_5.heap.size v5_6.heap.size k → w2.heap.size ≤ k ∧ k ≠ v5_1.heap.size from fun k hk => ⟨Nat.le_trans hHeld.size hk.1, by have h1 := hk.1; have h2 := GBl.out; omega⟩)
        clear h hu NL
        refine hK.out _ _ (hHeld.trans (hb.mono hHeld.size)) (fun hHeld => ?_)
        clear hK K hb
        have GBl := Lib.hid (show v5_1.heap.size < v5_6.heap.size from GB.out.lt)
        refine rd1 7 (fun K hK => ?_)
        have q0 := GB.out.at_ 0 rfl
        have f0 := GB.out.soft 0
        have q1 := GB.out.at_ 1 rfl
        have f1 := GB.out.soft 1
        have q2 := GB.out.at_ 2 rfl
        have f2 := GB.out.soft 2
        have q3 := GB.out.at_ 3 rfl
        have f3 := GB.out.soft 3
        have q4 := GB.out.at_ 4 rfl
        have f4 := GB.out.soft 4
        have q5 := GB.out.at_ 5 rfl
        have f5 := GB.out.soft 5
        have q6 := GB.out.at_ 6 rfl
        have f6 := GB.out.soft 6
        have q7 := GB.out.at_ 7 rfl
        have f7 := GB.out.soft 7
        have q8 := GB.out.at_ 8 rfl
        have f8 := GB.out.soft 8
        have q9 := GB.out.at_ 9 rfl
        have f9 := GB.out.soft 9
        have q10 := GB.out.at_ 10 rfl
        have f10 := GB.out.soft 10
        have q11 := GB.out.at_ 11 rfl
        have f11 := GB.out.soft 11
        have q12 := GB.out.at_ 12 rfl
        have f12 := GB.out.soft 12
        have q13 := GB.out.at_ 13 rfl
        have f13 := GB.out.soft 13
        go_simp
        refine hK.out _ _ ((((((((((((((hHeld.setCell (p := ⟨v5_1.heap.size, 0, none⟩) (by exact HGE.out) (.int .i64 dx0)).setCell (p := ⟨v5_1.heap.size, 1, none⟩) (by exact HGE.out) (.int .i64 dx1)).setCell (p := ⟨v5_1.heap.size, 2, none⟩) (by exact HGE.out) (.int .i64 dx2)).setCell (p := ⟨v5_1.heap.size, 3, none⟩) (by exact HGE.out) (.string dx3)).setCell (p := ⟨v5_1.heap.size, 4, none⟩) (by exact HGE.out) (.int .i64 dx4)).setCell (p := ⟨v5_1.heap.size, 5, none⟩) (by exact HGE.out) (.int .i64 dx5)).setCell (p := ⟨v5_1.heap.size, 6, none⟩) (by exact HGE.out) (.int .i64 dx6)).setCell (p := ⟨v5_1.heap.size, 7, none⟩) (by exact HGE.out) (.int .i64 dx7)).setCell (p := ⟨v5_1.heap.size, 8, none⟩) (by exact HGE.out) (.int .i64 dx8)).setCell (p := ⟨v5_1.heap.size, 9, none⟩) (by exact HGE.out) (.int .i64 dx9)).setCell (p := ⟨v5_1.heap.size, 10, none⟩) (by exact HGE.out) (.int .i64 dx10)).setCell (p := ⟨v5_1.heap.size, 11, none⟩) (by exact HGE.out) (.int .i64 dx11)).setCell (p := ⟨v5_1.heap.size, 12, none⟩) (by exact HGE.out) (.int .i64 dx12)).setCell (p := ⟨v5_1.heap.size, 13, none⟩) (by exact HGE.out) (.slice ra05_6 dL0.length rc05_6)) (fun hHeld => ?_)
        clear hK K q0 f0 q1 f1 q2 f2 q3 f3 q4 f4 q5 f5 q6 f6 q7 f7 q8 f8 q9 f9 q10 f10 q11 f11 q12 f12 q13 f13
        refine rd0 ?_
        go_wp2_with fail
        go_meet
        exact ⟨_, _, _, _, rfl, Lib.hid (sets_Task GB.out), Lib.hid (OW.out.off R_Task_ok (soff_Task _ _ _ _ _ _ _ _ _ _ _ _ _ _ _ _) (fun k hk h2 => (HTB.out k hk).2 h2)), HTB, HGE, Lib.hid hHeld⟩
    · skip
      go_simp
      have hb : Below (w2.drew).heap.size (w2.drew) ((w2.drew).alloc (.cells #[.int .i64 0, .int .i64 0, .int .i64 0, .string ⟨#[]⟩, .int .i64 0, .int .i64 0, .int .i64 0, .int .i64 0, .int .i64 0, .int .i64 0, .int .i64 0, .int .i64 0, .int .i64 0, .slice none 0 0] 54)) := (Below.refl _ _).alloc (Nat.le_refl _) _
      have GB := Lib.hid (show Blk ((w2.drew).alloc (.cells #[.int .i64 0, .int .i64 0, .int .i64 0, .string ⟨#[]⟩, .int .i64 0, .int .i64 0, .int .i64 0, .int .i64 0, .int .i64 0, .int .i64 0, .int .i64 0, .int .i64 0, .int .i64 0, .slice none 0 0] 54)) w2.heap.size 54 #[.int .i64 0, .int .i64 0, .int .i64 0, .string ⟨#[]⟩, .int .i64 0, .int .i64 0, .int .i64 0, .int .i64 0, .int .i64 0, .int .i64 0, .int .i64 0, .int .i64 0, .int .i64 0, .slice none 0 0] from Blk.new (w2.drew) 54 #[.int .i64 0, .int .i64 0, .int .i64 0, .string ⟨#[]⟩, .int .i64 0, .int .i64 0, .int .i64 0, .int .i64 0, .int .i64 0, .int .i64 0, .int .i64 0, .int .i64 0, .int .i64 0, .slice none 0 0])
      have HGE := Lib.hid (show w2.heap.size ≤ w2.heap.size from hHeld.size)
      refine hK.out _ _ (hHeld.trans (hb.mono hHeld.size)) (fun hHeld => ?_)
      clear hK K hb
      have GBl := Lib.hid (show w2.heap.size < ((w2.drew).alloc (.cells #[.int .i64 0, .int .i64 0, .int .i64 0, .string ⟨#[]⟩, .int .i64 0, .int .i64 0, .int .i64 0, .int .i64 0, .int .i64 0, .int .i64 0, .int .i64 0, .int .i64 0, .int .i64 0, .slice none 0 0] 54)).heap.size from GB.out.lt)
      refine rd1 1 (fun K hK => ?_)
      go_simp
      go_at_call 23
      refine (gto_TaskS HSZL.out (gmv (Sl_ok R_Task_ok) HL_2.out hHeld)).mono ?_
      intro e v5_7 h
      obtain ⟨aL_5_7, cL_5_7, rfl, hu, hb⟩ := newS_elim2 h
      have GB := Lib.hid (GB.out.call hb)
      have NL := Lib.hid (owG_new hu)
      clear h hu
      refine hK.out _ _ (hHeld.trans (hb.mono hHeld.size)) (fun hHeld => ?_)
      clear hK K hb
      have GBl := Lib.hid (show w2.heap.size < v5_7.heap.size from GB.out.lt)
      refine rd1 3 (fun K hK => ?_)
      go_simp
      go_at_call 12
      refine (to_Label (by simp only [R_Label, Pr, I, atom] <;> omega)).mono ?_
      intro e v5_8 h
      obtain ⟨us, rfl, hu, hb⟩ := newV_elim h
      obtain rfl := ow0_Label hu
      have NL := Lib.hid (NL.out.mv (Sl_ok R_Task_ok) hb)
      have GB := Lib.hid (GB.out.call hb)
      clear h hu
      refine hK.out _ _ (hHeld.trans (hb.mono hHeld.size)) (fun hHeld => ?_)
      clear hK K hb
      have GBl := Lib.hid (show w2.heap.size < v5_8.heap.size from GB.out.lt)
      refine rd1 5 (fun K hK => ?_)
      go_simp
      go_at_call 26
      refine (gtaskof_spec HSZL.out (NL.out.rd (Sl_ok R_Task_ok))).mono ?_
      intro e v5_9 h
      rw [HDD.out] at h
      obtain ⟨us, rfl, hu, hb⟩ := newV_elim h
      obtain ⟨ra05_9, rc05_9, rfl, hu⟩ := owc_Task hu
      have hHeld0 := Lib.hid hHeld
      have GB := Lib.hid (GB.out.call hb)
      have OW := Lib.hid (owG_new hu)
      have HTB := Lib.hid (show ∀ k, Rg v5_8.heap.size v5_9.heap.size k → w2.heap.size ≤ k ∧ k ≠ w2.heap.size from fun k hk => ⟨Nat.le_trans hHeld.size hk.1, by have h1 := hk.1; have h2 := GBl.out; omega⟩)
      clear h hu NL
      refine hK.out _ _ (hHeld.trans (hb.mono hHeld.size)) (fun hHeld => ?_)
      clear hK K hb
      have GBl := Lib.hid (show w2.heap.size < v5_9.heap.size from GB.out.lt)
      refine rd1 7 (fun K hK => ?_)
      have q0 := GB.out.at_ 0 rfl
      have f0 := GB.out.soft 0
      have q1 := GB.out.at_ 1 rfl
      have f1 := GB.out.soft 1
      have q2 := GB.out.at_ 2 rfl
      have f2 := GB.out.soft 2
      have q3 := GB.out.at_ 3 rfl
      have f3 := GB.out.soft 3
      have q4 := GB.out.at_ 4 rfl
      have f4 := GB.out.soft 4
      have q5 := GB.out.at_ 5 rfl
      have f5 := GB.out.soft 5
      have q6 := GB.out.at_ 6 rfl
      have f6 := GB.out.soft 6
      have q7 := GB.out.at_ 7 rfl
      have f7 := GB.out.soft 7
      have q8 := GB.out.at_ 8 rfl
      have f8 := GB.out.soft 8
      have q9 := GB.out.at_ 9 rfl
      have f9 := GB.out.soft 9
      have q10 := GB.out.at_ 10 rfl
      have f10 := GB.out.soft 10
      have q11 := GB.out.at_ 11 rfl
      have f11 := GB.out.soft 11
      have q12 := GB.out.at_ 12 rfl
      have f12 := GB.out.soft 12
      have q13 := GB.out.at_ 13 rfl
      have f13 := GB.out.soft 13
      go_simp
      refine hK.out _ _ ((((((((((((((hHeld.setCell (p := ⟨w2.heap.size, 0, none⟩) (by exact HGE.out) (.int .i64 dx0)).setCell (p := ⟨w2.heap.size, 1, none⟩) (by exact HGE.out) (.int .i64 dx1)).setCell (p := ⟨w2.heap.size, 2, none⟩) (by exact HGE.out) (.int .i64 dx2)).setCell (p := ⟨w2.heap.size, 3, none⟩) (by exact HGE.out) (.string dx3)).setCell (p := ⟨w2.heap.size, 4, none⟩) (by exact HGE.out) (.int .i64 dx4)).setCell (p := ⟨w2.heap.size, 5, none⟩) (by exact HGE.out) (.int .i64 dx5)).setCell (p := ⟨w2.heap.size, 6, none⟩) (by exact HGE.out) (.int .i64 dx6)).setCell (p := ⟨w2.heap.size, 7, none⟩) (by exact HGE.out) (.int .i64 dx7)).setCell (p := ⟨w2.heap.size, 8, none⟩) (by exact HGE.out) (.int .i64 dx8)).setCell (p := ⟨w2.heap.size, 9, none⟩) (by exact HGE.out) (.int .i64 dx9)).setCell (p := ⟨w2.heap.size, 10, none⟩) (by exact HGE.out) (.int .i64 dx10)).setCell (p := ⟨w2.heap.size, 11, none⟩) (by exact HGE.out) (.int .i64 dx11)).setCell (p := ⟨w2.heap.size, 12, none⟩) (by exact HGE.out) (.int .i64 dx12)).setCell (p := ⟨w2.heap.size, 13, none⟩) (by exact HGE.out) (.slice ra05_9 dL0.length rc05_9)) (fun hHeld => ?_)
      clear hK K q0 f0 q1 f1 q2 f2 q3 f3 q4 f4 q5 f5 q6 f6 q7 f7 q8 f8 q9 f9 q10 f10 q11 f11 q12 f12 q13 f13
      refine rd0 ?_
      go_wp2_with fail
      go_meet
      exact ⟨_, _, _, _, rfl, Lib.hid (sets_Task GB.out), Lib.hid (OW.out.off R_Task_ok (soff_Task _ _ _ _ _ _ _ _ _ _ _ _ _ _ _ _) (fun k hk h2 => (HTB.out k hk).2 h2)), HTB, HGE, Lib.hid hHeld⟩
  case rest =>
    obtain ⟨gw, ra0w, rc0w, Sw, rfl, HX8, HO8, HT8, HG8, hcb⟩ := hcut
    rename World => w3
    have hb := hcb.out
    have PX_3 := Lib.hid (PX_2.out.call hb)
    have HL_3 := Lib.hid (gmv (Sl_ok R_Task_ok) HL_2.out hb)
    have HB3 := Lib.hid (HB2.out.trans ((hb).mono HB2.out.size))
    have HZ3 := Lib.hid ((hb).size)
    clear PX_2 HL_2 HB2
    clear hb hcb
    have Bw_3 := HX8
    have Yw_3 := HO8
    have HTw := HT8
    have HGw := HG8
    clear HX8 HO8 HT8 HG8
    have HSw := Lib.hid (fun k (hk : Sw k) => (⟨(HTw.out k hk).1, Yw_3.out.2 k hk⟩ : w2.heap.size ≤ k ∧ k < w3.heap.size))
    have HGLw := Lib.hid (show gw < w3.heap.size from Bw_3.out.lt)
    go_wp2_with fail
    refine (gto_TaskS HSZL.out HL_3.out).mono ?_
    intro e w4 h
    obtain ⟨aL4, cL4, rfl, hu, hb⟩ := newS_elim2 h
    have PX_4 := Lib.hid (PX_3.out.call hb)
    have Bw_4 := Lib.hid (Bw_3.out.call hb)
    have HL_4 := Lib.hid (gmv (Sl_ok R_Task_ok) HL_3.out hb)
    have Yw_4 := Lib.hid (Yw_3.out.mv R_Task_ok hb)
    have HB4 := Lib.hid (HB3.out.trans ((hb).mono HB3.out.size))
    have HZ4 := Lib.hid ((hb).size)
    clear PX_3 Bw_3 HL_3 Yw_3 HB3
    have X_4 := Lib.hid (owG_new hu)
    have HSX := Lib.hid (fun k (hk : Rg w3.heap.size w4.heap.size k) => hk)
    clear hu
    clear h hb
    have qPX_0 := PX_4.out.at_ 0 rfl
    have qPX_1 := PX_4.out.at_ 1 rfl
    go_wp2_with fail
    refine (to_Label (by simp only [R_Label, Pr, I, atom] <;> omega)).mono ?_
    intro e w5 h
    obtain ⟨us, rfl, hu, hb⟩ := newV_elim h
    obtain rfl := ow0_Label hu
    clear qPX_0 qPX_1
    have PX_5 := Lib.hid (PX_4.out.call hb)
    have Bw_5 := Lib.hid (Bw_4.out.call hb)
    have HL_5 := Lib.hid (gmv (Sl_ok R_Task_ok) HL_4.out hb)
    have Yw_5 := Lib.hid (Yw_4.out.mv R_Task_ok hb)
    have X_5 := Lib.hid (X_4.out.mv (Sl_ok R_Task_ok) hb)
    have HB5 := Lib.hid (HB4.out.trans ((hb).mono HB4.out.size))
    have HZ5 := Lib.hid ((hb).size)
    clear PX_4 Bw_4 HL_4 Yw_4 X_4 HB4
    clear h hb
    go_wp2_with fail
    refine (gtaskof_impl HSZL.out (X_5.out.rd (Sl_ok R_Task_ok))).mono ?_
    intro e w6 h
    rw [HDD.out] at h
    obtain ⟨us, rfl, hu, hb⟩ := newV_elim h
    obtain ⟨ra0g, rc0g, rfl, hu⟩ := owc_Task hu
    have PX_6 := Lib.hid (PX_5.out.call hb)
    have Bw_6 := Lib.hid (Bw_5.out.call hb)
    have HL_6 := Lib.hid (gmv (Sl_ok R_Task_ok) HL_5.out hb)
    have Yw_6 := Lib.hid (Yw_5.out.mv R_Task_ok hb)
    have X_6 := Lib.hid (X_5.out.mv (Sl_ok R_Task_ok) hb)
    have HB6 := Lib.hid (HB5.out.trans ((hb).mono HB5.out.size))
    have HZ6 := Lib.hid ((hb).size)
    clear PX_5 Bw_5 HL_5 Yw_5 X_5 HB5
    have Yg_6 := Lib.hid (owG_new hu)
    have HSg := Lib.hid (fun k (hk : Rg w5.heap.size w6.heap.size k) => hk)
    clear hu
    clear h hb
    have hbA : Below (w6).heap.size (w6) (w6.alloc (.cells #[.int .i64 dx0, .int .i64 dx1, .int .i64 dx2, .string dx3, .int .i64 dx4, .int .i64 dx5, .int .i64 dx6, .int .i64 dx7, .int .i64 dx8, .int .i64 dx9, .int .i64 dx10, .int .i64 dx11, .int .i64 dx12, .slice ra0g dL0.length rc0g] 54)) := (Below.refl _ _).alloc (Nat.le_refl _) _
    have PX_7 := Lib.hid (PX_6.out.call hbA)
    have Bw_7 := Lib.hid (Bw_6.out.call hbA)
    have HL_7 := Lib.hid (gmv (Sl_ok R_Task_ok) HL_6.out hbA)
    have Yw_7 := Lib.hid (Yw_6.out.mv R_Task_ok hbA)
    have X_7 := Lib.hid (X_6.out.mv (Sl_ok R_Task_ok) hbA)
    have Yg_7 := Lib.hid (Yg_6.out.mv R_Task_ok hbA)
    have HB7 := Lib.hid (HB6.out.trans ((hbA).mono HB6.out.size))
    have HZ7 := Lib.hid ((hbA).size)
    clear PX_6 Bw_6 HL_6 Yw_6 X_6 Yg_6 HB6
    have Bg_7 := Blk.new (w6) 54 #[.int .i64 dx0, .int .i64 dx1, .int .i64 dx2, .string dx3, .int .i64 dx4, .int .i64 dx5, .int .i64 dx6, .int .i64 dx7, .int .i64 dx8, .int .i64 dx9, .int .i64 dx10, .int .i64 dx11, .int .i64 dx12, .slice ra0g dL0.length rc0g]
    have Bgh_7 := Lib.hid Bg_7
    clear Bg_7 hbA
    have HZ8 := Lib.hid ((show (w6.alloc (.cells #[.int .i64 dx0, .int .i64 dx1, .int .i64 dx2, .string dx3, .int .i64 dx4, .int .i64 dx5, .int .i64 dx6, .int .i64 dx7, .int .i64 dx8, .int .i64 dx9, .int .i64 dx10, .int .i64 dx11, .int .i64 dx12, .slice ra0g dL0.length rc0g] 54)).heap.size = w6.heap.size + 1 by simp))
    obtain ⟨wz7, hwz7⟩ : ∃ w, w = w6.alloc (.cells #[.int .i64 dx0, .int .i64 dx1, .int .i64 dx2, .string dx3, .int .i64 dx4, .int .i64 dx5, .int .i64 dx6, .int .i64 dx7, .int .i64 dx8, .int .i64 dx9, .int .i64 dx10, .int .i64 dx11, .int .i64 dx12, .slice ra0g dL0.length rc0g] 54) := ⟨_, rfl⟩
    rw [← hwz7] at PX_7 Bw_7 Bgh_7 HL_7 Yw_7 X_7 Yg_7 HB7 HZ7 HZ8
    have qBg_0 := Bgh_7.out.at_ 0 rfl
    have qBg_1 := Bgh_7.out.at_ 1 rfl
    have qBg_2 := Bgh_7.out.at_ 2 rfl
    have qBg_3 := Bgh_7.out.at_ 3 rfl
    have qBg_4 := Bgh_7.out.at_ 4 rfl
    have qBg_5 := Bgh_7.out.at_ 5 rfl
    have qBg_6 := Bgh_7.out.at_ 6 rfl
    have qBg_7 := Bgh_7.out.at_ 7 rfl
    have qBg_8 := Bgh_7.out.at_ 8 rfl
    have qBg_9 := Bgh_7.out.at_ 9 rfl
    have qBg_10 := Bgh_7.out.at_ 10 rfl
    have qBg_11 := Bgh_7.out.at_ 11 rfl
    have qBg_12 := Bgh_7.out.at_ 12 rfl
    have qBg_13 := Bgh_7.out.at_ 13 rfl
    have qBw_0 := Bw_7.out.at_ 0 rfl
    have qBw_1 := Bw_7.out.at_ 1 rfl
    have qBw_2 := Bw_7.out.at_ 2 rfl
    have qBw_3 := Bw_7.out.at_ 3 rfl
    have qBw_4 := Bw_7.out.at_ 4 rfl
    have qBw_5 := Bw_7.out.at_ 5 rfl
    have qBw_6 := Bw_7.out.at_ 6 rfl
    have qBw_7 := Bw_7.out.at_ 7 rfl
    have qBw_8 := Bw_7.out.at_ 8 rfl
    have qBw_9 := Bw_7.out.at_ 9 rfl
    have qBw_10 := Bw_7.out.at_ 10 rfl
    have qBw_11 := Bw_7.out.at_ 11 rfl
    have qBw_12 := Bw_7.out.at_ 12 rfl
    have qBw_13 := Bw_7.out.at_ 13 rfl
    have qBg_0_u := qBg_0
    rw [hwz7] at qBg_0_u
    have qBg_1_u := qBg_1
    rw [hwz7] at qBg_1_u
    have qBg_2_u := qBg_2
    rw [hwz7] at qBg_2_u
    have qBg_3_u := qBg_3
    rw [hwz7] at qBg_3_u
    have qBg_4_u := qBg_4
    rw [hwz7] at qBg_4_u
    have qBg_5_u := qBg_5
    rw [hwz7] at qBg_5_u
    have qBg_6_u := qBg_6
    rw [hwz7] at qBg_6_u
    have qBg_7_u := qBg_7
    rw [hwz7] at qBg_7_u
    have qBg_8_u := qBg_8
    rw [hwz7] at qBg_8_u
    have qBg_9_u := qBg_9
    rw [hwz7] at qBg_9_u
    have qBg_10_u := qBg_10
    rw [hwz7] at qBg_10_u
    have qBg_11_u := qBg_11
    rw [hwz7] at qBg_11_u
    have qBg_12_u := qBg_12
    rw [hwz7] at qBg_12_u
    have qBg_13_u := qBg_13
    rw [hwz7] at qBg_13_u
    have qBw_0_u := qBw_0
    rw [hwz7] at qBw_0_u
    have qBw_1_u := qBw_1
    rw [hwz7] at qBw_1_u
    have qBw_2_u := qBw_2
    rw [hwz7] at qBw_2_u
    have qBw_3_u := qBw_3
    rw [hwz7] at qBw_3_u
    have qBw_4_u := qBw_4
    rw [hwz7] at qBw_4_u
    have qBw_5_u := qBw_5
    rw [hwz7] at qBw_5_u
    have qBw_6_u := qBw_6
    rw [hwz7] at qBw_6_u
    have qBw_7_u := qBw_7
    rw [hwz7] at qBw_7_u
    have qBw_8_u := qBw_8
    rw [hwz7] at qBw_8_u
    have qBw_9_u := qBw_9
    rw [hwz7] at qBw_9_u
    have qBw_10_u := qBw_10
    rw [hwz7] at qBw_10_u
    have qBw_11_u := qBw_11
    rw [hwz7] at qBw_11_u
    have qBw_12_u := qBw_12
    rw [hwz7] at qBw_12_u
    have qBw_13_u := qBw_13
    rw [hwz7] at qBw_13_u
    go_wp2_with fail
    rw [← hwz7]
    clear hwz7
    refine (geq_Task (Yg_7.out.rd R_Task_ok) (Yw_7.out.rd R_Task_ok)).mono ?_
    intro e w8 h
    obtain ⟨rfl, hb⟩ := isB_elim h
    clear qBg_0 qBg_1 qBg_2 qBg_3 qBg_4 qBg_5 qBg_6 qBg_7 qBg_8 qBg_9 qBg_10 qBg_11 qBg_12 qBg_13 qBw_0 qBw_1 qBw_2 qBw_3 qBw_4 qBw_5 qBw_6 qBw_7 qBw_8 qBw_9 qBw_10 qBw_11 qBw_12 qBw_13 qBg_0_u qBg_1_u qBg_2_u qBg_3_u qBg_4_u qBg_5_u qBg_6_u qBg_7_u qBg_8_u qBg_9_u qBg_10_u qBg_11_u qBg_12_u qBg_13_u qBw_0_u qBw_1_u qBw_2_u qBw_3_u qBw_4_u qBw_5_u qBw_6_u qBw_7_u qBw_8_u qBw_9_u qBw_10_u qBw_11_u qBw_12_u qBw_13_u
    have PX_8 := Lib.hid (PX_7.out.call hb)
    have Bw_8 := Lib.hid (Bw_7.out.call hb)
    have Bg_8 := Lib.hid (Bgh_7.out.call hb)
    have HL_8 := Lib.hid (gmv (Sl_ok R_Task_ok) HL_7.out hb)
    have Yw_8 := Lib.hid (Yw_7.out.mv R_Task_ok hb)
    have X_8 := Lib.hid (X_7.out.mv (Sl_ok R_Task_ok) hb)
    have Yg_8 := Lib.hid (Yg_7.out.mv R_Task_ok hb)
    have HB8 := Lib.hid (HB7.out.trans ((hb).mono HB7.out.size))
    have HZ9 := Lib.hid ((hb).size)
    clear PX_7 Bw_7 Bgh_7 HL_7 Yw_7 X_7 Yg_7 HB7
    clear h hb
    go_wp2_with fail
    refine (gto_TaskS HSZL.out HL_8.out).mono ?_
    intro e w9 h
    obtain ⟨aL9, cL9, rfl, hu, hb⟩ := newS_elim2 h
    have PX_9 := Lib.hid (PX_8.out.call hb)
    have Bw_9 := Lib.hid (Bw_8.out.call hb)
    have Bg_9 := Lib.hid (Bg_8.out.call hb)
    have HL_9 := Lib.hid (gmv (Sl_ok R_Task_ok) HL_8.out hb)
    have Yw_9 := Lib.hid (Yw_8.out.mv R_Task_ok hb)
    have X_9 := Lib.hid (X_8.out.mv (Sl_ok R_Task_ok) hb)
    have Yg_9 := Lib.hid (Yg_8.out.mv R_Task_ok hb)
    have HB9 := Lib.hid (HB8.out.trans ((hb).mono HB8.out.size))
    have HZ10 := Lib.hid ((hb).size)
    clear PX_8 Bw_8 Bg_8 HL_8 Yw_8 X_8 Yg_8 HB8
    have NL_9 := Lib.hid (owG_new hu)
    clear hu
    clear h hb
    go_wp2_with fail
    refine (geq_TaskS (X_9.out.rd (Sl_ok R_Task_ok)) (NL_9.out.rd (Sl_ok R_Task_ok))).mono ?_
    intro e w10 h
    obtain ⟨rfl, hb⟩ := isB_elim h
    have PX_10 := Lib.hid (PX_9.out.call hb)
    have Bw_10 := Lib.hid (Bw_9.out.call hb)
    have Bg_10 := Lib.hid (Bg_9.out.call hb)
    have HL_10 := Lib.hid (gmv (Sl_ok R_Task_ok) HL_9.out hb)
    have Yw_10 := Lib.hid (Yw_9.out.mv R_Task_ok hb)
    have X_10 := Lib.hid (X_9.out.mv (Sl_ok R_Task_ok) hb)
    have Yg_10 := Lib.hid (Yg_9.out.mv R_Task_ok hb)
    have NL_10 := Lib.hid (NL_9.out.mv (Sl_ok R_Task_ok) hb)
    have HB10 := Lib.hid (HB9.out.trans ((hb).mono HB9.out.size))
    have HZ11 := Lib.hid ((hb).size)
    clear PX_9 Bw_9 Bg_9 HL_9 Yw_9 X_9 Yg_9 NL_9 HB9
    clear h hb
    clear NL_10
    go_wp2_with fail
    refine (gmark_TaskS (by omega) (by have h1 := HSAL.out; omega) X_10.out.2 X_10.out.1).mono ?_
    intro e wm h
    obtain ⟨dM, y1, rfl, hmv, hzz, ho, hoff⟩ := markG_elim h
    have HB11 := Lib.hid (HB10.out.trans (hoff.below HB10.out.size (fun k hk => by have zHZ2 := HZ2.out; have zHZ3 := HZ3.out; have zHZ4 := HZ4.out; have zHZ5 := HZ5.out; have zHZ6 := HZ6.out; have zHZ7 := HZ7.out; have zHZ8 := HZ8.out; have zHZ9 := HZ9.out; have zHZ10 := HZ10.out; have zHZ11 := HZ11.out; have yHPL := HPL.out; have yHGLw := HGLw.out; have yHGw := HGw.out; have rX := HSX.out _ hk; try unfold Rg at rX; omega)))
    have PX_11 := Lib.hid (PX_10.out.off hoff PX_10.out.lt (fun hk => by have zHZ2 := HZ2.out; have zHZ3 := HZ3.out; have zHZ4 := HZ4.out; have zHZ5 := HZ5.out; have zHZ6 := HZ6.out; have zHZ7 := HZ7.out; have zHZ8 := HZ8.out; have zHZ9 := HZ9.out; have zHZ10 := HZ10.out; have zHZ11 := HZ11.out; have yHPL := HPL.out; have yHGLw := HGLw.out; have yHGw := HGw.out; have rX := HSX.out _ hk; try unfold Rg at rX; omega))
    have Bw_11 := Lib.hid (Bw_10.out.off hoff Bw_10.out.lt (fun hk => by have zHZ2 := HZ2.out; have zHZ3 := HZ3.out; have zHZ4 := HZ4.out; have zHZ5 := HZ5.out; have zHZ6 := HZ6.out; have zHZ7 := HZ7.out; have zHZ8 := HZ8.out; have zHZ9 := HZ9.out; have zHZ10 := HZ10.out; have zHZ11 := HZ11.out; have yHPL := HPL.out; have yHGLw := HGLw.out; have yHGw := HGw.out; have rX := HSX.out _ hk; try unfold Rg at rX; omega))
    have Bg_11 := Lib.hid (Bg_10.out.off hoff Bg_10.out.lt (fun hk => by have zHZ2 := HZ2.out; have zHZ3 := HZ3.out; have zHZ4 := HZ4.out; have zHZ5 := HZ5.out; have zHZ6 := HZ6.out; have zHZ7 := HZ7.out; have zHZ8 := HZ8.out; have zHZ9 := HZ9.out; have zHZ10 := HZ10.out; have zHZ11 := HZ11.out; have yHPL := HPL.out; have yHGLw := HGLw.out; have yHGw := HGw.out; have rX := HSX.out _ hk; try unfold Rg at rX; omega))
    have HL_11 := Lib.hid (gmv (Sl_ok R_Task_ok) HL0.out HB11.out)
    have Yw_11 := Lib.hid (Yw_10.out.off R_Task_ok hoff (fun k hk hk2 => by have zHZ2 := HZ2.out; have zHZ3 := HZ3.out; have zHZ4 := HZ4.out; have zHZ5 := HZ5.out; have zHZ6 := HZ6.out; have zHZ7 := HZ7.out; have zHZ8 := HZ8.out; have zHZ9 := HZ9.out; have zHZ10 := HZ10.out; have zHZ11 := HZ11.out; have yHPL := HPL.out; have yHGLw := HGLw.out; have yHGw := HGw.out; have rX := HSX.out k hk2; try unfold Rg at rX; have rw := HSw.out k hk; try unfold Rg at rw; omega))
    have Yg_11 := Lib.hid (Yg_10.out.off R_Task_ok hoff (fun k hk hk2 => by have zHZ2 := HZ2.out; have zHZ3 := HZ3.out; have zHZ4 := HZ4.out; have zHZ5 := HZ5.out; have zHZ6 := HZ6.out; have zHZ7 := HZ7.out; have zHZ8 := HZ8.out; have zHZ9 := HZ9.out; have zHZ10 := HZ10.out; have zHZ11 := HZ11.out; have yHPL := HPL.out; have yHGLw := HGLw.out; have yHGw := HGw.out; have rX := HSX.out k hk2; try unfold Rg at rX; have rg := HSg.out k hk; try unfold Rg at rg; omega))
    have hkn : decide (y1 < 0) = false := decide_eq_false (by omega)
    have HZ12 := Lib.hid (hoff.size)
    clear h hmv hzz ho hoff
    have qBg_0 := Bg_11.out.at_ 0 rfl
    have qBg_1 := Bg_11.out.at_ 1 rfl
    have qBg_2 := Bg_11.out.at_ 2 rfl
    have qBg_3 := Bg_11.out.at_ 3 rfl
    have qBg_4 := Bg_11.out.at_ 4 rfl
    have qBg_5 := Bg_11.out.at_ 5 rfl
    have qBg_6 := Bg_11.out.at_ 6 rfl
    have qBg_7 := Bg_11.out.at_ 7 rfl
    have qBg_8 := Bg_11.out.at_ 8 rfl
    have qBg_9 := Bg_11.out.at_ 9 rfl
    have qBg_10 := Bg_11.out.at_ 10 rfl
    have qBg_11 := Bg_11.out.at_ 11 rfl
    have qBg_12 := Bg_11.out.at_ 12 rfl
    have qBg_13 := Bg_11.out.at_ 13 rfl
    have qBw_0 := Bw_11.out.at_ 0 rfl
    have qBw_1 := Bw_11.out.at_ 1 rfl
    have qBw_2 := Bw_11.out.at_ 2 rfl
    have qBw_3 := Bw_11.out.at_ 3 rfl
    have qBw_4 := Bw_11.out.at_ 4 rfl
    have qBw_5 := Bw_11.out.at_ 5 rfl
    have qBw_6 := Bw_11.out.at_ 6 rfl
    have qBw_7 := Bw_11.out.at_ 7 rfl
    have qBw_8 := Bw_11.out.at_ 8 rfl
    have qBw_9 := Bw_11.out.at_ 9 rfl
    have qBw_10 := Bw_11.out.at_ 10 rfl
    have qBw_11 := Bw_11.out.at_ 11 rfl
    have qBw_12 := Bw_11.out.at_ 12 rfl
    have qBw_13 := Bw_11.out.at_ 13 rfl
    go_wp2_with fail
    refine (geq_Task (Yg_11.out.rd R_Task_ok) (Yw_11.out.rd R_Task_ok)).mono ?_
    intro e w12 h
    obtain ⟨rfl, hb⟩ := isB_elim h
    clear qBg_0 qBg_1 qBg_2 qBg_3 qBg_4 qBg_5 qBg_6 qBg_7 qBg_8 qBg_9 qBg_10 qBg_11 qBg_12 qBg_13 qBw_0 qBw_1 qBw_2 qBw_3 qBw_4 qBw_5 qBw_6 qBw_7 qBw_8 qBw_9 qBw_10 qBw_11 qBw_12 qBw_13
    have PX_12 := Lib.hid (PX_11.out.call hb)
    have Bw_12 := Lib.hid (Bw_11.out.call hb)
    have Bg_12 := Lib.hid (Bg_11.out.call hb)
    have HL_12 := Lib.hid (gmv (Sl_ok R_Task_ok) HL_11.out hb)
    have Yw_12 := Lib.hid (Yw_11.out.mv R_Task_ok hb)
    have Yg_12 := Lib.hid (Yg_11.out.mv R_Task_ok hb)
    have HB12 := Lib.hid (HB11.out.trans ((hb).mono HB11.out.size))
    have HZ13 := Lib.hid ((hb).size)
    clear PX_11 Bw_11 Bg_11 HL_11 Yw_11 Yg_11 HB11
    clear h hb
    clear hkn
    have qBg_0 := Bg_12.out.at_ 0 rfl
    have qBg_1 := Bg_12.out.at_ 1 rfl
    have qBg_2 := Bg_12.out.at_ 2 rfl
    have qBg_3 := Bg_12.out.at_ 3 rfl
    have qBg_4 := Bg_12.out.at_ 4 rfl
    have qBg_5 := Bg_12.out.at_ 5 rfl
    have qBg_6 := Bg_12.out.at_ 6 rfl
    have qBg_7 := Bg_12.out.at_ 7 rfl
    have qBg_8 := Bg_12.out.at_ 8 rfl
    have qBg_9 := Bg_12.out.at_ 9 rfl
    have qBg_10 := Bg_12.out.at_ 10 rfl
    have qBg_11 := Bg_12.out.at_ 11 rfl
    have qBg_12 := Bg_12.out.at_ 12 rfl
    have qBg_13 := Bg_12.out.at_ 13 rfl
    go_wp2_with fail
    refine (gmark_Task (by omega) (by have h1 := HSM.out; omega) Yg_12.out.2 Yg_12.out.1).mono ?_
    intro e wn h
    obtain ⟨dN, zN, rfl, hmv, hzz, ho, hoff⟩ := markG_elim h
    clear qBg_0 qBg_1 qBg_2 qBg_3 qBg_4 qBg_5 qBg_6 qBg_7 qBg_8 qBg_9 qBg_10 qBg_11 qBg_12 qBg_13
    have HB13 := Lib.hid (HB12.out.trans (hoff.below HB12.out.size (fun k hk => by have zHZ2 := HZ2.out; have zHZ3 := HZ3.out; have zHZ4 := HZ4.out; have zHZ5 := HZ5.out; have zHZ6 := HZ6.out; have zHZ7 := HZ7.out; have zHZ8 := HZ8.out; have zHZ9 := HZ9.out; have zHZ10 := HZ10.out; have zHZ11 := HZ11.out; have zHZ12 := HZ12.out; have zHZ13 := HZ13.out; have yHPL := HPL.out; have yHGLw := HGLw.out; have yHGw := HGw.out; have rg := HSg.out _ hk; try unfold Rg at rg; omega)))
    have PX_13 := Lib.hid (PX_12.out.off hoff PX_12.out.lt (fun hk => by have zHZ2 := HZ2.out; have zHZ3 := HZ3.out; have zHZ4 := HZ4.out; have zHZ5 := HZ5.out; have zHZ6 := HZ6.out; have zHZ7 := HZ7.out; have zHZ8 := HZ8.out; have zHZ9 := HZ9.out; have zHZ10 := HZ10.out; have zHZ11 := HZ11.out; have zHZ12 := HZ12.out; have zHZ13 := HZ13.out; have yHPL := HPL.out; have yHGLw := HGLw.out; have yHGw := HGw.out; have rg := HSg.out _ hk; try unfold Rg at rg; omega))
    have Bw_13 := Lib.hid (Bw_12.out.off hoff Bw_12.out.lt (fun hk => by have zHZ2 := HZ2.out; have zHZ3 := HZ3.out; have zHZ4 := HZ4.out; have zHZ5 := HZ5.out; have zHZ6 := HZ6.out; have zHZ7 := HZ7.out; have zHZ8 := HZ8.out; have zHZ9 := HZ9.out; have zHZ10 := HZ10.out; have zHZ11 := HZ11.out; have zHZ12 := HZ12.out; have zHZ13 := HZ13.out; have yHPL := HPL.out; have yHGLw := HGLw.out; have yHGw := HGw.out; have rg := HSg.out _ hk; try unfold Rg at rg; omega))
    have Bg_13 := Lib.hid (Bg_12.out.off hoff Bg_12.out.lt (fun hk => by have zHZ2 := HZ2.out; have zHZ3 := HZ3.out; have zHZ4 := HZ4.out; have zHZ5 := HZ5.out; have zHZ6 := HZ6.out; have zHZ7 := HZ7.out; have zHZ8 := HZ8.out; have zHZ9 := HZ9.out; have zHZ10 := HZ10.out; have zHZ11 := HZ11.out; have zHZ12 := HZ12.out; have zHZ13 := HZ13.out; have yHPL := HPL.out; have yHGLw := HGLw.out; have yHGw := HGw.out; have rg := HSg.out _ hk; try unfold Rg at rg; omega))
    have HL_13 := Lib.hid (gmv (Sl_ok R_Task_ok) HL0.out HB13.out)
    have Yw_13 := Lib.hid (Yw_12.out.off R_Task_ok hoff (fun k hk hk2 => by have zHZ2 := HZ2.out; have zHZ3 := HZ3.out; have zHZ4 := HZ4.out; have zHZ5 := HZ5.out; have zHZ6 := HZ6.out; have zHZ7 := HZ7.out; have zHZ8 := HZ8.out; have zHZ9 := HZ9.out; have zHZ10 := HZ10.out; have zHZ11 := HZ11.out; have zHZ12 := HZ12.out; have zHZ13 := HZ13.out; have yHPL := HPL.out; have yHGLw := HGLw.out; have yHGw := HGw.out; have rg := HSg.out k hk2; try unfold Rg at rg; have rw := HSw.out k hk; try unfold Rg at rw; omega))
    have Yg_13 := Lib.hid (show OwG R_Task wn _ dN _ from ⟨ho, fun k hk => Nat.lt_of_lt_of_le (Yg_12.out.2 k hk) hoff.size⟩)
    have HMV := Lib.hid hmv
    have hzn : decide (zN < 0) = false := decide_eq_false (by omega)
    have hze : (zN != zN) = false := by simp
    have hzb : zN ≤ 4611686018427387904 := by have := HSM.out; omega
    have HZ14 := Lib.hid (hoff.size)
    clear h hmv hzz ho hoff
    have qBg_0 := Bg_13.out.at_ 0 rfl
    have qBg_1 := Bg_13.out.at_ 1 rfl
    have qBg_2 := Bg_13.out.at_ 2 rfl
    have qBg_3 := Bg_13.out.at_ 3 rfl
    have qBg_4 := Bg_13.out.at_ 4 rfl
    have qBg_5 := Bg_13.out.at_ 5 rfl
    have qBg_6 := Bg_13.out.at_ 6 rfl
    have qBg_7 := Bg_13.out.at_ 7 rfl
    have qBg_8 := Bg_13.out.at_ 8 rfl
    have qBg_9 := Bg_13.out.at_ 9 rfl
    have qBg_10 := Bg_13.out.at_ 10 rfl
    have qBg_11 := Bg_13.out.at_ 11 rfl
    have qBg_12 := Bg_13.out.at_ 12 rfl
    have qBg_13 := Bg_13.out.at_ 13 rfl
    go_wp2_with fail
    refine (gheld_Task (by omega) hzb HMV.out (Yg_13.out.rd R_Task_ok)).mono ?_
    intro e w14 h
    obtain ⟨rfl, hb⟩ := heldC_elim h
    clear qBg_0 qBg_1 qBg_2 qBg_3 qBg_4 qBg_5 qBg_6 qBg_7 qBg_8 qBg_9 qBg_10 qBg_11 qBg_12 qBg_13
    have PX_14 := Lib.hid (PX_13.out.call hb)
    have Bw_14 := Lib.hid (Bw_13.out.call hb)
    have Bg_14 := Lib.hid (Bg_13.out.call hb)
    have HL_14 := Lib.hid (gmv (Sl_ok R_Task_ok) HL_13.out hb)
    have Yw_14 := Lib.hid (Yw_13.out.mv R_Task_ok hb)
    have Yg_14 := Lib.hid (Yg_13.out.mv R_Task_ok hb)
    have HB14 := Lib.hid (HB13.out.trans ((hb).mono HB13.out.size))
    have HZ15 := Lib.hid ((hb).size)
    clear PX_13 Bw_13 Bg_13 HL_13 Yw_13 Yg_13 HB13
    clear h hb
    go_upto_region 24 with fail
    go_cut [14] (fun s8 wx => ∃ (gh : Nat) (ra0h : Option Addr) (rc0h : Nat) (Sh : Nat → Prop), s8 = .pointer (some ⟨gh, 0, none⟩) ∧ Hid (Blk wx gh 54 #[.int .i64 dx0, .int .i64 dx1, .int .i64 dx2, .string dx3, .int .i64 dx4, .int .i64 dx5, .int .i64 dx6, .int .i64 dx7, .int .i64 dx8, .int .i64 dx9, .int .i64 dx10, .int .i64 dx11, .int .i64 dx12, .slice ra0h dL0.length rc0h]) ∧ Hid (OwG R_Task wx Sh ((dx0, dx1), dx2, dx3, dx4, dx5, dx6, (dx7, dx8), dx9, dx10, dx11, dx12, dL0) [.int .i64 dx0, .int .i64 dx1, .int .i64 dx2, .string dx3, .int .i64 dx4, .int .i64 dx5, .int .i64 dx6, .int .i64 dx7, .int .i64 dx8, .int .i64 dx9, .int .i64 dx10, .int .i64 dx11, .int .i64 dx12, .slice ra0h dL0.length rc0h]) ∧ Hid (∀ k, Sh k → w14.heap.size ≤ k ∧ k ≠ gh) ∧ Hid (w14.heap.size ≤ gh) ∧ Hid (Below w14.heap.size w14 wx))
    case first =>
      refine wp_region_held_drew (S := (fun V => Below w14.heap.size w14 V)) (by kernel_rfl) ((Below.refl _ _).drew) (fun hHeld => ?_)
      refine tk 0 hHeld ?_
      refine tk 2 hHeld ?_ (hy := fun w hSw => by (try dsimp only at hSw); have k0 := (hSw.cell (p := ⟨W.heap.size, 0, none⟩) PX_14.out.lt).trans (PX_14.out.at_ 0 rfl); have k1 := (hSw.cell (p := ⟨W.heap.size, 1, none⟩) PX_14.out.lt).trans (PX_14.out.at_ 1 rfl); clear hSw; go_simp; try with_reducible rfl)
      refine tk 4 hHeld ?_
      refine rd2 1 6 (fun K hK => ?_) (fun K hK => ?_)
      · skip
        go_simp
        go_at_call 23
        refine (gto_TaskS HSZL.out (gmv (Sl_ok R_Task_ok) HL_14.out hHeld)).mono ?_
        intro e v24_1 h
        obtain ⟨aL_24_1, cL_24_1, rfl, hu, hb⟩ := newS_elim2 h
        have NL := Lib.hid (owG_new hu)
        clear h hu
        refine hK.out _ _ (hHeld.trans (hb.mono hHeld.size)) (fun hHeld => ?_)
        clear hK K hb
        refine rd2 3 6 (fun K hK => ?_) (fun K hK => ?_)
        · skip
          go_simp
          go_at_call 12
          refine (to_Label (by simp only [R_Label, Pr, I, atom] <;> omega)).mono ?_
          intro e v24_2 h
          obtain ⟨us, rfl, hu, hb⟩ := newV_elim h
          obtain rfl := ow0_Label hu
          have NL := Lib.hid (NL.out.mv (Sl_ok R_Task_ok) hb)
          clear h hu
          refine hK.out _ _ (hHeld.trans (hb.mono hHeld.size)) (fun hHeld => ?_)
          clear hK K hb
          refine rd2 5 6 (fun K hK => ?_) (fun K hK => ?_)
          · skip
            go_simp
            go_at_call 27
            refine (gtaskof_impl HSZL.out (NL.out.rd (Sl_ok R_Task_ok))).mono ?_
            intro e v24_3 h
            rw [HDD.out] at h
            obtain ⟨us, rfl, hu, hb⟩ := newV_elim h
            obtain ⟨ra024_3, rc024_3, rfl, hu⟩ := owc_Task hu
            have hHeld0 := Lib.hid hHeld
            have OW := Lib.hid (owG_new hu)
            clear h hu NL
            refine hK.out _ _ (hHeld.trans (hb.mono hHeld.size)) (fun hHeld => ?_)
            clear hK K hb
            refine rd1 6 (fun K hK => ?_)
            go_simp
            have hb : Below (v24_3).heap.size (v24_3) (v24_3.alloc (.cells #[.int .i64 0, .int .i64 0, .int .i64 0, .string ⟨#[]⟩, .int .i64 0, .int .i64 0, .int .i64 0, .int .i64 0, .int .i64 0, .int .i64 0, .int .i64 0, .int .i64 0, .int .i64 0, .slice none 0 0] 54)) := (Below.refl _ _).alloc (Nat.le_refl _) _
            have OW0 := OW
            have OW := Lib.hid (OW.out.mv R_Task_ok hb)
            have GB := Lib.hid (show Blk (v24_3.alloc (.cells #[.int .i64 0, .int .i64 0, .int .i64 0, .string ⟨#[]⟩, .int .i64 0, .int .i64 0, .int .i64 0, .int .i64 0, .int .i64 0, .int .i64 0, .int .i64 0, .int .i64 0, .int .i64 0, .slice none 0 0] 54)) v24_3.heap.size 54 #[.int .i64 0, .int .i64 0, .int .i64 0, .string ⟨#[]⟩, .int .i64 0, .int .i64 0, .int .i64 0, .int .i64 0, .int .i64 0, .int .i64 0, .int .i64 0, .int .i64 0, .int .i64 0, .slice none 0 0] from Blk.new (v24_3) 54 #[.int .i64 0, .int .i64 0, .int .i64 0, .string ⟨#[]⟩, .int .i64 0, .int .i64 0, .int .i64 0, .int .i64 0, .int .i64 0, .int .i64 0, .int .i64 0, .int .i64 0, .int .i64 0, .slice none 0 0])
            have HGE := Lib.hid (show w14.heap.size ≤ v24_3.heap.size from hHeld.size)
            have HTB := Lib.hid (show ∀ k, Rg v24_2.heap.size v24_3.heap.size k → w14.heap.size ≤ k ∧ k ≠ v24_3.heap.size from fun k hk => ⟨Nat.le_trans hHeld0.out.size hk.1, by have := hk.2; omega⟩)
            have hPre := Lib.hid hHeld
            refine hK.out _ _ (hHeld.trans (hb.mono hHeld.size)) (fun hHeld => ?_)
            clear hK K hb
            refine rd1 7 (fun K hK => ?_)
            go_simp
            refine hK.out _ _ (hPre.out.alloc HGE.out (.cells #[.int .i64 dx0, .int .i64 dx1, .int .i64 dx2, .string dx3, .int .i64 dx4, .int .i64 dx5, .int .i64 dx6, .int .i64 dx7, .int .i64 dx8, .int .i64 dx9, .int .i64 dx10, .int .i64 dx11, .int .i64 dx12, .slice ra024_3 dL0.length rc024_3] 54)) (fun hHeld => ?_)
            clear hK K
            refine rd0 ?_
            go_wp2_with fail
            go_meet
            exact ⟨_, _, _, _, rfl, Lib.hid (Blk.new v24_3 54 #[.int .i64 dx0, .int .i64 dx1, .int .i64 dx2, .string dx3, .int .i64 dx4, .int .i64 dx5, .int .i64 dx6, .int .i64 dx7, .int .i64 dx8, .int .i64 dx9, .int .i64 dx10, .int .i64 dx11, .int .i64 dx12, .slice ra024_3 dL0.length rc024_3]), Lib.hid (OW0.out.mv R_Task_ok ((Below.refl _ _).alloc (Nat.le_refl _) (.cells #[.int .i64 dx0, .int .i64 dx1, .int .i64 dx2, .string dx3, .int .i64 dx4, .int .i64 dx5, .int .i64 dx6, .int .i64 dx7, .int .i64 dx8, .int .i64 dx9, .int .i64 dx10, .int .i64 dx11, .int .i64 dx12, .slice ra024_3 dL0.length rc024_3] 54))), HTB, HGE, Lib.hid hHeld⟩
          · skip
            go_simp
            have hb : Below (v24_2).heap.size (v24_2) (v24_2.alloc (.cells #[.int .i64 0, .int .i64 0, .int .i64 0, .string ⟨#[]⟩, .int .i64 0, .int .i64 0, .int .i64 0, .int .i64 0, .int .i64 0, .int .i64 0, .int .i64 0, .int .i64 0, .int .i64 0, .slice none 0 0] 54)) := (Below.refl _ _).alloc (Nat.le_refl _) _
            have NL := Lib.hid (NL.out.mv (Sl_ok R_Task_ok) hb)
            have GB := Lib.hid (show Blk (v24_2.alloc (.cells #[.int .i64 0, .int .i64 0, .int .i64 0, .string ⟨#[]⟩, .int .i64 0, .int .i64 0, .int .i64 0, .int .i64 0, .int .i64 0, .int .i64 0, .int .i64 0, .int .i64 0, .int .i64 0, .slice none 0 0] 54)) v24_2.heap.size 54 #[.int .i64 0, .int .i64 0, .int .i64 0, .string ⟨#[]⟩, .int .i64 0, .int .i64 0, .int .i64 0, .int .i64 0, .int .i64 0, .int .i64 0, .int .i64 0, .int .i64 0, .int .i64 0, .slice none 0 0] from Blk.new (v24_2) 54 #[.int .i64 0, .int .i64 0, .int .i64 0, .string ⟨#[]⟩, .int .i64 0, .int .i64 0, .int .i64 0, .int .i64 0, .int .i64 0, .int .i64 0, .int .i64 0, .int .i64 0, .int .i64 0, .slice none 0 0])
            have HGE := Lib.hid (show w14.heap.size ≤ v24_2.heap.size from hHeld.size)
            refine hK.out _ _ (hHeld.trans (hb.mono hHeld.size)) (fun hHeld => ?_)
            clear hK K hb
            have GBl := Lib.hid (show v24_2.heap.size < (v24_2.alloc (.cells #[.int .i64 0, .int .i64 0, .int .i64 0, .string ⟨#[]⟩, .int .i64 0, .int .i64 0, .int .i64 0, .int .i64 0, .int .i64 0, .int .i64 0, .int .i64 0, .int .i64 0, .int .i64 0, .slice none 0 0] 54)).heap.size from GB.out.lt)
            refine rd1 5 (fun K hK => ?_)
            go_simp
            go_at_call 27
            refine (gtaskof_impl HSZL.out (NL.out.rd (Sl_ok R_Task_ok))).mono ?_
            intro e v24_4 h
            rw [HDD.out] at h
            obtain ⟨us, rfl, hu, hb⟩ := newV_elim h
            obtain ⟨ra024_4, rc024_4, rfl, hu⟩ := owc_Task hu
            have hHeld0 := Lib.hid hHeld
            have GB := Lib.hid (GB.out.call hb)
            have OW := Lib.hid (owG_new hu)
            have HTB := Lib.hid (show ∀ k, Rg (v24_2.alloc (.cells #[.int .i64 0, .int .i64 0, .int .i64 0, .string ⟨#[]⟩, .int .i64 0, .int .i64 0, .int .i64 0, .int .i64 0, .int .i64 0, .int .i64 0, .int .i64 0, .int .i64 0, .int .i64 0, .slice none 0 0] 54)).heap.size v24_4.heap.size k → w14.heap.size ≤ k ∧ k ≠ v24_2.heap.size from fun k hk => ⟨Nat.le_trans hHeld.size hk.1, by have h1 := hk.1; have h2 := GBl.out; omega⟩)
            clear h hu NL
            refine hK.out _ _ (hHeld.trans (hb.mono hHeld.size)) (fun hHeld => ?_)
            clear hK K hb
            have GBl := Lib.hid (show v24_2.heap.size < v24_4.heap.size from GB.out.lt)
            refine rd1 7 (fun K hK => ?_)
            have q0 := GB.out.at_ 0 rfl
            have f0 := GB.out.soft 0
            have q1 := GB.out.at_ 1 rfl
            have f1 := GB.out.soft 1
            have q2 := GB.out.at_ 2 rfl
            have f2 := GB.out.soft 2
            have q3 := GB.out.at_ 3 rfl
            have f3 := GB.out.soft 3
            have q4 := GB.out.at_ 4 rfl
            have f4 := GB.out.soft 4
            have q5 := GB.out.at_ 5 rfl
            have f5 := GB.out.soft 5
            have q6 := GB.out.at_ 6 rfl
            have f6 := GB.out.soft 6
            have q7 := GB.out.at_ 7 rfl
            have f7 := GB.out.soft 7
            have q8 := GB.out.at_ 8 rfl
            have f8 := GB.out.soft 8
            have q9 := GB.out.at_ 9 rfl
            have f9 := GB.out.soft 9
            have q10 := GB.out.at_ 10 rfl
            have f10 := GB.out.soft 10
            have q11 := GB.out.at_ 11 rfl
            have f11 := GB.out.soft 11
            have q12 := GB.out.at_ 12 rfl
            have f12 := GB.out.soft 12
            have q13 := GB.out.at_ 13 rfl
            have f13 := GB.out.soft 13
            go_simp
            refine hK.out _ _ ((((((((((((((hHeld.setCell (p := ⟨v24_2.heap.size, 0, none⟩) (by exact HGE.out) (.int .i64 dx0)).setCell (p := ⟨v24_2.heap.size, 1, none⟩) (by exact HGE.out) (.int .i64 dx1)).setCell (p := ⟨v24_2.heap.size, 2, none⟩) (by exact HGE.out) (.int .i64 dx2)).setCell (p := ⟨v24_2.heap.size, 3, none⟩) (by exact HGE.out) (.string dx3)).setCell (p := ⟨v24_2.heap.size, 4, none⟩) (by exact HGE.out) (.int .i64 dx4)).setCell (p := ⟨v24_2.heap.size, 5, none⟩) (by exact HGE.out) (.int .i64 dx5)).setCell (p := ⟨v24_2.heap.size, 6, none⟩) (by exact HGE.out) (.int .i64 dx6)).setCell (p := ⟨v24_2.heap.size, 7, none⟩) (by exact HGE.out) (.int .i64 dx7)).setCell (p := ⟨v24_2.heap.size, 8, none⟩) (by exact HGE.out) (.int .i64 dx8)).setCell (p := ⟨v24_2.heap.size, 9, none⟩) (by exact HGE.out) (.int .i64 dx9)).setCell (p := ⟨v24_2.heap.size, 10, none⟩) (by exact HGE.out) (.int .i64 dx10)).setCell (p := ⟨v24_2.heap.size, 11, none⟩) (by exact HGE.out) (.int .i64 dx11)).setCell (p := ⟨v24_2.heap.size, 12, none⟩) (by exact HGE.out) (.int .i64 dx12)).setCell (p := ⟨v24_2.heap.size, 13, none⟩) (by exact HGE.out) (.slice ra024_4 dL0.length rc024_4)) (fun hHeld => ?_)
            clear hK K q0 f0 q1 f1 q2 f2 q3 f3 q4 f4 q5 f5 q6 f6 q7 f7 q8 f8 q9 f9 q10 f10 q11 f11 q12 f12 q13 f13
            refine rd0 ?_
            go_wp2_with fail
            go_meet
            exact ⟨_, _, _, _, rfl, Lib.hid (sets_Task GB.out), Lib.hid (OW.out.off R_Task_ok (soff_Task _ _ _ _ _ _ _ _ _ _ _ _ _ _ _ _) (fun k hk h2 => (HTB.out k hk).2 h2)), HTB, HGE, Lib.hid hHeld⟩
        · skip
          go_simp
          have hb : Below (v24_1).heap.size (v24_1) (v24_1.alloc (.cells #[.int .i64 0, .int .i64 0, .int .i64 0, .string ⟨#[]⟩, .int .i64 0, .int .i64 0, .int .i64 0, .int .i64 0, .int .i64 0, .int .i64 0, .int .i64 0, .int .i64 0, .int .i64 0, .slice none 0 0] 54)) := (Below.refl _ _).alloc (Nat.le_refl _) _
          have NL := Lib.hid (NL.out.mv (Sl_ok R_Task_ok) hb)
          have GB := Lib.hid (show Blk (v24_1.alloc (.cells #[.int .i64 0, .int .i64 0, .int .i64 0, .string ⟨#[]⟩, .int .i64 0, .int .i64 0, .int .i64 0, .int .i64 0, .int .i64 0, .int .i64 0, .int .i64 0, .int .i64 0, .int .i64 0, .slice none 0 0] 54)) v24_1.heap.size 54 #[.int .i64 0, .int .i64 0, .int .i64 0, .string ⟨#[]⟩, .int .i64 0, .int .i64 0, .int .i64 0, .int .i64 0, .int .i64 0, .int .i64 0, .int .i64 0, .int .i64 0, .int .i64 0, .slice none 0 0] from Blk.new (v24_1) 54 #[.int .i64 0, .int .i64 0, .int .i64 0, .string ⟨#[]⟩, .int .i64 0, .int .i64 0, .int .i64 0, .int .i64 0, .int .i64 0, .int .i64 0, .int .i64 0, .int .i64 0, .int .i64 0, .slice none 0 0])
          have HGE := Lib.hid (show w14.heap.size ≤ v24_1.heap.size from hHeld.size)
          refine hK.out _ _ (hHeld.trans (hb.mono hHeld.size)) (fun hHeld => ?_)
          clear hK K hb
          have GBl := Lib.hid (show v24_1.heap.size < (v24_1.alloc (.cells #[.int .i64 0, .int .i64 0, .int .i64 0, .string ⟨#[]⟩, .int .i64 0, .int .i64 0, .int .i64 0, .int .i64 0, .int .i64 0, .int .i64 0, .int .i64 0, .int .i64 0, .int .i64 0, .slice none 0 0] 54)).heap.size from GB.out.lt)
          refine rd1 3 (fun K hK => ?_)
          go_simp
          go_at_call 12
          refine (to_Label (by simp only [R_Label, Pr, I, atom] <;> omega)).mono ?_
          intro e v24_5 h
          obtain ⟨us, rfl, hu, hb⟩ := newV_elim h
          obtain rfl := ow0_Label hu
          have NL := Lib.hid (NL.out.mv (Sl_ok R_Task_ok) hb)
          have GB := Lib.hid (GB.out.call hb)
          clear h hu
          refine hK.out _ _ (hHeld.trans (hb.mono hHeld.size)) (fun hHeld => ?_)
          clear hK K hb
          have GBl := Lib.hid (show v24_1.heap.size < v24_5.heap.size from GB.out.lt)
          refine rd1 5 (fun K hK => ?_)
          go_simp
          go_at_call 27
          refine (gtaskof_impl HSZL.out (NL.out.rd (Sl_ok R_Task_ok))).mono ?_
          intro e v24_6 h
          rw [HDD.out] at h
          obtain ⟨us, rfl, hu, hb⟩ := newV_elim h
          obtain ⟨ra024_6, rc024_6, rfl, hu⟩ := owc_Task hu
          have hHeld0 := Lib.hid hHeld
          have GB := Lib.hid (GB.out.call hb)
          have OW := Lib.hid (owG_new hu)
          have HTB := Lib.hid (show ∀ k, Rg v24_5.heap.size v24_6.heap.size k → w14.heap.size ≤ k ∧ k ≠ v24_1.heap.size from fun k hk => ⟨Nat.le_trans hHeld.size hk.1, by have h1 := hk.1; have h2 := GBl.out; omega⟩)
          clear h hu NL
          refine hK.out _ _ (hHeld.trans (hb.mono hHeld.size)) (fun hHeld => ?_)
          clear hK K hb
          have GBl := Lib.hid (show v24_1.heap.size < v24_6.heap.size from GB.out.lt)
          refine rd1 7 (fun K hK => ?_)
          have q0 := GB.out.at_ 0 rfl
          have f0 := GB.out.soft 0
          have q1 := GB.out.at_ 1 rfl
          have f1 := GB.out.soft 1
          have q2 := GB.out.at_ 2 rfl
          have f2 := GB.out.soft 2
          have q3 := GB.out.at_ 3 rfl
          have f3 := GB.out.soft 3
          have q4 := GB.out.at_ 4 rfl
          have f4 := GB.out.soft 4
          have q5 := GB.out.at_ 5 rfl
          have f5 := GB.out.soft 5
          have q6 := GB.out.at_ 6 rfl
          have f6 := GB.out.soft 6
          have q7 := GB.out.at_ 7 rfl
          have f7 := GB.out.soft 7
          have q8 := GB.out.at_ 8 rfl
          have f8 := GB.out.soft 8
          have q9 := GB.out.at_ 9 rfl
          have f9 := GB.out.soft 9
          have q10 := GB.out.at_ 10 rfl
          have f10 := GB.out.soft 10
          have q11 := GB.out.at_ 11 rfl
          have f11 := GB.out.soft 11
          have q12 := GB.out.at_ 12 rfl
          have f12 := GB.out.soft 12
          have q13 := GB.out.at_ 13 rfl
          have f13 := GB.out.soft 13
          go_simp
          refine hK.out _ _ ((((((((((((((hHeld.setCell (p := ⟨v24_1.heap.size, 0, none⟩) (by exact HGE.out) (.int .i64 dx0)).setCell (p := ⟨v24_1.heap.size, 1, none⟩) (by exact HGE.out) (.int .i64 dx1)).setCell (p := ⟨v24_1.heap.size, 2, none⟩) (by exact HGE.out) (.int .i64 dx2)).setCell (p := ⟨v24_1.heap.size, 3, none⟩) (by exact HGE.out) (.string dx3)).setCell (p := ⟨v24_1.heap.size, 4, none⟩) (by exact HGE.out) (.int .i64 dx4)).setCell (p := ⟨v24_1.heap.size, 5, none⟩) (by exact HGE.out) (.int .i64 dx5)).setCell (p := ⟨v24_1.heap.size, 6, none⟩) (by exact HGE.out) (.int .i64 dx6)).setCell (p := ⟨v24_1.heap.size, 7, none⟩) (by exact HGE.out) (.int .i64 dx7)).setCell (p := ⟨v24_1.heap.size, 8, none⟩) (by exact HGE.out) (.int .i64 dx8)).setCell (p := ⟨v24_1.heap.size, 9, none⟩) (by exact HGE.out) (.int .i64 dx9)).setCell (p := ⟨v24_1.heap.size, 10, none⟩) (by exact HGE.out) (.int .i64 dx10)).setCell (p := ⟨v24_1.heap.size, 11, none⟩) (by exact HGE.out) (.int .i64 dx11)).setCell (p := ⟨v24_1.heap.size, 12, none⟩) (by exact HGE.out) (.int .i64 dx12)).setCell (p := ⟨v24_1.heap.size, 13, none⟩) (by exact HGE.out) (.slice ra024_6 dL0.length rc024_6)) (fun hHeld => ?_)
          clear hK K q0 f0 q1 f1 q2 f2 q3 f3 q4 f4 q5 f5 q6 f6 q7 f7 q8 f8 q9 f9 q10 f10 q11 f11 q12 f12 q13 f13
          refine rd0 ?_
          go_wp2_with fail
          go_meet
          exact ⟨_, _, _, _, rfl, Lib.hid (sets_Task GB.out), Lib.hid (OW.out.off R_Task_ok (soff_Task _ _ _ _ _ _ _ _ _ _ _ _ _ _ _ _) (fun k hk h2 => (HTB.out k hk).2 h2)), HTB, HGE, Lib.hid hHeld⟩
      · skip
        go_simp
        have hb : Below (w14.drew).heap.size (w14.drew) ((w14.drew).alloc (.cells #[.int .i64 0, .int .i64 0, .int .i64 0, .string ⟨#[]⟩, .int .i64 0, .int .i64 0, .int .i64 0, .int .i64 0, .int .i64 0, .int .i64 0, .int .i64 0, .int .i64 0, .int .i64 0, .slice none 0 0] 54)) := (Below.refl _ _).alloc (Nat.le_refl _) _
        have GB := Lib.hid (show Blk ((w14.drew).alloc (.cells #[.int .i64 0, .int .i64 0, .int .i64 0, .string ⟨#[]⟩, .int .i64 0, .int .i64 0, .int .i64 0, .int .i64 0, .int .i64 0, .int .i64 0, .int .i64 0, .int .i64 0, .int .i64 0, .slice none 0 0] 54)) w14.heap.size 54 #[.int .i64 0, .int .i64 0, .int .i64 0, .string ⟨#[]⟩, .int .i64 0, .int .i64 0, .int .i64 0, .int .i64 0, .int .i64 0, .int .i64 0, .int .i64 0, .int .i64 0, .int .i64 0, .slice none 0 0] from Blk.new (w14.drew) 54 #[.int .i64 0, .int .i64 0, .int .i64 0, .string ⟨#[]⟩, .int .i64 0, .int .i64 0, .int .i64 0, .int .i64 0, .int .i64 0, .int .i64 0, .int .i64 0, .int .i64 0, .int .i64 0, .slice none 0 0])
        have HGE := Lib.hid (show w14.heap.size ≤ w14.heap.size from hHeld.size)
        refine hK.out _ _ (hHeld.trans (hb.mono hHeld.size)) (fun hHeld => ?_)
        clear hK K hb
        have GBl := Lib.hid (show w14.heap.size < ((w14.drew).alloc (.cells #[.int .i64 0, .int .i64 0, .int .i64 0, .string ⟨#[]⟩, .int .i64 0, .int .i64 0, .int .i64 0, .int .i64 0, .int .i64 0, .int .i64 0, .int .i64 0, .int .i64 0, .int .i64 0, .slice none 0 0] 54)).heap.size from GB.out.lt)
        refine rd1 1 (fun K hK => ?_)
        go_simp
        go_at_call 23
        refine (gto_TaskS HSZL.out (gmv (Sl_ok R_Task_ok) HL_14.out hHeld)).mono ?_
        intro e v24_7 h
        obtain ⟨aL_24_7, cL_24_7, rfl, hu, hb⟩ := newS_elim2 h
        have GB := Lib.hid (GB.out.call hb)
        have NL := Lib.hid (owG_new hu)
        clear h hu
        refine hK.out _ _ (hHeld.trans (hb.mono hHeld.size)) (fun hHeld => ?_)
        clear hK K hb
        have GBl := Lib.hid (show w14.heap.size < v24_7.heap.size from GB.out.lt)
        refine rd1 3 (fun K hK => ?_)
        go_simp
        go_at_call 12
        refine (to_Label (by simp only [R_Label, Pr, I, atom] <;> omega)).mono ?_
        intro e v24_8 h
        obtain ⟨us, rfl, hu, hb⟩ := newV_elim h
        obtain rfl := ow0_Label hu
        have NL := Lib.hid (NL.out.mv (Sl_ok R_Task_ok) hb)
        have GB := Lib.hid (GB.out.call hb)
        clear h hu
        refine hK.out _ _ (hHeld.trans (hb.mono hHeld.size)) (fun hHeld => ?_)
        clear hK K hb
        have GBl := Lib.hid (show w14.heap.size < v24_8.heap.size from GB.out.lt)
        refine rd1 5 (fun K hK => ?_)
        go_simp
        go_at_call 27
        refine (gtaskof_impl HSZL.out (NL.out.rd (Sl_ok R_Task_ok))).mono ?_
        intro e v24_9 h
        rw [HDD.out] at h
        obtain ⟨us, rfl, hu, hb⟩ := newV_elim h
        obtain ⟨ra024_9, rc024_9, rfl, hu⟩ := owc_Task hu
        have hHeld0 := Lib.hid hHeld
        have GB := Lib.hid (GB.out.call hb)
        have OW := Lib.hid (owG_new hu)
        have HTB := Lib.hid (show ∀ k, Rg v24_8.heap.size v24_9.heap.size k → w14.heap.size ≤ k ∧ k ≠ w14.heap.size from fun k hk => ⟨Nat.le_trans hHeld.size hk.1, by have h1 := hk.1; have h2 := GBl.out; omega⟩)
        clear h hu NL
        refine hK.out _ _ (hHeld.trans (hb.mono hHeld.size)) (fun hHeld => ?_)
        clear hK K hb
        have GBl := Lib.hid (show w14.heap.size < v24_9.heap.size from GB.out.lt)
        refine rd1 7 (fun K hK => ?_)
        have q0 := GB.out.at_ 0 rfl
        have f0 := GB.out.soft 0
        have q1 := GB.out.at_ 1 rfl
        have f1 := GB.out.soft 1
        have q2 := GB.out.at_ 2 rfl
        have f2 := GB.out.soft 2
        have q3 := GB.out.at_ 3 rfl
        have f3 := GB.out.soft 3
        have q4 := GB.out.at_ 4 rfl
        have f4 := GB.out.soft 4
        have q5 := GB.out.at_ 5 rfl
        have f5 := GB.out.soft 5
        have q6 := GB.out.at_ 6 rfl
        have f6 := GB.out.soft 6
        have q7 := GB.out.at_ 7 rfl
        have f7 := GB.out.soft 7
        have q8 := GB.out.at_ 8 rfl
        have f8 := GB.out.soft 8
        have q9 := GB.out.at_ 9 rfl
        have f9 := GB.out.soft 9
        have q10 := GB.out.at_ 10 rfl
        have f10 := GB.out.soft 10
        have q11 := GB.out.at_ 11 rfl
        have f11 := GB.out.soft 11
        have q12 := GB.out.at_ 12 rfl
        have f12 := GB.out.soft 12
        have q13 := GB.out.at_ 13 rfl
        have f13 := GB.out.soft 13
        go_simp
        refine hK.out _ _ ((((((((((((((hHeld.setCell (p := ⟨w14.heap.size, 0, none⟩) (by exact HGE.out) (.int .i64 dx0)).setCell (p := ⟨w14.heap.size, 1, none⟩) (by exact HGE.out) (.int .i64 dx1)).setCell (p := ⟨w14.heap.size, 2, none⟩) (by exact HGE.out) (.int .i64 dx2)).setCell (p := ⟨w14.heap.size, 3, none⟩) (by exact HGE.out) (.string dx3)).setCell (p := ⟨w14.heap.size, 4, none⟩) (by exact HGE.out) (.int .i64 dx4)).setCell (p := ⟨w14.heap.size, 5, none⟩) (by exact HGE.out) (.int .i64 dx5)).setCell (p := ⟨w14.heap.size, 6, none⟩) (by exact HGE.out) (.int .i64 dx6)).setCell (p := ⟨w14.heap.size, 7, none⟩) (by exact HGE.out) (.int .i64 dx7)).setCell (p := ⟨w14.heap.size, 8, none⟩) (by exact HGE.out) (.int .i64 dx8)).setCell (p := ⟨w14.heap.size, 9, none⟩) (by exact HGE.out) (.int .i64 dx9)).setCell (p := ⟨w14.heap.size, 10, none⟩) (by exact HGE.out) (.int .i64 dx10)).setCell (p := ⟨w14.heap.size, 11, none⟩) (by exact HGE.out) (.int .i64 dx11)).setCell (p := ⟨w14.heap.size, 12, none⟩) (by exact HGE.out) (.int .i64 dx12)).setCell (p := ⟨w14.heap.size, 13, none⟩) (by exact HGE.out) (.slice ra024_9 dL0.length rc024_9)) (fun hHeld => ?_)
        clear hK K q0 f0 q1 f1 q2 f2 q3 f3 q4 f4 q5 f5 q6 f6 q7 f7 q8 f8 q9 f9 q10 f10 q11 f11 q12 f12 q13 f13
        refine rd0 ?_
        go_wp2_with fail
        go_meet
        exact ⟨_, _, _, _, rfl, Lib.hid (sets_Task GB.out), Lib.hid (OW.out.off R_Task_ok (soff_Task _ _ _ _ _ _ _ _ _ _ _ _ _ _ _ _) (fun k hk h2 => (HTB.out k hk).2 h2)), HTB, HGE, Lib.hid hHeld⟩
    case rest =>
      obtain ⟨gh, ra0h, rc0h, Sh, rfl, HX8, HO8, HT8, HG8, hcb⟩ := hcut
      rename World => w15
      have hb := hcb.out
      have PX_15 := Lib.hid (PX_14.out.call hb)
      have Bw_15 := Lib.hid (Bw_14.out.call hb)
      have Bg_15 := Lib.hid (Bg_14.out.call hb)
      have HL_15 := Lib.hid (gmv (Sl_ok R_Task_ok) HL_14.out hb)
      have Yw_15 := Lib.hid (Yw_14.out.mv R_Task_ok hb)
      have Yg_15 := Lib.hid (Yg_14.out.mv R_Task_ok hb)
      have HB15 := Lib.hid (HB14.out.trans ((hb).mono HB14.out.size))
      have HZ16 := Lib.hid ((hb).size)
      clear PX_14 Bw_14 Bg_14 HL_14 Yw_14 Yg_14 HB14
      clear hb hcb
      have Bh_15 := HX8
      have Yh_15 := HO8
      have HTh := HT8
      have HGh := HG8
      clear HX8 HO8 HT8 HG8
      have HSh := Lib.hid (fun k (hk : Sh k) => (⟨(HTh.out k hk).1, Yh_15.out.2 k hk⟩ : w14.heap.size ≤ k ∧ k < w15.heap.size))
      have HGLh := Lib.hid (show gh < w15.heap.size from Bh_15.out.lt)
      have qBh_0 := Bh_15.out.at_ 0 rfl
      have qBh_1 := Bh_15.out.at_ 1 rfl
      have qBh_2 := Bh_15.out.at_ 2 rfl
      have qBh_3 := Bh_15.out.at_ 3 rfl
      have qBh_4 := Bh_15.out.at_ 4 rfl
      have qBh_5 := Bh_15.out.at_ 5 rfl
      have qBh_6 := Bh_15.out.at_ 6 rfl
      have qBh_7 := Bh_15.out.at_ 7 rfl
      have qBh_8 := Bh_15.out.at_ 8 rfl
      have qBh_9 := Bh_15.out.at_ 9 rfl
      have qBh_10 := Bh_15.out.at_ 10 rfl
      have qBh_11 := Bh_15.out.at_ 11 rfl
      have qBh_12 := Bh_15.out.at_ 12 rfl
      have qBh_13 := Bh_15.out.at_ 13 rfl
      have qBw_0 := Bw_15.out.at_ 0 rfl
      have qBw_1 := Bw_15.out.at_ 1 rfl
      have qBw_2 := Bw_15.out.at_ 2 rfl
      have qBw_3 := Bw_15.out.at_ 3 rfl
      have qBw_4 := Bw_15.out.at_ 4 rfl
      have qBw_5 := Bw_15.out.at_ 5 rfl
      have qBw_6 := Bw_15.out.at_ 6 rfl
      have qBw_7 := Bw_15.out.at_ 7 rfl
      have qBw_8 := Bw_15.out.at_ 8 rfl
      have qBw_9 := Bw_15.out.at_ 9 rfl
      have qBw_10 := Bw_15.out.at_ 10 rfl
      have qBw_11 := Bw_15.out.at_ 11 rfl
      have qBw_12 := Bw_15.out.at_ 12 rfl
      have qBw_13 := Bw_15.out.at_ 13 rfl
      go_wp2_with fail
      refine (geq_Task (Yh_15.out.rd R_Task_ok) (Yw_15.out.rd R_Task_ok)).mono ?_
      intro e w16 h
      obtain ⟨rfl, hb⟩ := isB_elim h
      clear qBh_0 qBh_1 qBh_2 qBh_3 qBh_4 qBh_5 qBh_6 qBh_7 qBh_8 qBh_9 qBh_10 qBh_11 qBh_12 qBh_13 qBw_0 qBw_1 qBw_2 qBw_3 qBw_4 qBw_5 qBw_6 qBw_7 qBw_8 qBw_9 qBw_10 qBw_11 qBw_12 qBw_13
      have PX_16 := Lib.hid (PX_15.out.call hb)
      have Bw_16 := Lib.hid (Bw_15.out.call hb)
      have Bg_16 := Lib.hid (Bg_15.out.call hb)
      have Bh_16 := Lib.hid (Bh_15.out.call hb)
      have HL_16 := Lib.hid (gmv (Sl_ok R_Task_ok) HL_15.out hb)
      have Yw_16 := Lib.hid (Yw_15.out.mv R_Task_ok hb)
      have Yg_16 := Lib.hid (Yg_15.out.mv R_Task_ok hb)
      have Yh_16 := Lib.hid (Yh_15.out.mv R_Task_ok hb)
      have HB16 := Lib.hid (HB15.out.trans ((hb).mono HB15.out.size))
      have HZ17 := Lib.hid ((hb).size)
      clear PX_15 Bw_15 Bg_15 Bh_15 HL_15 Yw_15 Yg_15 Yh_15 HB15
      clear h hb
      have qBg_0 := Bg_16.out.at_ 0 rfl
      have qBg_1 := Bg_16.out.at_ 1 rfl
      have qBg_2 := Bg_16.out.at_ 2 rfl
      have qBg_3 := Bg_16.out.at_ 3 rfl
      have qBg_4 := Bg_16.out.at_ 4 rfl
      have qBg_5 := Bg_16.out.at_ 5 rfl
      have qBg_6 := Bg_16.out.at_ 6 rfl
      have qBg_7 := Bg_16.out.at_ 7 rfl
      have qBg_8 := Bg_16.out.at_ 8 rfl
      have qBg_9 := Bg_16.out.at_ 9 rfl
      have qBg_10 := Bg_16.out.at_ 10 rfl
      have qBg_11 := Bg_16.out.at_ 11 rfl
      have qBg_12 := Bg_16.out.at_ 12 rfl
      have qBg_13 := Bg_16.out.at_ 13 rfl
      go_wp2_with fail
      refine (gheld_Task (by omega) hzb HMV.out (Yg_16.out.rd R_Task_ok)).mono ?_
      intro e w17 h
      obtain ⟨rfl, hb⟩ := heldC_elim h
      clear qBg_0 qBg_1 qBg_2 qBg_3 qBg_4 qBg_5 qBg_6 qBg_7 qBg_8 qBg_9 qBg_10 qBg_11 qBg_12 qBg_13
      have PX_17 := Lib.hid (PX_16.out.call hb)
      have Bw_17 := Lib.hid (Bw_16.out.call hb)
      have Bg_17 := Lib.hid (Bg_16.out.call hb)
      have Bh_17 := Lib.hid (Bh_16.out.call hb)
      have HL_17 := Lib.hid (gmv (Sl_ok R_Task_ok) HL_16.out hb)
      have Yw_17 := Lib.hid (Yw_16.out.mv R_Task_ok hb)
      have Yg_17 := Lib.hid (Yg_16.out.mv R_Task_ok hb)
      have Yh_17 := Lib.hid (Yh_16.out.mv R_Task_ok hb)
      have HB17 := Lib.hid (HB16.out.trans ((hb).mono HB16.out.size))
      have HZ18 := Lib.hid ((hb).size)
      clear PX_16 Bw_16 Bg_16 Bh_16 HL_16 Yw_16 Yg_16 Yh_16 HB16
      clear h hb
      go_wp2
      go_ret
      exact ⟨rfl, HB17.out⟩
end Go.Proofs.Ytmmnkdilnlhbfaa.RepC
