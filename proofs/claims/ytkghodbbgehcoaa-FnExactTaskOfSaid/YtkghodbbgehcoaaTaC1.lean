/- A task copied: contracts of both sides. -/
import Derived.Test.YtkghodbbgehcoaaTaP
import Derived.Test.YtkghodbbgehcoaaIntC
import Derived.Test.YtkghodbbgehcoaaCloneM
namespace Go.Proofs.Ytkghodbbgehcoaa.RepC
open Go.RowKit RowC ValC SpanC KeptC NameC
set_option linter.unusedVariables false
set_option linter.unusedSimpArgs false

set_option maxRecDepth 100000 in
set_option maxHeartbeats 1600000 in
theorem copyT_spec {x0 x1 x2 : Int} {x3 : ByteArray} {x4 x5 x6 x7 x8 x9 x10 x11 x12 : Int} {L : List Int} {a : Option Addr} {c : Nat} {W : World} (b_x3 : x3.size ≤ maxLen) (hn : L.length ≤ 1048576) (h : RdSl I W W.heap.size L a c) :
    Calls Try.prog 86 #[.agg #[.int .i64 x0, .int .i64 x1, .int .i64 x2, .string x3, .int .i64 x4, .int .i64 x5, .int .i64 x6, .int .i64 x7, .int .i64 x8, .int .i64 x9, .int .i64 x10, .int .i64 x11, .int .i64 x12, .slice a L.length c]] W (NewV R_Task ((x0, x1), x2, x3, x4, x5, x6, (x7, x8), x9, x10, x11, x12, L) W) := by
  have HX3 := Lib.hid b_x3
  have hB0 : Below W.heap.size W ((W.alloc (.cells #[.int .i64 x0, .int .i64 x1, .int .i64 x2, .string x3, .int .i64 x4, .int .i64 x5, .int .i64 x6, .int .i64 x7, .int .i64 x8, .int .i64 x9, .int .i64 x10, .int .i64 x11, .int .i64 x12, .slice a L.length c] 43)).alloc (.cells #[.int .i64 0, .int .i64 0, .int .i64 0, .string ⟨#[]⟩, .int .i64 0, .int .i64 0, .int .i64 0, .int .i64 0, .int .i64 0, .int .i64 0, .int .i64 0, .int .i64 0, .int .i64 0, .slice none 0 0] 43)) := ((Below.refl _ _).alloc (Nat.le_refl _) _).alloc (by simp) _
  obtain ⟨a', c', w5, hr, hos, hb⟩ := app_copy (ty := 37) hn ((h.below I_ok hB0).more I_ok hB0.size)
  have hP := (Blk.new W 43 #[.int .i64 x0, .int .i64 x1, .int .i64 x2, .string x3, .int .i64 x4, .int .i64 x5, .int .i64 x6, .int .i64 x7, .int .i64 x8, .int .i64 x9, .int .i64 x10, .int .i64 x11, .int .i64 x12, .slice a L.length c]).alloc (.cells #[.int .i64 0, .int .i64 0, .int .i64 0, .string ⟨#[]⟩, .int .i64 0, .int .i64 0, .int .i64 0, .int .i64 0, .int .i64 0, .int .i64 0, .int .i64 0, .int .i64 0, .int .i64 0, .slice none 0 0] 43)
  have hR := Blk.new (W.alloc (.cells #[.int .i64 x0, .int .i64 x1, .int .i64 x2, .string x3, .int .i64 x4, .int .i64 x5, .int .i64 x6, .int .i64 x7, .int .i64 x8, .int .i64 x9, .int .i64 x10, .int .i64 x11, .int .i64 x12, .slice a L.length c] 43)) 43 #[.int .i64 0, .int .i64 0, .int .i64 0, .string ⟨#[]⟩, .int .i64 0, .int .i64 0, .int .i64 0, .int .i64 0, .int .i64 0, .int .i64 0, .int .i64 0, .int .i64 0, .int .i64 0, .slice none 0 0]
  have hP5 := Lib.hid (hP.call hb)
  have hR5 := Lib.hid (hR.call hb)
  have HB5 := Lib.hid (hB0.trans (hb.mono hB0.size))
  have hsz5 := hb.size
  simp only [World.size_alloc] at hr
  have HR := Lib.hid hr
  have HO := Lib.hid hos
  simp only [World.size_alloc] at hsz5 hP hR
  have hgo : W.heap.size + 2 ≤ w5.heap.size := hsz5
  have p0 := hP.at_ 0 rfl
  have p1 := hP.at_ 1 rfl
  have p2 := hP.at_ 2 rfl
  have p3 := hP.at_ 3 rfl
  have p4 := hP.at_ 4 rfl
  have p5 := hP.at_ 5 rfl
  have p6 := hP.at_ 6 rfl
  have p7 := hP.at_ 7 rfl
  have p8 := hP.at_ 8 rfl
  have p9 := hP.at_ 9 rfl
  have p10 := hP.at_ 10 rfl
  have p11 := hP.at_ 11 rfl
  have p12 := hP.at_ 12 rfl
  have p13 := hP.at_ 13 rfl
  clear hP hR hB0 hr hos hb h
  have hRx := hR5.out
  simp only [World.size_alloc] at hRx
  have HR5 := Lib.hid hRx
  have q0 := hP5.out.at_ 0 rfl
  have f0 := hP5.out.soft 0
  have r0 := HR5.out.at_ 0 rfl
  have g0 := HR5.out.soft 0
  have q1 := hP5.out.at_ 1 rfl
  have f1 := hP5.out.soft 1
  have r1 := HR5.out.at_ 1 rfl
  have g1 := HR5.out.soft 1
  have q2 := hP5.out.at_ 2 rfl
  have f2 := hP5.out.soft 2
  have r2 := HR5.out.at_ 2 rfl
  have g2 := HR5.out.soft 2
  have q3 := hP5.out.at_ 3 rfl
  have f3 := hP5.out.soft 3
  have r3 := HR5.out.at_ 3 rfl
  have g3 := HR5.out.soft 3
  have q4 := hP5.out.at_ 4 rfl
  have f4 := hP5.out.soft 4
  have r4 := HR5.out.at_ 4 rfl
  have g4 := HR5.out.soft 4
  have q5 := hP5.out.at_ 5 rfl
  have f5 := hP5.out.soft 5
  have r5 := HR5.out.at_ 5 rfl
  have g5 := HR5.out.soft 5
  have q6 := hP5.out.at_ 6 rfl
  have f6 := hP5.out.soft 6
  have r6 := HR5.out.at_ 6 rfl
  have g6 := HR5.out.soft 6
  have q7 := hP5.out.at_ 7 rfl
  have f7 := hP5.out.soft 7
  have r7 := HR5.out.at_ 7 rfl
  have g7 := HR5.out.soft 7
  have q8 := hP5.out.at_ 8 rfl
  have f8 := hP5.out.soft 8
  have r8 := HR5.out.at_ 8 rfl
  have g8 := HR5.out.soft 8
  have q9 := hP5.out.at_ 9 rfl
  have f9 := hP5.out.soft 9
  have r9 := HR5.out.at_ 9 rfl
  have g9 := HR5.out.soft 9
  have q10 := hP5.out.at_ 10 rfl
  have f10 := hP5.out.soft 10
  have r10 := HR5.out.at_ 10 rfl
  have g10 := HR5.out.soft 10
  have q11 := hP5.out.at_ 11 rfl
  have f11 := hP5.out.soft 11
  have r11 := HR5.out.at_ 11 rfl
  have g11 := HR5.out.soft 11
  have q12 := hP5.out.at_ 12 rfl
  have f12 := hP5.out.soft 12
  have r12 := HR5.out.at_ 12 rfl
  have g12 := HR5.out.soft 12
  have q13 := hP5.out.at_ 13 rfl
  have f13 := hP5.out.soft 13
  have r13 := HR5.out.at_ 13 rfl
  have g13 := HR5.out.soft 13
  clear hRx hR5 b_x3
  go_enter Try.func86, Try.ntmps86
  go_wp2_with (at_builtin; refine wpList_app rfl (.tmp 3) (.tmp 5) 37 rfl rfl rfl HR.out ?_)
  refine bodyPost_ret (v := .agg #[.int .i64 x0, .int .i64 x1, .int .i64 x2, .string x3, .int .i64 x4, .int .i64 x5, .int .i64 x6, .int .i64 x7, .int .i64 x8, .int .i64 x9, .int .i64 x10, .int .i64 x11, .int .i64 x12, .slice a' L.length c']) (by simp [results, Try.results86, go_sem, *]) rfl ⟨[.int .i64 x0, .int .i64 x1, .int .i64 x2, .string x3, .int .i64 x4, .int .i64 x5, .int .i64 x6, .int .i64 x7, .int .i64 x8, .int .i64 x9, .int .i64 x10, .int .i64 x11, .int .i64 x12, .slice a' L.length c'], rfl, ?_, (((((((((((((((HB5.out.setCell (p := ⟨W.heap.size, 13, none⟩) (by show W.heap.size ≤ W.heap.size; omega) (.slice a' L.length c')).setCell (p := ⟨W.heap.size + 1, 0, none⟩) (by show W.heap.size ≤ W.heap.size + 1; omega) (.int .i64 x0)).setCell (p := ⟨W.heap.size + 1, 1, none⟩) (by show W.heap.size ≤ W.heap.size + 1; omega) (.int .i64 x1)).setCell (p := ⟨W.heap.size + 1, 2, none⟩) (by show W.heap.size ≤ W.heap.size + 1; omega) (.int .i64 x2)).setCell (p := ⟨W.heap.size + 1, 3, none⟩) (by show W.heap.size ≤ W.heap.size + 1; omega) (.string x3)).setCell (p := ⟨W.heap.size + 1, 4, none⟩) (by show W.heap.size ≤ W.heap.size + 1; omega) (.int .i64 x4)).setCell (p := ⟨W.heap.size + 1, 5, none⟩) (by show W.heap.size ≤ W.heap.size + 1; omega) (.int .i64 x5)).setCell (p := ⟨W.heap.size + 1, 6, none⟩) (by show W.heap.size ≤ W.heap.size + 1; omega) (.int .i64 x6)).setCell (p := ⟨W.heap.size + 1, 7, none⟩) (by show W.heap.size ≤ W.heap.size + 1; omega) (.int .i64 x7)).setCell (p := ⟨W.heap.size + 1, 8, none⟩) (by show W.heap.size ≤ W.heap.size + 1; omega) (.int .i64 x8)).setCell (p := ⟨W.heap.size + 1, 9, none⟩) (by show W.heap.size ≤ W.heap.size + 1; omega) (.int .i64 x9)).setCell (p := ⟨W.heap.size + 1, 10, none⟩) (by show W.heap.size ≤ W.heap.size + 1; omega) (.int .i64 x10)).setCell (p := ⟨W.heap.size + 1, 11, none⟩) (by show W.heap.size ≤ W.heap.size + 1; omega) (.int .i64 x11)).setCell (p := ⟨W.heap.size + 1, 12, none⟩) (by show W.heap.size ≤ W.heap.size + 1; omega) (.int .i64 x12)).setCell (p := ⟨W.heap.size + 1, 13, none⟩) (by show W.heap.size ≤ W.heap.size + 1; omega) (.slice a' L.length c'))⟩
  have hoff := ((((((((((((((((Off.refl (fun x => x < W.heap.size + 2) w5).setCell (p := ⟨W.heap.size, 13, none⟩) (by show W.heap.size < W.heap.size + 2; omega) (.slice a' L.length c')).setCell (p := ⟨W.heap.size + 1, 0, none⟩) (by show W.heap.size + 1 < W.heap.size + 2; omega) (.int .i64 x0)).setCell (p := ⟨W.heap.size + 1, 1, none⟩) (by show W.heap.size + 1 < W.heap.size + 2; omega) (.int .i64 x1)).setCell (p := ⟨W.heap.size + 1, 2, none⟩) (by show W.heap.size + 1 < W.heap.size + 2; omega) (.int .i64 x2)).setCell (p := ⟨W.heap.size + 1, 3, none⟩) (by show W.heap.size + 1 < W.heap.size + 2; omega) (.string x3)).setCell (p := ⟨W.heap.size + 1, 4, none⟩) (by show W.heap.size + 1 < W.heap.size + 2; omega) (.int .i64 x4)).setCell (p := ⟨W.heap.size + 1, 5, none⟩) (by show W.heap.size + 1 < W.heap.size + 2; omega) (.int .i64 x5)).setCell (p := ⟨W.heap.size + 1, 6, none⟩) (by show W.heap.size + 1 < W.heap.size + 2; omega) (.int .i64 x6)).setCell (p := ⟨W.heap.size + 1, 7, none⟩) (by show W.heap.size + 1 < W.heap.size + 2; omega) (.int .i64 x7)).setCell (p := ⟨W.heap.size + 1, 8, none⟩) (by show W.heap.size + 1 < W.heap.size + 2; omega) (.int .i64 x8)).setCell (p := ⟨W.heap.size + 1, 9, none⟩) (by show W.heap.size + 1 < W.heap.size + 2; omega) (.int .i64 x9)).setCell (p := ⟨W.heap.size + 1, 10, none⟩) (by show W.heap.size + 1 < W.heap.size + 2; omega) (.int .i64 x10)).setCell (p := ⟨W.heap.size + 1, 11, none⟩) (by show W.heap.size + 1 < W.heap.size + 2; omega) (.int .i64 x11)).setCell (p := ⟨W.heap.size + 1, 12, none⟩) (by show W.heap.size + 1 < W.heap.size + 2; omega) (.int .i64 x12)).setCell (p := ⟨W.heap.size + 1, 13, none⟩) (by show W.heap.size + 1 < W.heap.size + 2; omega) (.slice a' L.length c'))
  have hsz := hoff.size
  have hos := HO.out
  simp only [World.size_alloc] at hos
  exact mkow_Task (fun k hk => ⟨by have := hk.1; omega, by have := hk.2; omega⟩) (hos.keep I_ok (fun k hk => hoff.block k hk.2 (by have := hk.1; omega))) HX3.out
set_option maxRecDepth 100000 in
set_option maxHeartbeats 1600000 in
theorem copyT_impl {x0 x1 x2 : Int} {x3 : ByteArray} {x4 x5 x6 x7 x8 x9 x10 x11 x12 : Int} {L : List Int} {a : Option Addr} {c : Nat} {W : World} (b_x3 : x3.size ≤ 1048576) (hn : L.length ≤ 1048576) (h : RdSl I W W.heap.size L a c) :
    Calls Try.prog 87 #[.agg #[.int .i64 x0, .int .i64 x1, .int .i64 x2, .string x3, .int .i64 x4, .int .i64 x5, .int .i64 x6, .int .i64 x7, .int .i64 x8, .int .i64 x9, .int .i64 x10, .int .i64 x11, .int .i64 x12, .slice a L.length c]] W (NewV R_Task ((x0, x1), x2, x3, x4, x5, x6, (x7, x8), x9, x10, x11, x12, L) W) := by
  have HX3 := Lib.hid (show x3.size ≤ maxLen from by unfold maxLen; omega)
  obtain ⟨w0, hw0⟩ : ∃ w, w = (W.alloc (.cells #[.int .i64 x0, .int .i64 x1, .int .i64 x2, .string x3, .int .i64 x4, .int .i64 x5, .int .i64 x6, .int .i64 x7, .int .i64 x8, .int .i64 x9, .int .i64 x10, .int .i64 x11, .int .i64 x12, .slice a L.length c] 43)).alloc (.cells #[.int .i64 0, .int .i64 0, .int .i64 0, .string ⟨#[]⟩, .int .i64 0, .int .i64 0, .int .i64 0, .int .i64 0, .int .i64 0, .int .i64 0, .int .i64 0, .int .i64 0, .int .i64 0, .slice none 0 0] 43) := ⟨_, rfl⟩
  have hB0 : Below W.heap.size W w0 := by rw [hw0]; exact ((Below.refl _ _).alloc (Nat.le_refl _) _).alloc (by simp) _
  have HP0 := Lib.hid (show Blk w0 W.heap.size 43 #[.int .i64 x0, .int .i64 x1, .int .i64 x2, .string x3, .int .i64 x4, .int .i64 x5, .int .i64 x6, .int .i64 x7, .int .i64 x8, .int .i64 x9, .int .i64 x10, .int .i64 x11, .int .i64 x12, .slice a L.length c] from by rw [hw0]; exact (Blk.new W 43 #[.int .i64 x0, .int .i64 x1, .int .i64 x2, .string x3, .int .i64 x4, .int .i64 x5, .int .i64 x6, .int .i64 x7, .int .i64 x8, .int .i64 x9, .int .i64 x10, .int .i64 x11, .int .i64 x12, .slice a L.length c]).alloc (.cells #[.int .i64 0, .int .i64 0, .int .i64 0, .string ⟨#[]⟩, .int .i64 0, .int .i64 0, .int .i64 0, .int .i64 0, .int .i64 0, .int .i64 0, .int .i64 0, .int .i64 0, .int .i64 0, .slice none 0 0] 43))
  have HR0 := Lib.hid (show Blk w0 (W.heap.size + 1) 43 #[.int .i64 0, .int .i64 0, .int .i64 0, .string ⟨#[]⟩, .int .i64 0, .int .i64 0, .int .i64 0, .int .i64 0, .int .i64 0, .int .i64 0, .int .i64 0, .int .i64 0, .int .i64 0, .slice none 0 0] from by
    have h9 := Blk.new (W.alloc (.cells #[.int .i64 x0, .int .i64 x1, .int .i64 x2, .string x3, .int .i64 x4, .int .i64 x5, .int .i64 x6, .int .i64 x7, .int .i64 x8, .int .i64 x9, .int .i64 x10, .int .i64 x11, .int .i64 x12, .slice a L.length c] 43)) 43 #[.int .i64 0, .int .i64 0, .int .i64 0, .string ⟨#[]⟩, .int .i64 0, .int .i64 0, .int .i64 0, .int .i64 0, .int .i64 0, .int .i64 0, .int .i64 0, .int .i64 0, .int .i64 0, .slice none 0 0]
    simp only [World.size_alloc] at h9
    rw [hw0]; exact h9)
  have HH := Lib.hid ((h.below I_ok hB0).more I_ok hB0.size)
  have HB0 := Lib.hid hB0
  have HN := Lib.hid hn
  clear h hB0
  go_enter Try.func87, Try.ntmps87
  go_upto_region 1 with fail
  rw [← hw0]
  clear hw0
  have q0 := HP0.out.at_ 0 rfl
  have q1 := HP0.out.at_ 1 rfl
  have q2 := HP0.out.at_ 2 rfl
  have q3 := HP0.out.at_ 3 rfl
  have q4 := HP0.out.at_ 4 rfl
  have q5 := HP0.out.at_ 5 rfl
  have q6 := HP0.out.at_ 6 rfl
  have q7 := HP0.out.at_ 7 rfl
  have q8 := HP0.out.at_ 8 rfl
  have q9 := HP0.out.at_ 9 rfl
  have q10 := HP0.out.at_ 10 rfl
  have q11 := HP0.out.at_ 11 rfl
  have q12 := HP0.out.at_ 12 rfl
  have q13 := HP0.out.at_ 13 rfl
  go_wp2_with fail
  refine (CloneM.clone_any x3 _ b_x3).mono ?_
  rintro e w1 ⟨rfl, hb⟩
  have HP1 := Lib.hid (HP0.out.call hb)
  have HR1 := Lib.hid (HR0.out.call hb)
  have HB1 := Lib.hid (HB0.out.trans (hb.mono HB0.out.size))
  have HH1 := Lib.hid ((HH.out.below I_ok hb).more I_ok hb.size)
  have HS := Lib.hid (show w1.setCell ⟨W.heap.size, 3, none⟩ (.string x3) = w1 from setCell_id (HP1.out.at_ 3 rfl))
  clear hb q0 q1 q2 q3 q4 q5 q6 q7 q8 q9 q10 q11 q12 q13
  have q0 := HP1.out.at_ 0 rfl
  have f0 := HP1.out.soft 0
  have q1 := HP1.out.at_ 1 rfl
  have f1 := HP1.out.soft 1
  have q2 := HP1.out.at_ 2 rfl
  have f2 := HP1.out.soft 2
  have q3 := HP1.out.at_ 3 rfl
  have f3 := HP1.out.soft 3
  have q4 := HP1.out.at_ 4 rfl
  have f4 := HP1.out.soft 4
  have q5 := HP1.out.at_ 5 rfl
  have f5 := HP1.out.soft 5
  have q6 := HP1.out.at_ 6 rfl
  have f6 := HP1.out.soft 6
  have q7 := HP1.out.at_ 7 rfl
  have f7 := HP1.out.soft 7
  have q8 := HP1.out.at_ 8 rfl
  have f8 := HP1.out.soft 8
  have q9 := HP1.out.at_ 9 rfl
  have f9 := HP1.out.soft 9
  have q10 := HP1.out.at_ 10 rfl
  have f10 := HP1.out.soft 10
  have q11 := HP1.out.at_ 11 rfl
  have f11 := HP1.out.soft 11
  have q12 := HP1.out.at_ 12 rfl
  have f12 := HP1.out.soft 12
  have q13 := HP1.out.at_ 13 rfl
  have f13 := HP1.out.soft 13
  go_wp2_with fail
  rw [HS.out]
  refine (clone_ints HN.out HH1.out).mono ?_
  intro e w5 h
  obtain ⟨a', c', rfl, hos, hb⟩ := newS_elim h
  have HP5 := Lib.hid (HP1.out.call hb)
  have HR5 := Lib.hid (HR1.out.call hb)
  have HB5 := Lib.hid (HB1.out.trans (hb.mono HB1.out.size))
  have HO := Lib.hid hos
  have hgo : W.heap.size + 2 ≤ w1.heap.size := by have := HR1.out.lt; omega
  have hgo5 : W.heap.size + 2 ≤ w5.heap.size := by have := HR5.out.lt; omega
  clear h hb hos HS q0 f0 q1 f1 q2 f2 q3 f3 q4 f4 q5 f5 q6 f6 q7 f7 q8 f8 q9 f9 q10 f10 q11 f11 q12 f12 q13 f13
  have q0 := HP5.out.at_ 0 rfl
  have f0 := HP5.out.soft 0
  have r0 := HR5.out.at_ 0 rfl
  have g0 := HR5.out.soft 0
  have q1 := HP5.out.at_ 1 rfl
  have f1 := HP5.out.soft 1
  have r1 := HR5.out.at_ 1 rfl
  have g1 := HR5.out.soft 1
  have q2 := HP5.out.at_ 2 rfl
  have f2 := HP5.out.soft 2
  have r2 := HR5.out.at_ 2 rfl
  have g2 := HR5.out.soft 2
  have q3 := HP5.out.at_ 3 rfl
  have f3 := HP5.out.soft 3
  have r3 := HR5.out.at_ 3 rfl
  have g3 := HR5.out.soft 3
  have q4 := HP5.out.at_ 4 rfl
  have f4 := HP5.out.soft 4
  have r4 := HR5.out.at_ 4 rfl
  have g4 := HR5.out.soft 4
  have q5 := HP5.out.at_ 5 rfl
  have f5 := HP5.out.soft 5
  have r5 := HR5.out.at_ 5 rfl
  have g5 := HR5.out.soft 5
  have q6 := HP5.out.at_ 6 rfl
  have f6 := HP5.out.soft 6
  have r6 := HR5.out.at_ 6 rfl
  have g6 := HR5.out.soft 6
  have q7 := HP5.out.at_ 7 rfl
  have f7 := HP5.out.soft 7
  have r7 := HR5.out.at_ 7 rfl
  have g7 := HR5.out.soft 7
  have q8 := HP5.out.at_ 8 rfl
  have f8 := HP5.out.soft 8
  have r8 := HR5.out.at_ 8 rfl
  have g8 := HR5.out.soft 8
  have q9 := HP5.out.at_ 9 rfl
  have f9 := HP5.out.soft 9
  have r9 := HR5.out.at_ 9 rfl
  have g9 := HR5.out.soft 9
  have q10 := HP5.out.at_ 10 rfl
  have f10 := HP5.out.soft 10
  have r10 := HR5.out.at_ 10 rfl
  have g10 := HR5.out.soft 10
  have q11 := HP5.out.at_ 11 rfl
  have f11 := HP5.out.soft 11
  have r11 := HR5.out.at_ 11 rfl
  have g11 := HR5.out.soft 11
  have q12 := HP5.out.at_ 12 rfl
  have f12 := HP5.out.soft 12
  have r12 := HR5.out.at_ 12 rfl
  have g12 := HR5.out.soft 12
  have q13 := HP5.out.at_ 13 rfl
  have f13 := HP5.out.soft 13
  have r13 := HR5.out.at_ 13 rfl
  have g13 := HR5.out.soft 13
  go_wp2
  refine bodyPost_ret (v := .agg #[.int .i64 x0, .int .i64 x1, .int .i64 x2, .string x3, .int .i64 x4, .int .i64 x5, .int .i64 x6, .int .i64 x7, .int .i64 x8, .int .i64 x9, .int .i64 x10, .int .i64 x11, .int .i64 x12, .slice a' L.length c']) (by simp [results, Try.results87, go_sem, *]) rfl ⟨[.int .i64 x0, .int .i64 x1, .int .i64 x2, .string x3, .int .i64 x4, .int .i64 x5, .int .i64 x6, .int .i64 x7, .int .i64 x8, .int .i64 x9, .int .i64 x10, .int .i64 x11, .int .i64 x12, .slice a' L.length c'], rfl, ?_, (((((((((((((((HB5.out.setCell (p := ⟨W.heap.size, 13, none⟩) (by show W.heap.size ≤ W.heap.size; omega) (.slice a' L.length c')).setCell (p := ⟨W.heap.size + 1, 0, none⟩) (by show W.heap.size ≤ W.heap.size + 1; omega) (.int .i64 x0)).setCell (p := ⟨W.heap.size + 1, 1, none⟩) (by show W.heap.size ≤ W.heap.size + 1; omega) (.int .i64 x1)).setCell (p := ⟨W.heap.size + 1, 2, none⟩) (by show W.heap.size ≤ W.heap.size + 1; omega) (.int .i64 x2)).setCell (p := ⟨W.heap.size + 1, 3, none⟩) (by show W.heap.size ≤ W.heap.size + 1; omega) (.string x3)).setCell (p := ⟨W.heap.size + 1, 4, none⟩) (by show W.heap.size ≤ W.heap.size + 1; omega) (.int .i64 x4)).setCell (p := ⟨W.heap.size + 1, 5, none⟩) (by show W.heap.size ≤ W.heap.size + 1; omega) (.int .i64 x5)).setCell (p := ⟨W.heap.size + 1, 6, none⟩) (by show W.heap.size ≤ W.heap.size + 1; omega) (.int .i64 x6)).setCell (p := ⟨W.heap.size + 1, 7, none⟩) (by show W.heap.size ≤ W.heap.size + 1; omega) (.int .i64 x7)).setCell (p := ⟨W.heap.size + 1, 8, none⟩) (by show W.heap.size ≤ W.heap.size + 1; omega) (.int .i64 x8)).setCell (p := ⟨W.heap.size + 1, 9, none⟩) (by show W.heap.size ≤ W.heap.size + 1; omega) (.int .i64 x9)).setCell (p := ⟨W.heap.size + 1, 10, none⟩) (by show W.heap.size ≤ W.heap.size + 1; omega) (.int .i64 x10)).setCell (p := ⟨W.heap.size + 1, 11, none⟩) (by show W.heap.size ≤ W.heap.size + 1; omega) (.int .i64 x11)).setCell (p := ⟨W.heap.size + 1, 12, none⟩) (by show W.heap.size ≤ W.heap.size + 1; omega) (.int .i64 x12)).setCell (p := ⟨W.heap.size + 1, 13, none⟩) (by show W.heap.size ≤ W.heap.size + 1; omega) (.slice a' L.length c'))⟩
  have hoff := ((((((((((((((((Off.refl (fun x => x < W.heap.size + 2) w5).setCell (p := ⟨W.heap.size, 13, none⟩) (by show W.heap.size < W.heap.size + 2; omega) (.slice a' L.length c')).setCell (p := ⟨W.heap.size + 1, 0, none⟩) (by show W.heap.size + 1 < W.heap.size + 2; omega) (.int .i64 x0)).setCell (p := ⟨W.heap.size + 1, 1, none⟩) (by show W.heap.size + 1 < W.heap.size + 2; omega) (.int .i64 x1)).setCell (p := ⟨W.heap.size + 1, 2, none⟩) (by show W.heap.size + 1 < W.heap.size + 2; omega) (.int .i64 x2)).setCell (p := ⟨W.heap.size + 1, 3, none⟩) (by show W.heap.size + 1 < W.heap.size + 2; omega) (.string x3)).setCell (p := ⟨W.heap.size + 1, 4, none⟩) (by show W.heap.size + 1 < W.heap.size + 2; omega) (.int .i64 x4)).setCell (p := ⟨W.heap.size + 1, 5, none⟩) (by show W.heap.size + 1 < W.heap.size + 2; omega) (.int .i64 x5)).setCell (p := ⟨W.heap.size + 1, 6, none⟩) (by show W.heap.size + 1 < W.heap.size + 2; omega) (.int .i64 x6)).setCell (p := ⟨W.heap.size + 1, 7, none⟩) (by show W.heap.size + 1 < W.heap.size + 2; omega) (.int .i64 x7)).setCell (p := ⟨W.heap.size + 1, 8, none⟩) (by show W.heap.size + 1 < W.heap.size + 2; omega) (.int .i64 x8)).setCell (p := ⟨W.heap.size + 1, 9, none⟩) (by show W.heap.size + 1 < W.heap.size + 2; omega) (.int .i64 x9)).setCell (p := ⟨W.heap.size + 1, 10, none⟩) (by show W.heap.size + 1 < W.heap.size + 2; omega) (.int .i64 x10)).setCell (p := ⟨W.heap.size + 1, 11, none⟩) (by show W.heap.size + 1 < W.heap.size + 2; omega) (.int .i64 x11)).setCell (p := ⟨W.heap.size + 1, 12, none⟩) (by show W.heap.size + 1 < W.heap.size + 2; omega) (.int .i64 x12)).setCell (p := ⟨W.heap.size + 1, 13, none⟩) (by show W.heap.size + 1 < W.heap.size + 2; omega) (.slice a' L.length c'))
  have hsz := hoff.size
  have hos := HO.out
  exact mkow_Task (fun k hk => ⟨by have := hk.1; omega, by have := hk.2; omega⟩) (hos.keep I_ok (fun k hk => hoff.block k hk.2 (by have := hk.1; omega))) HX3.out
end Go.Proofs.Ytkghodbbgehcoaa.RepC
