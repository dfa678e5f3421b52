/- Of this claim's texts the part 1: TaT Name Lab ResB Sp UsP LabJoin LabBelow LabEq UsQ SpPairs JobN. -/
import Derived.Test.YtkghodbbgehcoaaRows
import Derived.WalkKit
import Derived.ProofKit
import Derived.Below
import Derived.LoopTactic
import Derived.BigQuiet
import Derived.Deep.QuietTactic
import Derived.WalkSpells
import Derived.WalkLawsBesides
import Derived.Lib.Hide
import Derived.Deep.RegionWith
import Derived.RegionTactic
import Derived.IntWalk
import Derived.Deep.RegionHeld3
import Derived.Deep.DeepCutAuto
import Derived.Sort.Walk0
import Derived.StillTailTactics
import Derived.Laws.StructEq
import Derived.Laws.MakeOwn
import Derived.Laws.Entries
import Derived.Test.YtkghodbbgehcoaaPO0
section
namespace Go.Proofs.Ytkghodbbgehcoaa.RepC
open Go.RowKit RowC ValC
set_option linter.unusedVariables false
set_option linter.unusedSimpArgs false
abbrev D_Task : Type := (D_Label) × (Int) × (ByteArray) × (Int) × (Int) × (Int) × (D_Label) × (Int) × (Int) × (Int) × (Int) × (List (Int))
def R_Task : Rp D_Task := (Pr R_Label (Pr I (Pr St (Pr I (Pr I (Pr I (Pr R_Label (Pr I (Pr I (Pr I (Pr I (Sl I))))))))))))
theorem R_Task_ok : Ok R_Task := (Pr_ok R_Label_ok (Pr_ok I_ok (Pr_ok St_ok (Pr_ok I_ok (Pr_ok I_ok (Pr_ok I_ok (Pr_ok R_Label_ok (Pr_ok I_ok (Pr_ok I_ok (Pr_ok I_ok (Pr_ok I_ok (Sl_ok I_ok))))))))))))
theorem rd_Task {W : World} {B : Nat} {x0 : Int} {x1 : Int} {x2 : Int} {x3 : ByteArray} {x4 : Int} {x5 : Int} {x6 : Int} {x7 : Int} {x8 : Int} {x9 : Int} {x10 : Int} {x11 : Int} {x12 : Int} {L0 : List (Int)} {cs : List Value} (h : R_Task.rd W B ((x0, x1), x2, x3, x4, x5, x6, (x7, x8), x9, x10, x11, x12, L0) cs) : ∃ a0 c0, cs = [.int .i64 x0, .int .i64 x1, .int .i64 x2, .string x3, .int .i64 x4, .int .i64 x5, .int .i64 x6, .int .i64 x7, .int .i64 x8, .int .i64 x9, .int .i64 x10, .int .i64 x11, .int .i64 x12, .slice a0 L0.length c0] ∧ RdSl I W B L0 a0 c0 ∧ x3.size ≤ maxLen := by
  obtain ⟨u1, v1, rfl, h1, g1⟩ := h
  obtain ⟨u2, v2, rfl, h2, g2⟩ := h1
  obtain rfl : u2 = [_] := h2
  obtain rfl : v2 = [_] := g2
  obtain ⟨u3, v3, rfl, h3, g3⟩ := g1
  obtain rfl : u3 = [_] := h3
  obtain ⟨u4, v4, rfl, h4, g4⟩ := g3
  obtain ⟨hq_x3, b_x3⟩ := h4
  obtain rfl : u4 = [_] := hq_x3
  obtain ⟨u5, v5, rfl, h5, g5⟩ := g4
  obtain rfl : u5 = [_] := h5
  obtain ⟨u6, v6, rfl, h6, g6⟩ := g5
  obtain rfl : u6 = [_] := h6
  obtain ⟨u7, v7, rfl, h7, g7⟩ := g6
  obtain rfl : u7 = [_] := h7
  obtain ⟨u8, v8, rfl, h8, g8⟩ := g7
  obtain ⟨u9, v9, rfl, h9, g9⟩ := h8
  obtain rfl : u9 = [_] := h9
  obtain rfl : v9 = [_] := g9
  obtain ⟨u10, v10, rfl, h10, g10⟩ := g8
  obtain rfl : u10 = [_] := h10
  obtain ⟨u11, v11, rfl, h11, g11⟩ := g10
  obtain rfl : u11 = [_] := h11
  obtain ⟨u12, v12, rfl, h12, g12⟩ := g11
  obtain rfl : u12 = [_] := h12
  obtain ⟨u13, v13, rfl, h13, g13⟩ := g12
  obtain rfl : u13 = [_] := h13
  obtain ⟨a0, c0, rfl, k_L0⟩ := g13
  exact ⟨a0, c0, rfl, k_L0, b_x3⟩
theorem mkow_Task {W : World} {S : Nat → Prop} {x0 : Int} {x1 : Int} {x2 : Int} {x3 : ByteArray} {x4 : Int} {x5 : Int} {x6 : Int} {x7 : Int} {x8 : Int} {x9 : Int} {x10 : Int} {x11 : Int} {x12 : Int} {L0 : List (Int)} {a0 : Option Addr} {c0 : Nat} {T0 : Nat → Prop} (hs0 : ∀ k, T0 k → S k) (h_L0 : OwSl I W T0 L0 a0 c0) (b_x3 : x3.size ≤ maxLen) : R_Task.ow W S ((x0, x1), x2, x3, x4, x5, x6, (x7, x8), x9, x10, x11, x12, L0) [.int .i64 x0, .int .i64 x1, .int .i64 x2, .string x3, .int .i64 x4, .int .i64 x5, .int .i64 x6, .int .i64 x7, .int .i64 x8, .int .i64 x9, .int .i64 x10, .int .i64 x11, .int .i64 x12, .slice a0 L0.length c0] := ⟨[.int .i64 x0, .int .i64 x1], [.int .i64 x2, .string x3, .int .i64 x4, .int .i64 x5, .int .i64 x6, .int .i64 x7, .int .i64 x8, .int .i64 x9, .int .i64 x10, .int .i64 x11, .int .i64 x12, .slice a0 L0.length c0], (fun _ => False), T0, rfl, (fun k h => h.elim), (fun k h => hs0 k h), (fun k h h' => h.elim), ⟨[.int .i64 x0], [.int .i64 x1], (fun _ => False), (fun _ => False), rfl, (fun k h => h.elim), (fun k h => h.elim), (fun k h h' => h.elim), rfl, rfl⟩, ⟨[.int .i64 x2], [.string x3, .int .i64 x4, .int .i64 x5, .int .i64 x6, .int .i64 x7, .int .i64 x8, .int .i64 x9, .int .i64 x10, .int .i64 x11, .int .i64 x12, .slice a0 L0.length c0], (fun _ => False), T0, rfl, (fun k h => h.elim), (fun k h => h), (fun k h h' => h.elim), rfl, ⟨[.string x3], [.int .i64 x4, .int .i64 x5, .int .i64 x6, .int .i64 x7, .int .i64 x8, .int .i64 x9, .int .i64 x10, .int .i64 x11, .int .i64 x12, .slice a0 L0.length c0], (fun _ => False), T0, rfl, (fun k h => h.elim), (fun k h => h), (fun k h h' => h.elim), ⟨rfl, b_x3⟩, ⟨[.int .i64 x4], [.int .i64 x5, .int .i64 x6, .int .i64 x7, .int .i64 x8, .int .i64 x9, .int .i64 x10, .int .i64 x11, .int .i64 x12, .slice a0 L0.length c0], (fun _ => False), T0, rfl, (fun k h => h.elim), (fun k h => h), (fun k h h' => h.elim), rfl, ⟨[.int .i64 x5], [.int .i64 x6, .int .i64 x7, .int .i64 x8, .int .i64 x9, .int .i64 x10, .int .i64 x11, .int .i64 x12, .slice a0 L0.length c0], (fun _ => False), T0, rfl, (fun k h => h.elim), (fun k h => h), (fun k h h' => h.elim), rfl, ⟨[.int .i64 x6], [.int .i64 x7, .int .i64 x8, .int .i64 x9, .int .i64 x10, .int .i64 x11, .int .i64 x12, .slice a0 L0.length c0], (fun _ => False), T0, rfl, (fun k h => h.elim), (fun k h => h), (fun k h h' => h.elim), rfl, ⟨[.int .i64 x7, .int .i64 x8], [.int .i64 x9, .int .i64 x10, .int .i64 x11, .int .i64 x12, .slice a0 L0.length c0], (fun _ => False), T0, rfl, (fun k h => h.elim), (fun k h => h), (fun k h h' => h.elim), ⟨[.int .i64 x7], [.int .i64 x8], (fun _ => False), (fun _ => False), rfl, (fun k h => h.elim), (fun k h => h.elim), (fun k h h' => h.elim), rfl, rfl⟩, ⟨[.int .i64 x9], [.int .i64 x10, .int .i64 x11, .int .i64 x12, .slice a0 L0.length c0], (fun _ => False), T0, rfl, (fun k h => h.elim), (fun k h => h), (fun k h h' => h.elim), rfl, ⟨[.int .i64 x10], [.int .i64 x11, .int .i64 x12, .slice a0 L0.length c0], (fun _ => False), T0, rfl, (fun k h => h.elim), (fun k h => h), (fun k h h' => h.elim), rfl, ⟨[.int .i64 x11], [.int .i64 x12, .slice a0 L0.length c0], (fun _ => False), T0, rfl, (fun k h => h.elim), (fun k h => h), (fun k h h' => h.elim), rfl, ⟨[.int .i64 x12], [.slice a0 L0.length c0], (fun _ => False), T0, rfl, (fun k h => h.elim), (fun k h => h), (fun k h h' => h.elim), rfl, ⟨a0, c0, rfl, h_L0⟩⟩⟩⟩⟩⟩⟩⟩⟩⟩⟩⟩
theorem ow_Task {W : World} {S : Nat → Prop} {x0 : Int} {x1 : Int} {x2 : Int} {x3 : ByteArray} {x4 : Int} {x5 : Int} {x6 : Int} {x7 : Int} {x8 : Int} {x9 : Int} {x10 : Int} {x11 : Int} {x12 : Int} {L0 : List (Int)} {cs : List Value} (h : R_Task.ow W S ((x0, x1), x2, x3, x4, x5, x6, (x7, x8), x9, x10, x11, x12, L0) cs) : ∃ a0 c0, ∃ T0 : Nat → Prop, cs = [.int .i64 x0, .int .i64 x1, .int .i64 x2, .string x3, .int .i64 x4, .int .i64 x5, .int .i64 x6, .int .i64 x7, .int .i64 x8, .int .i64 x9, .int .i64 x10, .int .i64 x11, .int .i64 x12, .slice a0 L0.length c0] ∧ (∀ k, T0 k → S k) ∧ OwSl I W T0 L0 a0 c0 ∧ x3.size ≤ maxLen := by
  obtain ⟨u1, v1, A1, B1, rfl, sa1, sb1, dd1, h1, g1⟩ := h
  obtain ⟨u2, v2, A2, B2, rfl, sa2, sb2, dd2, h2, g2⟩ := h1
  obtain rfl : u2 = [_] := h2
  obtain rfl : v2 = [_] := g2
  obtain ⟨u3, v3, A3, B3, rfl, sa3, sb3, dd3, h3, g3⟩ := g1
  obtain rfl : u3 = [_] := h3
  obtain ⟨u4, v4, A4, B4, rfl, sa4, sb4, dd4, h4, g4⟩ := g3
  obtain ⟨hq_x3, b_x3⟩ := h4
  obtain rfl : u4 = [_] := hq_x3
  obtain ⟨u5, v5, A5, B5, rfl, sa5, sb5, dd5, h5, g5⟩ := g4
  obtain rfl : u5 = [_] := h5
  obtain ⟨u6, v6, A6, B6, rfl, sa6, sb6, dd6, h6, g6⟩ := g5
  obtain rfl : u6 = [_] := h6
  obtain ⟨u7, v7, A7, B7, rfl, sa7, sb7, dd7, h7, g7⟩ := g6
  obtain rfl : u7 = [_] := h7
  obtain ⟨u8, v8, A8, B8, rfl, sa8, sb8, dd8, h8, g8⟩ := g7
  obtain ⟨u9, v9, A9, B9, rfl, sa9, sb9, dd9, h9, g9⟩ := h8
  obtain rfl : u9 = [_] := h9
  obtain rfl : v9 = [_] := g9
  obtain ⟨u10, v10, A10, B10, rfl, sa10, sb10, dd10, h10, g10⟩ := g8
  obtain rfl : u10 = [_] := h10
  obtain ⟨u11, v11, A11, B11, rfl, sa11, sb11, dd11, h11, g11⟩ := g10
  obtain rfl : u11 = [_] := h11
  obtain ⟨u12, v12, A12, B12, rfl, sa12, sb12, dd12, h12, g12⟩ := g11
  obtain rfl : u12 = [_] := h12
  obtain ⟨u13, v13, A13, B13, rfl, sa13, sb13, dd13, h13, g13⟩ := g12
  obtain rfl : u13 = [_] := h13
  obtain ⟨a0, c0, rfl, k_L0⟩ := g13
  exact ⟨a0, c0, B13, rfl, fun k h => sb1 k (sb3 k (sb4 k (sb5 k (sb6 k (sb7 k (sb8 k (sb10 k (sb11 k (sb12 k (sb13 k (h))))))))))), k_L0, b_x3⟩
set_option maxRecDepth 100000 in
set_option maxHeartbeats 3200000 in
theorem to_Task {x0 : Int} {x1 : Int} {x2 : Int} {x3 : ByteArray} {x4 : Int} {x5 : Int} {x6 : Int} {x7 : Int} {x8 : Int} {x9 : Int} {x10 : Int} {x11 : Int} {x12 : Int} {L0 : List (Int)} {a0 : Option Addr} {c0 : Nat} {W : World} (hsz : R_Task.sz ((x0, x1), x2, x3, x4, x5, x6, (x7, x8), x9, x10, x11, x12, L0) ≤ 1048576) (h_L0 : RdSl I W W.heap.size L0 a0 c0) (b_x3 : x3.size ≤ maxLen) : Calls Try.prog 25 #[.agg #[.int .i64 x0, .int .i64 x1, .int .i64 x2, .string x3, .int .i64 x4, .int .i64 x5, .int .i64 x6, .int .i64 x7, .int .i64 x8, .int .i64 x9, .int .i64 x10, .int .i64 x11, .int .i64 x12, .slice a0 L0.length c0]] W (NewV R_Task ((x0, x1), x2, x3, x4, x5, x6, (x7, x8), x9, x10, x11, x12, L0) W) := by
  have H_L0 := Lib.hid h_L0
  have HSZ := Lib.hid hsz
  clear hsz h_L0
  have hP := ((Blk.new W 39 #[.int .i64 x0, .int .i64 x1, .int .i64 x2, .string x3, .int .i64 x4, .int .i64 x5, .int .i64 x6, .int .i64 x7, .int .i64 x8, .int .i64 x9, .int .i64 x10, .int .i64 x11, .int .i64 x12, .slice a0 L0.length c0]).alloc (.cells #[.int .i64 0, .int .i64 0, .int .i64 0, .string ⟨#[]⟩, .int .i64 0, .int .i64 0, .int .i64 0, .int .i64 0, .int .i64 0, .int .i64 0, .int .i64 0, .int .i64 0, .int .i64 0, .slice none 0 0] 43)).alloc (.cells #[.int .i64 0, .int .i64 0, .int .i64 0, .string ⟨#[]⟩, .int .i64 0, .int .i64 0, .int .i64 0, .int .i64 0, .int .i64 0, .int .i64 0, .int .i64 0, .int .i64 0, .int .i64 0, .slice none 0 0] 43)
  have hR := (Blk.new (W.alloc (.cells #[.int .i64 x0, .int .i64 x1, .int .i64 x2, .string x3, .int .i64 x4, .int .i64 x5, .int .i64 x6, .int .i64 x7, .int .i64 x8, .int .i64 x9, .int .i64 x10, .int .i64 x11, .int .i64 x12, .slice a0 L0.length c0] 39)) 43 #[.int .i64 0, .int .i64 0, .int .i64 0, .string ⟨#[]⟩, .int .i64 0, .int .i64 0, .int .i64 0, .int .i64 0, .int .i64 0, .int .i64 0, .int .i64 0, .int .i64 0, .int .i64 0, .slice none 0 0]).alloc (.cells #[.int .i64 0, .int .i64 0, .int .i64 0, .string ⟨#[]⟩, .int .i64 0, .int .i64 0, .int .i64 0, .int .i64 0, .int .i64 0, .int .i64 0, .int .i64 0, .int .i64 0, .int .i64 0, .slice none 0 0] 43)
  have hO := Blk.new ((W.alloc (.cells #[.int .i64 x0, .int .i64 x1, .int .i64 x2, .string x3, .int .i64 x4, .int .i64 x5, .int .i64 x6, .int .i64 x7, .int .i64 x8, .int .i64 x9, .int .i64 x10, .int .i64 x11, .int .i64 x12, .slice a0 L0.length c0] 39)).alloc (.cells #[.int .i64 0, .int .i64 0, .int .i64 0, .string ⟨#[]⟩, .int .i64 0, .int .i64 0, .int .i64 0, .int .i64 0, .int .i64 0, .int .i64 0, .int .i64 0, .int .i64 0, .int .i64 0, .slice none 0 0] 43)) 43 #[.int .i64 0, .int .i64 0, .int .i64 0, .string ⟨#[]⟩, .int .i64 0, .int .i64 0, .int .i64 0, .int .i64 0, .int .i64 0, .int .i64 0, .int .i64 0, .int .i64 0, .int .i64 0, .slice none 0 0]
  simp only [World.size_alloc] at hP hR hO
  have HB0 := Lib.hid (show Below W.heap.size W (((W.alloc (.cells #[.int .i64 x0, .int .i64 x1, .int .i64 x2, .string x3, .int .i64 x4, .int .i64 x5, .int .i64 x6, .int .i64 x7, .int .i64 x8, .int .i64 x9, .int .i64 x10, .int .i64 x11, .int .i64 x12, .slice a0 L0.length c0] 39)).alloc (.cells #[.int .i64 0, .int .i64 0, .int .i64 0, .string ⟨#[]⟩, .int .i64 0, .int .i64 0, .int .i64 0, .int .i64 0, .int .i64 0, .int .i64 0, .int .i64 0, .int .i64 0, .int .i64 0, .slice none 0 0] 43)).alloc (.cells #[.int .i64 0, .int .i64 0, .int .i64 0, .string ⟨#[]⟩, .int .i64 0, .int .i64 0, .int .i64 0, .int .i64 0, .int .i64 0, .int .i64 0, .int .i64 0, .int .i64 0, .int .i64 0, .slice none 0 0] 43)) from (((Below.refl _ _).alloc (Nat.le_refl _) _).alloc (by simp) _).alloc (by simp; omega) _)
  have hz0 : W.heap.size + 3 ≤ (((W.alloc (.cells #[.int .i64 x0, .int .i64 x1, .int .i64 x2, .string x3, .int .i64 x4, .int .i64 x5, .int .i64 x6, .int .i64 x7, .int .i64 x8, .int .i64 x9, .int .i64 x10, .int .i64 x11, .int .i64 x12, .slice a0 L0.length c0] 39)).alloc (.cells #[.int .i64 0, .int .i64 0, .int .i64 0, .string ⟨#[]⟩, .int .i64 0, .int .i64 0, .int .i64 0, .int .i64 0, .int .i64 0, .int .i64 0, .int .i64 0, .int .i64 0, .int .i64 0, .slice none 0 0] 43)).alloc (.cells #[.int .i64 0, .int .i64 0, .int .i64 0, .string ⟨#[]⟩, .int .i64 0, .int .i64 0, .int .i64 0, .int .i64 0, .int .i64 0, .int .i64 0, .int .i64 0, .int .i64 0, .int .i64 0, .slice none 0 0] 43)).heap.size := by simp
  have HP0 := Lib.hid hP
  have HR0 := Lib.hid hR
  have HO0 := Lib.hid hO
  clear hP hR hO
  go_enter Try.func25, Try.ntmps25
  go_wp2_with fail
  refine (to_Label (by have h0 := HSZ.out; simp only [R_Task, R_Label, Pr, Sl, I, Bo, St, atom] at h0 ⊢; omega)).mono ?_
  intro e w1 h
  obtain ⟨vs, rfl, how, hb⟩ := newV_elim h
  obtain rfl := ow0_Label how
  have hP : Blk w1 (W.heap.size) 39 #[.int .i64 x0, .int .i64 x1, .int .i64 x2, .string x3, .int .i64 x4, .int .i64 x5, .int .i64 x6, .int .i64 x7, .int .i64 x8, .int .i64 x9, .int .i64 x10, .int .i64 x11, .int .i64 x12, .slice a0 L0.length c0] := Blk.call HP0.out hb
  have hR : Blk w1 (W.heap.size + 1) 43 #[.int .i64 0, .int .i64 0, .int .i64 0, .string ⟨#[]⟩, .int .i64 0, .int .i64 0, .int .i64 0, .int .i64 0, .int .i64 0, .int .i64 0, .int .i64 0, .int .i64 0, .int .i64 0, .slice none 0 0] := Blk.call HR0.out hb
  have hO : Blk w1 (W.heap.size + 1 + 1) 43 #[.int .i64 0, .int .i64 0, .int .i64 0, .string ⟨#[]⟩, .int .i64 0, .int .i64 0, .int .i64 0, .int .i64 0, .int .i64 0, .int .i64 0, .int .i64 0, .int .i64 0, .int .i64 0, .slice none 0 0] := Blk.call HO0.out hb
  have hz1 : W.heap.size + 3 ≤ w1.heap.size := Nat.le_trans hz0 (size_call hb (S := fun x => x < W.heap.size + 3) (Off.refl (fun x => x < W.heap.size + 3) _))
  have HB1 := Lib.hid (Below.trans (B := W.heap.size) (a := W) HB0.out (hb.mono (by have h0 := hz0; first | omega | (simp; omega))))
  have HP1 := Lib.hid hP
  have HR1 := Lib.hid hR
  have HO1 := Lib.hid hO
  clear h hb hP hR hO how
  have p1_0 := HP1.out.at_ 0 rfl
  have o1_0 := HO1.out.at_ 0 rfl
  have r1_0 := HR1.out.at_ 0 rfl
  have f1_0 := HO1.out.soft 0
  have g1_0 := HR1.out.soft 0
  have p1_1 := HP1.out.at_ 1 rfl
  have o1_1 := HO1.out.at_ 1 rfl
  have r1_1 := HR1.out.at_ 1 rfl
  have f1_1 := HO1.out.soft 1
  have g1_1 := HR1.out.soft 1
  have p1_2 := HP1.out.at_ 2 rfl
  have o1_2 := HO1.out.at_ 2 rfl
  have r1_2 := HR1.out.at_ 2 rfl
  have f1_2 := HO1.out.soft 2
  have g1_2 := HR1.out.soft 2
  have p1_3 := HP1.out.at_ 3 rfl
  have o1_3 := HO1.out.at_ 3 rfl
  have r1_3 := HR1.out.at_ 3 rfl
  have f1_3 := HO1.out.soft 3
  have g1_3 := HR1.out.soft 3
  have p1_4 := HP1.out.at_ 4 rfl
  have o1_4 := HO1.out.at_ 4 rfl
  have r1_4 := HR1.out.at_ 4 rfl
  have f1_4 := HO1.out.soft 4
  have g1_4 := HR1.out.soft 4
  have p1_5 := HP1.out.at_ 5 rfl
  have o1_5 := HO1.out.at_ 5 rfl
  have r1_5 := HR1.out.at_ 5 rfl
  have f1_5 := HO1.out.soft 5
  have g1_5 := HR1.out.soft 5
  have p1_6 := HP1.out.at_ 6 rfl
  have o1_6 := HO1.out.at_ 6 rfl
  have r1_6 := HR1.out.at_ 6 rfl
  have f1_6 := HO1.out.soft 6
  have g1_6 := HR1.out.soft 6
  have p1_7 := HP1.out.at_ 7 rfl
  have o1_7 := HO1.out.at_ 7 rfl
  have r1_7 := HR1.out.at_ 7 rfl
  have f1_7 := HO1.out.soft 7
  have g1_7 := HR1.out.soft 7
  have p1_8 := HP1.out.at_ 8 rfl
  have o1_8 := HO1.out.at_ 8 rfl
  have r1_8 := HR1.out.at_ 8 rfl
  have f1_8 := HO1.out.soft 8
  have g1_8 := HR1.out.soft 8
  have p1_9 := HP1.out.at_ 9 rfl
  have o1_9 := HO1.out.at_ 9 rfl
  have r1_9 := HR1.out.at_ 9 rfl
  have f1_9 := HO1.out.soft 9
  have g1_9 := HR1.out.soft 9
  have p1_10 := HP1.out.at_ 10 rfl
  have o1_10 := HO1.out.at_ 10 rfl
  have r1_10 := HR1.out.at_ 10 rfl
  have f1_10 := HO1.out.soft 10
  have g1_10 := HR1.out.soft 10
  have p1_11 := HP1.out.at_ 11 rfl
  have o1_11 := HO1.out.at_ 11 rfl
  have r1_11 := HR1.out.at_ 11 rfl
  have f1_11 := HO1.out.soft 11
  have g1_11 := HR1.out.soft 11
  have p1_12 := HP1.out.at_ 12 rfl
  have o1_12 := HO1.out.at_ 12 rfl
  have r1_12 := HR1.out.at_ 12 rfl
  have f1_12 := HO1.out.soft 12
  have g1_12 := HR1.out.soft 12
  have p1_13 := HP1.out.at_ 13 rfl
  have o1_13 := HO1.out.at_ 13 rfl
  have r1_13 := HR1.out.at_ 13 rfl
  have f1_13 := HO1.out.soft 13
  have g1_13 := HR1.out.soft 13
  go_wp2_with fail
  refine (to_Label (by have h0 := HSZ.out; simp only [R_Task, R_Label, Pr, Sl, I, Bo, St, atom] at h0 ⊢; omega)).mono ?_
  intro e w2 h
  obtain ⟨vs, rfl, how, hb⟩ := newV_elim h
  obtain rfl := ow0_Label how
  have hP : Blk w2 (W.heap.size) 39 #[.int .i64 x0, .int .i64 x1, .int .i64 x2, .string x3, .int .i64 x4, .int .i64 x5, .int .i64 x6, .int .i64 x7, .int .i64 x8, .int .i64 x9, .int .i64 x10, .int .i64 x11, .int .i64 x12, .slice a0 L0.length c0] := Blk.call (Blk.far (b := W.heap.size + 1 + 1) (o := 6) (Blk.far (b := W.heap.size + 1 + 1) (o := 5) (Blk.far (b := W.heap.size + 1 + 1) (o := 4) (Blk.far (b := W.heap.size + 1 + 1) (o := 3) (Blk.far (b := W.heap.size + 1 + 1) (o := 2) (Blk.far (b := W.heap.size + 1 + 1) (o := 1) (Blk.far (b := W.heap.size + 1 + 1) (o := 0) HP1.out (by omega) (.int .i64 x0)) (by omega) (.int .i64 x1)) (by omega) (.int .i64 x2)) (by omega) (.string x3)) (by omega) (.int .i64 x4)) (by omega) (.int .i64 x5)) (by omega) (.int .i64 x6)) hb
  have hR : Blk w2 (W.heap.size + 1) 43 #[.int .i64 0, .int .i64 0, .int .i64 0, .string ⟨#[]⟩, .int .i64 0, .int .i64 0, .int .i64 0, .int .i64 0, .int .i64 0, .int .i64 0, .int .i64 0, .int .i64 0, .int .i64 0, .slice none 0 0] := Blk.call (Blk.far (b := W.heap.size + 1 + 1) (o := 6) (Blk.far (b := W.heap.size + 1 + 1) (o := 5) (Blk.far (b := W.heap.size + 1 + 1) (o := 4) (Blk.far (b := W.heap.size + 1 + 1) (o := 3) (Blk.far (b := W.heap.size + 1 + 1) (o := 2) (Blk.far (b := W.heap.size + 1 + 1) (o := 1) (Blk.far (b := W.heap.size + 1 + 1) (o := 0) HR1.out (by omega) (.int .i64 x0)) (by omega) (.int .i64 x1)) (by omega) (.int .i64 x2)) (by omega) (.string x3)) (by omega) (.int .i64 x4)) (by omega) (.int .i64 x5)) (by omega) (.int .i64 x6)) hb
  have hO : Blk w2 (W.heap.size + 1 + 1) 43 #[.int .i64 x0, .int .i64 x1, .int .i64 x2, .string x3, .int .i64 x4, .int .i64 x5, .int .i64 x6, .int .i64 0, .int .i64 0, .int .i64 0, .int .i64 0, .int .i64 0, .int .i64 0, .slice none 0 0] := Blk.call (Blk.set (Blk.set (Blk.set (Blk.set (Blk.set (Blk.set (Blk.set HO1.out 0 (.int .i64 x0)) 1 (.int .i64 x1)) 2 (.int .i64 x2)) 3 (.string x3)) 4 (.int .i64 x4)) 5 (.int .i64 x5)) 6 (.int .i64 x6)) hb
  have hz2 : W.heap.size + 3 ≤ w2.heap.size := Nat.le_trans hz1 (size_call hb (S := fun x => x < W.heap.size + 3) ((((((((Off.refl (fun x => x < W.heap.size + 3) w1).setCell (p := ⟨W.heap.size + 1 + 1, 0, none⟩) (by show W.heap.size + 1 + 1 < W.heap.size + 3; omega) (.int .i64 x0)).setCell (p := ⟨W.heap.size + 1 + 1, 1, none⟩) (by show W.heap.size + 1 + 1 < W.heap.size + 3; omega) (.int .i64 x1)).setCell (p := ⟨W.heap.size + 1 + 1, 2, none⟩) (by show W.heap.size + 1 + 1 < W.heap.size + 3; omega) (.int .i64 x2)).setCell (p := ⟨W.heap.size + 1 + 1, 3, none⟩) (by show W.heap.size + 1 + 1 < W.heap.size + 3; omega) (.string x3)).setCell (p := ⟨W.heap.size + 1 + 1, 4, none⟩) (by show W.heap.size + 1 + 1 < W.heap.size + 3; omega) (.int .i64 x4)).setCell (p := ⟨W.heap.size + 1 + 1, 5, none⟩) (by show W.heap.size + 1 + 1 < W.heap.size + 3; omega) (.int .i64 x5)).setCell (p := ⟨W.heap.size + 1 + 1, 6, none⟩) (by show W.heap.size + 1 + 1 < W.heap.size + 3; omega) (.int .i64 x6)))
  have HB2 := Lib.hid (Below.trans (B := W.heap.size) (a := W) (((((((HB1.out.setCell (p := ⟨W.heap.size + 1 + 1, 0, none⟩) (by show W.heap.size ≤ W.heap.size + 1 + 1; omega) (.int .i64 x0)).setCell (p := ⟨W.heap.size + 1 + 1, 1, none⟩) (by show W.heap.size ≤ W.heap.size + 1 + 1; omega) (.int .i64 x1)).setCell (p := ⟨W.heap.size + 1 + 1, 2, none⟩) (by show W.heap.size ≤ W.heap.size + 1 + 1; omega) (.int .i64 x2)).setCell (p := ⟨W.heap.size + 1 + 1, 3, none⟩) (by show W.heap.size ≤ W.heap.size + 1 + 1; omega) (.string x3)).setCell (p := ⟨W.heap.size + 1 + 1, 4, none⟩) (by show W.heap.size ≤ W.heap.size + 1 + 1; omega) (.int .i64 x4)).setCell (p := ⟨W.heap.size + 1 + 1, 5, none⟩) (by show W.heap.size ≤ W.heap.size + 1 + 1; omega) (.int .i64 x5)).setCell (p := ⟨W.heap.size + 1 + 1, 6, none⟩) (by show W.heap.size ≤ W.heap.size + 1 + 1; omega) (.int .i64 x6)) (hb.mono (by have h0 := hz1; first | omega | (simp; omega))))
  have hle2 := size_call hb ((((((((Off.refl (fun x => x < W.heap.size + 3) w1).setCell (p := ⟨W.heap.size + 1 + 1, 0, none⟩) (by show W.heap.size + 1 + 1 < W.heap.size + 3; omega) (.int .i64 x0)).setCell (p := ⟨W.heap.size + 1 + 1, 1, none⟩) (by show W.heap.size + 1 + 1 < W.heap.size + 3; omega) (.int .i64 x1)).setCell (p := ⟨W.heap.size + 1 + 1, 2, none⟩) (by show W.heap.size + 1 + 1 < W.heap.size + 3; omega) (.int .i64 x2)).setCell (p := ⟨W.heap.size + 1 + 1, 3, none⟩) (by show W.heap.size + 1 + 1 < W.heap.size + 3; omega) (.string x3)).setCell (p := ⟨W.heap.size + 1 + 1, 4, none⟩) (by show W.heap.size + 1 + 1 < W.heap.size + 3; omega) (.int .i64 x4)).setCell (p := ⟨W.heap.size + 1 + 1, 5, none⟩) (by show W.heap.size + 1 + 1 < W.heap.size + 3; omega) (.int .i64 x5)).setCell (p := ⟨W.heap.size + 1 + 1, 6, none⟩) (by show W.heap.size + 1 + 1 < W.heap.size + 3; omega) (.int .i64 x6))
  have HP2 := Lib.hid hP
  have HR2 := Lib.hid hR
  have HO2 := Lib.hid hO
  clear h hb hP hR hO how
  clear p1_0 o1_0 r1_0 f1_0 g1_0 p1_1 o1_1 r1_1 f1_1 g1_1 p1_2 o1_2 r1_2 f1_2 g1_2 p1_3 o1_3 r1_3 f1_3 g1_3 p1_4 o1_4 r1_4 f1_4 g1_4 p1_5 o1_5 r1_5 f1_5 g1_5 p1_6 o1_6 r1_6 f1_6 g1_6 p1_7 o1_7 r1_7 f1_7 g1_7 p1_8 o1_8 r1_8 f1_8 g1_8 p1_9 o1_9 r1_9 f1_9 g1_9 p1_10 o1_10 r1_10 f1_10 g1_10 p1_11 o1_11 r1_11 f1_11 g1_11 p1_12 o1_12 r1_12 f1_12 g1_12 p1_13 o1_13 r1_13 f1_13 g1_13
  have p2_0 := HP2.out.at_ 0 rfl
  have o2_0 := HO2.out.at_ 0 rfl
  have r2_0 := HR2.out.at_ 0 rfl
  have f2_0 := HO2.out.soft 0
  have g2_0 := HR2.out.soft 0
  have p2_1 := HP2.out.at_ 1 rfl
  have o2_1 := HO2.out.at_ 1 rfl
  have r2_1 := HR2.out.at_ 1 rfl
  have f2_1 := HO2.out.soft 1
  have g2_1 := HR2.out.soft 1
  have p2_2 := HP2.out.at_ 2 rfl
  have o2_2 := HO2.out.at_ 2 rfl
  have r2_2 := HR2.out.at_ 2 rfl
  have f2_2 := HO2.out.soft 2
  have g2_2 := HR2.out.soft 2
  have p2_3 := HP2.out.at_ 3 rfl
  have o2_3 := HO2.out.at_ 3 rfl
  have r2_3 := HR2.out.at_ 3 rfl
  have f2_3 := HO2.out.soft 3
  have g2_3 := HR2.out.soft 3
  have p2_4 := HP2.out.at_ 4 rfl
  have o2_4 := HO2.out.at_ 4 rfl
  have r2_4 := HR2.out.at_ 4 rfl
  have f2_4 := HO2.out.soft 4
  have g2_4 := HR2.out.soft 4
  have p2_5 := HP2.out.at_ 5 rfl
  have o2_5 := HO2.out.at_ 5 rfl
  have r2_5 := HR2.out.at_ 5 rfl
  have f2_5 := HO2.out.soft 5
  have g2_5 := HR2.out.soft 5
  have p2_6 := HP2.out.at_ 6 rfl
  have o2_6 := HO2.out.at_ 6 rfl
  have r2_6 := HR2.out.at_ 6 rfl
  have f2_6 := HO2.out.soft 6
  have g2_6 := HR2.out.soft 6
  have p2_7 := HP2.out.at_ 7 rfl
  have o2_7 := HO2.out.at_ 7 rfl
  have r2_7 := HR2.out.at_ 7 rfl
  have f2_7 := HO2.out.soft 7
  have g2_7 := HR2.out.soft 7
  have p2_8 := HP2.out.at_ 8 rfl
  have o2_8 := HO2.out.at_ 8 rfl
  have r2_8 := HR2.out.at_ 8 rfl
  have f2_8 := HO2.out.soft 8
  have g2_8 := HR2.out.soft 8
  have p2_9 := HP2.out.at_ 9 rfl
  have o2_9 := HO2.out.at_ 9 rfl
  have r2_9 := HR2.out.at_ 9 rfl
  have f2_9 := HO2.out.soft 9
  have g2_9 := HR2.out.soft 9
  have p2_10 := HP2.out.at_ 10 rfl
  have o2_10 := HO2.out.at_ 10 rfl
  have r2_10 := HR2.out.at_ 10 rfl
  have f2_10 := HO2.out.soft 10
  have g2_10 := HR2.out.soft 10
  have p2_11 := HP2.out.at_ 11 rfl
  have o2_11 := HO2.out.at_ 11 rfl
  have r2_11 := HR2.out.at_ 11 rfl
  have f2_11 := HO2.out.soft 11
  have g2_11 := HR2.out.soft 11
  have p2_12 := HP2.out.at_ 12 rfl
  have o2_12 := HO2.out.at_ 12 rfl
  have r2_12 := HR2.out.at_ 12 rfl
  have f2_12 := HO2.out.soft 12
  have g2_12 := HR2.out.soft 12
  have p2_13 := HP2.out.at_ 13 rfl
  have o2_13 := HO2.out.at_ 13 rfl
  have r2_13 := HR2.out.at_ 13 rfl
  have f2_13 := HO2.out.soft 13
  have g2_13 := HR2.out.soft 13
  go_wp2_with fail
  refine (to_Int64S (by have h0 := HSZ.out; simp only [R_Task, Pr, Sl, I, Bo, St, atom] at h0 ⊢; omega) ((H_L0.out.below I_ok ((((((HB2.out.setCell (p := ⟨W.heap.size + 1 + 1, 7, none⟩) (by show W.heap.size ≤ W.heap.size + 1 + 1; omega) (.int .i64 x7)).setCell (p := ⟨W.heap.size + 1 + 1, 8, none⟩) (by show W.heap.size ≤ W.heap.size + 1 + 1; omega) (.int .i64 x8)).setCell (p := ⟨W.heap.size + 1 + 1, 9, none⟩) (by show W.heap.size ≤ W.heap.size + 1 + 1; omega) (.int .i64 x9)).setCell (p := ⟨W.heap.size + 1 + 1, 10, none⟩) (by show W.heap.size ≤ W.heap.size + 1 + 1; omega) (.int .i64 x10)).setCell (p := ⟨W.heap.size + 1 + 1, 11, none⟩) (by show W.heap.size ≤ W.heap.size + 1 + 1; omega) (.int .i64 x11)).setCell (p := ⟨W.heap.size + 1 + 1, 12, none⟩) (by show W.heap.size ≤ W.heap.size + 1 + 1; omega) (.int .i64 x12))).more I_ok (by have h0 := hz2; first | omega | (simp; omega)))).mono ?_
  intro e w3 h
  obtain ⟨b_L0, d_L0, rfl, how_L0, hb⟩ := newS_elim h
  have hP : Blk w3 (W.heap.size) 39 #[.int .i64 x0, .int .i64 x1, .int .i64 x2, .string x3, .int .i64 x4, .int .i64 x5, .int .i64 x6, .int .i64 x7, .int .i64 x8, .int .i64 x9, .int .i64 x10, .int .i64 x11, .int .i64 x12, .slice a0 L0.length c0] := Blk.call (Blk.far (b := W.heap.size + 1 + 1) (o := 12) (Blk.far (b := W.heap.size + 1 + 1) (o := 11) (Blk.far (b := W.heap.size + 1 + 1) (o := 10) (Blk.far (b := W.heap.size + 1 + 1) (o := 9) (Blk.far (b := W.heap.size + 1 + 1) (o := 8) (Blk.far (b := W.heap.size + 1 + 1) (o := 7) HP2.out (by omega) (.int .i64 x7)) (by omega) (.int .i64 x8)) (by omega) (.int .i64 x9)) (by omega) (.int .i64 x10)) (by omega) (.int .i64 x11)) (by omega) (.int .i64 x12)) hb
  have hR : Blk w3 (W.heap.size + 1) 43 #[.int .i64 0, .int .i64 0, .int .i64 0, .string ⟨#[]⟩, .int .i64 0, .int .i64 0, .int .i64 0, .int .i64 0, .int .i64 0, .int .i64 0, .int .i64 0, .int .i64 0, .int .i64 0, .slice none 0 0] := Blk.call (Blk.far (b := W.heap.size + 1 + 1) (o := 12) (Blk.far (b := W.heap.size + 1 + 1) (o := 11) (Blk.far (b := W.heap.size + 1 + 1) (o := 10) (Blk.far (b := W.heap.size + 1 + 1) (o := 9) (Blk.far (b := W.heap.size + 1 + 1) (o := 8) (Blk.far (b := W.heap.size + 1 + 1) (o := 7) HR2.out (by omega) (.int .i64 x7)) (by omega) (.int .i64 x8)) (by omega) (.int .i64 x9)) (by omega) (.int .i64 x10)) (by omega) (.int .i64 x11)) (by omega) (.int .i64 x12)) hb
  have hO : Blk w3 (W.heap.size + 1 + 1) 43 #[.int .i64 x0, .int .i64 x1, .int .i64 x2, .string x3, .int .i64 x4, .int .i64 x5, .int .i64 x6, .int .i64 x7, .int .i64 x8, .int .i64 x9, .int .i64 x10, .int .i64 x11, .int .i64 x12, .slice none 0 0] := Blk.call (Blk.set (Blk.set (Blk.set (Blk.set (Blk.set (Blk.set HO2.out 7 (.int .i64 x7)) 8 (.int .i64 x8)) 9 (.int .i64 x9)) 10 (.int .i64 x10)) 11 (.int .i64 x11)) 12 (.int .i64 x12)) hb
  have hz3 : W.heap.size + 3 ≤ w3.heap.size := Nat.le_trans hz2 (size_call hb (S := fun x => x < W.heap.size + 3) (((((((Off.refl (fun x => x < W.heap.size + 3) w2).setCell (p := ⟨W.heap.size + 1 + 1, 7, none⟩) (by show W.heap.size + 1 + 1 < W.heap.size + 3; omega) (.int .i64 x7)).setCell (p := ⟨W.heap.size + 1 + 1, 8, none⟩) (by show W.heap.size + 1 + 1 < W.heap.size + 3; omega) (.int .i64 x8)).setCell (p := ⟨W.heap.size + 1 + 1, 9, none⟩) (by show W.heap.size + 1 + 1 < W.heap.size + 3; omega) (.int .i64 x9)).setCell (p := ⟨W.heap.size + 1 + 1, 10, none⟩) (by show W.heap.size + 1 + 1 < W.heap.size + 3; omega) (.int .i64 x10)).setCell (p := ⟨W.heap.size + 1 + 1, 11, none⟩) (by show W.heap.size + 1 + 1 < W.heap.size + 3; omega) (.int .i64 x11)).setCell (p := ⟨W.heap.size + 1 + 1, 12, none⟩) (by show W.heap.size + 1 + 1 < W.heap.size + 3; omega) (.int .i64 x12)))
  have HB3 := Lib.hid (Below.trans (B := W.heap.size) (a := W) ((((((HB2.out.setCell (p := ⟨W.heap.size + 1 + 1, 7, none⟩) (by show W.heap.size ≤ W.heap.size + 1 + 1; omega) (.int .i64 x7)).setCell (p := ⟨W.heap.size + 1 + 1, 8, none⟩) (by show W.heap.size ≤ W.heap.size + 1 + 1; omega) (.int .i64 x8)).setCell (p := ⟨W.heap.size + 1 + 1, 9, none⟩) (by show W.heap.size ≤ W.heap.size + 1 + 1; omega) (.int .i64 x9)).setCell (p := ⟨W.heap.size + 1 + 1, 10, none⟩) (by show W.heap.size ≤ W.heap.size + 1 + 1; omega) (.int .i64 x10)).setCell (p := ⟨W.heap.size + 1 + 1, 11, none⟩) (by show W.heap.size ≤ W.heap.size + 1 + 1; omega) (.int .i64 x11)).setCell (p := ⟨W.heap.size + 1 + 1, 12, none⟩) (by show W.heap.size ≤ W.heap.size + 1 + 1; omega) (.int .i64 x12)) (hb.mono (by have h0 := hz2; first | omega | (simp; omega))))
  have HO_L0 := Lib.hid how_L0
  have HL_L0 := Lib.hid (fun k hk => rg_call hb (m := W.heap.size + 3) (by have h0 := hz2; first | omega | (simp; omega)) k hk)
  have HU_L0 := Lib.hid (rg_call hb (m := 0) (Nat.zero_le _))
  have HG_L0 := Lib.hid (lo_of hb (((((((Off.refl (fun x => x < W.heap.size + 3) w2).setCell (p := ⟨W.heap.size + 1 + 1, 7, none⟩) (by show W.heap.size + 1 + 1 < W.heap.size + 3; omega) (.int .i64 x7)).setCell (p := ⟨W.heap.size + 1 + 1, 8, none⟩) (by show W.heap.size + 1 + 1 < W.heap.size + 3; omega) (.int .i64 x8)).setCell (p := ⟨W.heap.size + 1 + 1, 9, none⟩) (by show W.heap.size + 1 + 1 < W.heap.size + 3; omega) (.int .i64 x9)).setCell (p := ⟨W.heap.size + 1 + 1, 10, none⟩) (by show W.heap.size + 1 + 1 < W.heap.size + 3; omega) (.int .i64 x10)).setCell (p := ⟨W.heap.size + 1 + 1, 11, none⟩) (by show W.heap.size + 1 + 1 < W.heap.size + 3; omega) (.int .i64 x11)).setCell (p := ⟨W.heap.size + 1 + 1, 12, none⟩) (by show W.heap.size + 1 + 1 < W.heap.size + 3; omega) (.int .i64 x12)))
  have hle3 := size_call hb (((((((Off.refl (fun x => x < W.heap.size + 3) w2).setCell (p := ⟨W.heap.size + 1 + 1, 7, none⟩) (by show W.heap.size + 1 + 1 < W.heap.size + 3; omega) (.int .i64 x7)).setCell (p := ⟨W.heap.size + 1 + 1, 8, none⟩) (by show W.heap.size + 1 + 1 < W.heap.size + 3; omega) (.int .i64 x8)).setCell (p := ⟨W.heap.size + 1 + 1, 9, none⟩) (by show W.heap.size + 1 + 1 < W.heap.size + 3; omega) (.int .i64 x9)).setCell (p := ⟨W.heap.size + 1 + 1, 10, none⟩) (by show W.heap.size + 1 + 1 < W.heap.size + 3; omega) (.int .i64 x10)).setCell (p := ⟨W.heap.size + 1 + 1, 11, none⟩) (by show W.heap.size + 1 + 1 < W.heap.size + 3; omega) (.int .i64 x11)).setCell (p := ⟨W.heap.size + 1 + 1, 12, none⟩) (by show W.heap.size + 1 + 1 < W.heap.size + 3; omega) (.int .i64 x12))
  have HP3 := Lib.hid hP
  have HR3 := Lib.hid hR
  have HO3 := Lib.hid hO
  clear h hb hP hR hO how_L0
  clear p2_0 o2_0 r2_0 f2_0 g2_0 p2_1 o2_1 r2_1 f2_1 g2_1 p2_2 o2_2 r2_2 f2_2 g2_2 p2_3 o2_3 r2_3 f2_3 g2_3 p2_4 o2_4 r2_4 f2_4 g2_4 p2_5 o2_5 r2_5 f2_5 g2_5 p2_6 o2_6 r2_6 f2_6 g2_6 p2_7 o2_7 r2_7 f2_7 g2_7 p2_8 o2_8 r2_8 f2_8 g2_8 p2_9 o2_9 r2_9 f2_9 g2_9 p2_10 o2_10 r2_10 f2_10 g2_10 p2_11 o2_11 r2_11 f2_11 g2_11 p2_12 o2_12 r2_12 f2_12 g2_12 p2_13 o2_13 r2_13 f2_13 g2_13
  have p3_0 := HP3.out.at_ 0 rfl
  have o3_0 := HO3.out.at_ 0 rfl
  have r3_0 := HR3.out.at_ 0 rfl
  have f3_0 := HO3.out.soft 0
  have g3_0 := HR3.out.soft 0
  have p3_1 := HP3.out.at_ 1 rfl
  have o3_1 := HO3.out.at_ 1 rfl
  have r3_1 := HR3.out.at_ 1 rfl
  have f3_1 := HO3.out.soft 1
  have g3_1 := HR3.out.soft 1
  have p3_2 := HP3.out.at_ 2 rfl
  have o3_2 := HO3.out.at_ 2 rfl
  have r3_2 := HR3.out.at_ 2 rfl
  have f3_2 := HO3.out.soft 2
  have g3_2 := HR3.out.soft 2
  have p3_3 := HP3.out.at_ 3 rfl
  have o3_3 := HO3.out.at_ 3 rfl
  have r3_3 := HR3.out.at_ 3 rfl
  have f3_3 := HO3.out.soft 3
  have g3_3 := HR3.out.soft 3
  have p3_4 := HP3.out.at_ 4 rfl
  have o3_4 := HO3.out.at_ 4 rfl
  have r3_4 := HR3.out.at_ 4 rfl
  have f3_4 := HO3.out.soft 4
  have g3_4 := HR3.out.soft 4
  have p3_5 := HP3.out.at_ 5 rfl
  have o3_5 := HO3.out.at_ 5 rfl
  have r3_5 := HR3.out.at_ 5 rfl
  have f3_5 := HO3.out.soft 5
  have g3_5 := HR3.out.soft 5
  have p3_6 := HP3.out.at_ 6 rfl
  have o3_6 := HO3.out.at_ 6 rfl
  have r3_6 := HR3.out.at_ 6 rfl
  have f3_6 := HO3.out.soft 6
  have g3_6 := HR3.out.soft 6
  have p3_7 := HP3.out.at_ 7 rfl
  have o3_7 := HO3.out.at_ 7 rfl
  have r3_7 := HR3.out.at_ 7 rfl
  have f3_7 := HO3.out.soft 7
  have g3_7 := HR3.out.soft 7
  have p3_8 := HP3.out.at_ 8 rfl
  have o3_8 := HO3.out.at_ 8 rfl
  have r3_8 := HR3.out.at_ 8 rfl
  have f3_8 := HO3.out.soft 8
  have g3_8 := HR3.out.soft 8
  have p3_9 := HP3.out.at_ 9 rfl
  have o3_9 := HO3.out.at_ 9 rfl
  have r3_9 := HR3.out.at_ 9 rfl
  have f3_9 := HO3.out.soft 9
  have g3_9 := HR3.out.soft 9
  have p3_10 := HP3.out.at_ 10 rfl
  have o3_10 := HO3.out.at_ 10 rfl
  have r3_10 := HR3.out.at_ 10 rfl
  have f3_10 := HO3.out.soft 10
  have g3_10 := HR3.out.soft 10
  have p3_11 := HP3.out.at_ 11 rfl
  have o3_11 := HO3.out.at_ 11 rfl
  have r3_11 := HR3.out.at_ 11 rfl
  have f3_11 := HO3.out.soft 11
  have g3_11 := HR3.out.soft 11
  have p3_12 := HP3.out.at_ 12 rfl
  have o3_12 := HO3.out.at_ 12 rfl
  have r3_12 := HR3.out.at_ 12 rfl
  have f3_12 := HO3.out.soft 12
  have g3_12 := HR3.out.soft 12
  have p3_13 := HP3.out.at_ 13 rfl
  have o3_13 := HO3.out.at_ 13 rfl
  have r3_13 := HR3.out.at_ 13 rfl
  have f3_13 := HO3.out.soft 13
  have g3_13 := HR3.out.soft 13
  go_wp2
  refine bodyPost_ret (v := .agg #[.int .i64 x0, .int .i64 x1, .int .i64 x2, .string x3, .int .i64 x4, .int .i64 x5, .int .i64 x6, .int .i64 x7, .int .i64 x8, .int .i64 x9, .int .i64 x10, .int .i64 x11, .int .i64 x12, .slice b_L0 L0.length d_L0]) (by simp [results, Try.results25, go_sem, *]) rfl ⟨[.int .i64 x0, .int .i64 x1, .int .i64 x2, .string x3, .int .i64 x4, .int .i64 x5, .int .i64 x6, .int .i64 x7, .int .i64 x8, .int .i64 x9, .int .i64 x10, .int .i64 x11, .int .i64 x12, .slice b_L0 L0.length d_L0], rfl, ?_, (((((((((((((((HB3.out.setCell (p := ⟨W.heap.size + 1 + 1, 13, none⟩) (by show W.heap.size ≤ W.heap.size + 1 + 1; omega) (.slice b_L0 L0.length d_L0)).setCell (p := ⟨W.heap.size + 1, 0, none⟩) (by show W.heap.size ≤ W.heap.size + 1; omega) (.int .i64 x0)).setCell (p := ⟨W.heap.size + 1, 1, none⟩) (by show W.heap.size ≤ W.heap.size + 1; omega) (.int .i64 x1)).setCell (p := ⟨W.heap.size + 1, 2, none⟩) (by show W.heap.size ≤ W.heap.size + 1; omega) (.int .i64 x2)).setCell (p := ⟨W.heap.size + 1, 3, none⟩) (by show W.heap.size ≤ W.heap.size + 1; omega) (.string x3)).setCell (p := ⟨W.heap.size + 1, 4, none⟩) (by show W.heap.size ≤ W.heap.size + 1; omega) (.int .i64 x4)).setCell (p := ⟨W.heap.size + 1, 5, none⟩) (by show W.heap.size ≤ W.heap.size + 1; omega) (.int .i64 x5)).setCell (p := ⟨W.heap.size + 1, 6, none⟩) (by show W.heap.size ≤ W.heap.size + 1; omega) (.int .i64 x6)).setCell (p := ⟨W.heap.size + 1, 7, none⟩) (by show W.heap.size ≤ W.heap.size + 1; omega) (.int .i64 x7)).setCell (p := ⟨W.heap.size + 1, 8, none⟩) (by show W.heap.size ≤ W.heap.size + 1; omega) (.int .i64 x8)).setCell (p := ⟨W.heap.size + 1, 9, none⟩) (by show W.heap.size ≤ W.heap.size + 1; omega) (.int .i64 x9)).setCell (p := ⟨W.heap.size + 1, 10, none⟩) (by show W.heap.size ≤ W.heap.size + 1; omega) (.int .i64 x10)).setCell (p := ⟨W.heap.size + 1, 11, none⟩) (by show W.heap.size ≤ W.heap.size + 1; omega) (.int .i64 x11)).setCell (p := ⟨W.heap.size + 1, 12, none⟩) (by show W.heap.size ≤ W.heap.size + 1; omega) (.int .i64 x12)).setCell (p := ⟨W.heap.size + 1, 13, none⟩) (by show W.heap.size ≤ W.heap.size + 1; omega) (.slice b_L0 L0.length d_L0))⟩
  have hoff := ((((((((((((((((Off.refl (fun x => x < W.heap.size + 3) w3).setCell (p := ⟨W.heap.size + 1 + 1, 13, none⟩) (by show W.heap.size + 1 + 1 < W.heap.size + 3; omega) (.slice b_L0 L0.length d_L0)).setCell (p := ⟨W.heap.size + 1, 0, none⟩) (by show W.heap.size + 1 < W.heap.size + 3; omega) (.int .i64 x0)).setCell (p := ⟨W.heap.size + 1, 1, none⟩) (by show W.heap.size + 1 < W.heap.size + 3; omega) (.int .i64 x1)).setCell (p := ⟨W.heap.size + 1, 2, none⟩) (by show W.heap.size + 1 < W.heap.size + 3; omega) (.int .i64 x2)).setCell (p := ⟨W.heap.size + 1, 3, none⟩) (by show W.heap.size + 1 < W.heap.size + 3; omega) (.string x3)).setCell (p := ⟨W.heap.size + 1, 4, none⟩) (by show W.heap.size + 1 < W.heap.size + 3; omega) (.int .i64 x4)).setCell (p := ⟨W.heap.size + 1, 5, none⟩) (by show W.heap.size + 1 < W.heap.size + 3; omega) (.int .i64 x5)).setCell (p := ⟨W.heap.size + 1, 6, none⟩) (by show W.heap.size + 1 < W.heap.size + 3; omega) (.int .i64 x6)).setCell (p := ⟨W.heap.size + 1, 7, none⟩) (by show W.heap.size + 1 < W.heap.size + 3; omega) (.int .i64 x7)).setCell (p := ⟨W.heap.size + 1, 8, none⟩) (by show W.heap.size + 1 < W.heap.size + 3; omega) (.int .i64 x8)).setCell (p := ⟨W.heap.size + 1, 9, none⟩) (by show W.heap.size + 1 < W.heap.size + 3; omega) (.int .i64 x9)).setCell (p := ⟨W.heap.size + 1, 10, none⟩) (by show W.heap.size + 1 < W.heap.size + 3; omega) (.int .i64 x10)).setCell (p := ⟨W.heap.size + 1, 11, none⟩) (by show W.heap.size + 1 < W.heap.size + 3; omega) (.int .i64 x11)).setCell (p := ⟨W.heap.size + 1, 12, none⟩) (by show W.heap.size + 1 < W.heap.size + 3; omega) (.int .i64 x12)).setCell (p := ⟨W.heap.size + 1, 13, none⟩) (by show W.heap.size + 1 < W.heap.size + 3; omega) (.slice b_L0 L0.length d_L0))
  have hsz := hoff.size
  exact mkow_Task (fun k hk => ⟨by have := (HL_L0.out k hk).1; omega, by have := (HL_L0.out k hk).2; omega⟩) (HO_L0.out.keep I_ok (fun k hk => hoff.block k (HL_L0.out k hk).2 (by have := (HL_L0.out k hk).1; omega))) b_x3
theorem size_TaskS : (R_Task).size = 14 := rfl
def zs_TaskS (n : Nat) : Array Value := madeCells #[.int .i64 0, .int .i64 0, .int .i64 0, .string ⟨#[]⟩, .int .i64 0, .int .i64 0, .int .i64 0, .int .i64 0, .int .i64 0, .int .i64 0, .int .i64 0, .int .i64 0, .int .i64 0, .slice none 0 0] (n * 14)
theorem zs_TaskS_size (n : Nat) : (zs_TaskS n).size = n * (R_Task).size := by unfold zs_TaskS; simp [madeCells, size_TaskS]
theorem make_TaskS (n : Nat) (hn : n ≤ 1048576) : ∀ W : World, (Instr.makeSlice 50 (.int .i64 (n : Int)) (.int .i64 (n : Int))).run Try.prog W = .ok (.slice (some ⟨W.heap.size, 0, none⟩) n n) (W.alloc (.cells (zs_TaskS n) 43)) := by
  intro W
  obtain ⟨i, hi, hz, hs, hb⟩ : ∃ i, Try.prog.info? 43 = some i ∧ i.zero = some (.agg #[.int .i64 0, .int .i64 0, .int .i64 0, .string ⟨#[]⟩, .int .i64 0, .int .i64 0, .int .i64 0, .int .i64 0, .int .i64 0, .int .i64 0, .int .i64 0, .int .i64 0, .int .i64 0, .slice none 0 0]) ∧ i.size = 14 ∧ i.bytes = 136 := by
    have h : (Try.prog.info? 43).map (fun i => (i.zero, i.size, i.bytes)) = some (some (.agg #[.int .i64 0, .int .i64 0, .int .i64 0, .string ⟨#[]⟩, .int .i64 0, .int .i64 0, .int .i64 0, .int .i64 0, .int .i64 0, .int .i64 0, .int .i64 0, .int .i64 0, .int .i64 0, .slice none 0 0]), 14, 136) := by kernel_rfl
    cases hx : Try.prog.info? 43 with
    | none => rw [hx] at h; simp at h
    | some i => rw [hx] at h; simp at h; exact ⟨i, rfl, h.1, h.2.1, h.2.2⟩
  have hr := run_make (P := Try.prog) W 50 43 i _ Try.underlying50 hi hz .i64 .i64 n n (by omega) (by omega) (by rw [hb]; omega) (by omega)
  rw [hs] at hr
  simp only [Int.toNat_natCast] at hr
  exact hr
set_option maxRecDepth 100000 in
set_option maxHeartbeats 3200000 in
theorem to_TaskS {L : List (D_Task)} {a : Option Addr} {cap : Nat} {W : World} (hsz : ((Sl R_Task)).sz L ≤ 1048576) (h : RdSl R_Task W W.heap.size L a cap) : Calls Try.prog 30 #[.slice a L.length cap] W (NewS R_Task L W) := by
  have hn : L.length ≤ 1048576 := Nat.le_trans (Nat.le_add_right _ _) hsz
  have hmk := make_TaskS L.length hn
  have H := Lib.hid h
  have HSZ := Lib.hid hsz
  clear h hsz
  go_enter Try.func30, Try.ntmps30
  go_wp2
  go_loopw [4] (fun i wr => ∃ k : Nat, k ≤ L.length ∧ i = .int .i64 k ∧ ∃ Sf, Fil R_Task W wr L W.heap.size Sf k) (fun i _ => L.length - (intOf i).toNat)
  case atStart => exact ⟨0, Nat.zero_le _, rfl, _, Fil.new (by exact zs_TaskS_size _)⟩
  case round =>
    obtain ⟨k, hk, rfl, Sf, hF⟩ := hrel
    have HF := Lib.hid hF
    by_cases hlt : k < L.length
    · obtain ⟨⟨⟨x0, x1⟩, x2, x3, x4, x5, x6, ⟨x7, x8⟩, x9, x10, x11, x12, L0⟩, hx⟩ := el_some hlt
      have HX := Lib.hid hx
      obtain ⟨g, o, us, rfl, hg, hu, hr⟩ := (H.out.below R_Task_ok hF.below).at_ hx
      obtain ⟨a0, c0, rfl, k_L0, b_x3⟩ := rd_Task hr
      have e0 : wr.cell? ⟨g, o + k * 14, none⟩ = some (.int .i64 x0) := by simpa [size_TaskS, Nat.add_assoc] using hu 0 _ rfl
      have e1 : wr.cell? ⟨g, o + k * 14 + 1, none⟩ = some (.int .i64 x1) := by simpa [size_TaskS, Nat.add_assoc] using hu 1 _ rfl
      have e2 : wr.cell? ⟨g, o + k * 14 + 2, none⟩ = some (.int .i64 x2) := by simpa [size_TaskS, Nat.add_assoc] using hu 2 _ rfl
      have e3 : wr.cell? ⟨g, o + k * 14 + 3, none⟩ = some (.string x3) := by simpa [size_TaskS, Nat.add_assoc] using hu 3 _ rfl
      have e4 : wr.cell? ⟨g, o + k * 14 + 4, none⟩ = some (.int .i64 x4) := by simpa [size_TaskS, Nat.add_assoc] using hu 4 _ rfl
      have e5 : wr.cell? ⟨g, o + k * 14 + 5, none⟩ = some (.int .i64 x5) := by simpa [size_TaskS, Nat.add_assoc] using hu 5 _ rfl
      have e6 : wr.cell? ⟨g, o + k * 14 + 6, none⟩ = some (.int .i64 x6) := by simpa [size_TaskS, Nat.add_assoc] using hu 6 _ rfl
      have e7 : wr.cell? ⟨g, o + k * 14 + 7, none⟩ = some (.int .i64 x7) := by simpa [size_TaskS, Nat.add_assoc] using hu 7 _ rfl
      have e8 : wr.cell? ⟨g, o + k * 14 + 8, none⟩ = some (.int .i64 x8) := by simpa [size_TaskS, Nat.add_assoc] using hu 8 _ rfl
      have e9 : wr.cell? ⟨g, o + k * 14 + 9, none⟩ = some (.int .i64 x9) := by simpa [size_TaskS, Nat.add_assoc] using hu 9 _ rfl
      have e10 : wr.cell? ⟨g, o + k * 14 + 10, none⟩ = some (.int .i64 x10) := by simpa [size_TaskS, Nat.add_assoc] using hu 10 _ rfl
      have e11 : wr.cell? ⟨g, o + k * 14 + 11, none⟩ = some (.int .i64 x11) := by simpa [size_TaskS, Nat.add_assoc] using hu 11 _ rfl
      have e12 : wr.cell? ⟨g, o + k * 14 + 12, none⟩ = some (.int .i64 x12) := by simpa [size_TaskS, Nat.add_assoc] using hu 12 _ rfl
      have e13 : wr.cell? ⟨g, o + k * 14 + 13, none⟩ = some (.slice a0 L0.length c0) := by simpa [size_TaskS, Nat.add_assoc] using hu 13 _ rfl
      have hi0 : (0 : Int) ≤ (k : Int) := Int.natCast_nonneg _
      have hi1 : (k : Int) < (L.length : Int) := by omega
      have HE := Lib.hid (sz_at (f := (R_Task).sz) HX.out HSZ.out)
      have HK_L0 := Lib.hid (k_L0.more I_ok (Nat.le_of_lt HF.out.lt))
      clear hF hx hu hmk k_L0
      go_wp2_with fail
      refine (to_Task (by exact HE.out) (by exact HK_L0.out) b_x3).mono ?_
      intro e w1 h
      obtain ⟨vs, rfl, how, hb⟩ := newV_elim h
      have HOW := Lib.hid how
      obtain ⟨b0, d0, T0, rfl, _⟩ := ow_Task how
      have HP := Lib.hid (HF.out.put R_Task_ok HX.out hb HOW.out)
      have hlt1 := HF.out.lt
      obtain ⟨t0, ht0⟩ := HF.out.there (k * 14) (by rw [size_TaskS]; omega)
      have q0 := (hb.cell (p := ⟨W.heap.size, k * 14, none⟩) hlt1).trans ht0
      have s0 := (hb.frozen (p := ⟨W.heap.size, k * 14, none⟩) hlt1).trans (HF.out.soft (k * 14))
      obtain ⟨t1, ht1⟩ := HF.out.there (k * 14 + 1) (by rw [size_TaskS]; omega)
      have q1 := (hb.cell (p := ⟨W.heap.size, k * 14 + 1, none⟩) hlt1).trans ht1
      have s1 := (hb.frozen (p := ⟨W.heap.size, k * 14 + 1, none⟩) hlt1).trans (HF.out.soft (k * 14 + 1))
      obtain ⟨t2, ht2⟩ := HF.out.there (k * 14 + 2) (by rw [size_TaskS]; omega)
      have q2 := (hb.cell (p := ⟨W.heap.size, k * 14 + 2, none⟩) hlt1).trans ht2
      have s2 := (hb.frozen (p := ⟨W.heap.size, k * 14 + 2, none⟩) hlt1).trans (HF.out.soft (k * 14 + 2))
      obtain ⟨t3, ht3⟩ := HF.out.there (k * 14 + 3) (by rw [size_TaskS]; omega)
      have q3 := (hb.cell (p := ⟨W.heap.size, k * 14 + 3, none⟩) hlt1).trans ht3
      have s3 := (hb.frozen (p := ⟨W.heap.size, k * 14 + 3, none⟩) hlt1).trans (HF.out.soft (k * 14 + 3))
      obtain ⟨t4, ht4⟩ := HF.out.there (k * 14 + 4) (by rw [size_TaskS]; omega)
      have q4 := (hb.cell (p := ⟨W.heap.size, k * 14 + 4, none⟩) hlt1).trans ht4
      have s4 := (hb.frozen (p := ⟨W.heap.size, k * 14 + 4, none⟩) hlt1).trans (HF.out.soft (k * 14 + 4))
      obtain ⟨t5, ht5⟩ := HF.out.there (k * 14 + 5) (by rw [size_TaskS]; omega)
      have q5 := (hb.cell (p := ⟨W.heap.size, k * 14 + 5, none⟩) hlt1).trans ht5
      have s5 := (hb.frozen (p := ⟨W.heap.size, k * 14 + 5, none⟩) hlt1).trans (HF.out.soft (k * 14 + 5))
      obtain ⟨t6, ht6⟩ := HF.out.there (k * 14 + 6) (by rw [size_TaskS]; omega)
      have q6 := (hb.cell (p := ⟨W.heap.size, k * 14 + 6, none⟩) hlt1).trans ht6
      have s6 := (hb.frozen (p := ⟨W.heap.size, k * 14 + 6, none⟩) hlt1).trans (HF.out.soft (k * 14 + 6))
      obtain ⟨t7, ht7⟩ := HF.out.there (k * 14 + 7) (by rw [size_TaskS]; omega)
      have q7 := (hb.cell (p := ⟨W.heap.size, k * 14 + 7, none⟩) hlt1).trans ht7
      have s7 := (hb.frozen (p := ⟨W.heap.size, k * 14 + 7, none⟩) hlt1).trans (HF.out.soft (k * 14 + 7))
      obtain ⟨t8, ht8⟩ := HF.out.there (k * 14 + 8) (by rw [size_TaskS]; omega)
      have q8 := (hb.cell (p := ⟨W.heap.size, k * 14 + 8, none⟩) hlt1).trans ht8
      have s8 := (hb.frozen (p := ⟨W.heap.size, k * 14 + 8, none⟩) hlt1).trans (HF.out.soft (k * 14 + 8))
      obtain ⟨t9, ht9⟩ := HF.out.there (k * 14 + 9) (by rw [size_TaskS]; omega)
      have q9 := (hb.cell (p := ⟨W.heap.size, k * 14 + 9, none⟩) hlt1).trans ht9
      have s9 := (hb.frozen (p := ⟨W.heap.size, k * 14 + 9, none⟩) hlt1).trans (HF.out.soft (k * 14 + 9))
      obtain ⟨t10, ht10⟩ := HF.out.there (k * 14 + 10) (by rw [size_TaskS]; omega)
      have q10 := (hb.cell (p := ⟨W.heap.size, k * 14 + 10, none⟩) hlt1).trans ht10
      have s10 := (hb.frozen (p := ⟨W.heap.size, k * 14 + 10, none⟩) hlt1).trans (HF.out.soft (k * 14 + 10))
      obtain ⟨t11, ht11⟩ := HF.out.there (k * 14 + 11) (by rw [size_TaskS]; omega)
      have q11 := (hb.cell (p := ⟨W.heap.size, k * 14 + 11, none⟩) hlt1).trans ht11
      have s11 := (hb.frozen (p := ⟨W.heap.size, k * 14 + 11, none⟩) hlt1).trans (HF.out.soft (k * 14 + 11))
      obtain ⟨t12, ht12⟩ := HF.out.there (k * 14 + 12) (by rw [size_TaskS]; omega)
      have q12 := (hb.cell (p := ⟨W.heap.size, k * 14 + 12, none⟩) hlt1).trans ht12
      have s12 := (hb.frozen (p := ⟨W.heap.size, k * 14 + 12, none⟩) hlt1).trans (HF.out.soft (k * 14 + 12))
      obtain ⟨t13, ht13⟩ := HF.out.there (k * 14 + 13) (by rw [size_TaskS]; omega)
      have q13 := (hb.cell (p := ⟨W.heap.size, k * 14 + 13, none⟩) hlt1).trans ht13
      have s13 := (hb.frozen (p := ⟨W.heap.size, k * 14 + 13, none⟩) hlt1).trans (HF.out.soft (k * 14 + 13))
      clear h how hb ht0 ht1 ht2 ht3 ht4 ht5 ht6 ht7 ht8 ht9 ht10 ht11 ht12 ht13 e0 e1 e2 e3 e4 e5 e6 e7 e8 e9 e10 e11 e12 e13
      go_wp2
      go_roundw
      case rel => exact ⟨k + 1, by omega, by go_num, _, by simpa [putCells, size_TaskS, Nat.add_assoc] using HP.out⟩
      case measure => simp [intOf]; omega
    · obtain rfl : k = L.length := by omega
      have HR := Lib.hid (HF.out.news (by unfold maxLen; omega))
      clear hF hmk
      go_wp2
      go_ret
      exact HR.out
set_option maxRecDepth 100000 in
set_option maxHeartbeats 3200000 in
theorem eq_Task {x0 : Int} {x1 : Int} {x2 : Int} {x3 : ByteArray} {x4 : Int} {x5 : Int} {x6 : Int} {x7 : Int} {x8 : Int} {x9 : Int} {x10 : Int} {x11 : Int} {x12 : Int} {L0 : List (Int)} {a0 : Option Addr} {c0 : Nat} {a0' : Option Addr} {c0' : Nat} {W : World} (h_L0 : RdSl I W W.heap.size L0 a0 c0) (h'_L0 : RdSl I W W.heap.size L0 a0' c0') : Calls Try.prog 27 #[.agg #[.int .i64 x0, .int .i64 x1, .int .i64 x2, .string x3, .int .i64 x4, .int .i64 x5, .int .i64 x6, .int .i64 x7, .int .i64 x8, .int .i64 x9, .int .i64 x10, .int .i64 x11, .int .i64 x12, .slice a0 L0.length c0], .agg #[.int .i64 x0, .int .i64 x1, .int .i64 x2, .string x3, .int .i64 x4, .int .i64 x5, .int .i64 x6, .int .i64 x7, .int .i64 x8, .int .i64 x9, .int .i64 x10, .int .i64 x11, .int .i64 x12, .slice a0' L0.length c0']] W (IsB true W) := by
  have H_L0 := Lib.hid h_L0
  have H'_L0 := Lib.hid h'_L0
  clear h_L0 h'_L0
  have HB0 := Lib.hid (show Below W.heap.size W ((W.alloc (.cells #[.int .i64 x0, .int .i64 x1, .int .i64 x2, .string x3, .int .i64 x4, .int .i64 x5, .int .i64 x6, .int .i64 x7, .int .i64 x8, .int .i64 x9, .int .i64 x10, .int .i64 x11, .int .i64 x12, .slice a0 L0.length c0] 43)).alloc (.cells #[.int .i64 x0, .int .i64 x1, .int .i64 x2, .string x3, .int .i64 x4, .int .i64 x5, .int .i64 x6, .int .i64 x7, .int .i64 x8, .int .i64 x9, .int .i64 x10, .int .i64 x11, .int .i64 x12, .slice a0' L0.length c0'] 43)) from ((Below.refl _ _).alloc (Nat.le_refl _) _).alloc (by simp) _)
  have hP := (Blk.new W 43 #[.int .i64 x0, .int .i64 x1, .int .i64 x2, .string x3, .int .i64 x4, .int .i64 x5, .int .i64 x6, .int .i64 x7, .int .i64 x8, .int .i64 x9, .int .i64 x10, .int .i64 x11, .int .i64 x12, .slice a0 L0.length c0]).alloc (.cells #[.int .i64 x0, .int .i64 x1, .int .i64 x2, .string x3, .int .i64 x4, .int .i64 x5, .int .i64 x6, .int .i64 x7, .int .i64 x8, .int .i64 x9, .int .i64 x10, .int .i64 x11, .int .i64 x12, .slice a0' L0.length c0'] 43)
  have hQ := Blk.new (W.alloc (.cells #[.int .i64 x0, .int .i64 x1, .int .i64 x2, .string x3, .int .i64 x4, .int .i64 x5, .int .i64 x6, .int .i64 x7, .int .i64 x8, .int .i64 x9, .int .i64 x10, .int .i64 x11, .int .i64 x12, .slice a0 L0.length c0] 43)) 43 #[.int .i64 x0, .int .i64 x1, .int .i64 x2, .string x3, .int .i64 x4, .int .i64 x5, .int .i64 x6, .int .i64 x7, .int .i64 x8, .int .i64 x9, .int .i64 x10, .int .i64 x11, .int .i64 x12, .slice a0' L0.length c0']
  simp only [World.size_alloc] at hP hQ
  have HP0 := Lib.hid hP
  have HQ0 := Lib.hid hQ
  have hz0 : W.heap.size ≤ ((W.alloc (.cells #[.int .i64 x0, .int .i64 x1, .int .i64 x2, .string x3, .int .i64 x4, .int .i64 x5, .int .i64 x6, .int .i64 x7, .int .i64 x8, .int .i64 x9, .int .i64 x10, .int .i64 x11, .int .i64 x12, .slice a0 L0.length c0] 43)).alloc (.cells #[.int .i64 x0, .int .i64 x1, .int .i64 x2, .string x3, .int .i64 x4, .int .i64 x5, .int .i64 x6, .int .i64 x7, .int .i64 x8, .int .i64 x9, .int .i64 x10, .int .i64 x11, .int .i64 x12, .slice a0' L0.length c0'] 43)).heap.size := HB0.out.size
  clear hP hQ
  go_enter Try.func27, Try.ntmps27
  go_wp2_with fail
  refine (eq_Label).mono ?_
  intro e w1 h
  obtain ⟨rfl, hb⟩ := isB_elim h
  have HP1 := Lib.hid (HP0.out.call hb)
  have HQ1 := Lib.hid (HQ0.out.call hb)
  have HB1 := Lib.hid (HB0.out.trans (hb.mono hz0))
  have hz1 : W.heap.size ≤ w1.heap.size := HB1.out.size
  clear h hb
  have p1_2 := HP1.out.at_ 2 rfl
  have q1_2 := HQ1.out.at_ 2 rfl
  have p1_3 := HP1.out.at_ 3 rfl
  have q1_3 := HQ1.out.at_ 3 rfl
  have p1_4 := HP1.out.at_ 4 rfl
  have q1_4 := HQ1.out.at_ 4 rfl
  have p1_5 := HP1.out.at_ 5 rfl
  have q1_5 := HQ1.out.at_ 5 rfl
  have p1_6 := HP1.out.at_ 6 rfl
  have q1_6 := HQ1.out.at_ 6 rfl
  have p1_7 := HP1.out.at_ 7 rfl
  have q1_7 := HQ1.out.at_ 7 rfl
  have p1_8 := HP1.out.at_ 8 rfl
  have q1_8 := HQ1.out.at_ 8 rfl
  have p1_9 := HP1.out.at_ 9 rfl
  have q1_9 := HQ1.out.at_ 9 rfl
  have p1_10 := HP1.out.at_ 10 rfl
  have q1_10 := HQ1.out.at_ 10 rfl
  have p1_11 := HP1.out.at_ 11 rfl
  have q1_11 := HQ1.out.at_ 11 rfl
  have p1_12 := HP1.out.at_ 12 rfl
  have q1_12 := HQ1.out.at_ 12 rfl
  have p1_13 := HP1.out.at_ 13 rfl
  have q1_13 := HQ1.out.at_ 13 rfl
  go_wp2_with fail
  refine (eq_Label).mono ?_
  intro e w2 h
  obtain ⟨rfl, hb⟩ := isB_elim h
  have HP2 := Lib.hid (HP1.out.call hb)
  have HQ2 := Lib.hid (HQ1.out.call hb)
  have HB2 := Lib.hid (HB1.out.trans (hb.mono hz1))
  have hz2 : W.heap.size ≤ w2.heap.size := HB2.out.size
  clear h hb
  clear p1_2 q1_2 p1_3 q1_3 p1_4 q1_4 p1_5 q1_5 p1_6 q1_6 p1_7 q1_7 p1_8 q1_8 p1_9 q1_9 p1_10 q1_10 p1_11 q1_11 p1_12 q1_12 p1_13 q1_13
  have p2_9 := HP2.out.at_ 9 rfl
  have q2_9 := HQ2.out.at_ 9 rfl
  have p2_10 := HP2.out.at_ 10 rfl
  have q2_10 := HQ2.out.at_ 10 rfl
  have p2_11 := HP2.out.at_ 11 rfl
  have q2_11 := HQ2.out.at_ 11 rfl
  have p2_12 := HP2.out.at_ 12 rfl
  have q2_12 := HQ2.out.at_ 12 rfl
  have p2_13 := HP2.out.at_ 13 rfl
  have q2_13 := HQ2.out.at_ 13 rfl
  go_wp2_with fail
  refine (eq_Int64S ((H_L0.out.below I_ok HB2.out).more I_ok hz2) ((H'_L0.out.below I_ok HB2.out).more I_ok hz2)).mono ?_
  intro e w3 h
  obtain ⟨rfl, hb⟩ := isB_elim h
  have HP3 := Lib.hid (HP2.out.call hb)
  have HQ3 := Lib.hid (HQ2.out.call hb)
  have HB3 := Lib.hid (HB2.out.trans (hb.mono hz2))
  have hz3 : W.heap.size ≤ w3.heap.size := HB3.out.size
  clear h hb
  clear p2_9 q2_9 p2_10 q2_10 p2_11 q2_11 p2_12 q2_12 p2_13 q2_13
  go_wp2
  all_goals
    go_ret
    exact ⟨rfl, HB3.out⟩
theorem sizeq_TaskS : (R_Task).size = 14 := rfl
set_option maxRecDepth 100000 in
set_option maxHeartbeats 3200000 in
theorem eq_TaskS {L : List (D_Task)} {a a' : Option Addr} {cap cap' : Nat} {W : World} (h : RdSl R_Task W W.heap.size L a cap) (h' : RdSl R_Task W W.heap.size L a' cap') : Calls Try.prog 32 #[.slice a L.length cap, .slice a' L.length cap'] W (IsB true W) := by
  have hn : L.length ≤ 9223372036854775807 := by have h1 := h.1; have h2 := h.2.1; unfold maxLen at h2; omega
  have H := Lib.hid h
  have H' := Lib.hid h'
  clear h h'
  go_enter Try.func32, Try.ntmps32
  go_wp2
  go_loopw [5] (fun i wr => ∃ k : Nat, k ≤ L.length ∧ i = .int .i64 k ∧ Below W.heap.size W wr) (fun i _ => L.length - (intOf i).toNat)
  case atStart => exact ⟨0, Nat.zero_le _, rfl, Below.refl _ _⟩
  case round =>
    obtain ⟨k, hk, rfl, hB⟩ := hrel
    have HB := Lib.hid hB
    have hsz := hB.size
    by_cases hlt : k < L.length
    · obtain ⟨⟨⟨x0, x1⟩, x2, x3, x4, x5, x6, ⟨x7, x8⟩, x9, x10, x11, x12, L0⟩, hx⟩ := el_some hlt
      have HX := Lib.hid hx
      obtain ⟨g, o, us, rfl, hg, hu, hr⟩ := (H.out.below R_Task_ok hB).at_ hx
      obtain ⟨g', o', vs, rfl, hg', hu', hr'⟩ := (H'.out.below R_Task_ok hB).at_ hx
      obtain ⟨a0, c0, rfl, k_L0, b_x3⟩ := rd_Task hr
      obtain ⟨a0', c0', rfl, k'_L0, b'_x3⟩ := rd_Task hr'
      have e0 : wr.cell? ⟨g, o + k * 14, none⟩ = some (.int .i64 x0) := by simpa [sizeq_TaskS, Nat.add_assoc] using hu 0 _ rfl
      have d0 : wr.cell? ⟨g', o' + k * 14, none⟩ = some (.int .i64 x0) := by simpa [sizeq_TaskS, Nat.add_assoc] using hu' 0 _ rfl
      have e1 : wr.cell? ⟨g, o + k * 14 + 1, none⟩ = some (.int .i64 x1) := by simpa [sizeq_TaskS, Nat.add_assoc] using hu 1 _ rfl
      have d1 : wr.cell? ⟨g', o' + k * 14 + 1, none⟩ = some (.int .i64 x1) := by simpa [sizeq_TaskS, Nat.add_assoc] using hu' 1 _ rfl
      have e2 : wr.cell? ⟨g, o + k * 14 + 2, none⟩ = some (.int .i64 x2) := by simpa [sizeq_TaskS, Nat.add_assoc] using hu 2 _ rfl
      have d2 : wr.cell? ⟨g', o' + k * 14 + 2, none⟩ = some (.int .i64 x2) := by simpa [sizeq_TaskS, Nat.add_assoc] using hu' 2 _ rfl
      have e3 : wr.cell? ⟨g, o + k * 14 + 3, none⟩ = some (.string x3) := by simpa [sizeq_TaskS, Nat.add_assoc] using hu 3 _ rfl
      have d3 : wr.cell? ⟨g', o' + k * 14 + 3, none⟩ = some (.string x3) := by simpa [sizeq_TaskS, Nat.add_assoc] using hu' 3 _ rfl
      have e4 : wr.cell? ⟨g, o + k * 14 + 4, none⟩ = some (.int .i64 x4) := by simpa [sizeq_TaskS, Nat.add_assoc] using hu 4 _ rfl
      have d4 : wr.cell? ⟨g', o' + k * 14 + 4, none⟩ = some (.int .i64 x4) := by simpa [sizeq_TaskS, Nat.add_assoc] using hu' 4 _ rfl
      have e5 : wr.cell? ⟨g, o + k * 14 + 5, none⟩ = some (.int .i64 x5) := by simpa [sizeq_TaskS, Nat.add_assoc] using hu 5 _ rfl
      have d5 : wr.cell? ⟨g', o' + k * 14 + 5, none⟩ = some (.int .i64 x5) := by simpa [sizeq_TaskS, Nat.add_assoc] using hu' 5 _ rfl
      have e6 : wr.cell? ⟨g, o + k * 14 + 6, none⟩ = some (.int .i64 x6) := by simpa [sizeq_TaskS, Nat.add_assoc] using hu 6 _ rfl
      have d6 : wr.cell? ⟨g', o' + k * 14 + 6, none⟩ = some (.int .i64 x6) := by simpa [sizeq_TaskS, Nat.add_assoc] using hu' 6 _ rfl
      have e7 : wr.cell? ⟨g, o + k * 14 + 7, none⟩ = some (.int .i64 x7) := by simpa [sizeq_TaskS, Nat.add_assoc] using hu 7 _ rfl
      have d7 : wr.cell? ⟨g', o' + k * 14 + 7, none⟩ = some (.int .i64 x7) := by simpa [sizeq_TaskS, Nat.add_assoc] using hu' 7 _ rfl
      have e8 : wr.cell? ⟨g, o + k * 14 + 8, none⟩ = some (.int .i64 x8) := by simpa [sizeq_TaskS, Nat.add_assoc] using hu 8 _ rfl
      have d8 : wr.cell? ⟨g', o' + k * 14 + 8, none⟩ = some (.int .i64 x8) := by simpa [sizeq_TaskS, Nat.add_assoc] using hu' 8 _ rfl
      have e9 : wr.cell? ⟨g, o + k * 14 + 9, none⟩ = some (.int .i64 x9) := by simpa [sizeq_TaskS, Nat.add_assoc] using hu 9 _ rfl
      have d9 : wr.cell? ⟨g', o' + k * 14 + 9, none⟩ = some (.int .i64 x9) := by simpa [sizeq_TaskS, Nat.add_assoc] using hu' 9 _ rfl
      have e10 : wr.cell? ⟨g, o + k * 14 + 10, none⟩ = some (.int .i64 x10) := by simpa [sizeq_TaskS, Nat.add_assoc] using hu 10 _ rfl
      have d10 : wr.cell? ⟨g', o' + k * 14 + 10, none⟩ = some (.int .i64 x10) := by simpa [sizeq_TaskS, Nat.add_assoc] using hu' 10 _ rfl
      have e11 : wr.cell? ⟨g, o + k * 14 + 11, none⟩ = some (.int .i64 x11) := by simpa [sizeq_TaskS, Nat.add_assoc] using hu 11 _ rfl
      have d11 : wr.cell? ⟨g', o' + k * 14 + 11, none⟩ = some (.int .i64 x11) := by simpa [sizeq_TaskS, Nat.add_assoc] using hu' 11 _ rfl
      have e12 : wr.cell? ⟨g, o + k * 14 + 12, none⟩ = some (.int .i64 x12) := by simpa [sizeq_TaskS, Nat.add_assoc] using hu 12 _ rfl
      have d12 : wr.cell? ⟨g', o' + k * 14 + 12, none⟩ = some (.int .i64 x12) := by simpa [sizeq_TaskS, Nat.add_assoc] using hu' 12 _ rfl
      have e13 : wr.cell? ⟨g, o + k * 14 + 13, none⟩ = some (.slice a0 L0.length c0) := by simpa [sizeq_TaskS, Nat.add_assoc] using hu 13 _ rfl
      have d13 : wr.cell? ⟨g', o' + k * 14 + 13, none⟩ = some (.slice a0' L0.length c0') := by simpa [sizeq_TaskS, Nat.add_assoc] using hu' 13 _ rfl
      have hi0 : (0 : Int) ≤ (k : Int) := Int.natCast_nonneg _
      have hi1 : (k : Int) < (L.length : Int) := by omega
      have hgl : g < wr.heap.size := Nat.lt_of_lt_of_le hg hsz
      have hgl' : g' < wr.heap.size := Nat.lt_of_lt_of_le hg' hsz
      have K_L0 := Lib.hid (k_L0.more I_ok hsz)
      have K'_L0 := Lib.hid (k'_L0.more I_ok hsz)
      clear hB hx hu hu' k_L0 k'_L0
      go_wp2_with fail
      refine wp_region_held_drew (S := (fun W => W.cell? ⟨g, o + k * 14, none⟩ = some (.int .i64 x0) ∧ W.cell? ⟨g, o + k * 14 + 1, none⟩ = some (.int .i64 x1) ∧ W.cell? ⟨g, o + k * 14 + 2, none⟩ = some (.int .i64 x2) ∧ W.cell? ⟨g, o + k * 14 + 3, none⟩ = some (.string x3) ∧ W.cell? ⟨g, o + k * 14 + 4, none⟩ = some (.int .i64 x4) ∧ W.cell? ⟨g, o + k * 14 + 5, none⟩ = some (.int .i64 x5) ∧ W.cell? ⟨g, o + k * 14 + 6, none⟩ = some (.int .i64 x6) ∧ W.cell? ⟨g, o + k * 14 + 7, none⟩ = some (.int .i64 x7) ∧ W.cell? ⟨g, o + k * 14 + 8, none⟩ = some (.int .i64 x8) ∧ W.cell? ⟨g, o + k * 14 + 9, none⟩ = some (.int .i64 x9) ∧ W.cell? ⟨g, o + k * 14 + 10, none⟩ = some (.int .i64 x10) ∧ W.cell? ⟨g, o + k * 14 + 11, none⟩ = some (.int .i64 x11) ∧ W.cell? ⟨g, o + k * 14 + 12, none⟩ = some (.int .i64 x12) ∧ W.cell? ⟨g, o + k * 14 + 13, none⟩ = some (.slice a0 L0.length c0) ∧ W.cell? ⟨g', o' + k * 14, none⟩ = some (.int .i64 x0) ∧ W.cell? ⟨g', o' + k * 14 + 1, none⟩ = some (.int .i64 x1) ∧ W.cell? ⟨g', o' + k * 14 + 2, none⟩ = some (.int .i64 x2) ∧ W.cell? ⟨g', o' + k * 14 + 3, none⟩ = some (.string x3) ∧ W.cell? ⟨g', o' + k * 14 + 4, none⟩ = some (.int .i64 x4) ∧ W.cell? ⟨g', o' + k * 14 + 5, none⟩ = some (.int .i64 x5) ∧ W.cell? ⟨g', o' + k * 14 + 6, none⟩ = some (.int .i64 x6) ∧ W.cell? ⟨g', o' + k * 14 + 7, none⟩ = some (.int .i64 x7) ∧ W.cell? ⟨g', o' + k * 14 + 8, none⟩ = some (.int .i64 x8) ∧ W.cell? ⟨g', o' + k * 14 + 9, none⟩ = some (.int .i64 x9) ∧ W.cell? ⟨g', o' + k * 14 + 10, none⟩ = some (.int .i64 x10) ∧ W.cell? ⟨g', o' + k * 14 + 11, none⟩ = some (.int .i64 x11) ∧ W.cell? ⟨g', o' + k * 14 + 12, none⟩ = some (.int .i64 x12) ∧ W.cell? ⟨g', o' + k * 14 + 13, none⟩ = some (.slice a0' L0.length c0') ∧ wr.heap.size ≤ W.heap.size ∧ Below wr.heap.size wr W)) (by kernel_rfl) (⟨e0, e1, e2, e3, e4, e5, e6, e7, e8, e9, e10, e11, e12, e13, d0, d1, d2, d3, d4, d5, d6, d7, d8, d9, d10, d11, d12, d13, Nat.le_refl _, (Below.refl _ _).drew⟩) (fun hHeld => ?_)
      refine wpAnyH_take (i := 0) (v := ?hv1) rfl (by kernel_rfl) (by kernel_rfl) (by kernel_rfl) (fun _ _ _ h => h) (Or.inl ⟨by kernel_rfl, ?hy1⟩) hHeld ?hr1
      case hy1 => (intro w hSw; (try dsimp only at hSw); go_simp; try with_reducible rfl)
      refine wpAnyH_take (i := 1) (v := ?hv2) rfl (by kernel_rfl) (by kernel_rfl) (by kernel_rfl) (fun _ _ _ h => h) (Or.inl ⟨by kernel_rfl, ?hy2⟩) hHeld ?hr2
      case hy2 => (intro w hSw; (try dsimp only at hSw); go_simp; try with_reducible rfl)
      refine wpAnyH_take (i := 2) (v := ?hv3) rfl (by kernel_rfl) (by kernel_rfl) (by kernel_rfl) (fun _ _ _ h => h) (Or.inl ⟨by kernel_rfl, ?hy3⟩) hHeld ?hr3
      case hy3 => (intro w hSw; (try dsimp only at hSw); go_simp; try with_reducible rfl)
      refine wpAnyH_take (i := 3) (v := ?hv4) rfl (by kernel_rfl) (by kernel_rfl) (by kernel_rfl) (fun _ _ _ h => h) (Or.inl ⟨by kernel_rfl, ?hy4⟩) hHeld ?hr4
      case hy4 => (intro w hSw; (try dsimp only at hSw); go_simp; try with_reducible rfl)
      refine wpAnyH_take (i := 4) (v := ?hv5) rfl (by kernel_rfl) (by kernel_rfl) (by kernel_rfl) (fun _ _ _ h => h) (Or.inl ⟨by kernel_rfl, ?hy5⟩) hHeld ?hr5
      case hy5 => (intro w hSw; (try dsimp only at hSw); go_simp; try with_reducible rfl)
      refine wpAnyH_take (i := 5) (v := ?hv6) rfl (by kernel_rfl) (by kernel_rfl) (by kernel_rfl) (fun _ _ _ h => h) (Or.inl ⟨by kernel_rfl, ?hy6⟩) hHeld ?hr6
      case hy6 => (intro w hSw; (try dsimp only at hSw); go_simp; try with_reducible rfl)
      refine wpAnyH_take (i := 6) (v := ?hv7) rfl (by kernel_rfl) (by kernel_rfl) (by kernel_rfl) (fun _ _ _ h => h) (Or.inl ⟨by kernel_rfl, ?hy7⟩) hHeld ?hr7
      case hy7 => (intro w hSw; (try dsimp only at hSw); go_simp; try with_reducible rfl)
      refine wpAnyH_take (i := 7) (v := ?hv8) rfl (by kernel_rfl) (by kernel_rfl) (by kernel_rfl) (fun _ _ _ h => h) (Or.inl ⟨by kernel_rfl, ?hy8⟩) hHeld ?hr8
      case hy8 => (intro w hSw; (try dsimp only at hSw); go_simp; try with_reducible rfl)
      refine rd1 8 (fun K hK => ?_)
      go_simp
      refine (eq_Task ((K_L0.out.below I_ok (by exact hHeld.2.2.2.2.2.2.2.2.2.2.2.2.2.2.2.2.2.2.2.2.2.2.2.2.2.2.2.2.2)).more I_ok (by exact hHeld.2.2.2.2.2.2.2.2.2.2.2.2.2.2.2.2.2.2.2.2.2.2.2.2.2.2.2.2.1)) ((K'_L0.out.below I_ok (by exact hHeld.2.2.2.2.2.2.2.2.2.2.2.2.2.2.2.2.2.2.2.2.2.2.2.2.2.2.2.2.2)).more I_ok (by exact hHeld.2.2.2.2.2.2.2.2.2.2.2.2.2.2.2.2.2.2.2.2.2.2.2.2.2.2.2.2.1))).mono ?_
      intro e w1 h
      obtain ⟨rfl, hb⟩ := isB_elim h
      refine hK.out _ _ (⟨(hb.cell (p := ⟨g, o + k * 14, none⟩) (Nat.lt_of_lt_of_le hgl hHeld.2.2.2.2.2.2.2.2.2.2.2.2.2.2.2.2.2.2.2.2.2.2.2.2.2.2.2.2.1)).trans hHeld.1, (hb.cell (p := ⟨g, o + k * 14 + 1, none⟩) (Nat.lt_of_lt_of_le hgl hHeld.2.2.2.2.2.2.2.2.2.2.2.2.2.2.2.2.2.2.2.2.2.2.2.2.2.2.2.2.1)).trans hHeld.2.1, (hb.cell (p := ⟨g, o + k * 14 + 2, none⟩) (Nat.lt_of_lt_of_le hgl hHeld.2.2.2.2.2.2.2.2.2.2.2.2.2.2.2.2.2.2.2.2.2.2.2.2.2.2.2.2.1)).trans hHeld.2.2.1, (hb.cell (p := ⟨g, o + k * 14 + 3, none⟩) (Nat.lt_of_lt_of_le hgl hHeld.2.2.2.2.2.2.2.2.2.2.2.2.2.2.2.2.2.2.2.2.2.2.2.2.2.2.2.2.1)).trans hHeld.2.2.2.1, (hb.cell (p := ⟨g, o + k * 14 + 4, none⟩) (Nat.lt_of_lt_of_le hgl hHeld.2.2.2.2.2.2.2.2.2.2.2.2.2.2.2.2.2.2.2.2.2.2.2.2.2.2.2.2.1)).trans hHeld.2.2.2.2.1, (hb.cell (p := ⟨g, o + k * 14 + 5, none⟩) (Nat.lt_of_lt_of_le hgl hHeld.2.2.2.2.2.2.2.2.2.2.2.2.2.2.2.2.2.2.2.2.2.2.2.2.2.2.2.2.1)).trans hHeld.2.2.2.2.2.1, (hb.cell (p := ⟨g, o + k * 14 + 6, none⟩) (Nat.lt_of_lt_of_le hgl hHeld.2.2.2.2.2.2.2.2.2.2.2.2.2.2.2.2.2.2.2.2.2.2.2.2.2.2.2.2.1)).trans hHeld.2.2.2.2.2.2.1, (hb.cell (p := ⟨g, o + k * 14 + 7, none⟩) (Nat.lt_of_lt_of_le hgl hHeld.2.2.2.2.2.2.2.2.2.2.2.2.2.2.2.2.2.2.2.2.2.2.2.2.2.2.2.2.1)).trans hHeld.2.2.2.2.2.2.2.1, (hb.cell (p := ⟨g, o + k * 14 + 8, none⟩) (Nat.lt_of_lt_of_le hgl hHeld.2.2.2.2.2.2.2.2.2.2.2.2.2.2.2.2.2.2.2.2.2.2.2.2.2.2.2.2.1)).trans hHeld.2.2.2.2.2.2.2.2.1, (hb.cell (p := ⟨g, o + k * 14 + 9, none⟩) (Nat.lt_of_lt_of_le hgl hHeld.2.2.2.2.2.2.2.2.2.2.2.2.2.2.2.2.2.2.2.2.2.2.2.2.2.2.2.2.1)).trans hHeld.2.2.2.2.2.2.2.2.2.1, (hb.cell (p := ⟨g, o + k * 14 + 10, none⟩) (Nat.lt_of_lt_of_le hgl hHeld.2.2.2.2.2.2.2.2.2.2.2.2.2.2.2.2.2.2.2.2.2.2.2.2.2.2.2.2.1)).trans hHeld.2.2.2.2.2.2.2.2.2.2.1, (hb.cell (p := ⟨g, o + k * 14 + 11, none⟩) (Nat.lt_of_lt_of_le hgl hHeld.2.2.2.2.2.2.2.2.2.2.2.2.2.2.2.2.2.2.2.2.2.2.2.2.2.2.2.2.1)).trans hHeld.2.2.2.2.2.2.2.2.2.2.2.1, (hb.cell (p := ⟨g, o + k * 14 + 12, none⟩) (Nat.lt_of_lt_of_le hgl hHeld.2.2.2.2.2.2.2.2.2.2.2.2.2.2.2.2.2.2.2.2.2.2.2.2.2.2.2.2.1)).trans hHeld.2.2.2.2.2.2.2.2.2.2.2.2.1, (hb.cell (p := ⟨g, o + k * 14 + 13, none⟩) (Nat.lt_of_lt_of_le hgl hHeld.2.2.2.2.2.2.2.2.2.2.2.2.2.2.2.2.2.2.2.2.2.2.2.2.2.2.2.2.1)).trans hHeld.2.2.2.2.2.2.2.2.2.2.2.2.2.1, (hb.cell (p := ⟨g', o' + k * 14, none⟩) (Nat.lt_of_lt_of_le hgl' hHeld.2.2.2.2.2.2.2.2.2.2.2.2.2.2.2.2.2.2.2.2.2.2.2.2.2.2.2.2.1)).trans hHeld.2.2.2.2.2.2.2.2.2.2.2.2.2.2.1, (hb.cell (p := ⟨g', o' + k * 14 + 1, none⟩) (Nat.lt_of_lt_of_le hgl' hHeld.2.2.2.2.2.2.2.2.2.2.2.2.2.2.2.2.2.2.2.2.2.2.2.2.2.2.2.2.1)).trans hHeld.2.2.2.2.2.2.2.2.2.2.2.2.2.2.2.1, (hb.cell (p := ⟨g', o' + k * 14 + 2, none⟩) (Nat.lt_of_lt_of_le hgl' hHeld.2.2.2.2.2.2.2.2.2.2.2.2.2.2.2.2.2.2.2.2.2.2.2.2.2.2.2.2.1)).trans hHeld.2.2.2.2.2.2.2.2.2.2.2.2.2.2.2.2.1, (hb.cell (p := ⟨g', o' + k * 14 + 3, none⟩) (Nat.lt_of_lt_of_le hgl' hHeld.2.2.2.2.2.2.2.2.2.2.2.2.2.2.2.2.2.2.2.2.2.2.2.2.2.2.2.2.1)).trans hHeld.2.2.2.2.2.2.2.2.2.2.2.2.2.2.2.2.2.1, (hb.cell (p := ⟨g', o' + k * 14 + 4, none⟩) (Nat.lt_of_lt_of_le hgl' hHeld.2.2.2.2.2.2.2.2.2.2.2.2.2.2.2.2.2.2.2.2.2.2.2.2.2.2.2.2.1)).trans hHeld.2.2.2.2.2.2.2.2.2.2.2.2.2.2.2.2.2.2.1, (hb.cell (p := ⟨g', o' + k * 14 + 5, none⟩) (Nat.lt_of_lt_of_le hgl' hHeld.2.2.2.2.2.2.2.2.2.2.2.2.2.2.2.2.2.2.2.2.2.2.2.2.2.2.2.2.1)).trans hHeld.2.2.2.2.2.2.2.2.2.2.2.2.2.2.2.2.2.2.2.1, (hb.cell (p := ⟨g', o' + k * 14 + 6, none⟩) (Nat.lt_of_lt_of_le hgl' hHeld.2.2.2.2.2.2.2.2.2.2.2.2.2.2.2.2.2.2.2.2.2.2.2.2.2.2.2.2.1)).trans hHeld.2.2.2.2.2.2.2.2.2.2.2.2.2.2.2.2.2.2.2.2.1, (hb.cell (p := ⟨g', o' + k * 14 + 7, none⟩) (Nat.lt_of_lt_of_le hgl' hHeld.2.2.2.2.2.2.2.2.2.2.2.2.2.2.2.2.2.2.2.2.2.2.2.2.2.2.2.2.1)).trans hHeld.2.2.2.2.2.2.2.2.2.2.2.2.2.2.2.2.2.2.2.2.2.1, (hb.cell (p := ⟨g', o' + k * 14 + 8, none⟩) (Nat.lt_of_lt_of_le hgl' hHeld.2.2.2.2.2.2.2.2.2.2.2.2.2.2.2.2.2.2.2.2.2.2.2.2.2.2.2.2.1)).trans hHeld.2.2.2.2.2.2.2.2.2.2.2.2.2.2.2.2.2.2.2.2.2.2.1, (hb.cell (p := ⟨g', o' + k * 14 + 9, none⟩) (Nat.lt_of_lt_of_le hgl' hHeld.2.2.2.2.2.2.2.2.2.2.2.2.2.2.2.2.2.2.2.2.2.2.2.2.2.2.2.2.1)).trans hHeld.2.2.2.2.2.2.2.2.2.2.2.2.2.2.2.2.2.2.2.2.2.2.2.1, (hb.cell (p := ⟨g', o' + k * 14 + 10, none⟩) (Nat.lt_of_lt_of_le hgl' hHeld.2.2.2.2.2.2.2.2.2.2.2.2.2.2.2.2.2.2.2.2.2.2.2.2.2.2.2.2.1)).trans hHeld.2.2.2.2.2.2.2.2.2.2.2.2.2.2.2.2.2.2.2.2.2.2.2.2.1, (hb.cell (p := ⟨g', o' + k * 14 + 11, none⟩) (Nat.lt_of_lt_of_le hgl' hHeld.2.2.2.2.2.2.2.2.2.2.2.2.2.2.2.2.2.2.2.2.2.2.2.2.2.2.2.2.1)).trans hHeld.2.2.2.2.2.2.2.2.2.2.2.2.2.2.2.2.2.2.2.2.2.2.2.2.2.1, (hb.cell (p := ⟨g', o' + k * 14 + 12, none⟩) (Nat.lt_of_lt_of_le hgl' hHeld.2.2.2.2.2.2.2.2.2.2.2.2.2.2.2.2.2.2.2.2.2.2.2.2.2.2.2.2.1)).trans hHeld.2.2.2.2.2.2.2.2.2.2.2.2.2.2.2.2.2.2.2.2.2.2.2.2.2.2.1, (hb.cell (p := ⟨g', o' + k * 14 + 13, none⟩) (Nat.lt_of_lt_of_le hgl' hHeld.2.2.2.2.2.2.2.2.2.2.2.2.2.2.2.2.2.2.2.2.2.2.2.2.2.2.2.2.1)).trans hHeld.2.2.2.2.2.2.2.2.2.2.2.2.2.2.2.2.2.2.2.2.2.2.2.2.2.2.2.1, Nat.le_trans hHeld.2.2.2.2.2.2.2.2.2.2.2.2.2.2.2.2.2.2.2.2.2.2.2.2.2.2.2.2.1 hb.size, hHeld.2.2.2.2.2.2.2.2.2.2.2.2.2.2.2.2.2.2.2.2.2.2.2.2.2.2.2.2.2.trans (hb.mono hHeld.2.2.2.2.2.2.2.2.2.2.2.2.2.2.2.2.2.2.2.2.2.2.2.2.2.2.2.2.1)⟩) (fun hHeld => ?_)
      clear hK K h
      refine tk 9 hHeld ?_
      refine rd0 ?_
      have HB2 := Lib.hid (HB.out.trans (hHeld.2.2.2.2.2.2.2.2.2.2.2.2.2.2.2.2.2.2.2.2.2.2.2.2.2.2.2.2.2.mono hsz))
      clear hHeld
      go_wp2
      go_roundw
      case rel => exact ⟨k + 1, by omega, by go_num, HB2.out⟩
      case measure => simp [intOf]; omega
    · clear hB
      go_wp2
      go_ret
      exact ⟨rfl, HB.out⟩
end Go.Proofs.Ytkghodbbgehcoaa.RepC
end
section
namespace Go.Proofs.Ytkghodbbgehcoaa.NameC
open Go.RowKit
def IsLet (c : Int) : Prop := 97 ≤ c ∧ c ≤ 122
def IsDig (c : Int) : Prop := 48 ≤ c ∧ c ≤ 57
def Good (k : Nat) (c : Int) : Prop := IsLet c ∨ (k ≠ 0 ∧ (IsDig c ∨ c = 95))
def NameP (s : ByteArray) : Prop := 1 ≤ s.size ∧ s.size ≤ 20 ∧ ∀ k, (h : k < s.size) → Good k (s[k].toNat : Int)
def Res (P : Prop) (w : World) (e : Ending) (w' : World) : Prop := ∃ b : Bool, e = .returned (.bool b) ∧ (b = true ↔ P) ∧ w = w'
theorem letter_yes (c : Int) (w : World) (h1 : 97 ≤ c) (h2 : c ≤ 122) :
    Calls Try.prog 104 #[.int .u8 c] w fun e w' => e = .returned (.bool true) ∧ w = w' := by
  go_enter Try.func104, Try.ntmps104
  go_wp2
  go_ret
  exact ⟨rfl, rfl⟩
theorem letter_no (c : Int) (w : World) (h : ¬ IsLet c) :
    Calls Try.prog 104 #[.int .u8 c] w fun e w' => e = .returned (.bool false) ∧ w = w' := by
  unfold IsLet at h
  by_cases h1 : 97 ≤ c
  · have h2 : decide (c ≤ 122) = false := by simp; omega
    go_enter Try.func104, Try.ntmps104
    go_wp2
    go_ret
    exact ⟨rfl, rfl⟩
  · go_enter Try.func104, Try.ntmps104
    go_wp2
    go_ret
    exact ⟨rfl, rfl⟩
theorem digit_yes (c : Int) (w : World) (h1 : 48 ≤ c) (h2 : c ≤ 57) :
    Calls Try.prog 105 #[.int .u8 c] w fun e w' => e = .returned (.bool true) ∧ w = w' := by
  go_enter Try.func105, Try.ntmps105
  go_wp2
  go_ret
  exact ⟨rfl, rfl⟩
theorem digit_no (c : Int) (w : World) (h : ¬ IsDig c) :
    Calls Try.prog 105 #[.int .u8 c] w fun e w' => e = .returned (.bool false) ∧ w = w' := by
  unfold IsDig at h
  by_cases h1 : 48 ≤ c
  · have h2 : decide (c ≤ 57) = false := by simp; omega
    go_enter Try.func105, Try.ntmps105
    go_wp2
    go_ret
    exact ⟨rfl, rfl⟩
  · go_enter Try.func105, Try.ntmps105
    go_wp2
    go_ret
    exact ⟨rfl, rfl⟩
theorem res_mk {P : Prop} {w : World} (b : Bool) (h : b = true ↔ P) : Res P w (.returned (.bool b)) w := ⟨b, rfl, h, rfl⟩
theorem all_succ {s : ByteArray} {k : Nat} (hall : ∀ j, (h : j < s.size) → j < k → Good j (s[j].toNat : Int)) (hk : k < s.size) (hg : Good k (s[k].toNat : Int)) :
    ∀ j, (h : j < s.size) → j < k + 1 → Good j (s[j].toNat : Int) := by
  intro j hj hlt
  by_cases e : j = k
  · subst e; exact hg
  · exact hall j hj (by omega)
theorem not_name {s : ByteArray} {k : Nat} (hk : k < s.size) (hg : ¬ Good k (s[k].toNat : Int)) : ¬ NameP s := fun h => hg (h.2.2 k hk)
theorem yes_name {s : ByteArray} {k : Nat} (h1 : 1 ≤ s.size) (h2 : s.size ≤ 20) (hall : ∀ j, (h : j < s.size) → j < k → Good j (s[j].toNat : Int)) (hk : ¬ k < s.size) : NameP s :=
  ⟨h1, h2, fun j hj => hall j hj (by omega)⟩
theorem le_f {a b : Int} (h : ¬ a ≤ b) : decide (a ≤ b) = false := by simpa using h
theorem le_t {a b : Int} (h : a ≤ b) : decide (a ≤ b) = true := by simpa using h
theorem ne_f {a b : Int} (h : a = b) : (a != b) = false := by simp [h]
theorem ne_t {a b : Int} (h : ¬ a = b) : (a != b) = true := by simp [h]
theorem eq_f {k : Nat} (h : k ≠ 0) : ((k : Int) == 0) = false := by simp; omega
set_option maxHeartbeats 1600000 in
theorem spec_any (s : ByteArray) (w : World) (hs : s.size ≤ maxLen) :
    Calls Try.prog 22 #[.string s] w (Res (NameP s) w) := by
  unfold maxLen at hs
  by_cases h1 : 1 ≤ s.size
  · by_cases h2 : s.size ≤ 20
    · go_enter Try.func22, Try.ntmps22
      go_wp2
      go_loop [3] (fun i => ∃ k : Nat, k ≤ s.size ∧ i = .int .i64 k ∧ ∀ j, (h : j < s.size) → j < k → Good j (s[j].toNat : Int)) (fun i => s.size - (intOf i).toNat)
      case atStart => exact ⟨0, Nat.zero_le _, rfl, fun j _ h => absurd h (Nat.not_lt_zero _)⟩
      case round =>
        obtain ⟨k, hk, rfl, hall⟩ := hrel
        by_cases hlt : k < s.size
        · by_cases hg : Good k (s[k].toNat : Int)
          · have Hall := Lib.hid (all_succ hall hlt hg)
            clear hall
            have fin : ∀ c : Int, Good k c → (97 ≤ c ∧ decide (c ≤ 122) = true) ∨ (¬ 97 ≤ c ∧ ((k : Int) == 0) = false ∧ 48 ≤ c ∧ decide (c ≤ 57) = true) ∨ (¬ 97 ≤ c ∧ ((k : Int) == 0) = false ∧ 48 ≤ c ∧ decide (c ≤ 57) = false ∧ (c != 95) = false) := by
              intro c hc
              rcases hc with ⟨a, b⟩ | ⟨a, ⟨b, d⟩ | b⟩
              · exact .inl ⟨a, le_t b⟩
              · exact .inr (.inl ⟨by omega, eq_f a, b, le_t d⟩)
              · exact .inr (.inr ⟨by omega, eq_f a, by omega, le_f (by omega), ne_f b⟩)
            have fin2 := fin _ hg
            clear fin hg
            rcases fin2 with ⟨a, b⟩ | ⟨a, b, d, e⟩ | ⟨a, b, d, e, g⟩
            all_goals
              go_wp2
              go_round
              case rel => exact ⟨k + 1, by omega, by go_num, Hall.out⟩
              case measure => simp [intOf]; omega
          · have Hn := Lib.hid (not_name hlt hg)
            clear hall
            by_cases hk0 : k = 0
            · subst hk0
              by_cases h97 : 97 ≤ (s[0].toNat : Int)
              · have b1 := le_f (a := (s[0].toNat : Int)) (b := 122) (fun h => hg (.inl ⟨h97, h⟩))
                clear hg
                go_wp2
                go_ret
                exact res_mk false (by simpa using Hn.out)
              · clear hg
                go_wp2
                go_ret
                exact res_mk false (by simpa using Hn.out)
            · have b0 := eq_f hk0
              have b2 := ne_t (a := (s[k].toNat : Int)) (b := 95) (fun h => hg (.inr ⟨hk0, .inr h⟩))
              by_cases h97 : 97 ≤ (s[k].toNat : Int)
              · have b1 := le_f (a := (s[k].toNat : Int)) (b := 122) (fun h => hg (.inl ⟨h97, h⟩))
                have b3 := le_f (a := (s[k].toNat : Int)) (b := 57) (by omega)
                have b4 : 48 ≤ (s[k].toNat : Int) := by omega
                clear hg hk0
                go_wp2
                go_ret
                exact res_mk false (by simpa using Hn.out)
              · by_cases h48 : 48 ≤ (s[k].toNat : Int)
                · have b3 := le_f (a := (s[k].toNat : Int)) (b := 57) (fun h => hg (.inr ⟨hk0, .inl ⟨h48, h⟩⟩))
                  clear hg hk0
                  go_wp2
                  go_ret
                  exact res_mk false (by simpa using Hn.out)
                · clear hg hk0
                  go_wp2
                  go_ret
                  exact res_mk false (by simpa using Hn.out)
        · have Hy := Lib.hid (yes_name h1 h2 hall hlt)
          clear hall
          go_wp2
          go_ret
          exact res_mk true (by simpa using Hy.out)
    · have hn : ¬ NameP s := fun h => h2 h.2.1
      have Hn := Lib.hid hn
      clear hn
      go_enter Try.func22, Try.ntmps22
      go_wp2
      go_ret
      exact res_mk false (by simpa using Hn.out)
  · have hn : ¬ NameP s := fun h => h1 h.1
    have Hn := Lib.hid hn
    clear hn
    go_enter Try.func22, Try.ntmps22
    go_wp2
    go_ret
    exact res_mk false (by simpa using Hn.out)
def letB (c : Int) : Bool := decide (97 ≤ c) && decide (c ≤ 122)
def digB (c : Int) : Bool := decide (48 ≤ c) && decide (c ≤ 57)
theorem letB_t {c : Int} (h : IsLet c) : letB c = true := by unfold IsLet at h; simp [letB]; omega
theorem letB_f {c : Int} (h : ¬ IsLet c) : letB c = false := by unfold IsLet at h; simp [letB]; omega
theorem digB_t {c : Int} (h : IsDig c) : digB c = true := by unfold IsDig at h; simp [digB]; omega
theorem digB_f {c : Int} (h : ¬ IsDig c) : digB c = false := by unfold IsDig at h; simp [digB]; omega
theorem letter_any (c : Int) (w : World) : Calls Try.prog 104 #[.int .u8 c] w fun e w' => e = .returned (.bool (letB c)) ∧ w = w' := by
  by_cases h : IsLet c
  · rw [letB_t h]; exact letter_yes c w h.1 h.2
  · rw [letB_f h]; exact letter_no c w h
theorem digit_any (c : Int) (w : World) : Calls Try.prog 105 #[.int .u8 c] w fun e w' => e = .returned (.bool (digB c)) ∧ w = w' := by
  by_cases h : IsDig c
  · rw [digB_t h]; exact digit_yes c w h.1 h.2
  · rw [digB_f h]; exact digit_no c w h
set_option maxHeartbeats 1600000 in
theorem impl_any (s : ByteArray) (w : World) (hs : s.size ≤ maxLen) :
    Calls Try.prog 57 #[.string s] w (Res (NameP s) w) := by
  unfold maxLen at hs
  by_cases h1 : 1 ≤ s.size
  · by_cases h2 : s.size ≤ 20
    · by_cases hl : IsLet (s[0].toNat : Int)
      · have HL := Lib.hid hl
        have bl := letB_t hl
        clear hl
        go_enter Try.func57, Try.ntmps57
        go_wp2_with (first | (go_at_call 104; refine (letter_any _ _).mono ?_; rintro e w' ⟨rfl, rfl⟩) | (go_at_call 105; refine (digit_any _ _).mono ?_; rintro e w' ⟨rfl, rfl⟩))
        go_loop [20] (fun i => ∃ k : Nat, k ≤ s.size ∧ i = .int .i64 k ∧ ∀ j, (h : j < s.size) → j < k → Good j (s[j].toNat : Int)) (fun i => s.size - (intOf i).toNat)
        case atStart => exact ⟨0, Nat.zero_le _, rfl, fun j _ h => absurd h (Nat.not_lt_zero _)⟩
        case round =>
          obtain ⟨k, hk, rfl, hall⟩ := hrel
          by_cases hlt : k < s.size
          · by_cases hg : Good k (s[k].toNat : Int)
            · have Hall := Lib.hid (all_succ hall hlt hg)
              clear hall
              have fin : ∀ c : Int, Good k c → letB c = true ∨ (letB c = false ∧ digB c = true) ∨ (letB c = false ∧ digB c = false ∧ (c != 95) = false) := by
                intro c hc
                by_cases a : IsLet c
                · exact .inl (letB_t a)
                · by_cases b : IsDig c
                  · exact .inr (.inl ⟨letB_f a, digB_t b⟩)
                  · rcases hc with d | ⟨_, d | d⟩
                    · exact absurd d a
                    · exact absurd d b
                    · exact .inr (.inr ⟨letB_f a, digB_f b, ne_f d⟩)
              have fin2 := fin _ hg
              clear fin hg bl
              rcases fin2 with a | ⟨a, b⟩ | ⟨a, b, d⟩
              all_goals
                go_wp2_with (first | (go_at_call 104; refine (letter_any _ _).mono ?_; rintro e w' ⟨rfl, rfl⟩) | (go_at_call 105; refine (digit_any _ _).mono ?_; rintro e w' ⟨rfl, rfl⟩))
                go_round
                case rel => exact ⟨k + 1, by omega, by go_num, Hall.out⟩
                case measure => simp [intOf]; omega
            · have Hn := Lib.hid (not_name hlt hg)
              clear hall
              by_cases hk0 : k = 0
              · subst hk0
                exact absurd (.inl HL.out) hg
              · have b1 := letB_f (fun h => hg (.inl h))
                have b2 := digB_f (fun h => hg (.inr ⟨hk0, .inl h⟩))
                have b3 := ne_t (a := (s[k].toNat : Int)) (b := 95) (fun h => hg (.inr ⟨hk0, .inr h⟩))
                clear hg hk0 bl
                go_wp2_with (first | (go_at_call 104; refine (letter_any _ _).mono ?_; rintro e w' ⟨rfl, rfl⟩) | (go_at_call 105; refine (digit_any _ _).mono ?_; rintro e w' ⟨rfl, rfl⟩))
                go_ret
                exact res_mk false (by simpa using Hn.out)
          · have Hy := Lib.hid (yes_name h1 h2 hall hlt)
            clear hall
            go_wp2
            go_ret
            exact res_mk true (by simpa using Hy.out)
      · have hn : ¬ NameP s := fun h => by
          rcases h.2.2 0 (by omega) with a | ⟨a, _⟩
          · exact hl a
          · exact a rfl
        have Hn := Lib.hid hn
        have bl := letB_f hl
        clear hn hl
        go_enter Try.func57, Try.ntmps57
        go_wp2_with (go_at_call 104; refine (letter_any _ _).mono ?_; rintro e w' ⟨rfl, rfl⟩)
        go_ret
        exact res_mk false (by simpa using Hn.out)
    · have hn : ¬ NameP s := fun h => h2 h.2.1
      have Hn := Lib.hid hn
      clear hn
      go_enter Try.func57, Try.ntmps57
      go_wp2
      go_ret
      exact res_mk false (by simpa using Hn.out)
  · have hn : ¬ NameP s := fun h => h1 h.1
    have Hn := Lib.hid hn
    clear hn
    go_enter Try.func57, Try.ntmps57
    go_wp2
    go_ret
    exact res_mk false (by simpa using Hn.out)
end Go.Proofs.Ytkghodbbgehcoaa.NameC
end
section
namespace Go.Proofs.Ytkghodbbgehcoaa.LabC
open Go.RowKit
def rP (l s : Int) : Prop := 0 ≤ l ∧ l ≤ 3 ∧ 0 ≤ s ∧ s ≤ 7
def rB (l s : Int) : Bool := decide (0 ≤ l) && (decide (l ≤ 3) && (decide (0 ≤ s) && decide (s ≤ 7)))
theorem rB_iff (l s : Int) : rB l s = true ↔ rP l s := by unfold rB rP; simp
def isB (n lo hi : Int) : Bool := decide (lo ≤ n) && decide (n ≤ hi)
def lab (l s : Int) : Value := .agg #[.int .i64 l, .int .i64 s]
theorem is_any (n lo hi : Int) (w : World) :
    Calls Try.prog 63 #[.int .i64 n, .int .i64 lo, .int .i64 hi] w fun e w' => e = .returned (.bool (isB n lo hi)) ∧ w = w' := by
  by_cases h1 : lo ≤ n
  · by_cases h2 : n ≤ hi
    · have hb : isB n lo hi = true := by simp [isB, h1, h2]
      rw [hb]; clear hb
      go_enter Try.func63, Try.ntmps63
      go_wp2
      go_ret
      exact ⟨rfl, rfl⟩
    · have hb : isB n lo hi = false := by simp [isB, h1, h2]
      rw [hb]; clear hb
      have h2' : decide (n ≤ hi) = false := by simpa using h2
      go_enter Try.func63, Try.ntmps63
      go_wp2
      go_ret
      exact ⟨rfl, rfl⟩
  · have hb : isB n lo hi = false := by simp [isB, h1]
    rw [hb]; clear hb
    have h1' : decide (lo ≤ n) = false := by simpa using h1
    go_enter Try.func63, Try.ntmps63
    go_wp2
    go_ret
    exact ⟨rfl, rfl⟩
def labO (l s : Int) : Obj := .cells #[.int .i64 l, .int .i64 s] 25
theorem right_spec (l s : Int) (w : World) :
    Calls Try.prog 21 #[lab l s] w fun e w' => e = .returned (.bool (rB l s)) ∧ w.alloc (labO l s) = w' := by
  unfold lab
  by_cases h1 : isB l 0 3 = true
  · have hb : rB l s = isB s 0 7 := by simp [isB] at h1; simp [rB, isB, h1]
    rw [hb]; clear hb
    go_enter Try.func21, Try.ntmps21
    go_wp2_with (go_at_call 63; refine (is_any _ _ _ _).mono ?_; rintro e w' ⟨rfl, rfl⟩)
    go_ret
    exact ⟨rfl, rfl⟩
  · have h1' : isB l 0 3 = false := by simpa using h1
    have hb : rB l s = false := by
      simp [isB] at h1; simp [rB]; omega
    rw [hb]; clear hb h1
    go_enter Try.func21, Try.ntmps21
    go_wp2_with (go_at_call 63; refine (is_any _ _ _ _).mono ?_; rintro e w' ⟨rfl, rfl⟩)
    go_ret
    exact ⟨rfl, rfl⟩
theorem le_f {a b : Int} (h : ¬ a ≤ b) : decide (a ≤ b) = false := by simpa using h
theorem right_impl (l s : Int) (w : World) :
    Calls Try.prog 56 #[lab l s] w fun e w' => e = .returned (.bool (rB l s)) ∧ w.alloc (labO l s) = w' := by
  unfold lab
  by_cases h1 : 0 ≤ l
  · by_cases h2 : l ≤ 3
    · by_cases h3 : 0 ≤ s
      · by_cases h4 : s ≤ 7
        · have hb : rB l s = true := by rw [rB_iff]; exact ⟨h1, h2, h3, h4⟩
          rw [hb]; clear hb
          go_enter Try.func56, Try.ntmps56
          go_wp2
          go_ret
          exact ⟨rfl, rfl⟩
        · have hb : rB l s = false := by simp [rB]; omega
          rw [hb]; clear hb
          have g := le_f h4
          go_enter Try.func56, Try.ntmps56
          go_wp2
          go_ret
          exact ⟨rfl, rfl⟩
      · have hb : rB l s = false := by simp [rB]; omega
        rw [hb]; clear hb
        have g := le_f h3
        go_enter Try.func56, Try.ntmps56
        go_wp2
        go_ret
        exact ⟨rfl, rfl⟩
    · have hb : rB l s = false := by simp [rB]; omega
      rw [hb]; clear hb
      have g := le_f h2
      go_enter Try.func56, Try.ntmps56
      go_wp2
      go_ret
      exact ⟨rfl, rfl⟩
  · have hb : rB l s = false := by simp [rB]; omega
    rw [hb]; clear hb
    have g := le_f h1
    go_enter Try.func56, Try.ntmps56
    go_wp2
    go_ret
    exact ⟨rfl, rfl⟩
def minV (a b : Int) : Int := if a < b then a else b
def bB (l s m t : Int) : Bool := decide (l ≤ m) && (bits BinOp.and IntKind.i64 s t == s)
theorem below2_spec (l s m t : Int) (w : World) :
    Calls Try.prog 115 #[lab l s, lab m t] w fun e w' => e = .returned (.bool (bB l s m t)) ∧ (w.alloc (labO l s)).alloc (labO m t) = w' := by
  unfold lab
  by_cases h : l ≤ m
  · have hb : bB l s m t = (bits BinOp.and IntKind.i64 s t == s) := by simp [bB, h]
    rw [hb]; clear hb
    go_enter Try.func115, Try.ntmps115
    go_wp2
    go_ret
    exact ⟨rfl, rfl⟩
  · have hb : bB l s m t = false := by simp [bB, h]
    rw [hb]; clear hb
    have g := le_f h
    go_enter Try.func115, Try.ntmps115
    go_wp2
    go_ret
    exact ⟨rfl, rfl⟩
def meetV (l s m t : Int) : Value := if rB l s = true ∧ rB m t = true then lab (minV l m) (bits BinOp.and IntKind.i64 s t) else lab 0 0
theorem min_lt {a b : Int} (h : a < b) : a = minV a b := by unfold minV; split <;> omega
theorem min_ge {a b : Int} (h : b ≤ a) : b = minV a b := by unfold minV; split <;> omega
end Go.Proofs.Ytkghodbbgehcoaa.LabC
end
section
namespace Go.Proofs.Ytkghodbbgehcoaa.SpanC
open Go.RowKit KeptC
def ResB (P : Prop) (w : World) (e : Ending) (w' : World) : Prop := ∃ b : Bool, e = .returned (.bool b) ∧ (b = true ↔ P) ∧ Below w.heap.size w w'
theorem resB_yes {P : Prop} {w w' : World} (h : P) (hb : Below w.heap.size w w') : ResB P w (.returned (.bool true)) w' := ⟨true, rfl, by simp [h], hb⟩
theorem resB_no {P : Prop} {w w' : World} (h : ¬ P) (hb : Below w.heap.size w w') : ResB P w (.returned (.bool false)) w' := ⟨false, rfl, by simp [h], hb⟩
theorem resB_elim {P : Prop} {w : World} {e : Ending} {w' : World} (h : ResB P w e w') : ∃ b : Bool, e = .returned (.bool b) ∧ (b = true ↔ P) ∧ Below w.heap.size w w' := h
theorem all_step {P : Nat → Prop} {k : Nat} (h : ∀ j, j < k → P j) (hk : P k) : ∀ j, j < k + 1 → P j := fun j hj => by
  by_cases e : j = k
  · subst e; exact hk
  · exact h j (by omega)
end Go.Proofs.Ytkghodbbgehcoaa.SpanC
end
section
namespace Go.Proofs.Ytkghodbbgehcoaa.SpanC
open Go.RowKit KeptC
def isB (n lo hi : Int) : Bool := decide (lo ≤ n) && decide (n ≤ hi)
theorem isB_iff (n lo hi : Int) : isB n lo hi = true ↔ lo ≤ n ∧ n ≤ hi := by simp [isB]
theorem is_spec (n lo hi : Int) (w : World) :
    Calls Try.prog 63 #[.int .i64 n, .int .i64 lo, .int .i64 hi] w fun e w' => e = .returned (.bool (isB n lo hi)) ∧ w = w' := by
  by_cases h1 : lo ≤ n
  · by_cases h2 : n ≤ hi
    · have hb : isB n lo hi = true := by simp [isB, h1, h2]
      rw [hb]; clear hb
      go_enter Try.func63, Try.ntmps63
      go_wp2
      go_ret
      exact ⟨rfl, rfl⟩
    · have hb : isB n lo hi = false := by simp [isB, h1, h2]
      rw [hb]; clear hb
      have h2' : decide (n ≤ hi) = false := by simpa using h2
      go_enter Try.func63, Try.ntmps63
      go_wp2
      go_ret
      exact ⟨rfl, rfl⟩
  · have hb : isB n lo hi = false := by simp [isB, h1]
    rw [hb]; clear hb
    have h1' : decide (lo ≤ n) = false := by simpa using h1
    go_enter Try.func63, Try.ntmps63
    go_wp2
    go_ret
    exact ⟨rfl, rfl⟩
theorem is_impl (n lo hi : Int) (w : World) :
    Calls Try.prog 106 #[.int .i64 n, .int .i64 lo, .int .i64 hi] w fun e w' => e = .returned (.bool (isB n lo hi)) ∧ w = w' := by
  by_cases h1 : lo ≤ n
  · by_cases h2 : n ≤ hi
    · have hb : isB n lo hi = true := by simp [isB, h1, h2]
      rw [hb]; clear hb
      go_enter Try.func106, Try.ntmps106
      go_wp2
      go_ret
      exact ⟨rfl, rfl⟩
    · have hb : isB n lo hi = false := by simp [isB, h1, h2]
      rw [hb]; clear hb
      have h2' : decide (n ≤ hi) = false := by simpa using h2
      go_enter Try.func106, Try.ntmps106
      go_wp2
      go_ret
      exact ⟨rfl, rfl⟩
  · have hb : isB n lo hi = false := by simp [isB, h1]
    rw [hb]; clear hb
    have h1' : decide (lo ≤ n) = false := by simpa using h1
    go_enter Try.func106, Try.ntmps106
    go_wp2
    go_ret
    exact ⟨rfl, rfl⟩
theorem time_spec (n : Int) (w : World) :
    Calls Try.prog 72 #[.int .i64 n] w fun e w' => e = .returned (.bool (isB n 0 1000000)) ∧ w = w' := by
  go_enter Try.func72, Try.ntmps72
  go_wp2_with (go_at_call 63; refine (is_spec _ _ _ _).mono ?_; rintro e w' ⟨rfl, rfl⟩)
  go_ret
  exact ⟨rfl, rfl⟩
theorem time_impl (n : Int) (w : World) :
    Calls Try.prog 136 #[.int .i64 n] w fun e w' => e = .returned (.bool (isB n 0 1000000)) ∧ w = w' := by
  go_enter Try.func136, Try.ntmps136
  go_wp2_with (go_at_call 106; refine (is_impl _ _ _ _).mono ?_; rintro e w' ⟨rfl, rfl⟩)
  go_ret
  exact ⟨rfl, rfl⟩
end Go.Proofs.Ytkghodbbgehcoaa.SpanC
end
section
namespace Go.Proofs.Ytkghodbbgehcoaa.RepC
open Go.RowKit RowC ValC SpanC KeptC NameC
set_option linter.unusedVariables false
set_option linter.unusedSimpArgs false
def ltLb (a b : D_Label) : Prop := a.1 < b.1 ∨ (a.1 = b.1 ∧ a.2 < b.2)
theorem ltLb_trans {a b c : D_Label} (h1 : ltLb a b) (h2 : ltLb b c) : ltLb a c := by unfold ltLb at *; omega
theorem ltLb_irrefl {a : D_Label} : ¬ ltLb a a := by unfold ltLb; omega
theorem resB_is {P : Prop} {b : Bool} {w w' : World} {e : Ending} (hb : b = true ↔ P) (h : ResB P w e w') : IsB b w e w' := by
  obtain ⟨c, rfl, hc, hB⟩ := h
  obtain rfl : c = b := by
    cases c <;> cases b <;> first | rfl | exact absurd (hc.2 (hb.1 rfl)) (by decide) | exact absurd (hb.2 (hc.1 rfl)) (by decide)
  exact ⟨rfl, hB⟩
end Go.Proofs.Ytkghodbbgehcoaa.RepC
end
section
namespace Go.Proofs.Ytkghodbbgehcoaa.LabC
open Go.RowKit
theorem meet_yes {l s m t : Int} (h1 : rB l s = true) (h2 : rB m t = true) : meetV l s m t = lab (minV l m) (bits BinOp.and IntKind.i64 s t) := by unfold meetV; rw [if_pos ⟨h1, h2⟩]
theorem meet_no1 {l s m t : Int} (h1 : rB l s = false) : meetV l s m t = .agg #[.int .i64 0, .int .i64 0] := by unfold meetV; rw [if_neg (by simp [h1])]; rfl
theorem meet_no2 {l s m t : Int} (h1 : rB m t = false) : meetV l s m t = .agg #[.int .i64 0, .int .i64 0] := by unfold meetV; rw [if_neg (by simp [h1])]; rfl
set_option maxRecDepth 100000 in
set_option maxHeartbeats 1600000 in
theorem meet_impl (l s m t : Int) (w : World) :
    Calls Try.prog 135 #[lab l s, lab m t] w fun e w' => e = .returned (meetV l s m t) ∧ Below w.heap.size w w' := by
  by_cases h1 : rB l s = true
  · by_cases h2 : rB m t = true
    · rw [meet_yes h1 h2]
      unfold lab
      go_enter Try.func135, Try.ntmps135
      go_wp2_with (go_at_call 56; refine (right_impl _ _ _).mono ?_; unfold labO; rintro e w1 ⟨rfl, rfl⟩)
      all_goals
        refine bodyPost_ret (v := .agg #[.int .i64 (minV l m), .int .i64 (bits BinOp.and IntKind.i64 s t)]) (by simp [results, Try.results135, go_sem]; first | exact min_lt ‹_› | exact min_ge ‹_› | (unfold minV; split <;> omega)) rfl ⟨rfl, ?_⟩
        repeat (first | exact Below.refl _ _ | refine Below.setCell ?_ (by simp <;> omega) _ | refine Below.drew ?_ | refine Below.alloc ?_ (by simp <;> omega) _)
    · have h2' : rB m t = false := by simpa using h2
      rw [meet_no2 h2']
      clear h2
      unfold lab
      go_enter Try.func135, Try.ntmps135
      go_wp2_with (go_at_call 56; refine (right_impl _ _ _).mono ?_; unfold labO; rintro e w1 ⟨rfl, rfl⟩)
      refine bodyPost_ret (v := .agg #[.int .i64 0, .int .i64 0]) (by simp [results, Try.results135, go_sem]) rfl ⟨rfl, ?_⟩
      repeat (first | exact Below.refl _ _ | refine Below.setCell ?_ (by simp <;> omega) _ | refine Below.drew ?_ | refine Below.alloc ?_ (by simp <;> omega) _)
  · have h1' : rB l s = false := by simpa using h1
    rw [meet_no1 h1']
    clear h1
    unfold lab
    go_enter Try.func135, Try.ntmps135
    go_wp2_with (go_at_call 56; refine (right_impl _ _ _).mono ?_; unfold labO; rintro e w1 ⟨rfl, rfl⟩)
    refine bodyPost_ret (v := .agg #[.int .i64 0, .int .i64 0]) (by simp [results, Try.results135, go_sem]) rfl ⟨rfl, ?_⟩
    repeat (first | exact Below.refl _ _ | refine Below.setCell ?_ (by simp <;> omega) _ | refine Below.drew ?_ | refine Below.alloc ?_ (by simp <;> omega) _)
end Go.Proofs.Ytkghodbbgehcoaa.LabC
end
section
namespace Go.Proofs.Ytkghodbbgehcoaa.LabC
open Go.RowKit KeptC
theorem inits (w : World) (l s m t : Int) (k k' : TypeId) : KS w (w.heap.size + 2) [(w.heap.size, 0, .int .i64 l), (w.heap.size, 1, .int .i64 s), (w.heap.size + 1, 0, .int .i64 m), (w.heap.size + 1, 1, .int .i64 t)] ((w.alloc (.cells #[.int .i64 l, .int .i64 s] k)).alloc (.cells #[.int .i64 m, .int .i64 t] k')) :=
  ⟨by simp, by simp, by simp, ((Below.refl _ _).alloc (Nat.le_refl _) _).alloc (by simp) _, by simp⟩
theorem ri_w (l s : Int) (w : World) : Calls Try.prog 56 #[.agg #[.int .i64 l, .int .i64 s]] w fun e w' => e = .returned (.bool (rB l s)) ∧ Below w.heap.size w w' :=
  (right_impl l s w).mono fun e w' ⟨he, hw⟩ => ⟨he, by rw [← hw]; exact (Below.refl _ _).alloc (Nat.le_refl _) _⟩
def belowB (l s m t : Int) : Bool := rB l s && (rB m t && bB l s m t)
theorem below_yes {l s m t : Int} (h1 : rB l s = true) (h2 : rB m t = true) : belowB l s m t = bB l s m t := by simp [belowB, h1, h2]
theorem below_no1 {l s m t : Int} (h1 : rB l s = false) : belowB l s m t = false := by simp [belowB, h1]
theorem below_no2 {l s m t : Int} (h1 : rB m t = false) : belowB l s m t = false := by simp [belowB, h1]
theorem below_spec (l s m t : Int) (w : World) :
    Calls Try.prog 71 #[lab l s, lab m t] w fun e w' => e = .returned (.bool (belowB l s m t)) ∧ Below w.heap.size w w' := by
  by_cases h1 : rB l s = true
  · by_cases h2 : rB m t = true
    · rw [below_yes h1 h2]
      unfold lab
      go_enter Try.func71, Try.ntmps71
      go_wp2_with (first | (go_at_call 21; refine (right_spec _ _ _).mono ?_; unfold labO; rintro e w1 ⟨rfl, rfl⟩) | (go_at_call 115; refine (below2_spec _ _ _ _ _).mono ?_; unfold labO; rintro e w1 ⟨rfl, rfl⟩))
      go_ret
      refine ⟨rfl, ?_⟩
      repeat (first | exact Below.refl _ _ | refine Below.setCell ?_ (by simp <;> omega) _ | refine Below.drew ?_ | refine Below.alloc ?_ (by simp <;> omega) _)
    · have h2' : rB m t = false := by simpa using h2
      rw [below_no2 h2']
      clear h2
      unfold lab
      go_enter Try.func71, Try.ntmps71
      go_wp2_with (first | (go_at_call 21; refine (right_spec _ _ _).mono ?_; unfold labO; rintro e w1 ⟨rfl, rfl⟩) | (go_at_call 115; refine (below2_spec _ _ _ _ _).mono ?_; unfold labO; rintro e w1 ⟨rfl, rfl⟩))
      go_ret
      refine ⟨rfl, ?_⟩
      repeat (first | exact Below.refl _ _ | refine Below.setCell ?_ (by simp <;> omega) _ | refine Below.drew ?_ | refine Below.alloc ?_ (by simp <;> omega) _)
  · have h1' : rB l s = false := by simpa using h1
    rw [below_no1 h1']
    clear h1
    unfold lab
    go_enter Try.func71, Try.ntmps71
    go_wp2_with (first | (go_at_call 21; refine (right_spec _ _ _).mono ?_; unfold labO; rintro e w1 ⟨rfl, rfl⟩) | (go_at_call 115; refine (below2_spec _ _ _ _ _).mono ?_; unfold labO; rintro e w1 ⟨rfl, rfl⟩))
    go_ret
    refine ⟨rfl, ?_⟩
    repeat (first | exact Below.refl _ _ | refine Below.setCell ?_ (by simp <;> omega) _ | refine Below.drew ?_ | refine Below.alloc ?_ (by simp <;> omega) _)
theorem eq_below (l s m t : Int) : bB l s m t = ((minV l m == l) && (bits BinOp.and IntKind.i64 s t == s)) := by
  have h : decide (l ≤ m) = (minV l m == l) := by
    rw [Bool.eq_iff_iff]; simp [minV]; omega
  unfold bB
  rw [h]
theorem two_ways (a b : Bool) : a = false ∧ (a && b) = false ∨ (a = true ∧ b = false) ∧ (a && b) = false ∨ (a = true ∧ b = true) ∧ (a && b) = true := by cases a <;> cases b <;> simp
set_option maxRecDepth 100000 in
set_option maxHeartbeats 1600000 in
theorem below_impl (l s m t : Int) (w : World) :
    Calls Try.prog 116 #[lab l s, lab m t] w fun e w' => e = .returned (.bool (belowB l s m t)) ∧ Below w.heap.size w w' := by
  by_cases h1 : rB l s = true
  · by_cases h2 : rB m t = true
    · rw [below_yes h1 h2, eq_below]
      have HM : ∀ w, Calls Try.prog 135 #[lab l s, lab m t] w fun e w' => e = .returned (lab (minV l m) (bits BinOp.and IntKind.i64 s t)) ∧ Below w.heap.size w w' := by
        intro w
        have := meet_impl l s m t w
        rw [meet_yes h1 h2] at this
        exact this
      generalize minV l m = p at *
      generalize bits BinOp.and IntKind.i64 s t = q at *
      unfold lab at *
      rcases two_ways (p == l) (q == s) with ⟨g1, g⟩ | ⟨⟨g1, g2⟩, g⟩ | ⟨⟨g1, g2⟩, g⟩
      all_goals
        rw [g]
        clear g
        go_enter Try.func116, Try.ntmps116
        go_wp2_with fail
        go_region_held3 (fun W => W.cell? ⟨w.heap.size, 0, none⟩ = some (.int .i64 l) ∧ W.cell? ⟨w.heap.size, 1, none⟩ = some (.int .i64 s) ∧ W.cell? ⟨w.heap.size + 1, 0, none⟩ = some (.int .i64 m) ∧ W.cell? ⟨w.heap.size + 1, 1, none⟩ = some (.int .i64 t) ∧ KS w (w.heap.size + 2) ([(w.heap.size, 0, .int .i64 l), (w.heap.size, 1, .int .i64 s), (w.heap.size + 1, 0, .int .i64 m), (w.heap.size + 1, 1, .int .i64 t)]) W)
          (exact ((fun (h : KS w (w.heap.size + 2) ([(w.heap.size, 0, .int .i64 l), (w.heap.size, 1, .int .i64 s), (w.heap.size + 1, 0, .int .i64 m), (w.heap.size + 1, 1, .int .i64 t)]) _) => ⟨h.at (by simp), h.at (by simp), h.at (by simp), h.at (by simp), h⟩) (by (repeat (first | assumption | exact inits w l s m t _ _ | refine KS.drew ?_ | refine KS.alloc ?_ _ | refine KS.set ?_ (by first | omega | (simp <;> omega)) _)))))
          (first | (go_at_call 56; refine (ri_w _ _ _).mono ?_; rintro e w1 ⟨rfl, hb⟩; have hL := KS.call (w := w) (base := w.heap.size + 2) (L := [(w.heap.size, 0, .int .i64 l), (w.heap.size, 1, .int .i64 s), (w.heap.size + 1, 0, .int .i64 m), (w.heap.size + 1, 1, .int .i64 t)]) (by (repeat (first | assumption | exact inits w l s m t _ _ | refine KS.drew ?_ | refine KS.alloc ?_ _ | refine KS.set ?_ (by first | omega | (simp <;> omega)) _))) hb; have hz := hL.size; have hs := hb.size; (try simp at hs); (try have hqC := join hqC hb); (try have hqC := join_alloc hqC hb); (try have hqC := join_drew hqC hb); (try have hqB := join hqB hb); (try have hqB := join_alloc hqB hb); (try have hqB := join_drew hqB hb); (try have hqA := join hqA hb); (try have hqA := join_alloc hqA hb); (try have hqA := join_drew hqA hb); (first | (have hqD' := hqC; have hqD := hb) | (have hqB' := hqB; have hqC := hb) | (have hqA' := hqA; have hqB := hb) | have hqA := hb); (try (have hrA := rules hqA; obtain ⟨hrA1, hrA2, hrA3, hrA4⟩ := hrA)); (try (have hrB := rules hqB; obtain ⟨hrB1, hrB2, hrB3, hrB4⟩ := hrB)); (try (have hrC := rules hqC; obtain ⟨hrC1, hrC2, hrC3, hrC4⟩ := hrC)); (try (have hrD := rules hqD; obtain ⟨hrD1, hrD2, hrD3, hrD4⟩ := hrD))) | (go_at_call 135; refine (HM _).mono ?_; rintro e w1 ⟨rfl, hb⟩; have hL := KS.call (w := w) (base := w.heap.size + 2) (L := [(w.heap.size, 0, .int .i64 l), (w.heap.size, 1, .int .i64 s), (w.heap.size + 1, 0, .int .i64 m), (w.heap.size + 1, 1, .int .i64 t)]) (by (repeat (first | assumption | exact inits w l s m t _ _ | refine KS.drew ?_ | refine KS.alloc ?_ _ | refine KS.set ?_ (by first | omega | (simp <;> omega)) _))) hb; have hz := hL.size; have hs := hb.size; (try simp at hs); (try have hqC := join hqC hb); (try have hqC := join_alloc hqC hb); (try have hqC := join_drew hqC hb); (try have hqB := join hqB hb); (try have hqB := join_alloc hqB hb); (try have hqB := join_drew hqB hb); (try have hqA := join hqA hb); (try have hqA := join_alloc hqA hb); (try have hqA := join_drew hqA hb); (first | (have hqD' := hqC; have hqD := hb) | (have hqB' := hqB; have hqC := hb) | (have hqA' := hqA; have hqB := hb) | have hqA := hb); (try (have hrA := rules hqA; obtain ⟨hrA1, hrA2, hrA3, hrA4⟩ := hrA)); (try (have hrB := rules hqB; obtain ⟨hrB1, hrB2, hrB3, hrB4⟩ := hrB)); (try (have hrC := rules hqC; obtain ⟨hrC1, hrC2, hrC3, hrC4⟩ := hrC)); (try (have hrD := rules hqD; obtain ⟨hrD1, hrD2, hrD3, hrD4⟩ := hrD))))
        go_wp2_with fail
        go_ret
        exact ⟨rfl, KS.below (base := w.heap.size + 2) (L := [(w.heap.size, 0, .int .i64 l), (w.heap.size, 1, .int .i64 s), (w.heap.size + 1, 0, .int .i64 m), (w.heap.size + 1, 1, .int .i64 t)]) (by (repeat (first | assumption | exact inits w l s m t _ _ | refine KS.drew ?_ | refine KS.alloc ?_ _ | refine KS.set ?_ (by first | omega | (simp <;> omega)) _)))⟩
    · have h2' : rB m t = false := by simpa using h2
      rw [below_no2 h2']
      clear h2
      unfold lab
      go_enter Try.func116, Try.ntmps116
      go_wp2_with fail
      go_region_with (first | (go_at_call 56; refine (right_impl _ _ _).mono ?_; unfold labO; rintro e w1 ⟨rfl, rfl⟩))
      all_goals go_wp2
      all_goals go_ret
      all_goals refine ⟨rfl, ?_⟩
      all_goals repeat (first | exact Below.refl _ _ | refine Below.setCell ?_ (by simp <;> omega) _ | refine Below.drew ?_ | refine Below.alloc ?_ (by simp <;> omega) _)
  · have h1' : rB l s = false := by simpa using h1
    rw [below_no1 h1']
    clear h1
    unfold lab
    go_enter Try.func116, Try.ntmps116
    go_wp2_with fail
    go_region_with (first | (go_at_call 56; refine (right_impl _ _ _).mono ?_; unfold labO; rintro e w1 ⟨rfl, rfl⟩))
    all_goals go_wp2
    all_goals go_ret
    all_goals refine ⟨rfl, ?_⟩
    all_goals repeat (first | exact Below.refl _ _ | refine Below.setCell ?_ (by simp <;> omega) _ | refine Below.drew ?_ | refine Below.alloc ?_ (by simp <;> omega) _)
end Go.Proofs.Ytkghodbbgehcoaa.LabC
end
section
namespace Go.Proofs.Ytkghodbbgehcoaa.RepC
open Go.RowKit RowC ValC
theorem eql_lab (y0 y1 x0 x1 : Int) (b : Bool) (hb : decide (((y0, y1) : Int × Int) = (x0, x1)) = b) : ∀ w, (binOp .eql 25 (.agg #[.int .i64 y0, .int .i64 y1]) (.agg #[.int .i64 x0, .int .i64 x1])).run Try.prog w = .ok (.bool b) w := by
  intro w
  subst hb
  go_simp
  repeat' split
  all_goals simp_all
theorem neq_lab (y0 y1 x0 x1 : Int) (b : Bool) (hb : decide (((y0, y1) : Int × Int) = (x0, x1)) = b) : ∀ w, (binOp .neq 25 (.agg #[.int .i64 y0, .int .i64 y1]) (.agg #[.int .i64 x0, .int .i64 x1])).run Try.prog w = .ok (.bool (!b)) w := by
  intro w
  subst hb
  go_simp
  repeat' split
  all_goals simp_all
end Go.Proofs.Ytkghodbbgehcoaa.RepC
end
section
namespace Go.Proofs.Ytkghodbbgehcoaa.RepC
open Go.RowKit RowC ValC SpanC KeptC NameC
set_option linter.unusedVariables false
set_option linter.unusedSimpArgs false
open Classical in
noncomputable def nameB (s : ByteArray) : Bool := decide (NameP s)
open Classical in
theorem nameB_iff {s : ByteArray} : nameB s = true ↔ NameP s := by unfold nameB; simp
theorem rB_bd {l s : Int} (h : LabC.rB l s = true) : 0 ≤ l ∧ l ≤ 3 ∧ 0 ≤ s ∧ s ≤ 7 := by simpa [LabC.rB_iff, LabC.rP] using h
theorem ord_w {l s : Int} (h : LabC.rB l s = true) (w : World) : Calls Try.prog 82 #[.agg #[.int .i64 l, .int .i64 s]] w fun e w' => e = .returned (.int .i64 (8 * l + s)) ∧ Below w.heap.size w w' := by
  obtain ⟨h1, h2, h3, h4⟩ := rB_bd h
  go_enter Try.func82, Try.ntmps82
  go_wp2
  go_ret
  exact ⟨rfl, (Below.refl _ _).alloc (Nat.le_refl _) _⟩
end Go.Proofs.Ytkghodbbgehcoaa.RepC
end
section
namespace Go.Proofs.Ytkghodbbgehcoaa.SpanC
open Go.RowKit KeptC
structure Fill (w : World) (n : Nat) (f : Nat → Int × Int) (k : Nat) (W : World) : Prop where
  cells : ∀ j, j < n → ∃ u v, W.cell? ⟨w.heap.size, j * 2, none⟩ = some u ∧ W.cell? ⟨w.heap.size, j * 2 + 1, none⟩ = some v ∧ (j < k → u = .int .i64 (f j).1 ∧ v = .int .i64 (f j).2)
  soft : ∀ j, W.frozen? ⟨w.heap.size, j, none⟩ = false
  below : Below w.heap.size w W
  lt : w.heap.size < W.heap.size
theorem Fill.call {w W W1 : World} {n k : Nat} {f : Nat → Int × Int} (h : Fill w n f k W) (hb : Below W.heap.size W W1) : Fill w n f k W1 := by
  refine ⟨fun j hj => ?_, fun j => (hb.frozen (p := ⟨w.heap.size, j, none⟩) h.lt).trans (h.soft j), h.below.trans (hb.mono (Nat.le_of_lt h.lt)), Nat.lt_of_lt_of_le h.lt hb.size⟩
  obtain ⟨u, v, hu, hv, hk⟩ := h.cells j hj
  exact ⟨u, v, (hb.cell (p := ⟨w.heap.size, j * 2, none⟩) h.lt).trans hu, (hb.cell (p := ⟨w.heap.size, j * 2 + 1, none⟩) h.lt).trans hv, hk⟩
theorem Fill.put {w W : World} {n k : Nat} {f : Nat → Int × Int} (h : Fill w n f k W) (hk : k < n) :
    Fill w n f (k + 1) ((W.setCell ⟨w.heap.size, k * 2, none⟩ (.int .i64 (f k).1)).setCell ⟨w.heap.size, k * 2 + 1, none⟩ (.int .i64 (f k).2)) := by
  have ne : ∀ a b : Nat, a ≠ b → (⟨w.heap.size, a, none⟩ : Addr) ≠ ⟨w.heap.size, b, none⟩ := fun a b hab e => hab (by injection e)
  obtain ⟨u0, v0, hu0, hv0, _⟩ := h.cells k hk
  refine ⟨fun j hj => ?_, fun j => by simpa using h.soft j, (h.below.setCell (Nat.le_refl _) _).setCell (Nat.le_refl _) _, by simpa using h.lt⟩
  by_cases e : j = k
  · subst e
    refine ⟨.int .i64 (f j).1, .int .i64 (f j).2, ?_, ?_, fun _ => ⟨rfl, rfl⟩⟩
    · rw [World.cell?_setCell_other _ _ _ _ (ne _ _ (by omega)), World.cell?_setCell_same' _ _ _ (by rw [hu0]; rfl)]
    · rw [World.cell?_setCell_same' _ _ _ (by rw [World.cell?_setCell_other _ _ _ _ (ne _ _ (by omega)), hv0]; rfl)]
  · obtain ⟨u, v, hu, hv, hlt⟩ := h.cells j hj
    refine ⟨u, v, ?_, ?_, fun hj' => hlt (by omega)⟩
    · rw [World.cell?_setCell_other _ _ _ _ (ne _ _ (by omega)), World.cell?_setCell_other _ _ _ _ (ne _ _ (by omega))]; exact hu
    · rw [World.cell?_setCell_other _ _ _ _ (ne _ _ (by omega)), World.cell?_setCell_other _ _ _ _ (ne _ _ (by omega))]; exact hv
def PRow (w : World) (b o n : Nat) (f : Nat → Int × Int) : Prop := ∀ i, i < n → w.cell? ⟨b, o + i * 2, none⟩ = some (.int .i64 (f i).1) ∧ w.cell? ⟨b, o + i * 2 + 1, none⟩ = some (.int .i64 (f i).2)
theorem PRow.below {w W : World} {b o n B : Nat} {f : Nat → Int × Int} (h : PRow w b o n f) (hb : Below B w W) (hB : b < B) : PRow W b o n f := fun i hi =>
  ⟨(hb.cell (p := ⟨b, o + i * 2, none⟩) hB).trans (h i hi).1, (hb.cell (p := ⟨b, o + i * 2 + 1, none⟩) hB).trans (h i hi).2⟩
theorem Fill.row {w W : World} {n : Nat} {f : Nat → Int × Int} (h : Fill w n f n W) : PRow W w.heap.size 0 n f := fun i hi => by
  obtain ⟨u, v, hu, hv, he⟩ := h.cells i hi
  obtain ⟨rfl, rfl⟩ := he hi
  exact ⟨by simpa using hu, by simpa using hv⟩
end Go.Proofs.Ytkghodbbgehcoaa.SpanC
end
section
namespace Go.Proofs.Ytkghodbbgehcoaa.RepC
open Go.RowKit RowC ValC SpanC KeptC
set_option linter.unusedVariables false
set_option linter.unusedSimpArgs false
def okN (L : List Int) (i : Nat) : Prop := ∀ x, L[i]? = some x → isB x 0 5 = true ∧ (0 < i → ∀ y, L[i - 1]? = some y → y < x)
def NodesR (L : List Int) : Prop := ∀ i, i < L.length → okN L i
theorem is_below (n lo hi : Int) {b : Bool} (hb : isB n lo hi = b) (w : World) :
    Calls Try.prog 63 #[.int .i64 n, .int .i64 lo, .int .i64 hi] w fun e w' => e = .returned (.bool b) ∧ Below w.heap.size w w' := by
  subst hb
  exact (is_spec n lo hi w).mono fun _ _ ⟨h1, h2⟩ => ⟨h1, h2 ▸ Below.refl _ _⟩
set_option maxRecDepth 100000 in
set_option maxHeartbeats 3200000 in
theorem nodes_spec {L : List Int} {a : Option Addr} {cap : Nat} {W : World} (h : RdSl I W W.heap.size L a cap) :
    Calls Try.prog 73 #[.slice a L.length cap] W (ResB (NodesR L) W) := by
  have hn : L.length ≤ 9223372036854775807 := by have h1 := h.1; have h2 := h.2.1; unfold maxLen at h2; omega
  have H := Lib.hid h
  clear h
  go_enter Try.func73, Try.ntmps73
  go_wp2
  go_loopw [3] (fun i wr => ∃ k : Nat, k ≤ L.length ∧ i = .int .i64 k ∧ (∀ j, j < k → okN L j) ∧ Below W.heap.size W wr) (fun i _ => L.length - (intOf i).toNat)
  case atStart => exact ⟨0, Nat.zero_le _, rfl, fun j h => absurd h (Nat.not_lt_zero _), Below.refl _ _⟩
  case round =>
    obtain ⟨k, hk, rfl, hall, hB⟩ := hrel
    have HA := Lib.hid hall
    have HB := Lib.hid hB
    have hsz := hB.size
    clear hall
    by_cases hlt : k < L.length
    · obtain ⟨x, hx⟩ := el_some hlt
      have HX := Lib.hid hx
      obtain ⟨g, o, us, rfl, hg, hu, hr⟩ := (H.out.below I_ok hB).at_ hx
      obtain rfl : us = [_] := hr
      have hc0 : wr.cell? ⟨g, o + k, none⟩ = some (.int .i64 x) := by simpa [show I.size = 1 from rfl] using hu 0 _ rfl
      have hgl : g < wr.heap.size := Nat.lt_of_lt_of_le hg hsz
      have hi0 : (0 : Int) ≤ (k : Int) := Int.natCast_nonneg _
      have hi1 : (k : Int) < (L.length : Int) := by omega
      clear hB hx hu
      cases hr : isB x 0 5 with
      | false =>
        have Hno := Lib.hid (show ¬ NodesR L from fun h => by have := (h k hlt x HX.out).1; rw [hr] at this; cases this)
        have hrs := fun W => is_below x 0 5 hr W
        clear hr
        go_wp2_with fail
        refine wp_region_held_drew (S := (fun V => V.cell? ⟨g, o + k, none⟩ = some (.int .i64 x) ∧ wr.heap.size ≤ V.heap.size ∧ Below (W.heap.size) (W) V)) (by kernel_rfl) (⟨hc0, Nat.le_refl _, HB.out.drew⟩) (fun hHeld => ?_)
        refine tk 0 hHeld ?_
        refine tk 1 hHeld ?_
        refine tk 2 hHeld ?_
        refine tk 3 hHeld ?_
        refine rd1 4 (fun K hK => ?_)
        go_simp
        go_at_call 63; refine (hrs _).mono ?_; rintro e w1 ⟨rfl, hb⟩
        refine hK.out _ _ (⟨(hb.cell (p := ⟨g, o + k, none⟩) (Nat.lt_of_lt_of_le hgl hHeld.2.1)).trans hHeld.1, Nat.le_trans hHeld.2.1 hb.size, hHeld.2.2.trans (hb.mono (Nat.le_trans hsz hHeld.2.1))⟩) (fun hHeld => ?_)
        clear hK K
        refine tk 5 hHeld ?_
        refine tk 6 hHeld ?_
        refine tn 7 hHeld ?_
        refine tn 8 hHeld ?_
        refine tn 9 hHeld ?_
        refine tn 10 hHeld ?_
        refine tn 11 hHeld ?_
        refine tn 12 hHeld ?_
        refine tn 13 hHeld ?_
        refine tn 14 hHeld ?_
        refine tn 15 hHeld ?_
        refine tn 16 hHeld ?_
        refine tn 17 hHeld ?_
        refine tn 18 hHeld ?_
        refine tn 19 hHeld ?_
        refine tn 20 hHeld ?_
        refine tk 21 hHeld ?_
        refine rd0 ?_
        have HF := Lib.hid hHeld.2.2
        clear hHeld
        go_wp2
        go_ret
        exact resB_no Hno.out HF.out
      | true =>
        have hrs := fun W => is_below x 0 5 hr W
        have Hr := Lib.hid hr
        clear hr
        rcases Nat.eq_zero_or_pos k with hk0 | hk0
        · subst hk0
          have hc0' : wr.cell? ⟨g, o, none⟩ = some (.int .i64 x) := hc0
          clear hc0
          have HOK := Lib.hid (all_step HA.out (show okN L 0 from fun y hy => by have := HX.out; rw [hy] at this; obtain rfl := Option.some.inj this; exact ⟨Hr.out, fun h => absurd h (Nat.lt_irrefl _)⟩))
          go_wp2_with fail
          refine wp_region_held_drew (S := (fun V => V.cell? ⟨g, o, none⟩ = some (.int .i64 x) ∧ wr.heap.size ≤ V.heap.size ∧ Below (W.heap.size) (W) V)) (by kernel_rfl) (⟨hc0', Nat.le_refl _, HB.out.drew⟩) (fun hHeld => ?_)
          refine tk 0 hHeld ?_
          refine tk 1 hHeld ?_
          refine tk 2 hHeld ?_
          refine tk 3 hHeld ?_
          refine rd1 4 (fun K hK => ?_)
          go_simp
          go_at_call 63; refine (hrs _).mono ?_; rintro e w1 ⟨rfl, hb⟩
          refine hK.out _ _ (⟨(hb.cell (p := ⟨g, o, none⟩) (Nat.lt_of_lt_of_le hgl hHeld.2.1)).trans hHeld.1, Nat.le_trans hHeld.2.1 hb.size, hHeld.2.2.trans (hb.mono (Nat.le_trans hsz hHeld.2.1))⟩) (fun hHeld => ?_)
          clear hK K
          refine tk 5 hHeld ?_
          refine tk 6 hHeld ?_
          refine tk 7 hHeld ?_
          refine tk 8 hHeld ?_
          refine tk 9 hHeld ?_
          refine tn 10 hHeld ?_
          refine tn 11 hHeld ?_
          refine tn 12 hHeld ?_
          refine tn 13 hHeld ?_
          refine tn 14 hHeld ?_
          refine tn 15 hHeld ?_
          refine tn 16 hHeld ?_
          refine tn 17 hHeld ?_
          refine tn 18 hHeld ?_
          refine tn 19 hHeld ?_
          refine tk 20 hHeld ?_
          refine tk 21 hHeld ?_
          refine rd0 ?_
          have HF := Lib.hid hHeld.2.2
          clear hHeld
          go_wp2
          go_roundw
          case rel => exact ⟨1, by omega, by go_num, HOK.out, HF.out⟩
          case measure => simp [intOf]; omega
        · obtain ⟨j, rfl⟩ : ∃ j, k = j + 1 := ⟨k - 1, by omega⟩
          obtain ⟨y, hy⟩ := el_some (L := L) (k := j) (by omega)
          have HY := Lib.hid hy
          obtain ⟨g2, o2, us, he, hg2, hu, hr⟩ := (H.out.below I_ok HB.out).at_ hy
          cases he
          obtain rfl : us = [_] := hr
          have hd0 : wr.cell? ⟨g, o + j, none⟩ = some (.int .i64 y) := by simpa [show I.size = 1 from rfl] using hu 0 _ rfl
          have hj0 : (0 : Int) ≤ (j : Int) := Int.natCast_nonneg _
          have hj1 : (j : Int) < (L.length : Int) := by omega
          have hjw2 : IntKind.i64.wrap (j : Int) = (j : Int) := IntWalk.i64_in _ (by omega)
          have hi0p : (0 : Int) ≤ (j : Int) + 1 := by omega
          have hi1p : (j : Int) + 1 < (L.length : Int) := by omega
          have hjw : IntKind.i64.wrap ((j : Int) + 1 - 1) = (j : Int) := (by rw [show (j : Int) + 1 - 1 = (j : Int) by omega]; exact IntWalk.i64_in _ (by omega))
          have hjp : decide ((0 : Int) < (j : Int) + 1) = true := decide_eq_true (by omega)
          clear hy hu hg2
          by_cases hlo : x ≤ y
          · have Hno := Lib.hid (show ¬ NodesR L from fun h => by have h2 := (h (j + 1) hlt x HX.out).2 (Nat.succ_pos _) y HY.out; omega)
            have hlo' : decide (x ≤ y) = true := decide_eq_true hlo
            go_wp2_with fail
            refine wp_region_held_drew (S := (fun V => V.cell? ⟨g, o + j, none⟩ = some (.int .i64 y) ∧ V.cell? ⟨g, o + (j + 1), none⟩ = some (.int .i64 x) ∧ wr.heap.size ≤ V.heap.size ∧ Below (W.heap.size) (W) V)) (by kernel_rfl) (⟨hd0, hc0, Nat.le_refl _, HB.out.drew⟩) (fun hHeld => ?_)
            refine tk 0 hHeld ?_
            refine tk 1 hHeld ?_
            refine tk 2 hHeld ?_
            refine tk 3 hHeld ?_
            refine rd1 4 (fun K hK => ?_)
            go_simp
            go_at_call 63; refine (hrs _).mono ?_; rintro e w1 ⟨rfl, hb⟩
            refine hK.out _ _ (⟨(hb.cell (p := ⟨g, o + j, none⟩) (Nat.lt_of_lt_of_le hgl hHeld.2.2.1)).trans hHeld.1, (hb.cell (p := ⟨g, o + (j + 1), none⟩) (Nat.lt_of_lt_of_le hgl hHeld.2.2.1)).trans hHeld.2.1, Nat.le_trans hHeld.2.2.1 hb.size, hHeld.2.2.2.trans (hb.mono (Nat.le_trans hsz hHeld.2.2.1))⟩) (fun hHeld => ?_)
            clear hK K
            refine tk 5 hHeld ?_
            refine tk 6 hHeld ?_
            refine tk 7 hHeld ?_
            refine tk 8 hHeld ?_
            refine tk 9 hHeld ?_
            refine tk 10 hHeld ?_
            refine tk 11 hHeld ?_
            refine tk 12 hHeld ?_
            refine tk 13 hHeld ?_
            refine tk 14 hHeld ?_
            refine tk 15 hHeld ?_
            refine tk 16 hHeld ?_
            refine tk 17 hHeld ?_
            refine tk 18 hHeld ?_
            refine tk 19 hHeld ?_
            refine tk 20 hHeld ?_
            refine tk 21 hHeld ?_
            refine rd0 ?_
            have HF := Lib.hid hHeld.2.2.2
            clear hHeld
            go_wp2
            go_ret
            exact resB_no Hno.out HF.out
          · have HOK := Lib.hid (all_step HA.out (show okN L (j + 1) from fun z hz => by
              have := HX.out; rw [hz] at this; obtain rfl := Option.some.inj this
              exact ⟨Hr.out, fun _ u hu => by have h3 := HY.out; rw [Nat.add_sub_cancel] at hu; rw [hu] at h3; obtain rfl := Option.some.inj h3; omega⟩))
            have hlo' : decide (x ≤ y) = false := decide_eq_false hlo
            go_wp2_with fail
            refine wp_region_held_drew (S := (fun V => V.cell? ⟨g, o + j, none⟩ = some (.int .i64 y) ∧ V.cell? ⟨g, o + (j + 1), none⟩ = some (.int .i64 x) ∧ wr.heap.size ≤ V.heap.size ∧ Below (W.heap.size) (W) V)) (by kernel_rfl) (⟨hd0, hc0, Nat.le_refl _, HB.out.drew⟩) (fun hHeld => ?_)
            refine tk 0 hHeld ?_
            refine tk 1 hHeld ?_
            refine tk 2 hHeld ?_
            refine tk 3 hHeld ?_
            refine rd1 4 (fun K hK => ?_)
            go_simp
            go_at_call 63; refine (hrs _).mono ?_; rintro e w1 ⟨rfl, hb⟩
            refine hK.out _ _ (⟨(hb.cell (p := ⟨g, o + j, none⟩) (Nat.lt_of_lt_of_le hgl hHeld.2.2.1)).trans hHeld.1, (hb.cell (p := ⟨g, o + (j + 1), none⟩) (Nat.lt_of_lt_of_le hgl hHeld.2.2.1)).trans hHeld.2.1, Nat.le_trans hHeld.2.2.1 hb.size, hHeld.2.2.2.trans (hb.mono (Nat.le_trans hsz hHeld.2.2.1))⟩) (fun hHeld => ?_)
            clear hK K
            refine tk 5 hHeld ?_
            refine tk 6 hHeld ?_
            refine tk 7 hHeld ?_
            refine tk 8 hHeld ?_
            refine tk 9 hHeld ?_
            refine tk 10 hHeld ?_
            refine tk 11 hHeld ?_
            refine tk 12 hHeld ?_
            refine tk 13 hHeld ?_
            refine tk 14 hHeld ?_
            refine tk 15 hHeld ?_
            refine tk 16 hHeld ?_
            refine tk 17 hHeld ?_
            refine tk 18 hHeld ?_
            refine tk 19 hHeld ?_
            refine tk 20 hHeld ?_
            refine tk 21 hHeld ?_
            refine rd0 ?_
            have HF := Lib.hid hHeld.2.2.2
            clear hHeld
            go_wp2
            go_roundw
            case rel => exact ⟨j + 2, by omega, by go_num, HOK.out, HF.out⟩
            case measure => simp [intOf]; omega
    · have Hy := Lib.hid (show NodesR L from fun i hi => HA.out i (by omega))
      clear hB
      go_wp2
      go_ret
      exact resB_yes Hy.out HB.out
end Go.Proofs.Ytkghodbbgehcoaa.RepC
end
