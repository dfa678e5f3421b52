/- The laws' data: contracts. -/
import Derived.Test.YtmmnkdilnlhbfaaTk
import Derived.Test.YtmmnkdilnlhbfaaJobT
import Derived.Test.YtmmnkdilnlhbfaaMkT
namespace Go.Proofs.Ytmmnkdilnlhbfaa.RepC
open Go.RowKit RowC ValC
set_option linter.unusedVariables false
set_option linter.unusedSimpArgs false

abbrev D_Task : Type := (D_Label) × (Int) × (ByteArray) × (Int) × (Int) × (Int) × (D_Label) × (Int) × (Int) × (Int) × (Int) × (List (Int))
def R_Task : Rp D_Task := (Pr R_Label (Pr I (Pr St (Pr I (Pr I (Pr I (Pr R_Label (Pr I (Pr I (Pr I (Pr I (Sl I))))))))))))
theorem R_Task_ok : Ok R_Task := (Pr_ok R_Label_ok (Pr_ok I_ok (Pr_ok St_ok (Pr_ok I_ok (Pr_ok I_ok (Pr_ok I_ok (Pr_ok R_Label_ok (Pr_ok I_ok (Pr_ok I_ok (Pr_ok I_ok (Pr_ok I_ok (Sl_ok I_ok))))))))))))
theorem rd_Task {W : World} {B : Nat} {x0 : Int} {x1 : Int} {x2 : Int} {x3 : ByteArray} {x4 : Int} {x5 : Int} {x6 : Int} {x7 : Int} {x8 : Int} {x9 : Int} {x10 : Int} {x11 : Int} {x12 : Int} {L0 : List (Int)} {cs : List Value} (h : R_Task.rd W B ((x0, x1), x2, x3, x4, x5, x6, (x7, x8), x9, x10, x11, x12, L0) cs) : ∃ a0 c0, cs = [.int .i64 x0, .int .i64 x1, .int .i64 x2, .string x3, .int .i64 x4, .int .i64 x5, .int .i64 x6, .int .i64 x7, .int .i64 x8, .int .i64 x9, .int .i64 x10, .int .i64 x11, .int .i64 x12, .slice a0 L0.length c0] ∧ RdSl I W B L0 a0 c0 ∧ x3.size ≤ maxLen := by
  obtain ⟨u1, v1, rfl, h1, g1⟩ := h
  obtain ⟨u2, v2, rfl, h2, g2⟩ := h1
  obtain rfl : u2 = [_] := h2
  obtain rfl : v2 = [_] := g2
  obtain ⟨u3, v3, rfl, h3, g3⟩ := g1
  obtain rfl : u3 = [_] := h3
  obtain ⟨u4, v4, rfl, h4, g4⟩ := g3
  obtain ⟨hq_x3, b_x3⟩ := h4
  obtain rfl : u4 = [_] := hq_x3
  obtain ⟨u5, v5, rfl, h5, g5⟩ := g4
  obtain rfl : u5 = [_] := h5
  obtain ⟨u6, v6, rfl, h6, g6⟩ := g5
  obtain rfl : u6 = [_] := h6
  obtain ⟨u7, v7, rfl, h7, g7⟩ := g6
  obtain rfl : u7 = [_] := h7
  obtain ⟨u8, v8, rfl, h8, g8⟩ := g7
  obtain ⟨u9, v9, rfl, h9, g9⟩ := h8
  obtain rfl : u9 = [_] := h9
  obtain rfl : v9 = [_] := g9
  obtain ⟨u10, v10, rfl, h10, g10⟩ := g8
  obtain rfl : u10 = [_] := h10
  obtain ⟨u11, v11, rfl, h11, g11⟩ := g10
  obtain rfl : u11 = [_] := h11
  obtain ⟨u12, v12, rfl, h12, g12⟩ := g11
  obtain rfl : u12 = [_] := h12
  obtain ⟨u13, v13, rfl, h13, g13⟩ := g12
  obtain rfl : u13 = [_] := h13
  obtain ⟨a0, c0, rfl, k_L0⟩ := g13
  exact ⟨a0, c0, rfl, k_L0, b_x3⟩
theorem mkrd_Task {W : World} {B : Nat} {x0 : Int} {x1 : Int} {x2 : Int} {x3 : ByteArray} {x4 : Int} {x5 : Int} {x6 : Int} {x7 : Int} {x8 : Int} {x9 : Int} {x10 : Int} {x11 : Int} {x12 : Int} {L0 : List (Int)} {a0 : Option Addr} {c0 : Nat} (h_L0 : RdSl I W B L0 a0 c0) (b_x3 : x3.size ≤ maxLen) : R_Task.rd W B ((x0, x1), x2, x3, x4, x5, x6, (x7, x8), x9, x10, x11, x12, L0) [.int .i64 x0, .int .i64 x1, .int .i64 x2, .string x3, .int .i64 x4, .int .i64 x5, .int .i64 x6, .int .i64 x7, .int .i64 x8, .int .i64 x9, .int .i64 x10, .int .i64 x11, .int .i64 x12, .slice a0 L0.length c0] := ⟨[.int .i64 x0, .int .i64 x1], [.int .i64 x2, .string x3, .int .i64 x4, .int .i64 x5, .int .i64 x6, .int .i64 x7, .int .i64 x8, .int .i64 x9, .int .i64 x10, .int .i64 x11, .int .i64 x12, .slice a0 L0.length c0], rfl, ⟨[.int .i64 x0], [.int .i64 x1], rfl, rfl, rfl⟩, ⟨[.int .i64 x2], [.string x3, .int .i64 x4, .int .i64 x5, .int .i64 x6, .int .i64 x7, .int .i64 x8, .int .i64 x9, .int .i64 x10, .int .i64 x11, .int .i64 x12, .slice a0 L0.length c0], rfl, rfl, ⟨[.string x3], [.int .i64 x4, .int .i64 x5, .int .i64 x6, .int .i64 x7, .int .i64 x8, .int .i64 x9, .int .i64 x10, .int .i64 x11, .int .i64 x12, .slice a0 L0.length c0], rfl, ⟨rfl, b_x3⟩, ⟨[.int .i64 x4], [.int .i64 x5, .int .i64 x6, .int .i64 x7, .int .i64 x8, .int .i64 x9, .int .i64 x10, .int .i64 x11, .int .i64 x12, .slice a0 L0.length c0], rfl, rfl, ⟨[.int .i64 x5], [.int .i64 x6, .int .i64 x7, .int .i64 x8, .int .i64 x9, .int .i64 x10, .int .i64 x11, .int .i64 x12, .slice a0 L0.length c0], rfl, rfl, ⟨[.int .i64 x6], [.int .i64 x7, .int .i64 x8, .int .i64 x9, .int .i64 x10, .int .i64 x11, .int .i64 x12, .slice a0 L0.length c0], rfl, rfl, ⟨[.int .i64 x7, .int .i64 x8], [.int .i64 x9, .int .i64 x10, .int .i64 x11, .int .i64 x12, .slice a0 L0.length c0], rfl, ⟨[.int .i64 x7], [.int .i64 x8], rfl, rfl, rfl⟩, ⟨[.int .i64 x9], [.int .i64 x10, .int .i64 x11, .int .i64 x12, .slice a0 L0.length c0], rfl, rfl, ⟨[.int .i64 x10], [.int .i64 x11, .int .i64 x12, .slice a0 L0.length c0], rfl, rfl, ⟨[.int .i64 x11], [.int .i64 x12, .slice a0 L0.length c0], rfl, rfl, ⟨[.int .i64 x12], [.slice a0 L0.length c0], rfl, rfl, ⟨a0, c0, rfl, h_L0⟩⟩⟩⟩⟩⟩⟩⟩⟩⟩⟩⟩
theorem mkow_Task {W : World} {S : Nat → Prop} {x0 : Int} {x1 : Int} {x2 : Int} {x3 : ByteArray} {x4 : Int} {x5 : Int} {x6 : Int} {x7 : Int} {x8 : Int} {x9 : Int} {x10 : Int} {x11 : Int} {x12 : Int} {L0 : List (Int)} {a0 : Option Addr} {c0 : Nat} {T0 : Nat → Prop} (hs0 : ∀ k, T0 k → S k) (h_L0 : OwSl I W T0 L0 a0 c0) (b_x3 : x3.size ≤ maxLen) : R_Task.ow W S ((x0, x1), x2, x3, x4, x5, x6, (x7, x8), x9, x10, x11, x12, L0) [.int .i64 x0, .int .i64 x1, .int .i64 x2, .string x3, .int .i64 x4, .int .i64 x5, .int .i64 x6, .int .i64 x7, .int .i64 x8, .int .i64 x9, .int .i64 x10, .int .i64 x11, .int .i64 x12, .slice a0 L0.length c0] := ⟨[.int .i64 x0, .int .i64 x1], [.int .i64 x2, .string x3, .int .i64 x4, .int .i64 x5, .int .i64 x6, .int .i64 x7, .int .i64 x8, .int .i64 x9, .int .i64 x10, .int .i64 x11, .int .i64 x12, .slice a0 L0.length c0], (fun _ => False), T0, rfl, (fun k h => h.elim), (fun k h => hs0 k h), (fun k h h' => h.elim), ⟨[.int .i64 x0], [.int .i64 x1], (fun _ => False), (fun _ => False), rfl, (fun k h => h.elim), (fun k h => h.elim), (fun k h h' => h.elim), rfl, rfl⟩, ⟨[.int .i64 x2], [.string x3, .int .i64 x4, .int .i64 x5, .int .i64 x6, .int .i64 x7, .int .i64 x8, .int .i64 x9, .int .i64 x10, .int .i64 x11, .int .i64 x12, .slice a0 L0.length c0], (fun _ => False), T0, rfl, (fun k h => h.elim), (fun k h => h), (fun k h h' => h.elim), rfl, ⟨[.string x3], [.int .i64 x4, .int .i64 x5, .int .i64 x6, .int .i64 x7, .int .i64 x8, .int .i64 x9, .int .i64 x10, .int .i64 x11, .int .i64 x12, .slice a0 L0.length c0], (fun _ => False), T0, rfl, (fun k h => h.elim), (fun k h => h), (fun k h h' => h.elim), ⟨rfl, b_x3⟩, ⟨[.int .i64 x4], [.int .i64 x5, .int .i64 x6, .int .i64 x7, .int .i64 x8, .int .i64 x9, .int .i64 x10, .int .i64 x11, .int .i64 x12, .slice a0 L0.length c0], (fun _ => False), T0, rfl, (fun k h => h.elim), (fun k h => h), (fun k h h' => h.elim), rfl, ⟨[.int .i64 x5], [.int .i64 x6, .int .i64 x7, .int .i64 x8, .int .i64 x9, .int .i64 x10, .int .i64 x11, .int .i64 x12, .slice a0 L0.length c0], (fun _ => False), T0, rfl, (fun k h => h.elim), (fun k h => h), (fun k h h' => h.elim), rfl, ⟨[.int .i64 x6], [.int .i64 x7, .int .i64 x8, .int .i64 x9, .int .i64 x10, .int .i64 x11, .int .i64 x12, .slice a0 L0.length c0], (fun _ => False), T0, rfl, (fun k h => h.elim), (fun k h => h), (fun k h h' => h.elim), rfl, ⟨[.int .i64 x7, .int .i64 x8], [.int .i64 x9, .int .i64 x10, .int .i64 x11, .int .i64 x12, .slice a0 L0.length c0], (fun _ => False), T0, rfl, (fun k h => h.elim), (fun k h => h), (fun k h h' => h.elim), ⟨[.int .i64 x7], [.int .i64 x8], (fun _ => False), (fun _ => False), rfl, (fun k h => h.elim), (fun k h => h.elim), (fun k h h' => h.elim), rfl, rfl⟩, ⟨[.int .i64 x9], [.int .i64 x10, .int .i64 x11, .int .i64 x12, .slice a0 L0.length c0], (fun _ => False), T0, rfl, (fun k h => h.elim), (fun k h => h), (fun k h h' => h.elim), rfl, ⟨[.int .i64 x10], [.int .i64 x11, .int .i64 x12, .slice a0 L0.length c0], (fun _ => False), T0, rfl, (fun k h => h.elim), (fun k h => h), (fun k h h' => h.elim), rfl, ⟨[.int .i64 x11], [.int .i64 x12, .slice a0 L0.length c0], (fun _ => False), T0, rfl, (fun k h => h.elim), (fun k h => h), (fun k h h' => h.elim), rfl, ⟨[.int .i64 x12], [.slice a0 L0.length c0], (fun _ => False), T0, rfl, (fun k h => h.elim), (fun k h => h), (fun k h h' => h.elim), rfl, ⟨a0, c0, rfl, h_L0⟩⟩⟩⟩⟩⟩⟩⟩⟩⟩⟩⟩
theorem ow_Task {W : World} {S : Nat → Prop} {x0 : Int} {x1 : Int} {x2 : Int} {x3 : ByteArray} {x4 : Int} {x5 : Int} {x6 : Int} {x7 : Int} {x8 : Int} {x9 : Int} {x10 : Int} {x11 : Int} {x12 : Int} {L0 : List (Int)} {cs : List Value} (h : R_Task.ow W S ((x0, x1), x2, x3, x4, x5, x6, (x7, x8), x9, x10, x11, x12, L0) cs) : ∃ a0 c0, ∃ T0 : Nat → Prop, cs = [.int .i64 x0, .int .i64 x1, .int .i64 x2, .string x3, .int .i64 x4, .int .i64 x5, .int .i64 x6, .int .i64 x7, .int .i64 x8, .int .i64 x9, .int .i64 x10, .int .i64 x11, .int .i64 x12, .slice a0 L0.length c0] ∧ (∀ k, T0 k → S k) ∧ OwSl I W T0 L0 a0 c0 ∧ x3.size ≤ maxLen := by
  obtain ⟨u1, v1, A1, B1, rfl, sa1, sb1, dd1, h1, g1⟩ := h
  obtain ⟨u2, v2, A2, B2, rfl, sa2, sb2, dd2, h2, g2⟩ := h1
  obtain rfl : u2 = [_] := h2
  obtain rfl : v2 = [_] := g2
  obtain ⟨u3, v3, A3, B3, rfl, sa3, sb3, dd3, h3, g3⟩ := g1
  obtain rfl : u3 = [_] := h3
  obtain ⟨u4, v4, A4, B4, rfl, sa4, sb4, dd4, h4, g4⟩ := g3
  obtain ⟨hq_x3, b_x3⟩ := h4
  obtain rfl : u4 = [_] := hq_x3
  obtain ⟨u5, v5, A5, B5, rfl, sa5, sb5, dd5, h5, g5⟩ := g4
  obtain rfl : u5 = [_] := h5
  obtain ⟨u6, v6, A6, B6, rfl, sa6, sb6, dd6, h6, g6⟩ := g5
  obtain rfl : u6 = [_] := h6
  obtain ⟨u7, v7, A7, B7, rfl, sa7, sb7, dd7, h7, g7⟩ := g6
  obtain rfl : u7 = [_] := h7
  obtain ⟨u8, v8, A8, B8, rfl, sa8, sb8, dd8, h8, g8⟩ := g7
  obtain ⟨u9, v9, A9, B9, rfl, sa9, sb9, dd9, h9, g9⟩ := h8
  obtain rfl : u9 = [_] := h9
  obtain rfl : v9 = [_] := g9
  obtain ⟨u10, v10, A10, B10, rfl, sa10, sb10, dd10, h10, g10⟩ := g8
  obtain rfl : u10 = [_] := h10
  obtain ⟨u11, v11, A11, B11, rfl, sa11, sb11, dd11, h11, g11⟩ := g10
  obtain rfl : u11 = [_] := h11
  obtain ⟨u12, v12, A12, B12, rfl, sa12, sb12, dd12, h12, g12⟩ := g11
  obtain rfl : u12 = [_] := h12
  obtain ⟨u13, v13, A13, B13, rfl, sa13, sb13, dd13, h13, g13⟩ := g12
  obtain rfl : u13 = [_] := h13
  obtain ⟨a0, c0, rfl, k_L0⟩ := g13
  exact ⟨a0, c0, B13, rfl, fun k h => sb1 k (sb3 k (sb4 k (sb5 k (sb6 k (sb7 k (sb8 k (sb10 k (sb11 k (sb12 k (sb13 k (h))))))))))), k_L0, b_x3⟩

abbrev D_TaskOut : Type := (D_Task) × (Int) × (Int)
def R_TaskOut : Rp D_TaskOut := (Pr R_Task (Pr I I))
theorem R_TaskOut_ok : Ok R_TaskOut := (Pr_ok R_Task_ok (Pr_ok I_ok I_ok))
theorem rd_TaskOut {W : World} {B : Nat} {x0 : Int} {x1 : Int} {x2 : Int} {x3 : ByteArray} {x4 : Int} {x5 : Int} {x6 : Int} {x7 : Int} {x8 : Int} {x9 : Int} {x10 : Int} {x11 : Int} {x12 : Int} {L0 : List (Int)} {x14 : Int} {x15 : Int} {cs : List Value} (h : R_TaskOut.rd W B (((x0, x1), x2, x3, x4, x5, x6, (x7, x8), x9, x10, x11, x12, L0), x14, x15) cs) : ∃ a0 c0, cs = [.int .i64 x0, .int .i64 x1, .int .i64 x2, .string x3, .int .i64 x4, .int .i64 x5, .int .i64 x6, .int .i64 x7, .int .i64 x8, .int .i64 x9, .int .i64 x10, .int .i64 x11, .int .i64 x12, .slice a0 L0.length c0, .int .i64 x14, .int .i64 x15] ∧ RdSl I W B L0 a0 c0 ∧ x3.size ≤ maxLen := by
  obtain ⟨u1, v1, rfl, h1, g1⟩ := h
  obtain ⟨u2, v2, rfl, h2, g2⟩ := h1
  obtain ⟨u3, v3, rfl, h3, g3⟩ := h2
  obtain rfl : u3 = [_] := h3
  obtain rfl : v3 = [_] := g3
  obtain ⟨u4, v4, rfl, h4, g4⟩ := g2
  obtain rfl : u4 = [_] := h4
  obtain ⟨u5, v5, rfl, h5, g5⟩ := g4
  obtain ⟨hq_x3, b_x3⟩ := h5
  obtain rfl : u5 = [_] := hq_x3
  obtain ⟨u6, v6, rfl, h6, g6⟩ := g5
  obtain rfl : u6 = [_] := h6
  obtain ⟨u7, v7, rfl, h7, g7⟩ := g6
  obtain rfl : u7 = [_] := h7
  obtain ⟨u8, v8, rfl, h8, g8⟩ := g7
  obtain rfl : u8 = [_] := h8
  obtain ⟨u9, v9, rfl, h9, g9⟩ := g8
  obtain ⟨u10, v10, rfl, h10, g10⟩ := h9
  obtain rfl : u10 = [_] := h10
  obtain rfl : v10 = [_] := g10
  obtain ⟨u11, v11, rfl, h11, g11⟩ := g9
  obtain rfl : u11 = [_] := h11
  obtain ⟨u12, v12, rfl, h12, g12⟩ := g11
  obtain rfl : u12 = [_] := h12
  obtain ⟨u13, v13, rfl, h13, g13⟩ := g12
  obtain rfl : u13 = [_] := h13
  obtain ⟨u14, v14, rfl, h14, g14⟩ := g13
  obtain rfl : u14 = [_] := h14
  obtain ⟨a0, c0, rfl, k_L0⟩ := g14
  obtain ⟨u15, v15, rfl, h15, g15⟩ := g1
  obtain rfl : u15 = [_] := h15
  obtain rfl : v15 = [_] := g15
  exact ⟨a0, c0, rfl, k_L0, b_x3⟩
theorem mkrd_TaskOut {W : World} {B : Nat} {x0 : Int} {x1 : Int} {x2 : Int} {x3 : ByteArray} {x4 : Int} {x5 : Int} {x6 : Int} {x7 : Int} {x8 : Int} {x9 : Int} {x10 : Int} {x11 : Int} {x12 : Int} {L0 : List (Int)} {x14 : Int} {x15 : Int} {a0 : Option Addr} {c0 : Nat} (h_L0 : RdSl I W B L0 a0 c0) (b_x3 : x3.size ≤ maxLen) : R_TaskOut.rd W B (((x0, x1), x2, x3, x4, x5, x6, (x7, x8), x9, x10, x11, x12, L0), x14, x15) [.int .i64 x0, .int .i64 x1, .int .i64 x2, .string x3, .int .i64 x4, .int .i64 x5, .int .i64 x6, .int .i64 x7, .int .i64 x8, .int .i64 x9, .int .i64 x10, .int .i64 x11, .int .i64 x12, .slice a0 L0.length c0, .int .i64 x14, .int .i64 x15] := ⟨[.int .i64 x0, .int .i64 x1, .int .i64 x2, .string x3, .int .i64 x4, .int .i64 x5, .int .i64 x6, .int .i64 x7, .int .i64 x8, .int .i64 x9, .int .i64 x10, .int .i64 x11, .int .i64 x12, .slice a0 L0.length c0], [.int .i64 x14, .int .i64 x15], rfl, ⟨[.int .i64 x0, .int .i64 x1], [.int .i64 x2, .string x3, .int .i64 x4, .int .i64 x5, .int .i64 x6, .int .i64 x7, .int .i64 x8, .int .i64 x9, .int .i64 x10, .int .i64 x11, .int .i64 x12, .slice a0 L0.length c0], rfl, ⟨[.int .i64 x0], [.int .i64 x1], rfl, rfl, rfl⟩, ⟨[.int .i64 x2], [.string x3, .int .i64 x4, .int .i64 x5, .int .i64 x6, .int .i64 x7, .int .i64 x8, .int .i64 x9, .int .i64 x10, .int .i64 x11, .int .i64 x12, .slice a0 L0.length c0], rfl, rfl, ⟨[.string x3], [.int .i64 x4, .int .i64 x5, .int .i64 x6, .int .i64 x7, .int .i64 x8, .int .i64 x9, .int .i64 x10, .int .i64 x11, .int .i64 x12, .slice a0 L0.length c0], rfl, ⟨rfl, b_x3⟩, ⟨[.int .i64 x4], [.int .i64 x5, .int .i64 x6, .int .i64 x7, .int .i64 x8, .int .i64 x9, .int .i64 x10, .int .i64 x11, .int .i64 x12, .slice a0 L0.length c0], rfl, rfl, ⟨[.int .i64 x5], [.int .i64 x6, .int .i64 x7, .int .i64 x8, .int .i64 x9, .int .i64 x10, .int .i64 x11, .int .i64 x12, .slice a0 L0.length c0], rfl, rfl, ⟨[.int .i64 x6], [.int .i64 x7, .int .i64 x8, .int .i64 x9, .int .i64 x10, .int .i64 x11, .int .i64 x12, .slice a0 L0.length c0], rfl, rfl, ⟨[.int .i64 x7, .int .i64 x8], [.int .i64 x9, .int .i64 x10, .int .i64 x11, .int .i64 x12, .slice a0 L0.length c0], rfl, ⟨[.int .i64 x7], [.int .i64 x8], rfl, rfl, rfl⟩, ⟨[.int .i64 x9], [.int .i64 x10, .int .i64 x11, .int .i64 x12, .slice a0 L0.length c0], rfl, rfl, ⟨[.int .i64 x10], [.int .i64 x11, .int .i64 x12, .slice a0 L0.length c0], rfl, rfl, ⟨[.int .i64 x11], [.int .i64 x12, .slice a0 L0.length c0], rfl, rfl, ⟨[.int .i64 x12], [.slice a0 L0.length c0], rfl, rfl, ⟨a0, c0, rfl, h_L0⟩⟩⟩⟩⟩⟩⟩⟩⟩⟩⟩⟩, ⟨[.int .i64 x14], [.int .i64 x15], rfl, rfl, rfl⟩⟩
theorem mkow_TaskOut {W : World} {S : Nat → Prop} {x0 : Int} {x1 : Int} {x2 : Int} {x3 : ByteArray} {x4 : Int} {x5 : Int} {x6 : Int} {x7 : Int} {x8 : Int} {x9 : Int} {x10 : Int} {x11 : Int} {x12 : Int} {L0 : List (Int)} {x14 : Int} {x15 : Int} {a0 : Option Addr} {c0 : Nat} {T0 : Nat → Prop} (hs0 : ∀ k, T0 k → S k) (h_L0 : OwSl I W T0 L0 a0 c0) (b_x3 : x3.size ≤ maxLen) : R_TaskOut.ow W S (((x0, x1), x2, x3, x4, x5, x6, (x7, x8), x9, x10, x11, x12, L0), x14, x15) [.int .i64 x0, .int .i64 x1, .int .i64 x2, .string x3, .int .i64 x4, .int .i64 x5, .int .i64 x6, .int .i64 x7, .int .i64 x8, .int .i64 x9, .int .i64 x10, .int .i64 x11, .int .i64 x12, .slice a0 L0.length c0, .int .i64 x14, .int .i64 x15] := ⟨[.int .i64 x0, .int .i64 x1, .int .i64 x2, .string x3, .int .i64 x4, .int .i64 x5, .int .i64 x6, .int .i64 x7, .int .i64 x8, .int .i64 x9, .int .i64 x10, .int .i64 x11, .int .i64 x12, .slice a0 L0.length c0], [.int .i64 x14, .int .i64 x15], T0, (fun _ => False), rfl, (fun k h => hs0 k h), (fun k h => h.elim), (fun k h h' => h'.elim), ⟨[.int .i64 x0, .int .i64 x1], [.int .i64 x2, .string x3, .int .i64 x4, .int .i64 x5, .int .i64 x6, .int .i64 x7, .int .i64 x8, .int .i64 x9, .int .i64 x10, .int .i64 x11, .int .i64 x12, .slice a0 L0.length c0], (fun _ => False), T0, rfl, (fun k h => h.elim), (fun k h => h), (fun k h h' => h.elim), ⟨[.int .i64 x0], [.int .i64 x1], (fun _ => False), (fun _ => False), rfl, (fun k h => h.elim), (fun k h => h.elim), (fun k h h' => h.elim), rfl, rfl⟩, ⟨[.int .i64 x2], [.string x3, .int .i64 x4, .int .i64 x5, .int .i64 x6, .int .i64 x7, .int .i64 x8, .int .i64 x9, .int .i64 x10, .int .i64 x11, .int .i64 x12, .slice a0 L0.length c0], (fun _ => False), T0, rfl, (fun k h => h.elim), (fun k h => h), (fun k h h' => h.elim), rfl, ⟨[.string x3], [.int .i64 x4, .int .i64 x5, .int .i64 x6, .int .i64 x7, .int .i64 x8, .int .i64 x9, .int .i64 x10, .int .i64 x11, .int .i64 x12, .slice a0 L0.length c0], (fun _ => False), T0, rfl, (fun k h => h.elim), (fun k h => h), (fun k h h' => h.elim), ⟨rfl, b_x3⟩, ⟨[.int .i64 x4], [.int .i64 x5, .int .i64 x6, .int .i64 x7, .int .i64 x8, .int .i64 x9, .int .i64 x10, .int .i64 x11, .int .i64 x12, .slice a0 L0.length c0], (fun _ => False), T0, rfl, (fun k h => h.elim), (fun k h => h), (fun k h h' => h.elim), rfl, ⟨[.int .i64 x5], [.int .i64 x6, .int .i64 x7, .int .i64 x8, .int .i64 x9, .int .i64 x10, .int .i64 x11, .int .i64 x12, .slice a0 L0.length c0], (fun _ => False), T0, rfl, (fun k h => h.elim), (fun k h => h), (fun k h h' => h.elim), rfl, ⟨[.int .i64 x6], [.int .i64 x7, .int .i64 x8, .int .i64 x9, .int .i64 x10, .int .i64 x11, .int .i64 x12, .slice a0 L0.length c0], (fun _ => False), T0, rfl, (fun k h => h.elim), (fun k h => h), (fun k h h' => h.elim), rfl, ⟨[.int .i64 x7, .int .i64 x8], [.int .i64 x9, .int .i64 x10, .int .i64 x11, .int .i64 x12, .slice a0 L0.length c0], (fun _ => False), T0, rfl, (fun k h => h.elim), (fun k h => h), (fun k h h' => h.elim), ⟨[.int .i64 x7], [.int .i64 x8], (fun _ => False), (fun _ => False), rfl, (fun k h => h.elim), (fun k h => h.elim), (fun k h h' => h.elim), rfl, rfl⟩, ⟨[.int .i64 x9], [.int .i64 x10, .int .i64 x11, .int .i64 x12, .slice a0 L0.length c0], (fun _ => False), T0, rfl, (fun k h => h.elim), (fun k h => h), (fun k h h' => h.elim), rfl, ⟨[.int .i64 x10], [.int .i64 x11, .int .i64 x12, .slice a0 L0.length c0], (fun _ => False), T0, rfl, (fun k h => h.elim), (fun k h => h), (fun k h h' => h.elim), rfl, ⟨[.int .i64 x11], [.int .i64 x12, .slice a0 L0.length c0], (fun _ => False), T0, rfl, (fun k h => h.elim), (fun k h => h), (fun k h h' => h.elim), rfl, ⟨[.int .i64 x12], [.slice a0 L0.length c0], (fun _ => False), T0, rfl, (fun k h => h.elim), (fun k h => h), (fun k h h' => h.elim), rfl, ⟨a0, c0, rfl, h_L0⟩⟩⟩⟩⟩⟩⟩⟩⟩⟩⟩⟩, ⟨[.int .i64 x14], [.int .i64 x15], (fun _ => False), (fun _ => False), rfl, (fun k h => h.elim), (fun k h => h.elim), (fun k h h' => h.elim), rfl, rfl⟩⟩
theorem ow_TaskOut {W : World} {S : Nat → Prop} {x0 : Int} {x1 : Int} {x2 : Int} {x3 : ByteArray} {x4 : Int} {x5 : Int} {x6 : Int} {x7 : Int} {x8 : Int} {x9 : Int} {x10 : Int} {x11 : Int} {x12 : Int} {L0 : List (Int)} {x14 : Int} {x15 : Int} {cs : List Value} (h : R_TaskOut.ow W S (((x0, x1), x2, x3, x4, x5, x6, (x7, x8), x9, x10, x11, x12, L0), x14, x15) cs) : ∃ a0 c0, ∃ T0 : Nat → Prop, cs = [.int .i64 x0, .int .i64 x1, .int .i64 x2, .string x3, .int .i64 x4, .int .i64 x5, .int .i64 x6, .int .i64 x7, .int .i64 x8, .int .i64 x9, .int .i64 x10, .int .i64 x11, .int .i64 x12, .slice a0 L0.length c0, .int .i64 x14, .int .i64 x15] ∧ (∀ k, T0 k → S k) ∧ OwSl I W T0 L0 a0 c0 ∧ x3.size ≤ maxLen := by
  obtain ⟨u1, v1, A1, B1, rfl, sa1, sb1, dd1, h1, g1⟩ := h
  obtain ⟨u2, v2, A2, B2, rfl, sa2, sb2, dd2, h2, g2⟩ := h1
  obtain ⟨u3, v3, A3, B3, rfl, sa3, sb3, dd3, h3, g3⟩ := h2
  obtain rfl : u3 = [_] := h3
  obtain rfl : v3 = [_] := g3
  obtain ⟨u4, v4, A4, B4, rfl, sa4, sb4, dd4, h4, g4⟩ := g2
  obtain rfl : u4 = [_] := h4
  obtain ⟨u5, v5, A5, B5, rfl, sa5, sb5, dd5, h5, g5⟩ := g4
  obtain ⟨hq_x3, b_x3⟩ := h5
  obtain rfl : u5 = [_] := hq_x3
  obtain ⟨u6, v6, A6, B6, rfl, sa6, sb6, dd6, h6, g6⟩ := g5
  obtain rfl : u6 = [_] := h6
  obtain ⟨u7, v7, A7, B7, rfl, sa7, sb7, dd7, h7, g7⟩ := g6
  obtain rfl : u7 = [_] := h7
  obtain ⟨u8, v8, A8, B8, rfl, sa8, sb8, dd8, h8, g8⟩ := g7
  obtain rfl : u8 = [_] := h8
  obtain ⟨u9, v9, A9, B9, rfl, sa9, sb9, dd9, h9, g9⟩ := g8
  obtain ⟨u10, v10, A10, B10, rfl, sa10, sb10, dd10, h10, g10⟩ := h9
  obtain rfl : u10 = [_] := h10
  obtain rfl : v10 = [_] := g10
  obtain ⟨u11, v11, A11, B11, rfl, sa11, sb11, dd11, h11, g11⟩ := g9
  obtain rfl : u11 = [_] := h11
  obtain ⟨u12, v12, A12, B12, rfl, sa12, sb12, dd12, h12, g12⟩ := g11
  obtain rfl : u12 = [_] := h12
  obtain ⟨u13, v13, A13, B13, rfl, sa13, sb13, dd13, h13, g13⟩ := g12
  obtain rfl : u13 = [_] := h13
  obtain ⟨u14, v14, A14, B14, rfl, sa14, sb14, dd14, h14, g14⟩ := g13
  obtain rfl : u14 = [_] := h14
  obtain ⟨a0, c0, rfl, k_L0⟩ := g14
  obtain ⟨u15, v15, A15, B15, rfl, sa15, sb15, dd15, h15, g15⟩ := g1
  obtain rfl : u15 = [_] := h15
  obtain rfl : v15 = [_] := g15
  exact ⟨a0, c0, B14, rfl, fun k h => sa1 k (sb2 k (sb4 k (sb5 k (sb6 k (sb7 k (sb8 k (sb9 k (sb11 k (sb12 k (sb13 k (sb14 k (h)))))))))))), k_L0, b_x3⟩


set_option maxRecDepth 100000 in
set_option maxHeartbeats 3200000 in
theorem to_Task {x0 : Int} {x1 : Int} {x2 : Int} {x3 : ByteArray} {x4 : Int} {x5 : Int} {x6 : Int} {x7 : Int} {x8 : Int} {x9 : Int} {x10 : Int} {x11 : Int} {x12 : Int} {L0 : List (Int)} {a0 : Option Addr} {c0 : Nat} {W : World} (hsz : R_Task.sz ((x0, x1), x2, x3, x4, x5, x6, (x7, x8), x9, x10, x11, x12, L0) ≤ 1048576) (h_L0 : RdSl I W W.heap.size L0 a0 c0) (b_x3 : x3.size ≤ maxLen) : Calls Try.prog 36 #[.agg #[.int .i64 x0, .int .i64 x1, .int .i64 x2, .string x3, .int .i64 x4, .int .i64 x5, .int .i64 x6, .int .i64 x7, .int .i64 x8, .int .i64 x9, .int .i64 x10, .int .i64 x11, .int .i64 x12, .slice a0 L0.length c0]] W (NewV R_Task ((x0, x1), x2, x3, x4, x5, x6, (x7, x8), x9, x10, x11, x12, L0) W) := by
  have H_L0 := Lib.hid h_L0
  have HSZ := Lib.hid hsz
  clear hsz h_L0
  have hP := ((Blk.new W 63 #[.int .i64 x0, .int .i64 x1, .int .i64 x2, .string x3, .int .i64 x4, .int .i64 x5, .int .i64 x6, .int .i64 x7, .int .i64 x8, .int .i64 x9, .int .i64 x10, .int .i64 x11, .int .i64 x12, .slice a0 L0.length c0]).alloc (.cells #[.int .i64 0, .int .i64 0, .int .i64 0, .string ⟨#[]⟩, .int .i64 0, .int .i64 0, .int .i64 0, .int .i64 0, .int .i64 0, .int .i64 0, .int .i64 0, .int .i64 0, .int .i64 0, .slice none 0 0] 54)).alloc (.cells #[.int .i64 0, .int .i64 0, .int .i64 0, .string ⟨#[]⟩, .int .i64 0, .int .i64 0, .int .i64 0, .int .i64 0, .int .i64 0, .int .i64 0, .int .i64 0, .int .i64 0, .int .i64 0, .slice none 0 0] 54)
  have hR := (Blk.new (W.alloc (.cells #[.int .i64 x0, .int .i64 x1, .int .i64 x2, .string x3, .int .i64 x4, .int .i64 x5, .int .i64 x6, .int .i64 x7, .int .i64 x8, .int .i64 x9, .int .i64 x10, .int .i64 x11, .int .i64 x12, .slice a0 L0.length c0] 63)) 54 #[.int .i64 0, .int .i64 0, .int .i64 0, .string ⟨#[]⟩, .int .i64 0, .int .i64 0, .int .i64 0, .int .i64 0, .int .i64 0, .int .i64 0, .int .i64 0, .int .i64 0, .int .i64 0, .slice none 0 0]).alloc (.cells #[.int .i64 0, .int .i64 0, .int .i64 0, .string ⟨#[]⟩, .int .i64 0, .int .i64 0, .int .i64 0, .int .i64 0, .int .i64 0, .int .i64 0, .int .i64 0, .int .i64 0, .int .i64 0, .slice none 0 0] 54)
  have hO := Blk.new ((W.alloc (.cells #[.int .i64 x0, .int .i64 x1, .int .i64 x2, .string x3, .int .i64 x4, .int .i64 x5, .int .i64 x6, .int .i64 x7, .int .i64 x8, .int .i64 x9, .int .i64 x10, .int .i64 x11, .int .i64 x12, .slice a0 L0.length c0] 63)).alloc (.cells #[.int .i64 0, .int .i64 0, .int .i64 0, .string ⟨#[]⟩, .int .i64 0, .int .i64 0, .int .i64 0, .int .i64 0, .int .i64 0, .int .i64 0, .int .i64 0, .int .i64 0, .int .i64 0, .slice none 0 0] 54)) 54 #[.int .i64 0, .int .i64 0, .int .i64 0, .string ⟨#[]⟩, .int .i64 0, .int .i64 0, .int .i64 0, .int .i64 0, .int .i64 0, .int .i64 0, .int .i64 0, .int .i64 0, .int .i64 0, .slice none 0 0]
  simp only [World.size_alloc] at hP hR hO
  have HB0 := Lib.hid (show Below W.heap.size W (((W.alloc (.cells #[.int .i64 x0, .int .i64 x1, .int .i64 x2, .string x3, .int .i64 x4, .int .i64 x5, .int .i64 x6, .int .i64 x7, .int .i64 x8, .int .i64 x9, .int .i64 x10, .int .i64 x11, .int .i64 x12, .slice a0 L0.length c0] 63)).alloc (.cells #[.int .i64 0, .int .i64 0, .int .i64 0, .string ⟨#[]⟩, .int .i64 0, .int .i64 0, .int .i64 0, .int .i64 0, .int .i64 0, .int .i64 0, .int .i64 0, .int .i64 0, .int .i64 0, .slice none 0 0] 54)).alloc (.cells #[.int .i64 0, .int .i64 0, .int .i64 0, .string ⟨#[]⟩, .int .i64 0, .int .i64 0, .int .i64 0, .int .i64 0, .int .i64 0, .int .i64 0, .int .i64 0, .int .i64 0, .int .i64 0, .slice none 0 0] 54)) from (((Below.refl _ _).alloc (Nat.le_refl _) _).alloc (by simp) _).alloc (by simp; omega) _)
  have hz0 : W.heap.size + 3 ≤ (((W.alloc (.cells #[.int .i64 x0, .int .i64 x1, .int .i64 x2, .string x3, .int .i64 x4, .int .i64 x5, .int .i64 x6, .int .i64 x7, .int .i64 x8, .int .i64 x9, .int .i64 x10, .int .i64 x11, .int .i64 x12, .slice a0 L0.length c0] 63)).alloc (.cells #[.int .i64 0, .int .i64 0, .int .i64 0, .string ⟨#[]⟩, .int .i64 0, .int .i64 0, .int .i64 0, .int .i64 0, .int .i64 0, .int .i64 0, .int .i64 0, .int .i64 0, .int .i64 0, .slice none 0 0] 54)).alloc (.cells #[.int .i64 0, .int .i64 0, .int .i64 0, .string ⟨#[]⟩, .int .i64 0, .int .i64 0, .int .i64 0, .int .i64 0, .int .i64 0, .int .i64 0, .int .i64 0, .int .i64 0, .int .i64 0, .slice none 0 0] 54)).heap.size := by simp
  have HP0 := Lib.hid hP
  have HR0 := Lib.hid hR
  have HO0 := Lib.hid hO
  clear hP hR hO
  go_enter Try.func36, Try.ntmps36
  go_wp2_with fail
  refine (to_Label (by have h0 := HSZ.out; simp only [R_Task, R_Label, Pr, Sl, I, Bo, St, atom] at h0 ⊢; omega)).mono ?_
  intro e w1 h
  obtain ⟨vs, rfl, how, hb⟩ := newV_elim h
  obtain rfl := ow0_Label how
  have hP : Blk w1 (W.heap.size) 63 #[.int .i64 x0, .int .i64 x1, .int .i64 x2, .string x3, .int .i64 x4, .int .i64 x5, .int .i64 x6, .int .i64 x7, .int .i64 x8, .int .i64 x9, .int .i64 x10, .int .i64 x11, .int .i64 x12, .slice a0 L0.length c0] := Blk.call HP0.out hb
  have hR : Blk w1 (W.heap.size + 1) 54 #[.int .i64 0, .int .i64 0, .int .i64 0, .string ⟨#[]⟩, .int .i64 0, .int .i64 0, .int .i64 0, .int .i64 0, .int .i64 0, .int .i64 0, .int .i64 0, .int .i64 0, .int .i64 0, .slice none 0 0] := Blk.call HR0.out hb
  have hO : Blk w1 (W.heap.size + 1 + 1) 54 #[.int .i64 0, .int .i64 0, .int .i64 0, .string ⟨#[]⟩, .int .i64 0, .int .i64 0, .int .i64 0, .int .i64 0, .int .i64 0, .int .i64 0, .int .i64 0, .int .i64 0, .int .i64 0, .slice none 0 0] := Blk.call HO0.out hb
  have hz1 : W.heap.size + 3 ≤ w1.heap.size := Nat.le_trans hz0 (size_call hb (S := fun x => x < W.heap.size + 3) (Off.refl (fun x => x < W.heap.size + 3) _))
  have HB1 := Lib.hid (Below.trans (B := W.heap.size) (a := W) HB0.out (hb.mono (by have h0 := hz0; first | omega | (simp; omega))))
  have HP1 := Lib.hid hP
  have HR1 := Lib.hid hR
  have HO1 := Lib.hid hO
  clear h hb hP hR hO how
  have p1_0 := HP1.out.at_ 0 rfl
  have o1_0 := HO1.out.at_ 0 rfl
  have r1_0 := HR1.out.at_ 0 rfl
  have f1_0 := HO1.out.soft 0
  have g1_0 := HR1.out.soft 0
  have p1_1 := HP1.out.at_ 1 rfl
  have o1_1 := HO1.out.at_ 1 rfl
  have r1_1 := HR1.out.at_ 1 rfl
  have f1_1 := HO1.out.soft 1
  have g1_1 := HR1.out.soft 1
  have p1_2 := HP1.out.at_ 2 rfl
  have o1_2 := HO1.out.at_ 2 rfl
  have r1_2 := HR1.out.at_ 2 rfl
  have f1_2 := HO1.out.soft 2
  have g1_2 := HR1.out.soft 2
  have p1_3 := HP1.out.at_ 3 rfl
  have o1_3 := HO1.out.at_ 3 rfl
  have r1_3 := HR1.out.at_ 3 rfl
  have f1_3 := HO1.out.soft 3
  have g1_3 := HR1.out.soft 3
  have p1_4 := HP1.out.at_ 4 rfl
  have o1_4 := HO1.out.at_ 4 rfl
  have r1_4 := HR1.out.at_ 4 rfl
  have f1_4 := HO1.out.soft 4
  have g1_4 := HR1.out.soft 4
  have p1_5 := HP1.out.at_ 5 rfl
  have o1_5 := HO1.out.at_ 5 rfl
  have r1_5 := HR1.out.at_ 5 rfl
  have f1_5 := HO1.out.soft 5
  have g1_5 := HR1.out.soft 5
  have p1_6 := HP1.out.at_ 6 rfl
  have o1_6 := HO1.out.at_ 6 rfl
  have r1_6 := HR1.out.at_ 6 rfl
  have f1_6 := HO1.out.soft 6
  have g1_6 := HR1.out.soft 6
  have p1_7 := HP1.out.at_ 7 rfl
  have o1_7 := HO1.out.at_ 7 rfl
  have r1_7 := HR1.out.at_ 7 rfl
  have f1_7 := HO1.out.soft 7
  have g1_7 := HR1.out.soft 7
  have p1_8 := HP1.out.at_ 8 rfl
  have o1_8 := HO1.out.at_ 8 rfl
  have r1_8 := HR1.out.at_ 8 rfl
  have f1_8 := HO1.out.soft 8
  have g1_8 := HR1.out.soft 8
  have p1_9 := HP1.out.at_ 9 rfl
  have o1_9 := HO1.out.at_ 9 rfl
  have r1_9 := HR1.out.at_ 9 rfl
  have f1_9 := HO1.out.soft 9
  have g1_9 := HR1.out.soft 9
  have p1_10 := HP1.out.at_ 10 rfl
  have o1_10 := HO1.out.at_ 10 rfl
  have r1_10 := HR1.out.at_ 10 rfl
  have f1_10 := HO1.out.soft 10
  have g1_10 := HR1.out.soft 10
  have p1_11 := HP1.out.at_ 11 rfl
  have o1_11 := HO1.out.at_ 11 rfl
  have r1_11 := HR1.out.at_ 11 rfl
  have f1_11 := HO1.out.soft 11
  have g1_11 := HR1.out.soft 11
  have p1_12 := HP1.out.at_ 12 rfl
  have o1_12 := HO1.out.at_ 12 rfl
  have r1_12 := HR1.out.at_ 12 rfl
  have f1_12 := HO1.out.soft 12
  have g1_12 := HR1.out.soft 12
  have p1_13 := HP1.out.at_ 13 rfl
  have o1_13 := HO1.out.at_ 13 rfl
  have r1_13 := HR1.out.at_ 13 rfl
  have f1_13 := HO1.out.soft 13
  have g1_13 := HR1.out.soft 13
  go_wp2_with fail
  refine (to_Label (by have h0 := HSZ.out; simp only [R_Task, R_Label, Pr, Sl, I, Bo, St, atom] at h0 ⊢; omega)).mono ?_
  intro e w2 h
  obtain ⟨vs, rfl, how, hb⟩ := newV_elim h
  obtain rfl := ow0_Label how
  have hP : Blk w2 (W.heap.size) 63 #[.int .i64 x0, .int .i64 x1, .int .i64 x2, .string x3, .int .i64 x4, .int .i64 x5, .int .i64 x6, .int .i64 x7, .int .i64 x8, .int .i64 x9, .int .i64 x10, .int .i64 x11, .int .i64 x12, .slice a0 L0.length c0] := Blk.call (Blk.far (b := W.heap.size + 1 + 1) (o := 6) (Blk.far (b := W.heap.size + 1 + 1) (o := 5) (Blk.far (b := W.heap.size + 1 + 1) (o := 4) (Blk.far (b := W.heap.size + 1 + 1) (o := 3) (Blk.far (b := W.heap.size + 1 + 1) (o := 2) (Blk.far (b := W.heap.size + 1 + 1) (o := 1) (Blk.far (b := W.heap.size + 1 + 1) (o := 0) HP1.out (by omega) (.int .i64 x0)) (by omega) (.int .i64 x1)) (by omega) (.int .i64 x2)) (by omega) (.string x3)) (by omega) (.int .i64 x4)) (by omega) (.int .i64 x5)) (by omega) (.int .i64 x6)) hb
  have hR : Blk w2 (W.heap.size + 1) 54 #[.int .i64 0, .int .i64 0, .int .i64 0, .string ⟨#[]⟩, .int .i64 0, .int .i64 0, .int .i64 0, .int .i64 0, .int .i64 0, .int .i64 0, .int .i64 0, .int .i64 0, .int .i64 0, .slice none 0 0] := Blk.call (Blk.far (b := W.heap.size + 1 + 1) (o := 6) (Blk.far (b := W.heap.size + 1 + 1) (o := 5) (Blk.far (b := W.heap.size + 1 + 1) (o := 4) (Blk.far (b := W.heap.size + 1 + 1) (o := 3) (Blk.far (b := W.heap.size + 1 + 1) (o := 2) (Blk.far (b := W.heap.size + 1 + 1) (o := 1) (Blk.far (b := W.heap.size + 1 + 1) (o := 0) HR1.out (by omega) (.int .i64 x0)) (by omega) (.int .i64 x1)) (by omega) (.int .i64 x2)) (by omega) (.string x3)) (by omega) (.int .i64 x4)) (by omega) (.int .i64 x5)) (by omega) (.int .i64 x6)) hb
  have hO : Blk w2 (W.heap.size + 1 + 1) 54 #[.int .i64 x0, .int .i64 x1, .int .i64 x2, .string x3, .int .i64 x4, .int .i64 x5, .int .i64 x6, .int .i64 0, .int .i64 0, .int .i64 0, .int .i64 0, .int .i64 0, .int .i64 0, .slice none 0 0] := Blk.call (Blk.set (Blk.set (Blk.set (Blk.set (Blk.set (Blk.set (Blk.set HO1.out 0 (.int .i64 x0)) 1 (.int .i64 x1)) 2 (.int .i64 x2)) 3 (.string x3)) 4 (.int .i64 x4)) 5 (.int .i64 x5)) 6 (.int .i64 x6)) hb
  have hz2 : W.heap.size + 3 ≤ w2.heap.size := Nat.le_trans hz1 (size_call hb (S := fun x => x < W.heap.size + 3) ((((((((Off.refl (fun x => x < W.heap.size + 3) w1).setCell (p := ⟨W.heap.size + 1 + 1, 0, none⟩) (by show W.heap.size + 1 + 1 < W.heap.size + 3; omega) (.int .i64 x0)).setCell (p := ⟨W.heap.size + 1 + 1, 1, none⟩) (by show W.heap.size + 1 + 1 < W.heap.size + 3; omega) (.int .i64 x1)).setCell (p := ⟨W.heap.size + 1 + 1, 2, none⟩) (by show W.heap.size + 1 + 1 < W.heap.size + 3; omega) (.int .i64 x2)).setCell (p := ⟨W.heap.size + 1 + 1, 3, none⟩) (by show W.heap.size + 1 + 1 < W.heap.size + 3; omega) (.string x3)).setCell (p := ⟨W.heap.size + 1 + 1, 4, none⟩) (by show W.heap.size + 1 + 1 < W.heap.size + 3; omega) (.int .i64 x4)).setCell (p := ⟨W.heap.size + 1 + 1, 5, none⟩) (by show W.heap.size + 1 + 1 < W.heap.size + 3; omega) (.int .i64 x5)).setCell (p := ⟨W.heap.size + 1 + 1, 6, none⟩) (by show W.heap.size + 1 + 1 < W.heap.size + 3; omega) (.int .i64 x6)))
  have HB2 := Lib.hid (Below.trans (B := W.heap.size) (a := W) (((((((HB1.out.setCell (p := ⟨W.heap.size + 1 + 1, 0, none⟩) (by show W.heap.size ≤ W.heap.size + 1 + 1; omega) (.int .i64 x0)).setCell (p := ⟨W.heap.size + 1 + 1, 1, none⟩) (by show W.heap.size ≤ W.heap.size + 1 + 1; omega) (.int .i64 x1)).setCell (p := ⟨W.heap.size + 1 + 1, 2, none⟩) (by show W.heap.size ≤ W.heap.size + 1 + 1; omega) (.int .i64 x2)).setCell (p := ⟨W.heap.size + 1 + 1, 3, none⟩) (by show W.heap.size ≤ W.heap.size + 1 + 1; omega) (.string x3)).setCell (p := ⟨W.heap.size + 1 + 1, 4, none⟩) (by show W.heap.size ≤ W.heap.size + 1 + 1; omega) (.int .i64 x4)).setCell (p := ⟨W.heap.size + 1 + 1, 5, none⟩) (by show W.heap.size ≤ W.heap.size + 1 + 1; omega) (.int .i64 x5)).setCell (p := ⟨W.heap.size + 1 + 1, 6, none⟩) (by show W.heap.size ≤ W.heap.size + 1 + 1; omega) (.int .i64 x6)) (hb.mono (by have h0 := hz1; first | omega | (simp; omega))))
  have hle2 := size_call hb ((((((((Off.refl (fun x => x < W.heap.size + 3) w1).setCell (p := ⟨W.heap.size + 1 + 1, 0, none⟩) (by show W.heap.size + 1 + 1 < W.heap.size + 3; omega) (.int .i64 x0)).setCell (p := ⟨W.heap.size + 1 + 1, 1, none⟩) (by show W.heap.size + 1 + 1 < W.heap.size + 3; omega) (.int .i64 x1)).setCell (p := ⟨W.heap.size + 1 + 1, 2, none⟩) (by show W.heap.size + 1 + 1 < W.heap.size + 3; omega) (.int .i64 x2)).setCell (p := ⟨W.heap.size + 1 + 1, 3, none⟩) (by show W.heap.size + 1 + 1 < W.heap.size + 3; omega) (.string x3)).setCell (p := ⟨W.heap.size + 1 + 1, 4, none⟩) (by show W.heap.size + 1 + 1 < W.heap.size + 3; omega) (.int .i64 x4)).setCell (p := ⟨W.heap.size + 1 + 1, 5, none⟩) (by show W.heap.size + 1 + 1 < W.heap.size + 3; omega) (.int .i64 x5)).setCell (p := ⟨W.heap.size + 1 + 1, 6, none⟩) (by show W.heap.size + 1 + 1 < W.heap.size + 3; omega) (.int .i64 x6))
  have HP2 := Lib.hid hP
  have HR2 := Lib.hid hR
  have HO2 := Lib.hid hO
  clear h hb hP hR hO how
  clear p1_0 o1_0 r1_0 f1_0 g1_0 p1_1 o1_1 r1_1 f1_1 g1_1 p1_2 o1_2 r1_2 f1_2 g1_2 p1_3 o1_3 r1_3 f1_3 g1_3 p1_4 o1_4 r1_4 f1_4 g1_4 p1_5 o1_5 r1_5 f1_5 g1_5 p1_6 o1_6 r1_6 f1_6 g1_6 p1_7 o1_7 r1_7 f1_7 g1_7 p1_8 o1_8 r1_8 f1_8 g1_8 p1_9 o1_9 r1_9 f1_9 g1_9 p1_10 o1_10 r1_10 f1_10 g1_10 p1_11 o1_11 r1_11 f1_11 g1_11 p1_12 o1_12 r1_12 f1_12 g1_12 p1_13 o1_13 r1_13 f1_13 g1_13
  have p2_0 := HP2.out.at_ 0 rfl
  have o2_0 := HO2.out.at_ 0 rfl
  have r2_0 := HR2.out.at_ 0 rfl
  have f2_0 := HO2.out.soft 0
  have g2_0 := HR2.out.soft 0
  have p2_1 := HP2.out.at_ 1 rfl
  have o2_1 := HO2.out.at_ 1 rfl
  have r2_1 := HR2.out.at_ 1 rfl
  have f2_1 := HO2.out.soft 1
  have g2_1 := HR2.out.soft 1
  have p2_2 := HP2.out.at_ 2 rfl
  have o2_2 := HO2.out.at_ 2 rfl
  have r2_2 := HR2.out.at_ 2 rfl
  have f2_2 := HO2.out.soft 2
  have g2_2 := HR2.out.soft 2
  have p2_3 := HP2.out.at_ 3 rfl
  have o2_3 := HO2.out.at_ 3 rfl
  have r2_3 := HR2.out.at_ 3 rfl
  have f2_3 := HO2.out.soft 3
  have g2_3 := HR2.out.soft 3
  have p2_4 := HP2.out.at_ 4 rfl
  have o2_4 := HO2.out.at_ 4 rfl
  have r2_4 := HR2.out.at_ 4 rfl
  have f2_4 := HO2.out.soft 4
  have g2_4 := HR2.out.soft 4
  have p2_5 := HP2.out.at_ 5 rfl
  have o2_5 := HO2.out.at_ 5 rfl
  have r2_5 := HR2.out.at_ 5 rfl
  have f2_5 := HO2.out.soft 5
  have g2_5 := HR2.out.soft 5
  have p2_6 := HP2.out.at_ 6 rfl
  have o2_6 := HO2.out.at_ 6 rfl
  have r2_6 := HR2.out.at_ 6 rfl
  have f2_6 := HO2.out.soft 6
  have g2_6 := HR2.out.soft 6
  have p2_7 := HP2.out.at_ 7 rfl
  have o2_7 := HO2.out.at_ 7 rfl
  have r2_7 := HR2.out.at_ 7 rfl
  have f2_7 := HO2.out.soft 7
  have g2_7 := HR2.out.soft 7
  have p2_8 := HP2.out.at_ 8 rfl
  have o2_8 := HO2.out.at_ 8 rfl
  have r2_8 := HR2.out.at_ 8 rfl
  have f2_8 := HO2.out.soft 8
  have g2_8 := HR2.out.soft 8
  have p2_9 := HP2.out.at_ 9 rfl
  have o2_9 := HO2.out.at_ 9 rfl
  have r2_9 := HR2.out.at_ 9 rfl
  have f2_9 := HO2.out.soft 9
  have g2_9 := HR2.out.soft 9
  have p2_10 := HP2.out.at_ 10 rfl
  have o2_10 := HO2.out.at_ 10 rfl
  have r2_10 := HR2.out.at_ 10 rfl
  have f2_10 := HO2.out.soft 10
  have g2_10 := HR2.out.soft 10
  have p2_11 := HP2.out.at_ 11 rfl
  have o2_11 := HO2.out.at_ 11 rfl
  have r2_11 := HR2.out.at_ 11 rfl
  have f2_11 := HO2.out.soft 11
  have g2_11 := HR2.out.soft 11
  have p2_12 := HP2.out.at_ 12 rfl
  have o2_12 := HO2.out.at_ 12 rfl
  have r2_12 := HR2.out.at_ 12 rfl
  have f2_12 := HO2.out.soft 12
  have g2_12 := HR2.out.soft 12
  have p2_13 := HP2.out.at_ 13 rfl
  have o2_13 := HO2.out.at_ 13 rfl
  have r2_13 := HR2.out.at_ 13 rfl
  have f2_13 := HO2.out.soft 13
  have g2_13 := HR2.out.soft 13
  go_wp2_with fail
  refine (to_Int64S (by have h0 := HSZ.out; simp only [R_Task, Pr, Sl, I, Bo, St, atom] at h0 ⊢; omega) ((H_L0.out.below I_ok ((((((HB2.out.setCell (p := ⟨W.heap.size + 1 + 1, 7, none⟩) (by show W.heap.size ≤ W.heap.size + 1 + 1; omega) (.int .i64 x7)).setCell (p := ⟨W.heap.size + 1 + 1, 8, none⟩) (by show W.heap.size ≤ W.heap.size + 1 + 1; omega) (.int .i64 x8)).setCell (p := ⟨W.heap.size + 1 + 1, 9, none⟩) (by show W.heap.size ≤ W.heap.size + 1 + 1; omega) (.int .i64 x9)).setCell (p := ⟨W.heap.size + 1 + 1, 10, none⟩) (by show W.heap.size ≤ W.heap.size + 1 + 1; omega) (.int .i64 x10)).setCell (p := ⟨W.heap.size + 1 + 1, 11, none⟩) (by show W.heap.size ≤ W.heap.size + 1 + 1; omega) (.int .i64 x11)).setCell (p := ⟨W.heap.size + 1 + 1, 12, none⟩) (by show W.heap.size ≤ W.heap.size + 1 + 1; omega) (.int .i64 x12))).more I_ok (by have h0 := hz2; first | omega | (simp; omega)))).mono ?_
  intro e w3 h
  obtain ⟨b_L0, d_L0, rfl, how_L0, hb⟩ := newS_elim h
  have hP : Blk w3 (W.heap.size) 63 #[.int .i64 x0, .int .i64 x1, .int .i64 x2, .string x3, .int .i64 x4, .int .i64 x5, .int .i64 x6, .int .i64 x7, .int .i64 x8, .int .i64 x9, .int .i64 x10, .int .i64 x11, .int .i64 x12, .slice a0 L0.length c0] := Blk.call (Blk.far (b := W.heap.size + 1 + 1) (o := 12) (Blk.far (b := W.heap.size + 1 + 1) (o := 11) (Blk.far (b := W.heap.size + 1 + 1) (o := 10) (Blk.far (b := W.heap.size + 1 + 1) (o := 9) (Blk.far (b := W.heap.size + 1 + 1) (o := 8) (Blk.far (b := W.heap.size + 1 + 1) (o := 7) HP2.out (by omega) (.int .i64 x7)) (by omega) (.int .i64 x8)) (by omega) (.int .i64 x9)) (by omega) (.int .i64 x10)) (by omega) (.int .i64 x11)) (by omega) (.int .i64 x12)) hb
  have hR : Blk w3 (W.heap.size + 1) 54 #[.int .i64 0, .int .i64 0, .int .i64 0, .string ⟨#[]⟩, .int .i64 0, .int .i64 0, .int .i64 0, .int .i64 0, .int .i64 0, .int .i64 0, .int .i64 0, .int .i64 0, .int .i64 0, .slice none 0 0] := Blk.call (Blk.far (b := W.heap.size + 1 + 1) (o := 12) (Blk.far (b := W.heap.size + 1 + 1) (o := 11) (Blk.far (b := W.heap.size + 1 + 1) (o := 10) (Blk.far (b := W.heap.size + 1 + 1) (o := 9) (Blk.far (b := W.heap.size + 1 + 1) (o := 8) (Blk.far (b := W.heap.size + 1 + 1) (o := 7) HR2.out (by omega) (.int .i64 x7)) (by omega) (.int .i64 x8)) (by omega) (.int .i64 x9)) (by omega) (.int .i64 x10)) (by omega) (.int .i64 x11)) (by omega) (.int .i64 x12)) hb
  have hO : Blk w3 (W.heap.size + 1 + 1) 54 #[.int .i64 x0, .int .i64 x1, .int .i64 x2, .string x3, .int .i64 x4, .int .i64 x5, .int .i64 x6, .int .i64 x7, .int .i64 x8, .int .i64 x9, .int .i64 x10, .int .i64 x11, .int .i64 x12, .slice none 0 0] := Blk.call (Blk.set (Blk.set (Blk.set (Blk.set (Blk.set (Blk.set HO2.out 7 (.int .i64 x7)) 8 (.int .i64 x8)) 9 (.int .i64 x9)) 10 (.int .i64 x10)) 11 (.int .i64 x11)) 12 (.int .i64 x12)) hb
  have hz3 : W.heap.size + 3 ≤ w3.heap.size := Nat.le_trans hz2 (size_call hb (S := fun x => x < W.heap.size + 3) (((((((Off.refl (fun x => x < W.heap.size + 3) w2).setCell (p := ⟨W.heap.size + 1 + 1, 7, none⟩) (by show W.heap.size + 1 + 1 < W.heap.size + 3; omega) (.int .i64 x7)).setCell (p := ⟨W.heap.size + 1 + 1, 8, none⟩) (by show W.heap.size + 1 + 1 < W.heap.size + 3; omega) (.int .i64 x8)).setCell (p := ⟨W.heap.size + 1 + 1, 9, none⟩) (by show W.heap.size + 1 + 1 < W.heap.size + 3; omega) (.int .i64 x9)).setCell (p := ⟨W.heap.size + 1 + 1, 10, none⟩) (by show W.heap.size + 1 + 1 < W.heap.size + 3; omega) (.int .i64 x10)).setCell (p := ⟨W.heap.size + 1 + 1, 11, none⟩) (by show W.heap.size + 1 + 1 < W.heap.size + 3; omega) (.int .i64 x11)).setCell (p := ⟨W.heap.size + 1 + 1, 12, none⟩) (by show W.heap.size + 1 + 1 < W.heap.size + 3; omega) (.int .i64 x12)))
  have HB3 := Lib.hid (Below.trans (B := W.heap.size) (a := W) ((((((HB2.out.setCell (p := ⟨W.heap.size + 1 + 1, 7, none⟩) (by show W.heap.size ≤ W.heap.size + 1 + 1; omega) (.int .i64 x7)).setCell (p := ⟨W.heap.size + 1 + 1, 8, none⟩) (by show W.heap.size ≤ W.heap.size + 1 + 1; omega) (.int .i64 x8)).setCell (p := ⟨W.heap.size + 1 + 1, 9, none⟩) (by show W.heap.size ≤ W.heap.size + 1 + 1; omega) (.int .i64 x9)).setCell (p := ⟨W.heap.size + 1 + 1, 10, none⟩) (by show W.heap.size ≤ W.heap.size + 1 + 1; omega) (.int .i64 x10)).setCell (p := ⟨W.heap.size + 1 + 1, 11, none⟩) (by show W.heap.size ≤ W.heap.size + 1 + 1; omega) (.int .i64 x11)).setCell (p := ⟨W.heap.size + 1 + 1, 12, none⟩) (by show W.heap.size ≤ W.heap.size + 1 + 1; omega) (.int .i64 x12)) (hb.mono (by have h0 := hz2; first | omega | (simp; omega))))
  have HO_L0 := Lib.hid how_L0
  have HL_L0 := Lib.hid (fun k hk => rg_call hb (m := W.heap.size + 3) (by have h0 := hz2; first | omega | (simp; omega)) k hk)
  have HU_L0 := Lib.hid (rg_call hb (m := 0) (Nat.zero_le _))
  have HG_L0 := Lib.hid (lo_of hb (((((((Off.refl (fun x => x < W.heap.size + 3) w2).setCell (p := ⟨W.heap.size + 1 + 1, 7, none⟩) (by show W.heap.size + 1 + 1 < W.heap.size + 3; omega) (.int .i64 x7)).setCell (p := ⟨W.heap.size + 1 + 1, 8, none⟩) (by show W.heap.size + 1 + 1 < W.heap.size + 3; omega) (.int .i64 x8)).setCell (p := ⟨W.heap.size + 1 + 1, 9, none⟩) (by show W.heap.size + 1 + 1 < W.heap.size + 3; omega) (.int .i64 x9)).setCell (p := ⟨W.heap.size + 1 + 1, 10, none⟩) (by show W.heap.size + 1 + 1 < W.heap.size + 3; omega) (.int .i64 x10)).setCell (p := ⟨W.heap.size + 1 + 1, 11, none⟩) (by show W.heap.size + 1 + 1 < W.heap.size + 3; omega) (.int .i64 x11)).setCell (p := ⟨W.heap.size + 1 + 1, 12, none⟩) (by show W.heap.size + 1 + 1 < W.heap.size + 3; omega) (.int .i64 x12)))
  have hle3 := size_call hb (((((((Off.refl (fun x => x < W.heap.size + 3) w2).setCell (p := ⟨W.heap.size + 1 + 1, 7, none⟩) (by show W.heap.size + 1 + 1 < W.heap.size + 3; omega) (.int .i64 x7)).setCell (p := ⟨W.heap.size + 1 + 1, 8, none⟩) (by show W.heap.size + 1 + 1 < W.heap.size + 3; omega) (.int .i64 x8)).setCell (p := ⟨W.heap.size + 1 + 1, 9, none⟩) (by show W.heap.size + 1 + 1 < W.heap.size + 3; omega) (.int .i64 x9)).setCell (p := ⟨W.heap.size + 1 + 1, 10, none⟩) (by show W.heap.size + 1 + 1 < W.heap.size + 3; omega) (.int .i64 x10)).setCell (p := ⟨W.heap.size + 1 + 1, 11, none⟩) (by show W.heap.size + 1 + 1 < W.heap.size + 3; omega) (.int .i64 x11)).setCell (p := ⟨W.heap.size + 1 + 1, 12, none⟩) (by show W.heap.size + 1 + 1 < W.heap.size + 3; omega) (.int .i64 x12))
  have HP3 := Lib.hid hP
  have HR3 := Lib.hid hR
  have HO3 := Lib.hid hO
  clear h hb hP hR hO how_L0
  clear p2_0 o2_0 r2_0 f2_0 g2_0 p2_1 o2_1 r2_1 f2_1 g2_1 p2_2 o2_2 r2_2 f2_2 g2_2 p2_3 o2_3 r2_3 f2_3 g2_3 p2_4 o2_4 r2_4 f2_4 g2_4 p2_5 o2_5 r2_5 f2_5 g2_5 p2_6 o2_6 r2_6 f2_6 g2_6 p2_7 o2_7 r2_7 f2_7 g2_7 p2_8 o2_8 r2_8 f2_8 g2_8 p2_9 o2_9 r2_9 f2_9 g2_9 p2_10 o2_10 r2_10 f2_10 g2_10 p2_11 o2_11 r2_11 f2_11 g2_11 p2_12 o2_12 r2_12 f2_12 g2_12 p2_13 o2_13 r2_13 f2_13 g2_13
  have p3_0 := HP3.out.at_ 0 rfl
  have o3_0 := HO3.out.at_ 0 rfl
  have r3_0 := HR3.out.at_ 0 rfl
  have f3_0 := HO3.out.soft 0
  have g3_0 := HR3.out.soft 0
  have p3_1 := HP3.out.at_ 1 rfl
  have o3_1 := HO3.out.at_ 1 rfl
  have r3_1 := HR3.out.at_ 1 rfl
  have f3_1 := HO3.out.soft 1
  have g3_1 := HR3.out.soft 1
  have p3_2 := HP3.out.at_ 2 rfl
  have o3_2 := HO3.out.at_ 2 rfl
  have r3_2 := HR3.out.at_ 2 rfl
  have f3_2 := HO3.out.soft 2
  have g3_2 := HR3.out.soft 2
  have p3_3 := HP3.out.at_ 3 rfl
  have o3_3 := HO3.out.at_ 3 rfl
  have r3_3 := HR3.out.at_ 3 rfl
  have f3_3 := HO3.out.soft 3
  have g3_3 := HR3.out.soft 3
  have p3_4 := HP3.out.at_ 4 rfl
  have o3_4 := HO3.out.at_ 4 rfl
  have r3_4 := HR3.out.at_ 4 rfl
  have f3_4 := HO3.out.soft 4
  have g3_4 := HR3.out.soft 4
  have p3_5 := HP3.out.at_ 5 rfl
  have o3_5 := HO3.out.at_ 5 rfl
  have r3_5 := HR3.out.at_ 5 rfl
  have f3_5 := HO3.out.soft 5
  have g3_5 := HR3.out.soft 5
  have p3_6 := HP3.out.at_ 6 rfl
  have o3_6 := HO3.out.at_ 6 rfl
  have r3_6 := HR3.out.at_ 6 rfl
  have f3_6 := HO3.out.soft 6
  have g3_6 := HR3.out.soft 6
  have p3_7 := HP3.out.at_ 7 rfl
  have o3_7 := HO3.out.at_ 7 rfl
  have r3_7 := HR3.out.at_ 7 rfl
  have f3_7 := HO3.out.soft 7
  have g3_7 := HR3.out.soft 7
  have p3_8 := HP3.out.at_ 8 rfl
  have o3_8 := HO3.out.at_ 8 rfl
  have r3_8 := HR3.out.at_ 8 rfl
  have f3_8 := HO3.out.soft 8
  have g3_8 := HR3.out.soft 8
  have p3_9 := HP3.out.at_ 9 rfl
  have o3_9 := HO3.out.at_ 9 rfl
  have r3_9 := HR3.out.at_ 9 rfl
  have f3_9 := HO3.out.soft 9
  have g3_9 := HR3.out.soft 9
  have p3_10 := HP3.out.at_ 10 rfl
  have o3_10 := HO3.out.at_ 10 rfl
  have r3_10 := HR3.out.at_ 10 rfl
  have f3_10 := HO3.out.soft 10
  have g3_10 := HR3.out.soft 10
  have p3_11 := HP3.out.at_ 11 rfl
  have o3_11 := HO3.out.at_ 11 rfl
  have r3_11 := HR3.out.at_ 11 rfl
  have f3_11 := HO3.out.soft 11
  have g3_11 := HR3.out.soft 11
  have p3_12 := HP3.out.at_ 12 rfl
  have o3_12 := HO3.out.at_ 12 rfl
  have r3_12 := HR3.out.at_ 12 rfl
  have f3_12 := HO3.out.soft 12
  have g3_12 := HR3.out.soft 12
  have p3_13 := HP3.out.at_ 13 rfl
  have o3_13 := HO3.out.at_ 13 rfl
  have r3_13 := HR3.out.at_ 13 rfl
  have f3_13 := HO3.out.soft 13
  have g3_13 := HR3.out.soft 13
  go_wp2
  refine bodyPost_ret (v := .agg #[.int .i64 x0, .int .i64 x1, .int .i64 x2, .string x3, .int .i64 x4, .int .i64 x5, .int .i64 x6, .int .i64 x7, .int .i64 x8, .int .i64 x9, .int .i64 x10, .int .i64 x11, .int .i64 x12, .slice b_L0 L0.length d_L0]) (by simp [results, Try.results36, go_sem, *]) rfl ⟨[.int .i64 x0, .int .i64 x1, .int .i64 x2, .string x3, .int .i64 x4, .int .i64 x5, .int .i64 x6, .int .i64 x7, .int .i64 x8, .int .i64 x9, .int .i64 x10, .int .i64 x11, .int .i64 x12, .slice b_L0 L0.length d_L0], rfl, ?_, (((((((((((((((HB3.out.setCell (p := ⟨W.heap.size + 1 + 1, 13, none⟩) (by show W.heap.size ≤ W.heap.size + 1 + 1; omega) (.slice b_L0 L0.length d_L0)).setCell (p := ⟨W.heap.size + 1, 0, none⟩) (by show W.heap.size ≤ W.heap.size + 1; omega) (.int .i64 x0)).setCell (p := ⟨W.heap.size + 1, 1, none⟩) (by show W.heap.size ≤ W.heap.size + 1; omega) (.int .i64 x1)).setCell (p := ⟨W.heap.size + 1, 2, none⟩) (by show W.heap.size ≤ W.heap.size + 1; omega) (.int .i64 x2)).setCell (p := ⟨W.heap.size + 1, 3, none⟩) (by show W.heap.size ≤ W.heap.size + 1; omega) (.string x3)).setCell (p := ⟨W.heap.size + 1, 4, none⟩) (by show W.heap.size ≤ W.heap.size + 1; omega) (.int .i64 x4)).setCell (p := ⟨W.heap.size + 1, 5, none⟩) (by show W.heap.size ≤ W.heap.size + 1; omega) (.int .i64 x5)).setCell (p := ⟨W.heap.size + 1, 6, none⟩) (by show W.heap.size ≤ W.heap.size + 1; omega) (.int .i64 x6)).setCell (p := ⟨W.heap.size + 1, 7, none⟩) (by show W.heap.size ≤ W.heap.size + 1; omega) (.int .i64 x7)).setCell (p := ⟨W.heap.size + 1, 8, none⟩) (by show W.heap.size ≤ W.heap.size + 1; omega) (.int .i64 x8)).setCell (p := ⟨W.heap.size + 1, 9, none⟩) (by show W.heap.size ≤ W.heap.size + 1; omega) (.int .i64 x9)).setCell (p := ⟨W.heap.size + 1, 10, none⟩) (by show W.heap.size ≤ W.heap.size + 1; omega) (.int .i64 x10)).setCell (p := ⟨W.heap.size + 1, 11, none⟩) (by show W.heap.size ≤ W.heap.size + 1; omega) (.int .i64 x11)).setCell (p := ⟨W.heap.size + 1, 12, none⟩) (by show W.heap.size ≤ W.heap.size + 1; omega) (.int .i64 x12)).setCell (p := ⟨W.heap.size + 1, 13, none⟩) (by show W.heap.size ≤ W.heap.size + 1; omega) (.slice b_L0 L0.length d_L0))⟩
  have hoff := ((((((((((((((((Off.refl (fun x => x < W.heap.size + 3) w3).setCell (p := ⟨W.heap.size + 1 + 1, 13, none⟩) (by show W.heap.size + 1 + 1 < W.heap.size + 3; omega) (.slice b_L0 L0.length d_L0)).setCell (p := ⟨W.heap.size + 1, 0, none⟩) (by show W.heap.size + 1 < W.heap.size + 3; omega) (.int .i64 x0)).setCell (p := ⟨W.heap.size + 1, 1, none⟩) (by show W.heap.size + 1 < W.heap.size + 3; omega) (.int .i64 x1)).setCell (p := ⟨W.heap.size + 1, 2, none⟩) (by show W.heap.size + 1 < W.heap.size + 3; omega) (.int .i64 x2)).setCell (p := ⟨W.heap.size + 1, 3, none⟩) (by show W.heap.size + 1 < W.heap.size + 3; omega) (.string x3)).setCell (p := ⟨W.heap.size + 1, 4, none⟩) (by show W.heap.size + 1 < W.heap.size + 3; omega) (.int .i64 x4)).setCell (p := ⟨W.heap.size + 1, 5, none⟩) (by show W.heap.size + 1 < W.heap.size + 3; omega) (.int .i64 x5)).setCell (p := ⟨W.heap.size + 1, 6, none⟩) (by show W.heap.size + 1 < W.heap.size + 3; omega) (.int .i64 x6)).setCell (p := ⟨W.heap.size + 1, 7, none⟩) (by show W.heap.size + 1 < W.heap.size + 3; omega) (.int .i64 x7)).setCell (p := ⟨W.heap.size + 1, 8, none⟩) (by show W.heap.size + 1 < W.heap.size + 3; omega) (.int .i64 x8)).setCell (p := ⟨W.heap.size + 1, 9, none⟩) (by show W.heap.size + 1 < W.heap.size + 3; omega) (.int .i64 x9)).setCell (p := ⟨W.heap.size + 1, 10, none⟩) (by show W.heap.size + 1 < W.heap.size + 3; omega) (.int .i64 x10)).setCell (p := ⟨W.heap.size + 1, 11, none⟩) (by show W.heap.size + 1 < W.heap.size + 3; omega) (.int .i64 x11)).setCell (p := ⟨W.heap.size + 1, 12, none⟩) (by show W.heap.size + 1 < W.heap.size + 3; omega) (.int .i64 x12)).setCell (p := ⟨W.heap.size + 1, 13, none⟩) (by show W.heap.size + 1 < W.heap.size + 3; omega) (.slice b_L0 L0.length d_L0))
  have hsz := hoff.size
  exact mkow_Task (fun k hk => ⟨by have := (HL_L0.out k hk).1; omega, by have := (HL_L0.out k hk).2; omega⟩) (HO_L0.out.keep I_ok (fun k hk => hoff.block k (HL_L0.out k hk).2 (by have := (HL_L0.out k hk).1; omega))) b_x3

theorem size_TaskS : (R_Task).size = 14 := rfl
def zs_TaskS (n : Nat) : Array Value := madeCells #[.int .i64 0, .int .i64 0, .int .i64 0, .string ⟨#[]⟩, .int .i64 0, .int .i64 0, .int .i64 0, .int .i64 0, .int .i64 0, .int .i64 0, .int .i64 0, .int .i64 0, .int .i64 0, .slice none 0 0] (n * 14)
theorem zs_TaskS_size (n : Nat) : (zs_TaskS n).size = n * (R_Task).size := by unfold zs_TaskS; simp [madeCells, size_TaskS]
theorem make_TaskS (n : Nat) (hn : n ≤ 1048576) : ∀ W : World, (Instr.makeSlice 49 (.int .i64 (n : Int)) (.int .i64 (n : Int))).run Try.prog W = .ok (.slice (some ⟨W.heap.size, 0, none⟩) n n) (W.alloc (.cells (zs_TaskS n) 54)) := by
  intro W
  obtain ⟨i, hi, hz, hs, hb⟩ : ∃ i, Try.prog.info? 54 = some i ∧ i.zero = some (.agg #[.int .i64 0, .int .i64 0, .int .i64 0, .string ⟨#[]⟩, .int .i64 0, .int .i64 0, .int .i64 0, .int .i64 0, .int .i64 0, .int .i64 0, .int .i64 0, .int .i64 0, .int .i64 0, .slice none 0 0]) ∧ i.size = 14 ∧ i.bytes = 136 := by
    have h : (Try.prog.info? 54).map (fun i => (i.zero, i.size, i.bytes)) = some (some (.agg #[.int .i64 0, .int .i64 0, .int .i64 0, .string ⟨#[]⟩, .int .i64 0, .int .i64 0, .int .i64 0, .int .i64 0, .int .i64 0, .int .i64 0, .int .i64 0, .int .i64 0, .int .i64 0, .slice none 0 0]), 14, 136) := by kernel_rfl
    cases hx : Try.prog.info? 54 with
    | none => rw [hx] at h; simp at h
    | some i => rw [hx] at h; simp at h; exact ⟨i, rfl, h.1, h.2.1, h.2.2⟩
  have hr := run_make (P := Try.prog) W 49 54 i _ Try.underlying49 hi hz .i64 .i64 n n (by omega) (by omega) (by rw [hb]; omega) (by omega)
  rw [hs] at hr
  simp only [Int.toNat_natCast] at hr
  exact hr

set_option maxRecDepth 100000 in
set_option maxHeartbeats 3200000 in
theorem to_TaskS {L : List (D_Task)} {a : Option Addr} {cap : Nat} {W : World} (hsz : ((Sl R_Task)).sz L ≤ 1048576) (h : RdSl R_Task W W.heap.size L a cap) : Calls Try.prog 23 #[.slice a L.length cap] W (NewS R_Task L W) := by
  have hn : L.length ≤ 1048576 := Nat.le_trans (Nat.le_add_right _ _) hsz
  have hmk := make_TaskS L.length hn
  have H := Lib.hid h
  have HSZ := Lib.hid hsz
  clear h hsz
  go_enter Try.func23, Try.ntmps23
  go_wp2
  go_loopw [4] (fun i wr => ∃ k : Nat, k ≤ L.length ∧ i = .int .i64 k ∧ ∃ Sf, Fil R_Task W wr L W.heap.size Sf k) (fun i _ => L.length - (intOf i).toNat)
  case atStart => exact ⟨0, Nat.zero_le _, rfl, _, Fil.new (by exact zs_TaskS_size _)⟩
  case round =>
    obtain ⟨k, hk, rfl, Sf, hF⟩ := hrel
    have HF := Lib.hid hF
    by_cases hlt : k < L.length
    · obtain ⟨⟨⟨x0, x1⟩, x2, x3, x4, x5, x6, ⟨x7, x8⟩, x9, x10, x11, x12, L0⟩, hx⟩ := el_some hlt
      have HX := Lib.hid hx
      obtain ⟨g, o, us, rfl, hg, hu, hr⟩ := (H.out.below R_Task_ok hF.below).at_ hx
      obtain ⟨a0, c0, rfl, k_L0, b_x3⟩ := rd_Task hr
      have e0 : wr.cell? ⟨g, o + k * 14, none⟩ = some (.int .i64 x0) := by simpa [size_TaskS, Nat.add_assoc] using hu 0 _ rfl
      have e1 : wr.cell? ⟨g, o + k * 14 + 1, none⟩ = some (.int .i64 x1) := by simpa [size_TaskS, Nat.add_assoc] using hu 1 _ rfl
      have e2 : wr.cell? ⟨g, o + k * 14 + 2, none⟩ = some (.int .i64 x2) := by simpa [size_TaskS, Nat.add_assoc] using hu 2 _ rfl
      have e3 : wr.cell? ⟨g, o + k * 14 + 3, none⟩ = some (.string x3) := by simpa [size_TaskS, Nat.add_assoc] using hu 3 _ rfl
      have e4 : wr.cell? ⟨g, o + k * 14 + 4, none⟩ = some (.int .i64 x4) := by simpa [size_TaskS, Nat.add_assoc] using hu 4 _ rfl
      have e5 : wr.cell? ⟨g, o + k * 14 + 5, none⟩ = some (.int .i64 x5) := by simpa [size_TaskS, Nat.add_assoc] using hu 5 _ rfl
      have e6 : wr.cell? ⟨g, o + k * 14 + 6, none⟩ = some (.int .i64 x6) := by simpa [size_TaskS, Nat.add_assoc] using hu 6 _ rfl
      have e7 : wr.cell? ⟨g, o + k * 14 + 7, none⟩ = some (.int .i64 x7) := by simpa [size_TaskS, Nat.add_assoc] using hu 7 _ rfl
      have e8 : wr.cell? ⟨g, o + k * 14 + 8, none⟩ = some (.int .i64 x8) := by simpa [size_TaskS, Nat.add_assoc] using hu 8 _ rfl
      have e9 : wr.cell? ⟨g, o + k * 14 + 9, none⟩ = some (.int .i64 x9) := by simpa [size_TaskS, Nat.add_assoc] using hu 9 _ rfl
      have e10 : wr.cell? ⟨g, o + k * 14 + 10, none⟩ = some (.int .i64 x10) := by simpa [size_TaskS, Nat.add_assoc] using hu 10 _ rfl
      have e11 : wr.cell? ⟨g, o + k * 14 + 11, none⟩ = some (.int .i64 x11) := by simpa [size_TaskS, Nat.add_assoc] using hu 11 _ rfl
      have e12 : wr.cell? ⟨g, o + k * 14 + 12, none⟩ = some (.int .i64 x12) := by simpa [size_TaskS, Nat.add_assoc] using hu 12 _ rfl
      have e13 : wr.cell? ⟨g, o + k * 14 + 13, none⟩ = some (.slice a0 L0.length c0) := by simpa [size_TaskS, Nat.add_assoc] using hu 13 _ rfl
      have hi0 : (0 : Int) ≤ (k : Int) := Int.natCast_nonneg _
      have hi1 : (k : Int) < (L.length : Int) := by omega
      have HE := Lib.hid (sz_at (f := (R_Task).sz) HX.out HSZ.out)
      have HK_L0 := Lib.hid (k_L0.more I_ok (Nat.le_of_lt HF.out.lt))
      clear hF hx hu hmk k_L0
      go_wp2_with fail
      refine (to_Task (by exact HE.out) (by exact HK_L0.out) b_x3).mono ?_
      intro e w1 h
      obtain ⟨vs, rfl, how, hb⟩ := newV_elim h
      have HOW := Lib.hid how
      obtain ⟨b0, d0, T0, rfl, _⟩ := ow_Task how
      have HP := Lib.hid (HF.out.put R_Task_ok HX.out hb HOW.out)
      have hlt1 := HF.out.lt
      obtain ⟨t0, ht0⟩ := HF.out.there (k * 14) (by rw [size_TaskS]; omega)
      have q0 := (hb.cell (p := ⟨W.heap.size, k * 14, none⟩) hlt1).trans ht0
      have s0 := (hb.frozen (p := ⟨W.heap.size, k * 14, none⟩) hlt1).trans (HF.out.soft (k * 14))
      obtain ⟨t1, ht1⟩ := HF.out.there (k * 14 + 1) (by rw [size_TaskS]; omega)
      have q1 := (hb.cell (p := ⟨W.heap.size, k * 14 + 1, none⟩) hlt1).trans ht1
      have s1 := (hb.frozen (p := ⟨W.heap.size, k * 14 + 1, none⟩) hlt1).trans (HF.out.soft (k * 14 + 1))
      obtain ⟨t2, ht2⟩ := HF.out.there (k * 14 + 2) (by rw [size_TaskS]; omega)
      have q2 := (hb.cell (p := ⟨W.heap.size, k * 14 + 2, none⟩) hlt1).trans ht2
      have s2 := (hb.frozen (p := ⟨W.heap.size, k * 14 + 2, none⟩) hlt1).trans (HF.out.soft (k * 14 + 2))
      obtain ⟨t3, ht3⟩ := HF.out.there (k * 14 + 3) (by rw [size_TaskS]; omega)
      have q3 := (hb.cell (p := ⟨W.heap.size, k * 14 + 3, none⟩) hlt1).trans ht3
      have s3 := (hb.frozen (p := ⟨W.heap.size, k * 14 + 3, none⟩) hlt1).trans (HF.out.soft (k * 14 + 3))
      obtain ⟨t4, ht4⟩ := HF.out.there (k * 14 + 4) (by rw [size_TaskS]; omega)
      have q4 := (hb.cell (p := ⟨W.heap.size, k * 14 + 4, none⟩) hlt1).trans ht4
      have s4 := (hb.frozen (p := ⟨W.heap.size, k * 14 + 4, none⟩) hlt1).trans (HF.out.soft (k * 14 + 4))
      obtain ⟨t5, ht5⟩ := HF.out.there (k * 14 + 5) (by rw [size_TaskS]; omega)
      have q5 := (hb.cell (p := ⟨W.heap.size, k * 14 + 5, none⟩) hlt1).trans ht5
      have s5 := (hb.frozen (p := ⟨W.heap.size, k * 14 + 5, none⟩) hlt1).trans (HF.out.soft (k * 14 + 5))
      obtain ⟨t6, ht6⟩ := HF.out.there (k * 14 + 6) (by rw [size_TaskS]; omega)
      have q6 := (hb.cell (p := ⟨W.heap.size, k * 14 + 6, none⟩) hlt1).trans ht6
      have s6 := (hb.frozen (p := ⟨W.heap.size, k * 14 + 6, none⟩) hlt1).trans (HF.out.soft (k * 14 + 6))
      obtain ⟨t7, ht7⟩ := HF.out.there (k * 14 + 7) (by rw [size_TaskS]; omega)
      have q7 := (hb.cell (p := ⟨W.heap.size, k * 14 + 7, none⟩) hlt1).trans ht7
      have s7 := (hb.frozen (p := ⟨W.heap.size, k * 14 + 7, none⟩) hlt1).trans (HF.out.soft (k * 14 + 7))
      obtain ⟨t8, ht8⟩ := HF.out.there (k * 14 + 8) (by rw [size_TaskS]; omega)
      have q8 := (hb.cell (p := ⟨W.heap.size, k * 14 + 8, none⟩) hlt1).trans ht8
      have s8 := (hb.frozen (p := ⟨W.heap.size, k * 14 + 8, none⟩) hlt1).trans (HF.out.soft (k * 14 + 8))
      obtain ⟨t9, ht9⟩ := HF.out.there (k * 14 + 9) (by rw [size_TaskS]; omega)
      have q9 := (hb.cell (p := ⟨W.heap.size, k * 14 + 9, none⟩) hlt1).trans ht9
      have s9 := (hb.frozen (p := ⟨W.heap.size, k * 14 + 9, none⟩) hlt1).trans (HF.out.soft (k * 14 + 9))
      obtain ⟨t10, ht10⟩ := HF.out.there (k * 14 + 10) (by rw [size_TaskS]; omega)
      have q10 := (hb.cell (p := ⟨W.heap.size, k * 14 + 10, none⟩) hlt1).trans ht10
      have s10 := (hb.frozen (p := ⟨W.heap.size, k * 14 + 10, none⟩) hlt1).trans (HF.out.soft (k * 14 + 10))
      obtain ⟨t11, ht11⟩ := HF.out.there (k * 14 + 11) (by rw [size_TaskS]; omega)
      have q11 := (hb.cell (p := ⟨W.heap.size, k * 14 + 11, none⟩) hlt1).trans ht11
      have s11 := (hb.frozen (p := ⟨W.heap.size, k * 14 + 11, none⟩) hlt1).trans (HF.out.soft (k * 14 + 11))
      obtain ⟨t12, ht12⟩ := HF.out.there (k * 14 + 12) (by rw [size_TaskS]; omega)
      have q12 := (hb.cell (p := ⟨W.heap.size, k * 14 + 12, none⟩) hlt1).trans ht12
      have s12 := (hb.frozen (p := ⟨W.heap.size, k * 14 + 12, none⟩) hlt1).trans (HF.out.soft (k * 14 + 12))
      obtain ⟨t13, ht13⟩ := HF.out.there (k * 14 + 13) (by rw [size_TaskS]; omega)
      have q13 := (hb.cell (p := ⟨W.heap.size, k * 14 + 13, none⟩) hlt1).trans ht13
      have s13 := (hb.frozen (p := ⟨W.heap.size, k * 14 + 13, none⟩) hlt1).trans (HF.out.soft (k * 14 + 13))
      clear h how hb ht0 ht1 ht2 ht3 ht4 ht5 ht6 ht7 ht8 ht9 ht10 ht11 ht12 ht13 e0 e1 e2 e3 e4 e5 e6 e7 e8 e9 e10 e11 e12 e13
      go_wp2
      go_roundw
      case rel => exact ⟨k + 1, by omega, by go_num, _, by simpa [putCells, size_TaskS, Nat.add_assoc] using HP.out⟩
      case measure => simp [intOf]; omega
    · obtain rfl : k = L.length := by omega
      have HR := Lib.hid (HF.out.news (by unfold maxLen; omega))
      clear hF hmk
      go_wp2
      go_ret
      exact HR.out


set_option maxRecDepth 100000 in
set_option maxHeartbeats 3200000 in
theorem eq_Task {x0 : Int} {x1 : Int} {x2 : Int} {x3 : ByteArray} {x4 : Int} {x5 : Int} {x6 : Int} {x7 : Int} {x8 : Int} {x9 : Int} {x10 : Int} {x11 : Int} {x12 : Int} {L0 : List (Int)} {a0 : Option Addr} {c0 : Nat} {a0' : Option Addr} {c0' : Nat} {W : World} (h_L0 : RdSl I W W.heap.size L0 a0 c0) (h'_L0 : RdSl I W W.heap.size L0 a0' c0') : Calls Try.prog 28 #[.agg #[.int .i64 x0, .int .i64 x1, .int .i64 x2, .string x3, .int .i64 x4, .int .i64 x5, .int .i64 x6, .int .i64 x7, .int .i64 x8, .int .i64 x9, .int .i64 x10, .int .i64 x11, .int .i64 x12, .slice a0 L0.length c0], .agg #[.int .i64 x0, .int .i64 x1, .int .i64 x2, .string x3, .int .i64 x4, .int .i64 x5, .int .i64 x6, .int .i64 x7, .int .i64 x8, .int .i64 x9, .int .i64 x10, .int .i64 x11, .int .i64 x12, .slice a0' L0.length c0']] W (IsB true W) := by
  have H_L0 := Lib.hid h_L0
  have H'_L0 := Lib.hid h'_L0
  clear h_L0 h'_L0
  have HB0 := Lib.hid (show Below W.heap.size W ((W.alloc (.cells #[.int .i64 x0, .int .i64 x1, .int .i64 x2, .string x3, .int .i64 x4, .int .i64 x5, .int .i64 x6, .int .i64 x7, .int .i64 x8, .int .i64 x9, .int .i64 x10, .int .i64 x11, .int .i64 x12, .slice a0 L0.length c0] 54)).alloc (.cells #[.int .i64 x0, .int .i64 x1, .int .i64 x2, .string x3, .int .i64 x4, .int .i64 x5, .int .i64 x6, .int .i64 x7, .int .i64 x8, .int .i64 x9, .int .i64 x10, .int .i64 x11, .int .i64 x12, .slice a0' L0.length c0'] 54)) from ((Below.refl _ _).alloc (Nat.le_refl _) _).alloc (by simp) _)
  have hP := (Blk.new W 54 #[.int .i64 x0, .int .i64 x1, .int .i64 x2, .string x3, .int .i64 x4, .int .i64 x5, .int .i64 x6, .int .i64 x7, .int .i64 x8, .int .i64 x9, .int .i64 x10, .int .i64 x11, .int .i64 x12, .slice a0 L0.length c0]).alloc (.cells #[.int .i64 x0, .int .i64 x1, .int .i64 x2, .string x3, .int .i64 x4, .int .i64 x5, .int .i64 x6, .int .i64 x7, .int .i64 x8, .int .i64 x9, .int .i64 x10, .int .i64 x11, .int .i64 x12, .slice a0' L0.length c0'] 54)
  have hQ := Blk.new (W.alloc (.cells #[.int .i64 x0, .int .i64 x1, .int .i64 x2, .string x3, .int .i64 x4, .int .i64 x5, .int .i64 x6, .int .i64 x7, .int .i64 x8, .int .i64 x9, .int .i64 x10, .int .i64 x11, .int .i64 x12, .slice a0 L0.length c0] 54)) 54 #[.int .i64 x0, .int .i64 x1, .int .i64 x2, .string x3, .int .i64 x4, .int .i64 x5, .int .i64 x6, .int .i64 x7, .int .i64 x8, .int .i64 x9, .int .i64 x10, .int .i64 x11, .int .i64 x12, .slice a0' L0.length c0']
  simp only [World.size_alloc] at hP hQ
  have HP0 := Lib.hid hP
  have HQ0 := Lib.hid hQ
  have hz0 : W.heap.size ≤ ((W.alloc (.cells #[.int .i64 x0, .int .i64 x1, .int .i64 x2, .string x3, .int .i64 x4, .int .i64 x5, .int .i64 x6, .int .i64 x7, .int .i64 x8, .int .i64 x9, .int .i64 x10, .int .i64 x11, .int .i64 x12, .slice a0 L0.length c0] 54)).alloc (.cells #[.int .i64 x0, .int .i64 x1, .int .i64 x2, .string x3, .int .i64 x4, .int .i64 x5, .int .i64 x6, .int .i64 x7, .int .i64 x8, .int .i64 x9, .int .i64 x10, .int .i64 x11, .int .i64 x12, .slice a0' L0.length c0'] 54)).heap.size := HB0.out.size
  clear hP hQ
  go_enter Try.func28, Try.ntmps28
  go_wp2_with fail
  refine (eq_Label).mono ?_
  intro e w1 h
  obtain ⟨rfl, hb⟩ := isB_elim h
  have HP1 := Lib.hid (HP0.out.call hb)
  have HQ1 := Lib.hid (HQ0.out.call hb)
  have HB1 := Lib.hid (HB0.out.trans (hb.mono hz0))
  have hz1 : W.heap.size ≤ w1.heap.size := HB1.out.size
  clear h hb
  have p1_2 := HP1.out.at_ 2 rfl
  have q1_2 := HQ1.out.at_ 2 rfl
  have p1_3 := HP1.out.at_ 3 rfl
  have q1_3 := HQ1.out.at_ 3 rfl
  have p1_4 := HP1.out.at_ 4 rfl
  have q1_4 := HQ1.out.at_ 4 rfl
  have p1_5 := HP1.out.at_ 5 rfl
  have q1_5 := HQ1.out.at_ 5 rfl
  have p1_6 := HP1.out.at_ 6 rfl
  have q1_6 := HQ1.out.at_ 6 rfl
  have p1_7 := HP1.out.at_ 7 rfl
  have q1_7 := HQ1.out.at_ 7 rfl
  have p1_8 := HP1.out.at_ 8 rfl
  have q1_8 := HQ1.out.at_ 8 rfl
  have p1_9 := HP1.out.at_ 9 rfl
  have q1_9 := HQ1.out.at_ 9 rfl
  have p1_10 := HP1.out.at_ 10 rfl
  have q1_10 := HQ1.out.at_ 10 rfl
  have p1_11 := HP1.out.at_ 11 rfl
  have q1_11 := HQ1.out.at_ 11 rfl
  have p1_12 := HP1.out.at_ 12 rfl
  have q1_12 := HQ1.out.at_ 12 rfl
  have p1_13 := HP1.out.at_ 13 rfl
  have q1_13 := HQ1.out.at_ 13 rfl
  go_wp2_with fail
  refine (eq_Label).mono ?_
  intro e w2 h
  obtain ⟨rfl, hb⟩ := isB_elim h
  have HP2 := Lib.hid (HP1.out.call hb)
  have HQ2 := Lib.hid (HQ1.out.call hb)
  have HB2 := Lib.hid (HB1.out.trans (hb.mono hz1))
  have hz2 : W.heap.size ≤ w2.heap.size := HB2.out.size
  clear h hb
  clear p1_2 q1_2 p1_3 q1_3 p1_4 q1_4 p1_5 q1_5 p1_6 q1_6 p1_7 q1_7 p1_8 q1_8 p1_9 q1_9 p1_10 q1_10 p1_11 q1_11 p1_12 q1_12 p1_13 q1_13
  have p2_9 := HP2.out.at_ 9 rfl
  have q2_9 := HQ2.out.at_ 9 rfl
  have p2_10 := HP2.out.at_ 10 rfl
  have q2_10 := HQ2.out.at_ 10 rfl
  have p2_11 := HP2.out.at_ 11 rfl
  have q2_11 := HQ2.out.at_ 11 rfl
  have p2_12 := HP2.out.at_ 12 rfl
  have q2_12 := HQ2.out.at_ 12 rfl
  have p2_13 := HP2.out.at_ 13 rfl
  have q2_13 := HQ2.out.at_ 13 rfl
  go_wp2_with fail
  refine (eq_Int64S ((H_L0.out.below I_ok HB2.out).more I_ok hz2) ((H'_L0.out.below I_ok HB2.out).more I_ok hz2)).mono ?_
  intro e w3 h
  obtain ⟨rfl, hb⟩ := isB_elim h
  have HP3 := Lib.hid (HP2.out.call hb)
  have HQ3 := Lib.hid (HQ2.out.call hb)
  have HB3 := Lib.hid (HB2.out.trans (hb.mono hz2))
  have hz3 : W.heap.size ≤ w3.heap.size := HB3.out.size
  clear h hb
  clear p2_9 q2_9 p2_10 q2_10 p2_11 q2_11 p2_12 q2_12 p2_13 q2_13
  go_wp2
  all_goals
    go_ret
    exact ⟨rfl, HB3.out⟩


theorem sizeq_TaskS : (R_Task).size = 14 := rfl
set_option maxRecDepth 100000 in
set_option maxHeartbeats 3200000 in
theorem eq_TaskS {L : List (D_Task)} {a a' : Option Addr} {cap cap' : Nat} {W : World} (h : RdSl R_Task W W.heap.size L a cap) (h' : RdSl R_Task W W.heap.size L a' cap') : Calls Try.prog 25 #[.slice a L.length cap, .slice a' L.length cap'] W (IsB true W) := by
  have hn : L.length ≤ 9223372036854775807 := by have h1 := h.1; have h2 := h.2.1; unfold maxLen at h2; omega
  have H := Lib.hid h
  have H' := Lib.hid h'
  clear h h'
  go_enter Try.func25, Try.ntmps25
  go_wp2
  go_loopw [5] (fun i wr => ∃ k : Nat, k ≤ L.length ∧ i = .int .i64 k ∧ Below W.heap.size W wr) (fun i _ => L.length - (intOf i).toNat)
  case atStart => exact ⟨0, Nat.zero_le _, rfl, Below.refl _ _⟩
  case round =>
    obtain ⟨k, hk, rfl, hB⟩ := hrel
    have HB := Lib.hid hB
    have hsz := hB.size
    by_cases hlt : k < L.length
    · obtain ⟨⟨⟨x0, x1⟩, x2, x3, x4, x5, x6, ⟨x7, x8⟩, x9, x10, x11, x12, L0⟩, hx⟩ := el_some hlt
      have HX := Lib.hid hx
      obtain ⟨g, o, us, rfl, hg, hu, hr⟩ := (H.out.below R_Task_ok hB).at_ hx
      obtain ⟨g', o', vs, rfl, hg', hu', hr'⟩ := (H'.out.below R_Task_ok hB).at_ hx
      obtain ⟨a0, c0, rfl, k_L0, b_x3⟩ := rd_Task hr
      obtain ⟨a0', c0', rfl, k'_L0, b'_x3⟩ := rd_Task hr'
      have e0 : wr.cell? ⟨g, o + k * 14, none⟩ = some (.int .i64 x0) := by simpa [sizeq_TaskS, Nat.add_assoc] using hu 0 _ rfl
      have d0 : wr.cell? ⟨g', o' + k * 14, none⟩ = some (.int .i64 x0) := by simpa [sizeq_TaskS, Nat.add_assoc] using hu' 0 _ rfl
      have e1 : wr.cell? ⟨g, o + k * 14 + 1, none⟩ = some (.int .i64 x1) := by simpa [sizeq_TaskS, Nat.add_assoc] using hu 1 _ rfl
      have d1 : wr.cell? ⟨g', o' + k * 14 + 1, none⟩ = some (.int .i64 x1) := by simpa [sizeq_TaskS, Nat.add_assoc] using hu' 1 _ rfl
      have e2 : wr.cell? ⟨g, o + k * 14 + 2, none⟩ = some (.int .i64 x2) := by simpa [sizeq_TaskS, Nat.add_assoc] using hu 2 _ rfl
      have d2 : wr.cell? ⟨g', o' + k * 14 + 2, none⟩ = some (.int .i64 x2) := by simpa [sizeq_TaskS, Nat.add_assoc] using hu' 2 _ rfl
      have e3 : wr.cell? ⟨g, o + k * 14 + 3, none⟩ = some (.string x3) := by simpa [sizeq_TaskS, Nat.add_assoc] using hu 3 _ rfl
      have d3 : wr.cell? ⟨g', o' + k * 14 + 3, none⟩ = some (.string x3) := by simpa [sizeq_TaskS, Nat.add_assoc] using hu' 3 _ rfl
      have e4 : wr.cell? ⟨g, o + k * 14 + 4, none⟩ = some (.int .i64 x4) := by simpa [sizeq_TaskS, Nat.add_assoc] using hu 4 _ rfl
      have d4 : wr.cell? ⟨g', o' + k * 14 + 4, none⟩ = some (.int .i64 x4) := by simpa [sizeq_TaskS, Nat.add_assoc] using hu' 4 _ rfl
      have e5 : wr.cell? ⟨g, o + k * 14 + 5, none⟩ = some (.int .i64 x5) := by simpa [sizeq_TaskS, Nat.add_assoc] using hu 5 _ rfl
      have d5 : wr.cell? ⟨g', o' + k * 14 + 5, none⟩ = some (.int .i64 x5) := by simpa [sizeq_TaskS, Nat.add_assoc] using hu' 5 _ rfl
      have e6 : wr.cell? ⟨g, o + k * 14 + 6, none⟩ = some (.int .i64 x6) := by simpa [sizeq_TaskS, Nat.add_assoc] using hu 6 _ rfl
      have d6 : wr.cell? ⟨g', o' + k * 14 + 6, none⟩ = some (.int .i64 x6) := by simpa [sizeq_TaskS, Nat.add_assoc] using hu' 6 _ rfl
      have e7 : wr.cell? ⟨g, o + k * 14 + 7, none⟩ = some (.int .i64 x7) := by simpa [sizeq_TaskS, Nat.add_assoc] using hu 7 _ rfl
      have d7 : wr.cell? ⟨g', o' + k * 14 + 7, none⟩ = some (.int .i64 x7) := by simpa [sizeq_TaskS, Nat.add_assoc] using hu' 7 _ rfl
      have e8 : wr.cell? ⟨g, o + k * 14 + 8, none⟩ = some (.int .i64 x8) := by simpa [sizeq_TaskS, Nat.add_assoc] using hu 8 _ rfl
      have d8 : wr.cell? ⟨g', o' + k * 14 + 8, none⟩ = some (.int .i64 x8) := by simpa [sizeq_TaskS, Nat.add_assoc] using hu' 8 _ rfl
      have e9 : wr.cell? ⟨g, o + k * 14 + 9, none⟩ = some (.int .i64 x9) := by simpa [sizeq_TaskS, Nat.add_assoc] using hu 9 _ rfl
      have d9 : wr.cell? ⟨g', o' + k * 14 + 9, none⟩ = some (.int .i64 x9) := by simpa [sizeq_TaskS, Nat.add_assoc] using hu' 9 _ rfl
      have e10 : wr.cell? ⟨g, o + k * 14 + 10, none⟩ = some (.int .i64 x10) := by simpa [sizeq_TaskS, Nat.add_assoc] using hu 10 _ rfl
      have d10 : wr.cell? ⟨g', o' + k * 14 + 10, none⟩ = some (.int .i64 x10) := by simpa [sizeq_TaskS, Nat.add_assoc] using hu' 10 _ rfl
      have e11 : wr.cell? ⟨g, o + k * 14 + 11, none⟩ = some (.int .i64 x11) := by simpa [sizeq_TaskS, Nat.add_assoc] using hu 11 _ rfl
      have d11 : wr.cell? ⟨g', o' + k * 14 + 11, none⟩ = some (.int .i64 x11) := by simpa [sizeq_TaskS, Nat.add_assoc] using hu' 11 _ rfl
      have e12 : wr.cell? ⟨g, o + k * 14 + 12, none⟩ = some (.int .i64 x12) := by simpa [sizeq_TaskS, Nat.add_assoc] using hu 12 _ rfl
      have d12 : wr.cell? ⟨g', o' + k * 14 + 12, none⟩ = some (.int .i64 x12) := by simpa [sizeq_TaskS, Nat.add_assoc] using hu' 12 _ rfl
      have e13 : wr.cell? ⟨g, o + k * 14 + 13, none⟩ = some (.slice a0 L0.length c0) := by simpa [sizeq_TaskS, Nat.add_assoc] using hu 13 _ rfl
      have d13 : wr.cell? ⟨g', o' + k * 14 + 13, none⟩ = some (.slice a0' L0.length c0') := by simpa [sizeq_TaskS, Nat.add_assoc] using hu' 13 _ rfl
      have hi0 : (0 : Int) ≤ (k : Int) := Int.natCast_nonneg _
      have hi1 : (k : Int) < (L.length : Int) := by omega
      have hgl : g < wr.heap.size := Nat.lt_of_lt_of_le hg hsz
      have hgl' : g' < wr.heap.size := Nat.lt_of_lt_of_le hg' hsz
      have K_L0 := Lib.hid (k_L0.more I_ok hsz)
      have K'_L0 := Lib.hid (k'_L0.more I_ok hsz)
      clear hB hx hu hu' k_L0 k'_L0
      go_wp2_with fail
      refine wp_region_held_drew (S := (fun W => W.cell? ⟨g, o + k * 14, none⟩ = some (.int .i64 x0) ∧ W.cell? ⟨g, o + k * 14 + 1, none⟩ = some (.int .i64 x1) ∧ W.cell? ⟨g, o + k * 14 + 2, none⟩ = some (.int .i64 x2) ∧ W.cell? ⟨g, o + k * 14 + 3, none⟩ = some (.string x3) ∧ W.cell? ⟨g, o + k * 14 + 4, none⟩ = some (.int .i64 x4) ∧ W.cell? ⟨g, o + k * 14 + 5, none⟩ = some (.int .i64 x5) ∧ W.cell? ⟨g, o + k * 14 + 6, none⟩ = some (.int .i64 x6) ∧ W.cell? ⟨g, o + k * 14 + 7, none⟩ = some (.int .i64 x7) ∧ W.cell? ⟨g, o + k * 14 + 8, none⟩ = some (.int .i64 x8) ∧ W.cell? ⟨g, o + k * 14 + 9, none⟩ = some (.int .i64 x9) ∧ W.cell? ⟨g, o + k * 14 + 10, none⟩ = some (.int .i64 x10) ∧ W.cell? ⟨g, o + k * 14 + 11, none⟩ = some (.int .i64 x11) ∧ W.cell? ⟨g, o + k * 14 + 12, none⟩ = some (.int .i64 x12) ∧ W.cell? ⟨g, o + k * 14 + 13, none⟩ = some (.slice a0 L0.length c0) ∧ W.cell? ⟨g', o' + k * 14, none⟩ = some (.int .i64 x0) ∧ W.cell? ⟨g', o' + k * 14 + 1, none⟩ = some (.int .i64 x1) ∧ W.cell? ⟨g', o' + k * 14 + 2, none⟩ = some (.int .i64 x2) ∧ W.cell? ⟨g', o' + k * 14 + 3, none⟩ = some (.string x3) ∧ W.cell? ⟨g', o' + k * 14 + 4, none⟩ = some (.int .i64 x4) ∧ W.cell? ⟨g', o' + k * 14 + 5, none⟩ = some (.int .i64 x5) ∧ W.cell? ⟨g', o' + k * 14 + 6, none⟩ = some (.int .i64 x6) ∧ W.cell? ⟨g', o' + k * 14 + 7, none⟩ = some (.int .i64 x7) ∧ W.cell? ⟨g', o' + k * 14 + 8, none⟩ = some (.int .i64 x8) ∧ W.cell? ⟨g', o' + k * 14 + 9, none⟩ = some (.int .i64 x9) ∧ W.cell? ⟨g', o' + k * 14 + 10, none⟩ = some (.int .i64 x10) ∧ W.cell? ⟨g', o' + k * 14 + 11, none⟩ = some (.int .i64 x11) ∧ W.cell? ⟨g', o' + k * 14 + 12, none⟩ = some (.int .i64 x12) ∧ W.cell? ⟨g', o' + k * 14 + 13, none⟩ = some (.slice a0' L0.length c0') ∧ wr.heap.size ≤ W.heap.size ∧ Below wr.heap.size wr W)) (by kernel_rfl) (⟨e0, e1, e2, e3, e4, e5, e6, e7, e8, e9, e10, e11, e12, e13, d0, d1, d2, d3, d4, d5, d6, d7, d8, d9, d10, d11, d12, d13, Nat.le_refl _, (Below.refl _ _).drew⟩) (fun hHeld => ?_)
      refine wpAnyH_take (i := 0) (v := ?hv1) rfl (by kernel_rfl) (by kernel_rfl) (by kernel_rfl) (fun _ _ _ h => h) (Or.inl ⟨by kernel_rfl, ?hy1⟩) hHeld ?hr1
      case hy1 => (intro w hSw; (try dsimp only at hSw); go_simp; try with_reducible rfl)
      refine wpAnyH_take (i := 1) (v := ?hv2) rfl (by kernel_rfl) (by kernel_rfl) (by kernel_rfl) (fun _ _ _ h => h) (Or.inl ⟨by kernel_rfl, ?hy2⟩) hHeld ?hr2
      case hy2 => (intro w hSw; (try dsimp only at hSw); go_simp; try with_reducible rfl)
      refine wpAnyH_take (i := 2) (v := ?hv3) rfl (by kernel_rfl) (by kernel_rfl) (by kernel_rfl) (fun _ _ _ h => h) (Or.inl ⟨by kernel_rfl, ?hy3⟩) hHeld ?hr3
      case hy3 => (intro w hSw; (try dsimp only at hSw); go_simp; try with_reducible rfl)
      refine wpAnyH_take (i := 3) (v := ?hv4) rfl (by kernel_rfl) (by kernel_rfl) (by kernel_rfl) (fun _ _ _ h => h) (Or.inl ⟨by kernel_rfl, ?hy4⟩) hHeld ?hr4
      case hy4 => (intro w hSw; (try dsimp only at hSw); go_simp; try with_reducible rfl)
      refine wpAnyH_take (i := 4) (v := ?hv5) rfl (by kernel_rfl) (by kernel_rfl) (by kernel_rfl) (fun _ _ _ h => h) (Or.inl ⟨by kernel_rfl, ?hy5⟩) hHeld ?hr5
      case hy5 => (intro w hSw; (try dsimp only at hSw); go_simp; try with_reducible rfl)
      refine wpAnyH_take (i := 5) (v := ?hv6) rfl (by kernel_rfl) (by kernel_rfl) (by kernel_rfl) (fun _ _ _ h => h) (Or.inl ⟨by kernel_rfl, ?hy6⟩) hHeld ?hr6
      case hy6 => (intro w hSw; (try dsimp only at hSw); go_simp; try with_reducible rfl)
      refine wpAnyH_take (i := 6) (v := ?hv7) rfl (by kernel_rfl) (by kernel_rfl) (by kernel_rfl) (fun _ _ _ h => h) (Or.inl ⟨by kernel_rfl, ?hy7⟩) hHeld ?hr7
      case hy7 => (intro w hSw; (try dsimp only at hSw); go_simp; try with_reducible rfl)
      refine wpAnyH_take (i := 7) (v := ?hv8) rfl (by kernel_rfl) (by kernel_rfl) (by kernel_rfl) (fun _ _ _ h => h) (Or.inl ⟨by kernel_rfl, ?hy8⟩) hHeld ?hr8
      case hy8 => (intro w hSw; (try dsimp only at hSw); go_simp; try with_reducible rfl)
      refine rd1 8 (fun K hK => ?_)
      go_simp
      refine (eq_Task ((K_L0.out.below I_ok (by exact hHeld.2.2.2.2.2.2.2.2.2.2.2.2.2.2.2.2.2.2.2.2.2.2.2.2.2.2.2.2.2)).more I_ok (by exact hHeld.2.2.2.2.2.2.2.2.2.2.2.2.2.2.2.2.2.2.2.2.2.2.2.2.2.2.2.2.1)) ((K'_L0.out.below I_ok (by exact hHeld.2.2.2.2.2.2.2.2.2.2.2.2.2.2.2.2.2.2.2.2.2.2.2.2.2.2.2.2.2)).more I_ok (by exact hHeld.2.2.2.2.2.2.2.2.2.2.2.2.2.2.2.2.2.2.2.2.2.2.2.2.2.2.2.2.1))).mono ?_
      intro e w1 h
      obtain ⟨rfl, hb⟩ := isB_elim h
      refine hK.out _ _ (⟨(hb.cell (p := ⟨g, o + k * 14, none⟩) (Nat.lt_of_lt_of_le hgl hHeld.2.2.2.2.2.2.2.2.2.2.2.2.2.2.2.2.2.2.2.2.2.2.2.2.2.2.2.2.1)).trans hHeld.1, (hb.cell (p := ⟨g, o + k * 14 + 1, none⟩) (Nat.lt_of_lt_of_le hgl hHeld.2.2.2.2.2.2.2.2.2.2.2.2.2.2.2.2.2.2.2.2.2.2.2.2.2.2.2.2.1)).trans hHeld.2.1, (hb.cell (p := ⟨g, o + k * 14 + 2, none⟩) (Nat.lt_of_lt_of_le hgl hHeld.2.2.2.2.2.2.2.2.2.2.2.2.2.2.2.2.2.2.2.2.2.2.2.2.2.2.2.2.1)).trans hHeld.2.2.1, (hb.cell (p := ⟨g, o + k * 14 + 3, none⟩) (Nat.lt_of_lt_of_le hgl hHeld.2.2.2.2.2.2.2.2.2.2.2.2.2.2.2.2.2.2.2.2.2.2.2.2.2.2.2.2.1)).trans hHeld.2.2.2.1, (hb.cell (p := ⟨g, o + k * 14 + 4, none⟩) (Nat.lt_of_lt_of_le hgl hHeld.2.2.2.2.2.2.2.2.2.2.2.2.2.2.2.2.2.2.2.2.2.2.2.2.2.2.2.2.1)).trans hHeld.2.2.2.2.1, (hb.cell (p := ⟨g, o + k * 14 + 5, none⟩) (Nat.lt_of_lt_of_le hgl hHeld.2.2.2.2.2.2.2.2.2.2.2.2.2.2.2.2.2.2.2.2.2.2.2.2.2.2.2.2.1)).trans hHeld.2.2.2.2.2.1, (hb.cell (p := ⟨g, o + k * 14 + 6, none⟩) (Nat.lt_of_lt_of_le hgl hHeld.2.2.2.2.2.2.2.2.2.2.2.2.2.2.2.2.2.2.2.2.2.2.2.2.2.2.2.2.1)).trans hHeld.2.2.2.2.2.2.1, (hb.cell (p := ⟨g, o + k * 14 + 7, none⟩) (Nat.lt_of_lt_of_le hgl hHeld.2.2.2.2.2.2.2.2.2.2.2.2.2.2.2.2.2.2.2.2.2.2.2.2.2.2.2.2.1)).trans hHeld.2.2.2.2.2.2.2.1, (hb.cell (p := ⟨g, o + k * 14 + 8, none⟩) (Nat.lt_of_lt_of_le hgl hHeld.2.2.2.2.2.2.2.2.2.2.2.2.2.2.2.2.2.2.2.2.2.2.2.2.2.2.2.2.1)).trans hHeld.2.2.2.2.2.2.2.2.1, (hb.cell (p := ⟨g, o + k * 14 + 9, none⟩) (Nat.lt_of_lt_of_le hgl hHeld.2.2.2.2.2.2.2.2.2.2.2.2.2.2.2.2.2.2.2.2.2.2.2.2.2.2.2.2.1)).trans hHeld.2.2.2.2.2.2.2.2.2.1, (hb.cell (p := ⟨g, o + k * 14 + 10, none⟩) (Nat.lt_of_lt_of_le hgl hHeld.2.2.2.2.2.2.2.2.2.2.2.2.2.2.2.2.2.2.2.2.2.2.2.2.2.2.2.2.1)).trans hHeld.2.2.2.2.2.2.2.2.2.2.1, (hb.cell (p := ⟨g, o + k * 14 + 11, none⟩) (Nat.lt_of_lt_of_le hgl hHeld.2.2.2.2.2.2.2.2.2.2.2.2.2.2.2.2.2.2.2.2.2.2.2.2.2.2.2.2.1)).trans hHeld.2.2.2.2.2.2.2.2.2.2.2.1, (hb.cell (p := ⟨g, o + k * 14 + 12, none⟩) (Nat.lt_of_lt_of_le hgl hHeld.2.2.2.2.2.2.2.2.2.2.2.2.2.2.2.2.2.2.2.2.2.2.2.2.2.2.2.2.1)).trans hHeld.2.2.2.2.2.2.2.2.2.2.2.2.1, (hb.cell (p := ⟨g, o + k * 14 + 13, none⟩) (Nat.lt_of_lt_of_le hgl hHeld.2.2.2.2.2.2.2.2.2.2.2.2.2.2.2.2.2.2.2.2.2.2.2.2.2.2.2.2.1)).trans hHeld.2.2.2.2.2.2.2.2.2.2.2.2.2.1, (hb.cell (p := ⟨g', o' + k * 14, none⟩) (Nat.lt_of_lt_of_le hgl' hHeld.2.2.2.2.2.2.2.2.2.2.2.2.2.2.2.2.2.2.2.2.2.2.2.2.2.2.2.2.1)).trans hHeld.2.2.2.2.2.2.2.2.2.2.2.2.2.2.1, (hb.cell (p := ⟨g', o' + k * 14 + 1, none⟩) (Nat.lt_of_lt_of_le hgl' hHeld.2.2.2.2.2.2.2.2.2.2.2.2.2.2.2.2.2.2.2.2.2.2.2.2.2.2.2.2.1)).trans hHeld.2.2.2.2.2.2.2.2.2.2.2.2.2.2.2.1, (hb.cell (p := ⟨g', o' + k * 14 + 2, none⟩) (Nat.lt_of_lt_of_le hgl' hHeld.2.2.2.2.2.2.2.2.2.2.2.2.2.2.2.2.2.2.2.2.2.2.2.2.2.2.2.2.1)).trans hHeld.2.2.2.2.2.2.2.2.2.2.2.2.2.2.2.2.1, (hb.cell (p := ⟨g', o' + k * 14 + 3, none⟩) (Nat.lt_of_lt_of_le hgl' hHeld.2.2.2.2.2.2.2.2.2.2.2.2.2.2.2.2.2.2.2.2.2.2.2.2.2.2.2.2.1)).trans hHeld.2.2.2.2.2.2.2.2.2.2.2.2.2.2.2.2.2.1, (hb.cell (p := ⟨g', o' + k * 14 + 4, none⟩) (Nat.lt_of_lt_of_le hgl' hHeld.2.2.2.2.2.2.2.2.2.2.2.2.2.2.2.2.2.2.2.2.2.2.2.2.2.2.2.2.1)).trans hHeld.2.2.2.2.2.2.2.2.2.2.2.2.2.2.2.2.2.2.1, (hb.cell (p := ⟨g', o' + k * 14 + 5, none⟩) (Nat.lt_of_lt_of_le hgl' hHeld.2.2.2.2.2.2.2.2.2.2.2.2.2.2.2.2.2.2.2.2.2.2.2.2.2.2.2.2.1)).trans hHeld.2.2.2.2.2.2.2.2.2.2.2.2.2.2.2.2.2.2.2.1, (hb.cell (p := ⟨g', o' + k * 14 + 6, none⟩) (Nat.lt_of_lt_of_le hgl' hHeld.2.2.2.2.2.2.2.2.2.2.2.2.2.2.2.2.2.2.2.2.2.2.2.2.2.2.2.2.1)).trans hHeld.2.2.2.2.2.2.2.2.2.2.2.2.2.2.2.2.2.2.2.2.1, (hb.cell (p := ⟨g', o' + k * 14 + 7, none⟩) (Nat.lt_of_lt_of_le hgl' hHeld.2.2.2.2.2.2.2.2.2.2.2.2.2.2.2.2.2.2.2.2.2.2.2.2.2.2.2.2.1)).trans hHeld.2.2.2.2.2.2.2.2.2.2.2.2.2.2.2.2.2.2.2.2.2.1, (hb.cell (p := ⟨g', o' + k * 14 + 8, none⟩) (Nat.lt_of_lt_of_le hgl' hHeld.2.2.2.2.2.2.2.2.2.2.2.2.2.2.2.2.2.2.2.2.2.2.2.2.2.2.2.2.1)).trans hHeld.2.2.2.2.2.2.2.2.2.2.2.2.2.2.2.2.2.2.2.2.2.2.1, (hb.cell (p := ⟨g', o' + k * 14 + 9, none⟩) (Nat.lt_of_lt_of_le hgl' hHeld.2.2.2.2.2.2.2.2.2.2.2.2.2.2.2.2.2.2.2.2.2.2.2.2.2.2.2.2.1)).trans hHeld.2.2.2.2.2.2.2.2.2.2.2.2.2.2.2.2.2.2.2.2.2.2.2.1, (hb.cell (p := ⟨g', o' + k * 14 + 10, none⟩) (Nat.lt_of_lt_of_le hgl' hHeld.2.2.2.2.2.2.2.2.2.2.2.2.2.2.2.2.2.2.2.2.2.2.2.2.2.2.2.2.1)).trans hHeld.2.2.2.2.2.2.2.2.2.2.2.2.2.2.2.2.2.2.2.2.2.2.2.2.1, (hb.cell (p := ⟨g', o' + k * 14 + 11, none⟩) (Nat.lt_of_lt_of_le hgl' hHeld.2.2.2.2.2.2.2.2.2.2.2.2.2.2.2.2.2.2.2.2.2.2.2.2.2.2.2.2.1)).trans hHeld.2.2.2.2.2.2.2.2.2.2.2.2.2.2.2.2.2.2.2.2.2.2.2.2.2.1, (hb.cell (p := ⟨g', o' + k * 14 + 12, none⟩) (Nat.lt_of_lt_of_le hgl' hHeld.2.2.2.2.2.2.2.2.2.2.2.2.2.2.2.2.2.2.2.2.2.2.2.2.2.2.2.2.1)).trans hHeld.2.2.2.2.2.2.2.2.2.2.2.2.2.2.2.2.2.2.2.2.2.2.2.2.2.2.1, (hb.cell (p := ⟨g', o' + k * 14 + 13, none⟩) (Nat.lt_of_lt_of_le hgl' hHeld.2.2.2.2.2.2.2.2.2.2.2.2.2.2.2.2.2.2.2.2.2.2.2.2.2.2.2.2.1)).trans hHeld.2.2.2.2.2.2.2.2.2.2.2.2.2.2.2.2.2.2.2.2.2.2.2.2.2.2.2.1, Nat.le_trans hHeld.2.2.2.2.2.2.2.2.2.2.2.2.2.2.2.2.2.2.2.2.2.2.2.2.2.2.2.2.1 hb.size, hHeld.2.2.2.2.2.2.2.2.2.2.2.2.2.2.2.2.2.2.2.2.2.2.2.2.2.2.2.2.2.trans (hb.mono hHeld.2.2.2.2.2.2.2.2.2.2.2.2.2.2.2.2.2.2.2.2.2.2.2.2.2.2.2.2.1)⟩) (fun hHeld => ?_)
      clear hK K h
      refine tk 9 hHeld ?_
      refine rd0 ?_
      have HB2 := Lib.hid (HB.out.trans (hHeld.2.2.2.2.2.2.2.2.2.2.2.2.2.2.2.2.2.2.2.2.2.2.2.2.2.2.2.2.2.mono hsz))
      clear hHeld
      go_wp2
      go_roundw
      case rel => exact ⟨k + 1, by omega, by go_num, HB2.out⟩
      case measure => simp [intOf]; omega
    · clear hB
      go_wp2
      go_ret
      exact ⟨rfl, HB.out⟩

end Go.Proofs.Ytmmnkdilnlhbfaa.RepC
