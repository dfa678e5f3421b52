/- The laws' data: contracts. -/
import Derived.Test.YtelhmacfljffhaaTk
import Derived.Test.YtelhmacfljffhaaJobT
import Derived.Test.YtelhmacfljffhaaMkT
namespace Go.Proofs.Ytelhmacfljffhaa.RepC
open Go.RowKit RowC ValC
set_option linter.unusedVariables false
set_option linter.unusedSimpArgs false

abbrev D_Task : Type := (D_Label) × (Int) × (ByteArray) × (Int) × (Int) × (Int) × (D_Label) × (Int) × (Int) × (Int) × (Int) × (List (Int))
def R_Task : Rp D_Task := (Pr R_Label (Pr I (Pr St (Pr I (Pr I (Pr I (Pr R_Label (Pr I (Pr I (Pr I (Pr I (Sl I))))))))))))
theorem R_Task_ok : Ok R_Task := (Pr_ok R_Label_ok (Pr_ok I_ok (Pr_ok St_ok (Pr_ok I_ok (Pr_ok I_ok (Pr_ok I_ok (Pr_ok R_Label_ok (Pr_ok I_ok (Pr_ok I_ok (Pr_ok I_ok (Pr_ok I_ok (Sl_ok I_ok))))))))))))
theorem rd_Task {W : World} {B : Nat} {x0 : Int} {x1 : Int} {x2 : Int} {x3 : ByteArray} {x4 : Int} {x5 : Int} {x6 : Int} {x7 : Int} {x8 : Int} {x9 : Int} {x10 : Int} {x11 : Int} {x12 : Int} {L0 : List (Int)} {cs : List Value} (h : R_Task.rd W B ((x0, x1), x2, x3, x4, x5, x6, (x7, x8), x9, x10, x11, x12, L0) cs) : ∃ a0 c0, cs = [.int .i64 x0, .int .i64 x1, .int .i64 x2, .string x3, .int .i64 x4, .int .i64 x5, .int .i64 x6, .int .i64 x7, .int .i64 x8, .int .i64 x9, .int .i64 x10, .int .i64 x11, .int .i64 x12, .slice a0 L0.length c0] ∧ RdSl I W B L0 a0 c0 ∧ x3.size ≤ maxLen := by
  obtain ⟨u1, v1, rfl, h1, g1⟩ := h
  obtain ⟨u2, v2, rfl, h2, g2⟩ := h1
  obtain rfl : u2 = [_] := h2
  obtain rfl : v2 = [_] := g2
  obtain ⟨u3, v3, rfl, h3, g3⟩ := g1
  obtain rfl : u3 = [_] := h3
  obtain ⟨u4, v4, rfl, h4, g4⟩ := g3
  obtain ⟨hq_x3, b_x3⟩ := h4
  obtain rfl : u4 = [_] := hq_x3
  obtain ⟨u5, v5, rfl, h5, g5⟩ := g4
  obtain rfl : u5 = [_] := h5
  obtain ⟨u6, v6, rfl, h6, g6⟩ := g5
  obtain rfl : u6 = [_] := h6
  obtain ⟨u7, v7, rfl, h7, g7⟩ := g6
  obtain rfl : u7 = [_] := h7
  obtain ⟨u8, v8, rfl, h8, g8⟩ := g7
  obtain ⟨u9, v9, rfl, h9, g9⟩ := h8
  obtain rfl : u9 = [_] := h9
  obtain rfl : v9 = [_] := g9
  obtain ⟨u10, v10, rfl, h10, g10⟩ := g8
  obtain rfl : u10 = [_] := h10
  obtain ⟨u11, v11, rfl, h11, g11⟩ := g10
  obtain rfl : u11 = [_] := h11
  obtain ⟨u12, v12, rfl, h12, g12⟩ := g11
  obtain rfl : u12 = [_] := h12
  obtain ⟨u13, v13, rfl, h13, g13⟩ := g12
  obtain rfl : u13 = [_] := h13
  obtain ⟨a0, c0, rfl, k_L0⟩ := g13
  exact ⟨a0, c0, rfl, k_L0, b_x3⟩
theorem mkrd_Task {W : World} {B : Nat} {x0 : Int} {x1 : Int} {x2 : Int} {x3 : ByteArray} {x4 : Int} {x5 : Int} {x6 : Int} {x7 : Int} {x8 : Int} {x9 : Int} {x10 : Int} {x11 : Int} {x12 : Int} {L0 : List (Int)} {a0 : Option Addr} {c0 : Nat} (h_L0 : RdSl I W B L0 a0 c0) (b_x3 : x3.size ≤ maxLen) : R_Task.rd W B ((x0, x1), x2, x3, x4, x5, x6, (x7, x8), x9, x10, x11, x12, L0) [.int .i64 x0, .int .i64 x1, .int .i64 x2, .string x3, .int .i64 x4, .int .i64 x5, .int .i64 x6, .int .i64 x7, .int .i64 x8, .int .i64 x9, .int .i64 x10, .int .i64 x11, .int .i64 x12, .slice a0 L0.length c0] := ⟨[.int .i64 x0, .int .i64 x1], [.int .i64 x2, .string x3, .int .i64 x4, .int .i64 x5, .int .i64 x6, .int .i64 x7, .int .i64 x8, .int .i64 x9, .int .i64 x10, .int .i64 x11, .int .i64 x12, .slice a0 L0.length c0], rfl, ⟨[.int .i64 x0], [.int .i64 x1], rfl, rfl, rfl⟩, ⟨[.int .i64 x2], [.string x3, .int .i64 x4, .int .i64 x5, .int .i64 x6, .int .i64 x7, .int .i64 x8, .int .i64 x9, .int .i64 x10, .int .i64 x11, .int .i64 x12, .slice a0 L0.length c0], rfl, rfl, ⟨[.string x3], [.int .i64 x4, .int .i64 x5, .int .i64 x6, .int .i64 x7, .int .i64 x8, .int .i64 x9, .int .i64 x10, .int .i64 x11, .int .i64 x12, .slice a0 L0.length c0], rfl, ⟨rfl, b_x3⟩, ⟨[.int .i64 x4], [.int .i64 x5, .int .i64 x6, .int .i64 x7, .int .i64 x8, .int .i64 x9, .int .i64 x10, .int .i64 x11, .int .i64 x12, .slice a0 L0.length c0], rfl, rfl, ⟨[.int .i64 x5], [.int .i64 x6, .int .i64 x7, .int .i64 x8, .int .i64 x9, .int .i64 x10, .int .i64 x11, .int .i64 x12, .slice a0 L0.length c0], rfl, rfl, ⟨[.int .i64 x6], [.int .i64 x7, .int .i64 x8, .int .i64 x9, .int .i64 x10, .int .i64 x11, .int .i64 x12, .slice a0 L0.length c0], rfl, rfl, ⟨[.int .i64 x7, .int .i64 x8], [.int .i64 x9, .int .i64 x10, .int .i64 x11, .int .i64 x12, .slice a0 L0.length c0], rfl, ⟨[.int .i64 x7], [.int .i64 x8], rfl, rfl, rfl⟩, ⟨[.int .i64 x9], [.int .i64 x10, .int .i64 x11, .int .i64 x12, .slice a0 L0.length c0], rfl, rfl, ⟨[.int .i64 x10], [.int .i64 x11, .int .i64 x12, .slice a0 L0.length c0], rfl, rfl, ⟨[.int .i64 x11], [.int .i64 x12, .slice a0 L0.length c0], rfl, rfl, ⟨[.int .i64 x12], [.slice a0 L0.length c0], rfl, rfl, ⟨a0, c0, rfl, h_L0⟩⟩⟩⟩⟩⟩⟩⟩⟩⟩⟩⟩
theorem mkow_Task {W : World} {S : Nat → Prop} {x0 : Int} {x1 : Int} {x2 : Int} {x3 : ByteArray} {x4 : Int} {x5 : Int} {x6 : Int} {x7 : Int} {x8 : Int} {x9 : Int} {x10 : Int} {x11 : Int} {x12 : Int} {L0 : List (Int)} {a0 : Option Addr} {c0 : Nat} {T0 : Nat → Prop} (hs0 : ∀ k, T0 k → S k) (h_L0 : OwSl I W T0 L0 a0 c0) (b_x3 : x3.size ≤ maxLen) : R_Task.ow W S ((x0, x1), x2, x3, x4, x5, x6, (x7, x8), x9, x10, x11, x12, L0) [.int .i64 x0, .int .i64 x1, .int .i64 x2, .string x3, .int .i64 x4, .int .i64 x5, .int .i64 x6, .int .i64 x7, .int .i64 x8, .int .i64 x9, .int .i64 x10, .int .i64 x11, .int .i64 x12, .slice a0 L0.length c0] := ⟨[.int .i64 x0, .int .i64 x1], [.int .i64 x2, .string x3, .int .i64 x4, .int .i64 x5, .int .i64 x6, .int .i64 x7, .int .i64 x8, .int .i64 x9, .int .i64 x10, .int .i64 x11, .int .i64 x12, .slice a0 L0.length c0], (fun _ => False), T0, rfl, (fun k h => h.elim), (fun k h => hs0 k h), (fun k h h' => h.elim), ⟨[.int .i64 x0], [.int .i64 x1], (fun _ => False), (fun _ => False), rfl, (fun k h => h.elim), (fun k h => h.elim), (fun k h h' => h.elim), rfl, rfl⟩, ⟨[.int .i64 x2], [.string x3, .int .i64 x4, .int .i64 x5, .int .i64 x6, .int .i64 x7, .int .i64 x8, .int .i64 x9, .int .i64 x10, .int .i64 x11, .int .i64 x12, .slice a0 L0.length c0], (fun _ => False), T0, rfl, (fun k h => h.elim), (fun k h => h), (fun k h h' => h.elim), rfl, ⟨[.string x3], [.int .i64 x4, .int .i64 x5, .int .i64 x6, .int .i64 x7, .int .i64 x8, .int .i64 x9, .int .i64 x10, .int .i64 x11, .int .i64 x12, .slice a0 L0.length c0], (fun _ => False), T0, rfl, (fun k h => h.elim), (fun k h => h), (fun k h h' => h.elim), ⟨rfl, b_x3⟩, ⟨[.int .i64 x4], [.int .i64 x5, .int .i64 x6, .int .i64 x7, .int .i64 x8, .int .i64 x9, .int .i64 x10, .int .i64 x11, .int .i64 x12, .slice a0 L0.length c0], (fun _ => False), T0, rfl, (fun k h => h.elim), (fun k h => h), (fun k h h' => h.elim), rfl, ⟨[.int .i64 x5], [.int .i64 x6, .int .i64 x7, .int .i64 x8, .int .i64 x9, .int .i64 x10, .int .i64 x11, .int .i64 x12, .slice a0 L0.length c0], (fun _ => False), T0, rfl, (fun k h => h.elim), (fun k h => h), (fun k h h' => h.elim), rfl, ⟨[.int .i64 x6], [.int .i64 x7, .int .i64 x8, .int .i64 x9, .int .i64 x10, .int .i64 x11, .int .i64 x12, .slice a0 L0.length c0], (fun _ => False), T0, rfl, (fun k h => h.elim), (fun k h => h), (fun k h h' => h.elim), rfl, ⟨[.int .i64 x7, .int .i64 x8], [.int .i64 x9, .int .i64 x10, .int .i64 x11, .int .i64 x12, .slice a0 L0.length c0], (fun _ => False), T0, rfl, (fun k h => h.elim), (fun k h => h), (fun k h h' => h.elim), ⟨[.int .i64 x7], [.int .i64 x8], (fun _ => False), (fun _ => False), rfl, (fun k h => h.elim), (fun k h => h.elim), (fun k h h' => h.elim), rfl, rfl⟩, ⟨[.int .i64 x9], [.int .i64 x10, .int .i64 x11, .int .i64 x12, .slice a0 L0.length c0], (fun _ => False), T0, rfl, (fun k h => h.elim), (fun k h => h), (fun k h h' => h.elim), rfl, ⟨[.int .i64 x10], [.int .i64 x11, .int .i64 x12, .slice a0 L0.length c0], (fun _ => False), T0, rfl, (fun k h => h.elim), (fun k h => h), (fun k h h' => h.elim), rfl, ⟨[.int .i64 x11], [.int .i64 x12, .slice a0 L0.length c0], (fun _ => False), T0, rfl, (fun k h => h.elim), (fun k h => h), (fun k h h' => h.elim), rfl, ⟨[.int .i64 x12], [.slice a0 L0.length c0], (fun _ => False), T0, rfl, (fun k h => h.elim), (fun k h => h), (fun k h h' => h.elim), rfl, ⟨a0, c0, rfl, h_L0⟩⟩⟩⟩⟩⟩⟩⟩⟩⟩⟩⟩
theorem ow_Task {W : World} {S : Nat → Prop} {x0 : Int} {x1 : Int} {x2 : Int} {x3 : ByteArray} {x4 : Int} {x5 : Int} {x6 : Int} {x7 : Int} {x8 : Int} {x9 : Int} {x10 : Int} {x11 : Int} {x12 : Int} {L0 : List (Int)} {cs : List Value} (h : R_Task.ow W S ((x0, x1), x2, x3, x4, x5, x6, (x7, x8), x9, x10, x11, x12, L0) cs) : ∃ a0 c0, ∃ T0 : Nat → Prop, cs = [.int .i64 x0, .int .i64 x1, .int .i64 x2, .string x3, .int .i64 x4, .int .i64 x5, .int .i64 x6, .int .i64 x7, .int .i64 x8, .int .i64 x9, .int .i64 x10, .int .i64 x11, .int .i64 x12, .slice a0 L0.length c0] ∧ (∀ k, T0 k → S k) ∧ OwSl I W T0 L0 a0 c0 ∧ x3.size ≤ maxLen := by
  obtain ⟨u1, v1, A1, B1, rfl, sa1, sb1, dd1, h1, g1⟩ := h
  obtain ⟨u2, v2, A2, B2, rfl, sa2, sb2, dd2, h2, g2⟩ := h1
  obtain rfl : u2 = [_] := h2
  obtain rfl : v2 = [_] := g2
  obtain ⟨u3, v3, A3, B3, rfl, sa3, sb3, dd3, h3, g3⟩ := g1
  obtain rfl : u3 = [_] := h3
  obtain ⟨u4, v4, A4, B4, rfl, sa4, sb4, dd4, h4, g4⟩ := g3
  obtain ⟨hq_x3, b_x3⟩ := h4
  obtain rfl : u4 = [_] := hq_x3
  obtain ⟨u5, v5, A5, B5, rfl, sa5, sb5, dd5, h5, g5⟩ := g4
  obtain rfl : u5 = [_] := h5
  obtain ⟨u6, v6, A6, B6, rfl, sa6, sb6, dd6, h6, g6⟩ := g5
  obtain rfl : u6 = [_] := h6
  obtain ⟨u7, v7, A7, B7, rfl, sa7, sb7, dd7, h7, g7⟩ := g6
  obtain rfl : u7 = [_] := h7
  obtain ⟨u8, v8, A8, B8, rfl, sa8, sb8, dd8, h8, g8⟩ := g7
  obtain ⟨u9, v9, A9, B9, rfl, sa9, sb9, dd9, h9, g9⟩ := h8
  obtain rfl : u9 = [_] := h9
  obtain rfl : v9 = [_] := g9
  obtain ⟨u10, v10, A10, B10, rfl, sa10, sb10, dd10, h10, g10⟩ := g8
  obtain rfl : u10 = [_] := h10
  obtain ⟨u11, v11, A11, B11, rfl, sa11, sb11, dd11, h11, g11⟩ := g10
  obtain rfl : u11 = [_] := h11
  obtain ⟨u12, v12, A12, B12, rfl, sa12, sb12, dd12, h12, g12⟩ := g11
  obtain rfl : u12 = [_] := h12
  obtain ⟨u13, v13, A13, B13, rfl, sa13, sb13, dd13, h13, g13⟩ := g12
  obtain rfl : u13 = [_] := h13
  obtain ⟨a0, c0, rfl, k_L0⟩ := g13
  exact ⟨a0, c0, B13, rfl, fun k h => sb1 k (sb3 k (sb4 k (sb5 k (sb6 k (sb7 k (sb8 k (sb10 k (sb11 k (sb12 k (sb13 k (h))))))))))), k_L0, b_x3⟩

abbrev D_TaskOut : Type := (D_Task) × (Int) × (Int)
def R_TaskOut : Rp D_TaskOut := (Pr R_Task (Pr I I))
theorem R_TaskOut_ok : Ok R_TaskOut := (Pr_ok R_Task_ok (Pr_ok I_ok I_ok))
theorem rd_TaskOut {W : World} {B : Nat} {x0 : Int} {x1 : Int} {x2 : Int} {x3 : ByteArray} {x4 : Int} {x5 : Int} {x6 : Int} {x7 : Int} {x8 : Int} {x9 : Int} {x10 : Int} {x11 : Int} {x12 : Int} {L0 : List (Int)} {x14 : Int} {x15 : Int} {cs : List Value} (h : R_TaskOut.rd W B (((x0, x1), x2, x3, x4, x5, x6, (x7, x8), x9, x10, x11, x12, L0), x14, x15) cs) : ∃ a0 c0, cs = [.int .i64 x0, .int .i64 x1, .int .i64 x2, .string x3, .int .i64 x4, .int .i64 x5, .int .i64 x6, .int .i64 x7, .int .i64 x8, .int .i64 x9, .int .i64 x10, .int .i64 x11, .int .i64 x12, .slice a0 L0.length c0, .int .i64 x14, .int .i64 x15] ∧ RdSl I W B L0 a0 c0 ∧ x3.size ≤ maxLen := by
  obtain ⟨u1, v1, rfl, h1, g1⟩ := h
  obtain ⟨u2, v2, rfl, h2, g2⟩ := h1
  obtain ⟨u3, v3, rfl, h3, g3⟩ := h2
  obtain rfl : u3 = [_] := h3
  obtain rfl : v3 = [_] := g3
  obtain ⟨u4, v4, rfl, h4, g4⟩ := g2
  obtain rfl : u4 = [_] := h4
  obtain ⟨u5, v5, rfl, h5, g5⟩ := g4
  obtain ⟨hq_x3, b_x3⟩ := h5
  obtain rfl : u5 = [_] := hq_x3
  obtain ⟨u6, v6, rfl, h6, g6⟩ := g5
  obtain rfl : u6 = [_] := h6
  obtain ⟨u7, v7, rfl, h7, g7⟩ := g6
  obtain rfl : u7 = [_] := h7
  obtain ⟨u8, v8, rfl, h8, g8⟩ := g7
  obtain rfl : u8 = [_] := h8
  obtain ⟨u9, v9, rfl, h9, g9⟩ := g8
  obtain ⟨u10, v10, rfl, h10, g10⟩ := h9
  obtain rfl : u10 = [_] := h10
  obtain rfl : v10 = [_] := g10
  obtain ⟨u11, v11, rfl, h11, g11⟩ := g9
  obtain rfl : u11 = [_] := h11
  obtain ⟨u12, v12, rfl, h12, g12⟩ := g11
  obtain rfl : u12 = [_] := h12
  obtain ⟨u13, v13, rfl, h13, g13⟩ := g12
  obtain rfl : u13 = [_] := h13
  obtain ⟨u14, v14, rfl, h14, g14⟩ := g13
  obtain rfl : u14 = [_] := h14
  obtain ⟨a0, c0, rfl, k_L0⟩ := g14
  obtain ⟨u15, v15, rfl, h15, g15⟩ := g1
  obtain rfl : u15 = [_] := h15
  obtain rfl : v15 = [_] := g15
  exact ⟨a0, c0, rfl, k_L0, b_x3⟩
theorem mkrd_TaskOut {W : World} {B : Nat} {x0 : Int} {x1 : Int} {x2 : Int} {x3 : ByteArray} {x4 : Int} {x5 : Int} {x6 : Int} {x7 : Int} {x8 : Int} {x9 : Int} {x10 : Int} {x11 : Int} {x12 : Int} {L0 : List (Int)} {x14 : Int} {x15 : Int} {a0 : Option Addr} {c0 : Nat} (h_L0 : RdSl I W B L0 a0 c0) (b_x3 : x3.size ≤ maxLen) : R_TaskOut.rd W B (((x0, x1), x2, x3, x4, x5, x6, (x7, x8), x9, x10, x11, x12, L0), x14, x15) [.int .i64 x0, .int .i64 x1, .int .i64 x2, .string x3, .int .i64 x4, .int .i64 x5, .int .i64 x6, .int .i64 x7, .int .i64 x8, .int .i64 x9, .int .i64 x10, .int .i64 x11, .int .i64 x12, .slice a0 L0.length c0, .int .i64 x14, .int .i64 x15] := ⟨[.int .i64 x0, .int .i64 x1, .int .i64 x2, .string x3, .int .i64 x4, .int .i64 x5, .int .i64 x6, .int .i64 x7, .int .i64 x8, .int .i64 x9, .int .i64 x10, .int .i64 x11, .int .i64 x12, .slice a0 L0.length c0], [.int .i64 x14, .int .i64 x15], rfl, ⟨[.int .i64 x0, .int .i64 x1], [.int .i64 x2, .string x3, .int .i64 x4, .int .i64 x5, .int .i64 x6, .int .i64 x7, .int .i64 x8, .int .i64 x9, .int .i64 x10, .int .i64 x11, .int .i64 x12, .slice a0 L0.length c0], rfl, ⟨[.int .i64 x0], [.int .i64 x1], rfl, rfl, rfl⟩, ⟨[.int .i64 x2], [.string x3, .int .i64 x4, .int .i64 x5, .int .i64 x6, .int .i64 x7, .int .i64 x8, .int .i64 x9, .int .i64 x10, .int .i64 x11, .int .i64 x12, .slice a0 L0.length c0], rfl, rfl, ⟨[.string x3], [.int .i64 x4, .int .i64 x5, .int .i64 x6, .int .i64 x7, .int .i64 x8, .int .i64 x9, .int .i64 x10, .int .i64 x11, .int .i64 x12, .slice a0 L0.length c0], rfl, ⟨rfl, b_x3⟩, ⟨[.int .i64 x4], [.int .i64 x5, .int .i64 x6, .int .i64 x7, .int .i64 x8, .int .i64 x9, .int .i64 x10, .int .i64 x11, .int .i64 x12, .slice a0 L0.length c0], rfl, rfl, ⟨[.int .i64 x5], [.int .i64 x6, .int .i64 x7, .int .i64 x8, .int .i64 x9, .int .i64 x10, .int .i64 x11, .int .i64 x12, .slice a0 L0.length c0], rfl, rfl, ⟨[.int .i64 x6], [.int .i64 x7, .int .i64 x8, .int .i64 x9, .int .i64 x10, .int .i64 x11, .int .i64 x12, .slice a0 L0.length c0], rfl, rfl, ⟨[.int .i64 x7, .int .i64 x8], [.int .i64 x9, .int .i64 x10, .int .i64 x11, .int .i64 x12, .slice a0 L0.length c0], rfl, ⟨[.int .i64 x7], [.int .i64 x8], rfl, rfl, rfl⟩, ⟨[.int .i64 x9], [.int .i64 x10, .int .i64 x11, .int .i64 x12, .slice a0 L0.length c0], rfl, rfl, ⟨[.int .i64 x10], [.int .i64 x11, .int .i64 x12, .slice a0 L0.length c0], rfl, rfl, ⟨[.int .i64 x11], [.int .i64 x12, .slice a0 L0.length c0], rfl, rfl, ⟨[.int .i64 x12], [.slice a0 L0.length c0], rfl, rfl, ⟨a0, c0, rfl, h_L0⟩⟩⟩⟩⟩⟩⟩⟩⟩⟩⟩⟩, ⟨[.int .i64 x14], [.int .i64 x15], rfl, rfl, rfl⟩⟩
theorem mkow_TaskOut {W : World} {S : Nat → Prop} {x0 : Int} {x1 : Int} {x2 : Int} {x3 : ByteArray} {x4 : Int} {x5 : Int} {x6 : Int} {x7 : Int} {x8 : Int} {x9 : Int} {x10 : Int} {x11 : Int} {x12 : Int} {L0 : List (Int)} {x14 : Int} {x15 : Int} {a0 : Option Addr} {c0 : Nat} {T0 : Nat → Prop} (hs0 : ∀ k, T0 k → S k) (h_L0 : OwSl I W T0 L0 a0 c0) (b_x3 : x3.size ≤ maxLen) : R_TaskOut.ow W S (((x0, x1), x2, x3, x4, x5, x6, (x7, x8), x9, x10, x11, x12, L0), x14, x15) [.int .i64 x0, .int .i64 x1, .int .i64 x2, .string x3, .int .i64 x4, .int .i64 x5, .int .i64 x6, .int .i64 x7, .int .i64 x8, .int .i64 x9, .int .i64 x10, .int .i64 x11, .int .i64 x12, .slice a0 L0.length c0, .int .i64 x14, .int .i64 x15] := ⟨[.int .i64 x0, .int .i64 x1, .int .i64 x2, .string x3, .int .i64 x4, .int .i64 x5, .int .i64 x6, .int .i64 x7, .int .i64 x8, .int .i64 x9, .int .i64 x10, .int .i64 x11, .int .i64 x12, .slice a0 L0.length c0], [.int .i64 x14, .int .i64 x15], T0, (fun _ => False), rfl, (fun k h => hs0 k h), (fun k h => h.elim), (fun k h h' => h'.elim), ⟨[.int .i64 x0, .int .i64 x1], [.int .i64 x2, .string x3, .int .i64 x4, .int .i64 x5, .int .i64 x6, .int .i64 x7, .int .i64 x8, .int .i64 x9, .int .i64 x10, .int .i64 x11, .int .i64 x12, .slice a0 L0.length c0], (fun _ => False), T0, rfl, (fun k h => h.elim), (fun k h => h), (fun k h h' => h.elim), ⟨[.int .i64 x0], [.int .i64 x1], (fun _ => False), (fun _ => False), rfl, (fun k h => h.elim), (fun k h => h.elim), (fun k h h' => h.elim), rfl, rfl⟩, ⟨[.int .i64 x2], [.string x3, .int .i64 x4, .int .i64 x5, .int .i64 x6, .int .i64 x7, .int .i64 x8, .int .i64 x9, .int .i64 x10, .int .i64 x11, .int .i64 x12, .slice a0 L0.length c0], (fun _ => False), T0, rfl, (fun k h => h.elim), (fun k h => h), (fun k h h' => h.elim), rfl, ⟨[.string x3], [.int .i64 x4, .int .i64 x5, .int .i64 x6, .int .i64 x7, .int .i64 x8, .int .i64 x9, .int .i64 x10, .int .i64 x11, .int .i64 x12, .slice a0 L0.length c0], (fun _ => False), T0, rfl, (fun k h => h.elim), (fun k h => h), (fun k h h' => h.elim), ⟨rfl, b_x3⟩, ⟨[.int .i64 x4], [.int .i64 x5, .int .i64 x6, .int .i64 x7, .int .i64 x8, .int .i64 x9, .int .i64 x10, .int .i64 x11, .int .i64 x12, .slice a0 L0.length c0], (fun _ => False), T0, rfl, (fun k h => h.elim), (fun k h => h), (fun k h h' => h.elim), rfl, ⟨[.int .i64 x5], [.int .i64 x6, .int .i64 x7, .int .i64 x8, .int .i64 x9, .int .i64 x10, .int .i64 x11, .int .i64 x12, .slice a0 L0.length c0], (fun _ => False), T0, rfl, (fun k h => h.elim), (fun k h => h), (fun k h h' => h.elim), rfl, ⟨[.int .i64 x6], [.int .i64 x7, .int .i64 x8, .int .i64 x9, .int .i64 x10, .int .i64 x11, .int .i64 x12, .slice a0 L0.length c0], (fun _ => False), T0, rfl, (fun k h => h.elim), (fun k h => h), (fun k h h' => h.elim), rfl, ⟨[.int .i64 x7, .int .i64 x8], [.int .i64 x9, .int .i64 x10, .int .i64 x11, .int .i64 x12, .slice a0 L0.length c0], (fun _ => False), T0, rfl, (fun k h => h.elim), (fun k h => h), (fun k h h' => h.elim), ⟨[.int .i64 x7], [.int .i64 x8], (fun _ => False), (fun _ => False), rfl, (fun k h => h.elim), (fun k h => h.elim), (fun k h h' => h.elim), rfl, rfl⟩, ⟨[.int .i64 x9], [.int .i64 x10, .int .i64 x11, .int .i64 x12, .slice a0 L0.length c0], (fun _ => False), T0, rfl, (fun k h => h.elim), (fun k h => h), (fun k h h' => h.elim), rfl, ⟨[.int .i64 x10], [.int .i64 x11, .int .i64 x12, .slice a0 L0.length c0], (fun _ => False), T0, rfl, (fun k h => h.elim), (fun k h => h), (fun k h h' => h.elim), rfl, ⟨[.int .i64 x11], [.int .i64 x12, .slice a0 L0.length c0], (fun _ => False), T0, rfl, (fun k h => h.elim), (fun k h => h), (fun k h h' => h.elim), rfl, ⟨[.int .i64 x12], [.slice a0 L0.length c0], (fun _ => False), T0, rfl, (fun k h => h.elim), (fun k h => h), (fun k h h' => h.elim), rfl, ⟨a0, c0, rfl, h_L0⟩⟩⟩⟩⟩⟩⟩⟩⟩⟩⟩⟩, ⟨[.int .i64 x14], [.int .i64 x15], (fun _ => False), (fun _ => False), rfl, (fun k h => h.elim), (fun k h => h.elim), (fun k h h' => h.elim), rfl, rfl⟩⟩
theorem ow_TaskOut {W : World} {S : Nat → Prop} {x0 : Int} {x1 : Int} {x2 : Int} {x3 : ByteArray} {x4 : Int} {x5 : Int} {x6 : Int} {x7 : Int} {x8 : Int} {x9 : Int} {x10 : Int} {x11 : Int} {x12 : Int} {L0 : List (Int)} {x14 : Int} {x15 : Int} {cs : List Value} (h : R_TaskOut.ow W S (((x0, x1), x2, x3, x4, x5, x6, (x7, x8), x9, x10, x11, x12, L0), x14, x15) cs) : ∃ a0 c0, ∃ T0 : Nat → Prop, cs = [.int .i64 x0, .int .i64 x1, .int .i64 x2, .string x3, .int .i64 x4, .int .i64 x5, .int .i64 x6, .int .i64 x7, .int .i64 x8, .int .i64 x9, .int .i64 x10, .int .i64 x11, .int .i64 x12, .slice a0 L0.length c0, .int .i64 x14, .int .i64 x15] ∧ (∀ k, T0 k → S k) ∧ OwSl I W T0 L0 a0 c0 ∧ x3.size ≤ maxLen := by
  obtain ⟨u1, v1, A1, B1, rfl, sa1, sb1, dd1, h1, g1⟩ := h
  obtain ⟨u2, v2, A2, B2, rfl, sa2, sb2, dd2, h2, g2⟩ := h1
  obtain ⟨u3, v3, A3, B3, rfl, sa3, sb3, dd3, h3, g3⟩ := h2
  obtain rfl : u3 = [_] := h3
  obtain rfl : v3 = [_] := g3
  obtain ⟨u4, v4, A4, B4, rfl, sa4, sb4, dd4, h4, g4⟩ := g2
  obtain rfl : u4 = [_] := h4
  obtain ⟨u5, v5, A5, B5, rfl, sa5, sb5, dd5, h5, g5⟩ := g4
  obtain ⟨hq_x3, b_x3⟩ := h5
  obtain rfl : u5 = [_] := hq_x3
  obtain ⟨u6, v6, A6, B6, rfl, sa6, sb6, dd6, h6, g6⟩ := g5
  obtain rfl : u6 = [_] := h6
  obtain ⟨u7, v7, A7, B7, rfl, sa7, sb7, dd7, h7, g7⟩ := g6
  obtain rfl : u7 = [_] := h7
  obtain ⟨u8, v8, A8, B8, rfl, sa8, sb8, dd8, h8, g8⟩ := g7
  obtain rfl : u8 = [_] := h8
  obtain ⟨u9, v9, A9, B9, rfl, sa9, sb9, dd9, h9, g9⟩ := g8
  obtain ⟨u10, v10, A10, B10, rfl, sa10, sb10, dd10, h10, g10⟩ := h9
  obtain rfl : u10 = [_] := h10
  obtain rfl : v10 = [_] := g10
  obtain ⟨u11, v11, A11, B11, rfl, sa11, sb11, dd11, h11, g11⟩ := g9
  obtain rfl : u11 = [_] := h11
  obtain ⟨u12, v12, A12, B12, rfl, sa12, sb12, dd12, h12, g12⟩ := g11
  obtain rfl : u12 = [_] := h12
  obtain ⟨u13, v13, A13, B13, rfl, sa13, sb13, dd13, h13, g13⟩ := g12
  obtain rfl : u13 = [_] := h13
  obtain ⟨u14, v14, A14, B14, rfl, sa14, sb14, dd14, h14, g14⟩ := g13
  obtain rfl : u14 = [_] := h14
  obtain ⟨a0, c0, rfl, k_L0⟩ := g14
  obtain ⟨u15, v15, A15, B15, rfl, sa15, sb15, dd15, h15, g15⟩ := g1
  obtain rfl : u15 = [_] := h15
  obtain rfl : v15 = [_] := g15
  exact ⟨a0, c0, B14, rfl, fun k h => sa1 k (sb2 k (sb4 k (sb5 k (sb6 k (sb7 k (sb8 k (sb9 k (sb11 k (sb12 k (sb13 k (sb14 k (h)))))))))))), k_L0, b_x3⟩


theorem size_TaskS : (R_Task).size = 14 := rfl
def zs_TaskS (n : Nat) : Array Value := madeCells #[.int .i64 0, .int .i64 0, .int .i64 0, .string ⟨#[]⟩, .int .i64 0, .int .i64 0, .int .i64 0, .int .i64 0, .int .i64 0, .int .i64 0, .int .i64 0, .int .i64 0, .int .i64 0, .slice none 0 0] (n * 14)
theorem zs_TaskS_size (n : Nat) : (zs_TaskS n).size = n * (R_Task).size := by unfold zs_TaskS; simp [madeCells, size_TaskS]
theorem sizeq_TaskS : (R_Task).size = 14 := rfl
end Go.Proofs.Ytelhmacfljffhaa.RepC
