/- The laws' data: contracts. -/
import Derived.Test.YtdimpopkkjpddaaDoorJobT
namespace Go.Proofs.YtdimpopkkjpddaaDoor.RepC
open Go.RowKit RowC ValC
set_option linter.unusedVariables false
set_option linter.unusedSimpArgs false

abbrev D_Entry : Type := (Int) × (D_Label) × (Int) × (Int) × (Int)
def R_Entry : Rp D_Entry := (Pr I (Pr R_Label (Pr I (Pr I I))))
theorem R_Entry_ok : Ok R_Entry := (Pr_ok I_ok (Pr_ok R_Label_ok (Pr_ok I_ok (Pr_ok I_ok I_ok))))
theorem rd_Entry {W : World} {B : Nat} {x0 : Int} {x1 : Int} {x2 : Int} {x3 : Int} {x4 : Int} {x5 : Int} {cs : List Value} (h : R_Entry.rd W B (x0, (x1, x2), x3, x4, x5) cs) : cs = [.int .i64 x0, .int .i64 x1, .int .i64 x2, .int .i64 x3, .int .i64 x4, .int .i64 x5] := by
  obtain ⟨u1, v1, rfl, h1, g1⟩ := h
  obtain rfl : u1 = [_] := h1
  obtain ⟨u2, v2, rfl, h2, g2⟩ := g1
  obtain ⟨u3, v3, rfl, h3, g3⟩ := h2
  obtain rfl : u3 = [_] := h3
  obtain rfl : v3 = [_] := g3
  obtain ⟨u4, v4, rfl, h4, g4⟩ := g2
  obtain rfl : u4 = [_] := h4
  obtain ⟨u5, v5, rfl, h5, g5⟩ := g4
  obtain rfl : u5 = [_] := h5
  obtain rfl : v5 = [_] := g5
  rfl
theorem mkrd_Entry {W : World} {B : Nat} {x0 : Int} {x1 : Int} {x2 : Int} {x3 : Int} {x4 : Int} {x5 : Int}  : R_Entry.rd W B (x0, (x1, x2), x3, x4, x5) [.int .i64 x0, .int .i64 x1, .int .i64 x2, .int .i64 x3, .int .i64 x4, .int .i64 x5] := ⟨[.int .i64 x0], [.int .i64 x1, .int .i64 x2, .int .i64 x3, .int .i64 x4, .int .i64 x5], rfl, rfl, ⟨[.int .i64 x1, .int .i64 x2], [.int .i64 x3, .int .i64 x4, .int .i64 x5], rfl, ⟨[.int .i64 x1], [.int .i64 x2], rfl, rfl, rfl⟩, ⟨[.int .i64 x3], [.int .i64 x4, .int .i64 x5], rfl, rfl, ⟨[.int .i64 x4], [.int .i64 x5], rfl, rfl, rfl⟩⟩⟩⟩
theorem mkow_Entry {W : World} {S : Nat → Prop} {x0 : Int} {x1 : Int} {x2 : Int} {x3 : Int} {x4 : Int} {x5 : Int}  : R_Entry.ow W S (x0, (x1, x2), x3, x4, x5) [.int .i64 x0, .int .i64 x1, .int .i64 x2, .int .i64 x3, .int .i64 x4, .int .i64 x5] := ⟨[.int .i64 x0], [.int .i64 x1, .int .i64 x2, .int .i64 x3, .int .i64 x4, .int .i64 x5], (fun _ => False), (fun _ => False), rfl, (fun k h => h.elim), (fun k h => h.elim), (fun k h h' => h.elim), rfl, ⟨[.int .i64 x1, .int .i64 x2], [.int .i64 x3, .int .i64 x4, .int .i64 x5], (fun _ => False), (fun _ => False), rfl, (fun k h => h.elim), (fun k h => h.elim), (fun k h h' => h.elim), ⟨[.int .i64 x1], [.int .i64 x2], (fun _ => False), (fun _ => False), rfl, (fun k h => h.elim), (fun k h => h.elim), (fun k h h' => h.elim), rfl, rfl⟩, ⟨[.int .i64 x3], [.int .i64 x4, .int .i64 x5], (fun _ => False), (fun _ => False), rfl, (fun k h => h.elim), (fun k h => h.elim), (fun k h h' => h.elim), rfl, ⟨[.int .i64 x4], [.int .i64 x5], (fun _ => False), (fun _ => False), rfl, (fun k h => h.elim), (fun k h => h.elim), (fun k h h' => h.elim), rfl, rfl⟩⟩⟩⟩
theorem ow0_Entry {W : World} {S : Nat → Prop} {x0 : Int} {x1 : Int} {x2 : Int} {x3 : Int} {x4 : Int} {x5 : Int} {cs : List Value} (h : R_Entry.ow W S (x0, (x1, x2), x3, x4, x5) cs) : cs = [.int .i64 x0, .int .i64 x1, .int .i64 x2, .int .i64 x3, .int .i64 x4, .int .i64 x5] := by
  obtain ⟨u1, v1, A1, B1, rfl, sa1, sb1, dd1, h1, g1⟩ := h
  obtain rfl : u1 = [_] := h1
  obtain ⟨u2, v2, A2, B2, rfl, sa2, sb2, dd2, h2, g2⟩ := g1
  obtain ⟨u3, v3, A3, B3, rfl, sa3, sb3, dd3, h3, g3⟩ := h2
  obtain rfl : u3 = [_] := h3
  obtain rfl : v3 = [_] := g3
  obtain ⟨u4, v4, A4, B4, rfl, sa4, sb4, dd4, h4, g4⟩ := g2
  obtain rfl : u4 = [_] := h4
  obtain ⟨u5, v5, A5, B5, rfl, sa5, sb5, dd5, h5, g5⟩ := g4
  obtain rfl : u5 = [_] := h5
  obtain rfl : v5 = [_] := g5
  rfl

abbrev D_EntryOut : Type := (D_Entry) × (Int)
def R_EntryOut : Rp D_EntryOut := (Pr R_Entry I)
theorem R_EntryOut_ok : Ok R_EntryOut := (Pr_ok R_Entry_ok I_ok)
theorem rd_EntryOut {W : World} {B : Nat} {x0 : Int} {x1 : Int} {x2 : Int} {x3 : Int} {x4 : Int} {x5 : Int} {x6 : Int} {cs : List Value} (h : R_EntryOut.rd W B ((x0, (x1, x2), x3, x4, x5), x6) cs) : cs = [.int .i64 x0, .int .i64 x1, .int .i64 x2, .int .i64 x3, .int .i64 x4, .int .i64 x5, .int .i64 x6] := by
  obtain ⟨u1, v1, rfl, h1, g1⟩ := h
  obtain ⟨u2, v2, rfl, h2, g2⟩ := h1
  obtain rfl : u2 = [_] := h2
  obtain ⟨u3, v3, rfl, h3, g3⟩ := g2
  obtain ⟨u4, v4, rfl, h4, g4⟩ := h3
  obtain rfl : u4 = [_] := h4
  obtain rfl : v4 = [_] := g4
  obtain ⟨u5, v5, rfl, h5, g5⟩ := g3
  obtain rfl : u5 = [_] := h5
  obtain ⟨u6, v6, rfl, h6, g6⟩ := g5
  obtain rfl : u6 = [_] := h6
  obtain rfl : v6 = [_] := g6
  obtain rfl : v1 = [_] := g1
  rfl
theorem mkrd_EntryOut {W : World} {B : Nat} {x0 : Int} {x1 : Int} {x2 : Int} {x3 : Int} {x4 : Int} {x5 : Int} {x6 : Int}  : R_EntryOut.rd W B ((x0, (x1, x2), x3, x4, x5), x6) [.int .i64 x0, .int .i64 x1, .int .i64 x2, .int .i64 x3, .int .i64 x4, .int .i64 x5, .int .i64 x6] := ⟨[.int .i64 x0, .int .i64 x1, .int .i64 x2, .int .i64 x3, .int .i64 x4, .int .i64 x5], [.int .i64 x6], rfl, ⟨[.int .i64 x0], [.int .i64 x1, .int .i64 x2, .int .i64 x3, .int .i64 x4, .int .i64 x5], rfl, rfl, ⟨[.int .i64 x1, .int .i64 x2], [.int .i64 x3, .int .i64 x4, .int .i64 x5], rfl, ⟨[.int .i64 x1], [.int .i64 x2], rfl, rfl, rfl⟩, ⟨[.int .i64 x3], [.int .i64 x4, .int .i64 x5], rfl, rfl, ⟨[.int .i64 x4], [.int .i64 x5], rfl, rfl, rfl⟩⟩⟩⟩, rfl⟩
theorem mkow_EntryOut {W : World} {S : Nat → Prop} {x0 : Int} {x1 : Int} {x2 : Int} {x3 : Int} {x4 : Int} {x5 : Int} {x6 : Int}  : R_EntryOut.ow W S ((x0, (x1, x2), x3, x4, x5), x6) [.int .i64 x0, .int .i64 x1, .int .i64 x2, .int .i64 x3, .int .i64 x4, .int .i64 x5, .int .i64 x6] := ⟨[.int .i64 x0, .int .i64 x1, .int .i64 x2, .int .i64 x3, .int .i64 x4, .int .i64 x5], [.int .i64 x6], (fun _ => False), (fun _ => False), rfl, (fun k h => h.elim), (fun k h => h.elim), (fun k h h' => h.elim), ⟨[.int .i64 x0], [.int .i64 x1, .int .i64 x2, .int .i64 x3, .int .i64 x4, .int .i64 x5], (fun _ => False), (fun _ => False), rfl, (fun k h => h.elim), (fun k h => h.elim), (fun k h h' => h.elim), rfl, ⟨[.int .i64 x1, .int .i64 x2], [.int .i64 x3, .int .i64 x4, .int .i64 x5], (fun _ => False), (fun _ => False), rfl, (fun k h => h.elim), (fun k h => h.elim), (fun k h h' => h.elim), ⟨[.int .i64 x1], [.int .i64 x2], (fun _ => False), (fun _ => False), rfl, (fun k h => h.elim), (fun k h => h.elim), (fun k h h' => h.elim), rfl, rfl⟩, ⟨[.int .i64 x3], [.int .i64 x4, .int .i64 x5], (fun _ => False), (fun _ => False), rfl, (fun k h => h.elim), (fun k h => h.elim), (fun k h h' => h.elim), rfl, ⟨[.int .i64 x4], [.int .i64 x5], (fun _ => False), (fun _ => False), rfl, (fun k h => h.elim), (fun k h => h.elim), (fun k h h' => h.elim), rfl, rfl⟩⟩⟩⟩, rfl⟩
theorem ow0_EntryOut {W : World} {S : Nat → Prop} {x0 : Int} {x1 : Int} {x2 : Int} {x3 : Int} {x4 : Int} {x5 : Int} {x6 : Int} {cs : List Value} (h : R_EntryOut.ow W S ((x0, (x1, x2), x3, x4, x5), x6) cs) : cs = [.int .i64 x0, .int .i64 x1, .int .i64 x2, .int .i64 x3, .int .i64 x4, .int .i64 x5, .int .i64 x6] := by
  obtain ⟨u1, v1, A1, B1, rfl, sa1, sb1, dd1, h1, g1⟩ := h
  obtain ⟨u2, v2, A2, B2, rfl, sa2, sb2, dd2, h2, g2⟩ := h1
  obtain rfl : u2 = [_] := h2
  obtain ⟨u3, v3, A3, B3, rfl, sa3, sb3, dd3, h3, g3⟩ := g2
  obtain ⟨u4, v4, A4, B4, rfl, sa4, sb4, dd4, h4, g4⟩ := h3
  obtain rfl : u4 = [_] := h4
  obtain rfl : v4 = [_] := g4
  obtain ⟨u5, v5, A5, B5, rfl, sa5, sb5, dd5, h5, g5⟩ := g3
  obtain rfl : u5 = [_] := h5
  obtain ⟨u6, v6, A6, B6, rfl, sa6, sb6, dd6, h6, g6⟩ := g5
  obtain rfl : u6 = [_] := h6
  obtain rfl : v6 = [_] := g6
  obtain rfl : v1 = [_] := g1
  rfl

end Go.Proofs.YtdimpopkkjpddaaDoor.RepC
