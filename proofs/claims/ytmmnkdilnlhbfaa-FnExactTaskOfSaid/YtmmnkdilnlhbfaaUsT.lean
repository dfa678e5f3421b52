/- The laws' data: contracts. -/
import Derived.Test.YtmmnkdilnlhbfaaTk
import Derived.Test.YtmmnkdilnlhbfaaJobT
import Derived.Test.YtmmnkdilnlhbfaaMkT
namespace Go.Proofs.Ytmmnkdilnlhbfaa.RepC
open Go.RowKit RowC ValC
set_option linter.unusedVariables false
set_option linter.unusedSimpArgs false

abbrev D_Use : Type := (D_Label) × (ByteArray) × (Int)
def R_Use : Rp D_Use := (Pr R_Label (Pr St I))
theorem R_Use_ok : Ok R_Use := (Pr_ok R_Label_ok (Pr_ok St_ok I_ok))
theorem rd_Use {W : World} {B : Nat} {x0 : Int} {x1 : Int} {x2 : ByteArray} {x3 : Int} {cs : List Value} (h : R_Use.rd W B ((x0, x1), x2, x3) cs) : cs = [.int .i64 x0, .int .i64 x1, .string x2, .int .i64 x3] ∧ x2.size ≤ maxLen := by
  obtain ⟨u1, v1, rfl, h1, g1⟩ := h
  obtain ⟨u2, v2, rfl, h2, g2⟩ := h1
  obtain rfl : u2 = [_] := h2
  obtain rfl : v2 = [_] := g2
  obtain ⟨u3, v3, rfl, h3, g3⟩ := g1
  obtain ⟨hq_x2, b_x2⟩ := h3
  obtain rfl : u3 = [_] := hq_x2
  obtain rfl : v3 = [_] := g3
  exact ⟨rfl, b_x2⟩
theorem mkrd_Use {W : World} {B : Nat} {x0 : Int} {x1 : Int} {x2 : ByteArray} {x3 : Int}  (b_x2 : x2.size ≤ maxLen) : R_Use.rd W B ((x0, x1), x2, x3) [.int .i64 x0, .int .i64 x1, .string x2, .int .i64 x3] := ⟨[.int .i64 x0, .int .i64 x1], [.string x2, .int .i64 x3], rfl, ⟨[.int .i64 x0], [.int .i64 x1], rfl, rfl, rfl⟩, ⟨[.string x2], [.int .i64 x3], rfl, ⟨rfl, b_x2⟩, rfl⟩⟩
theorem mkow_Use {W : World} {S : Nat → Prop} {x0 : Int} {x1 : Int} {x2 : ByteArray} {x3 : Int}  (b_x2 : x2.size ≤ maxLen) : R_Use.ow W S ((x0, x1), x2, x3) [.int .i64 x0, .int .i64 x1, .string x2, .int .i64 x3] := ⟨[.int .i64 x0, .int .i64 x1], [.string x2, .int .i64 x3], (fun _ => False), (fun _ => False), rfl, (fun k h => h.elim), (fun k h => h.elim), (fun k h h' => h.elim), ⟨[.int .i64 x0], [.int .i64 x1], (fun _ => False), (fun _ => False), rfl, (fun k h => h.elim), (fun k h => h.elim), (fun k h h' => h.elim), rfl, rfl⟩, ⟨[.string x2], [.int .i64 x3], (fun _ => False), (fun _ => False), rfl, (fun k h => h.elim), (fun k h => h.elim), (fun k h h' => h.elim), ⟨rfl, b_x2⟩, rfl⟩⟩
theorem ow0_Use {W : World} {S : Nat → Prop} {x0 : Int} {x1 : Int} {x2 : ByteArray} {x3 : Int} {cs : List Value} (h : R_Use.ow W S ((x0, x1), x2, x3) cs) : cs = [.int .i64 x0, .int .i64 x1, .string x2, .int .i64 x3] ∧ x2.size ≤ maxLen := by
  obtain ⟨u1, v1, A1, B1, rfl, sa1, sb1, dd1, h1, g1⟩ := h
  obtain ⟨u2, v2, A2, B2, rfl, sa2, sb2, dd2, h2, g2⟩ := h1
  obtain rfl : u2 = [_] := h2
  obtain rfl : v2 = [_] := g2
  obtain ⟨u3, v3, A3, B3, rfl, sa3, sb3, dd3, h3, g3⟩ := g1
  obtain ⟨hq_x2, b_x2⟩ := h3
  obtain rfl : u3 = [_] := hq_x2
  obtain rfl : v3 = [_] := g3
  exact ⟨rfl, b_x2⟩


theorem size_UseS : (R_Use).size = 4 := rfl
def zs_UseS (n : Nat) : Array Value := madeCells #[.int .i64 0, .int .i64 0, .string ⟨#[]⟩, .int .i64 0] (n * 4)
theorem zs_UseS_size (n : Nat) : (zs_UseS n).size = n * (R_Use).size := by unfold zs_UseS; simp [madeCells, size_UseS]
theorem sizeq_UseS : (R_Use).size = 4 := rfl
theorem szd_Use {x0 : Int} {x1 : Int} {x2 : ByteArray} {x3 : Int} : R_Use.sz ((x0, x1), x2, x3) = x2.size := by
  simp only [R_Use, Pr, I, Bo, St, atom, R_Label]; omega
theorem sizz_UseS : (R_Use).size = 4 := rfl
theorem szd_UseS (L : List (D_Use)) : (Sl R_Use).sz L = L.length + sumL (R_Use).sz L := rfl
end Go.Proofs.Ytmmnkdilnlhbfaa.RepC
