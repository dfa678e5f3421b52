/- The laws' data: contracts. -/
import Derived.Test.YtdimpopkkjpddaaDoorJobT
namespace Go.Proofs.YtdimpopkkjpddaaDoor.RepC
open Go.RowKit RowC ValC
set_option linter.unusedVariables false
set_option linter.unusedSimpArgs false

abbrev D_Letter : Type := (D_Label) × (D_Label) × (Int) × (Int)
def R_Letter : Rp D_Letter := (Pr R_Label (Pr R_Label (Pr I I)))
theorem R_Letter_ok : Ok R_Letter := (Pr_ok R_Label_ok (Pr_ok R_Label_ok (Pr_ok I_ok I_ok)))
theorem rd_Letter {W : World} {B : Nat} {x0 : Int} {x1 : Int} {x2 : Int} {x3 : Int} {x4 : Int} {x5 : Int} {cs : List Value} (h : R_Letter.rd W B ((x0, x1), (x2, x3), x4, x5) cs) : cs = [.int .i64 x0, .int .i64 x1, .int .i64 x2, .int .i64 x3, .int .i64 x4, .int .i64 x5] := by
  obtain ⟨u1, v1, rfl, h1, g1⟩ := h
  obtain ⟨u2, v2, rfl, h2, g2⟩ := h1
  obtain rfl : u2 = [_] := h2
  obtain rfl : v2 = [_] := g2
  obtain ⟨u3, v3, rfl, h3, g3⟩ := g1
  obtain ⟨u4, v4, rfl, h4, g4⟩ := h3
  obtain rfl : u4 = [_] := h4
  obtain rfl : v4 = [_] := g4
  obtain ⟨u5, v5, rfl, h5, g5⟩ := g3
  obtain rfl : u5 = [_] := h5
  obtain rfl : v5 = [_] := g5
  rfl
theorem mkrd_Letter {W : World} {B : Nat} {x0 : Int} {x1 : Int} {x2 : Int} {x3 : Int} {x4 : Int} {x5 : Int}  : R_Letter.rd W B ((x0, x1), (x2, x3), x4, x5) [.int .i64 x0, .int .i64 x1, .int .i64 x2, .int .i64 x3, .int .i64 x4, .int .i64 x5] := ⟨[.int .i64 x0, .int .i64 x1], [.int .i64 x2, .int .i64 x3, .int .i64 x4, .int .i64 x5], rfl, ⟨[.int .i64 x0], [.int .i64 x1], rfl, rfl, rfl⟩, ⟨[.int .i64 x2, .int .i64 x3], [.int .i64 x4, .int .i64 x5], rfl, ⟨[.int .i64 x2], [.int .i64 x3], rfl, rfl, rfl⟩, ⟨[.int .i64 x4], [.int .i64 x5], rfl, rfl, rfl⟩⟩⟩
theorem mkow_Letter {W : World} {S : Nat → Prop} {x0 : Int} {x1 : Int} {x2 : Int} {x3 : Int} {x4 : Int} {x5 : Int}  : R_Letter.ow W S ((x0, x1), (x2, x3), x4, x5) [.int .i64 x0, .int .i64 x1, .int .i64 x2, .int .i64 x3, .int .i64 x4, .int .i64 x5] := ⟨[.int .i64 x0, .int .i64 x1], [.int .i64 x2, .int .i64 x3, .int .i64 x4, .int .i64 x5], (fun _ => False), (fun _ => False), rfl, (fun k h => h.elim), (fun k h => h.elim), (fun k h h' => h.elim), ⟨[.int .i64 x0], [.int .i64 x1], (fun _ => False), (fun _ => False), rfl, (fun k h => h.elim), (fun k h => h.elim), (fun k h h' => h.elim), rfl, rfl⟩, ⟨[.int .i64 x2, .int .i64 x3], [.int .i64 x4, .int .i64 x5], (fun _ => False), (fun _ => False), rfl, (fun k h => h.elim), (fun k h => h.elim), (fun k h h' => h.elim), ⟨[.int .i64 x2], [.int .i64 x3], (fun _ => False), (fun _ => False), rfl, (fun k h => h.elim), (fun k h => h.elim), (fun k h h' => h.elim), rfl, rfl⟩, ⟨[.int .i64 x4], [.int .i64 x5], (fun _ => False), (fun _ => False), rfl, (fun k h => h.elim), (fun k h => h.elim), (fun k h h' => h.elim), rfl, rfl⟩⟩⟩
theorem ow0_Letter {W : World} {S : Nat → Prop} {x0 : Int} {x1 : Int} {x2 : Int} {x3 : Int} {x4 : Int} {x5 : Int} {cs : List Value} (h : R_Letter.ow W S ((x0, x1), (x2, x3), x4, x5) cs) : cs = [.int .i64 x0, .int .i64 x1, .int .i64 x2, .int .i64 x3, .int .i64 x4, .int .i64 x5] := by
  obtain ⟨u1, v1, A1, B1, rfl, sa1, sb1, dd1, h1, g1⟩ := h
  obtain ⟨u2, v2, A2, B2, rfl, sa2, sb2, dd2, h2, g2⟩ := h1
  obtain rfl : u2 = [_] := h2
  obtain rfl : v2 = [_] := g2
  obtain ⟨u3, v3, A3, B3, rfl, sa3, sb3, dd3, h3, g3⟩ := g1
  obtain ⟨u4, v4, A4, B4, rfl, sa4, sb4, dd4, h4, g4⟩ := h3
  obtain rfl : u4 = [_] := h4
  obtain rfl : v4 = [_] := g4
  obtain ⟨u5, v5, A5, B5, rfl, sa5, sb5, dd5, h5, g5⟩ := g3
  obtain rfl : u5 = [_] := h5
  obtain rfl : v5 = [_] := g5
  rfl

abbrev D_Desk : Type := (List (D_Letter)) × (List (D_Letter)) × (List (D_Letter)) × (Int) × (Int)
def R_Desk : Rp D_Desk := (Pr (Sl R_Letter) (Pr (Sl R_Letter) (Pr (Sl R_Letter) (Pr I I))))
theorem R_Desk_ok : Ok R_Desk := (Pr_ok (Sl_ok R_Letter_ok) (Pr_ok (Sl_ok R_Letter_ok) (Pr_ok (Sl_ok R_Letter_ok) (Pr_ok I_ok I_ok))))
theorem rd_Desk {W : World} {B : Nat} {L0 : List (D_Letter)} {L1 : List (D_Letter)} {L2 : List (D_Letter)} {x3 : Int} {x4 : Int} {cs : List Value} (h : R_Desk.rd W B (L0, L1, L2, x3, x4) cs) : ∃ a0 c0 a1 c1 a2 c2, cs = [.slice a0 L0.length c0, .slice a1 L1.length c1, .slice a2 L2.length c2, .int .i64 x3, .int .i64 x4] ∧ RdSl R_Letter W B L0 a0 c0 ∧ RdSl R_Letter W B L1 a1 c1 ∧ RdSl R_Letter W B L2 a2 c2 := by
  obtain ⟨u1, v1, rfl, h1, g1⟩ := h
  obtain ⟨a0, c0, rfl, k_L0⟩ := h1
  obtain ⟨u2, v2, rfl, h2, g2⟩ := g1
  obtain ⟨a1, c1, rfl, k_L1⟩ := h2
  obtain ⟨u3, v3, rfl, h3, g3⟩ := g2
  obtain ⟨a2, c2, rfl, k_L2⟩ := h3
  obtain ⟨u4, v4, rfl, h4, g4⟩ := g3
  obtain rfl : u4 = [_] := h4
  obtain rfl : v4 = [_] := g4
  exact ⟨a0, c0, a1, c1, a2, c2, rfl, k_L0, k_L1, k_L2⟩
theorem mkrd_Desk {W : World} {B : Nat} {L0 : List (D_Letter)} {L1 : List (D_Letter)} {L2 : List (D_Letter)} {x3 : Int} {x4 : Int} {a0 : Option Addr} {c0 : Nat} {a1 : Option Addr} {c1 : Nat} {a2 : Option Addr} {c2 : Nat} (h_L0 : RdSl R_Letter W B L0 a0 c0) (h_L1 : RdSl R_Letter W B L1 a1 c1) (h_L2 : RdSl R_Letter W B L2 a2 c2) : R_Desk.rd W B (L0, L1, L2, x3, x4) [.slice a0 L0.length c0, .slice a1 L1.length c1, .slice a2 L2.length c2, .int .i64 x3, .int .i64 x4] := ⟨[.slice a0 L0.length c0], [.slice a1 L1.length c1, .slice a2 L2.length c2, .int .i64 x3, .int .i64 x4], rfl, ⟨a0, c0, rfl, h_L0⟩, ⟨[.slice a1 L1.length c1], [.slice a2 L2.length c2, .int .i64 x3, .int .i64 x4], rfl, ⟨a1, c1, rfl, h_L1⟩, ⟨[.slice a2 L2.length c2], [.int .i64 x3, .int .i64 x4], rfl, ⟨a2, c2, rfl, h_L2⟩, ⟨[.int .i64 x3], [.int .i64 x4], rfl, rfl, rfl⟩⟩⟩⟩
theorem mkow_Desk {W : World} {S : Nat → Prop} {L0 : List (D_Letter)} {L1 : List (D_Letter)} {L2 : List (D_Letter)} {x3 : Int} {x4 : Int} {a0 : Option Addr} {c0 : Nat} {a1 : Option Addr} {c1 : Nat} {a2 : Option Addr} {c2 : Nat} {T0 : Nat → Prop} {T1 : Nat → Prop} {T2 : Nat → Prop} (hs0 : ∀ k, T0 k → S k) (hs1 : ∀ k, T1 k → S k) (hs2 : ∀ k, T2 k → S k) (hd0_1 : ∀ k, T0 k → ¬ T1 k) (hd0_2 : ∀ k, T0 k → ¬ T2 k) (hd1_2 : ∀ k, T1 k → ¬ T2 k) (h_L0 : OwSl R_Letter W T0 L0 a0 c0) (h_L1 : OwSl R_Letter W T1 L1 a1 c1) (h_L2 : OwSl R_Letter W T2 L2 a2 c2) : R_Desk.ow W S (L0, L1, L2, x3, x4) [.slice a0 L0.length c0, .slice a1 L1.length c1, .slice a2 L2.length c2, .int .i64 x3, .int .i64 x4] := ⟨[.slice a0 L0.length c0], [.slice a1 L1.length c1, .slice a2 L2.length c2, .int .i64 x3, .int .i64 x4], T0, (fun k => T1 k ∨ T2 k), rfl, (fun k h => hs0 k h), (fun k h => by rcases h with h | h <;> first | exact hs1 k h | exact hs2 k h), (fun k h h' => by rcases h' with h' | h' <;> first | exact hd0_1 k h h' | exact hd0_2 k h h'), ⟨a0, c0, rfl, h_L0⟩, ⟨[.slice a1 L1.length c1], [.slice a2 L2.length c2, .int .i64 x3, .int .i64 x4], T1, T2, rfl, (fun k h => .inl h), (fun k h => .inr (h)), hd1_2, ⟨a1, c1, rfl, h_L1⟩, ⟨[.slice a2 L2.length c2], [.int .i64 x3, .int .i64 x4], T2, (fun _ => False), rfl, (fun k h => h), (fun k h => h.elim), (fun k h h' => h'.elim), ⟨a2, c2, rfl, h_L2⟩, ⟨[.int .i64 x3], [.int .i64 x4], (fun _ => False), (fun _ => False), rfl, (fun k h => h.elim), (fun k h => h.elim), (fun k h h' => h.elim), rfl, rfl⟩⟩⟩⟩
theorem ow_Desk {W : World} {S : Nat → Prop} {L0 : List (D_Letter)} {L1 : List (D_Letter)} {L2 : List (D_Letter)} {x3 : Int} {x4 : Int} {cs : List Value} (h : R_Desk.ow W S (L0, L1, L2, x3, x4) cs) : ∃ a0 c0 a1 c1 a2 c2, ∃ T0 T1 T2 : Nat → Prop, cs = [.slice a0 L0.length c0, .slice a1 L1.length c1, .slice a2 L2.length c2, .int .i64 x3, .int .i64 x4] ∧ (∀ k, T0 k → S k) ∧ (∀ k, T1 k → S k) ∧ (∀ k, T2 k → S k) ∧ (∀ k, T0 k → ¬ T1 k) ∧ (∀ k, T0 k → ¬ T2 k) ∧ (∀ k, T1 k → ¬ T2 k) ∧ OwSl R_Letter W T0 L0 a0 c0 ∧ OwSl R_Letter W T1 L1 a1 c1 ∧ OwSl R_Letter W T2 L2 a2 c2 := by
  obtain ⟨u1, v1, A1, B1, rfl, sa1, sb1, dd1, h1, g1⟩ := h
  obtain ⟨a0, c0, rfl, k_L0⟩ := h1
  obtain ⟨u2, v2, A2, B2, rfl, sa2, sb2, dd2, h2, g2⟩ := g1
  obtain ⟨a1, c1, rfl, k_L1⟩ := h2
  obtain ⟨u3, v3, A3, B3, rfl, sa3, sb3, dd3, h3, g3⟩ := g2
  obtain ⟨a2, c2, rfl, k_L2⟩ := h3
  obtain ⟨u4, v4, A4, B4, rfl, sa4, sb4, dd4, h4, g4⟩ := g3
  obtain rfl : u4 = [_] := h4
  obtain rfl : v4 = [_] := g4
  exact ⟨a0, c0, a1, c1, a2, c2, A1, A2, A3, rfl, fun k h => sa1 k (h), fun k h => sb1 k (sa2 k (h)), fun k h => sb1 k (sb2 k (sa3 k (h))), fun k h h' => dd1 k (h) (sa2 k (h')), fun k h h' => dd1 k (h) (sb2 k (sa3 k (h'))), fun k h h' => dd2 k (h) (sa3 k (h')), k_L0, k_L1, k_L2⟩

abbrev D_DeskStep : Type := (D_Desk) × (Int)
def R_DeskStep : Rp D_DeskStep := (Pr R_Desk I)
theorem R_DeskStep_ok : Ok R_DeskStep := (Pr_ok R_Desk_ok I_ok)
theorem rd_DeskStep {W : World} {B : Nat} {L0 : List (D_Letter)} {L1 : List (D_Letter)} {L2 : List (D_Letter)} {x3 : Int} {x4 : Int} {x5 : Int} {cs : List Value} (h : R_DeskStep.rd W B ((L0, L1, L2, x3, x4), x5) cs) : ∃ a0 c0 a1 c1 a2 c2, cs = [.slice a0 L0.length c0, .slice a1 L1.length c1, .slice a2 L2.length c2, .int .i64 x3, .int .i64 x4, .int .i64 x5] ∧ RdSl R_Letter W B L0 a0 c0 ∧ RdSl R_Letter W B L1 a1 c1 ∧ RdSl R_Letter W B L2 a2 c2 := by
  obtain ⟨u1, v1, rfl, h1, g1⟩ := h
  obtain ⟨u2, v2, rfl, h2, g2⟩ := h1
  obtain ⟨a0, c0, rfl, k_L0⟩ := h2
  obtain ⟨u3, v3, rfl, h3, g3⟩ := g2
  obtain ⟨a1, c1, rfl, k_L1⟩ := h3
  obtain ⟨u4, v4, rfl, h4, g4⟩ := g3
  obtain ⟨a2, c2, rfl, k_L2⟩ := h4
  obtain ⟨u5, v5, rfl, h5, g5⟩ := g4
  obtain rfl : u5 = [_] := h5
  obtain rfl : v5 = [_] := g5
  obtain rfl : v1 = [_] := g1
  exact ⟨a0, c0, a1, c1, a2, c2, rfl, k_L0, k_L1, k_L2⟩
theorem mkrd_DeskStep {W : World} {B : Nat} {L0 : List (D_Letter)} {L1 : List (D_Letter)} {L2 : List (D_Letter)} {x3 : Int} {x4 : Int} {x5 : Int} {a0 : Option Addr} {c0 : Nat} {a1 : Option Addr} {c1 : Nat} {a2 : Option Addr} {c2 : Nat} (h_L0 : RdSl R_Letter W B L0 a0 c0) (h_L1 : RdSl R_Letter W B L1 a1 c1) (h_L2 : RdSl R_Letter W B L2 a2 c2) : R_DeskStep.rd W B ((L0, L1, L2, x3, x4), x5) [.slice a0 L0.length c0, .slice a1 L1.length c1, .slice a2 L2.length c2, .int .i64 x3, .int .i64 x4, .int .i64 x5] := ⟨[.slice a0 L0.length c0, .slice a1 L1.length c1, .slice a2 L2.length c2, .int .i64 x3, .int .i64 x4], [.int .i64 x5], rfl, ⟨[.slice a0 L0.length c0], [.slice a1 L1.length c1, .slice a2 L2.length c2, .int .i64 x3, .int .i64 x4], rfl, ⟨a0, c0, rfl, h_L0⟩, ⟨[.slice a1 L1.length c1], [.slice a2 L2.length c2, .int .i64 x3, .int .i64 x4], rfl, ⟨a1, c1, rfl, h_L1⟩, ⟨[.slice a2 L2.length c2], [.int .i64 x3, .int .i64 x4], rfl, ⟨a2, c2, rfl, h_L2⟩, ⟨[.int .i64 x3], [.int .i64 x4], rfl, rfl, rfl⟩⟩⟩⟩, rfl⟩
theorem mkow_DeskStep {W : World} {S : Nat → Prop} {L0 : List (D_Letter)} {L1 : List (D_Letter)} {L2 : List (D_Letter)} {x3 : Int} {x4 : Int} {x5 : Int} {a0 : Option Addr} {c0 : Nat} {a1 : Option Addr} {c1 : Nat} {a2 : Option Addr} {c2 : Nat} {T0 : Nat → Prop} {T1 : Nat → Prop} {T2 : Nat → Prop} (hs0 : ∀ k, T0 k → S k) (hs1 : ∀ k, T1 k → S k) (hs2 : ∀ k, T2 k → S k) (hd0_1 : ∀ k, T0 k → ¬ T1 k) (hd0_2 : ∀ k, T0 k → ¬ T2 k) (hd1_2 : ∀ k, T1 k → ¬ T2 k) (h_L0 : OwSl R_Letter W T0 L0 a0 c0) (h_L1 : OwSl R_Letter W T1 L1 a1 c1) (h_L2 : OwSl R_Letter W T2 L2 a2 c2) : R_DeskStep.ow W S ((L0, L1, L2, x3, x4), x5) [.slice a0 L0.length c0, .slice a1 L1.length c1, .slice a2 L2.length c2, .int .i64 x3, .int .i64 x4, .int .i64 x5] := ⟨[.slice a0 L0.length c0, .slice a1 L1.length c1, .slice a2 L2.length c2, .int .i64 x3, .int .i64 x4], [.int .i64 x5], (fun k => T0 k ∨ T1 k ∨ T2 k), (fun _ => False), rfl, (fun k h => by rcases h with h | h | h <;> first | exact hs0 k h | exact hs1 k h | exact hs2 k h), (fun k h => h.elim), (fun k h h' => h'.elim), ⟨[.slice a0 L0.length c0], [.slice a1 L1.length c1, .slice a2 L2.length c2, .int .i64 x3, .int .i64 x4], T0, (fun k => T1 k ∨ T2 k), rfl, (fun k h => .inl h), (fun k h => by rcases h with h | h <;> first | exact .inr (.inl h) | exact .inr (.inr (h))), (fun k h h' => by rcases h' with h' | h' <;> first | exact hd0_1 k h h' | exact hd0_2 k h h'), ⟨a0, c0, rfl, h_L0⟩, ⟨[.slice a1 L1.length c1], [.slice a2 L2.length c2, .int .i64 x3, .int .i64 x4], T1, T2, rfl, (fun k h => .inl h), (fun k h => .inr (h)), hd1_2, ⟨a1, c1, rfl, h_L1⟩, ⟨[.slice a2 L2.length c2], [.int .i64 x3, .int .i64 x4], T2, (fun _ => False), rfl, (fun k h => h), (fun k h => h.elim), (fun k h h' => h'.elim), ⟨a2, c2, rfl, h_L2⟩, ⟨[.int .i64 x3], [.int .i64 x4], (fun _ => False), (fun _ => False), rfl, (fun k h => h.elim), (fun k h => h.elim), (fun k h h' => h.elim), rfl, rfl⟩⟩⟩⟩, rfl⟩
theorem ow_DeskStep {W : World} {S : Nat → Prop} {L0 : List (D_Letter)} {L1 : List (D_Letter)} {L2 : List (D_Letter)} {x3 : Int} {x4 : Int} {x5 : Int} {cs : List Value} (h : R_DeskStep.ow W S ((L0, L1, L2, x3, x4), x5) cs) : ∃ a0 c0 a1 c1 a2 c2, ∃ T0 T1 T2 : Nat → Prop, cs = [.slice a0 L0.length c0, .slice a1 L1.length c1, .slice a2 L2.length c2, .int .i64 x3, .int .i64 x4, .int .i64 x5] ∧ (∀ k, T0 k → S k) ∧ (∀ k, T1 k → S k) ∧ (∀ k, T2 k → S k) ∧ (∀ k, T0 k → ¬ T1 k) ∧ (∀ k, T0 k → ¬ T2 k) ∧ (∀ k, T1 k → ¬ T2 k) ∧ OwSl R_Letter W T0 L0 a0 c0 ∧ OwSl R_Letter W T1 L1 a1 c1 ∧ OwSl R_Letter W T2 L2 a2 c2 := by
  obtain ⟨u1, v1, A1, B1, rfl, sa1, sb1, dd1, h1, g1⟩ := h
  obtain ⟨u2, v2, A2, B2, rfl, sa2, sb2, dd2, h2, g2⟩ := h1
  obtain ⟨a0, c0, rfl, k_L0⟩ := h2
  obtain ⟨u3, v3, A3, B3, rfl, sa3, sb3, dd3, h3, g3⟩ := g2
  obtain ⟨a1, c1, rfl, k_L1⟩ := h3
  obtain ⟨u4, v4, A4, B4, rfl, sa4, sb4, dd4, h4, g4⟩ := g3
  obtain ⟨a2, c2, rfl, k_L2⟩ := h4
  obtain ⟨u5, v5, A5, B5, rfl, sa5, sb5, dd5, h5, g5⟩ := g4
  obtain rfl : u5 = [_] := h5
  obtain rfl : v5 = [_] := g5
  obtain rfl : v1 = [_] := g1
  exact ⟨a0, c0, a1, c1, a2, c2, A2, A3, A4, rfl, fun k h => sa1 k (sa2 k (h)), fun k h => sa1 k (sb2 k (sa3 k (h))), fun k h => sa1 k (sb2 k (sb3 k (sa4 k (h)))), fun k h h' => dd2 k (h) (sa3 k (h')), fun k h h' => dd2 k (h) (sb3 k (sa4 k (h'))), fun k h h' => dd3 k (h) (sa4 k (h')), k_L0, k_L1, k_L2⟩


theorem size_LetterS : (R_Letter).size = 6 := rfl
def zs_LetterS (n : Nat) : Array Value := madeCells #[.int .i64 0, .int .i64 0, .int .i64 0, .int .i64 0, .int .i64 0, .int .i64 0] (n * 6)
theorem zs_LetterS_size (n : Nat) : (zs_LetterS n).size = n * (R_Letter).size := by unfold zs_LetterS; simp [madeCells, size_LetterS]
theorem make_LetterS (n : Nat) (hn : n ≤ 1048576) : ∀ W : World, (Instr.makeSlice 32 (.int .i64 (n : Int)) (.int .i64 (n : Int))).run Tryd.prog W = .ok (.slice (some ⟨W.heap.size, 0, none⟩) n n) (W.alloc (.cells (zs_LetterS n) 81)) := by
  intro W
  obtain ⟨i, hi, hz, hs, hb⟩ : ∃ i, Tryd.prog.info? 81 = some i ∧ i.zero = some (.agg #[.int .i64 0, .int .i64 0, .int .i64 0, .int .i64 0, .int .i64 0, .int .i64 0]) ∧ i.size = 6 ∧ i.bytes = 48 := by
    have h : (Tryd.prog.info? 81).map (fun i => (i.zero, i.size, i.bytes)) = some (some (.agg #[.int .i64 0, .int .i64 0, .int .i64 0, .int .i64 0, .int .i64 0, .int .i64 0]), 6, 48) := by kernel_rfl
    cases hx : Tryd.prog.info? 81 with
    | none => rw [hx] at h; simp at h
    | some i => rw [hx] at h; simp at h; exact ⟨i, rfl, h.1, h.2.1, h.2.2⟩
  have hr := run_make (P := Tryd.prog) W 32 81 i _ Tryd.underlying32 hi hz .i64 .i64 n n (by omega) (by omega) (by rw [hb]; omega) (by omega)
  rw [hs] at hr
  simp only [Int.toNat_natCast] at hr
  exact hr

theorem sizeq_LetterS : (R_Letter).size = 6 := rfl
theorem flat_LetterS (L : List (D_Letter)) : (Sl R_Letter).sz L = L.length := by
  have : sumL (R_Letter).sz L = 0 := sumL_zero (fun _ => rfl) L
  simp only [Sl, this, Nat.add_zero]
theorem szd_Desk {L0 : List (D_Letter)} {L1 : List (D_Letter)} {L2 : List (D_Letter)} {x3 : Int} {x4 : Int} : R_Desk.sz (L0, L1, L2, x3, x4) = (((Sl R_Letter)).sz L0) + (((Sl R_Letter)).sz L1) + (((Sl R_Letter)).sz L2) := by
  simp only [R_Desk, Pr, I, Bo, atom]; omega
theorem mmk_Letter {k : Int} : R_Letter.mm ((k, k + 1), (k + 1 + 1, k + 1 + 1 + 1), k + 1 + 1 + 1 + 1, k + 1 + 1 + 1 + 1 + 1) k (k + 1 + 1 + 1 + 1 + 1 + 1) := by
  dsimp only [R_Letter, R_Label, Pr, I, atom, Sl]
  exact ⟨k + 1 + 1, ⟨k + 1, ⟨by omega, by omega⟩, ⟨by omega, by omega⟩⟩, ⟨k + 1 + 1 + 1 + 1, ⟨k + 1 + 1 + 1, ⟨by omega, by omega⟩, ⟨by omega, by omega⟩⟩, ⟨k + 1 + 1 + 1 + 1 + 1, ⟨by omega, by omega⟩, ⟨by omega, by omega⟩⟩⟩⟩
theorem mme_Letter {k k' : Int} {x0 : Int} {x1 : Int} {x2 : Int} {x3 : Int} {x4 : Int} {x5 : Int} (h : R_Letter.mm ((x0, x1), (x2, x3), x4, x5) k k') : x0 = k ∧ x1 = k + 1 ∧ x2 = k + 1 + 1 ∧ x3 = k + 1 + 1 + 1 ∧ x4 = k + 1 + 1 + 1 + 1 ∧ x5 = k + 1 + 1 + 1 + 1 + 1 ∧ k' = k + 1 + 1 + 1 + 1 + 1 + 1 := by
  dsimp only [R_Letter, R_Label, Pr, I, atom, Sl] at h
  obtain ⟨z1, h1, g1⟩ := h
  obtain ⟨z2, h2, g2⟩ := h1
  obtain ⟨e0, f0⟩ := h2
  have e0 : x0 = _ := e0
  obtain ⟨e1, f1⟩ := g2
  have e1 : x1 = _ := e1
  obtain ⟨z3, h3, g3⟩ := g1
  obtain ⟨z4, h4, g4⟩ := h3
  obtain ⟨e2, f2⟩ := h4
  have e2 : x2 = _ := e2
  obtain ⟨e3, f3⟩ := g4
  have e3 : x3 = _ := e3
  obtain ⟨z5, h5, g5⟩ := g3
  obtain ⟨e4, f4⟩ := h5
  have e4 : x4 = _ := e4
  obtain ⟨e5, f5⟩ := g5
  have e5 : x5 = _ := e5
  exact ⟨by omega, by omega, by omega, by omega, by omega, by omega, by omega⟩
theorem R_Letter_mn : Mn R_Letter := (Pr_mn R_Label_mn (Pr_mn R_Label_mn (Pr_mn I_mn I_mn)))

end Go.Proofs.YtdimpopkkjpddaaDoor.RepC
