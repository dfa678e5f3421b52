/- The laws' data: contracts. -/
import Derived.Test.YtknifggpodhhdaaDoorJobT
namespace Go.Proofs.YtknifggpodhhdaaDoor.RepC
open Go.RowKit RowC ValC
set_option linter.unusedVariables false
set_option linter.unusedSimpArgs false

abbrev D_Letter : Type := (D_Label) × (D_Label) × (Int) × (Int)
def R_Letter : Rp D_Letter := (Pr R_Label (Pr R_Label (Pr I I)))
theorem R_Letter_ok : Ok R_Letter := (Pr_ok R_Label_ok (Pr_ok R_Label_ok (Pr_ok I_ok I_ok)))
theorem rd_Letter {W : World} {B : Nat} {x0 : Int} {x1 : Int} {x2 : Int} {x3 : Int} {x4 : Int} {x5 : Int} {cs : List Value} (h : R_Letter.rd W B ((x0, x1), (x2, x3), x4, x5) cs) : cs = [.int .i64 x0, .int .i64 x1, .int .i64 x2, .int .i64 x3, .int .i64 x4, .int .i64 x5] := by
  obtain ⟨u1, v1, rfl, h1, g1⟩ := h
  obtain ⟨u2, v2, rfl, h2, g2⟩ := h1
  obtain rfl : u2 = [_] := h2
  obtain rfl : v2 = [_] := g2
  obtain ⟨u3, v3, rfl, h3, g3⟩ := g1
  obtain ⟨u4, v4, rfl, h4, g4⟩ := h3
  obtain rfl : u4 = [_] := h4
  obtain rfl : v4 = [_] := g4
  obtain ⟨u5, v5, rfl, h5, g5⟩ := g3
  obtain rfl : u5 = [_] := h5
  obtain rfl : v5 = [_] := g5
  rfl
theorem mkrd_Letter {W : World} {B : Nat} {x0 : Int} {x1 : Int} {x2 : Int} {x3 : Int} {x4 : Int} {x5 : Int}  : R_Letter.rd W B ((x0, x1), (x2, x3), x4, x5) [.int .i64 x0, .int .i64 x1, .int .i64 x2, .int .i64 x3, .int .i64 x4, .int .i64 x5] := ⟨[.int .i64 x0, .int .i64 x1], [.int .i64 x2, .int .i64 x3, .int .i64 x4, .int .i64 x5], rfl, ⟨[.int .i64 x0], [.int .i64 x1], rfl, rfl, rfl⟩, ⟨[.int .i64 x2, .int .i64 x3], [.int .i64 x4, .int .i64 x5], rfl, ⟨[.int .i64 x2], [.int .i64 x3], rfl, rfl, rfl⟩, ⟨[.int .i64 x4], [.int .i64 x5], rfl, rfl, rfl⟩⟩⟩
theorem mkow_Letter {W : World} {S : Nat → Prop} {x0 : Int} {x1 : Int} {x2 : Int} {x3 : Int} {x4 : Int} {x5 : Int}  : R_Letter.ow W S ((x0, x1), (x2, x3), x4, x5) [.int .i64 x0, .int .i64 x1, .int .i64 x2, .int .i64 x3, .int .i64 x4, .int .i64 x5] := ⟨[.int .i64 x0, .int .i64 x1], [.int .i64 x2, .int .i64 x3, .int .i64 x4, .int .i64 x5], (fun _ => False), (fun _ => False), rfl, (fun k h => h.elim), (fun k h => h.elim), (fun k h h' => h.elim), ⟨[.int .i64 x0], [.int .i64 x1], (fun _ => False), (fun _ => False), rfl, (fun k h => h.elim), (fun k h => h.elim), (fun k h h' => h.elim), rfl, rfl⟩, ⟨[.int .i64 x2, .int .i64 x3], [.int .i64 x4, .int .i64 x5], (fun _ => False), (fun _ => False), rfl, (fun k h => h.elim), (fun k h => h.elim), (fun k h h' => h.elim), ⟨[.int .i64 x2], [.int .i64 x3], (fun _ => False), (fun _ => False), rfl, (fun k h => h.elim), (fun k h => h.elim), (fun k h h' => h.elim), rfl, rfl⟩, ⟨[.int .i64 x4], [.int .i64 x5], (fun _ => False), (fun _ => False), rfl, (fun k h => h.elim), (fun k h => h.elim), (fun k h h' => h.elim), rfl, rfl⟩⟩⟩
theorem ow0_Letter {W : World} {S : Nat → Prop} {x0 : Int} {x1 : Int} {x2 : Int} {x3 : Int} {x4 : Int} {x5 : Int} {cs : List Value} (h : R_Letter.ow W S ((x0, x1), (x2, x3), x4, x5) cs) : cs = [.int .i64 x0, .int .i64 x1, .int .i64 x2, .int .i64 x3, .int .i64 x4, .int .i64 x5] := by
  obtain ⟨u1, v1, A1, B1, rfl, sa1, sb1, dd1, h1, g1⟩ := h
  obtain ⟨u2, v2, A2, B2, rfl, sa2, sb2, dd2, h2, g2⟩ := h1
  obtain rfl : u2 = [_] := h2
  obtain rfl : v2 = [_] := g2
  obtain ⟨u3, v3, A3, B3, rfl, sa3, sb3, dd3, h3, g3⟩ := g1
  obtain ⟨u4, v4, A4, B4, rfl, sa4, sb4, dd4, h4, g4⟩ := h3
  obtain rfl : u4 = [_] := h4
  obtain rfl : v4 = [_] := g4
  obtain ⟨u5, v5, A5, B5, rfl, sa5, sb5, dd5, h5, g5⟩ := g3
  obtain rfl : u5 = [_] := h5
  obtain rfl : v5 = [_] := g5
  rfl

abbrev D_Desk : Type := (List (D_Letter)) × (List (D_Letter)) × (List (D_Letter)) × (Int) × (Int)
def R_Desk : Rp D_Desk := (Pr (Sl R_Letter) (Pr (Sl R_Letter) (Pr (Sl R_Letter) (Pr I I))))
theorem R_Desk_ok : Ok R_Desk := (Pr_ok (Sl_ok R_Letter_ok) (Pr_ok (Sl_ok R_Letter_ok) (Pr_ok (Sl_ok R_Letter_ok) (Pr_ok I_ok I_ok))))
theorem rd_Desk {W : World} {B : Nat} {L0 : List (D_Letter)} {L1 : List (D_Letter)} {L2 : List (D_Letter)} {x3 : Int} {x4 : Int} {cs : List Value} (h : R_Desk.rd W B (L0, L1, L2, x3, x4) cs) : ∃ a0 c0 a1 c1 a2 c2, cs = [.slice a0 L0.length c0, .slice a1 L1.length c1, .slice a2 L2.length c2, .int .i64 x3, .int .i64 x4] ∧ RdSl R_Letter W B L0 a0 c0 ∧ RdSl R_Letter W B L1 a1 c1 ∧ RdSl R_Letter W B L2 a2 c2 := by
  obtain ⟨u1, v1, rfl, h1, g1⟩ := h
  obtain ⟨a0, c0, rfl, k_L0⟩ := h1
  obtain ⟨u2, v2, rfl, h2, g2⟩ := g1
  obtain ⟨a1, c1, rfl, k_L1⟩ := h2
  obtain ⟨u3, v3, rfl, h3, g3⟩ := g2
  obtain ⟨a2, c2, rfl, k_L2⟩ := h3
  obtain ⟨u4, v4, rfl, h4, g4⟩ := g3
  obtain rfl : u4 = [_] := h4
  obtain rfl : v4 = [_] := g4
  exact ⟨a0, c0, a1, c1, a2, c2, rfl, k_L0, k_L1, k_L2⟩
theorem mkrd_Desk {W : World} {B : Nat} {L0 : List (D_Letter)} {L1 : List (D_Letter)} {L2 : List (D_Letter)} {x3 : Int} {x4 : Int} {a0 : Option Addr} {c0 : Nat} {a1 : Option Addr} {c1 : Nat} {a2 : Option Addr} {c2 : Nat} (h_L0 : RdSl R_Letter W B L0 a0 c0) (h_L1 : RdSl R_Letter W B L1 a1 c1) (h_L2 : RdSl R_Letter W B L2 a2 c2) : R_Desk.rd W B (L0, L1, L2, x3, x4) [.slice a0 L0.length c0, .slice a1 L1.length c1, .slice a2 L2.length c2, .int .i64 x3, .int .i64 x4] := ⟨[.slice a0 L0.length c0], [.slice a1 L1.length c1, .slice a2 L2.length c2, .int .i64 x3, .int .i64 x4], rfl, ⟨a0, c0, rfl, h_L0⟩, ⟨[.slice a1 L1.length c1], [.slice a2 L2.length c2, .int .i64 x3, .int .i64 x4], rfl, ⟨a1, c1, rfl, h_L1⟩, ⟨[.slice a2 L2.length c2], [.int .i64 x3, .int .i64 x4], rfl, ⟨a2, c2, rfl, h_L2⟩, ⟨[.int .i64 x3], [.int .i64 x4], rfl, rfl, rfl⟩⟩⟩⟩
theorem mkow_Desk {W : World} {S : Nat → Prop} {L0 : List (D_Letter)} {L1 : List (D_Letter)} {L2 : List (D_Letter)} {x3 : Int} {x4 : Int} {a0 : Option Addr} {c0 : Nat} {a1 : Option Addr} {c1 : Nat} {a2 : Option Addr} {c2 : Nat} {T0 : Nat → Prop} {T1 : Nat → Prop} {T2 : Nat → Prop} (hs0 : ∀ k, T0 k → S k) (hs1 : ∀ k, T1 k → S k) (hs2 : ∀ k, T2 k → S k) (hd0_1 : ∀ k, T0 k → ¬ T1 k) (hd0_2 : ∀ k, T0 k → ¬ T2 k) (hd1_2 : ∀ k, T1 k → ¬ T2 k) (h_L0 : OwSl R_Letter W T0 L0 a0 c0) (h_L1 : OwSl R_Letter W T1 L1 a1 c1) (h_L2 : OwSl R_Letter W T2 L2 a2 c2) : R_Desk.ow W S (L0, L1, L2, x3, x4) [.slice a0 L0.length c0, .slice a1 L1.length c1, .slice a2 L2.length c2, .int .i64 x3, .int .i64 x4] := ⟨[.slice a0 L0.length c0], [.slice a1 L1.length c1, .slice a2 L2.length c2, .int .i64 x3, .int .i64 x4], T0, (fun k => T1 k ∨ T2 k), rfl, (fun k h => hs0 k h), (fun k h => by rcases h with h | h <;> first | exact hs1 k h | exact hs2 k h), (fun k h h' => by rcases h' with h' | h' <;> first | exact hd0_1 k h h' | exact hd0_2 k h h'), ⟨a0, c0, rfl, h_L0⟩, ⟨[.slice a1 L1.length c1], [.slice a2 L2.length c2, .int .i64 x3, .int .i64 x4], T1, T2, rfl, (fun k h => .inl h), (fun k h => .inr (h)), hd1_2, ⟨a1, c1, rfl, h_L1⟩, ⟨[.slice a2 L2.length c2], [.int .i64 x3, .int .i64 x4], T2, (fun _ => False), rfl, (fun k h => h), (fun k h => h.elim), (fun k h h' => h'.elim), ⟨a2, c2, rfl, h_L2⟩, ⟨[.int .i64 x3], [.int .i64 x4], (fun _ => False), (fun _ => False), rfl, (fun k h => h.elim), (fun k h => h.elim), (fun k h h' => h.elim), rfl, rfl⟩⟩⟩⟩
theorem ow_Desk {W : World} {S : Nat → Prop} {L0 : List (D_Letter)} {L1 : List (D_Letter)} {L2 : List (D_Letter)} {x3 : Int} {x4 : Int} {cs : List Value} (h : R_Desk.ow W S (L0, L1, L2, x3, x4) cs) : ∃ a0 c0 a1 c1 a2 c2, ∃ T0 T1 T2 : Nat → Prop, cs = [.slice a0 L0.length c0, .slice a1 L1.length c1, .slice a2 L2.length c2, .int .i64 x3, .int .i64 x4] ∧ (∀ k, T0 k → S k) ∧ (∀ k, T1 k → S k) ∧ (∀ k, T2 k → S k) ∧ (∀ k, T0 k → ¬ T1 k) ∧ (∀ k, T0 k → ¬ T2 k) ∧ (∀ k, T1 k → ¬ T2 k) ∧ OwSl R_Letter W T0 L0 a0 c0 ∧ OwSl R_Letter W T1 L1 a1 c1 ∧ OwSl R_Letter W T2 L2 a2 c2 := by
  obtain ⟨u1, v1, A1, B1, rfl, sa1, sb1, dd1, h1, g1⟩ := h
  obtain ⟨a0, c0, rfl, k_L0⟩ := h1
  obtain ⟨u2, v2, A2, B2, rfl, sa2, sb2, dd2, h2, g2⟩ := g1
  obtain ⟨a1, c1, rfl, k_L1⟩ := h2
  obtain ⟨u3, v3, A3, B3, rfl, sa3, sb3, dd3, h3, g3⟩ := g2
  obtain ⟨a2, c2, rfl, k_L2⟩ := h3
  obtain ⟨u4, v4, A4, B4, rfl, sa4, sb4, dd4, h4, g4⟩ := g3
  obtain rfl : u4 = [_] := h4
  obtain rfl : v4 = [_] := g4
  exact ⟨a0, c0, a1, c1, a2, c2, A1, A2, A3, rfl, fun k h => sa1 k (h), fun k h => sb1 k (sa2 k (h)), fun k h => sb1 k (sb2 k (sa3 k (h))), fun k h h' => dd1 k (h) (sa2 k (h')), fun k h h' => dd1 k (h) (sb2 k (sa3 k (h'))), fun k h h' => dd2 k (h) (sa3 k (h')), k_L0, k_L1, k_L2⟩

abbrev D_DeskStep : Type := (D_Desk) × (Int)
def R_DeskStep : Rp D_DeskStep := (Pr R_Desk I)
theorem R_DeskStep_ok : Ok R_DeskStep := (Pr_ok R_Desk_ok I_ok)
theorem rd_DeskStep {W : World} {B : Nat} {L0 : List (D_Letter)} {L1 : List (D_Letter)} {L2 : List (D_Letter)} {x3 : Int} {x4 : Int} {x5 : Int} {cs : List Value} (h : R_DeskStep.rd W B ((L0, L1, L2, x3, x4), x5) cs) : ∃ a0 c0 a1 c1 a2 c2, cs = [.slice a0 L0.length c0, .slice a1 L1.length c1, .slice a2 L2.length c2, .int .i64 x3, .int .i64 x4, .int .i64 x5] ∧ RdSl R_Letter W B L0 a0 c0 ∧ RdSl R_Letter W B L1 a1 c1 ∧ RdSl R_Letter W B L2 a2 c2 := by
  obtain ⟨u1, v1, rfl, h1, g1⟩ := h
  obtain ⟨u2, v2, rfl, h2, g2⟩ := h1
  obtain ⟨a0, c0, rfl, k_L0⟩ := h2
  obtain ⟨u3, v3, rfl, h3, g3⟩ := g2
  obtain ⟨a1, c1, rfl, k_L1⟩ := h3
  obtain ⟨u4, v4, rfl, h4, g4⟩ := g3
  obtain ⟨a2, c2, rfl, k_L2⟩ := h4
  obtain ⟨u5, v5, rfl, h5, g5⟩ := g4
  obtain rfl : u5 = [_] := h5
  obtain rfl : v5 = [_] := g5
  obtain rfl : v1 = [_] := g1
  exact ⟨a0, c0, a1, c1, a2, c2, rfl, k_L0, k_L1, k_L2⟩
theorem mkrd_DeskStep {W : World} {B : Nat} {L0 : List (D_Letter)} {L1 : List (D_Letter)} {L2 : List (D_Letter)} {x3 : Int} {x4 : Int} {x5 : Int} {a0 : Option Addr} {c0 : Nat} {a1 : Option Addr} {c1 : Nat} {a2 : Option Addr} {c2 : Nat} (h_L0 : RdSl R_Letter W B L0 a0 c0) (h_L1 : RdSl R_Letter W B L1 a1 c1) (h_L2 : RdSl R_Letter W B L2 a2 c2) : R_DeskStep.rd W B ((L0, L1, L2, x3, x4), x5) [.slice a0 L0.length c0, .slice a1 L1.length c1, .slice a2 L2.length c2, .int .i64 x3, .int .i64 x4, .int .i64 x5] := ⟨[.slice a0 L0.length c0, .slice a1 L1.length c1, .slice a2 L2.length c2, .int .i64 x3, .int .i64 x4], [.int .i64 x5], rfl, ⟨[.slice a0 L0.length c0], [.slice a1 L1.length c1, .slice a2 L2.length c2, .int .i64 x3, .int .i64 x4], rfl, ⟨a0, c0, rfl, h_L0⟩, ⟨[.slice a1 L1.length c1], [.slice a2 L2.length c2, .int .i64 x3, .int .i64 x4], rfl, ⟨a1, c1, rfl, h_L1⟩, ⟨[.slice a2 L2.length c2], [.int .i64 x3, .int .i64 x4], rfl, ⟨a2, c2, rfl, h_L2⟩, ⟨[.int .i64 x3], [.int .i64 x4], rfl, rfl, rfl⟩⟩⟩⟩, rfl⟩
theorem mkow_DeskStep {W : World} {S : Nat → Prop} {L0 : List (D_Letter)} {L1 : List (D_Letter)} {L2 : List (D_Letter)} {x3 : Int} {x4 : Int} {x5 : Int} {a0 : Option Addr} {c0 : Nat} {a1 : Option Addr} {c1 : Nat} {a2 : Option Addr} {c2 : Nat} {T0 : Nat → Prop} {T1 : Nat → Prop} {T2 : Nat → Prop} (hs0 : ∀ k, T0 k → S k) (hs1 : ∀ k, T1 k → S k) (hs2 : ∀ k, T2 k → S k) (hd0_1 : ∀ k, T0 k → ¬ T1 k) (hd0_2 : ∀ k, T0 k → ¬ T2 k) (hd1_2 : ∀ k, T1 k → ¬ T2 k) (h_L0 : OwSl R_Letter W T0 L0 a0 c0) (h_L1 : OwSl R_Letter W T1 L1 a1 c1) (h_L2 : OwSl R_Letter W T2 L2 a2 c2) : R_DeskStep.ow W S ((L0, L1, L2, x3, x4), x5) [.slice a0 L0.length c0, .slice a1 L1.length c1, .slice a2 L2.length c2, .int .i64 x3, .int .i64 x4, .int .i64 x5] := ⟨[.slice a0 L0.length c0, .slice a1 L1.length c1, .slice a2 L2.length c2, .int .i64 x3, .int .i64 x4], [.int .i64 x5], (fun k => T0 k ∨ T1 k ∨ T2 k), (fun _ => False), rfl, (fun k h => by rcases h with h | h | h <;> first | exact hs0 k h | exact hs1 k h | exact hs2 k h), (fun k h => h.elim), (fun k h h' => h'.elim), ⟨[.slice a0 L0.length c0], [.slice a1 L1.length c1, .slice a2 L2.length c2, .int .i64 x3, .int .i64 x4], T0, (fun k => T1 k ∨ T2 k), rfl, (fun k h => .inl h), (fun k h => by rcases h with h | h <;> first | exact .inr (.inl h) | exact .inr (.inr (h))), (fun k h h' => by rcases h' with h' | h' <;> first | exact hd0_1 k h h' | exact hd0_2 k h h'), ⟨a0, c0, rfl, h_L0⟩, ⟨[.slice a1 L1.length c1], [.slice a2 L2.length c2, .int .i64 x3, .int .i64 x4], T1, T2, rfl, (fun k h => .inl h), (fun k h => .inr (h)), hd1_2, ⟨a1, c1, rfl, h_L1⟩, ⟨[.slice a2 L2.length c2], [.int .i64 x3, .int .i64 x4], T2, (fun _ => False), rfl, (fun k h => h), (fun k h => h.elim), (fun k h h' => h'.elim), ⟨a2, c2, rfl, h_L2⟩, ⟨[.int .i64 x3], [.int .i64 x4], (fun _ => False), (fun _ => False), rfl, (fun k h => h.elim), (fun k h => h.elim), (fun k h h' => h.elim), rfl, rfl⟩⟩⟩⟩, rfl⟩
theorem ow_DeskStep {W : World} {S : Nat → Prop} {L0 : List (D_Letter)} {L1 : List (D_Letter)} {L2 : List (D_Letter)} {x3 : Int} {x4 : Int} {x5 : Int} {cs : List Value} (h : R_DeskStep.ow W S ((L0, L1, L2, x3, x4), x5) cs) : ∃ a0 c0 a1 c1 a2 c2, ∃ T0 T1 T2 : Nat → Prop, cs = [.slice a0 L0.length c0, .slice a1 L1.length c1, .slice a2 L2.length c2, .int .i64 x3, .int .i64 x4, .int .i64 x5] ∧ (∀ k, T0 k → S k) ∧ (∀ k, T1 k → S k) ∧ (∀ k, T2 k → S k) ∧ (∀ k, T0 k → ¬ T1 k) ∧ (∀ k, T0 k → ¬ T2 k) ∧ (∀ k, T1 k → ¬ T2 k) ∧ OwSl R_Letter W T0 L0 a0 c0 ∧ OwSl R_Letter W T1 L1 a1 c1 ∧ OwSl R_Letter W T2 L2 a2 c2 := by
  obtain ⟨u1, v1, A1, B1, rfl, sa1, sb1, dd1, h1, g1⟩ := h
  obtain ⟨u2, v2, A2, B2, rfl, sa2, sb2, dd2, h2, g2⟩ := h1
  obtain ⟨a0, c0, rfl, k_L0⟩ := h2
  obtain ⟨u3, v3, A3, B3, rfl, sa3, sb3, dd3, h3, g3⟩ := g2
  obtain ⟨a1, c1, rfl, k_L1⟩ := h3
  obtain ⟨u4, v4, A4, B4, rfl, sa4, sb4, dd4, h4, g4⟩ := g3
  obtain ⟨a2, c2, rfl, k_L2⟩ := h4
  obtain ⟨u5, v5, A5, B5, rfl, sa5, sb5, dd5, h5, g5⟩ := g4
  obtain rfl : u5 = [_] := h5
  obtain rfl : v5 = [_] := g5
  obtain rfl : v1 = [_] := g1
  exact ⟨a0, c0, a1, c1, a2, c2, A2, A3, A4, rfl, fun k h => sa1 k (sa2 k (h)), fun k h => sa1 k (sb2 k (sa3 k (h))), fun k h => sa1 k (sb2 k (sb3 k (sa4 k (h)))), fun k h h' => dd2 k (h) (sa3 k (h')), fun k h h' => dd2 k (h) (sb3 k (sa4 k (h'))), fun k h h' => dd3 k (h) (sa4 k (h')), k_L0, k_L1, k_L2⟩


set_option maxRecDepth 100000 in
set_option maxHeartbeats 3200000 in
theorem to_Letter {x0 : Int} {x1 : Int} {x2 : Int} {x3 : Int} {x4 : Int} {x5 : Int}  {W : World} (hsz : R_Letter.sz ((x0, x1), (x2, x3), x4, x5) ≤ 1048576) : Calls Tryd.prog 92 #[.agg #[.int .i64 x0, .int .i64 x1, .int .i64 x2, .int .i64 x3, .int .i64 x4, .int .i64 x5]] W (NewV R_Letter ((x0, x1), (x2, x3), x4, x5) W) := by
  have HSZ := Lib.hid hsz
  clear hsz
  have hP := ((Blk.new W 126 #[.int .i64 x0, .int .i64 x1, .int .i64 x2, .int .i64 x3, .int .i64 x4, .int .i64 x5]).alloc (.cells #[.int .i64 0, .int .i64 0, .int .i64 0, .int .i64 0, .int .i64 0, .int .i64 0] 87)).alloc (.cells #[.int .i64 0, .int .i64 0, .int .i64 0, .int .i64 0, .int .i64 0, .int .i64 0] 87)
  have hR := (Blk.new (W.alloc (.cells #[.int .i64 x0, .int .i64 x1, .int .i64 x2, .int .i64 x3, .int .i64 x4, .int .i64 x5] 126)) 87 #[.int .i64 0, .int .i64 0, .int .i64 0, .int .i64 0, .int .i64 0, .int .i64 0]).alloc (.cells #[.int .i64 0, .int .i64 0, .int .i64 0, .int .i64 0, .int .i64 0, .int .i64 0] 87)
  have hO := Blk.new ((W.alloc (.cells #[.int .i64 x0, .int .i64 x1, .int .i64 x2, .int .i64 x3, .int .i64 x4, .int .i64 x5] 126)).alloc (.cells #[.int .i64 0, .int .i64 0, .int .i64 0, .int .i64 0, .int .i64 0, .int .i64 0] 87)) 87 #[.int .i64 0, .int .i64 0, .int .i64 0, .int .i64 0, .int .i64 0, .int .i64 0]
  simp only [World.size_alloc] at hP hR hO
  have HB0 := Lib.hid (show Below W.heap.size W (((W.alloc (.cells #[.int .i64 x0, .int .i64 x1, .int .i64 x2, .int .i64 x3, .int .i64 x4, .int .i64 x5] 126)).alloc (.cells #[.int .i64 0, .int .i64 0, .int .i64 0, .int .i64 0, .int .i64 0, .int .i64 0] 87)).alloc (.cells #[.int .i64 0, .int .i64 0, .int .i64 0, .int .i64 0, .int .i64 0, .int .i64 0] 87)) from (((Below.refl _ _).alloc (Nat.le_refl _) _).alloc (by simp) _).alloc (by simp; omega) _)
  have hz0 : W.heap.size + 3 ≤ (((W.alloc (.cells #[.int .i64 x0, .int .i64 x1, .int .i64 x2, .int .i64 x3, .int .i64 x4, .int .i64 x5] 126)).alloc (.cells #[.int .i64 0, .int .i64 0, .int .i64 0, .int .i64 0, .int .i64 0, .int .i64 0] 87)).alloc (.cells #[.int .i64 0, .int .i64 0, .int .i64 0, .int .i64 0, .int .i64 0, .int .i64 0] 87)).heap.size := by simp
  have HP0 := Lib.hid hP
  have HR0 := Lib.hid hR
  have HO0 := Lib.hid hO
  clear hP hR hO
  go_enter Tryd.func92, Tryd.ntmps92
  go_wp2_with fail
  refine (to_Label (by have h0 := HSZ.out; simp only [R_Letter, R_Label, Pr, Sl, I, Bo, atom] at h0 ⊢; omega)).mono ?_
  intro e w1 h
  obtain ⟨vs, rfl, how, hb⟩ := newV_elim h
  obtain rfl := ow0_Label how
  have hP : Blk w1 (W.heap.size) 126 #[.int .i64 x0, .int .i64 x1, .int .i64 x2, .int .i64 x3, .int .i64 x4, .int .i64 x5] := Blk.call HP0.out hb
  have hR : Blk w1 (W.heap.size + 1) 87 #[.int .i64 0, .int .i64 0, .int .i64 0, .int .i64 0, .int .i64 0, .int .i64 0] := Blk.call HR0.out hb
  have hO : Blk w1 (W.heap.size + 1 + 1) 87 #[.int .i64 0, .int .i64 0, .int .i64 0, .int .i64 0, .int .i64 0, .int .i64 0] := Blk.call HO0.out hb
  have hz1 : W.heap.size + 3 ≤ w1.heap.size := Nat.le_trans hz0 (size_call hb (S := fun x => x < W.heap.size + 3) (Off.refl (fun x => x < W.heap.size + 3) _))
  have HB1 := Lib.hid (Below.trans (B := W.heap.size) (a := W) HB0.out (hb.mono (by have h0 := hz0; first | omega | (simp; omega))))
  have HP1 := Lib.hid hP
  have HR1 := Lib.hid hR
  have HO1 := Lib.hid hO
  clear h hb hP hR hO how
  have p1_0 := HP1.out.at_ 0 rfl
  have o1_0 := HO1.out.at_ 0 rfl
  have r1_0 := HR1.out.at_ 0 rfl
  have f1_0 := HO1.out.soft 0
  have g1_0 := HR1.out.soft 0
  have p1_1 := HP1.out.at_ 1 rfl
  have o1_1 := HO1.out.at_ 1 rfl
  have r1_1 := HR1.out.at_ 1 rfl
  have f1_1 := HO1.out.soft 1
  have g1_1 := HR1.out.soft 1
  have p1_2 := HP1.out.at_ 2 rfl
  have o1_2 := HO1.out.at_ 2 rfl
  have r1_2 := HR1.out.at_ 2 rfl
  have f1_2 := HO1.out.soft 2
  have g1_2 := HR1.out.soft 2
  have p1_3 := HP1.out.at_ 3 rfl
  have o1_3 := HO1.out.at_ 3 rfl
  have r1_3 := HR1.out.at_ 3 rfl
  have f1_3 := HO1.out.soft 3
  have g1_3 := HR1.out.soft 3
  have p1_4 := HP1.out.at_ 4 rfl
  have o1_4 := HO1.out.at_ 4 rfl
  have r1_4 := HR1.out.at_ 4 rfl
  have f1_4 := HO1.out.soft 4
  have g1_4 := HR1.out.soft 4
  have p1_5 := HP1.out.at_ 5 rfl
  have o1_5 := HO1.out.at_ 5 rfl
  have r1_5 := HR1.out.at_ 5 rfl
  have f1_5 := HO1.out.soft 5
  have g1_5 := HR1.out.soft 5
  go_wp2_with fail
  refine (to_Label (by have h0 := HSZ.out; simp only [R_Letter, R_Label, Pr, Sl, I, Bo, atom] at h0 ⊢; omega)).mono ?_
  intro e w2 h
  obtain ⟨vs, rfl, how, hb⟩ := newV_elim h
  obtain rfl := ow0_Label how
  have hP : Blk w2 (W.heap.size) 126 #[.int .i64 x0, .int .i64 x1, .int .i64 x2, .int .i64 x3, .int .i64 x4, .int .i64 x5] := Blk.call (Blk.far (b := W.heap.size + 1 + 1) (o := 1) (Blk.far (b := W.heap.size + 1 + 1) (o := 0) HP1.out (by omega) (.int .i64 x0)) (by omega) (.int .i64 x1)) hb
  have hR : Blk w2 (W.heap.size + 1) 87 #[.int .i64 0, .int .i64 0, .int .i64 0, .int .i64 0, .int .i64 0, .int .i64 0] := Blk.call (Blk.far (b := W.heap.size + 1 + 1) (o := 1) (Blk.far (b := W.heap.size + 1 + 1) (o := 0) HR1.out (by omega) (.int .i64 x0)) (by omega) (.int .i64 x1)) hb
  have hO : Blk w2 (W.heap.size + 1 + 1) 87 #[.int .i64 x0, .int .i64 x1, .int .i64 0, .int .i64 0, .int .i64 0, .int .i64 0] := Blk.call (Blk.set (Blk.set HO1.out 0 (.int .i64 x0)) 1 (.int .i64 x1)) hb
  have hz2 : W.heap.size + 3 ≤ w2.heap.size := Nat.le_trans hz1 (size_call hb (S := fun x => x < W.heap.size + 3) (((Off.refl (fun x => x < W.heap.size + 3) w1).setCell (p := ⟨W.heap.size + 1 + 1, 0, none⟩) (by show W.heap.size + 1 + 1 < W.heap.size + 3; omega) (.int .i64 x0)).setCell (p := ⟨W.heap.size + 1 + 1, 1, none⟩) (by show W.heap.size + 1 + 1 < W.heap.size + 3; omega) (.int .i64 x1)))
  have HB2 := Lib.hid (Below.trans (B := W.heap.size) (a := W) ((HB1.out.setCell (p := ⟨W.heap.size + 1 + 1, 0, none⟩) (by show W.heap.size ≤ W.heap.size + 1 + 1; omega) (.int .i64 x0)).setCell (p := ⟨W.heap.size + 1 + 1, 1, none⟩) (by show W.heap.size ≤ W.heap.size + 1 + 1; omega) (.int .i64 x1)) (hb.mono (by have h0 := hz1; first | omega | (simp; omega))))
  have hle2 := size_call hb (((Off.refl (fun x => x < W.heap.size + 3) w1).setCell (p := ⟨W.heap.size + 1 + 1, 0, none⟩) (by show W.heap.size + 1 + 1 < W.heap.size + 3; omega) (.int .i64 x0)).setCell (p := ⟨W.heap.size + 1 + 1, 1, none⟩) (by show W.heap.size + 1 + 1 < W.heap.size + 3; omega) (.int .i64 x1))
  have HP2 := Lib.hid hP
  have HR2 := Lib.hid hR
  have HO2 := Lib.hid hO
  clear h hb hP hR hO how
  clear p1_0 o1_0 r1_0 f1_0 g1_0 p1_1 o1_1 r1_1 f1_1 g1_1 p1_2 o1_2 r1_2 f1_2 g1_2 p1_3 o1_3 r1_3 f1_3 g1_3 p1_4 o1_4 r1_4 f1_4 g1_4 p1_5 o1_5 r1_5 f1_5 g1_5
  have p2_0 := HP2.out.at_ 0 rfl
  have o2_0 := HO2.out.at_ 0 rfl
  have r2_0 := HR2.out.at_ 0 rfl
  have f2_0 := HO2.out.soft 0
  have g2_0 := HR2.out.soft 0
  have p2_1 := HP2.out.at_ 1 rfl
  have o2_1 := HO2.out.at_ 1 rfl
  have r2_1 := HR2.out.at_ 1 rfl
  have f2_1 := HO2.out.soft 1
  have g2_1 := HR2.out.soft 1
  have p2_2 := HP2.out.at_ 2 rfl
  have o2_2 := HO2.out.at_ 2 rfl
  have r2_2 := HR2.out.at_ 2 rfl
  have f2_2 := HO2.out.soft 2
  have g2_2 := HR2.out.soft 2
  have p2_3 := HP2.out.at_ 3 rfl
  have o2_3 := HO2.out.at_ 3 rfl
  have r2_3 := HR2.out.at_ 3 rfl
  have f2_3 := HO2.out.soft 3
  have g2_3 := HR2.out.soft 3
  have p2_4 := HP2.out.at_ 4 rfl
  have o2_4 := HO2.out.at_ 4 rfl
  have r2_4 := HR2.out.at_ 4 rfl
  have f2_4 := HO2.out.soft 4
  have g2_4 := HR2.out.soft 4
  have p2_5 := HP2.out.at_ 5 rfl
  have o2_5 := HO2.out.at_ 5 rfl
  have r2_5 := HR2.out.at_ 5 rfl
  have f2_5 := HO2.out.soft 5
  have g2_5 := HR2.out.soft 5
  go_wp2
  refine bodyPost_ret (v := .agg #[.int .i64 x0, .int .i64 x1, .int .i64 x2, .int .i64 x3, .int .i64 x4, .int .i64 x5]) (by simp [results, Tryd.results92, go_sem, *]) rfl ⟨[.int .i64 x0, .int .i64 x1, .int .i64 x2, .int .i64 x3, .int .i64 x4, .int .i64 x5], rfl, ?_, ((((((((((HB2.out.setCell (p := ⟨W.heap.size + 1 + 1, 2, none⟩) (by show W.heap.size ≤ W.heap.size + 1 + 1; omega) (.int .i64 x2)).setCell (p := ⟨W.heap.size + 1 + 1, 3, none⟩) (by show W.heap.size ≤ W.heap.size + 1 + 1; omega) (.int .i64 x3)).setCell (p := ⟨W.heap.size + 1 + 1, 4, none⟩) (by show W.heap.size ≤ W.heap.size + 1 + 1; omega) (.int .i64 x4)).setCell (p := ⟨W.heap.size + 1 + 1, 5, none⟩) (by show W.heap.size ≤ W.heap.size + 1 + 1; omega) (.int .i64 x5)).setCell (p := ⟨W.heap.size + 1, 0, none⟩) (by show W.heap.size ≤ W.heap.size + 1; omega) (.int .i64 x0)).setCell (p := ⟨W.heap.size + 1, 1, none⟩) (by show W.heap.size ≤ W.heap.size + 1; omega) (.int .i64 x1)).setCell (p := ⟨W.heap.size + 1, 2, none⟩) (by show W.heap.size ≤ W.heap.size + 1; omega) (.int .i64 x2)).setCell (p := ⟨W.heap.size + 1, 3, none⟩) (by show W.heap.size ≤ W.heap.size + 1; omega) (.int .i64 x3)).setCell (p := ⟨W.heap.size + 1, 4, none⟩) (by show W.heap.size ≤ W.heap.size + 1; omega) (.int .i64 x4)).setCell (p := ⟨W.heap.size + 1, 5, none⟩) (by show W.heap.size ≤ W.heap.size + 1; omega) (.int .i64 x5))⟩
  have hoff := (((((((((((Off.refl (fun x => x < W.heap.size + 3) w2).setCell (p := ⟨W.heap.size + 1 + 1, 2, none⟩) (by show W.heap.size + 1 + 1 < W.heap.size + 3; omega) (.int .i64 x2)).setCell (p := ⟨W.heap.size + 1 + 1, 3, none⟩) (by show W.heap.size + 1 + 1 < W.heap.size + 3; omega) (.int .i64 x3)).setCell (p := ⟨W.heap.size + 1 + 1, 4, none⟩) (by show W.heap.size + 1 + 1 < W.heap.size + 3; omega) (.int .i64 x4)).setCell (p := ⟨W.heap.size + 1 + 1, 5, none⟩) (by show W.heap.size + 1 + 1 < W.heap.size + 3; omega) (.int .i64 x5)).setCell (p := ⟨W.heap.size + 1, 0, none⟩) (by show W.heap.size + 1 < W.heap.size + 3; omega) (.int .i64 x0)).setCell (p := ⟨W.heap.size + 1, 1, none⟩) (by show W.heap.size + 1 < W.heap.size + 3; omega) (.int .i64 x1)).setCell (p := ⟨W.heap.size + 1, 2, none⟩) (by show W.heap.size + 1 < W.heap.size + 3; omega) (.int .i64 x2)).setCell (p := ⟨W.heap.size + 1, 3, none⟩) (by show W.heap.size + 1 < W.heap.size + 3; omega) (.int .i64 x3)).setCell (p := ⟨W.heap.size + 1, 4, none⟩) (by show W.heap.size + 1 < W.heap.size + 3; omega) (.int .i64 x4)).setCell (p := ⟨W.heap.size + 1, 5, none⟩) (by show W.heap.size + 1 < W.heap.size + 3; omega) (.int .i64 x5))
  have hsz := hoff.size
  exact mkow_Letter

theorem size_LetterS : (R_Letter).size = 6 := rfl
def zs_LetterS (n : Nat) : Array Value := madeCells #[.int .i64 0, .int .i64 0, .int .i64 0, .int .i64 0, .int .i64 0, .int .i64 0] (n * 6)
theorem zs_LetterS_size (n : Nat) : (zs_LetterS n).size = n * (R_Letter).size := by unfold zs_LetterS; simp [madeCells, size_LetterS]
theorem make_LetterS (n : Nat) (hn : n ≤ 1048576) : ∀ W : World, (Instr.makeSlice 40 (.int .i64 (n : Int)) (.int .i64 (n : Int))).run Tryd.prog W = .ok (.slice (some ⟨W.heap.size, 0, none⟩) n n) (W.alloc (.cells (zs_LetterS n) 87)) := by
  intro W
  obtain ⟨i, hi, hz, hs, hb⟩ : ∃ i, Tryd.prog.info? 87 = some i ∧ i.zero = some (.agg #[.int .i64 0, .int .i64 0, .int .i64 0, .int .i64 0, .int .i64 0, .int .i64 0]) ∧ i.size = 6 ∧ i.bytes = 48 := by
    have h : (Tryd.prog.info? 87).map (fun i => (i.zero, i.size, i.bytes)) = some (some (.agg #[.int .i64 0, .int .i64 0, .int .i64 0, .int .i64 0, .int .i64 0, .int .i64 0]), 6, 48) := by kernel_rfl
    cases hx : Tryd.prog.info? 87 with
    | none => rw [hx] at h; simp at h
    | some i => rw [hx] at h; simp at h; exact ⟨i, rfl, h.1, h.2.1, h.2.2⟩
  have hr := run_make (P := Tryd.prog) W 40 87 i _ Tryd.underlying40 hi hz .i64 .i64 n n (by omega) (by omega) (by rw [hb]; omega) (by omega)
  rw [hs] at hr
  simp only [Int.toNat_natCast] at hr
  exact hr

set_option maxRecDepth 100000 in
set_option maxHeartbeats 3200000 in
theorem to_LetterS {L : List (D_Letter)} {a : Option Addr} {cap : Nat} {W : World} (hsz : ((Sl R_Letter)).sz L ≤ 1048576) (h : RdSl R_Letter W W.heap.size L a cap) : Calls Tryd.prog 78 #[.slice a L.length cap] W (NewS R_Letter L W) := by
  have hn : L.length ≤ 1048576 := Nat.le_trans (Nat.le_add_right _ _) hsz
  have hmk := make_LetterS L.length hn
  have H := Lib.hid h
  have HSZ := Lib.hid hsz
  clear h hsz
  go_enter Tryd.func78, Tryd.ntmps78
  go_wp2
  go_loopw [4] (fun i wr => ∃ k : Nat, k ≤ L.length ∧ i = .int .i64 k ∧ ∃ Sf, Fil R_Letter W wr L W.heap.size Sf k) (fun i _ => L.length - (intOf i).toNat)
  case atStart => exact ⟨0, Nat.zero_le _, rfl, _, Fil.new (by exact zs_LetterS_size _)⟩
  case round =>
    obtain ⟨k, hk, rfl, Sf, hF⟩ := hrel
    have HF := Lib.hid hF
    by_cases hlt : k < L.length
    · obtain ⟨⟨⟨x0, x1⟩, ⟨x2, x3⟩, x4, x5⟩, hx⟩ := el_some hlt
      have HX := Lib.hid hx
      obtain ⟨g, o, us, rfl, hg, hu, hr⟩ := (H.out.below R_Letter_ok hF.below).at_ hx
      obtain rfl := rd_Letter hr
      have e0 : wr.cell? ⟨g, o + k * 6, none⟩ = some (.int .i64 x0) := by simpa [size_LetterS, Nat.add_assoc] using hu 0 _ rfl
      have e1 : wr.cell? ⟨g, o + k * 6 + 1, none⟩ = some (.int .i64 x1) := by simpa [size_LetterS, Nat.add_assoc] using hu 1 _ rfl
      have e2 : wr.cell? ⟨g, o + k * 6 + 2, none⟩ = some (.int .i64 x2) := by simpa [size_LetterS, Nat.add_assoc] using hu 2 _ rfl
      have e3 : wr.cell? ⟨g, o + k * 6 + 3, none⟩ = some (.int .i64 x3) := by simpa [size_LetterS, Nat.add_assoc] using hu 3 _ rfl
      have e4 : wr.cell? ⟨g, o + k * 6 + 4, none⟩ = some (.int .i64 x4) := by simpa [size_LetterS, Nat.add_assoc] using hu 4 _ rfl
      have e5 : wr.cell? ⟨g, o + k * 6 + 5, none⟩ = some (.int .i64 x5) := by simpa [size_LetterS, Nat.add_assoc] using hu 5 _ rfl
      have hi0 : (0 : Int) ≤ (k : Int) := Int.natCast_nonneg _
      have hi1 : (k : Int) < (L.length : Int) := by omega
      have HE := Lib.hid (sz_at (f := (R_Letter).sz) HX.out HSZ.out)
      clear hF hx hu hmk
      go_wp2_with fail
      refine (to_Letter (by exact HE.out)).mono ?_
      intro e w1 h
      obtain ⟨vs, rfl, how, hb⟩ := newV_elim h
      have HOW := Lib.hid how
      obtain rfl := ow0_Letter how
      have HP := Lib.hid (HF.out.put R_Letter_ok HX.out hb HOW.out)
      have hlt1 := HF.out.lt
      obtain ⟨t0, ht0⟩ := HF.out.there (k * 6) (by rw [size_LetterS]; omega)
      have q0 := (hb.cell (p := ⟨W.heap.size, k * 6, none⟩) hlt1).trans ht0
      have s0 := (hb.frozen (p := ⟨W.heap.size, k * 6, none⟩) hlt1).trans (HF.out.soft (k * 6))
      obtain ⟨t1, ht1⟩ := HF.out.there (k * 6 + 1) (by rw [size_LetterS]; omega)
      have q1 := (hb.cell (p := ⟨W.heap.size, k * 6 + 1, none⟩) hlt1).trans ht1
      have s1 := (hb.frozen (p := ⟨W.heap.size, k * 6 + 1, none⟩) hlt1).trans (HF.out.soft (k * 6 + 1))
      obtain ⟨t2, ht2⟩ := HF.out.there (k * 6 + 2) (by rw [size_LetterS]; omega)
      have q2 := (hb.cell (p := ⟨W.heap.size, k * 6 + 2, none⟩) hlt1).trans ht2
      have s2 := (hb.frozen (p := ⟨W.heap.size, k * 6 + 2, none⟩) hlt1).trans (HF.out.soft (k * 6 + 2))
      obtain ⟨t3, ht3⟩ := HF.out.there (k * 6 + 3) (by rw [size_LetterS]; omega)
      have q3 := (hb.cell (p := ⟨W.heap.size, k * 6 + 3, none⟩) hlt1).trans ht3
      have s3 := (hb.frozen (p := ⟨W.heap.size, k * 6 + 3, none⟩) hlt1).trans (HF.out.soft (k * 6 + 3))
      obtain ⟨t4, ht4⟩ := HF.out.there (k * 6 + 4) (by rw [size_LetterS]; omega)
      have q4 := (hb.cell (p := ⟨W.heap.size, k * 6 + 4, none⟩) hlt1).trans ht4
      have s4 := (hb.frozen (p := ⟨W.heap.size, k * 6 + 4, none⟩) hlt1).trans (HF.out.soft (k * 6 + 4))
      obtain ⟨t5, ht5⟩ := HF.out.there (k * 6 + 5) (by rw [size_LetterS]; omega)
      have q5 := (hb.cell (p := ⟨W.heap.size, k * 6 + 5, none⟩) hlt1).trans ht5
      have s5 := (hb.frozen (p := ⟨W.heap.size, k * 6 + 5, none⟩) hlt1).trans (HF.out.soft (k * 6 + 5))
      clear h how hb ht0 ht1 ht2 ht3 ht4 ht5 e0 e1 e2 e3 e4 e5
      go_wp2
      go_roundw
      case rel => exact ⟨k + 1, by omega, by go_num, _, by simpa [putCells, size_LetterS, Nat.add_assoc] using HP.out⟩
      case measure => simp [intOf]; omega
    · obtain rfl : k = L.length := by omega
      have HR := Lib.hid (HF.out.news (by unfold maxLen; omega))
      clear hF hmk
      go_wp2
      go_ret
      exact HR.out


set_option maxRecDepth 100000 in
set_option maxHeartbeats 3200000 in
theorem to_Desk {L0 : List (D_Letter)} {L1 : List (D_Letter)} {L2 : List (D_Letter)} {x3 : Int} {x4 : Int} {a0 : Option Addr} {c0 : Nat} {a1 : Option Addr} {c1 : Nat} {a2 : Option Addr} {c2 : Nat} {W : World} (hsz : R_Desk.sz (L0, L1, L2, x3, x4) ≤ 1048576) (h_L0 : RdSl R_Letter W W.heap.size L0 a0 c0) (h_L1 : RdSl R_Letter W W.heap.size L1 a1 c1) (h_L2 : RdSl R_Letter W W.heap.size L2 a2 c2) : Calls Tryd.prog 41 #[.agg #[.slice a0 L0.length c0, .slice a1 L1.length c1, .slice a2 L2.length c2, .int .i64 x3, .int .i64 x4]] W (NewV R_Desk (L0, L1, L2, x3, x4) W) := by
  have H_L0 := Lib.hid h_L0
  have H_L1 := Lib.hid h_L1
  have H_L2 := Lib.hid h_L2
  have HSZ := Lib.hid hsz
  clear hsz h_L0 h_L1 h_L2
  have hP := ((Blk.new W 60 #[.slice a0 L0.length c0, .slice a1 L1.length c1, .slice a2 L2.length c2, .int .i64 x3, .int .i64 x4]).alloc (.cells #[.slice none 0 0, .slice none 0 0, .slice none 0 0, .int .i64 0, .int .i64 0] 42)).alloc (.cells #[.slice none 0 0, .slice none 0 0, .slice none 0 0, .int .i64 0, .int .i64 0] 42)
  have hR := (Blk.new (W.alloc (.cells #[.slice a0 L0.length c0, .slice a1 L1.length c1, .slice a2 L2.length c2, .int .i64 x3, .int .i64 x4] 60)) 42 #[.slice none 0 0, .slice none 0 0, .slice none 0 0, .int .i64 0, .int .i64 0]).alloc (.cells #[.slice none 0 0, .slice none 0 0, .slice none 0 0, .int .i64 0, .int .i64 0] 42)
  have hO := Blk.new ((W.alloc (.cells #[.slice a0 L0.length c0, .slice a1 L1.length c1, .slice a2 L2.length c2, .int .i64 x3, .int .i64 x4] 60)).alloc (.cells #[.slice none 0 0, .slice none 0 0, .slice none 0 0, .int .i64 0, .int .i64 0] 42)) 42 #[.slice none 0 0, .slice none 0 0, .slice none 0 0, .int .i64 0, .int .i64 0]
  simp only [World.size_alloc] at hP hR hO
  have HB0 := Lib.hid (show Below W.heap.size W (((W.alloc (.cells #[.slice a0 L0.length c0, .slice a1 L1.length c1, .slice a2 L2.length c2, .int .i64 x3, .int .i64 x4] 60)).alloc (.cells #[.slice none 0 0, .slice none 0 0, .slice none 0 0, .int .i64 0, .int .i64 0] 42)).alloc (.cells #[.slice none 0 0, .slice none 0 0, .slice none 0 0, .int .i64 0, .int .i64 0] 42)) from (((Below.refl _ _).alloc (Nat.le_refl _) _).alloc (by simp) _).alloc (by simp; omega) _)
  have hz0 : W.heap.size + 3 ≤ (((W.alloc (.cells #[.slice a0 L0.length c0, .slice a1 L1.length c1, .slice a2 L2.length c2, .int .i64 x3, .int .i64 x4] 60)).alloc (.cells #[.slice none 0 0, .slice none 0 0, .slice none 0 0, .int .i64 0, .int .i64 0] 42)).alloc (.cells #[.slice none 0 0, .slice none 0 0, .slice none 0 0, .int .i64 0, .int .i64 0] 42)).heap.size := by simp
  have HP0 := Lib.hid hP
  have HR0 := Lib.hid hR
  have HO0 := Lib.hid hO
  clear hP hR hO
  go_enter Tryd.func41, Tryd.ntmps41
  go_wp2_with fail
  refine (to_LetterS (by have h0 := HSZ.out; simp only [R_Desk, Pr, Sl, I, Bo, atom] at h0 ⊢; omega) ((H_L0.out.below R_Letter_ok HB0.out).more R_Letter_ok (by have h0 := hz0; first | omega | (simp; omega)))).mono ?_
  intro e w1 h
  obtain ⟨b_L0, d_L0, rfl, how_L0, hb⟩ := newS_elim h
  have hP : Blk w1 (W.heap.size) 60 #[.slice a0 L0.length c0, .slice a1 L1.length c1, .slice a2 L2.length c2, .int .i64 x3, .int .i64 x4] := Blk.call HP0.out hb
  have hR : Blk w1 (W.heap.size + 1) 42 #[.slice none 0 0, .slice none 0 0, .slice none 0 0, .int .i64 0, .int .i64 0] := Blk.call HR0.out hb
  have hO : Blk w1 (W.heap.size + 1 + 1) 42 #[.slice none 0 0, .slice none 0 0, .slice none 0 0, .int .i64 0, .int .i64 0] := Blk.call HO0.out hb
  have hz1 : W.heap.size + 3 ≤ w1.heap.size := Nat.le_trans hz0 (size_call hb (S := fun x => x < W.heap.size + 3) (Off.refl (fun x => x < W.heap.size + 3) _))
  have HB1 := Lib.hid (Below.trans (B := W.heap.size) (a := W) HB0.out (hb.mono (by have h0 := hz0; first | omega | (simp; omega))))
  have HO_L0 := Lib.hid how_L0
  have HL_L0 := Lib.hid (fun k hk => rg_call hb (m := W.heap.size + 3) (by have h0 := hz0; first | omega | (simp; omega)) k hk)
  have HU_L0 := Lib.hid (rg_call hb (m := 0) (Nat.zero_le _))
  have HP1 := Lib.hid hP
  have HR1 := Lib.hid hR
  have HO1 := Lib.hid hO
  clear h hb hP hR hO how_L0
  have p1_0 := HP1.out.at_ 0 rfl
  have o1_0 := HO1.out.at_ 0 rfl
  have r1_0 := HR1.out.at_ 0 rfl
  have f1_0 := HO1.out.soft 0
  have g1_0 := HR1.out.soft 0
  have p1_1 := HP1.out.at_ 1 rfl
  have o1_1 := HO1.out.at_ 1 rfl
  have r1_1 := HR1.out.at_ 1 rfl
  have f1_1 := HO1.out.soft 1
  have g1_1 := HR1.out.soft 1
  have p1_2 := HP1.out.at_ 2 rfl
  have o1_2 := HO1.out.at_ 2 rfl
  have r1_2 := HR1.out.at_ 2 rfl
  have f1_2 := HO1.out.soft 2
  have g1_2 := HR1.out.soft 2
  have p1_3 := HP1.out.at_ 3 rfl
  have o1_3 := HO1.out.at_ 3 rfl
  have r1_3 := HR1.out.at_ 3 rfl
  have f1_3 := HO1.out.soft 3
  have g1_3 := HR1.out.soft 3
  have p1_4 := HP1.out.at_ 4 rfl
  have o1_4 := HO1.out.at_ 4 rfl
  have r1_4 := HR1.out.at_ 4 rfl
  have f1_4 := HO1.out.soft 4
  have g1_4 := HR1.out.soft 4
  go_wp2_with fail
  refine (to_LetterS (by have h0 := HSZ.out; simp only [R_Desk, Pr, Sl, I, Bo, atom] at h0 ⊢; omega) ((H_L1.out.below R_Letter_ok (HB1.out.setCell (p := ⟨W.heap.size + 1 + 1, 0, none⟩) (by show W.heap.size ≤ W.heap.size + 1 + 1; omega) (.slice b_L0 L0.length d_L0))).more R_Letter_ok (by have h0 := hz1; first | omega | (simp; omega)))).mono ?_
  intro e w2 h
  obtain ⟨b_L1, d_L1, rfl, how_L1, hb⟩ := newS_elim h
  have hP : Blk w2 (W.heap.size) 60 #[.slice a0 L0.length c0, .slice a1 L1.length c1, .slice a2 L2.length c2, .int .i64 x3, .int .i64 x4] := Blk.call (Blk.far (b := W.heap.size + 1 + 1) (o := 0) HP1.out (by omega) (.slice b_L0 L0.length d_L0)) hb
  have hR : Blk w2 (W.heap.size + 1) 42 #[.slice none 0 0, .slice none 0 0, .slice none 0 0, .int .i64 0, .int .i64 0] := Blk.call (Blk.far (b := W.heap.size + 1 + 1) (o := 0) HR1.out (by omega) (.slice b_L0 L0.length d_L0)) hb
  have hO : Blk w2 (W.heap.size + 1 + 1) 42 #[.slice b_L0 L0.length d_L0, .slice none 0 0, .slice none 0 0, .int .i64 0, .int .i64 0] := Blk.call (Blk.set HO1.out 0 (.slice b_L0 L0.length d_L0)) hb
  have hz2 : W.heap.size + 3 ≤ w2.heap.size := Nat.le_trans hz1 (size_call hb (S := fun x => x < W.heap.size + 3) ((Off.refl (fun x => x < W.heap.size + 3) w1).setCell (p := ⟨W.heap.size + 1 + 1, 0, none⟩) (by show W.heap.size + 1 + 1 < W.heap.size + 3; omega) (.slice b_L0 L0.length d_L0)))
  have HO_L0 := Lib.hid (HO_L0.out.keep R_Letter_ok (fun k hk => keep_call hb (S := fun x => x < W.heap.size + 3) ((Off.refl (fun x => x < W.heap.size + 3) w1).setCell (p := ⟨W.heap.size + 1 + 1, 0, none⟩) (by show W.heap.size + 1 + 1 < W.heap.size + 3; omega) (.slice b_L0 L0.length d_L0)) k (HL_L0.out k hk).2 (by have := (HL_L0.out k hk).1; omega)))
  have HL_L0 := Lib.hid (fun k hk => (⟨(HL_L0.out k hk).1, Nat.lt_of_lt_of_le (HL_L0.out k hk).2 (size_call hb (S := fun x => x < W.heap.size + 3) ((Off.refl (fun x => x < W.heap.size + 3) w1).setCell (p := ⟨W.heap.size + 1 + 1, 0, none⟩) (by show W.heap.size + 1 + 1 < W.heap.size + 3; omega) (.slice b_L0 L0.length d_L0)))⟩ : W.heap.size + 3 ≤ k ∧ k < w2.heap.size))
  have HB2 := Lib.hid (Below.trans (B := W.heap.size) (a := W) (HB1.out.setCell (p := ⟨W.heap.size + 1 + 1, 0, none⟩) (by show W.heap.size ≤ W.heap.size + 1 + 1; omega) (.slice b_L0 L0.length d_L0)) (hb.mono (by have h0 := hz1; first | omega | (simp; omega))))
  have HO_L1 := Lib.hid how_L1
  have HL_L1 := Lib.hid (fun k hk => rg_call hb (m := W.heap.size + 3) (by have h0 := hz1; first | omega | (simp; omega)) k hk)
  have HU_L1 := Lib.hid (rg_call hb (m := 0) (Nat.zero_le _))
  have HG_L1 := Lib.hid (lo_of hb ((Off.refl (fun x => x < W.heap.size + 3) w1).setCell (p := ⟨W.heap.size + 1 + 1, 0, none⟩) (by show W.heap.size + 1 + 1 < W.heap.size + 3; omega) (.slice b_L0 L0.length d_L0)))
  have hle2 := size_call hb ((Off.refl (fun x => x < W.heap.size + 3) w1).setCell (p := ⟨W.heap.size + 1 + 1, 0, none⟩) (by show W.heap.size + 1 + 1 < W.heap.size + 3; omega) (.slice b_L0 L0.length d_L0))
  have HP2 := Lib.hid hP
  have HR2 := Lib.hid hR
  have HO2 := Lib.hid hO
  clear h hb hP hR hO how_L1
  clear p1_0 o1_0 r1_0 f1_0 g1_0 p1_1 o1_1 r1_1 f1_1 g1_1 p1_2 o1_2 r1_2 f1_2 g1_2 p1_3 o1_3 r1_3 f1_3 g1_3 p1_4 o1_4 r1_4 f1_4 g1_4
  have p2_0 := HP2.out.at_ 0 rfl
  have o2_0 := HO2.out.at_ 0 rfl
  have r2_0 := HR2.out.at_ 0 rfl
  have f2_0 := HO2.out.soft 0
  have g2_0 := HR2.out.soft 0
  have p2_1 := HP2.out.at_ 1 rfl
  have o2_1 := HO2.out.at_ 1 rfl
  have r2_1 := HR2.out.at_ 1 rfl
  have f2_1 := HO2.out.soft 1
  have g2_1 := HR2.out.soft 1
  have p2_2 := HP2.out.at_ 2 rfl
  have o2_2 := HO2.out.at_ 2 rfl
  have r2_2 := HR2.out.at_ 2 rfl
  have f2_2 := HO2.out.soft 2
  have g2_2 := HR2.out.soft 2
  have p2_3 := HP2.out.at_ 3 rfl
  have o2_3 := HO2.out.at_ 3 rfl
  have r2_3 := HR2.out.at_ 3 rfl
  have f2_3 := HO2.out.soft 3
  have g2_3 := HR2.out.soft 3
  have p2_4 := HP2.out.at_ 4 rfl
  have o2_4 := HO2.out.at_ 4 rfl
  have r2_4 := HR2.out.at_ 4 rfl
  have f2_4 := HO2.out.soft 4
  have g2_4 := HR2.out.soft 4
  go_wp2_with fail
  refine (to_LetterS (by have h0 := HSZ.out; simp only [R_Desk, Pr, Sl, I, Bo, atom] at h0 ⊢; omega) ((H_L2.out.below R_Letter_ok (HB2.out.setCell (p := ⟨W.heap.size + 1 + 1, 1, none⟩) (by show W.heap.size ≤ W.heap.size + 1 + 1; omega) (.slice b_L1 L1.length d_L1))).more R_Letter_ok (by have h0 := hz2; first | omega | (simp; omega)))).mono ?_
  intro e w3 h
  obtain ⟨b_L2, d_L2, rfl, how_L2, hb⟩ := newS_elim h
  have hP : Blk w3 (W.heap.size) 60 #[.slice a0 L0.length c0, .slice a1 L1.length c1, .slice a2 L2.length c2, .int .i64 x3, .int .i64 x4] := Blk.call (Blk.far (b := W.heap.size + 1 + 1) (o := 1) HP2.out (by omega) (.slice b_L1 L1.length d_L1)) hb
  have hR : Blk w3 (W.heap.size + 1) 42 #[.slice none 0 0, .slice none 0 0, .slice none 0 0, .int .i64 0, .int .i64 0] := Blk.call (Blk.far (b := W.heap.size + 1 + 1) (o := 1) HR2.out (by omega) (.slice b_L1 L1.length d_L1)) hb
  have hO : Blk w3 (W.heap.size + 1 + 1) 42 #[.slice b_L0 L0.length d_L0, .slice b_L1 L1.length d_L1, .slice none 0 0, .int .i64 0, .int .i64 0] := Blk.call (Blk.set HO2.out 1 (.slice b_L1 L1.length d_L1)) hb
  have hz3 : W.heap.size + 3 ≤ w3.heap.size := Nat.le_trans hz2 (size_call hb (S := fun x => x < W.heap.size + 3) ((Off.refl (fun x => x < W.heap.size + 3) w2).setCell (p := ⟨W.heap.size + 1 + 1, 1, none⟩) (by show W.heap.size + 1 + 1 < W.heap.size + 3; omega) (.slice b_L1 L1.length d_L1)))
  have HO_L0 := Lib.hid (HO_L0.out.keep R_Letter_ok (fun k hk => keep_call hb (S := fun x => x < W.heap.size + 3) ((Off.refl (fun x => x < W.heap.size + 3) w2).setCell (p := ⟨W.heap.size + 1 + 1, 1, none⟩) (by show W.heap.size + 1 + 1 < W.heap.size + 3; omega) (.slice b_L1 L1.length d_L1)) k (HL_L0.out k hk).2 (by have := (HL_L0.out k hk).1; omega)))
  have HO_L1 := Lib.hid (HO_L1.out.keep R_Letter_ok (fun k hk => keep_call hb (S := fun x => x < W.heap.size + 3) ((Off.refl (fun x => x < W.heap.size + 3) w2).setCell (p := ⟨W.heap.size + 1 + 1, 1, none⟩) (by show W.heap.size + 1 + 1 < W.heap.size + 3; omega) (.slice b_L1 L1.length d_L1)) k (HL_L1.out k hk).2 (by have := (HL_L1.out k hk).1; omega)))
  have HL_L0 := Lib.hid (fun k hk => (⟨(HL_L0.out k hk).1, Nat.lt_of_lt_of_le (HL_L0.out k hk).2 (size_call hb (S := fun x => x < W.heap.size + 3) ((Off.refl (fun x => x < W.heap.size + 3) w2).setCell (p := ⟨W.heap.size + 1 + 1, 1, none⟩) (by show W.heap.size + 1 + 1 < W.heap.size + 3; omega) (.slice b_L1 L1.length d_L1)))⟩ : W.heap.size + 3 ≤ k ∧ k < w3.heap.size))
  have HL_L1 := Lib.hid (fun k hk => (⟨(HL_L1.out k hk).1, Nat.lt_of_lt_of_le (HL_L1.out k hk).2 (size_call hb (S := fun x => x < W.heap.size + 3) ((Off.refl (fun x => x < W.heap.size + 3) w2).setCell (p := ⟨W.heap.size + 1 + 1, 1, none⟩) (by show W.heap.size + 1 + 1 < W.heap.size + 3; omega) (.slice b_L1 L1.length d_L1)))⟩ : W.heap.size + 3 ≤ k ∧ k < w3.heap.size))
  have HB3 := Lib.hid (Below.trans (B := W.heap.size) (a := W) (HB2.out.setCell (p := ⟨W.heap.size + 1 + 1, 1, none⟩) (by show W.heap.size ≤ W.heap.size + 1 + 1; omega) (.slice b_L1 L1.length d_L1)) (hb.mono (by have h0 := hz2; first | omega | (simp; omega))))
  have HO_L2 := Lib.hid how_L2
  have HL_L2 := Lib.hid (fun k hk => rg_call hb (m := W.heap.size + 3) (by have h0 := hz2; first | omega | (simp; omega)) k hk)
  have HU_L2 := Lib.hid (rg_call hb (m := 0) (Nat.zero_le _))
  have HG_L2 := Lib.hid (lo_of hb ((Off.refl (fun x => x < W.heap.size + 3) w2).setCell (p := ⟨W.heap.size + 1 + 1, 1, none⟩) (by show W.heap.size + 1 + 1 < W.heap.size + 3; omega) (.slice b_L1 L1.length d_L1)))
  have hle3 := size_call hb ((Off.refl (fun x => x < W.heap.size + 3) w2).setCell (p := ⟨W.heap.size + 1 + 1, 1, none⟩) (by show W.heap.size + 1 + 1 < W.heap.size + 3; omega) (.slice b_L1 L1.length d_L1))
  have HP3 := Lib.hid hP
  have HR3 := Lib.hid hR
  have HO3 := Lib.hid hO
  clear h hb hP hR hO how_L2
  clear p2_0 o2_0 r2_0 f2_0 g2_0 p2_1 o2_1 r2_1 f2_1 g2_1 p2_2 o2_2 r2_2 f2_2 g2_2 p2_3 o2_3 r2_3 f2_3 g2_3 p2_4 o2_4 r2_4 f2_4 g2_4
  have p3_0 := HP3.out.at_ 0 rfl
  have o3_0 := HO3.out.at_ 0 rfl
  have r3_0 := HR3.out.at_ 0 rfl
  have f3_0 := HO3.out.soft 0
  have g3_0 := HR3.out.soft 0
  have p3_1 := HP3.out.at_ 1 rfl
  have o3_1 := HO3.out.at_ 1 rfl
  have r3_1 := HR3.out.at_ 1 rfl
  have f3_1 := HO3.out.soft 1
  have g3_1 := HR3.out.soft 1
  have p3_2 := HP3.out.at_ 2 rfl
  have o3_2 := HO3.out.at_ 2 rfl
  have r3_2 := HR3.out.at_ 2 rfl
  have f3_2 := HO3.out.soft 2
  have g3_2 := HR3.out.soft 2
  have p3_3 := HP3.out.at_ 3 rfl
  have o3_3 := HO3.out.at_ 3 rfl
  have r3_3 := HR3.out.at_ 3 rfl
  have f3_3 := HO3.out.soft 3
  have g3_3 := HR3.out.soft 3
  have p3_4 := HP3.out.at_ 4 rfl
  have o3_4 := HO3.out.at_ 4 rfl
  have r3_4 := HR3.out.at_ 4 rfl
  have f3_4 := HO3.out.soft 4
  have g3_4 := HR3.out.soft 4
  go_wp2
  refine bodyPost_ret (v := .agg #[.slice b_L0 L0.length d_L0, .slice b_L1 L1.length d_L1, .slice b_L2 L2.length d_L2, .int .i64 x3, .int .i64 x4]) (by simp [results, Tryd.results41, go_sem, *]) rfl ⟨[.slice b_L0 L0.length d_L0, .slice b_L1 L1.length d_L1, .slice b_L2 L2.length d_L2, .int .i64 x3, .int .i64 x4], rfl, ?_, ((((((((HB3.out.setCell (p := ⟨W.heap.size + 1 + 1, 2, none⟩) (by show W.heap.size ≤ W.heap.size + 1 + 1; omega) (.slice b_L2 L2.length d_L2)).setCell (p := ⟨W.heap.size + 1 + 1, 3, none⟩) (by show W.heap.size ≤ W.heap.size + 1 + 1; omega) (.int .i64 x3)).setCell (p := ⟨W.heap.size + 1 + 1, 4, none⟩) (by show W.heap.size ≤ W.heap.size + 1 + 1; omega) (.int .i64 x4)).setCell (p := ⟨W.heap.size + 1, 0, none⟩) (by show W.heap.size ≤ W.heap.size + 1; omega) (.slice b_L0 L0.length d_L0)).setCell (p := ⟨W.heap.size + 1, 1, none⟩) (by show W.heap.size ≤ W.heap.size + 1; omega) (.slice b_L1 L1.length d_L1)).setCell (p := ⟨W.heap.size + 1, 2, none⟩) (by show W.heap.size ≤ W.heap.size + 1; omega) (.slice b_L2 L2.length d_L2)).setCell (p := ⟨W.heap.size + 1, 3, none⟩) (by show W.heap.size ≤ W.heap.size + 1; omega) (.int .i64 x3)).setCell (p := ⟨W.heap.size + 1, 4, none⟩) (by show W.heap.size ≤ W.heap.size + 1; omega) (.int .i64 x4))⟩
  have hoff := (((((((((Off.refl (fun x => x < W.heap.size + 3) w3).setCell (p := ⟨W.heap.size + 1 + 1, 2, none⟩) (by show W.heap.size + 1 + 1 < W.heap.size + 3; omega) (.slice b_L2 L2.length d_L2)).setCell (p := ⟨W.heap.size + 1 + 1, 3, none⟩) (by show W.heap.size + 1 + 1 < W.heap.size + 3; omega) (.int .i64 x3)).setCell (p := ⟨W.heap.size + 1 + 1, 4, none⟩) (by show W.heap.size + 1 + 1 < W.heap.size + 3; omega) (.int .i64 x4)).setCell (p := ⟨W.heap.size + 1, 0, none⟩) (by show W.heap.size + 1 < W.heap.size + 3; omega) (.slice b_L0 L0.length d_L0)).setCell (p := ⟨W.heap.size + 1, 1, none⟩) (by show W.heap.size + 1 < W.heap.size + 3; omega) (.slice b_L1 L1.length d_L1)).setCell (p := ⟨W.heap.size + 1, 2, none⟩) (by show W.heap.size + 1 < W.heap.size + 3; omega) (.slice b_L2 L2.length d_L2)).setCell (p := ⟨W.heap.size + 1, 3, none⟩) (by show W.heap.size + 1 < W.heap.size + 3; omega) (.int .i64 x3)).setCell (p := ⟨W.heap.size + 1, 4, none⟩) (by show W.heap.size + 1 < W.heap.size + 3; omega) (.int .i64 x4))
  have hsz := hoff.size
  exact mkow_Desk (fun k hk => ⟨by have := (HL_L0.out k hk).1; omega, by have := (HL_L0.out k hk).2; omega⟩) (fun k hk => ⟨by have := (HL_L1.out k hk).1; omega, by have := (HL_L1.out k hk).2; omega⟩) (fun k hk => ⟨by have := (HL_L2.out k hk).1; omega, by have := (HL_L2.out k hk).2; omega⟩) (fun k h h' => by have h1 := (HU_L0.out k h).2; have h2 := HG_L1.out k h'; omega) (fun k h h' => by have h1 := (HU_L0.out k h).2; have h2 := HG_L2.out k h'; omega) (fun k h h' => by have h1 := (HU_L1.out k h).2; have h2 := HG_L2.out k h'; omega) (HO_L0.out.keep R_Letter_ok (fun k hk => hoff.block k (HL_L0.out k hk).2 (by have := (HL_L0.out k hk).1; omega))) (HO_L1.out.keep R_Letter_ok (fun k hk => hoff.block k (HL_L1.out k hk).2 (by have := (HL_L1.out k hk).1; omega))) (HO_L2.out.keep R_Letter_ok (fun k hk => hoff.block k (HL_L2.out k hk).2 (by have := (HL_L2.out k hk).1; omega)))


set_option maxRecDepth 100000 in
set_option maxHeartbeats 3200000 in
theorem eq_Letter {x0 : Int} {x1 : Int} {x2 : Int} {x3 : Int} {x4 : Int} {x5 : Int}   {W : World} : Calls Tryd.prog 93 #[.agg #[.int .i64 x0, .int .i64 x1, .int .i64 x2, .int .i64 x3, .int .i64 x4, .int .i64 x5], .agg #[.int .i64 x0, .int .i64 x1, .int .i64 x2, .int .i64 x3, .int .i64 x4, .int .i64 x5]] W (IsB true W) := by
  have HB0 := Lib.hid (show Below W.heap.size W ((W.alloc (.cells #[.int .i64 x0, .int .i64 x1, .int .i64 x2, .int .i64 x3, .int .i64 x4, .int .i64 x5] 87)).alloc (.cells #[.int .i64 x0, .int .i64 x1, .int .i64 x2, .int .i64 x3, .int .i64 x4, .int .i64 x5] 87)) from ((Below.refl _ _).alloc (Nat.le_refl _) _).alloc (by simp) _)
  have hP := (Blk.new W 87 #[.int .i64 x0, .int .i64 x1, .int .i64 x2, .int .i64 x3, .int .i64 x4, .int .i64 x5]).alloc (.cells #[.int .i64 x0, .int .i64 x1, .int .i64 x2, .int .i64 x3, .int .i64 x4, .int .i64 x5] 87)
  have hQ := Blk.new (W.alloc (.cells #[.int .i64 x0, .int .i64 x1, .int .i64 x2, .int .i64 x3, .int .i64 x4, .int .i64 x5] 87)) 87 #[.int .i64 x0, .int .i64 x1, .int .i64 x2, .int .i64 x3, .int .i64 x4, .int .i64 x5]
  simp only [World.size_alloc] at hP hQ
  have HP0 := Lib.hid hP
  have HQ0 := Lib.hid hQ
  have hz0 : W.heap.size ≤ ((W.alloc (.cells #[.int .i64 x0, .int .i64 x1, .int .i64 x2, .int .i64 x3, .int .i64 x4, .int .i64 x5] 87)).alloc (.cells #[.int .i64 x0, .int .i64 x1, .int .i64 x2, .int .i64 x3, .int .i64 x4, .int .i64 x5] 87)).heap.size := HB0.out.size
  clear hP hQ
  go_enter Tryd.func93, Tryd.ntmps93
  go_wp2_with fail
  refine (eq_Label).mono ?_
  intro e w1 h
  obtain ⟨rfl, hb⟩ := isB_elim h
  have HP1 := Lib.hid (HP0.out.call hb)
  have HQ1 := Lib.hid (HQ0.out.call hb)
  have HB1 := Lib.hid (HB0.out.trans (hb.mono hz0))
  have hz1 : W.heap.size ≤ w1.heap.size := HB1.out.size
  clear h hb
  have p1_2 := HP1.out.at_ 2 rfl
  have q1_2 := HQ1.out.at_ 2 rfl
  have p1_3 := HP1.out.at_ 3 rfl
  have q1_3 := HQ1.out.at_ 3 rfl
  have p1_4 := HP1.out.at_ 4 rfl
  have q1_4 := HQ1.out.at_ 4 rfl
  have p1_5 := HP1.out.at_ 5 rfl
  have q1_5 := HQ1.out.at_ 5 rfl
  go_wp2_with fail
  refine (eq_Label).mono ?_
  intro e w2 h
  obtain ⟨rfl, hb⟩ := isB_elim h
  have HP2 := Lib.hid (HP1.out.call hb)
  have HQ2 := Lib.hid (HQ1.out.call hb)
  have HB2 := Lib.hid (HB1.out.trans (hb.mono hz1))
  have hz2 : W.heap.size ≤ w2.heap.size := HB2.out.size
  clear h hb
  clear p1_2 q1_2 p1_3 q1_3 p1_4 q1_4 p1_5 q1_5
  have p2_4 := HP2.out.at_ 4 rfl
  have q2_4 := HQ2.out.at_ 4 rfl
  have p2_5 := HP2.out.at_ 5 rfl
  have q2_5 := HQ2.out.at_ 5 rfl
  go_wp2
  all_goals
    go_ret
    exact ⟨rfl, HB2.out⟩


theorem sizeq_LetterS : (R_Letter).size = 6 := rfl
set_option maxRecDepth 100000 in
set_option maxHeartbeats 3200000 in
theorem eq_LetterS {L : List (D_Letter)} {a a' : Option Addr} {cap cap' : Nat} {W : World} (h : RdSl R_Letter W W.heap.size L a cap) (h' : RdSl R_Letter W W.heap.size L a' cap') : Calls Tryd.prog 79 #[.slice a L.length cap, .slice a' L.length cap'] W (IsB true W) := by
  have hn : L.length ≤ 9223372036854775807 := by have h1 := h.1; have h2 := h.2.1; unfold maxLen at h2; omega
  have H := Lib.hid h
  have H' := Lib.hid h'
  clear h h'
  go_enter Tryd.func79, Tryd.ntmps79
  go_wp2
  go_loopw [5] (fun i wr => ∃ k : Nat, k ≤ L.length ∧ i = .int .i64 k ∧ Below W.heap.size W wr) (fun i _ => L.length - (intOf i).toNat)
  case atStart => exact ⟨0, Nat.zero_le _, rfl, Below.refl _ _⟩
  case round =>
    obtain ⟨k, hk, rfl, hB⟩ := hrel
    have HB := Lib.hid hB
    have hsz := hB.size
    by_cases hlt : k < L.length
    · obtain ⟨⟨⟨x0, x1⟩, ⟨x2, x3⟩, x4, x5⟩, hx⟩ := el_some hlt
      have HX := Lib.hid hx
      obtain ⟨g, o, us, rfl, hg, hu, hr⟩ := (H.out.below R_Letter_ok hB).at_ hx
      obtain ⟨g', o', vs, rfl, hg', hu', hr'⟩ := (H'.out.below R_Letter_ok hB).at_ hx
      obtain rfl := rd_Letter hr
      obtain rfl := rd_Letter hr'
      have e0 : wr.cell? ⟨g, o + k * 6, none⟩ = some (.int .i64 x0) := by simpa [sizeq_LetterS, Nat.add_assoc] using hu 0 _ rfl
      have d0 : wr.cell? ⟨g', o' + k * 6, none⟩ = some (.int .i64 x0) := by simpa [sizeq_LetterS, Nat.add_assoc] using hu' 0 _ rfl
      have e1 : wr.cell? ⟨g, o + k * 6 + 1, none⟩ = some (.int .i64 x1) := by simpa [sizeq_LetterS, Nat.add_assoc] using hu 1 _ rfl
      have d1 : wr.cell? ⟨g', o' + k * 6 + 1, none⟩ = some (.int .i64 x1) := by simpa [sizeq_LetterS, Nat.add_assoc] using hu' 1 _ rfl
      have e2 : wr.cell? ⟨g, o + k * 6 + 2, none⟩ = some (.int .i64 x2) := by simpa [sizeq_LetterS, Nat.add_assoc] using hu 2 _ rfl
      have d2 : wr.cell? ⟨g', o' + k * 6 + 2, none⟩ = some (.int .i64 x2) := by simpa [sizeq_LetterS, Nat.add_assoc] using hu' 2 _ rfl
      have e3 : wr.cell? ⟨g, o + k * 6 + 3, none⟩ = some (.int .i64 x3) := by simpa [sizeq_LetterS, Nat.add_assoc] using hu 3 _ rfl
      have d3 : wr.cell? ⟨g', o' + k * 6 + 3, none⟩ = some (.int .i64 x3) := by simpa [sizeq_LetterS, Nat.add_assoc] using hu' 3 _ rfl
      have e4 : wr.cell? ⟨g, o + k * 6 + 4, none⟩ = some (.int .i64 x4) := by simpa [sizeq_LetterS, Nat.add_assoc] using hu 4 _ rfl
      have d4 : wr.cell? ⟨g', o' + k * 6 + 4, none⟩ = some (.int .i64 x4) := by simpa [sizeq_LetterS, Nat.add_assoc] using hu' 4 _ rfl
      have e5 : wr.cell? ⟨g, o + k * 6 + 5, none⟩ = some (.int .i64 x5) := by simpa [sizeq_LetterS, Nat.add_assoc] using hu 5 _ rfl
      have d5 : wr.cell? ⟨g', o' + k * 6 + 5, none⟩ = some (.int .i64 x5) := by simpa [sizeq_LetterS, Nat.add_assoc] using hu' 5 _ rfl
      have hi0 : (0 : Int) ≤ (k : Int) := Int.natCast_nonneg _
      have hi1 : (k : Int) < (L.length : Int) := by omega
      have hgl : g < wr.heap.size := Nat.lt_of_lt_of_le hg hsz
      have hgl' : g' < wr.heap.size := Nat.lt_of_lt_of_le hg' hsz
      clear hB hx hu hu'
      go_wp2_with fail
      refine wp_region_held_drew (S := (fun W => W.cell? ⟨g, o + k * 6, none⟩ = some (.int .i64 x0) ∧ W.cell? ⟨g, o + k * 6 + 1, none⟩ = some (.int .i64 x1) ∧ W.cell? ⟨g, o + k * 6 + 2, none⟩ = some (.int .i64 x2) ∧ W.cell? ⟨g, o + k * 6 + 3, none⟩ = some (.int .i64 x3) ∧ W.cell? ⟨g, o + k * 6 + 4, none⟩ = some (.int .i64 x4) ∧ W.cell? ⟨g, o + k * 6 + 5, none⟩ = some (.int .i64 x5) ∧ W.cell? ⟨g', o' + k * 6, none⟩ = some (.int .i64 x0) ∧ W.cell? ⟨g', o' + k * 6 + 1, none⟩ = some (.int .i64 x1) ∧ W.cell? ⟨g', o' + k * 6 + 2, none⟩ = some (.int .i64 x2) ∧ W.cell? ⟨g', o' + k * 6 + 3, none⟩ = some (.int .i64 x3) ∧ W.cell? ⟨g', o' + k * 6 + 4, none⟩ = some (.int .i64 x4) ∧ W.cell? ⟨g', o' + k * 6 + 5, none⟩ = some (.int .i64 x5) ∧ wr.heap.size ≤ W.heap.size ∧ Below wr.heap.size wr W)) (by kernel_rfl) (⟨e0, e1, e2, e3, e4, e5, d0, d1, d2, d3, d4, d5, Nat.le_refl _, (Below.refl _ _).drew⟩) (fun hHeld => ?_)
      refine wpAnyH_take (i := 0) (v := ?hv1) rfl (by kernel_rfl) (by kernel_rfl) (by kernel_rfl) (fun _ _ _ h => h) (Or.inl ⟨by kernel_rfl, ?hy1⟩) hHeld ?hr1
      case hy1 => (intro w hSw; (try dsimp only at hSw); go_simp; try with_reducible rfl)
      simp only [Act.put, List.getElem_toArray, List.getElem_cons_succ, List.getElem_cons_zero, List.setIfInBounds_toArray, List.set_cons_zero, List.set_cons_succ]
      refine wpAnyH_take (i := 1) (v := ?hv2) rfl (by kernel_rfl) (by kernel_rfl) (by kernel_rfl) (fun _ _ _ h => h) (Or.inl ⟨by kernel_rfl, ?hy2⟩) hHeld ?hr2
      case hy2 => (intro w hSw; (try dsimp only at hSw); go_simp; try with_reducible rfl)
      simp only [Act.put, List.getElem_toArray, List.getElem_cons_succ, List.getElem_cons_zero, List.setIfInBounds_toArray, List.set_cons_zero, List.set_cons_succ]
      refine wpAnyH_take (i := 2) (v := ?hv3) rfl (by kernel_rfl) (by kernel_rfl) (by kernel_rfl) (fun _ _ _ h => h) (Or.inl ⟨by kernel_rfl, ?hy3⟩) hHeld ?hr3
      case hy3 => (intro w hSw; (try dsimp only at hSw); go_simp; try with_reducible rfl)
      simp only [Act.put, List.getElem_toArray, List.getElem_cons_succ, List.getElem_cons_zero, List.setIfInBounds_toArray, List.set_cons_zero, List.set_cons_succ]
      refine wpAnyH_take (i := 3) (v := ?hv4) rfl (by kernel_rfl) (by kernel_rfl) (by kernel_rfl) (fun _ _ _ h => h) (Or.inl ⟨by kernel_rfl, ?hy4⟩) hHeld ?hr4
      case hy4 => (intro w hSw; (try dsimp only at hSw); go_simp; try with_reducible rfl)
      simp only [Act.put, List.getElem_toArray, List.getElem_cons_succ, List.getElem_cons_zero, List.setIfInBounds_toArray, List.set_cons_zero, List.set_cons_succ]
      refine wpAnyH_take (i := 4) (v := ?hv5) rfl (by kernel_rfl) (by kernel_rfl) (by kernel_rfl) (fun _ _ _ h => h) (Or.inl ⟨by kernel_rfl, ?hy5⟩) hHeld ?hr5
      case hy5 => (intro w hSw; (try dsimp only at hSw); go_simp; try with_reducible rfl)
      simp only [Act.put, List.getElem_toArray, List.getElem_cons_succ, List.getElem_cons_zero, List.setIfInBounds_toArray, List.set_cons_zero, List.set_cons_succ]
      refine wpAnyH_take (i := 5) (v := ?hv6) rfl (by kernel_rfl) (by kernel_rfl) (by kernel_rfl) (fun _ _ _ h => h) (Or.inl ⟨by kernel_rfl, ?hy6⟩) hHeld ?hr6
      case hy6 => (intro w hSw; (try dsimp only at hSw); go_simp; try with_reducible rfl)
      simp only [Act.put, List.getElem_toArray, List.getElem_cons_succ, List.getElem_cons_zero, List.setIfInBounds_toArray, List.set_cons_zero, List.set_cons_succ]
      refine wpAnyH_take (i := 6) (v := ?hv7) rfl (by kernel_rfl) (by kernel_rfl) (by kernel_rfl) (fun _ _ _ h => h) (Or.inl ⟨by kernel_rfl, ?hy7⟩) hHeld ?hr7
      case hy7 => (intro w hSw; (try dsimp only at hSw); go_simp; try with_reducible rfl)
      simp only [Act.put, List.getElem_toArray, List.getElem_cons_succ, List.getElem_cons_zero, List.setIfInBounds_toArray, List.set_cons_zero, List.set_cons_succ]
      refine wpAnyH_take (i := 7) (v := ?hv8) rfl (by kernel_rfl) (by kernel_rfl) (by kernel_rfl) (fun _ _ _ h => h) (Or.inl ⟨by kernel_rfl, ?hy8⟩) hHeld ?hr8
      case hy8 => (intro w hSw; (try dsimp only at hSw); go_simp; try with_reducible rfl)
      simp only [Act.put, List.getElem_toArray, List.getElem_cons_succ, List.getElem_cons_zero, List.setIfInBounds_toArray, List.set_cons_zero, List.set_cons_succ]
      refine wpAnyH_ready (rs := [8]) (by kernel_rfl) (by simp) ?_
      refine AllReadyH.cons rfl (fun K hK => ?_) AllReadyH.nil
      go_simp
      refine (eq_Letter).mono ?_
      intro e w1 h
      obtain ⟨rfl, hb⟩ := isB_elim h
      refine hK.out _ _ (⟨(hb.cell (p := ⟨g, o + k * 6, none⟩) (Nat.lt_of_lt_of_le hgl hHeld.2.2.2.2.2.2.2.2.2.2.2.2.1)).trans hHeld.1, (hb.cell (p := ⟨g, o + k * 6 + 1, none⟩) (Nat.lt_of_lt_of_le hgl hHeld.2.2.2.2.2.2.2.2.2.2.2.2.1)).trans hHeld.2.1, (hb.cell (p := ⟨g, o + k * 6 + 2, none⟩) (Nat.lt_of_lt_of_le hgl hHeld.2.2.2.2.2.2.2.2.2.2.2.2.1)).trans hHeld.2.2.1, (hb.cell (p := ⟨g, o + k * 6 + 3, none⟩) (Nat.lt_of_lt_of_le hgl hHeld.2.2.2.2.2.2.2.2.2.2.2.2.1)).trans hHeld.2.2.2.1, (hb.cell (p := ⟨g, o + k * 6 + 4, none⟩) (Nat.lt_of_lt_of_le hgl hHeld.2.2.2.2.2.2.2.2.2.2.2.2.1)).trans hHeld.2.2.2.2.1, (hb.cell (p := ⟨g, o + k * 6 + 5, none⟩) (Nat.lt_of_lt_of_le hgl hHeld.2.2.2.2.2.2.2.2.2.2.2.2.1)).trans hHeld.2.2.2.2.2.1, (hb.cell (p := ⟨g', o' + k * 6, none⟩) (Nat.lt_of_lt_of_le hgl' hHeld.2.2.2.2.2.2.2.2.2.2.2.2.1)).trans hHeld.2.2.2.2.2.2.1, (hb.cell (p := ⟨g', o' + k * 6 + 1, none⟩) (Nat.lt_of_lt_of_le hgl' hHeld.2.2.2.2.2.2.2.2.2.2.2.2.1)).trans hHeld.2.2.2.2.2.2.2.1, (hb.cell (p := ⟨g', o' + k * 6 + 2, none⟩) (Nat.lt_of_lt_of_le hgl' hHeld.2.2.2.2.2.2.2.2.2.2.2.2.1)).trans hHeld.2.2.2.2.2.2.2.2.1, (hb.cell (p := ⟨g', o' + k * 6 + 3, none⟩) (Nat.lt_of_lt_of_le hgl' hHeld.2.2.2.2.2.2.2.2.2.2.2.2.1)).trans hHeld.2.2.2.2.2.2.2.2.2.1, (hb.cell (p := ⟨g', o' + k * 6 + 4, none⟩) (Nat.lt_of_lt_of_le hgl' hHeld.2.2.2.2.2.2.2.2.2.2.2.2.1)).trans hHeld.2.2.2.2.2.2.2.2.2.2.1, (hb.cell (p := ⟨g', o' + k * 6 + 5, none⟩) (Nat.lt_of_lt_of_le hgl' hHeld.2.2.2.2.2.2.2.2.2.2.2.2.1)).trans hHeld.2.2.2.2.2.2.2.2.2.2.2.1, Nat.le_trans hHeld.2.2.2.2.2.2.2.2.2.2.2.2.1 hb.size, hHeld.2.2.2.2.2.2.2.2.2.2.2.2.2.trans (hb.mono hHeld.2.2.2.2.2.2.2.2.2.2.2.2.1)⟩) (fun hHeld => ?_)
      clear hK K h
      try simp only [Act.put, List.getElem_toArray, List.getElem_cons_succ, List.getElem_cons_zero, List.setIfInBounds_toArray, List.set_cons_zero, List.set_cons_succ]
      refine wpAnyH_take (i := 9) (v := ?hv9) rfl (by kernel_rfl) (by kernel_rfl) (by kernel_rfl) (fun _ _ _ h => h) (Or.inl ⟨by kernel_rfl, ?hy9⟩) hHeld ?hr9
      case hy9 => (intro w hSw; (try dsimp only at hSw); go_simp; try with_reducible rfl)
      simp only [Act.put, List.getElem_toArray, List.getElem_cons_succ, List.getElem_cons_zero, List.setIfInBounds_toArray, List.set_cons_zero, List.set_cons_succ]
      refine wpAnyH_done (by kernel_rfl) ?_ _
      have HB2 := Lib.hid (HB.out.trans (hHeld.2.2.2.2.2.2.2.2.2.2.2.2.2.mono hsz))
      clear hHeld
      go_wp2
      go_roundw
      case rel => exact ⟨k + 1, by omega, by go_num, HB2.out⟩
      case measure => simp [intOf]; omega
    · clear hB
      go_wp2
      go_ret
      exact ⟨rfl, HB.out⟩


set_option maxRecDepth 100000 in
set_option maxHeartbeats 3200000 in
theorem eq_Desk {L0 : List (D_Letter)} {L1 : List (D_Letter)} {L2 : List (D_Letter)} {x3 : Int} {x4 : Int} {a0 : Option Addr} {c0 : Nat} {a1 : Option Addr} {c1 : Nat} {a2 : Option Addr} {c2 : Nat} {a0' : Option Addr} {c0' : Nat} {a1' : Option Addr} {c1' : Nat} {a2' : Option Addr} {c2' : Nat} {W : World} (h_L0 : RdSl R_Letter W W.heap.size L0 a0 c0) (h_L1 : RdSl R_Letter W W.heap.size L1 a1 c1) (h_L2 : RdSl R_Letter W W.heap.size L2 a2 c2) (h'_L0 : RdSl R_Letter W W.heap.size L0 a0' c0') (h'_L1 : RdSl R_Letter W W.heap.size L1 a1' c1') (h'_L2 : RdSl R_Letter W W.heap.size L2 a2' c2') : Calls Tryd.prog 44 #[.agg #[.slice a0 L0.length c0, .slice a1 L1.length c1, .slice a2 L2.length c2, .int .i64 x3, .int .i64 x4], .agg #[.slice a0' L0.length c0', .slice a1' L1.length c1', .slice a2' L2.length c2', .int .i64 x3, .int .i64 x4]] W (IsB true W) := by
  have H_L0 := Lib.hid h_L0
  have H'_L0 := Lib.hid h'_L0
  have H_L1 := Lib.hid h_L1
  have H'_L1 := Lib.hid h'_L1
  have H_L2 := Lib.hid h_L2
  have H'_L2 := Lib.hid h'_L2
  clear h_L0 h'_L0 h_L1 h'_L1 h_L2 h'_L2
  have HB0 := Lib.hid (show Below W.heap.size W ((W.alloc (.cells #[.slice a0 L0.length c0, .slice a1 L1.length c1, .slice a2 L2.length c2, .int .i64 x3, .int .i64 x4] 42)).alloc (.cells #[.slice a0' L0.length c0', .slice a1' L1.length c1', .slice a2' L2.length c2', .int .i64 x3, .int .i64 x4] 42)) from ((Below.refl _ _).alloc (Nat.le_refl _) _).alloc (by simp) _)
  have hP := (Blk.new W 42 #[.slice a0 L0.length c0, .slice a1 L1.length c1, .slice a2 L2.length c2, .int .i64 x3, .int .i64 x4]).alloc (.cells #[.slice a0' L0.length c0', .slice a1' L1.length c1', .slice a2' L2.length c2', .int .i64 x3, .int .i64 x4] 42)
  have hQ := Blk.new (W.alloc (.cells #[.slice a0 L0.length c0, .slice a1 L1.length c1, .slice a2 L2.length c2, .int .i64 x3, .int .i64 x4] 42)) 42 #[.slice a0' L0.length c0', .slice a1' L1.length c1', .slice a2' L2.length c2', .int .i64 x3, .int .i64 x4]
  simp only [World.size_alloc] at hP hQ
  have HP0 := Lib.hid hP
  have HQ0 := Lib.hid hQ
  have hz0 : W.heap.size ≤ ((W.alloc (.cells #[.slice a0 L0.length c0, .slice a1 L1.length c1, .slice a2 L2.length c2, .int .i64 x3, .int .i64 x4] 42)).alloc (.cells #[.slice a0' L0.length c0', .slice a1' L1.length c1', .slice a2' L2.length c2', .int .i64 x3, .int .i64 x4] 42)).heap.size := HB0.out.size
  clear hP hQ
  go_enter Tryd.func44, Tryd.ntmps44
  go_wp2_with fail
  refine (eq_LetterS ((H_L0.out.below R_Letter_ok HB0.out).more R_Letter_ok hz0) ((H'_L0.out.below R_Letter_ok HB0.out).more R_Letter_ok hz0)).mono ?_
  intro e w1 h
  obtain ⟨rfl, hb⟩ := isB_elim h
  have HP1 := Lib.hid (HP0.out.call hb)
  have HQ1 := Lib.hid (HQ0.out.call hb)
  have HB1 := Lib.hid (HB0.out.trans (hb.mono hz0))
  have hz1 : W.heap.size ≤ w1.heap.size := HB1.out.size
  clear h hb
  have p1_1 := HP1.out.at_ 1 rfl
  have q1_1 := HQ1.out.at_ 1 rfl
  have p1_2 := HP1.out.at_ 2 rfl
  have q1_2 := HQ1.out.at_ 2 rfl
  have p1_3 := HP1.out.at_ 3 rfl
  have q1_3 := HQ1.out.at_ 3 rfl
  have p1_4 := HP1.out.at_ 4 rfl
  have q1_4 := HQ1.out.at_ 4 rfl
  go_wp2_with fail
  refine (eq_LetterS ((H_L1.out.below R_Letter_ok HB1.out).more R_Letter_ok hz1) ((H'_L1.out.below R_Letter_ok HB1.out).more R_Letter_ok hz1)).mono ?_
  intro e w2 h
  obtain ⟨rfl, hb⟩ := isB_elim h
  have HP2 := Lib.hid (HP1.out.call hb)
  have HQ2 := Lib.hid (HQ1.out.call hb)
  have HB2 := Lib.hid (HB1.out.trans (hb.mono hz1))
  have hz2 : W.heap.size ≤ w2.heap.size := HB2.out.size
  clear h hb
  clear p1_1 q1_1 p1_2 q1_2 p1_3 q1_3 p1_4 q1_4
  have p2_2 := HP2.out.at_ 2 rfl
  have q2_2 := HQ2.out.at_ 2 rfl
  have p2_3 := HP2.out.at_ 3 rfl
  have q2_3 := HQ2.out.at_ 3 rfl
  have p2_4 := HP2.out.at_ 4 rfl
  have q2_4 := HQ2.out.at_ 4 rfl
  go_wp2_with fail
  refine (eq_LetterS ((H_L2.out.below R_Letter_ok HB2.out).more R_Letter_ok hz2) ((H'_L2.out.below R_Letter_ok HB2.out).more R_Letter_ok hz2)).mono ?_
  intro e w3 h
  obtain ⟨rfl, hb⟩ := isB_elim h
  have HP3 := Lib.hid (HP2.out.call hb)
  have HQ3 := Lib.hid (HQ2.out.call hb)
  have HB3 := Lib.hid (HB2.out.trans (hb.mono hz2))
  have hz3 : W.heap.size ≤ w3.heap.size := HB3.out.size
  clear h hb
  clear p2_2 q2_2 p2_3 q2_3 p2_4 q2_4
  have p3_3 := HP3.out.at_ 3 rfl
  have q3_3 := HQ3.out.at_ 3 rfl
  have p3_4 := HP3.out.at_ 4 rfl
  have q3_4 := HQ3.out.at_ 4 rfl
  go_wp2
  all_goals
    go_ret
    exact ⟨rfl, HB3.out⟩


set_option maxRecDepth 100000 in
set_option maxHeartbeats 3200000 in
theorem eq_DeskStep {L0 : List (D_Letter)} {L1 : List (D_Letter)} {L2 : List (D_Letter)} {x3 : Int} {x4 : Int} {x5 : Int} {a0 : Option Addr} {c0 : Nat} {a1 : Option Addr} {c1 : Nat} {a2 : Option Addr} {c2 : Nat} {a0' : Option Addr} {c0' : Nat} {a1' : Option Addr} {c1' : Nat} {a2' : Option Addr} {c2' : Nat} {W : World} (h_L0 : RdSl R_Letter W W.heap.size L0 a0 c0) (h_L1 : RdSl R_Letter W W.heap.size L1 a1 c1) (h_L2 : RdSl R_Letter W W.heap.size L2 a2 c2) (h'_L0 : RdSl R_Letter W W.heap.size L0 a0' c0') (h'_L1 : RdSl R_Letter W W.heap.size L1 a1' c1') (h'_L2 : RdSl R_Letter W W.heap.size L2 a2' c2') : Calls Tryd.prog 43 #[.agg #[.slice a0 L0.length c0, .slice a1 L1.length c1, .slice a2 L2.length c2, .int .i64 x3, .int .i64 x4, .int .i64 x5], .agg #[.slice a0' L0.length c0', .slice a1' L1.length c1', .slice a2' L2.length c2', .int .i64 x3, .int .i64 x4, .int .i64 x5]] W (IsB true W) := by
  have H_L0 := Lib.hid h_L0
  have H'_L0 := Lib.hid h'_L0
  have H_L1 := Lib.hid h_L1
  have H'_L1 := Lib.hid h'_L1
  have H_L2 := Lib.hid h_L2
  have H'_L2 := Lib.hid h'_L2
  clear h_L0 h'_L0 h_L1 h'_L1 h_L2 h'_L2
  have HB0 := Lib.hid (show Below W.heap.size W ((W.alloc (.cells #[.slice a0 L0.length c0, .slice a1 L1.length c1, .slice a2 L2.length c2, .int .i64 x3, .int .i64 x4, .int .i64 x5] 46)).alloc (.cells #[.slice a0' L0.length c0', .slice a1' L1.length c1', .slice a2' L2.length c2', .int .i64 x3, .int .i64 x4, .int .i64 x5] 46)) from ((Below.refl _ _).alloc (Nat.le_refl _) _).alloc (by simp) _)
  have hP := (Blk.new W 46 #[.slice a0 L0.length c0, .slice a1 L1.length c1, .slice a2 L2.length c2, .int .i64 x3, .int .i64 x4, .int .i64 x5]).alloc (.cells #[.slice a0' L0.length c0', .slice a1' L1.length c1', .slice a2' L2.length c2', .int .i64 x3, .int .i64 x4, .int .i64 x5] 46)
  have hQ := Blk.new (W.alloc (.cells #[.slice a0 L0.length c0, .slice a1 L1.length c1, .slice a2 L2.length c2, .int .i64 x3, .int .i64 x4, .int .i64 x5] 46)) 46 #[.slice a0' L0.length c0', .slice a1' L1.length c1', .slice a2' L2.length c2', .int .i64 x3, .int .i64 x4, .int .i64 x5]
  simp only [World.size_alloc] at hP hQ
  have HP0 := Lib.hid hP
  have HQ0 := Lib.hid hQ
  have hz0 : W.heap.size ≤ ((W.alloc (.cells #[.slice a0 L0.length c0, .slice a1 L1.length c1, .slice a2 L2.length c2, .int .i64 x3, .int .i64 x4, .int .i64 x5] 46)).alloc (.cells #[.slice a0' L0.length c0', .slice a1' L1.length c1', .slice a2' L2.length c2', .int .i64 x3, .int .i64 x4, .int .i64 x5] 46)).heap.size := HB0.out.size
  clear hP hQ
  go_enter Tryd.func43, Tryd.ntmps43
  go_wp2_with fail
  refine (eq_Desk ((H_L0.out.below R_Letter_ok HB0.out).more R_Letter_ok hz0) ((H_L1.out.below R_Letter_ok HB0.out).more R_Letter_ok hz0) ((H_L2.out.below R_Letter_ok HB0.out).more R_Letter_ok hz0) ((H'_L0.out.below R_Letter_ok HB0.out).more R_Letter_ok hz0) ((H'_L1.out.below R_Letter_ok HB0.out).more R_Letter_ok hz0) ((H'_L2.out.below R_Letter_ok HB0.out).more R_Letter_ok hz0)).mono ?_
  intro e w1 h
  obtain ⟨rfl, hb⟩ := isB_elim h
  have HP1 := Lib.hid (HP0.out.call hb)
  have HQ1 := Lib.hid (HQ0.out.call hb)
  have HB1 := Lib.hid (HB0.out.trans (hb.mono hz0))
  have hz1 : W.heap.size ≤ w1.heap.size := HB1.out.size
  clear h hb
  have p1_5 := HP1.out.at_ 5 rfl
  have q1_5 := HQ1.out.at_ 5 rfl
  go_wp2
  all_goals
    go_ret
    exact ⟨rfl, HB1.out⟩


theorem flat_LetterS (L : List (D_Letter)) : (Sl R_Letter).sz L = L.length := by
  have : sumL (R_Letter).sz L = 0 := sumL_zero (fun _ => rfl) L
  simp only [Sl, this, Nat.add_zero]
set_option maxRecDepth 100000 in
theorem sz_LetterS {L : List (D_Letter)} {a : Option Addr} {cap : Nat} {W : World} {l : Int} (h0 : 0 ≤ l) (h1 : l ≤ 1048576) (h : RdSl R_Letter W W.heap.size L a cap) : Calls Tryd.prog 77 #[.slice a L.length cap, .int .i64 l] W (SzC l ((Sl R_Letter).sz L) W) := by
  have hn : L.length ≤ 9223372036854775807 := by have h1 := h.1; have h2 := h.2.1; unfold maxLen at h2; omega
  rw [flat_LetterS]
  clear h
  by_cases hf : (L.length : Int) ≤ l
  · have HR := Lib.hid (szR_yes hf)
    go_enter Tryd.func77, Tryd.ntmps77
    go_wp2
    go_ret
    exact ⟨by first | (rw [HR.out]; done) | (rw [HR.out]; rfl), Below.refl _ _⟩
  · have HR := Lib.hid (szR_no hf)
    go_enter Tryd.func77, Tryd.ntmps77
    go_wp2
    go_ret
    exact ⟨by first | (rw [HR.out]; done) | (rw [HR.out]; rfl), Below.refl _ _⟩


theorem szd_Desk {L0 : List (D_Letter)} {L1 : List (D_Letter)} {L2 : List (D_Letter)} {x3 : Int} {x4 : Int} : R_Desk.sz (L0, L1, L2, x3, x4) = (((Sl R_Letter)).sz L0) + (((Sl R_Letter)).sz L1) + (((Sl R_Letter)).sz L2) := by
  simp only [R_Desk, Pr, I, Bo, atom]; omega
set_option maxRecDepth 100000 in
set_option maxHeartbeats 1600000 in
theorem sz_Desk {L0 : List (D_Letter)} {L1 : List (D_Letter)} {L2 : List (D_Letter)} {x3 : Int} {x4 : Int} {a0 : Option Addr} {c0 : Nat} {a1 : Option Addr} {c1 : Nat} {a2 : Option Addr} {c2 : Nat} {W : World} {l : Int} (h0 : 0 ≤ l) (h1 : l ≤ 1048576) (h_L0 : RdSl R_Letter W W.heap.size L0 a0 c0) (h_L1 : RdSl R_Letter W W.heap.size L1 a1 c1) (h_L2 : RdSl R_Letter W W.heap.size L2 a2 c2) : Calls Tryd.prog 40 #[.agg #[.slice a0 L0.length c0, .slice a1 L1.length c1, .slice a2 L2.length c2, .int .i64 x3, .int .i64 x4], .int .i64 l] W (SzC l (R_Desk.sz (L0, L1, L2, x3, x4)) W) := by
  have H_L0 := Lib.hid h_L0
  have H_L1 := Lib.hid h_L1
  have H_L2 := Lib.hid h_L2
  clear h_L0 h_L1 h_L2
  have HD := Lib.hid (szd_Desk (L0 := L0) (L1 := L1) (L2 := L2) (x3 := x3) (x4 := x4))
  have HB0 := Lib.hid (show Below W.heap.size W (W.alloc (.cells #[.slice a0 L0.length c0, .slice a1 L1.length c1, .slice a2 L2.length c2, .int .i64 x3, .int .i64 x4] 60)) from (Below.refl _ _).alloc (Nat.le_refl _) _)
  have hP := Blk.new W 60 #[.slice a0 L0.length c0, .slice a1 L1.length c1, .slice a2 L2.length c2, .int .i64 x3, .int .i64 x4]
  have HP0 := Lib.hid hP
  have hz0 : W.heap.size ≤ (W.alloc (.cells #[.slice a0 L0.length c0, .slice a1 L1.length c1, .slice a2 L2.length c2, .int .i64 x3, .int .i64 x4] 60)).heap.size := HB0.out.size
  clear hP
  obtain ⟨s0, hs0⟩ : ∃ s, s = (((Sl R_Letter)).sz L0) := ⟨_, rfl⟩
  have HS0 := Lib.hid hs0
  rw [← hs0] at HD
  clear hs0
  obtain ⟨s1, hs1⟩ : ∃ s, s = (((Sl R_Letter)).sz L1) := ⟨_, rfl⟩
  have HS1 := Lib.hid hs1
  rw [← hs1] at HD
  clear hs1
  obtain ⟨s2, hs2⟩ : ∃ s, s = (((Sl R_Letter)).sz L2) := ⟨_, rfl⟩
  have HS2 := Lib.hid hs2
  rw [← hs2] at HD
  clear hs2
  go_enter Tryd.func40, Tryd.ntmps40
  go_wp2_with fail
  refine (sz_LetterS (l := l) (by omega) (by omega) ((H_L0.out.below R_Letter_ok HB0.out).more R_Letter_ok hz0)).mono ?_
  intro e w1 h
  obtain ⟨rfl, hb⟩ := szC_elim h
  rw [← HS0.out]
  have HP1 := Lib.hid (HP0.out.call hb)
  have HB1 := Lib.hid (HB0.out.trans (hb.mono hz0))
  have hz1 : W.heap.size ≤ w1.heap.size := HB1.out.size
  clear h hb
  have p1_0 := HP1.out.at_ 0 rfl
  have p1_1 := HP1.out.at_ 1 rfl
  have p1_2 := HP1.out.at_ 2 rfl
  by_cases hf0 : (s0 : Int) ≤ l
  rotate_left
  · rw [szR_no hf0]
    have HR := Lib.hid (szR_no (l := l) (s := R_Desk.sz (L0, L1, L2, x3, x4)) (by rw [HD.out]; omega))
    go_wp2
    go_ret
    exact ⟨by first | (rw [HR.out]; done) | (rw [HR.out]; rfl), HB1.out⟩
  rw [szR_yes hf0]
  have hpos0 : (0 : Int) ≤ l - (s0 : Nat) := by omega
  go_wp2_with fail
  refine (sz_LetterS (l := l - (s0 : Nat)) (by omega) (by omega) ((H_L1.out.below R_Letter_ok HB1.out).more R_Letter_ok hz1)).mono ?_
  intro e w2 h
  obtain ⟨rfl, hb⟩ := szC_elim h
  rw [← HS1.out]
  have HP2 := Lib.hid (HP1.out.call hb)
  have HB2 := Lib.hid (HB1.out.trans (hb.mono hz1))
  have hz2 : W.heap.size ≤ w2.heap.size := HB2.out.size
  clear h hb
  have p2_0 := HP2.out.at_ 0 rfl
  have p2_1 := HP2.out.at_ 1 rfl
  have p2_2 := HP2.out.at_ 2 rfl
  by_cases hf1 : (s1 : Int) ≤ l - (s0 : Nat)
  rotate_left
  · rw [szR_no hf1]
    have HR := Lib.hid (szR_no (l := l) (s := R_Desk.sz (L0, L1, L2, x3, x4)) (by rw [HD.out]; omega))
    go_wp2
    go_ret
    exact ⟨by first | (rw [HR.out]; done) | (rw [HR.out]; rfl), HB2.out⟩
  rw [szR_yes hf1]
  have hpos1 : (0 : Int) ≤ l - (s0 : Nat) - (s1 : Nat) := by omega
  go_wp2_with fail
  refine (sz_LetterS (l := l - (s0 : Nat) - (s1 : Nat)) (by omega) (by omega) ((H_L2.out.below R_Letter_ok HB2.out).more R_Letter_ok hz2)).mono ?_
  intro e w3 h
  obtain ⟨rfl, hb⟩ := szC_elim h
  rw [← HS2.out]
  have HP3 := Lib.hid (HP2.out.call hb)
  have HB3 := Lib.hid (HB2.out.trans (hb.mono hz2))
  have hz3 : W.heap.size ≤ w3.heap.size := HB3.out.size
  clear h hb
  have p3_0 := HP3.out.at_ 0 rfl
  have p3_1 := HP3.out.at_ 1 rfl
  have p3_2 := HP3.out.at_ 2 rfl
  by_cases hf2 : (s2 : Int) ≤ l - (s0 : Nat) - (s1 : Nat)
  rotate_left
  · rw [szR_no hf2]
    have HR := Lib.hid (szR_no (l := l) (s := R_Desk.sz (L0, L1, L2, x3, x4)) (by rw [HD.out]; omega))
    go_wp2
    go_ret
    exact ⟨by first | (rw [HR.out]; done) | (rw [HR.out]; rfl), HB3.out⟩
  rw [szR_yes hf2]
  have hpos2 : (0 : Int) ≤ l - (s0 : Nat) - (s1 : Nat) - (s2 : Nat) := by omega
  have HR := Lib.hid (szR_yes (l := l) (s := R_Desk.sz (L0, L1, L2, x3, x4)) (by rw [HD.out]; omega))
  go_wp2
  go_ret
  exact ⟨by rw [HR.out, HD.out]; first | rfl | (simp; done) | (simp; omega), HB3.out⟩

theorem mmk_Letter {k : Int} : R_Letter.mm ((k, k + 1), (k + 1 + 1, k + 1 + 1 + 1), k + 1 + 1 + 1 + 1, k + 1 + 1 + 1 + 1 + 1) k (k + 1 + 1 + 1 + 1 + 1 + 1) := by
  dsimp only [R_Letter, R_Label, Pr, I, atom, Sl]
  exact ⟨k + 1 + 1, ⟨k + 1, ⟨by omega, by omega⟩, ⟨by omega, by omega⟩⟩, ⟨k + 1 + 1 + 1 + 1, ⟨k + 1 + 1 + 1, ⟨by omega, by omega⟩, ⟨by omega, by omega⟩⟩, ⟨k + 1 + 1 + 1 + 1 + 1, ⟨by omega, by omega⟩, ⟨by omega, by omega⟩⟩⟩⟩
theorem mme_Letter {k k' : Int} {x0 : Int} {x1 : Int} {x2 : Int} {x3 : Int} {x4 : Int} {x5 : Int} (h : R_Letter.mm ((x0, x1), (x2, x3), x4, x5) k k') : x0 = k ∧ x1 = k + 1 ∧ x2 = k + 1 + 1 ∧ x3 = k + 1 + 1 + 1 ∧ x4 = k + 1 + 1 + 1 + 1 ∧ x5 = k + 1 + 1 + 1 + 1 + 1 ∧ k' = k + 1 + 1 + 1 + 1 + 1 + 1 := by
  dsimp only [R_Letter, R_Label, Pr, I, atom, Sl] at h
  obtain ⟨z1, h1, g1⟩ := h
  obtain ⟨z2, h2, g2⟩ := h1
  obtain ⟨e0, f0⟩ := h2
  have e0 : x0 = _ := e0
  obtain ⟨e1, f1⟩ := g2
  have e1 : x1 = _ := e1
  obtain ⟨z3, h3, g3⟩ := g1
  obtain ⟨z4, h4, g4⟩ := h3
  obtain ⟨e2, f2⟩ := h4
  have e2 : x2 = _ := e2
  obtain ⟨e3, f3⟩ := g4
  have e3 : x3 = _ := e3
  obtain ⟨z5, h5, g5⟩ := g3
  obtain ⟨e4, f4⟩ := h5
  have e4 : x4 = _ := e4
  obtain ⟨e5, f5⟩ := g5
  have e5 : x5 = _ := e5
  exact ⟨by omega, by omega, by omega, by omega, by omega, by omega, by omega⟩
theorem R_Letter_mn : Mn R_Letter := (Pr_mn R_Label_mn (Pr_mn R_Label_mn (Pr_mn I_mn I_mn)))

end Go.Proofs.YtknifggpodhhdaaDoor.RepC
