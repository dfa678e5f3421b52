/- The laws' data: contracts. -/
import Derived.Test.YtmmnkdilnlhbfaaTk
import Derived.Test.YtmmnkdilnlhbfaaPoolT
namespace Go.Proofs.Ytmmnkdilnlhbfaa.RepC
open Go.RowKit RowC ValC
set_option linter.unusedVariables false
set_option linter.unusedSimpArgs false

abbrev D_Pair : Type := (D_Label) × (D_Label) × (Int)
def R_Pair : Rp D_Pair := (Pr R_Label (Pr R_Label I))
theorem R_Pair_ok : Ok R_Pair := (Pr_ok R_Label_ok (Pr_ok R_Label_ok I_ok))
theorem rd_Pair {W : World} {B : Nat} {x0 : Int} {x1 : Int} {x2 : Int} {x3 : Int} {x4 : Int} {cs : List Value} (h : R_Pair.rd W B ((x0, x1), (x2, x3), x4) cs) : cs = [.int .i64 x0, .int .i64 x1, .int .i64 x2, .int .i64 x3, .int .i64 x4] := by
  obtain ⟨u1, v1, rfl, h1, g1⟩ := h
  obtain ⟨u2, v2, rfl, h2, g2⟩ := h1
  obtain rfl : u2 = [_] := h2
  obtain rfl : v2 = [_] := g2
  obtain ⟨u3, v3, rfl, h3, g3⟩ := g1
  obtain ⟨u4, v4, rfl, h4, g4⟩ := h3
  obtain rfl : u4 = [_] := h4
  obtain rfl : v4 = [_] := g4
  obtain rfl : v3 = [_] := g3
  rfl
theorem mkrd_Pair {W : World} {B : Nat} {x0 : Int} {x1 : Int} {x2 : Int} {x3 : Int} {x4 : Int}  : R_Pair.rd W B ((x0, x1), (x2, x3), x4) [.int .i64 x0, .int .i64 x1, .int .i64 x2, .int .i64 x3, .int .i64 x4] := ⟨[.int .i64 x0, .int .i64 x1], [.int .i64 x2, .int .i64 x3, .int .i64 x4], rfl, ⟨[.int .i64 x0], [.int .i64 x1], rfl, rfl, rfl⟩, ⟨[.int .i64 x2, .int .i64 x3], [.int .i64 x4], rfl, ⟨[.int .i64 x2], [.int .i64 x3], rfl, rfl, rfl⟩, rfl⟩⟩
theorem mkow_Pair {W : World} {S : Nat → Prop} {x0 : Int} {x1 : Int} {x2 : Int} {x3 : Int} {x4 : Int}  : R_Pair.ow W S ((x0, x1), (x2, x3), x4) [.int .i64 x0, .int .i64 x1, .int .i64 x2, .int .i64 x3, .int .i64 x4] := ⟨[.int .i64 x0, .int .i64 x1], [.int .i64 x2, .int .i64 x3, .int .i64 x4], (fun _ => False), (fun _ => False), rfl, (fun k h => h.elim), (fun k h => h.elim), (fun k h h' => h.elim), ⟨[.int .i64 x0], [.int .i64 x1], (fun _ => False), (fun _ => False), rfl, (fun k h => h.elim), (fun k h => h.elim), (fun k h h' => h.elim), rfl, rfl⟩, ⟨[.int .i64 x2, .int .i64 x3], [.int .i64 x4], (fun _ => False), (fun _ => False), rfl, (fun k h => h.elim), (fun k h => h.elim), (fun k h h' => h.elim), ⟨[.int .i64 x2], [.int .i64 x3], (fun _ => False), (fun _ => False), rfl, (fun k h => h.elim), (fun k h => h.elim), (fun k h h' => h.elim), rfl, rfl⟩, rfl⟩⟩
theorem ow0_Pair {W : World} {S : Nat → Prop} {x0 : Int} {x1 : Int} {x2 : Int} {x3 : Int} {x4 : Int} {cs : List Value} (h : R_Pair.ow W S ((x0, x1), (x2, x3), x4) cs) : cs = [.int .i64 x0, .int .i64 x1, .int .i64 x2, .int .i64 x3, .int .i64 x4] := by
  obtain ⟨u1, v1, A1, B1, rfl, sa1, sb1, dd1, h1, g1⟩ := h
  obtain ⟨u2, v2, A2, B2, rfl, sa2, sb2, dd2, h2, g2⟩ := h1
  obtain rfl : u2 = [_] := h2
  obtain rfl : v2 = [_] := g2
  obtain ⟨u3, v3, A3, B3, rfl, sa3, sb3, dd3, h3, g3⟩ := g1
  obtain ⟨u4, v4, A4, B4, rfl, sa4, sb4, dd4, h4, g4⟩ := h3
  obtain rfl : u4 = [_] := h4
  obtain rfl : v4 = [_] := g4
  obtain rfl : v3 = [_] := g3
  rfl

abbrev D_Quota : Type := (D_Label) × (Int)
def R_Quota : Rp D_Quota := (Pr R_Label I)
theorem R_Quota_ok : Ok R_Quota := (Pr_ok R_Label_ok I_ok)
theorem rd_Quota {W : World} {B : Nat} {x0 : Int} {x1 : Int} {x2 : Int} {cs : List Value} (h : R_Quota.rd W B ((x0, x1), x2) cs) : cs = [.int .i64 x0, .int .i64 x1, .int .i64 x2] := by
  obtain ⟨u1, v1, rfl, h1, g1⟩ := h
  obtain ⟨u2, v2, rfl, h2, g2⟩ := h1
  obtain rfl : u2 = [_] := h2
  obtain rfl : v2 = [_] := g2
  obtain rfl : v1 = [_] := g1
  rfl
theorem mkrd_Quota {W : World} {B : Nat} {x0 : Int} {x1 : Int} {x2 : Int}  : R_Quota.rd W B ((x0, x1), x2) [.int .i64 x0, .int .i64 x1, .int .i64 x2] := ⟨[.int .i64 x0, .int .i64 x1], [.int .i64 x2], rfl, ⟨[.int .i64 x0], [.int .i64 x1], rfl, rfl, rfl⟩, rfl⟩
theorem mkow_Quota {W : World} {S : Nat → Prop} {x0 : Int} {x1 : Int} {x2 : Int}  : R_Quota.ow W S ((x0, x1), x2) [.int .i64 x0, .int .i64 x1, .int .i64 x2] := ⟨[.int .i64 x0, .int .i64 x1], [.int .i64 x2], (fun _ => False), (fun _ => False), rfl, (fun k h => h.elim), (fun k h => h.elim), (fun k h h' => h.elim), ⟨[.int .i64 x0], [.int .i64 x1], (fun _ => False), (fun _ => False), rfl, (fun k h => h.elim), (fun k h => h.elim), (fun k h h' => h.elim), rfl, rfl⟩, rfl⟩
theorem ow0_Quota {W : World} {S : Nat → Prop} {x0 : Int} {x1 : Int} {x2 : Int} {cs : List Value} (h : R_Quota.ow W S ((x0, x1), x2) cs) : cs = [.int .i64 x0, .int .i64 x1, .int .i64 x2] := by
  obtain ⟨u1, v1, A1, B1, rfl, sa1, sb1, dd1, h1, g1⟩ := h
  obtain ⟨u2, v2, A2, B2, rfl, sa2, sb2, dd2, h2, g2⟩ := h1
  obtain rfl : u2 = [_] := h2
  obtain rfl : v2 = [_] := g2
  obtain rfl : v1 = [_] := g1
  rfl

abbrev D_Config : Type := (List (List (D_Label))) × (List (D_Pair)) × (List (D_Quota)) × (Int)
def R_Config : Rp D_Config := (Pr (Sl (Sl R_Label)) (Pr (Sl R_Pair) (Pr (Sl R_Quota) I)))
theorem R_Config_ok : Ok R_Config := (Pr_ok (Sl_ok (Sl_ok R_Label_ok)) (Pr_ok (Sl_ok R_Pair_ok) (Pr_ok (Sl_ok R_Quota_ok) I_ok)))
theorem rd_Config {W : World} {B : Nat} {L0 : List (List (D_Label))} {L1 : List (D_Pair)} {L2 : List (D_Quota)} {x3 : Int} {cs : List Value} (h : R_Config.rd W B (L0, L1, L2, x3) cs) : ∃ a0 c0 a1 c1 a2 c2, cs = [.slice a0 L0.length c0, .slice a1 L1.length c1, .slice a2 L2.length c2, .int .i64 x3] ∧ RdSl (Sl R_Label) W B L0 a0 c0 ∧ RdSl R_Pair W B L1 a1 c1 ∧ RdSl R_Quota W B L2 a2 c2 := by
  obtain ⟨u1, v1, rfl, h1, g1⟩ := h
  obtain ⟨a0, c0, rfl, k_L0⟩ := h1
  obtain ⟨u2, v2, rfl, h2, g2⟩ := g1
  obtain ⟨a1, c1, rfl, k_L1⟩ := h2
  obtain ⟨u3, v3, rfl, h3, g3⟩ := g2
  obtain ⟨a2, c2, rfl, k_L2⟩ := h3
  obtain rfl : v3 = [_] := g3
  exact ⟨a0, c0, a1, c1, a2, c2, rfl, k_L0, k_L1, k_L2⟩
theorem mkrd_Config {W : World} {B : Nat} {L0 : List (List (D_Label))} {L1 : List (D_Pair)} {L2 : List (D_Quota)} {x3 : Int} {a0 : Option Addr} {c0 : Nat} {a1 : Option Addr} {c1 : Nat} {a2 : Option Addr} {c2 : Nat} (h_L0 : RdSl (Sl R_Label) W B L0 a0 c0) (h_L1 : RdSl R_Pair W B L1 a1 c1) (h_L2 : RdSl R_Quota W B L2 a2 c2) : R_Config.rd W B (L0, L1, L2, x3) [.slice a0 L0.length c0, .slice a1 L1.length c1, .slice a2 L2.length c2, .int .i64 x3] := ⟨[.slice a0 L0.length c0], [.slice a1 L1.length c1, .slice a2 L2.length c2, .int .i64 x3], rfl, ⟨a0, c0, rfl, h_L0⟩, ⟨[.slice a1 L1.length c1], [.slice a2 L2.length c2, .int .i64 x3], rfl, ⟨a1, c1, rfl, h_L1⟩, ⟨[.slice a2 L2.length c2], [.int .i64 x3], rfl, ⟨a2, c2, rfl, h_L2⟩, rfl⟩⟩⟩
theorem mkow_Config {W : World} {S : Nat → Prop} {L0 : List (List (D_Label))} {L1 : List (D_Pair)} {L2 : List (D_Quota)} {x3 : Int} {a0 : Option Addr} {c0 : Nat} {a1 : Option Addr} {c1 : Nat} {a2 : Option Addr} {c2 : Nat} {T0 : Nat → Prop} {T1 : Nat → Prop} {T2 : Nat → Prop} (hs0 : ∀ k, T0 k → S k) (hs1 : ∀ k, T1 k → S k) (hs2 : ∀ k, T2 k → S k) (hd0_1 : ∀ k, T0 k → ¬ T1 k) (hd0_2 : ∀ k, T0 k → ¬ T2 k) (hd1_2 : ∀ k, T1 k → ¬ T2 k) (h_L0 : OwSl (Sl R_Label) W T0 L0 a0 c0) (h_L1 : OwSl R_Pair W T1 L1 a1 c1) (h_L2 : OwSl R_Quota W T2 L2 a2 c2) : R_Config.ow W S (L0, L1, L2, x3) [.slice a0 L0.length c0, .slice a1 L1.length c1, .slice a2 L2.length c2, .int .i64 x3] := ⟨[.slice a0 L0.length c0], [.slice a1 L1.length c1, .slice a2 L2.length c2, .int .i64 x3], T0, (fun k => T1 k ∨ T2 k), rfl, (fun k h => hs0 k h), (fun k h => by rcases h with h | h <;> first | exact hs1 k h | exact hs2 k h), (fun k h h' => by rcases h' with h' | h' <;> first | exact hd0_1 k h h' | exact hd0_2 k h h'), ⟨a0, c0, rfl, h_L0⟩, ⟨[.slice a1 L1.length c1], [.slice a2 L2.length c2, .int .i64 x3], T1, T2, rfl, (fun k h => .inl h), (fun k h => .inr (h)), hd1_2, ⟨a1, c1, rfl, h_L1⟩, ⟨[.slice a2 L2.length c2], [.int .i64 x3], T2, (fun _ => False), rfl, (fun k h => h), (fun k h => h.elim), (fun k h h' => h'.elim), ⟨a2, c2, rfl, h_L2⟩, rfl⟩⟩⟩
theorem ow_Config {W : World} {S : Nat → Prop} {L0 : List (List (D_Label))} {L1 : List (D_Pair)} {L2 : List (D_Quota)} {x3 : Int} {cs : List Value} (h : R_Config.ow W S (L0, L1, L2, x3) cs) : ∃ a0 c0 a1 c1 a2 c2, ∃ T0 T1 T2 : Nat → Prop, cs = [.slice a0 L0.length c0, .slice a1 L1.length c1, .slice a2 L2.length c2, .int .i64 x3] ∧ (∀ k, T0 k → S k) ∧ (∀ k, T1 k → S k) ∧ (∀ k, T2 k → S k) ∧ (∀ k, T0 k → ¬ T1 k) ∧ (∀ k, T0 k → ¬ T2 k) ∧ (∀ k, T1 k → ¬ T2 k) ∧ OwSl (Sl R_Label) W T0 L0 a0 c0 ∧ OwSl R_Pair W T1 L1 a1 c1 ∧ OwSl R_Quota W T2 L2 a2 c2 := by
  obtain ⟨u1, v1, A1, B1, rfl, sa1, sb1, dd1, h1, g1⟩ := h
  obtain ⟨a0, c0, rfl, k_L0⟩ := h1
  obtain ⟨u2, v2, A2, B2, rfl, sa2, sb2, dd2, h2, g2⟩ := g1
  obtain ⟨a1, c1, rfl, k_L1⟩ := h2
  obtain ⟨u3, v3, A3, B3, rfl, sa3, sb3, dd3, h3, g3⟩ := g2
  obtain ⟨a2, c2, rfl, k_L2⟩ := h3
  obtain rfl : v3 = [_] := g3
  exact ⟨a0, c0, a1, c1, a2, c2, A1, A2, A3, rfl, fun k h => sa1 k (h), fun k h => sb1 k (sa2 k (h)), fun k h => sb1 k (sb2 k (sa3 k (h))), fun k h h' => dd1 k (h) (sa2 k (h')), fun k h h' => dd1 k (h) (sb2 k (sa3 k (h'))), fun k h h' => dd2 k (h) (sa3 k (h')), k_L0, k_L1, k_L2⟩

abbrev D_ConfigOut : Type := (D_Config) × (Int) × (Int)
def R_ConfigOut : Rp D_ConfigOut := (Pr R_Config (Pr I I))
theorem R_ConfigOut_ok : Ok R_ConfigOut := (Pr_ok R_Config_ok (Pr_ok I_ok I_ok))
theorem rd_ConfigOut {W : World} {B : Nat} {L0 : List (List (D_Label))} {L1 : List (D_Pair)} {L2 : List (D_Quota)} {x3 : Int} {x4 : Int} {x5 : Int} {cs : List Value} (h : R_ConfigOut.rd W B ((L0, L1, L2, x3), x4, x5) cs) : ∃ a0 c0 a1 c1 a2 c2, cs = [.slice a0 L0.length c0, .slice a1 L1.length c1, .slice a2 L2.length c2, .int .i64 x3, .int .i64 x4, .int .i64 x5] ∧ RdSl (Sl R_Label) W B L0 a0 c0 ∧ RdSl R_Pair W B L1 a1 c1 ∧ RdSl R_Quota W B L2 a2 c2 := by
  obtain ⟨u1, v1, rfl, h1, g1⟩ := h
  obtain ⟨u2, v2, rfl, h2, g2⟩ := h1
  obtain ⟨a0, c0, rfl, k_L0⟩ := h2
  obtain ⟨u3, v3, rfl, h3, g3⟩ := g2
  obtain ⟨a1, c1, rfl, k_L1⟩ := h3
  obtain ⟨u4, v4, rfl, h4, g4⟩ := g3
  obtain ⟨a2, c2, rfl, k_L2⟩ := h4
  obtain rfl : v4 = [_] := g4
  obtain ⟨u5, v5, rfl, h5, g5⟩ := g1
  obtain rfl : u5 = [_] := h5
  obtain rfl : v5 = [_] := g5
  exact ⟨a0, c0, a1, c1, a2, c2, rfl, k_L0, k_L1, k_L2⟩
theorem mkrd_ConfigOut {W : World} {B : Nat} {L0 : List (List (D_Label))} {L1 : List (D_Pair)} {L2 : List (D_Quota)} {x3 : Int} {x4 : Int} {x5 : Int} {a0 : Option Addr} {c0 : Nat} {a1 : Option Addr} {c1 : Nat} {a2 : Option Addr} {c2 : Nat} (h_L0 : RdSl (Sl R_Label) W B L0 a0 c0) (h_L1 : RdSl R_Pair W B L1 a1 c1) (h_L2 : RdSl R_Quota W B L2 a2 c2) : R_ConfigOut.rd W B ((L0, L1, L2, x3), x4, x5) [.slice a0 L0.length c0, .slice a1 L1.length c1, .slice a2 L2.length c2, .int .i64 x3, .int .i64 x4, .int .i64 x5] := ⟨[.slice a0 L0.length c0, .slice a1 L1.length c1, .slice a2 L2.length c2, .int .i64 x3], [.int .i64 x4, .int .i64 x5], rfl, ⟨[.slice a0 L0.length c0], [.slice a1 L1.length c1, .slice a2 L2.length c2, .int .i64 x3], rfl, ⟨a0, c0, rfl, h_L0⟩, ⟨[.slice a1 L1.length c1], [.slice a2 L2.length c2, .int .i64 x3], rfl, ⟨a1, c1, rfl, h_L1⟩, ⟨[.slice a2 L2.length c2], [.int .i64 x3], rfl, ⟨a2, c2, rfl, h_L2⟩, rfl⟩⟩⟩, ⟨[.int .i64 x4], [.int .i64 x5], rfl, rfl, rfl⟩⟩
theorem mkow_ConfigOut {W : World} {S : Nat → Prop} {L0 : List (List (D_Label))} {L1 : List (D_Pair)} {L2 : List (D_Quota)} {x3 : Int} {x4 : Int} {x5 : Int} {a0 : Option Addr} {c0 : Nat} {a1 : Option Addr} {c1 : Nat} {a2 : Option Addr} {c2 : Nat} {T0 : Nat → Prop} {T1 : Nat → Prop} {T2 : Nat → Prop} (hs0 : ∀ k, T0 k → S k) (hs1 : ∀ k, T1 k → S k) (hs2 : ∀ k, T2 k → S k) (hd0_1 : ∀ k, T0 k → ¬ T1 k) (hd0_2 : ∀ k, T0 k → ¬ T2 k) (hd1_2 : ∀ k, T1 k → ¬ T2 k) (h_L0 : OwSl (Sl R_Label) W T0 L0 a0 c0) (h_L1 : OwSl R_Pair W T1 L1 a1 c1) (h_L2 : OwSl R_Quota W T2 L2 a2 c2) : R_ConfigOut.ow W S ((L0, L1, L2, x3), x4, x5) [.slice a0 L0.length c0, .slice a1 L1.length c1, .slice a2 L2.length c2, .int .i64 x3, .int .i64 x4, .int .i64 x5] := ⟨[.slice a0 L0.length c0, .slice a1 L1.length c1, .slice a2 L2.length c2, .int .i64 x3], [.int .i64 x4, .int .i64 x5], (fun k => T0 k ∨ T1 k ∨ T2 k), (fun _ => False), rfl, (fun k h => by rcases h with h | h | h <;> first | exact hs0 k h | exact hs1 k h | exact hs2 k h), (fun k h => h.elim), (fun k h h' => h'.elim), ⟨[.slice a0 L0.length c0], [.slice a1 L1.length c1, .slice a2 L2.length c2, .int .i64 x3], T0, (fun k => T1 k ∨ T2 k), rfl, (fun k h => .inl h), (fun k h => by rcases h with h | h <;> first | exact .inr (.inl h) | exact .inr (.inr (h))), (fun k h h' => by rcases h' with h' | h' <;> first | exact hd0_1 k h h' | exact hd0_2 k h h'), ⟨a0, c0, rfl, h_L0⟩, ⟨[.slice a1 L1.length c1], [.slice a2 L2.length c2, .int .i64 x3], T1, T2, rfl, (fun k h => .inl h), (fun k h => .inr (h)), hd1_2, ⟨a1, c1, rfl, h_L1⟩, ⟨[.slice a2 L2.length c2], [.int .i64 x3], T2, (fun _ => False), rfl, (fun k h => h), (fun k h => h.elim), (fun k h h' => h'.elim), ⟨a2, c2, rfl, h_L2⟩, rfl⟩⟩⟩, ⟨[.int .i64 x4], [.int .i64 x5], (fun _ => False), (fun _ => False), rfl, (fun k h => h.elim), (fun k h => h.elim), (fun k h h' => h.elim), rfl, rfl⟩⟩
theorem ow_ConfigOut {W : World} {S : Nat → Prop} {L0 : List (List (D_Label))} {L1 : List (D_Pair)} {L2 : List (D_Quota)} {x3 : Int} {x4 : Int} {x5 : Int} {cs : List Value} (h : R_ConfigOut.ow W S ((L0, L1, L2, x3), x4, x5) cs) : ∃ a0 c0 a1 c1 a2 c2, ∃ T0 T1 T2 : Nat → Prop, cs = [.slice a0 L0.length c0, .slice a1 L1.length c1, .slice a2 L2.length c2, .int .i64 x3, .int .i64 x4, .int .i64 x5] ∧ (∀ k, T0 k → S k) ∧ (∀ k, T1 k → S k) ∧ (∀ k, T2 k → S k) ∧ (∀ k, T0 k → ¬ T1 k) ∧ (∀ k, T0 k → ¬ T2 k) ∧ (∀ k, T1 k → ¬ T2 k) ∧ OwSl (Sl R_Label) W T0 L0 a0 c0 ∧ OwSl R_Pair W T1 L1 a1 c1 ∧ OwSl R_Quota W T2 L2 a2 c2 := by
  obtain ⟨u1, v1, A1, B1, rfl, sa1, sb1, dd1, h1, g1⟩ := h
  obtain ⟨u2, v2, A2, B2, rfl, sa2, sb2, dd2, h2, g2⟩ := h1
  obtain ⟨a0, c0, rfl, k_L0⟩ := h2
  obtain ⟨u3, v3, A3, B3, rfl, sa3, sb3, dd3, h3, g3⟩ := g2
  obtain ⟨a1, c1, rfl, k_L1⟩ := h3
  obtain ⟨u4, v4, A4, B4, rfl, sa4, sb4, dd4, h4, g4⟩ := g3
  obtain ⟨a2, c2, rfl, k_L2⟩ := h4
  obtain rfl : v4 = [_] := g4
  obtain ⟨u5, v5, A5, B5, rfl, sa5, sb5, dd5, h5, g5⟩ := g1
  obtain rfl : u5 = [_] := h5
  obtain rfl : v5 = [_] := g5
  exact ⟨a0, c0, a1, c1, a2, c2, A2, A3, A4, rfl, fun k h => sa1 k (sa2 k (h)), fun k h => sa1 k (sb2 k (sa3 k (h))), fun k h => sa1 k (sb2 k (sb3 k (sa4 k (h)))), fun k h h' => dd2 k (h) (sa3 k (h')), fun k h h' => dd2 k (h) (sb3 k (sa4 k (h'))), fun k h h' => dd3 k (h) (sa4 k (h')), k_L0, k_L1, k_L2⟩


set_option maxRecDepth 100000 in
set_option maxHeartbeats 3200000 in
theorem to_Pair {x0 : Int} {x1 : Int} {x2 : Int} {x3 : Int} {x4 : Int}  {W : World} (hsz : R_Pair.sz ((x0, x1), (x2, x3), x4) ≤ 1048576) : Calls Try.prog 81 #[.agg #[.int .i64 x0, .int .i64 x1, .int .i64 x2, .int .i64 x3, .int .i64 x4]] W (NewV R_Pair ((x0, x1), (x2, x3), x4) W) := by
  have HSZ := Lib.hid hsz
  clear hsz
  have hP := ((Blk.new W 108 #[.int .i64 x0, .int .i64 x1, .int .i64 x2, .int .i64 x3, .int .i64 x4]).alloc (.cells #[.int .i64 0, .int .i64 0, .int .i64 0, .int .i64 0, .int .i64 0] 105)).alloc (.cells #[.int .i64 0, .int .i64 0, .int .i64 0, .int .i64 0, .int .i64 0] 105)
  have hR := (Blk.new (W.alloc (.cells #[.int .i64 x0, .int .i64 x1, .int .i64 x2, .int .i64 x3, .int .i64 x4] 108)) 105 #[.int .i64 0, .int .i64 0, .int .i64 0, .int .i64 0, .int .i64 0]).alloc (.cells #[.int .i64 0, .int .i64 0, .int .i64 0, .int .i64 0, .int .i64 0] 105)
  have hO := Blk.new ((W.alloc (.cells #[.int .i64 x0, .int .i64 x1, .int .i64 x2, .int .i64 x3, .int .i64 x4] 108)).alloc (.cells #[.int .i64 0, .int .i64 0, .int .i64 0, .int .i64 0, .int .i64 0] 105)) 105 #[.int .i64 0, .int .i64 0, .int .i64 0, .int .i64 0, .int .i64 0]
  simp only [World.size_alloc] at hP hR hO
  have HB0 := Lib.hid (show Below W.heap.size W (((W.alloc (.cells #[.int .i64 x0, .int .i64 x1, .int .i64 x2, .int .i64 x3, .int .i64 x4] 108)).alloc (.cells #[.int .i64 0, .int .i64 0, .int .i64 0, .int .i64 0, .int .i64 0] 105)).alloc (.cells #[.int .i64 0, .int .i64 0, .int .i64 0, .int .i64 0, .int .i64 0] 105)) from (((Below.refl _ _).alloc (Nat.le_refl _) _).alloc (by simp) _).alloc (by simp; omega) _)
  have hz0 : W.heap.size + 3 ≤ (((W.alloc (.cells #[.int .i64 x0, .int .i64 x1, .int .i64 x2, .int .i64 x3, .int .i64 x4] 108)).alloc (.cells #[.int .i64 0, .int .i64 0, .int .i64 0, .int .i64 0, .int .i64 0] 105)).alloc (.cells #[.int .i64 0, .int .i64 0, .int .i64 0, .int .i64 0, .int .i64 0] 105)).heap.size := by simp
  have HP0 := Lib.hid hP
  have HR0 := Lib.hid hR
  have HO0 := Lib.hid hO
  clear hP hR hO
  go_enter Try.func81, Try.ntmps81
  go_wp2_with fail
  refine (to_Label (by have h0 := HSZ.out; simp only [R_Pair, R_Label, Pr, Sl, I, Bo, atom] at h0 ⊢; omega)).mono ?_
  intro e w1 h
  obtain ⟨vs, rfl, how, hb⟩ := newV_elim h
  obtain rfl := ow0_Label how
  have hP : Blk w1 (W.heap.size) 108 #[.int .i64 x0, .int .i64 x1, .int .i64 x2, .int .i64 x3, .int .i64 x4] := Blk.call HP0.out hb
  have hR : Blk w1 (W.heap.size + 1) 105 #[.int .i64 0, .int .i64 0, .int .i64 0, .int .i64 0, .int .i64 0] := Blk.call HR0.out hb
  have hO : Blk w1 (W.heap.size + 1 + 1) 105 #[.int .i64 0, .int .i64 0, .int .i64 0, .int .i64 0, .int .i64 0] := Blk.call HO0.out hb
  have hz1 : W.heap.size + 3 ≤ w1.heap.size := Nat.le_trans hz0 (size_call hb (S := fun x => x < W.heap.size + 3) (Off.refl (fun x => x < W.heap.size + 3) _))
  have HB1 := Lib.hid (Below.trans (B := W.heap.size) (a := W) HB0.out (hb.mono (by have h0 := hz0; first | omega | (simp; omega))))
  have HP1 := Lib.hid hP
  have HR1 := Lib.hid hR
  have HO1 := Lib.hid hO
  clear h hb hP hR hO how
  have p1_0 := HP1.out.at_ 0 rfl
  have o1_0 := HO1.out.at_ 0 rfl
  have r1_0 := HR1.out.at_ 0 rfl
  have f1_0 := HO1.out.soft 0
  have g1_0 := HR1.out.soft 0
  have p1_1 := HP1.out.at_ 1 rfl
  have o1_1 := HO1.out.at_ 1 rfl
  have r1_1 := HR1.out.at_ 1 rfl
  have f1_1 := HO1.out.soft 1
  have g1_1 := HR1.out.soft 1
  have p1_2 := HP1.out.at_ 2 rfl
  have o1_2 := HO1.out.at_ 2 rfl
  have r1_2 := HR1.out.at_ 2 rfl
  have f1_2 := HO1.out.soft 2
  have g1_2 := HR1.out.soft 2
  have p1_3 := HP1.out.at_ 3 rfl
  have o1_3 := HO1.out.at_ 3 rfl
  have r1_3 := HR1.out.at_ 3 rfl
  have f1_3 := HO1.out.soft 3
  have g1_3 := HR1.out.soft 3
  have p1_4 := HP1.out.at_ 4 rfl
  have o1_4 := HO1.out.at_ 4 rfl
  have r1_4 := HR1.out.at_ 4 rfl
  have f1_4 := HO1.out.soft 4
  have g1_4 := HR1.out.soft 4
  go_wp2_with fail
  refine (to_Label (by have h0 := HSZ.out; simp only [R_Pair, R_Label, Pr, Sl, I, Bo, atom] at h0 ⊢; omega)).mono ?_
  intro e w2 h
  obtain ⟨vs, rfl, how, hb⟩ := newV_elim h
  obtain rfl := ow0_Label how
  have hP : Blk w2 (W.heap.size) 108 #[.int .i64 x0, .int .i64 x1, .int .i64 x2, .int .i64 x3, .int .i64 x4] := Blk.call (Blk.far (b := W.heap.size + 1 + 1) (o := 1) (Blk.far (b := W.heap.size + 1 + 1) (o := 0) HP1.out (by omega) (.int .i64 x0)) (by omega) (.int .i64 x1)) hb
  have hR : Blk w2 (W.heap.size + 1) 105 #[.int .i64 0, .int .i64 0, .int .i64 0, .int .i64 0, .int .i64 0] := Blk.call (Blk.far (b := W.heap.size + 1 + 1) (o := 1) (Blk.far (b := W.heap.size + 1 + 1) (o := 0) HR1.out (by omega) (.int .i64 x0)) (by omega) (.int .i64 x1)) hb
  have hO : Blk w2 (W.heap.size + 1 + 1) 105 #[.int .i64 x0, .int .i64 x1, .int .i64 0, .int .i64 0, .int .i64 0] := Blk.call (Blk.set (Blk.set HO1.out 0 (.int .i64 x0)) 1 (.int .i64 x1)) hb
  have hz2 : W.heap.size + 3 ≤ w2.heap.size := Nat.le_trans hz1 (size_call hb (S := fun x => x < W.heap.size + 3) (((Off.refl (fun x => x < W.heap.size + 3) w1).setCell (p := ⟨W.heap.size + 1 + 1, 0, none⟩) (by show W.heap.size + 1 + 1 < W.heap.size + 3; omega) (.int .i64 x0)).setCell (p := ⟨W.heap.size + 1 + 1, 1, none⟩) (by show W.heap.size + 1 + 1 < W.heap.size + 3; omega) (.int .i64 x1)))
  have HB2 := Lib.hid (Below.trans (B := W.heap.size) (a := W) ((HB1.out.setCell (p := ⟨W.heap.size + 1 + 1, 0, none⟩) (by show W.heap.size ≤ W.heap.size + 1 + 1; omega) (.int .i64 x0)).setCell (p := ⟨W.heap.size + 1 + 1, 1, none⟩) (by show W.heap.size ≤ W.heap.size + 1 + 1; omega) (.int .i64 x1)) (hb.mono (by have h0 := hz1; first | omega | (simp; omega))))
  have hle2 := size_call hb (((Off.refl (fun x => x < W.heap.size + 3) w1).setCell (p := ⟨W.heap.size + 1 + 1, 0, none⟩) (by show W.heap.size + 1 + 1 < W.heap.size + 3; omega) (.int .i64 x0)).setCell (p := ⟨W.heap.size + 1 + 1, 1, none⟩) (by show W.heap.size + 1 + 1 < W.heap.size + 3; omega) (.int .i64 x1))
  have HP2 := Lib.hid hP
  have HR2 := Lib.hid hR
  have HO2 := Lib.hid hO
  clear h hb hP hR hO how
  clear p1_0 o1_0 r1_0 f1_0 g1_0 p1_1 o1_1 r1_1 f1_1 g1_1 p1_2 o1_2 r1_2 f1_2 g1_2 p1_3 o1_3 r1_3 f1_3 g1_3 p1_4 o1_4 r1_4 f1_4 g1_4
  have p2_0 := HP2.out.at_ 0 rfl
  have o2_0 := HO2.out.at_ 0 rfl
  have r2_0 := HR2.out.at_ 0 rfl
  have f2_0 := HO2.out.soft 0
  have g2_0 := HR2.out.soft 0
  have p2_1 := HP2.out.at_ 1 rfl
  have o2_1 := HO2.out.at_ 1 rfl
  have r2_1 := HR2.out.at_ 1 rfl
  have f2_1 := HO2.out.soft 1
  have g2_1 := HR2.out.soft 1
  have p2_2 := HP2.out.at_ 2 rfl
  have o2_2 := HO2.out.at_ 2 rfl
  have r2_2 := HR2.out.at_ 2 rfl
  have f2_2 := HO2.out.soft 2
  have g2_2 := HR2.out.soft 2
  have p2_3 := HP2.out.at_ 3 rfl
  have o2_3 := HO2.out.at_ 3 rfl
  have r2_3 := HR2.out.at_ 3 rfl
  have f2_3 := HO2.out.soft 3
  have g2_3 := HR2.out.soft 3
  have p2_4 := HP2.out.at_ 4 rfl
  have o2_4 := HO2.out.at_ 4 rfl
  have r2_4 := HR2.out.at_ 4 rfl
  have f2_4 := HO2.out.soft 4
  have g2_4 := HR2.out.soft 4
  go_wp2
  refine bodyPost_ret (v := .agg #[.int .i64 x0, .int .i64 x1, .int .i64 x2, .int .i64 x3, .int .i64 x4]) (by simp [results, Try.results81, go_sem, *]) rfl ⟨[.int .i64 x0, .int .i64 x1, .int .i64 x2, .int .i64 x3, .int .i64 x4], rfl, ?_, ((((((((HB2.out.setCell (p := ⟨W.heap.size + 1 + 1, 2, none⟩) (by show W.heap.size ≤ W.heap.size + 1 + 1; omega) (.int .i64 x2)).setCell (p := ⟨W.heap.size + 1 + 1, 3, none⟩) (by show W.heap.size ≤ W.heap.size + 1 + 1; omega) (.int .i64 x3)).setCell (p := ⟨W.heap.size + 1 + 1, 4, none⟩) (by show W.heap.size ≤ W.heap.size + 1 + 1; omega) (.int .i64 x4)).setCell (p := ⟨W.heap.size + 1, 0, none⟩) (by show W.heap.size ≤ W.heap.size + 1; omega) (.int .i64 x0)).setCell (p := ⟨W.heap.size + 1, 1, none⟩) (by show W.heap.size ≤ W.heap.size + 1; omega) (.int .i64 x1)).setCell (p := ⟨W.heap.size + 1, 2, none⟩) (by show W.heap.size ≤ W.heap.size + 1; omega) (.int .i64 x2)).setCell (p := ⟨W.heap.size + 1, 3, none⟩) (by show W.heap.size ≤ W.heap.size + 1; omega) (.int .i64 x3)).setCell (p := ⟨W.heap.size + 1, 4, none⟩) (by show W.heap.size ≤ W.heap.size + 1; omega) (.int .i64 x4))⟩
  have hoff := (((((((((Off.refl (fun x => x < W.heap.size + 3) w2).setCell (p := ⟨W.heap.size + 1 + 1, 2, none⟩) (by show W.heap.size + 1 + 1 < W.heap.size + 3; omega) (.int .i64 x2)).setCell (p := ⟨W.heap.size + 1 + 1, 3, none⟩) (by show W.heap.size + 1 + 1 < W.heap.size + 3; omega) (.int .i64 x3)).setCell (p := ⟨W.heap.size + 1 + 1, 4, none⟩) (by show W.heap.size + 1 + 1 < W.heap.size + 3; omega) (.int .i64 x4)).setCell (p := ⟨W.heap.size + 1, 0, none⟩) (by show W.heap.size + 1 < W.heap.size + 3; omega) (.int .i64 x0)).setCell (p := ⟨W.heap.size + 1, 1, none⟩) (by show W.heap.size + 1 < W.heap.size + 3; omega) (.int .i64 x1)).setCell (p := ⟨W.heap.size + 1, 2, none⟩) (by show W.heap.size + 1 < W.heap.size + 3; omega) (.int .i64 x2)).setCell (p := ⟨W.heap.size + 1, 3, none⟩) (by show W.heap.size + 1 < W.heap.size + 3; omega) (.int .i64 x3)).setCell (p := ⟨W.heap.size + 1, 4, none⟩) (by show W.heap.size + 1 < W.heap.size + 3; omega) (.int .i64 x4))
  have hsz := hoff.size
  exact mkow_Pair

theorem size_PairS : (R_Pair).size = 5 := rfl
def zs_PairS (n : Nat) : Array Value := madeCells #[.int .i64 0, .int .i64 0, .int .i64 0, .int .i64 0, .int .i64 0] (n * 5)
theorem zs_PairS_size (n : Nat) : (zs_PairS n).size = n * (R_Pair).size := by unfold zs_PairS; simp [madeCells, size_PairS]
theorem make_PairS (n : Nat) (hn : n ≤ 1048576) : ∀ W : World, (Instr.makeSlice 33 (.int .i64 (n : Int)) (.int .i64 (n : Int))).run Try.prog W = .ok (.slice (some ⟨W.heap.size, 0, none⟩) n n) (W.alloc (.cells (zs_PairS n) 105)) := by
  intro W
  obtain ⟨i, hi, hz, hs, hb⟩ : ∃ i, Try.prog.info? 105 = some i ∧ i.zero = some (.agg #[.int .i64 0, .int .i64 0, .int .i64 0, .int .i64 0, .int .i64 0]) ∧ i.size = 5 ∧ i.bytes = 40 := by
    have h : (Try.prog.info? 105).map (fun i => (i.zero, i.size, i.bytes)) = some (some (.agg #[.int .i64 0, .int .i64 0, .int .i64 0, .int .i64 0, .int .i64 0]), 5, 40) := by kernel_rfl
    cases hx : Try.prog.info? 105 with
    | none => rw [hx] at h; simp at h
    | some i => rw [hx] at h; simp at h; exact ⟨i, rfl, h.1, h.2.1, h.2.2⟩
  have hr := run_make (P := Try.prog) W 33 105 i _ Try.underlying33 hi hz .i64 .i64 n n (by omega) (by omega) (by rw [hb]; omega) (by omega)
  rw [hs] at hr
  simp only [Int.toNat_natCast] at hr
  exact hr

set_option maxRecDepth 100000 in
set_option maxHeartbeats 3200000 in
theorem to_PairS {L : List (D_Pair)} {a : Option Addr} {cap : Nat} {W : World} (hsz : ((Sl R_Pair)).sz L ≤ 1048576) (h : RdSl R_Pair W W.heap.size L a cap) : Calls Try.prog 44 #[.slice a L.length cap] W (NewS R_Pair L W) := by
  have hn : L.length ≤ 1048576 := Nat.le_trans (Nat.le_add_right _ _) hsz
  have hmk := make_PairS L.length hn
  have H := Lib.hid h
  have HSZ := Lib.hid hsz
  clear h hsz
  go_enter Try.func44, Try.ntmps44
  go_wp2
  go_loopw [4] (fun i wr => ∃ k : Nat, k ≤ L.length ∧ i = .int .i64 k ∧ ∃ Sf, Fil R_Pair W wr L W.heap.size Sf k) (fun i _ => L.length - (intOf i).toNat)
  case atStart => exact ⟨0, Nat.zero_le _, rfl, _, Fil.new (by exact zs_PairS_size _)⟩
  case round =>
    obtain ⟨k, hk, rfl, Sf, hF⟩ := hrel
    have HF := Lib.hid hF
    by_cases hlt : k < L.length
    · obtain ⟨⟨⟨x0, x1⟩, ⟨x2, x3⟩, x4⟩, hx⟩ := el_some hlt
      have HX := Lib.hid hx
      obtain ⟨g, o, us, rfl, hg, hu, hr⟩ := (H.out.below R_Pair_ok hF.below).at_ hx
      obtain rfl := rd_Pair hr
      have e0 : wr.cell? ⟨g, o + k * 5, none⟩ = some (.int .i64 x0) := by simpa [size_PairS, Nat.add_assoc] using hu 0 _ rfl
      have e1 : wr.cell? ⟨g, o + k * 5 + 1, none⟩ = some (.int .i64 x1) := by simpa [size_PairS, Nat.add_assoc] using hu 1 _ rfl
      have e2 : wr.cell? ⟨g, o + k * 5 + 2, none⟩ = some (.int .i64 x2) := by simpa [size_PairS, Nat.add_assoc] using hu 2 _ rfl
      have e3 : wr.cell? ⟨g, o + k * 5 + 3, none⟩ = some (.int .i64 x3) := by simpa [size_PairS, Nat.add_assoc] using hu 3 _ rfl
      have e4 : wr.cell? ⟨g, o + k * 5 + 4, none⟩ = some (.int .i64 x4) := by simpa [size_PairS, Nat.add_assoc] using hu 4 _ rfl
      have hi0 : (0 : Int) ≤ (k : Int) := Int.natCast_nonneg _
      have hi1 : (k : Int) < (L.length : Int) := by omega
      have HE := Lib.hid (sz_at (f := (R_Pair).sz) HX.out HSZ.out)
      clear hF hx hu hmk
      go_wp2_with fail
      refine (to_Pair (by exact HE.out)).mono ?_
      intro e w1 h
      obtain ⟨vs, rfl, how, hb⟩ := newV_elim h
      have HOW := Lib.hid how
      obtain rfl := ow0_Pair how
      have HP := Lib.hid (HF.out.put R_Pair_ok HX.out hb HOW.out)
      have hlt1 := HF.out.lt
      obtain ⟨t0, ht0⟩ := HF.out.there (k * 5) (by rw [size_PairS]; omega)
      have q0 := (hb.cell (p := ⟨W.heap.size, k * 5, none⟩) hlt1).trans ht0
      have s0 := (hb.frozen (p := ⟨W.heap.size, k * 5, none⟩) hlt1).trans (HF.out.soft (k * 5))
      obtain ⟨t1, ht1⟩ := HF.out.there (k * 5 + 1) (by rw [size_PairS]; omega)
      have q1 := (hb.cell (p := ⟨W.heap.size, k * 5 + 1, none⟩) hlt1).trans ht1
      have s1 := (hb.frozen (p := ⟨W.heap.size, k * 5 + 1, none⟩) hlt1).trans (HF.out.soft (k * 5 + 1))
      obtain ⟨t2, ht2⟩ := HF.out.there (k * 5 + 2) (by rw [size_PairS]; omega)
      have q2 := (hb.cell (p := ⟨W.heap.size, k * 5 + 2, none⟩) hlt1).trans ht2
      have s2 := (hb.frozen (p := ⟨W.heap.size, k * 5 + 2, none⟩) hlt1).trans (HF.out.soft (k * 5 + 2))
      obtain ⟨t3, ht3⟩ := HF.out.there (k * 5 + 3) (by rw [size_PairS]; omega)
      have q3 := (hb.cell (p := ⟨W.heap.size, k * 5 + 3, none⟩) hlt1).trans ht3
      have s3 := (hb.frozen (p := ⟨W.heap.size, k * 5 + 3, none⟩) hlt1).trans (HF.out.soft (k * 5 + 3))
      obtain ⟨t4, ht4⟩ := HF.out.there (k * 5 + 4) (by rw [size_PairS]; omega)
      have q4 := (hb.cell (p := ⟨W.heap.size, k * 5 + 4, none⟩) hlt1).trans ht4
      have s4 := (hb.frozen (p := ⟨W.heap.size, k * 5 + 4, none⟩) hlt1).trans (HF.out.soft (k * 5 + 4))
      clear h how hb ht0 ht1 ht2 ht3 ht4 e0 e1 e2 e3 e4
      go_wp2
      go_roundw
      case rel => exact ⟨k + 1, by omega, by go_num, _, by simpa [putCells, size_PairS, Nat.add_assoc] using HP.out⟩
      case measure => simp [intOf]; omega
    · obtain rfl : k = L.length := by omega
      have HR := Lib.hid (HF.out.news (by unfold maxLen; omega))
      clear hF hmk
      go_wp2
      go_ret
      exact HR.out


set_option maxRecDepth 100000 in
set_option maxHeartbeats 3200000 in
theorem to_Quota {x0 : Int} {x1 : Int} {x2 : Int}  {W : World} (hsz : R_Quota.sz ((x0, x1), x2) ≤ 1048576) : Calls Try.prog 82 #[.agg #[.int .i64 x0, .int .i64 x1, .int .i64 x2]] W (NewV R_Quota ((x0, x1), x2) W) := by
  have HSZ := Lib.hid hsz
  clear hsz
  have hP := ((Blk.new W 111 #[.int .i64 x0, .int .i64 x1, .int .i64 x2]).alloc (.cells #[.int .i64 0, .int .i64 0, .int .i64 0] 86)).alloc (.cells #[.int .i64 0, .int .i64 0, .int .i64 0] 86)
  have hR := (Blk.new (W.alloc (.cells #[.int .i64 x0, .int .i64 x1, .int .i64 x2] 111)) 86 #[.int .i64 0, .int .i64 0, .int .i64 0]).alloc (.cells #[.int .i64 0, .int .i64 0, .int .i64 0] 86)
  have hO := Blk.new ((W.alloc (.cells #[.int .i64 x0, .int .i64 x1, .int .i64 x2] 111)).alloc (.cells #[.int .i64 0, .int .i64 0, .int .i64 0] 86)) 86 #[.int .i64 0, .int .i64 0, .int .i64 0]
  simp only [World.size_alloc] at hP hR hO
  have HB0 := Lib.hid (show Below W.heap.size W (((W.alloc (.cells #[.int .i64 x0, .int .i64 x1, .int .i64 x2] 111)).alloc (.cells #[.int .i64 0, .int .i64 0, .int .i64 0] 86)).alloc (.cells #[.int .i64 0, .int .i64 0, .int .i64 0] 86)) from (((Below.refl _ _).alloc (Nat.le_refl _) _).alloc (by simp) _).alloc (by simp; omega) _)
  have hz0 : W.heap.size + 3 ≤ (((W.alloc (.cells #[.int .i64 x0, .int .i64 x1, .int .i64 x2] 111)).alloc (.cells #[.int .i64 0, .int .i64 0, .int .i64 0] 86)).alloc (.cells #[.int .i64 0, .int .i64 0, .int .i64 0] 86)).heap.size := by simp
  have HP0 := Lib.hid hP
  have HR0 := Lib.hid hR
  have HO0 := Lib.hid hO
  clear hP hR hO
  go_enter Try.func82, Try.ntmps82
  go_wp2_with fail
  refine (to_Label (by have h0 := HSZ.out; simp only [R_Quota, R_Label, Pr, Sl, I, Bo, atom] at h0 ⊢; omega)).mono ?_
  intro e w1 h
  obtain ⟨vs, rfl, how, hb⟩ := newV_elim h
  obtain rfl := ow0_Label how
  have hP : Blk w1 (W.heap.size) 111 #[.int .i64 x0, .int .i64 x1, .int .i64 x2] := Blk.call HP0.out hb
  have hR : Blk w1 (W.heap.size + 1) 86 #[.int .i64 0, .int .i64 0, .int .i64 0] := Blk.call HR0.out hb
  have hO : Blk w1 (W.heap.size + 1 + 1) 86 #[.int .i64 0, .int .i64 0, .int .i64 0] := Blk.call HO0.out hb
  have hz1 : W.heap.size + 3 ≤ w1.heap.size := Nat.le_trans hz0 (size_call hb (S := fun x => x < W.heap.size + 3) (Off.refl (fun x => x < W.heap.size + 3) _))
  have HB1 := Lib.hid (Below.trans (B := W.heap.size) (a := W) HB0.out (hb.mono (by have h0 := hz0; first | omega | (simp; omega))))
  have HP1 := Lib.hid hP
  have HR1 := Lib.hid hR
  have HO1 := Lib.hid hO
  clear h hb hP hR hO how
  have p1_0 := HP1.out.at_ 0 rfl
  have o1_0 := HO1.out.at_ 0 rfl
  have r1_0 := HR1.out.at_ 0 rfl
  have f1_0 := HO1.out.soft 0
  have g1_0 := HR1.out.soft 0
  have p1_1 := HP1.out.at_ 1 rfl
  have o1_1 := HO1.out.at_ 1 rfl
  have r1_1 := HR1.out.at_ 1 rfl
  have f1_1 := HO1.out.soft 1
  have g1_1 := HR1.out.soft 1
  have p1_2 := HP1.out.at_ 2 rfl
  have o1_2 := HO1.out.at_ 2 rfl
  have r1_2 := HR1.out.at_ 2 rfl
  have f1_2 := HO1.out.soft 2
  have g1_2 := HR1.out.soft 2
  go_wp2
  refine bodyPost_ret (v := .agg #[.int .i64 x0, .int .i64 x1, .int .i64 x2]) (by simp [results, Try.results82, go_sem, *]) rfl ⟨[.int .i64 x0, .int .i64 x1, .int .i64 x2], rfl, ?_, ((((((HB1.out.setCell (p := ⟨W.heap.size + 1 + 1, 0, none⟩) (by show W.heap.size ≤ W.heap.size + 1 + 1; omega) (.int .i64 x0)).setCell (p := ⟨W.heap.size + 1 + 1, 1, none⟩) (by show W.heap.size ≤ W.heap.size + 1 + 1; omega) (.int .i64 x1)).setCell (p := ⟨W.heap.size + 1 + 1, 2, none⟩) (by show W.heap.size ≤ W.heap.size + 1 + 1; omega) (.int .i64 x2)).setCell (p := ⟨W.heap.size + 1, 0, none⟩) (by show W.heap.size ≤ W.heap.size + 1; omega) (.int .i64 x0)).setCell (p := ⟨W.heap.size + 1, 1, none⟩) (by show W.heap.size ≤ W.heap.size + 1; omega) (.int .i64 x1)).setCell (p := ⟨W.heap.size + 1, 2, none⟩) (by show W.heap.size ≤ W.heap.size + 1; omega) (.int .i64 x2))⟩
  have hoff := (((((((Off.refl (fun x => x < W.heap.size + 3) w1).setCell (p := ⟨W.heap.size + 1 + 1, 0, none⟩) (by show W.heap.size + 1 + 1 < W.heap.size + 3; omega) (.int .i64 x0)).setCell (p := ⟨W.heap.size + 1 + 1, 1, none⟩) (by show W.heap.size + 1 + 1 < W.heap.size + 3; omega) (.int .i64 x1)).setCell (p := ⟨W.heap.size + 1 + 1, 2, none⟩) (by show W.heap.size + 1 + 1 < W.heap.size + 3; omega) (.int .i64 x2)).setCell (p := ⟨W.heap.size + 1, 0, none⟩) (by show W.heap.size + 1 < W.heap.size + 3; omega) (.int .i64 x0)).setCell (p := ⟨W.heap.size + 1, 1, none⟩) (by show W.heap.size + 1 < W.heap.size + 3; omega) (.int .i64 x1)).setCell (p := ⟨W.heap.size + 1, 2, none⟩) (by show W.heap.size + 1 < W.heap.size + 3; omega) (.int .i64 x2))
  have hsz := hoff.size
  exact mkow_Quota

theorem size_QuotaS : (R_Quota).size = 3 := rfl
def zs_QuotaS (n : Nat) : Array Value := madeCells #[.int .i64 0, .int .i64 0, .int .i64 0] (n * 3)
theorem zs_QuotaS_size (n : Nat) : (zs_QuotaS n).size = n * (R_Quota).size := by unfold zs_QuotaS; simp [madeCells, size_QuotaS]
theorem make_QuotaS (n : Nat) (hn : n ≤ 1048576) : ∀ W : World, (Instr.makeSlice 34 (.int .i64 (n : Int)) (.int .i64 (n : Int))).run Try.prog W = .ok (.slice (some ⟨W.heap.size, 0, none⟩) n n) (W.alloc (.cells (zs_QuotaS n) 86)) := by
  intro W
  obtain ⟨i, hi, hz, hs, hb⟩ : ∃ i, Try.prog.info? 86 = some i ∧ i.zero = some (.agg #[.int .i64 0, .int .i64 0, .int .i64 0]) ∧ i.size = 3 ∧ i.bytes = 24 := by
    have h : (Try.prog.info? 86).map (fun i => (i.zero, i.size, i.bytes)) = some (some (.agg #[.int .i64 0, .int .i64 0, .int .i64 0]), 3, 24) := by kernel_rfl
    cases hx : Try.prog.info? 86 with
    | none => rw [hx] at h; simp at h
    | some i => rw [hx] at h; simp at h; exact ⟨i, rfl, h.1, h.2.1, h.2.2⟩
  have hr := run_make (P := Try.prog) W 34 86 i _ Try.underlying34 hi hz .i64 .i64 n n (by omega) (by omega) (by rw [hb]; omega) (by omega)
  rw [hs] at hr
  simp only [Int.toNat_natCast] at hr
  exact hr

set_option maxRecDepth 100000 in
set_option maxHeartbeats 3200000 in
theorem to_QuotaS {L : List (D_Quota)} {a : Option Addr} {cap : Nat} {W : World} (hsz : ((Sl R_Quota)).sz L ≤ 1048576) (h : RdSl R_Quota W W.heap.size L a cap) : Calls Try.prog 45 #[.slice a L.length cap] W (NewS R_Quota L W) := by
  have hn : L.length ≤ 1048576 := Nat.le_trans (Nat.le_add_right _ _) hsz
  have hmk := make_QuotaS L.length hn
  have H := Lib.hid h
  have HSZ := Lib.hid hsz
  clear h hsz
  go_enter Try.func45, Try.ntmps45
  go_wp2
  go_loopw [4] (fun i wr => ∃ k : Nat, k ≤ L.length ∧ i = .int .i64 k ∧ ∃ Sf, Fil R_Quota W wr L W.heap.size Sf k) (fun i _ => L.length - (intOf i).toNat)
  case atStart => exact ⟨0, Nat.zero_le _, rfl, _, Fil.new (by exact zs_QuotaS_size _)⟩
  case round =>
    obtain ⟨k, hk, rfl, Sf, hF⟩ := hrel
    have HF := Lib.hid hF
    by_cases hlt : k < L.length
    · obtain ⟨⟨⟨x0, x1⟩, x2⟩, hx⟩ := el_some hlt
      have HX := Lib.hid hx
      obtain ⟨g, o, us, rfl, hg, hu, hr⟩ := (H.out.below R_Quota_ok hF.below).at_ hx
      obtain rfl := rd_Quota hr
      have e0 : wr.cell? ⟨g, o + k * 3, none⟩ = some (.int .i64 x0) := by simpa [size_QuotaS, Nat.add_assoc] using hu 0 _ rfl
      have e1 : wr.cell? ⟨g, o + k * 3 + 1, none⟩ = some (.int .i64 x1) := by simpa [size_QuotaS, Nat.add_assoc] using hu 1 _ rfl
      have e2 : wr.cell? ⟨g, o + k * 3 + 2, none⟩ = some (.int .i64 x2) := by simpa [size_QuotaS, Nat.add_assoc] using hu 2 _ rfl
      have hi0 : (0 : Int) ≤ (k : Int) := Int.natCast_nonneg _
      have hi1 : (k : Int) < (L.length : Int) := by omega
      have HE := Lib.hid (sz_at (f := (R_Quota).sz) HX.out HSZ.out)
      clear hF hx hu hmk
      go_wp2_with fail
      refine (to_Quota (by exact HE.out)).mono ?_
      intro e w1 h
      obtain ⟨vs, rfl, how, hb⟩ := newV_elim h
      have HOW := Lib.hid how
      obtain rfl := ow0_Quota how
      have HP := Lib.hid (HF.out.put R_Quota_ok HX.out hb HOW.out)
      have hlt1 := HF.out.lt
      obtain ⟨t0, ht0⟩ := HF.out.there (k * 3) (by rw [size_QuotaS]; omega)
      have q0 := (hb.cell (p := ⟨W.heap.size, k * 3, none⟩) hlt1).trans ht0
      have s0 := (hb.frozen (p := ⟨W.heap.size, k * 3, none⟩) hlt1).trans (HF.out.soft (k * 3))
      obtain ⟨t1, ht1⟩ := HF.out.there (k * 3 + 1) (by rw [size_QuotaS]; omega)
      have q1 := (hb.cell (p := ⟨W.heap.size, k * 3 + 1, none⟩) hlt1).trans ht1
      have s1 := (hb.frozen (p := ⟨W.heap.size, k * 3 + 1, none⟩) hlt1).trans (HF.out.soft (k * 3 + 1))
      obtain ⟨t2, ht2⟩ := HF.out.there (k * 3 + 2) (by rw [size_QuotaS]; omega)
      have q2 := (hb.cell (p := ⟨W.heap.size, k * 3 + 2, none⟩) hlt1).trans ht2
      have s2 := (hb.frozen (p := ⟨W.heap.size, k * 3 + 2, none⟩) hlt1).trans (HF.out.soft (k * 3 + 2))
      clear h how hb ht0 ht1 ht2 e0 e1 e2
      go_wp2
      go_roundw
      case rel => exact ⟨k + 1, by omega, by go_num, _, by simpa [putCells, size_QuotaS, Nat.add_assoc] using HP.out⟩
      case measure => simp [intOf]; omega
    · obtain rfl : k = L.length := by omega
      have HR := Lib.hid (HF.out.news (by unfold maxLen; omega))
      clear hF hmk
      go_wp2
      go_ret
      exact HR.out


set_option maxRecDepth 100000 in
set_option maxHeartbeats 3200000 in
theorem to_Config {L0 : List (List (D_Label))} {L1 : List (D_Pair)} {L2 : List (D_Quota)} {x3 : Int} {a0 : Option Addr} {c0 : Nat} {a1 : Option Addr} {c1 : Nat} {a2 : Option Addr} {c2 : Nat} {W : World} (hsz : R_Config.sz (L0, L1, L2, x3) ≤ 1048576) (h_L0 : RdSl (Sl R_Label) W W.heap.size L0 a0 c0) (h_L1 : RdSl R_Pair W W.heap.size L1 a1 c1) (h_L2 : RdSl R_Quota W W.heap.size L2 a2 c2) : Calls Try.prog 11 #[.agg #[.slice a0 L0.length c0, .slice a1 L1.length c1, .slice a2 L2.length c2, .int .i64 x3]] W (NewV R_Config (L0, L1, L2, x3) W) := by
  have H_L0 := Lib.hid h_L0
  have H_L1 := Lib.hid h_L1
  have H_L2 := Lib.hid h_L2
  have HSZ := Lib.hid hsz
  clear hsz h_L0 h_L1 h_L2
  have hP := ((Blk.new W 26 #[.slice a0 L0.length c0, .slice a1 L1.length c1, .slice a2 L2.length c2, .int .i64 x3]).alloc (.cells #[.slice none 0 0, .slice none 0 0, .slice none 0 0, .int .i64 0] 36)).alloc (.cells #[.slice none 0 0, .slice none 0 0, .slice none 0 0, .int .i64 0] 36)
  have hR := (Blk.new (W.alloc (.cells #[.slice a0 L0.length c0, .slice a1 L1.length c1, .slice a2 L2.length c2, .int .i64 x3] 26)) 36 #[.slice none 0 0, .slice none 0 0, .slice none 0 0, .int .i64 0]).alloc (.cells #[.slice none 0 0, .slice none 0 0, .slice none 0 0, .int .i64 0] 36)
  have hO := Blk.new ((W.alloc (.cells #[.slice a0 L0.length c0, .slice a1 L1.length c1, .slice a2 L2.length c2, .int .i64 x3] 26)).alloc (.cells #[.slice none 0 0, .slice none 0 0, .slice none 0 0, .int .i64 0] 36)) 36 #[.slice none 0 0, .slice none 0 0, .slice none 0 0, .int .i64 0]
  simp only [World.size_alloc] at hP hR hO
  have HB0 := Lib.hid (show Below W.heap.size W (((W.alloc (.cells #[.slice a0 L0.length c0, .slice a1 L1.length c1, .slice a2 L2.length c2, .int .i64 x3] 26)).alloc (.cells #[.slice none 0 0, .slice none 0 0, .slice none 0 0, .int .i64 0] 36)).alloc (.cells #[.slice none 0 0, .slice none 0 0, .slice none 0 0, .int .i64 0] 36)) from (((Below.refl _ _).alloc (Nat.le_refl _) _).alloc (by simp) _).alloc (by simp; omega) _)
  have hz0 : W.heap.size + 3 ≤ (((W.alloc (.cells #[.slice a0 L0.length c0, .slice a1 L1.length c1, .slice a2 L2.length c2, .int .i64 x3] 26)).alloc (.cells #[.slice none 0 0, .slice none 0 0, .slice none 0 0, .int .i64 0] 36)).alloc (.cells #[.slice none 0 0, .slice none 0 0, .slice none 0 0, .int .i64 0] 36)).heap.size := by simp
  have HP0 := Lib.hid hP
  have HR0 := Lib.hid hR
  have HO0 := Lib.hid hO
  clear hP hR hO
  go_enter Try.func11, Try.ntmps11
  go_wp2_with fail
  refine (to_LabelSS (by have h0 := HSZ.out; simp only [R_Config, Pr, Sl, I, Bo, atom] at h0 ⊢; omega) ((H_L0.out.below (Sl_ok R_Label_ok) HB0.out).more (Sl_ok R_Label_ok) (by have h0 := hz0; first | omega | (simp; omega)))).mono ?_
  intro e w1 h
  obtain ⟨b_L0, d_L0, rfl, how_L0, hb⟩ := newS_elim h
  have hP : Blk w1 (W.heap.size) 26 #[.slice a0 L0.length c0, .slice a1 L1.length c1, .slice a2 L2.length c2, .int .i64 x3] := Blk.call HP0.out hb
  have hR : Blk w1 (W.heap.size + 1) 36 #[.slice none 0 0, .slice none 0 0, .slice none 0 0, .int .i64 0] := Blk.call HR0.out hb
  have hO : Blk w1 (W.heap.size + 1 + 1) 36 #[.slice none 0 0, .slice none 0 0, .slice none 0 0, .int .i64 0] := Blk.call HO0.out hb
  have hz1 : W.heap.size + 3 ≤ w1.heap.size := Nat.le_trans hz0 (size_call hb (S := fun x => x < W.heap.size + 3) (Off.refl (fun x => x < W.heap.size + 3) _))
  have HB1 := Lib.hid (Below.trans (B := W.heap.size) (a := W) HB0.out (hb.mono (by have h0 := hz0; first | omega | (simp; omega))))
  have HO_L0 := Lib.hid how_L0
  have HL_L0 := Lib.hid (fun k hk => rg_call hb (m := W.heap.size + 3) (by have h0 := hz0; first | omega | (simp; omega)) k hk)
  have HU_L0 := Lib.hid (rg_call hb (m := 0) (Nat.zero_le _))
  have HP1 := Lib.hid hP
  have HR1 := Lib.hid hR
  have HO1 := Lib.hid hO
  clear h hb hP hR hO how_L0
  have p1_0 := HP1.out.at_ 0 rfl
  have o1_0 := HO1.out.at_ 0 rfl
  have r1_0 := HR1.out.at_ 0 rfl
  have f1_0 := HO1.out.soft 0
  have g1_0 := HR1.out.soft 0
  have p1_1 := HP1.out.at_ 1 rfl
  have o1_1 := HO1.out.at_ 1 rfl
  have r1_1 := HR1.out.at_ 1 rfl
  have f1_1 := HO1.out.soft 1
  have g1_1 := HR1.out.soft 1
  have p1_2 := HP1.out.at_ 2 rfl
  have o1_2 := HO1.out.at_ 2 rfl
  have r1_2 := HR1.out.at_ 2 rfl
  have f1_2 := HO1.out.soft 2
  have g1_2 := HR1.out.soft 2
  have p1_3 := HP1.out.at_ 3 rfl
  have o1_3 := HO1.out.at_ 3 rfl
  have r1_3 := HR1.out.at_ 3 rfl
  have f1_3 := HO1.out.soft 3
  have g1_3 := HR1.out.soft 3
  go_wp2_with fail
  refine (to_PairS (by have h0 := HSZ.out; simp only [R_Config, Pr, Sl, I, Bo, atom] at h0 ⊢; omega) ((H_L1.out.below R_Pair_ok (HB1.out.setCell (p := ⟨W.heap.size + 1 + 1, 0, none⟩) (by show W.heap.size ≤ W.heap.size + 1 + 1; omega) (.slice b_L0 L0.length d_L0))).more R_Pair_ok (by have h0 := hz1; first | omega | (simp; omega)))).mono ?_
  intro e w2 h
  obtain ⟨b_L1, d_L1, rfl, how_L1, hb⟩ := newS_elim h
  have hP : Blk w2 (W.heap.size) 26 #[.slice a0 L0.length c0, .slice a1 L1.length c1, .slice a2 L2.length c2, .int .i64 x3] := Blk.call (Blk.far (b := W.heap.size + 1 + 1) (o := 0) HP1.out (by omega) (.slice b_L0 L0.length d_L0)) hb
  have hR : Blk w2 (W.heap.size + 1) 36 #[.slice none 0 0, .slice none 0 0, .slice none 0 0, .int .i64 0] := Blk.call (Blk.far (b := W.heap.size + 1 + 1) (o := 0) HR1.out (by omega) (.slice b_L0 L0.length d_L0)) hb
  have hO : Blk w2 (W.heap.size + 1 + 1) 36 #[.slice b_L0 L0.length d_L0, .slice none 0 0, .slice none 0 0, .int .i64 0] := Blk.call (Blk.set HO1.out 0 (.slice b_L0 L0.length d_L0)) hb
  have hz2 : W.heap.size + 3 ≤ w2.heap.size := Nat.le_trans hz1 (size_call hb (S := fun x => x < W.heap.size + 3) ((Off.refl (fun x => x < W.heap.size + 3) w1).setCell (p := ⟨W.heap.size + 1 + 1, 0, none⟩) (by show W.heap.size + 1 + 1 < W.heap.size + 3; omega) (.slice b_L0 L0.length d_L0)))
  have HO_L0 := Lib.hid (HO_L0.out.keep (Sl_ok R_Label_ok) (fun k hk => keep_call hb (S := fun x => x < W.heap.size + 3) ((Off.refl (fun x => x < W.heap.size + 3) w1).setCell (p := ⟨W.heap.size + 1 + 1, 0, none⟩) (by show W.heap.size + 1 + 1 < W.heap.size + 3; omega) (.slice b_L0 L0.length d_L0)) k (HL_L0.out k hk).2 (by have := (HL_L0.out k hk).1; omega)))
  have HL_L0 := Lib.hid (fun k hk => (⟨(HL_L0.out k hk).1, Nat.lt_of_lt_of_le (HL_L0.out k hk).2 (size_call hb (S := fun x => x < W.heap.size + 3) ((Off.refl (fun x => x < W.heap.size + 3) w1).setCell (p := ⟨W.heap.size + 1 + 1, 0, none⟩) (by show W.heap.size + 1 + 1 < W.heap.size + 3; omega) (.slice b_L0 L0.length d_L0)))⟩ : W.heap.size + 3 ≤ k ∧ k < w2.heap.size))
  have HB2 := Lib.hid (Below.trans (B := W.heap.size) (a := W) (HB1.out.setCell (p := ⟨W.heap.size + 1 + 1, 0, none⟩) (by show W.heap.size ≤ W.heap.size + 1 + 1; omega) (.slice b_L0 L0.length d_L0)) (hb.mono (by have h0 := hz1; first | omega | (simp; omega))))
  have HO_L1 := Lib.hid how_L1
  have HL_L1 := Lib.hid (fun k hk => rg_call hb (m := W.heap.size + 3) (by have h0 := hz1; first | omega | (simp; omega)) k hk)
  have HU_L1 := Lib.hid (rg_call hb (m := 0) (Nat.zero_le _))
  have HG_L1 := Lib.hid (lo_of hb ((Off.refl (fun x => x < W.heap.size + 3) w1).setCell (p := ⟨W.heap.size + 1 + 1, 0, none⟩) (by show W.heap.size + 1 + 1 < W.heap.size + 3; omega) (.slice b_L0 L0.length d_L0)))
  have hle2 := size_call hb ((Off.refl (fun x => x < W.heap.size + 3) w1).setCell (p := ⟨W.heap.size + 1 + 1, 0, none⟩) (by show W.heap.size + 1 + 1 < W.heap.size + 3; omega) (.slice b_L0 L0.length d_L0))
  have HP2 := Lib.hid hP
  have HR2 := Lib.hid hR
  have HO2 := Lib.hid hO
  clear h hb hP hR hO how_L1
  clear p1_0 o1_0 r1_0 f1_0 g1_0 p1_1 o1_1 r1_1 f1_1 g1_1 p1_2 o1_2 r1_2 f1_2 g1_2 p1_3 o1_3 r1_3 f1_3 g1_3
  have p2_0 := HP2.out.at_ 0 rfl
  have o2_0 := HO2.out.at_ 0 rfl
  have r2_0 := HR2.out.at_ 0 rfl
  have f2_0 := HO2.out.soft 0
  have g2_0 := HR2.out.soft 0
  have p2_1 := HP2.out.at_ 1 rfl
  have o2_1 := HO2.out.at_ 1 rfl
  have r2_1 := HR2.out.at_ 1 rfl
  have f2_1 := HO2.out.soft 1
  have g2_1 := HR2.out.soft 1
  have p2_2 := HP2.out.at_ 2 rfl
  have o2_2 := HO2.out.at_ 2 rfl
  have r2_2 := HR2.out.at_ 2 rfl
  have f2_2 := HO2.out.soft 2
  have g2_2 := HR2.out.soft 2
  have p2_3 := HP2.out.at_ 3 rfl
  have o2_3 := HO2.out.at_ 3 rfl
  have r2_3 := HR2.out.at_ 3 rfl
  have f2_3 := HO2.out.soft 3
  have g2_3 := HR2.out.soft 3
  go_wp2_with fail
  refine (to_QuotaS (by have h0 := HSZ.out; simp only [R_Config, Pr, Sl, I, Bo, atom] at h0 ⊢; omega) ((H_L2.out.below R_Quota_ok (HB2.out.setCell (p := ⟨W.heap.size + 1 + 1, 1, none⟩) (by show W.heap.size ≤ W.heap.size + 1 + 1; omega) (.slice b_L1 L1.length d_L1))).more R_Quota_ok (by have h0 := hz2; first | omega | (simp; omega)))).mono ?_
  intro e w3 h
  obtain ⟨b_L2, d_L2, rfl, how_L2, hb⟩ := newS_elim h
  have hP : Blk w3 (W.heap.size) 26 #[.slice a0 L0.length c0, .slice a1 L1.length c1, .slice a2 L2.length c2, .int .i64 x3] := Blk.call (Blk.far (b := W.heap.size + 1 + 1) (o := 1) HP2.out (by omega) (.slice b_L1 L1.length d_L1)) hb
  have hR : Blk w3 (W.heap.size + 1) 36 #[.slice none 0 0, .slice none 0 0, .slice none 0 0, .int .i64 0] := Blk.call (Blk.far (b := W.heap.size + 1 + 1) (o := 1) HR2.out (by omega) (.slice b_L1 L1.length d_L1)) hb
  have hO : Blk w3 (W.heap.size + 1 + 1) 36 #[.slice b_L0 L0.length d_L0, .slice b_L1 L1.length d_L1, .slice none 0 0, .int .i64 0] := Blk.call (Blk.set HO2.out 1 (.slice b_L1 L1.length d_L1)) hb
  have hz3 : W.heap.size + 3 ≤ w3.heap.size := Nat.le_trans hz2 (size_call hb (S := fun x => x < W.heap.size + 3) ((Off.refl (fun x => x < W.heap.size + 3) w2).setCell (p := ⟨W.heap.size + 1 + 1, 1, none⟩) (by show W.heap.size + 1 + 1 < W.heap.size + 3; omega) (.slice b_L1 L1.length d_L1)))
  have HO_L0 := Lib.hid (HO_L0.out.keep (Sl_ok R_Label_ok) (fun k hk => keep_call hb (S := fun x => x < W.heap.size + 3) ((Off.refl (fun x => x < W.heap.size + 3) w2).setCell (p := ⟨W.heap.size + 1 + 1, 1, none⟩) (by show W.heap.size + 1 + 1 < W.heap.size + 3; omega) (.slice b_L1 L1.length d_L1)) k (HL_L0.out k hk).2 (by have := (HL_L0.out k hk).1; omega)))
  have HO_L1 := Lib.hid (HO_L1.out.keep R_Pair_ok (fun k hk => keep_call hb (S := fun x => x < W.heap.size + 3) ((Off.refl (fun x => x < W.heap.size + 3) w2).setCell (p := ⟨W.heap.size + 1 + 1, 1, none⟩) (by show W.heap.size + 1 + 1 < W.heap.size + 3; omega) (.slice b_L1 L1.length d_L1)) k (HL_L1.out k hk).2 (by have := (HL_L1.out k hk).1; omega)))
  have HL_L0 := Lib.hid (fun k hk => (⟨(HL_L0.out k hk).1, Nat.lt_of_lt_of_le (HL_L0.out k hk).2 (size_call hb (S := fun x => x < W.heap.size + 3) ((Off.refl (fun x => x < W.heap.size + 3) w2).setCell (p := ⟨W.heap.size + 1 + 1, 1, none⟩) (by show W.heap.size + 1 + 1 < W.heap.size + 3; omega) (.slice b_L1 L1.length d_L1)))⟩ : W.heap.size + 3 ≤ k ∧ k < w3.heap.size))
  have HL_L1 := Lib.hid (fun k hk => (⟨(HL_L1.out k hk).1, Nat.lt_of_lt_of_le (HL_L1.out k hk).2 (size_call hb (S := fun x => x < W.heap.size + 3) ((Off.refl (fun x => x < W.heap.size + 3) w2).setCell (p := ⟨W.heap.size + 1 + 1, 1, none⟩) (by show W.heap.size + 1 + 1 < W.heap.size + 3; omega) (.slice b_L1 L1.length d_L1)))⟩ : W.heap.size + 3 ≤ k ∧ k < w3.heap.size))
  have HB3 := Lib.hid (Below.trans (B := W.heap.size) (a := W) (HB2.out.setCell (p := ⟨W.heap.size + 1 + 1, 1, none⟩) (by show W.heap.size ≤ W.heap.size + 1 + 1; omega) (.slice b_L1 L1.length d_L1)) (hb.mono (by have h0 := hz2; first | omega | (simp; omega))))
  have HO_L2 := Lib.hid how_L2
  have HL_L2 := Lib.hid (fun k hk => rg_call hb (m := W.heap.size + 3) (by have h0 := hz2; first | omega | (simp; omega)) k hk)
  have HU_L2 := Lib.hid (rg_call hb (m := 0) (Nat.zero_le _))
  have HG_L2 := Lib.hid (lo_of hb ((Off.refl (fun x => x < W.heap.size + 3) w2).setCell (p := ⟨W.heap.size + 1 + 1, 1, none⟩) (by show W.heap.size + 1 + 1 < W.heap.size + 3; omega) (.slice b_L1 L1.length d_L1)))
  have hle3 := size_call hb ((Off.refl (fun x => x < W.heap.size + 3) w2).setCell (p := ⟨W.heap.size + 1 + 1, 1, none⟩) (by show W.heap.size + 1 + 1 < W.heap.size + 3; omega) (.slice b_L1 L1.length d_L1))
  have HP3 := Lib.hid hP
  have HR3 := Lib.hid hR
  have HO3 := Lib.hid hO
  clear h hb hP hR hO how_L2
  clear p2_0 o2_0 r2_0 f2_0 g2_0 p2_1 o2_1 r2_1 f2_1 g2_1 p2_2 o2_2 r2_2 f2_2 g2_2 p2_3 o2_3 r2_3 f2_3 g2_3
  have p3_0 := HP3.out.at_ 0 rfl
  have o3_0 := HO3.out.at_ 0 rfl
  have r3_0 := HR3.out.at_ 0 rfl
  have f3_0 := HO3.out.soft 0
  have g3_0 := HR3.out.soft 0
  have p3_1 := HP3.out.at_ 1 rfl
  have o3_1 := HO3.out.at_ 1 rfl
  have r3_1 := HR3.out.at_ 1 rfl
  have f3_1 := HO3.out.soft 1
  have g3_1 := HR3.out.soft 1
  have p3_2 := HP3.out.at_ 2 rfl
  have o3_2 := HO3.out.at_ 2 rfl
  have r3_2 := HR3.out.at_ 2 rfl
  have f3_2 := HO3.out.soft 2
  have g3_2 := HR3.out.soft 2
  have p3_3 := HP3.out.at_ 3 rfl
  have o3_3 := HO3.out.at_ 3 rfl
  have r3_3 := HR3.out.at_ 3 rfl
  have f3_3 := HO3.out.soft 3
  have g3_3 := HR3.out.soft 3
  go_wp2
  refine bodyPost_ret (v := .agg #[.slice b_L0 L0.length d_L0, .slice b_L1 L1.length d_L1, .slice b_L2 L2.length d_L2, .int .i64 x3]) (by simp [results, Try.results11, go_sem, *]) rfl ⟨[.slice b_L0 L0.length d_L0, .slice b_L1 L1.length d_L1, .slice b_L2 L2.length d_L2, .int .i64 x3], rfl, ?_, ((((((HB3.out.setCell (p := ⟨W.heap.size + 1 + 1, 2, none⟩) (by show W.heap.size ≤ W.heap.size + 1 + 1; omega) (.slice b_L2 L2.length d_L2)).setCell (p := ⟨W.heap.size + 1 + 1, 3, none⟩) (by show W.heap.size ≤ W.heap.size + 1 + 1; omega) (.int .i64 x3)).setCell (p := ⟨W.heap.size + 1, 0, none⟩) (by show W.heap.size ≤ W.heap.size + 1; omega) (.slice b_L0 L0.length d_L0)).setCell (p := ⟨W.heap.size + 1, 1, none⟩) (by show W.heap.size ≤ W.heap.size + 1; omega) (.slice b_L1 L1.length d_L1)).setCell (p := ⟨W.heap.size + 1, 2, none⟩) (by show W.heap.size ≤ W.heap.size + 1; omega) (.slice b_L2 L2.length d_L2)).setCell (p := ⟨W.heap.size + 1, 3, none⟩) (by show W.heap.size ≤ W.heap.size + 1; omega) (.int .i64 x3))⟩
  have hoff := (((((((Off.refl (fun x => x < W.heap.size + 3) w3).setCell (p := ⟨W.heap.size + 1 + 1, 2, none⟩) (by show W.heap.size + 1 + 1 < W.heap.size + 3; omega) (.slice b_L2 L2.length d_L2)).setCell (p := ⟨W.heap.size + 1 + 1, 3, none⟩) (by show W.heap.size + 1 + 1 < W.heap.size + 3; omega) (.int .i64 x3)).setCell (p := ⟨W.heap.size + 1, 0, none⟩) (by show W.heap.size + 1 < W.heap.size + 3; omega) (.slice b_L0 L0.length d_L0)).setCell (p := ⟨W.heap.size + 1, 1, none⟩) (by show W.heap.size + 1 < W.heap.size + 3; omega) (.slice b_L1 L1.length d_L1)).setCell (p := ⟨W.heap.size + 1, 2, none⟩) (by show W.heap.size + 1 < W.heap.size + 3; omega) (.slice b_L2 L2.length d_L2)).setCell (p := ⟨W.heap.size + 1, 3, none⟩) (by show W.heap.size + 1 < W.heap.size + 3; omega) (.int .i64 x3))
  have hsz := hoff.size
  exact mkow_Config (fun k hk => ⟨by have := (HL_L0.out k hk).1; omega, by have := (HL_L0.out k hk).2; omega⟩) (fun k hk => ⟨by have := (HL_L1.out k hk).1; omega, by have := (HL_L1.out k hk).2; omega⟩) (fun k hk => ⟨by have := (HL_L2.out k hk).1; omega, by have := (HL_L2.out k hk).2; omega⟩) (fun k h h' => by have h1 := (HU_L0.out k h).2; have h2 := HG_L1.out k h'; omega) (fun k h h' => by have h1 := (HU_L0.out k h).2; have h2 := HG_L2.out k h'; omega) (fun k h h' => by have h1 := (HU_L1.out k h).2; have h2 := HG_L2.out k h'; omega) (HO_L0.out.keep (Sl_ok R_Label_ok) (fun k hk => hoff.block k (HL_L0.out k hk).2 (by have := (HL_L0.out k hk).1; omega))) (HO_L1.out.keep R_Pair_ok (fun k hk => hoff.block k (HL_L1.out k hk).2 (by have := (HL_L1.out k hk).1; omega))) (HO_L2.out.keep R_Quota_ok (fun k hk => hoff.block k (HL_L2.out k hk).2 (by have := (HL_L2.out k hk).1; omega)))


set_option maxRecDepth 100000 in
set_option maxHeartbeats 3200000 in
theorem eq_Pair {x0 : Int} {x1 : Int} {x2 : Int} {x3 : Int} {x4 : Int}   {W : World} : Calls Try.prog 90 #[.agg #[.int .i64 x0, .int .i64 x1, .int .i64 x2, .int .i64 x3, .int .i64 x4], .agg #[.int .i64 x0, .int .i64 x1, .int .i64 x2, .int .i64 x3, .int .i64 x4]] W (IsB true W) := by
  have HB0 := Lib.hid (show Below W.heap.size W ((W.alloc (.cells #[.int .i64 x0, .int .i64 x1, .int .i64 x2, .int .i64 x3, .int .i64 x4] 105)).alloc (.cells #[.int .i64 x0, .int .i64 x1, .int .i64 x2, .int .i64 x3, .int .i64 x4] 105)) from ((Below.refl _ _).alloc (Nat.le_refl _) _).alloc (by simp) _)
  have hP := (Blk.new W 105 #[.int .i64 x0, .int .i64 x1, .int .i64 x2, .int .i64 x3, .int .i64 x4]).alloc (.cells #[.int .i64 x0, .int .i64 x1, .int .i64 x2, .int .i64 x3, .int .i64 x4] 105)
  have hQ := Blk.new (W.alloc (.cells #[.int .i64 x0, .int .i64 x1, .int .i64 x2, .int .i64 x3, .int .i64 x4] 105)) 105 #[.int .i64 x0, .int .i64 x1, .int .i64 x2, .int .i64 x3, .int .i64 x4]
  simp only [World.size_alloc] at hP hQ
  have HP0 := Lib.hid hP
  have HQ0 := Lib.hid hQ
  have hz0 : W.heap.size ≤ ((W.alloc (.cells #[.int .i64 x0, .int .i64 x1, .int .i64 x2, .int .i64 x3, .int .i64 x4] 105)).alloc (.cells #[.int .i64 x0, .int .i64 x1, .int .i64 x2, .int .i64 x3, .int .i64 x4] 105)).heap.size := HB0.out.size
  clear hP hQ
  go_enter Try.func90, Try.ntmps90
  go_wp2_with fail
  refine (eq_Label).mono ?_
  intro e w1 h
  obtain ⟨rfl, hb⟩ := isB_elim h
  have HP1 := Lib.hid (HP0.out.call hb)
  have HQ1 := Lib.hid (HQ0.out.call hb)
  have HB1 := Lib.hid (HB0.out.trans (hb.mono hz0))
  have hz1 : W.heap.size ≤ w1.heap.size := HB1.out.size
  clear h hb
  have p1_2 := HP1.out.at_ 2 rfl
  have q1_2 := HQ1.out.at_ 2 rfl
  have p1_3 := HP1.out.at_ 3 rfl
  have q1_3 := HQ1.out.at_ 3 rfl
  have p1_4 := HP1.out.at_ 4 rfl
  have q1_4 := HQ1.out.at_ 4 rfl
  go_wp2_with fail
  refine (eq_Label).mono ?_
  intro e w2 h
  obtain ⟨rfl, hb⟩ := isB_elim h
  have HP2 := Lib.hid (HP1.out.call hb)
  have HQ2 := Lib.hid (HQ1.out.call hb)
  have HB2 := Lib.hid (HB1.out.trans (hb.mono hz1))
  have hz2 : W.heap.size ≤ w2.heap.size := HB2.out.size
  clear h hb
  clear p1_2 q1_2 p1_3 q1_3 p1_4 q1_4
  have p2_4 := HP2.out.at_ 4 rfl
  have q2_4 := HQ2.out.at_ 4 rfl
  go_wp2
  all_goals
    go_ret
    exact ⟨rfl, HB2.out⟩


theorem sizeq_PairS : (R_Pair).size = 5 := rfl
set_option maxRecDepth 100000 in
set_option maxHeartbeats 3200000 in
theorem eq_PairS {L : List (D_Pair)} {a a' : Option Addr} {cap cap' : Nat} {W : World} (h : RdSl R_Pair W W.heap.size L a cap) (h' : RdSl R_Pair W W.heap.size L a' cap') : Calls Try.prog 49 #[.slice a L.length cap, .slice a' L.length cap'] W (IsB true W) := by
  have hn : L.length ≤ 9223372036854775807 := by have h1 := h.1; have h2 := h.2.1; unfold maxLen at h2; omega
  have H := Lib.hid h
  have H' := Lib.hid h'
  clear h h'
  go_enter Try.func49, Try.ntmps49
  go_wp2
  go_loopw [5] (fun i wr => ∃ k : Nat, k ≤ L.length ∧ i = .int .i64 k ∧ Below W.heap.size W wr) (fun i _ => L.length - (intOf i).toNat)
  case atStart => exact ⟨0, Nat.zero_le _, rfl, Below.refl _ _⟩
  case round =>
    obtain ⟨k, hk, rfl, hB⟩ := hrel
    have HB := Lib.hid hB
    have hsz := hB.size
    by_cases hlt : k < L.length
    · obtain ⟨⟨⟨x0, x1⟩, ⟨x2, x3⟩, x4⟩, hx⟩ := el_some hlt
      have HX := Lib.hid hx
      obtain ⟨g, o, us, rfl, hg, hu, hr⟩ := (H.out.below R_Pair_ok hB).at_ hx
      obtain ⟨g', o', vs, rfl, hg', hu', hr'⟩ := (H'.out.below R_Pair_ok hB).at_ hx
      obtain rfl := rd_Pair hr
      obtain rfl := rd_Pair hr'
      have e0 : wr.cell? ⟨g, o + k * 5, none⟩ = some (.int .i64 x0) := by simpa [sizeq_PairS, Nat.add_assoc] using hu 0 _ rfl
      have d0 : wr.cell? ⟨g', o' + k * 5, none⟩ = some (.int .i64 x0) := by simpa [sizeq_PairS, Nat.add_assoc] using hu' 0 _ rfl
      have e1 : wr.cell? ⟨g, o + k * 5 + 1, none⟩ = some (.int .i64 x1) := by simpa [sizeq_PairS, Nat.add_assoc] using hu 1 _ rfl
      have d1 : wr.cell? ⟨g', o' + k * 5 + 1, none⟩ = some (.int .i64 x1) := by simpa [sizeq_PairS, Nat.add_assoc] using hu' 1 _ rfl
      have e2 : wr.cell? ⟨g, o + k * 5 + 2, none⟩ = some (.int .i64 x2) := by simpa [sizeq_PairS, Nat.add_assoc] using hu 2 _ rfl
      have d2 : wr.cell? ⟨g', o' + k * 5 + 2, none⟩ = some (.int .i64 x2) := by simpa [sizeq_PairS, Nat.add_assoc] using hu' 2 _ rfl
      have e3 : wr.cell? ⟨g, o + k * 5 + 3, none⟩ = some (.int .i64 x3) := by simpa [sizeq_PairS, Nat.add_assoc] using hu 3 _ rfl
      have d3 : wr.cell? ⟨g', o' + k * 5 + 3, none⟩ = some (.int .i64 x3) := by simpa [sizeq_PairS, Nat.add_assoc] using hu' 3 _ rfl
      have e4 : wr.cell? ⟨g, o + k * 5 + 4, none⟩ = some (.int .i64 x4) := by simpa [sizeq_PairS, Nat.add_assoc] using hu 4 _ rfl
      have d4 : wr.cell? ⟨g', o' + k * 5 + 4, none⟩ = some (.int .i64 x4) := by simpa [sizeq_PairS, Nat.add_assoc] using hu' 4 _ rfl
      have hi0 : (0 : Int) ≤ (k : Int) := Int.natCast_nonneg _
      have hi1 : (k : Int) < (L.length : Int) := by omega
      have hgl : g < wr.heap.size := Nat.lt_of_lt_of_le hg hsz
      have hgl' : g' < wr.heap.size := Nat.lt_of_lt_of_le hg' hsz
      clear hB hx hu hu'
      go_wp2_with fail
      refine wp_region_held_drew (S := (fun W => W.cell? ⟨g, o + k * 5, none⟩ = some (.int .i64 x0) ∧ W.cell? ⟨g, o + k * 5 + 1, none⟩ = some (.int .i64 x1) ∧ W.cell? ⟨g, o + k * 5 + 2, none⟩ = some (.int .i64 x2) ∧ W.cell? ⟨g, o + k * 5 + 3, none⟩ = some (.int .i64 x3) ∧ W.cell? ⟨g, o + k * 5 + 4, none⟩ = some (.int .i64 x4) ∧ W.cell? ⟨g', o' + k * 5, none⟩ = some (.int .i64 x0) ∧ W.cell? ⟨g', o' + k * 5 + 1, none⟩ = some (.int .i64 x1) ∧ W.cell? ⟨g', o' + k * 5 + 2, none⟩ = some (.int .i64 x2) ∧ W.cell? ⟨g', o' + k * 5 + 3, none⟩ = some (.int .i64 x3) ∧ W.cell? ⟨g', o' + k * 5 + 4, none⟩ = some (.int .i64 x4) ∧ wr.heap.size ≤ W.heap.size ∧ Below wr.heap.size wr W)) (by kernel_rfl) (⟨e0, e1, e2, e3, e4, d0, d1, d2, d3, d4, Nat.le_refl _, (Below.refl _ _).drew⟩) (fun hHeld => ?_)
      refine wpAnyH_take (i := 0) (v := ?hv1) rfl (by kernel_rfl) (by kernel_rfl) (by kernel_rfl) (fun _ _ _ h => h) (Or.inl ⟨by kernel_rfl, ?hy1⟩) hHeld ?hr1
      case hy1 => (intro w hSw; (try dsimp only at hSw); go_simp; try with_reducible rfl)
      refine wpAnyH_take (i := 1) (v := ?hv2) rfl (by kernel_rfl) (by kernel_rfl) (by kernel_rfl) (fun _ _ _ h => h) (Or.inl ⟨by kernel_rfl, ?hy2⟩) hHeld ?hr2
      case hy2 => (intro w hSw; (try dsimp only at hSw); go_simp; try with_reducible rfl)
      refine wpAnyH_take (i := 2) (v := ?hv3) rfl (by kernel_rfl) (by kernel_rfl) (by kernel_rfl) (fun _ _ _ h => h) (Or.inl ⟨by kernel_rfl, ?hy3⟩) hHeld ?hr3
      case hy3 => (intro w hSw; (try dsimp only at hSw); go_simp; try with_reducible rfl)
      refine wpAnyH_take (i := 3) (v := ?hv4) rfl (by kernel_rfl) (by kernel_rfl) (by kernel_rfl) (fun _ _ _ h => h) (Or.inl ⟨by kernel_rfl, ?hy4⟩) hHeld ?hr4
      case hy4 => (intro w hSw; (try dsimp only at hSw); go_simp; try with_reducible rfl)
      refine wpAnyH_take (i := 4) (v := ?hv5) rfl (by kernel_rfl) (by kernel_rfl) (by kernel_rfl) (fun _ _ _ h => h) (Or.inl ⟨by kernel_rfl, ?hy5⟩) hHeld ?hr5
      case hy5 => (intro w hSw; (try dsimp only at hSw); go_simp; try with_reducible rfl)
      refine wpAnyH_take (i := 5) (v := ?hv6) rfl (by kernel_rfl) (by kernel_rfl) (by kernel_rfl) (fun _ _ _ h => h) (Or.inl ⟨by kernel_rfl, ?hy6⟩) hHeld ?hr6
      case hy6 => (intro w hSw; (try dsimp only at hSw); go_simp; try with_reducible rfl)
      refine wpAnyH_take (i := 6) (v := ?hv7) rfl (by kernel_rfl) (by kernel_rfl) (by kernel_rfl) (fun _ _ _ h => h) (Or.inl ⟨by kernel_rfl, ?hy7⟩) hHeld ?hr7
      case hy7 => (intro w hSw; (try dsimp only at hSw); go_simp; try with_reducible rfl)
      refine wpAnyH_take (i := 7) (v := ?hv8) rfl (by kernel_rfl) (by kernel_rfl) (by kernel_rfl) (fun _ _ _ h => h) (Or.inl ⟨by kernel_rfl, ?hy8⟩) hHeld ?hr8
      case hy8 => (intro w hSw; (try dsimp only at hSw); go_simp; try with_reducible rfl)
      refine rd1 8 (fun K hK => ?_)
      go_simp
      refine (eq_Pair).mono ?_
      intro e w1 h
      obtain ⟨rfl, hb⟩ := isB_elim h
      refine hK.out _ _ (⟨(hb.cell (p := ⟨g, o + k * 5, none⟩) (Nat.lt_of_lt_of_le hgl hHeld.2.2.2.2.2.2.2.2.2.2.1)).trans hHeld.1, (hb.cell (p := ⟨g, o + k * 5 + 1, none⟩) (Nat.lt_of_lt_of_le hgl hHeld.2.2.2.2.2.2.2.2.2.2.1)).trans hHeld.2.1, (hb.cell (p := ⟨g, o + k * 5 + 2, none⟩) (Nat.lt_of_lt_of_le hgl hHeld.2.2.2.2.2.2.2.2.2.2.1)).trans hHeld.2.2.1, (hb.cell (p := ⟨g, o + k * 5 + 3, none⟩) (Nat.lt_of_lt_of_le hgl hHeld.2.2.2.2.2.2.2.2.2.2.1)).trans hHeld.2.2.2.1, (hb.cell (p := ⟨g, o + k * 5 + 4, none⟩) (Nat.lt_of_lt_of_le hgl hHeld.2.2.2.2.2.2.2.2.2.2.1)).trans hHeld.2.2.2.2.1, (hb.cell (p := ⟨g', o' + k * 5, none⟩) (Nat.lt_of_lt_of_le hgl' hHeld.2.2.2.2.2.2.2.2.2.2.1)).trans hHeld.2.2.2.2.2.1, (hb.cell (p := ⟨g', o' + k * 5 + 1, none⟩) (Nat.lt_of_lt_of_le hgl' hHeld.2.2.2.2.2.2.2.2.2.2.1)).trans hHeld.2.2.2.2.2.2.1, (hb.cell (p := ⟨g', o' + k * 5 + 2, none⟩) (Nat.lt_of_lt_of_le hgl' hHeld.2.2.2.2.2.2.2.2.2.2.1)).trans hHeld.2.2.2.2.2.2.2.1, (hb.cell (p := ⟨g', o' + k * 5 + 3, none⟩) (Nat.lt_of_lt_of_le hgl' hHeld.2.2.2.2.2.2.2.2.2.2.1)).trans hHeld.2.2.2.2.2.2.2.2.1, (hb.cell (p := ⟨g', o' + k * 5 + 4, none⟩) (Nat.lt_of_lt_of_le hgl' hHeld.2.2.2.2.2.2.2.2.2.2.1)).trans hHeld.2.2.2.2.2.2.2.2.2.1, Nat.le_trans hHeld.2.2.2.2.2.2.2.2.2.2.1 hb.size, hHeld.2.2.2.2.2.2.2.2.2.2.2.trans (hb.mono hHeld.2.2.2.2.2.2.2.2.2.2.1)⟩) (fun hHeld => ?_)
      clear hK K h
      refine tk 9 hHeld ?_
      refine rd0 ?_
      have HB2 := Lib.hid (HB.out.trans (hHeld.2.2.2.2.2.2.2.2.2.2.2.mono hsz))
      clear hHeld
      go_wp2
      go_roundw
      case rel => exact ⟨k + 1, by omega, by go_num, HB2.out⟩
      case measure => simp [intOf]; omega
    · clear hB
      go_wp2
      go_ret
      exact ⟨rfl, HB.out⟩


set_option maxRecDepth 100000 in
set_option maxHeartbeats 3200000 in
theorem eq_Quota {x0 : Int} {x1 : Int} {x2 : Int}   {W : World} : Calls Try.prog 91 #[.agg #[.int .i64 x0, .int .i64 x1, .int .i64 x2], .agg #[.int .i64 x0, .int .i64 x1, .int .i64 x2]] W (IsB true W) := by
  have HB0 := Lib.hid (show Below W.heap.size W ((W.alloc (.cells #[.int .i64 x0, .int .i64 x1, .int .i64 x2] 86)).alloc (.cells #[.int .i64 x0, .int .i64 x1, .int .i64 x2] 86)) from ((Below.refl _ _).alloc (Nat.le_refl _) _).alloc (by simp) _)
  have hP := (Blk.new W 86 #[.int .i64 x0, .int .i64 x1, .int .i64 x2]).alloc (.cells #[.int .i64 x0, .int .i64 x1, .int .i64 x2] 86)
  have hQ := Blk.new (W.alloc (.cells #[.int .i64 x0, .int .i64 x1, .int .i64 x2] 86)) 86 #[.int .i64 x0, .int .i64 x1, .int .i64 x2]
  simp only [World.size_alloc] at hP hQ
  have HP0 := Lib.hid hP
  have HQ0 := Lib.hid hQ
  have hz0 : W.heap.size ≤ ((W.alloc (.cells #[.int .i64 x0, .int .i64 x1, .int .i64 x2] 86)).alloc (.cells #[.int .i64 x0, .int .i64 x1, .int .i64 x2] 86)).heap.size := HB0.out.size
  clear hP hQ
  go_enter Try.func91, Try.ntmps91
  go_wp2_with fail
  refine (eq_Label).mono ?_
  intro e w1 h
  obtain ⟨rfl, hb⟩ := isB_elim h
  have HP1 := Lib.hid (HP0.out.call hb)
  have HQ1 := Lib.hid (HQ0.out.call hb)
  have HB1 := Lib.hid (HB0.out.trans (hb.mono hz0))
  have hz1 : W.heap.size ≤ w1.heap.size := HB1.out.size
  clear h hb
  have p1_2 := HP1.out.at_ 2 rfl
  have q1_2 := HQ1.out.at_ 2 rfl
  go_wp2
  all_goals
    go_ret
    exact ⟨rfl, HB1.out⟩


theorem sizeq_QuotaS : (R_Quota).size = 3 := rfl
set_option maxRecDepth 100000 in
set_option maxHeartbeats 3200000 in
theorem eq_QuotaS {L : List (D_Quota)} {a a' : Option Addr} {cap cap' : Nat} {W : World} (h : RdSl R_Quota W W.heap.size L a cap) (h' : RdSl R_Quota W W.heap.size L a' cap') : Calls Try.prog 50 #[.slice a L.length cap, .slice a' L.length cap'] W (IsB true W) := by
  have hn : L.length ≤ 9223372036854775807 := by have h1 := h.1; have h2 := h.2.1; unfold maxLen at h2; omega
  have H := Lib.hid h
  have H' := Lib.hid h'
  clear h h'
  go_enter Try.func50, Try.ntmps50
  go_wp2
  go_loopw [5] (fun i wr => ∃ k : Nat, k ≤ L.length ∧ i = .int .i64 k ∧ Below W.heap.size W wr) (fun i _ => L.length - (intOf i).toNat)
  case atStart => exact ⟨0, Nat.zero_le _, rfl, Below.refl _ _⟩
  case round =>
    obtain ⟨k, hk, rfl, hB⟩ := hrel
    have HB := Lib.hid hB
    have hsz := hB.size
    by_cases hlt : k < L.length
    · obtain ⟨⟨⟨x0, x1⟩, x2⟩, hx⟩ := el_some hlt
      have HX := Lib.hid hx
      obtain ⟨g, o, us, rfl, hg, hu, hr⟩ := (H.out.below R_Quota_ok hB).at_ hx
      obtain ⟨g', o', vs, rfl, hg', hu', hr'⟩ := (H'.out.below R_Quota_ok hB).at_ hx
      obtain rfl := rd_Quota hr
      obtain rfl := rd_Quota hr'
      have e0 : wr.cell? ⟨g, o + k * 3, none⟩ = some (.int .i64 x0) := by simpa [sizeq_QuotaS, Nat.add_assoc] using hu 0 _ rfl
      have d0 : wr.cell? ⟨g', o' + k * 3, none⟩ = some (.int .i64 x0) := by simpa [sizeq_QuotaS, Nat.add_assoc] using hu' 0 _ rfl
      have e1 : wr.cell? ⟨g, o + k * 3 + 1, none⟩ = some (.int .i64 x1) := by simpa [sizeq_QuotaS, Nat.add_assoc] using hu 1 _ rfl
      have d1 : wr.cell? ⟨g', o' + k * 3 + 1, none⟩ = some (.int .i64 x1) := by simpa [sizeq_QuotaS, Nat.add_assoc] using hu' 1 _ rfl
      have e2 : wr.cell? ⟨g, o + k * 3 + 2, none⟩ = some (.int .i64 x2) := by simpa [sizeq_QuotaS, Nat.add_assoc] using hu 2 _ rfl
      have d2 : wr.cell? ⟨g', o' + k * 3 + 2, none⟩ = some (.int .i64 x2) := by simpa [sizeq_QuotaS, Nat.add_assoc] using hu' 2 _ rfl
      have hi0 : (0 : Int) ≤ (k : Int) := Int.natCast_nonneg _
      have hi1 : (k : Int) < (L.length : Int) := by omega
      have hgl : g < wr.heap.size := Nat.lt_of_lt_of_le hg hsz
      have hgl' : g' < wr.heap.size := Nat.lt_of_lt_of_le hg' hsz
      clear hB hx hu hu'
      go_wp2_with fail
      refine wp_region_held_drew (S := (fun W => W.cell? ⟨g, o + k * 3, none⟩ = some (.int .i64 x0) ∧ W.cell? ⟨g, o + k * 3 + 1, none⟩ = some (.int .i64 x1) ∧ W.cell? ⟨g, o + k * 3 + 2, none⟩ = some (.int .i64 x2) ∧ W.cell? ⟨g', o' + k * 3, none⟩ = some (.int .i64 x0) ∧ W.cell? ⟨g', o' + k * 3 + 1, none⟩ = some (.int .i64 x1) ∧ W.cell? ⟨g', o' + k * 3 + 2, none⟩ = some (.int .i64 x2) ∧ wr.heap.size ≤ W.heap.size ∧ Below wr.heap.size wr W)) (by kernel_rfl) (⟨e0, e1, e2, d0, d1, d2, Nat.le_refl _, (Below.refl _ _).drew⟩) (fun hHeld => ?_)
      refine wpAnyH_take (i := 0) (v := ?hv10) rfl (by kernel_rfl) (by kernel_rfl) (by kernel_rfl) (fun _ _ _ h => h) (Or.inl ⟨by kernel_rfl, ?hy10⟩) hHeld ?hr10
      case hy10 => (intro w hSw; (try dsimp only at hSw); go_simp; try with_reducible rfl)
      refine wpAnyH_take (i := 1) (v := ?hv11) rfl (by kernel_rfl) (by kernel_rfl) (by kernel_rfl) (fun _ _ _ h => h) (Or.inl ⟨by kernel_rfl, ?hy11⟩) hHeld ?hr11
      case hy11 => (intro w hSw; (try dsimp only at hSw); go_simp; try with_reducible rfl)
      refine wpAnyH_take (i := 2) (v := ?hv12) rfl (by kernel_rfl) (by kernel_rfl) (by kernel_rfl) (fun _ _ _ h => h) (Or.inl ⟨by kernel_rfl, ?hy12⟩) hHeld ?hr12
      case hy12 => (intro w hSw; (try dsimp only at hSw); go_simp; try with_reducible rfl)
      refine wpAnyH_take (i := 3) (v := ?hv13) rfl (by kernel_rfl) (by kernel_rfl) (by kernel_rfl) (fun _ _ _ h => h) (Or.inl ⟨by kernel_rfl, ?hy13⟩) hHeld ?hr13
      case hy13 => (intro w hSw; (try dsimp only at hSw); go_simp; try with_reducible rfl)
      refine wpAnyH_take (i := 4) (v := ?hv14) rfl (by kernel_rfl) (by kernel_rfl) (by kernel_rfl) (fun _ _ _ h => h) (Or.inl ⟨by kernel_rfl, ?hy14⟩) hHeld ?hr14
      case hy14 => (intro w hSw; (try dsimp only at hSw); go_simp; try with_reducible rfl)
      refine wpAnyH_take (i := 5) (v := ?hv15) rfl (by kernel_rfl) (by kernel_rfl) (by kernel_rfl) (fun _ _ _ h => h) (Or.inl ⟨by kernel_rfl, ?hy15⟩) hHeld ?hr15
      case hy15 => (intro w hSw; (try dsimp only at hSw); go_simp; try with_reducible rfl)
      refine wpAnyH_take (i := 6) (v := ?hv16) rfl (by kernel_rfl) (by kernel_rfl) (by kernel_rfl) (fun _ _ _ h => h) (Or.inl ⟨by kernel_rfl, ?hy16⟩) hHeld ?hr16
      case hy16 => (intro w hSw; (try dsimp only at hSw); go_simp; try with_reducible rfl)
      refine wpAnyH_take (i := 7) (v := ?hv17) rfl (by kernel_rfl) (by kernel_rfl) (by kernel_rfl) (fun _ _ _ h => h) (Or.inl ⟨by kernel_rfl, ?hy17⟩) hHeld ?hr17
      case hy17 => (intro w hSw; (try dsimp only at hSw); go_simp; try with_reducible rfl)
      refine rd1 8 (fun K hK => ?_)
      go_simp
      refine (eq_Quota).mono ?_
      intro e w1 h
      obtain ⟨rfl, hb⟩ := isB_elim h
      refine hK.out _ _ (⟨(hb.cell (p := ⟨g, o + k * 3, none⟩) (Nat.lt_of_lt_of_le hgl hHeld.2.2.2.2.2.2.1)).trans hHeld.1, (hb.cell (p := ⟨g, o + k * 3 + 1, none⟩) (Nat.lt_of_lt_of_le hgl hHeld.2.2.2.2.2.2.1)).trans hHeld.2.1, (hb.cell (p := ⟨g, o + k * 3 + 2, none⟩) (Nat.lt_of_lt_of_le hgl hHeld.2.2.2.2.2.2.1)).trans hHeld.2.2.1, (hb.cell (p := ⟨g', o' + k * 3, none⟩) (Nat.lt_of_lt_of_le hgl' hHeld.2.2.2.2.2.2.1)).trans hHeld.2.2.2.1, (hb.cell (p := ⟨g', o' + k * 3 + 1, none⟩) (Nat.lt_of_lt_of_le hgl' hHeld.2.2.2.2.2.2.1)).trans hHeld.2.2.2.2.1, (hb.cell (p := ⟨g', o' + k * 3 + 2, none⟩) (Nat.lt_of_lt_of_le hgl' hHeld.2.2.2.2.2.2.1)).trans hHeld.2.2.2.2.2.1, Nat.le_trans hHeld.2.2.2.2.2.2.1 hb.size, hHeld.2.2.2.2.2.2.2.trans (hb.mono hHeld.2.2.2.2.2.2.1)⟩) (fun hHeld => ?_)
      clear hK K h
      refine wpAnyH_take (i := 9) (v := ?hv18) rfl (by kernel_rfl) (by kernel_rfl) (by kernel_rfl) (fun _ _ _ h => h) (Or.inl ⟨by kernel_rfl, ?hy18⟩) hHeld ?hr18
      case hy18 => (intro w hSw; (try dsimp only at hSw); go_simp; try with_reducible rfl)
      refine rd0 ?_
      have HB2 := Lib.hid (HB.out.trans (hHeld.2.2.2.2.2.2.2.mono hsz))
      clear hHeld
      go_wp2
      go_roundw
      case rel => exact ⟨k + 1, by omega, by go_num, HB2.out⟩
      case measure => simp [intOf]; omega
    · clear hB
      go_wp2
      go_ret
      exact ⟨rfl, HB.out⟩


set_option maxRecDepth 100000 in
set_option maxHeartbeats 3200000 in
theorem eq_Config {L0 : List (List (D_Label))} {L1 : List (D_Pair)} {L2 : List (D_Quota)} {x3 : Int} {a0 : Option Addr} {c0 : Nat} {a1 : Option Addr} {c1 : Nat} {a2 : Option Addr} {c2 : Nat} {a0' : Option Addr} {c0' : Nat} {a1' : Option Addr} {c1' : Nat} {a2' : Option Addr} {c2' : Nat} {W : World} (h_L0 : RdSl (Sl R_Label) W W.heap.size L0 a0 c0) (h_L1 : RdSl R_Pair W W.heap.size L1 a1 c1) (h_L2 : RdSl R_Quota W W.heap.size L2 a2 c2) (h'_L0 : RdSl (Sl R_Label) W W.heap.size L0 a0' c0') (h'_L1 : RdSl R_Pair W W.heap.size L1 a1' c1') (h'_L2 : RdSl R_Quota W W.heap.size L2 a2' c2') : Calls Try.prog 15 #[.agg #[.slice a0 L0.length c0, .slice a1 L1.length c1, .slice a2 L2.length c2, .int .i64 x3], .agg #[.slice a0' L0.length c0', .slice a1' L1.length c1', .slice a2' L2.length c2', .int .i64 x3]] W (IsB true W) := by
  have H_L0 := Lib.hid h_L0
  have H'_L0 := Lib.hid h'_L0
  have H_L1 := Lib.hid h_L1
  have H'_L1 := Lib.hid h'_L1
  have H_L2 := Lib.hid h_L2
  have H'_L2 := Lib.hid h'_L2
  clear h_L0 h'_L0 h_L1 h'_L1 h_L2 h'_L2
  have HB0 := Lib.hid (show Below W.heap.size W ((W.alloc (.cells #[.slice a0 L0.length c0, .slice a1 L1.length c1, .slice a2 L2.length c2, .int .i64 x3] 36)).alloc (.cells #[.slice a0' L0.length c0', .slice a1' L1.length c1', .slice a2' L2.length c2', .int .i64 x3] 36)) from ((Below.refl _ _).alloc (Nat.le_refl _) _).alloc (by simp) _)
  have hP := (Blk.new W 36 #[.slice a0 L0.length c0, .slice a1 L1.length c1, .slice a2 L2.length c2, .int .i64 x3]).alloc (.cells #[.slice a0' L0.length c0', .slice a1' L1.length c1', .slice a2' L2.length c2', .int .i64 x3] 36)
  have hQ := Blk.new (W.alloc (.cells #[.slice a0 L0.length c0, .slice a1 L1.length c1, .slice a2 L2.length c2, .int .i64 x3] 36)) 36 #[.slice a0' L0.length c0', .slice a1' L1.length c1', .slice a2' L2.length c2', .int .i64 x3]
  simp only [World.size_alloc] at hP hQ
  have HP0 := Lib.hid hP
  have HQ0 := Lib.hid hQ
  have hz0 : W.heap.size ≤ ((W.alloc (.cells #[.slice a0 L0.length c0, .slice a1 L1.length c1, .slice a2 L2.length c2, .int .i64 x3] 36)).alloc (.cells #[.slice a0' L0.length c0', .slice a1' L1.length c1', .slice a2' L2.length c2', .int .i64 x3] 36)).heap.size := HB0.out.size
  clear hP hQ
  go_enter Try.func15, Try.ntmps15
  go_wp2_with fail
  refine (eq_LabelSS ((H_L0.out.below (Sl_ok R_Label_ok) HB0.out).more (Sl_ok R_Label_ok) hz0) ((H'_L0.out.below (Sl_ok R_Label_ok) HB0.out).more (Sl_ok R_Label_ok) hz0)).mono ?_
  intro e w1 h
  obtain ⟨rfl, hb⟩ := isB_elim h
  have HP1 := Lib.hid (HP0.out.call hb)
  have HQ1 := Lib.hid (HQ0.out.call hb)
  have HB1 := Lib.hid (HB0.out.trans (hb.mono hz0))
  have hz1 : W.heap.size ≤ w1.heap.size := HB1.out.size
  clear h hb
  have p1_1 := HP1.out.at_ 1 rfl
  have q1_1 := HQ1.out.at_ 1 rfl
  have p1_2 := HP1.out.at_ 2 rfl
  have q1_2 := HQ1.out.at_ 2 rfl
  have p1_3 := HP1.out.at_ 3 rfl
  have q1_3 := HQ1.out.at_ 3 rfl
  go_wp2_with fail
  refine (eq_PairS ((H_L1.out.below R_Pair_ok HB1.out).more R_Pair_ok hz1) ((H'_L1.out.below R_Pair_ok HB1.out).more R_Pair_ok hz1)).mono ?_
  intro e w2 h
  obtain ⟨rfl, hb⟩ := isB_elim h
  have HP2 := Lib.hid (HP1.out.call hb)
  have HQ2 := Lib.hid (HQ1.out.call hb)
  have HB2 := Lib.hid (HB1.out.trans (hb.mono hz1))
  have hz2 : W.heap.size ≤ w2.heap.size := HB2.out.size
  clear h hb
  clear p1_1 q1_1 p1_2 q1_2 p1_3 q1_3
  have p2_2 := HP2.out.at_ 2 rfl
  have q2_2 := HQ2.out.at_ 2 rfl
  have p2_3 := HP2.out.at_ 3 rfl
  have q2_3 := HQ2.out.at_ 3 rfl
  go_wp2_with fail
  refine (eq_QuotaS ((H_L2.out.below R_Quota_ok HB2.out).more R_Quota_ok hz2) ((H'_L2.out.below R_Quota_ok HB2.out).more R_Quota_ok hz2)).mono ?_
  intro e w3 h
  obtain ⟨rfl, hb⟩ := isB_elim h
  have HP3 := Lib.hid (HP2.out.call hb)
  have HQ3 := Lib.hid (HQ2.out.call hb)
  have HB3 := Lib.hid (HB2.out.trans (hb.mono hz2))
  have hz3 : W.heap.size ≤ w3.heap.size := HB3.out.size
  clear h hb
  clear p2_2 q2_2 p2_3 q2_3
  have p3_3 := HP3.out.at_ 3 rfl
  have q3_3 := HQ3.out.at_ 3 rfl
  go_wp2
  all_goals
    go_ret
    exact ⟨rfl, HB3.out⟩


theorem flat_PairS (L : List (D_Pair)) : (Sl R_Pair).sz L = L.length := by
  have : sumL (R_Pair).sz L = 0 := sumL_zero (fun _ => rfl) L
  simp only [Sl, this, Nat.add_zero]
set_option maxRecDepth 100000 in
theorem sz_PairS {L : List (D_Pair)} {a : Option Addr} {cap : Nat} {W : World} {l : Int} (h0 : 0 ≤ l) (h1 : l ≤ 1048576) (h : RdSl R_Pair W W.heap.size L a cap) : Calls Try.prog 39 #[.slice a L.length cap, .int .i64 l] W (SzC l ((Sl R_Pair).sz L) W) := by
  have hn : L.length ≤ 9223372036854775807 := by have h1 := h.1; have h2 := h.2.1; unfold maxLen at h2; omega
  rw [flat_PairS]
  clear h
  by_cases hf : (L.length : Int) ≤ l
  · have HR := Lib.hid (szR_yes hf)
    go_enter Try.func39, Try.ntmps39
    go_wp2
    go_ret
    exact ⟨by first | (rw [HR.out]; done) | (rw [HR.out]; rfl), Below.refl _ _⟩
  · have HR := Lib.hid (szR_no hf)
    go_enter Try.func39, Try.ntmps39
    go_wp2
    go_ret
    exact ⟨by first | (rw [HR.out]; done) | (rw [HR.out]; rfl), Below.refl _ _⟩


theorem flat_QuotaS (L : List (D_Quota)) : (Sl R_Quota).sz L = L.length := by
  have : sumL (R_Quota).sz L = 0 := sumL_zero (fun _ => rfl) L
  simp only [Sl, this, Nat.add_zero]
set_option maxRecDepth 100000 in
theorem sz_QuotaS {L : List (D_Quota)} {a : Option Addr} {cap : Nat} {W : World} {l : Int} (h0 : 0 ≤ l) (h1 : l ≤ 1048576) (h : RdSl R_Quota W W.heap.size L a cap) : Calls Try.prog 40 #[.slice a L.length cap, .int .i64 l] W (SzC l ((Sl R_Quota).sz L) W) := by
  have hn : L.length ≤ 9223372036854775807 := by have h1 := h.1; have h2 := h.2.1; unfold maxLen at h2; omega
  rw [flat_QuotaS]
  clear h
  by_cases hf : (L.length : Int) ≤ l
  · have HR := Lib.hid (szR_yes hf)
    go_enter Try.func40, Try.ntmps40
    go_wp2
    go_ret
    exact ⟨by first | (rw [HR.out]; done) | (rw [HR.out]; rfl), Below.refl _ _⟩
  · have HR := Lib.hid (szR_no hf)
    go_enter Try.func40, Try.ntmps40
    go_wp2
    go_ret
    exact ⟨by first | (rw [HR.out]; done) | (rw [HR.out]; rfl), Below.refl _ _⟩


theorem szd_Config {L0 : List (List (D_Label))} {L1 : List (D_Pair)} {L2 : List (D_Quota)} {x3 : Int} : R_Config.sz (L0, L1, L2, x3) = (((Sl (Sl R_Label))).sz L0) + (((Sl R_Pair)).sz L1) + (((Sl R_Quota)).sz L2) := by
  simp only [R_Config, Pr, I, Bo, atom]; omega
set_option maxRecDepth 100000 in
set_option maxHeartbeats 1600000 in
theorem sz_Config {L0 : List (List (D_Label))} {L1 : List (D_Pair)} {L2 : List (D_Quota)} {x3 : Int} {a0 : Option Addr} {c0 : Nat} {a1 : Option Addr} {c1 : Nat} {a2 : Option Addr} {c2 : Nat} {W : World} {l : Int} (h0 : 0 ≤ l) (h1 : l ≤ 1048576) (h_L0 : RdSl (Sl R_Label) W W.heap.size L0 a0 c0) (h_L1 : RdSl R_Pair W W.heap.size L1 a1 c1) (h_L2 : RdSl R_Quota W W.heap.size L2 a2 c2) : Calls Try.prog 9 #[.agg #[.slice a0 L0.length c0, .slice a1 L1.length c1, .slice a2 L2.length c2, .int .i64 x3], .int .i64 l] W (SzC l (R_Config.sz (L0, L1, L2, x3)) W) := by
  have H_L0 := Lib.hid h_L0
  have H_L1 := Lib.hid h_L1
  have H_L2 := Lib.hid h_L2
  clear h_L0 h_L1 h_L2
  have HD := Lib.hid (szd_Config (L0 := L0) (L1 := L1) (L2 := L2) (x3 := x3))
  have HB0 := Lib.hid (show Below W.heap.size W (W.alloc (.cells #[.slice a0 L0.length c0, .slice a1 L1.length c1, .slice a2 L2.length c2, .int .i64 x3] 26)) from (Below.refl _ _).alloc (Nat.le_refl _) _)
  have hP := Blk.new W 26 #[.slice a0 L0.length c0, .slice a1 L1.length c1, .slice a2 L2.length c2, .int .i64 x3]
  have HP0 := Lib.hid hP
  have hz0 : W.heap.size ≤ (W.alloc (.cells #[.slice a0 L0.length c0, .slice a1 L1.length c1, .slice a2 L2.length c2, .int .i64 x3] 26)).heap.size := HB0.out.size
  clear hP
  obtain ⟨s0, hs0⟩ : ∃ s, s = (((Sl (Sl R_Label))).sz L0) := ⟨_, rfl⟩
  have HS0 := Lib.hid hs0
  rw [← hs0] at HD
  clear hs0
  obtain ⟨s1, hs1⟩ : ∃ s, s = (((Sl R_Pair)).sz L1) := ⟨_, rfl⟩
  have HS1 := Lib.hid hs1
  rw [← hs1] at HD
  clear hs1
  obtain ⟨s2, hs2⟩ : ∃ s, s = (((Sl R_Quota)).sz L2) := ⟨_, rfl⟩
  have HS2 := Lib.hid hs2
  rw [← hs2] at HD
  clear hs2
  go_enter Try.func9, Try.ntmps9
  go_wp2_with fail
  refine (sz_LabelSS (l := l) (by omega) (by omega) ((H_L0.out.below (Sl_ok R_Label_ok) HB0.out).more (Sl_ok R_Label_ok) hz0)).mono ?_
  intro e w1 h
  obtain ⟨rfl, hb⟩ := szC_elim h
  rw [← HS0.out]
  have HP1 := Lib.hid (HP0.out.call hb)
  have HB1 := Lib.hid (HB0.out.trans (hb.mono hz0))
  have hz1 : W.heap.size ≤ w1.heap.size := HB1.out.size
  clear h hb
  have p1_0 := HP1.out.at_ 0 rfl
  have p1_1 := HP1.out.at_ 1 rfl
  have p1_2 := HP1.out.at_ 2 rfl
  by_cases hf0 : (s0 : Int) ≤ l
  rotate_left
  · rw [szR_no hf0]
    have HR := Lib.hid (szR_no (l := l) (s := R_Config.sz (L0, L1, L2, x3)) (by rw [HD.out]; omega))
    go_wp2
    go_ret
    exact ⟨by first | (rw [HR.out]; done) | (rw [HR.out]; rfl), HB1.out⟩
  rw [szR_yes hf0]
  have hpos0 : (0 : Int) ≤ l - (s0 : Nat) := by omega
  go_wp2_with fail
  refine (sz_PairS (l := l - (s0 : Nat)) (by omega) (by omega) ((H_L1.out.below R_Pair_ok HB1.out).more R_Pair_ok hz1)).mono ?_
  intro e w2 h
  obtain ⟨rfl, hb⟩ := szC_elim h
  rw [← HS1.out]
  have HP2 := Lib.hid (HP1.out.call hb)
  have HB2 := Lib.hid (HB1.out.trans (hb.mono hz1))
  have hz2 : W.heap.size ≤ w2.heap.size := HB2.out.size
  clear h hb
  have p2_0 := HP2.out.at_ 0 rfl
  have p2_1 := HP2.out.at_ 1 rfl
  have p2_2 := HP2.out.at_ 2 rfl
  by_cases hf1 : (s1 : Int) ≤ l - (s0 : Nat)
  rotate_left
  · rw [szR_no hf1]
    have HR := Lib.hid (szR_no (l := l) (s := R_Config.sz (L0, L1, L2, x3)) (by rw [HD.out]; omega))
    go_wp2
    go_ret
    exact ⟨by first | (rw [HR.out]; done) | (rw [HR.out]; rfl), HB2.out⟩
  rw [szR_yes hf1]
  have hpos1 : (0 : Int) ≤ l - (s0 : Nat) - (s1 : Nat) := by omega
  go_wp2_with fail
  refine (sz_QuotaS (l := l - (s0 : Nat) - (s1 : Nat)) (by omega) (by omega) ((H_L2.out.below R_Quota_ok HB2.out).more R_Quota_ok hz2)).mono ?_
  intro e w3 h
  obtain ⟨rfl, hb⟩ := szC_elim h
  rw [← HS2.out]
  have HP3 := Lib.hid (HP2.out.call hb)
  have HB3 := Lib.hid (HB2.out.trans (hb.mono hz2))
  have hz3 : W.heap.size ≤ w3.heap.size := HB3.out.size
  clear h hb
  have p3_0 := HP3.out.at_ 0 rfl
  have p3_1 := HP3.out.at_ 1 rfl
  have p3_2 := HP3.out.at_ 2 rfl
  by_cases hf2 : (s2 : Int) ≤ l - (s0 : Nat) - (s1 : Nat)
  rotate_left
  · rw [szR_no hf2]
    have HR := Lib.hid (szR_no (l := l) (s := R_Config.sz (L0, L1, L2, x3)) (by rw [HD.out]; omega))
    go_wp2
    go_ret
    exact ⟨by first | (rw [HR.out]; done) | (rw [HR.out]; rfl), HB3.out⟩
  rw [szR_yes hf2]
  have hpos2 : (0 : Int) ≤ l - (s0 : Nat) - (s1 : Nat) - (s2 : Nat) := by omega
  have HR := Lib.hid (szR_yes (l := l) (s := R_Config.sz (L0, L1, L2, x3)) (by rw [HD.out]; omega))
  go_wp2
  go_ret
  exact ⟨by rw [HR.out, HD.out]; first | rfl | (simp; done) | (simp; omega), HB3.out⟩

theorem mmk_Pair {k : Int} : R_Pair.mm ((k, k + 1), (k + 1 + 1, k + 1 + 1 + 1), k + 1 + 1 + 1 + 1) k (k + 1 + 1 + 1 + 1 + 1) := by
  dsimp only [R_Pair, R_Label, Pr, I, atom, Sl]
  exact ⟨k + 1 + 1, ⟨k + 1, ⟨by omega, by omega⟩, ⟨by omega, by omega⟩⟩, ⟨k + 1 + 1 + 1 + 1, ⟨k + 1 + 1 + 1, ⟨by omega, by omega⟩, ⟨by omega, by omega⟩⟩, ⟨by omega, by omega⟩⟩⟩
theorem mme_Pair {k k' : Int} {x0 : Int} {x1 : Int} {x2 : Int} {x3 : Int} {x4 : Int} (h : R_Pair.mm ((x0, x1), (x2, x3), x4) k k') : x0 = k ∧ x1 = k + 1 ∧ x2 = k + 1 + 1 ∧ x3 = k + 1 + 1 + 1 ∧ x4 = k + 1 + 1 + 1 + 1 ∧ k' = k + 1 + 1 + 1 + 1 + 1 := by
  dsimp only [R_Pair, R_Label, Pr, I, atom, Sl] at h
  obtain ⟨z1, h1, g1⟩ := h
  obtain ⟨z2, h2, g2⟩ := h1
  obtain ⟨e0, f0⟩ := h2
  have e0 : x0 = _ := e0
  obtain ⟨e1, f1⟩ := g2
  have e1 : x1 = _ := e1
  obtain ⟨z3, h3, g3⟩ := g1
  obtain ⟨z4, h4, g4⟩ := h3
  obtain ⟨e2, f2⟩ := h4
  have e2 : x2 = _ := e2
  obtain ⟨e3, f3⟩ := g4
  have e3 : x3 = _ := e3
  obtain ⟨e4, f4⟩ := g3
  have e4 : x4 = _ := e4
  exact ⟨by omega, by omega, by omega, by omega, by omega, by omega⟩
theorem R_Pair_mn : Mn R_Pair := (Pr_mn R_Label_mn (Pr_mn R_Label_mn I_mn))

theorem mmk_Quota {k : Int} : R_Quota.mm ((k, k + 1), k + 1 + 1) k (k + 1 + 1 + 1) := by
  dsimp only [R_Quota, R_Label, Pr, I, atom, Sl]
  exact ⟨k + 1 + 1, ⟨k + 1, ⟨by omega, by omega⟩, ⟨by omega, by omega⟩⟩, ⟨by omega, by omega⟩⟩
theorem mme_Quota {k k' : Int} {x0 : Int} {x1 : Int} {x2 : Int} (h : R_Quota.mm ((x0, x1), x2) k k') : x0 = k ∧ x1 = k + 1 ∧ x2 = k + 1 + 1 ∧ k' = k + 1 + 1 + 1 := by
  dsimp only [R_Quota, R_Label, Pr, I, atom, Sl] at h
  obtain ⟨z1, h1, g1⟩ := h
  obtain ⟨z2, h2, g2⟩ := h1
  obtain ⟨e0, f0⟩ := h2
  have e0 : x0 = _ := e0
  obtain ⟨e1, f1⟩ := g2
  have e1 : x1 = _ := e1
  obtain ⟨e2, f2⟩ := g1
  have e2 : x2 = _ := e2
  exact ⟨by omega, by omega, by omega, by omega⟩
theorem R_Quota_mn : Mn R_Quota := (Pr_mn R_Label_mn I_mn)

end Go.Proofs.Ytmmnkdilnlhbfaa.RepC
