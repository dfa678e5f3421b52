/- The laws' data: contracts. -/
import Derived.Test.YtdedomfocljhaaaGreatDoorTk
import Derived.Test.YtdedomfocljhaaaGreatDoorRep3
import Derived.Test.YtdedomfocljhaaaGreatDoorHeld
namespace Go.Proofs.YtdedomfocljhaaaGreatDoor.RepC
open Go.RowKit RowC ValC
set_option linter.unusedVariables false
set_option linter.unusedSimpArgs false

abbrev D_Label : Type := (Int) × (Int)
def R_Label : Rp D_Label := (Pr I I)
theorem R_Label_ok : Ok R_Label := (Pr_ok I_ok I_ok)
theorem rd_Label {W : World} {B : Nat} {x0 : Int} {x1 : Int} {cs : List Value} (h : R_Label.rd W B (x0, x1) cs) : cs = [.int .i64 x0, .int .i64 x1] := by
  obtain ⟨u1, v1, rfl, h1, g1⟩ := h
  obtain rfl : u1 = [_] := h1
  obtain rfl : v1 = [_] := g1
  rfl
theorem mkrd_Label {W : World} {B : Nat} {x0 : Int} {x1 : Int}  : R_Label.rd W B (x0, x1) [.int .i64 x0, .int .i64 x1] := ⟨[.int .i64 x0], [.int .i64 x1], rfl, rfl, rfl⟩
theorem mkow_Label {W : World} {S : Nat → Prop} {x0 : Int} {x1 : Int}  : R_Label.ow W S (x0, x1) [.int .i64 x0, .int .i64 x1] := ⟨[.int .i64 x0], [.int .i64 x1], (fun _ => False), (fun _ => False), rfl, (fun k h => h.elim), (fun k h => h.elim), (fun k h h' => h.elim), rfl, rfl⟩
theorem ow0_Label {W : World} {S : Nat → Prop} {x0 : Int} {x1 : Int} {cs : List Value} (h : R_Label.ow W S (x0, x1) cs) : cs = [.int .i64 x0, .int .i64 x1] := by
  obtain ⟨u1, v1, A1, B1, rfl, sa1, sb1, dd1, h1, g1⟩ := h
  obtain rfl : u1 = [_] := h1
  obtain rfl : v1 = [_] := g1
  rfl

abbrev D_Job : Type := (D_Label) × (Int) × (Int) × (Int) × (Int) × (Int) × (Int) × (List (Int))
def R_Job : Rp D_Job := (Pr R_Label (Pr I (Pr I (Pr I (Pr I (Pr I (Pr I (Sl I))))))))
theorem R_Job_ok : Ok R_Job := (Pr_ok R_Label_ok (Pr_ok I_ok (Pr_ok I_ok (Pr_ok I_ok (Pr_ok I_ok (Pr_ok I_ok (Pr_ok I_ok (Sl_ok I_ok))))))))
theorem rd_Job {W : World} {B : Nat} {x0 : Int} {x1 : Int} {x2 : Int} {x3 : Int} {x4 : Int} {x5 : Int} {x6 : Int} {x7 : Int} {L0 : List (Int)} {cs : List Value} (h : R_Job.rd W B ((x0, x1), x2, x3, x4, x5, x6, x7, L0) cs) : ∃ a0 c0, cs = [.int .i64 x0, .int .i64 x1, .int .i64 x2, .int .i64 x3, .int .i64 x4, .int .i64 x5, .int .i64 x6, .int .i64 x7, .slice a0 L0.length c0] ∧ RdSl I W B L0 a0 c0 := by
  obtain ⟨u1, v1, rfl, h1, g1⟩ := h
  obtain ⟨u2, v2, rfl, h2, g2⟩ := h1
  obtain rfl : u2 = [_] := h2
  obtain rfl : v2 = [_] := g2
  obtain ⟨u3, v3, rfl, h3, g3⟩ := g1
  obtain rfl : u3 = [_] := h3
  obtain ⟨u4, v4, rfl, h4, g4⟩ := g3
  obtain rfl : u4 = [_] := h4
  obtain ⟨u5, v5, rfl, h5, g5⟩ := g4
  obtain rfl : u5 = [_] := h5
  obtain ⟨u6, v6, rfl, h6, g6⟩ := g5
  obtain rfl : u6 = [_] := h6
  obtain ⟨u7, v7, rfl, h7, g7⟩ := g6
  obtain rfl : u7 = [_] := h7
  obtain ⟨u8, v8, rfl, h8, g8⟩ := g7
  obtain rfl : u8 = [_] := h8
  obtain ⟨a0, c0, rfl, k_L0⟩ := g8
  exact ⟨a0, c0, rfl, k_L0⟩
theorem mkrd_Job {W : World} {B : Nat} {x0 : Int} {x1 : Int} {x2 : Int} {x3 : Int} {x4 : Int} {x5 : Int} {x6 : Int} {x7 : Int} {L0 : List (Int)} {a0 : Option Addr} {c0 : Nat} (h_L0 : RdSl I W B L0 a0 c0) : R_Job.rd W B ((x0, x1), x2, x3, x4, x5, x6, x7, L0) [.int .i64 x0, .int .i64 x1, .int .i64 x2, .int .i64 x3, .int .i64 x4, .int .i64 x5, .int .i64 x6, .int .i64 x7, .slice a0 L0.length c0] := ⟨[.int .i64 x0, .int .i64 x1], [.int .i64 x2, .int .i64 x3, .int .i64 x4, .int .i64 x5, .int .i64 x6, .int .i64 x7, .slice a0 L0.length c0], rfl, ⟨[.int .i64 x0], [.int .i64 x1], rfl, rfl, rfl⟩, ⟨[.int .i64 x2], [.int .i64 x3, .int .i64 x4, .int .i64 x5, .int .i64 x6, .int .i64 x7, .slice a0 L0.length c0], rfl, rfl, ⟨[.int .i64 x3], [.int .i64 x4, .int .i64 x5, .int .i64 x6, .int .i64 x7, .slice a0 L0.length c0], rfl, rfl, ⟨[.int .i64 x4], [.int .i64 x5, .int .i64 x6, .int .i64 x7, .slice a0 L0.length c0], rfl, rfl, ⟨[.int .i64 x5], [.int .i64 x6, .int .i64 x7, .slice a0 L0.length c0], rfl, rfl, ⟨[.int .i64 x6], [.int .i64 x7, .slice a0 L0.length c0], rfl, rfl, ⟨[.int .i64 x7], [.slice a0 L0.length c0], rfl, rfl, ⟨a0, c0, rfl, h_L0⟩⟩⟩⟩⟩⟩⟩⟩
theorem mkow_Job {W : World} {S : Nat → Prop} {x0 : Int} {x1 : Int} {x2 : Int} {x3 : Int} {x4 : Int} {x5 : Int} {x6 : Int} {x7 : Int} {L0 : List (Int)} {a0 : Option Addr} {c0 : Nat} {T0 : Nat → Prop} (hs0 : ∀ k, T0 k → S k) (h_L0 : OwSl I W T0 L0 a0 c0) : R_Job.ow W S ((x0, x1), x2, x3, x4, x5, x6, x7, L0) [.int .i64 x0, .int .i64 x1, .int .i64 x2, .int .i64 x3, .int .i64 x4, .int .i64 x5, .int .i64 x6, .int .i64 x7, .slice a0 L0.length c0] := ⟨[.int .i64 x0, .int .i64 x1], [.int .i64 x2, .int .i64 x3, .int .i64 x4, .int .i64 x5, .int .i64 x6, .int .i64 x7, .slice a0 L0.length c0], (fun _ => False), T0, rfl, (fun k h => h.elim), (fun k h => hs0 k h), (fun k h h' => h.elim), ⟨[.int .i64 x0], [.int .i64 x1], (fun _ => False), (fun _ => False), rfl, (fun k h => h.elim), (fun k h => h.elim), (fun k h h' => h.elim), rfl, rfl⟩, ⟨[.int .i64 x2], [.int .i64 x3, .int .i64 x4, .int .i64 x5, .int .i64 x6, .int .i64 x7, .slice a0 L0.length c0], (fun _ => False), T0, rfl, (fun k h => h.elim), (fun k h => h), (fun k h h' => h.elim), rfl, ⟨[.int .i64 x3], [.int .i64 x4, .int .i64 x5, .int .i64 x6, .int .i64 x7, .slice a0 L0.length c0], (fun _ => False), T0, rfl, (fun k h => h.elim), (fun k h => h), (fun k h h' => h.elim), rfl, ⟨[.int .i64 x4], [.int .i64 x5, .int .i64 x6, .int .i64 x7, .slice a0 L0.length c0], (fun _ => False), T0, rfl, (fun k h => h.elim), (fun k h => h), (fun k h h' => h.elim), rfl, ⟨[.int .i64 x5], [.int .i64 x6, .int .i64 x7, .slice a0 L0.length c0], (fun _ => False), T0, rfl, (fun k h => h.elim), (fun k h => h), (fun k h h' => h.elim), rfl, ⟨[.int .i64 x6], [.int .i64 x7, .slice a0 L0.length c0], (fun _ => False), T0, rfl, (fun k h => h.elim), (fun k h => h), (fun k h h' => h.elim), rfl, ⟨[.int .i64 x7], [.slice a0 L0.length c0], (fun _ => False), T0, rfl, (fun k h => h.elim), (fun k h => h), (fun k h h' => h.elim), rfl, ⟨a0, c0, rfl, h_L0⟩⟩⟩⟩⟩⟩⟩⟩
theorem ow_Job {W : World} {S : Nat → Prop} {x0 : Int} {x1 : Int} {x2 : Int} {x3 : Int} {x4 : Int} {x5 : Int} {x6 : Int} {x7 : Int} {L0 : List (Int)} {cs : List Value} (h : R_Job.ow W S ((x0, x1), x2, x3, x4, x5, x6, x7, L0) cs) : ∃ a0 c0, ∃ T0 : Nat → Prop, cs = [.int .i64 x0, .int .i64 x1, .int .i64 x2, .int .i64 x3, .int .i64 x4, .int .i64 x5, .int .i64 x6, .int .i64 x7, .slice a0 L0.length c0] ∧ (∀ k, T0 k → S k) ∧ OwSl I W T0 L0 a0 c0 := by
  obtain ⟨u1, v1, A1, B1, rfl, sa1, sb1, dd1, h1, g1⟩ := h
  obtain ⟨u2, v2, A2, B2, rfl, sa2, sb2, dd2, h2, g2⟩ := h1
  obtain rfl : u2 = [_] := h2
  obtain rfl : v2 = [_] := g2
  obtain ⟨u3, v3, A3, B3, rfl, sa3, sb3, dd3, h3, g3⟩ := g1
  obtain rfl : u3 = [_] := h3
  obtain ⟨u4, v4, A4, B4, rfl, sa4, sb4, dd4, h4, g4⟩ := g3
  obtain rfl : u4 = [_] := h4
  obtain ⟨u5, v5, A5, B5, rfl, sa5, sb5, dd5, h5, g5⟩ := g4
  obtain rfl : u5 = [_] := h5
  obtain ⟨u6, v6, A6, B6, rfl, sa6, sb6, dd6, h6, g6⟩ := g5
  obtain rfl : u6 = [_] := h6
  obtain ⟨u7, v7, A7, B7, rfl, sa7, sb7, dd7, h7, g7⟩ := g6
  obtain rfl : u7 = [_] := h7
  obtain ⟨u8, v8, A8, B8, rfl, sa8, sb8, dd8, h8, g8⟩ := g7
  obtain rfl : u8 = [_] := h8
  obtain ⟨a0, c0, rfl, k_L0⟩ := g8
  exact ⟨a0, c0, B8, rfl, fun k h => sb1 k (sb3 k (sb4 k (sb5 k (sb6 k (sb7 k (sb8 k (h))))))), k_L0⟩

theorem size_Int64S : (I).size = 1 := rfl
def zs_Int64S (n : Nat) : Array Value := madeCells #[.int .i64 0] (n * 1)
theorem zs_Int64S_size (n : Nat) : (zs_Int64S n).size = n * (I).size := by unfold zs_Int64S; simp [madeCells, size_Int64S]
theorem size_JobS : (R_Job).size = 9 := rfl
def zs_JobS (n : Nat) : Array Value := madeCells #[.int .i64 0, .int .i64 0, .int .i64 0, .int .i64 0, .int .i64 0, .int .i64 0, .int .i64 0, .int .i64 0, .slice none 0 0] (n * 9)
theorem zs_JobS_size (n : Nat) : (zs_JobS n).size = n * (R_Job).size := by unfold zs_JobS; simp [madeCells, size_JobS]
theorem sizeq_Int64S : (I).size = 1 := rfl
theorem sizeq_JobS : (R_Job).size = 9 := rfl
theorem flat_Int64S (L : List (Int)) : (Sl I).sz L = L.length := by
  have : sumL (I).sz L = 0 := sumL_zero (fun _ => rfl) L
  simp only [Sl, this, Nat.add_zero]
theorem szd_Job {x0 : Int} {x1 : Int} {x2 : Int} {x3 : Int} {x4 : Int} {x5 : Int} {x6 : Int} {x7 : Int} {L0 : List (Int)} : R_Job.sz ((x0, x1), x2, x3, x4, x5, x6, x7, L0) = (((Sl I)).sz L0) := by
  simp only [R_Job, Pr, I, Bo, atom, R_Label]; omega
theorem sizz_JobS : (R_Job).size = 9 := rfl
theorem szd_JobS (L : List (D_Job)) : (Sl R_Job).sz L = L.length + sumL (R_Job).sz L := rfl
theorem mmk_Label {k : Int} : R_Label.mm (k, k + 1) k (k + 1 + 1) := by
  dsimp only [R_Label, Pr, I, atom, Sl]
  exact ⟨k + 1, ⟨by omega, by omega⟩, ⟨by omega, by omega⟩⟩
theorem mme_Label {k k' : Int} {x0 : Int} {x1 : Int} (h : R_Label.mm (x0, x1) k k') : x0 = k ∧ x1 = k + 1 ∧ k' = k + 1 + 1 := by
  dsimp only [R_Label, Pr, I, atom, Sl] at h
  obtain ⟨z1, h1, g1⟩ := h
  obtain ⟨e0, f0⟩ := h1
  have e0 : x0 = _ := e0
  obtain ⟨e1, f1⟩ := g1
  have e1 : x1 = _ := e1
  exact ⟨by omega, by omega, by omega⟩
theorem R_Label_mn : Mn R_Label := (Pr_mn I_mn I_mn)

theorem mmk_Job {k kk0 : Int} {L0 : List (Int)} (m_L0 : mmL I L0 (k + 1 + 1 + 1 + 1 + 1 + 1 + 1 + 1) kk0) : R_Job.mm ((k, k + 1), k + 1 + 1, k + 1 + 1 + 1, k + 1 + 1 + 1 + 1, k + 1 + 1 + 1 + 1 + 1, k + 1 + 1 + 1 + 1 + 1 + 1, k + 1 + 1 + 1 + 1 + 1 + 1 + 1, L0) k (kk0) := by
  dsimp only [R_Job, R_Label, Pr, I, atom, Sl]
  exact ⟨k + 1 + 1, ⟨k + 1, ⟨by omega, by omega⟩, ⟨by omega, by omega⟩⟩, ⟨k + 1 + 1 + 1, ⟨by omega, by omega⟩, ⟨k + 1 + 1 + 1 + 1, ⟨by omega, by omega⟩, ⟨k + 1 + 1 + 1 + 1 + 1, ⟨by omega, by omega⟩, ⟨k + 1 + 1 + 1 + 1 + 1 + 1, ⟨by omega, by omega⟩, ⟨k + 1 + 1 + 1 + 1 + 1 + 1 + 1, ⟨by omega, by omega⟩, ⟨k + 1 + 1 + 1 + 1 + 1 + 1 + 1 + 1, ⟨by omega, by omega⟩, m_L0⟩⟩⟩⟩⟩⟩⟩
theorem mme_Job {k k' : Int} {x0 : Int} {x1 : Int} {x2 : Int} {x3 : Int} {x4 : Int} {x5 : Int} {x6 : Int} {x7 : Int} {L0 : List (Int)} (h : R_Job.mm ((x0, x1), x2, x3, x4, x5, x6, x7, L0) k k') : ∃ kk0, x0 = k ∧ x1 = k + 1 ∧ x2 = k + 1 + 1 ∧ x3 = k + 1 + 1 + 1 ∧ x4 = k + 1 + 1 + 1 + 1 ∧ x5 = k + 1 + 1 + 1 + 1 + 1 ∧ x6 = k + 1 + 1 + 1 + 1 + 1 + 1 ∧ x7 = k + 1 + 1 + 1 + 1 + 1 + 1 + 1 ∧ mmL I L0 (k + 1 + 1 + 1 + 1 + 1 + 1 + 1 + 1) kk0 ∧ k' = kk0 := by
  dsimp only [R_Job, R_Label, Pr, I, atom, Sl] at h
  obtain ⟨z1, h1, g1⟩ := h
  obtain ⟨z2, h2, g2⟩ := h1
  obtain ⟨e0, f0⟩ := h2
  have e0 : x0 = _ := e0
  obtain ⟨e1, f1⟩ := g2
  have e1 : x1 = _ := e1
  obtain ⟨z3, h3, g3⟩ := g1
  obtain ⟨e2, f2⟩ := h3
  have e2 : x2 = _ := e2
  obtain ⟨z4, h4, g4⟩ := g3
  obtain ⟨e3, f3⟩ := h4
  have e3 : x3 = _ := e3
  obtain ⟨z5, h5, g5⟩ := g4
  obtain ⟨e4, f4⟩ := h5
  have e4 : x4 = _ := e4
  obtain ⟨z6, h6, g6⟩ := g5
  obtain ⟨e5, f5⟩ := h6
  have e5 : x5 = _ := e5
  obtain ⟨z7, h7, g7⟩ := g6
  obtain ⟨e6, f6⟩ := h7
  have e6 : x6 = _ := e6
  obtain ⟨z8, h8, g8⟩ := g7
  obtain ⟨e7, f7⟩ := h8
  have e7 : x7 = _ := e7
  have m_L0 : mmL I L0 _ _ := g8
  exact ⟨_, by omega, by omega, by omega, by omega, by omega, by omega, by omega, by omega, cast_mm m_L0 (by omega) rfl, by omega⟩
theorem R_Job_mn : Mn R_Job := (Pr_mn R_Label_mn (Pr_mn I_mn (Pr_mn I_mn (Pr_mn I_mn (Pr_mn I_mn (Pr_mn I_mn (Pr_mn I_mn (Sl_mn I_mn))))))))


theorem sizm_Int64S : (I).size = 1 := rfl
theorem sizm_JobS : (R_Job).size = 9 := rfl
/-- a struct by value, marked in its slices -/
def MarkV_Job (x0 : Int) (x1 : Int) (x2 : Int) (x3 : Int) (x4 : Int) (x5 : Int) (x6 : Int) (x7 : Int) (L0 : List (Int)) (a0 : Option Addr) (c0 : Nat) (T0 : Nat → Prop) (k : Int) (W : World) (e : Ending) (w' : World) : Prop := ∃ z0 : Int, ∃ (y0 : List (Int)), e = .returned (.int .i64 z0) ∧ (y0.length = L0.length ∧ mmL I y0 k z0 ∧ z0 = k + (sumL (I).cm L0 : Nat) ∧ OwSl I w' T0 y0 a0 c0) ∧ Off (fun q => T0 q) W w'
end Go.Proofs.YtdedomfocljhaaaGreatDoor.RepC
