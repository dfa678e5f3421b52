/- The laws' data: contracts. -/
import Derived.Test.YtdedomfocljhaaaGreatDoorTk
import Derived.Test.YtdedomfocljhaaaGreatDoorJobT
import Derived.Test.YtdedomfocljhaaaGreatDoorMkT
namespace Go.Proofs.YtdedomfocljhaaaGreatDoor.RepC
open Go.RowKit RowC ValC
set_option linter.unusedVariables false
set_option linter.unusedSimpArgs false

abbrev D_Frame : Type := (Int) × (ByteArray)
def R_Frame : Rp D_Frame := (Pr I St)
theorem R_Frame_ok : Ok R_Frame := (Pr_ok I_ok St_ok)
theorem rd_Frame {W : World} {B : Nat} {x0 : Int} {x1 : ByteArray} {cs : List Value} (h : R_Frame.rd W B (x0, x1) cs) : cs = [.int .i64 x0, .string x1] ∧ x1.size ≤ maxLen := by
  obtain ⟨u1, v1, rfl, h1, g1⟩ := h
  obtain rfl : u1 = [_] := h1
  obtain ⟨hq_x1, b_x1⟩ := g1
  obtain rfl : v1 = [_] := hq_x1
  exact ⟨rfl, b_x1⟩
theorem mkrd_Frame {W : World} {B : Nat} {x0 : Int} {x1 : ByteArray}  (b_x1 : x1.size ≤ maxLen) : R_Frame.rd W B (x0, x1) [.int .i64 x0, .string x1] := ⟨[.int .i64 x0], [.string x1], rfl, rfl, ⟨rfl, b_x1⟩⟩
theorem mkow_Frame {W : World} {S : Nat → Prop} {x0 : Int} {x1 : ByteArray}  (b_x1 : x1.size ≤ maxLen) : R_Frame.ow W S (x0, x1) [.int .i64 x0, .string x1] := ⟨[.int .i64 x0], [.string x1], (fun _ => False), (fun _ => False), rfl, (fun k h => h.elim), (fun k h => h.elim), (fun k h h' => h.elim), rfl, ⟨rfl, b_x1⟩⟩
theorem ow0_Frame {W : World} {S : Nat → Prop} {x0 : Int} {x1 : ByteArray} {cs : List Value} (h : R_Frame.ow W S (x0, x1) cs) : cs = [.int .i64 x0, .string x1] ∧ x1.size ≤ maxLen := by
  obtain ⟨u1, v1, A1, B1, rfl, sa1, sb1, dd1, h1, g1⟩ := h
  obtain rfl : u1 = [_] := h1
  obtain ⟨hq_x1, b_x1⟩ := g1
  obtain rfl : v1 = [_] := hq_x1
  exact ⟨rfl, b_x1⟩

abbrev D_FrameOut : Type := (D_Frame) × (Int) × (Int)
def R_FrameOut : Rp D_FrameOut := (Pr R_Frame (Pr I I))
theorem R_FrameOut_ok : Ok R_FrameOut := (Pr_ok R_Frame_ok (Pr_ok I_ok I_ok))
theorem rd_FrameOut {W : World} {B : Nat} {x0 : Int} {x1 : ByteArray} {x2 : Int} {x3 : Int} {cs : List Value} (h : R_FrameOut.rd W B ((x0, x1), x2, x3) cs) : cs = [.int .i64 x0, .string x1, .int .i64 x2, .int .i64 x3] ∧ x1.size ≤ maxLen := by
  obtain ⟨u1, v1, rfl, h1, g1⟩ := h
  obtain ⟨u2, v2, rfl, h2, g2⟩ := h1
  obtain rfl : u2 = [_] := h2
  obtain ⟨hq_x1, b_x1⟩ := g2
  obtain rfl : v2 = [_] := hq_x1
  obtain ⟨u3, v3, rfl, h3, g3⟩ := g1
  obtain rfl : u3 = [_] := h3
  obtain rfl : v3 = [_] := g3
  exact ⟨rfl, b_x1⟩
theorem mkrd_FrameOut {W : World} {B : Nat} {x0 : Int} {x1 : ByteArray} {x2 : Int} {x3 : Int}  (b_x1 : x1.size ≤ maxLen) : R_FrameOut.rd W B ((x0, x1), x2, x3) [.int .i64 x0, .string x1, .int .i64 x2, .int .i64 x3] := ⟨[.int .i64 x0, .string x1], [.int .i64 x2, .int .i64 x3], rfl, ⟨[.int .i64 x0], [.string x1], rfl, rfl, ⟨rfl, b_x1⟩⟩, ⟨[.int .i64 x2], [.int .i64 x3], rfl, rfl, rfl⟩⟩
theorem mkow_FrameOut {W : World} {S : Nat → Prop} {x0 : Int} {x1 : ByteArray} {x2 : Int} {x3 : Int}  (b_x1 : x1.size ≤ maxLen) : R_FrameOut.ow W S ((x0, x1), x2, x3) [.int .i64 x0, .string x1, .int .i64 x2, .int .i64 x3] := ⟨[.int .i64 x0, .string x1], [.int .i64 x2, .int .i64 x3], (fun _ => False), (fun _ => False), rfl, (fun k h => h.elim), (fun k h => h.elim), (fun k h h' => h.elim), ⟨[.int .i64 x0], [.string x1], (fun _ => False), (fun _ => False), rfl, (fun k h => h.elim), (fun k h => h.elim), (fun k h h' => h.elim), rfl, ⟨rfl, b_x1⟩⟩, ⟨[.int .i64 x2], [.int .i64 x3], (fun _ => False), (fun _ => False), rfl, (fun k h => h.elim), (fun k h => h.elim), (fun k h h' => h.elim), rfl, rfl⟩⟩
theorem ow0_FrameOut {W : World} {S : Nat → Prop} {x0 : Int} {x1 : ByteArray} {x2 : Int} {x3 : Int} {cs : List Value} (h : R_FrameOut.ow W S ((x0, x1), x2, x3) cs) : cs = [.int .i64 x0, .string x1, .int .i64 x2, .int .i64 x3] ∧ x1.size ≤ maxLen := by
  obtain ⟨u1, v1, A1, B1, rfl, sa1, sb1, dd1, h1, g1⟩ := h
  obtain ⟨u2, v2, A2, B2, rfl, sa2, sb2, dd2, h2, g2⟩ := h1
  obtain rfl : u2 = [_] := h2
  obtain ⟨hq_x1, b_x1⟩ := g2
  obtain rfl : v2 = [_] := hq_x1
  obtain ⟨u3, v3, A3, B3, rfl, sa3, sb3, dd3, h3, g3⟩ := g1
  obtain rfl : u3 = [_] := h3
  obtain rfl : v3 = [_] := g3
  exact ⟨rfl, b_x1⟩

abbrev D_LogOut : Type := (List (D_Frame)) × (Int) × (Int)
def R_LogOut : Rp D_LogOut := (Pr (Sl R_Frame) (Pr I I))
theorem R_LogOut_ok : Ok R_LogOut := (Pr_ok (Sl_ok R_Frame_ok) (Pr_ok I_ok I_ok))
theorem rd_LogOut {W : World} {B : Nat} {L0 : List (D_Frame)} {x1 : Int} {x2 : Int} {cs : List Value} (h : R_LogOut.rd W B (L0, x1, x2) cs) : ∃ a0 c0, cs = [.slice a0 L0.length c0, .int .i64 x1, .int .i64 x2] ∧ RdSl R_Frame W B L0 a0 c0 := by
  obtain ⟨u1, v1, rfl, h1, g1⟩ := h
  obtain ⟨a0, c0, rfl, k_L0⟩ := h1
  obtain ⟨u2, v2, rfl, h2, g2⟩ := g1
  obtain rfl : u2 = [_] := h2
  obtain rfl : v2 = [_] := g2
  exact ⟨a0, c0, rfl, k_L0⟩
theorem mkrd_LogOut {W : World} {B : Nat} {L0 : List (D_Frame)} {x1 : Int} {x2 : Int} {a0 : Option Addr} {c0 : Nat} (h_L0 : RdSl R_Frame W B L0 a0 c0) : R_LogOut.rd W B (L0, x1, x2) [.slice a0 L0.length c0, .int .i64 x1, .int .i64 x2] := ⟨[.slice a0 L0.length c0], [.int .i64 x1, .int .i64 x2], rfl, ⟨a0, c0, rfl, h_L0⟩, ⟨[.int .i64 x1], [.int .i64 x2], rfl, rfl, rfl⟩⟩
theorem mkow_LogOut {W : World} {S : Nat → Prop} {L0 : List (D_Frame)} {x1 : Int} {x2 : Int} {a0 : Option Addr} {c0 : Nat} {T0 : Nat → Prop} (hs0 : ∀ k, T0 k → S k) (h_L0 : OwSl R_Frame W T0 L0 a0 c0) : R_LogOut.ow W S (L0, x1, x2) [.slice a0 L0.length c0, .int .i64 x1, .int .i64 x2] := ⟨[.slice a0 L0.length c0], [.int .i64 x1, .int .i64 x2], T0, (fun _ => False), rfl, (fun k h => hs0 k h), (fun k h => h.elim), (fun k h h' => h'.elim), ⟨a0, c0, rfl, h_L0⟩, ⟨[.int .i64 x1], [.int .i64 x2], (fun _ => False), (fun _ => False), rfl, (fun k h => h.elim), (fun k h => h.elim), (fun k h h' => h.elim), rfl, rfl⟩⟩
theorem ow_LogOut {W : World} {S : Nat → Prop} {L0 : List (D_Frame)} {x1 : Int} {x2 : Int} {cs : List Value} (h : R_LogOut.ow W S (L0, x1, x2) cs) : ∃ a0 c0, ∃ T0 : Nat → Prop, cs = [.slice a0 L0.length c0, .int .i64 x1, .int .i64 x2] ∧ (∀ k, T0 k → S k) ∧ OwSl R_Frame W T0 L0 a0 c0 := by
  obtain ⟨u1, v1, A1, B1, rfl, sa1, sb1, dd1, h1, g1⟩ := h
  obtain ⟨a0, c0, rfl, k_L0⟩ := h1
  obtain ⟨u2, v2, A2, B2, rfl, sa2, sb2, dd2, h2, g2⟩ := g1
  obtain rfl : u2 = [_] := h2
  obtain rfl : v2 = [_] := g2
  exact ⟨a0, c0, A1, rfl, fun k h => sa1 k (h), k_L0⟩


set_option maxRecDepth 100000 in
set_option maxHeartbeats 3200000 in
theorem to_Frame {x0 : Int} {x1 : ByteArray}  {W : World} (hsz : R_Frame.sz (x0, x1) ≤ 1048576) (b_x1 : x1.size ≤ maxLen) : Calls Tryz.prog 8 #[.agg #[.int .i64 x0, .string x1]] W (NewV R_Frame (x0, x1) W) := by
  have HSZ := Lib.hid hsz
  clear hsz
  go_enter Tryz.func8, Tryz.ntmps8
  go_wp2
  refine bodyPost_ret (v := .agg #[.int .i64 x0, .string x1]) (by simp [results, Tryz.results8, go_sem]) rfl ⟨[.int .i64 x0, .string x1], rfl, mkow_Frame b_x1, (by repeat (first | exact Below.refl _ _ | refine Below.drew ?_ | refine Below.setCell ?_ (by first | omega | (simp; done) | (simp; omega)) _ | refine Below.alloc ?_ (by first | omega | (simp; done) | (simp; omega)) _))⟩

theorem size_FrameS : (R_Frame).size = 2 := rfl
def zs_FrameS (n : Nat) : Array Value := madeCells #[.int .i64 0, .string ⟨#[]⟩] (n * 2)
theorem zs_FrameS_size (n : Nat) : (zs_FrameS n).size = n * (R_Frame).size := by unfold zs_FrameS; simp [madeCells, size_FrameS]
theorem make_FrameS (n : Nat) (hn : n ≤ 1048576) : ∀ W : World, (Instr.makeSlice 47 (.int .i64 (n : Int)) (.int .i64 (n : Int))).run Tryz.prog W = .ok (.slice (some ⟨W.heap.size, 0, none⟩) n n) (W.alloc (.cells (zs_FrameS n) 36)) := by
  intro W
  obtain ⟨i, hi, hz, hs, hb⟩ : ∃ i, Tryz.prog.info? 36 = some i ∧ i.zero = some (.agg #[.int .i64 0, .string ⟨#[]⟩]) ∧ i.size = 2 ∧ i.bytes = 24 := by
    have h : (Tryz.prog.info? 36).map (fun i => (i.zero, i.size, i.bytes)) = some (some (.agg #[.int .i64 0, .string ⟨#[]⟩]), 2, 24) := by kernel_rfl
    cases hx : Tryz.prog.info? 36 with
    | none => rw [hx] at h; simp at h
    | some i => rw [hx] at h; simp at h; exact ⟨i, rfl, h.1, h.2.1, h.2.2⟩
  have hr := run_make (P := Tryz.prog) W 47 36 i _ Tryz.underlying47 hi hz .i64 .i64 n n (by omega) (by omega) (by rw [hb]; omega) (by omega)
  rw [hs] at hr
  simp only [Int.toNat_natCast] at hr
  exact hr

theorem sizeq_FrameS : (R_Frame).size = 2 := rfl
theorem szd_Frame {x0 : Int} {x1 : ByteArray} : R_Frame.sz (x0, x1) = x1.size := by
  simp only [R_Frame, Pr, I, Bo, St, atom] <;> omega
set_option maxRecDepth 100000 in
set_option maxHeartbeats 1600000 in
theorem sz_Frame {x0 : Int} {x1 : ByteArray} {W : World} {l : Int} (h0 : 0 ≤ l) (h1 : l ≤ 1048576) (b_x1 : x1.size ≤ maxLen) : Calls Tryz.prog 5 #[.agg #[.int .i64 x0, .string x1], .int .i64 l] W (SzC l (R_Frame.sz (x0, x1)) W) := by
  unfold maxLen at b_x1
  have HD := Lib.hid (szd_Frame (x0 := x0) (x1 := x1))
  by_cases hf0 : (x1.size : Int) ≤ l
  rotate_left
  · have HR := Lib.hid (szR_no (l := l) (s := R_Frame.sz (x0, x1)) (by rw [HD.out]; omega))
    have hd : decide (l - (x1.size : Int) < 0) = true := decide_eq_true (by omega)
    go_enter Tryz.func5, Tryz.ntmps5
    go_wp2
    go_ret
    exact ⟨by rw [HR.out]; first | rfl | (simp; done) | (simp; omega), by first | exact Below.refl _ _ | exact (Below.refl _ _).alloc (Nat.le_refl _) _⟩
  have hd0 : decide (l - (x1.size : Int) < 0) = false := decide_eq_false (by omega)
  have HR := Lib.hid (szR_yes (l := l) (s := R_Frame.sz (x0, x1)) (by rw [HD.out]; omega))
  go_enter Tryz.func5, Tryz.ntmps5
  go_wp2
  go_ret
  exact ⟨by rw [HR.out, HD.out]; first | rfl | (simp; done) | (simp; omega), by first | exact Below.refl _ _ | exact (Below.refl _ _).alloc (Nat.le_refl _) _⟩


theorem sizz_FrameS : (R_Frame).size = 2 := rfl
theorem szd_FrameS (L : List (D_Frame)) : (Sl R_Frame).sz L = L.length + sumL (R_Frame).sz L := rfl
end Go.Proofs.YtdedomfocljhaaaGreatDoor.RepC
