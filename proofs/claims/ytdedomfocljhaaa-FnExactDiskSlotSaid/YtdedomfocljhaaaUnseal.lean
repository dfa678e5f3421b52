/- Unseal, in the program and in its model: contracts. -/
import Derived.Test.YtdedomfocljhaaaSeal
namespace Go.Proofs.Ytdedomfocljhaaa.SealC
open Go.RowKit PutM PutC JoinC CrcC

/-- a TextOut -/
def outV (t : ByteArray) (at' : Int) (c : Int) : Value := .agg #[.string t, .int .i64 at', .int .i64 c]
theorem cells3 {W w1 : World} {B : Nat} {a b c : Value} (hb : Below W.heap.size W w1) (h0 : W.cell? ⟨B, 0, none⟩ = some a) (h1 : W.cell? ⟨B, 1, none⟩ = some b) (h2 : W.cell? ⟨B, 2, none⟩ = some c)
    (hf : ∀ j, W.frozen? ⟨B, j, none⟩ = false) :
    w1.cell? ⟨B, 0, none⟩ = some a ∧ w1.cell? ⟨B, 1, none⟩ = some b ∧ w1.cell? ⟨B, 2, none⟩ = some c ∧ w1.frozen? ⟨B, 0, none⟩ = false ∧ w1.frozen? ⟨B, 1, none⟩ = false ∧ w1.frozen? ⟨B, 2, none⟩ = false := by
  have hlt := World.block_lt_of_cell? W ⟨B, 0, none⟩ h0
  exact ⟨(hb.cell hlt).trans h0, (hb.cell (p := ⟨B, 1, none⟩) hlt).trans h1, (hb.cell (p := ⟨B, 2, none⟩) hlt).trans h2, (hb.frozen hlt).trans (hf 0), (hb.frozen (p := ⟨B, 1, none⟩) hlt).trans (hf 1), (hb.frozen (p := ⟨B, 2, none⟩) hlt).trans (hf 2)⟩

theorem cells3b {W w1 : World} {B : Nat} {a b c : Value} (hb : Below W.heap.size W w1) (h0 : W.cell? ⟨B, 0, none⟩ = some a) (h1 : W.cell? ⟨B, 1, none⟩ = some b) (h2 : W.cell? ⟨B, 2, none⟩ = some c)
    (f0 : W.frozen? ⟨B, 0, none⟩ = false) (f1 : W.frozen? ⟨B, 1, none⟩ = false) (f2 : W.frozen? ⟨B, 2, none⟩ = false) :
    w1.cell? ⟨B, 0, none⟩ = some a ∧ w1.cell? ⟨B, 1, none⟩ = some b ∧ w1.cell? ⟨B, 2, none⟩ = some c ∧ w1.frozen? ⟨B, 0, none⟩ = false ∧ w1.frozen? ⟨B, 1, none⟩ = false ∧ w1.frozen? ⟨B, 2, none⟩ = false := by
  have hlt := World.block_lt_of_cell? W ⟨B, 0, none⟩ h0
  exact ⟨(hb.cell hlt).trans h0, (hb.cell (p := ⟨B, 1, none⟩) hlt).trans h1, (hb.cell (p := ⟨B, 2, none⟩) hlt).trans h2, (hb.frozen hlt).trans f0, (hb.frozen (p := ⟨B, 1, none⟩) hlt).trans f1, (hb.frozen (p := ⟨B, 2, none⟩) hlt).trans f2⟩

def bodyOf (s : ByteArray) : ByteArray := s.extract 0 (s.size - 4)
def tailOf (s : ByteArray) : ByteArray := s.extract (s.size - 4) s.size
def unsealT (s : ByteArray) : ByteArray := if s.size ≤ 8000 ∧ 4 ≤ s.size ∧ (fourS (crcOf (bodyOf s) 0)).toList = (tailOf s).toList then bodyOf s else ByteArray.empty
def unsealE (s : ByteArray) : Int := if s.size ≤ 8000 then if 4 ≤ s.size then if (fourS (crcOf (bodyOf s) 0)).toList = (tailOf s).toList then 0 else 5 else 4 else 2
def unsealV (s : ByteArray) : Value := outV (unsealT s) 0 (unsealE s)

theorem unseal_big {s : ByteArray} (h : ¬ s.size ≤ 8000) : unsealV s = .agg #[.string { data := #[] }, .int .i64 0, .int .i64 2] := by
  unfold unsealV unsealT unsealE outV
  rw [if_neg (fun a => h a.1), if_neg h]
  rfl
theorem unseal_short {s : ByteArray} (h : s.size ≤ 8000) (h2 : ¬ 4 ≤ s.size) : unsealV s = .agg #[.string { data := #[] }, .int .i64 0, .int .i64 4] := by
  unfold unsealV unsealT unsealE outV
  rw [if_neg (fun a => h2 a.2.1), if_pos h, if_neg h2]
  rfl
theorem unseal_bad {s : ByteArray} (h : s.size ≤ 8000) (h2 : 4 ≤ s.size) (h3 : ¬ (fourS (crcOf (bodyOf s) 0)).toList = (tailOf s).toList) : unsealV s = .agg #[.string { data := #[] }, .int .i64 0, .int .i64 5] := by
  unfold unsealV unsealT unsealE outV
  rw [if_neg (fun a => h3 a.2.2), if_pos h, if_pos h2, if_neg h3]
  rfl
theorem unseal_good {s : ByteArray} (h : s.size ≤ 8000) (h2 : 4 ≤ s.size) (h3 : (fourS (crcOf (bodyOf s) 0)).toList = (tailOf s).toList) : unsealV s = .agg #[.string (bodyOf s), .int .i64 0, .int .i64 0] := by
  unfold unsealV unsealT unsealE outV
  rw [if_pos ⟨h, h2, h3⟩, if_pos h, if_pos h2, if_pos h3]
theorem ret_v {a b : Value} (h : a = b) : Ending.returned a = .returned b := by rw [h]

theorem cut_to (s : ByteArray) (h : 4 ≤ s.size) (w : World) : (Instr.slice 9 (.string s) none (some (.int .i64 ((s.size : Int) - 4))) none).run Try.prog w = .ok (.string (bodyOf s)) w := by
  rw [run_slice_string_h w 9 s Try.underlying9 .i64 _ (by omega) (by omega)]
  rw [show ((s.size : Int) - 4).toNat = s.size - 4 by omega]
  rfl
theorem cut_from (s : ByteArray) (h : 4 ≤ s.size) (w : World) : (Instr.slice 9 (.string s) (some (.int .i64 ((s.size : Int) - 4))) none none).run Try.prog w = .ok (.string (tailOf s)) w := by
  rw [run_slice_string_l w 9 s Try.underlying9 .i64 _ (by omega) (by omega)]
  rw [show ((s.size : Int) - 4).toNat = s.size - 4 by omega]
  rfl
theorem body_size (s : ByteArray) : (bodyOf s).size = s.size - 4 := by unfold bodyOf; simp

theorem cut_from_body (s : ByteArray) (h : 4 ≤ s.size) (w : World) : (Instr.slice 9 (.string s) (some (.int .i64 ((bodyOf s).size : Int))) none none).run Try.prog w = .ok (.string (tailOf s)) w := by
  have hb := body_size s
  rw [run_slice_string_l w 9 s Try.underlying9 .i64 _ (by omega) (by omega)]
  rw [show ((bodyOf s).size : Int).toNat = s.size - 4 by omega]
  rfl

end Go.Proofs.Ytdedomfocljhaaa.SealC
