/- Unseal, in the program and in its model: contracts. -/
import Derived.Test.YtnmdfkempkaonaaSeal
namespace Go.Proofs.Ytnmdfkempkaonaa.SealC
open Go.RowKit PutM PutC JoinC CrcC

/-- a TextOut -/
def outV (t : ByteArray) (at' : Int) (c : Int) : Value := .agg #[.string t, .int .i64 at', .int .i64 c]
theorem cells3 {W w1 : World} {B : Nat} {a b c : Value} (hb : Below W.heap.size W w1) (h0 : W.cell? ⟨B, 0, none⟩ = some a) (h1 : W.cell? ⟨B, 1, none⟩ = some b) (h2 : W.cell? ⟨B, 2, none⟩ = some c)
    (hf : ∀ j, W.frozen? ⟨B, j, none⟩ = false) :
    w1.cell? ⟨B, 0, none⟩ = some a ∧ w1.cell? ⟨B, 1, none⟩ = some b ∧ w1.cell? ⟨B, 2, none⟩ = some c ∧ w1.frozen? ⟨B, 0, none⟩ = false ∧ w1.frozen? ⟨B, 1, none⟩ = false ∧ w1.frozen? ⟨B, 2, none⟩ = false := by
  have hlt := World.block_lt_of_cell? W ⟨B, 0, none⟩ h0
  exact ⟨(hb.cell hlt).trans h0, (hb.cell (p := ⟨B, 1, none⟩) hlt).trans h1, (hb.cell (p := ⟨B, 2, none⟩) hlt).trans h2, (hb.frozen hlt).trans (hf 0), (hb.frozen (p := ⟨B, 1, none⟩) hlt).trans (hf 1), (hb.frozen (p := ⟨B, 2, none⟩) hlt).trans (hf 2)⟩

theorem cells3b {W w1 : World} {B : Nat} {a b c : Value} (hb : Below W.heap.size W w1) (h0 : W.cell? ⟨B, 0, none⟩ = some a) (h1 : W.cell? ⟨B, 1, none⟩ = some b) (h2 : W.cell? ⟨B, 2, none⟩ = some c)
    (f0 : W.frozen? ⟨B, 0, none⟩ = false) (f1 : W.frozen? ⟨B, 1, none⟩ = false) (f2 : W.frozen? ⟨B, 2, none⟩ = false) :
    w1.cell? ⟨B, 0, none⟩ = some a ∧ w1.cell? ⟨B, 1, none⟩ = some b ∧ w1.cell? ⟨B, 2, none⟩ = some c ∧ w1.frozen? ⟨B, 0, none⟩ = false ∧ w1.frozen? ⟨B, 1, none⟩ = false ∧ w1.frozen? ⟨B, 2, none⟩ = false := by
  have hlt := World.block_lt_of_cell? W ⟨B, 0, none⟩ h0
  exact ⟨(hb.cell hlt).trans h0, (hb.cell (p := ⟨B, 1, none⟩) hlt).trans h1, (hb.cell (p := ⟨B, 2, none⟩) hlt).trans h2, (hb.frozen hlt).trans f0, (hb.frozen (p := ⟨B, 1, none⟩) hlt).trans f1, (hb.frozen (p := ⟨B, 2, none⟩) hlt).trans f2⟩

def bodyOf (s : ByteArray) : ByteArray := s.extract 0 (s.size - 4)
def tailOf (s : ByteArray) : ByteArray := s.extract (s.size - 4) s.size
def unsealT (s : ByteArray) : ByteArray := if s.size ≤ 8000 ∧ 4 ≤ s.size ∧ (fourS (crcOf (bodyOf s) 0)).toList = (tailOf s).toList then bodyOf s else ByteArray.empty
def unsealE (s : ByteArray) : Int := if s.size ≤ 8000 then if 4 ≤ s.size then if (fourS (crcOf (bodyOf s) 0)).toList = (tailOf s).toList then 0 else 5 else 4 else 2
def unsealV (s : ByteArray) : Value := outV (unsealT s) 0 (unsealE s)

theorem unseal_big {s : ByteArray} (h : ¬ s.size ≤ 8000) : unsealV s = .agg #[.string { data := #[] }, .int .i64 0, .int .i64 2] := by
  unfold unsealV unsealT unsealE outV
  rw [if_neg (fun a => h a.1), if_neg h]
  rfl
theorem unseal_short {s : ByteArray} (h : s.size ≤ 8000) (h2 : ¬ 4 ≤ s.size) : unsealV s = .agg #[.string { data := #[] }, .int .i64 0, .int .i64 4] := by
  unfold unsealV unsealT unsealE outV
  rw [if_neg (fun a => h2 a.2.1), if_pos h, if_neg h2]
  rfl
theorem unseal_bad {s : ByteArray} (h : s.size ≤ 8000) (h2 : 4 ≤ s.size) (h3 : ¬ (fourS (crcOf (bodyOf s) 0)).toList = (tailOf s).toList) : unsealV s = .agg #[.string { data := #[] }, .int .i64 0, .int .i64 5] := by
  unfold unsealV unsealT unsealE outV
  rw [if_neg (fun a => h3 a.2.2), if_pos h, if_pos h2, if_neg h3]
  rfl
theorem unseal_good {s : ByteArray} (h : s.size ≤ 8000) (h2 : 4 ≤ s.size) (h3 : (fourS (crcOf (bodyOf s) 0)).toList = (tailOf s).toList) : unsealV s = .agg #[.string (bodyOf s), .int .i64 0, .int .i64 0] := by
  unfold unsealV unsealT unsealE outV
  rw [if_pos ⟨h, h2, h3⟩, if_pos h, if_pos h2, if_pos h3]
theorem ret_v {a b : Value} (h : a = b) : Ending.returned a = .returned b := by rw [h]

theorem cut_to (s : ByteArray) (h : 4 ≤ s.size) (w : World) : (Instr.slice 9 (.string s) none (some (.int .i64 ((s.size : Int) - 4))) none).run Try.prog w = .ok (.string (bodyOf s)) w := by
  rw [run_slice_string_h w 9 s Try.underlying9 .i64 _ (by omega) (by omega)]
  rw [show ((s.size : Int) - 4).toNat = s.size - 4 by omega]
  rfl
theorem cut_from (s : ByteArray) (h : 4 ≤ s.size) (w : World) : (Instr.slice 9 (.string s) (some (.int .i64 ((s.size : Int) - 4))) none none).run Try.prog w = .ok (.string (tailOf s)) w := by
  rw [run_slice_string_l w 9 s Try.underlying9 .i64 _ (by omega) (by omega)]
  rw [show ((s.size : Int) - 4).toNat = s.size - 4 by omega]
  rfl
theorem body_size (s : ByteArray) : (bodyOf s).size = s.size - 4 := by unfold bodyOf; simp

set_option maxRecDepth 100000 in
set_option maxHeartbeats 800000 in
theorem unseal_spec (s : ByteArray) (w : World) (hs : s.size ≤ maxLen) :
    Calls Try.prog 15 #[.string s] w fun e w' => e = .returned (unsealV s) ∧ Below w.heap.size w w' := by
  unfold maxLen at hs
  by_cases h1 : s.size ≤ 8000
  · by_cases h2 : 4 ≤ s.size
    · have hl : (bodyOf s).size ≤ 8000 := by rw [body_size]; omega
      have hc1 := cut_to s h2
      have hc2 := cut_from s h2
      have hw : IntKind.i64.wrap ((s.size : Int) - 4) = (s.size : Int) - 4 := IntWalk.i64_in _ (by omega)
      have HG := Lib.hid (unseal_good h1 h2)
      have HD := Lib.hid (unseal_bad h1 h2)
      generalize bodyOf s = x at *
      generalize tailOf s = y at *
      go_enter Try.func15, Try.ntmps15
      go_wp2_with fail
      go_region_with (first | (go_at_call 24; refine (crc30 _ _ hl).mono ?_; rintro e w' ⟨rfl, rfl⟩) | (go_at_call 23; refine (four30 _ _).mono ?_; rintro e w1 ⟨rfl, hb1⟩; have HB1 := Lib.hid hb1; clear hb1))
      all_goals
        have ⟨d0, d1, d2, e0, e1, e2⟩ := cells3 HB1.out (a := .string { data := #[] }) (b := .int .i64 0) (c := .int .i64 0) (B := w.heap.size) (by simp) (by simp) (by simp) (fun j => by simp)
        have HB2 : Hid (Below w.heap.size w w1) := Lib.hid (((Below.refl _ _).alloc (Nat.le_refl _) _).drew.trans (HB1.out.mono (by simp)))
        generalize fourS (crcOf x 0) = z at *
        clear hw
        by_cases hz : z.toList = y.toList
        · have hz1 : (!z.toList == y.toList) = false := by simp [hz]
          have HF := Lib.hid (HG.out hz)
          clear hz
          go_wp2
          all_goals first | (exfalso; have hh : (!z.toList == y.toList) = true := by assumption
                             rw [hz1] at hh; exact Bool.noConfusion hh) | exact bodyPost_ret (v := .agg #[.string x, .int .i64 0, .int .i64 0]) (by simp [results, Try.results15, go_sem, d0, d1, d2]) rfl ⟨ret_v HF.out.symm, ((HB2.out.setCell (Nat.le_refl _) _).setCell (Nat.le_refl _) _).setCell (Nat.le_refl _) _⟩
        · have hz1 : (!z.toList == y.toList) = true := by simp [hz]
          have HF := Lib.hid (HD.out hz)
          clear hz
          go_wp2
          all_goals first | (exfalso; have hh : (!z.toList == y.toList) = false := by assumption
                             rw [hz1] at hh; exact Bool.noConfusion hh) | exact bodyPost_ret (v := .agg #[.string { data := #[] }, .int .i64 0, .int .i64 5]) (by simp [results, Try.results15, go_sem, d0, d1, d2]) rfl ⟨ret_v HF.out.symm, ((HB2.out.setCell (Nat.le_refl _) _).setCell (Nat.le_refl _) _).setCell (Nat.le_refl _) _⟩
    · have HF := Lib.hid (unseal_short h1 h2)
      go_enter Try.func15, Try.ntmps15
      go_wp2
      exact bodyPost_ret (v := .agg #[.string { data := #[] }, .int .i64 0, .int .i64 4]) (by simp [results, Try.results15, go_sem]) rfl ⟨ret_v HF.out.symm, (Below.refl _ _).alloc (Nat.le_refl _) _⟩
  · have HF := Lib.hid (unseal_big h1)
    go_enter Try.func15, Try.ntmps15
    go_wp2
    exact bodyPost_ret (v := .agg #[.string { data := #[] }, .int .i64 0, .int .i64 2]) (by simp [results, Try.results15, go_sem]) rfl ⟨ret_v HF.out.symm, (Below.refl _ _).alloc (Nat.le_refl _) _⟩
theorem cut_from_body (s : ByteArray) (h : 4 ≤ s.size) (w : World) : (Instr.slice 9 (.string s) (some (.int .i64 ((bodyOf s).size : Int))) none none).run Try.prog w = .ok (.string (tailOf s)) w := by
  have hb := body_size s
  rw [run_slice_string_l w 9 s Try.underlying9 .i64 _ (by omega) (by omega)]
  rw [show ((bodyOf s).size : Int).toNat = s.size - 4 by omega]
  rfl

set_option maxRecDepth 100000 in
set_option maxHeartbeats 800000 in
theorem unseal_impl (s : ByteArray) (w : World) (hs : s.size ≤ maxLen) :
    Calls Try.prog 10 #[.string s] w fun e w' => e = .returned (unsealV s) ∧ Below w.heap.size w w' := by
  unfold maxLen at hs
  by_cases h1 : s.size ≤ 8000
  · by_cases h2 : 4 ≤ s.size
    · have hl : (bodyOf s).size ≤ 8000 := by rw [body_size]; omega
      have hc1 := cut_to s h2
      have hc2 := cut_from_body s h2
      have HG := Lib.hid (unseal_good h1 h2)
      have HD := Lib.hid (unseal_bad h1 h2)
      generalize bodyOf s = x at *
      generalize tailOf s = y at *
      go_enter Try.func10, Try.ntmps10
      go_wp2_with fail
      go_region_with (go_at_call 22; refine (text_crc _ _ hl).mono ?_; rintro e w1 ⟨rfl, hb1⟩; have HB1 := Lib.hid hb1; clear hb1)
      all_goals
        have ⟨d0, d1, d2, e0, e1, e2⟩ := cells3 HB1.out (a := .string { data := #[] }) (b := .int .i64 0) (c := .int .i64 0) (B := w.heap.size) (by simp) (by simp) (by simp) (fun j => by simp)
        have HB2 : Hid (Below w.heap.size w w1) := Lib.hid (((Below.refl _ _).alloc (Nat.le_refl _) _).drew.trans (HB1.out.mono (by simp)))
        generalize fourS (crcOf x 0) = z at *
        by_cases hz : z.toList = y.toList
        · have hz1 : (!y.toList == z.toList) = false := by simp [hz]
          have HF := Lib.hid (HG.out hz)
          clear hz
          go_wp2_with (go_at_call 25; refine (clone_any _ _ hl).mono ?_; rintro e w2 ⟨rfl, hb2⟩; have ⟨f0, f1, f2, g0, g1, g2⟩ := cells3b hb2 d0 d1 d2 e0 e1 e2; have HB3 := Lib.hid (HB2.out.trans (hb2.mono HB2.out.size)); clear hb2)
          all_goals first | (exfalso; have hh : (!y.toList == z.toList) = true := by assumption
                             rw [hz1] at hh; exact Bool.noConfusion hh) | exact bodyPost_ret (v := .agg #[.string x, .int .i64 0, .int .i64 0]) (by simp [results, Try.results10, go_sem, f0, f1, f2]) rfl ⟨ret_v HF.out.symm, ((HB3.out.setCell (Nat.le_refl _) _).setCell (Nat.le_refl _) _).setCell (Nat.le_refl _) _⟩
        · have hz1 : (!y.toList == z.toList) = true := by simp [Ne.symm hz]
          have HF := Lib.hid (HD.out hz)
          clear hz
          go_wp2
          all_goals first | (exfalso; have hh : (!y.toList == z.toList) = false := by assumption
                             rw [hz1] at hh; exact Bool.noConfusion hh) | exact bodyPost_ret (v := .agg #[.string { data := #[] }, .int .i64 0, .int .i64 5]) (by simp [results, Try.results10, go_sem, d0, d1, d2]) rfl ⟨ret_v HF.out.symm, ((HB2.out.setCell (Nat.le_refl _) _).setCell (Nat.le_refl _) _).setCell (Nat.le_refl _) _⟩
    · have HF := Lib.hid (unseal_short h1 h2)
      go_enter Try.func10, Try.ntmps10
      go_wp2
      exact bodyPost_ret (v := .agg #[.string { data := #[] }, .int .i64 0, .int .i64 4]) (by simp [results, Try.results10, go_sem]) rfl ⟨ret_v HF.out.symm, (Below.refl _ _).alloc (Nat.le_refl _) _⟩
  · have HF := Lib.hid (unseal_big h1)
    go_enter Try.func10, Try.ntmps10
    go_wp2
    exact bodyPost_ret (v := .agg #[.string { data := #[] }, .int .i64 0, .int .i64 2]) (by simp [results, Try.results10, go_sem]) rfl ⟨ret_v HF.out.symm, (Below.refl _ _).alloc (Nat.le_refl _) _⟩

end Go.Proofs.Ytnmdfkempkaonaa.SealC
