/- The text of a label, in the program and in its model: contracts. -/
import Derived.Test.YtdimpopkkjpddaaDoorLab
import Derived.Test.YtdimpopkkjpddaaDoorKept
namespace Go.Proofs.YtdimpopkkjpddaaDoor.LabC
open Go.RowKit KeptC

def digB (d : Int) : ByteArray := ⟨#[UInt8.ofNat (48 + d.toNat)]⟩
theorem cells2 {W w1 : World} {B : Nat} {a b : Value} (hb : Below W.heap.size W w1) (h0 : W.cell? ⟨B, 0, none⟩ = some a) (h1 : W.cell? ⟨B, 1, none⟩ = some b) :
    w1.cell? ⟨B, 0, none⟩ = some a ∧ w1.cell? ⟨B, 1, none⟩ = some b ∧ B < W.heap.size := by
  have hlt := World.block_lt_of_cell? W ⟨B, 0, none⟩ h0
  exact ⟨(hb.cell hlt).trans h0, (hb.cell (p := ⟨B, 1, none⟩) hlt).trans h1, hlt⟩
theorem small_any (d : Int) (w : World) (h0 : 0 ≤ d) (h3 : d ≤ 3) :
    Calls Tryd.prog 108 #[.int .i64 d] w fun e w' => e = .returned (.string (digB d)) ∧ w = w' := by
  obtain rfl | rfl | rfl | rfl : d = 0 ∨ d = 1 ∨ d = 2 ∨ d = 3 := by omega
  all_goals
    go_enter Tryd.func108, Tryd.ntmps108
    go_wp2
    go_ret
    exact ⟨rfl, rfl⟩
theorem fmt_in (d : Int) (w : World) (h0 : 0 ≤ d) (h3 : d ≤ 3) :
    Calls Tryd.prog 95 #[.int .i64 d, .int .i64 10] w fun e w' => e = .returned (.string (digB d)) ∧ w = w' := by
  have h100 : d < 100 := by omega
  go_enter Tryd.func95, Tryd.ntmps95
  go_wp2_with (go_at_call 108; refine (small_any _ _ h0 h3).mono ?_; rintro e w' ⟨rfl, rfl⟩)
  go_ret
  exact ⟨rfl, rfl⟩
theorem fmt_any (d : Int) (w : World) (h0 : 0 ≤ d) (h3 : d ≤ 3) :
    Calls Tryd.prog 70 #[.int .i64 d, .int .i64 10] w fun e w' => e = .returned (.string (digB d)) ∧ w = w' := by
  go_enter Tryd.func70, Tryd.ntmps70
  go_wp2_with (go_at_call 95; refine (fmt_in _ _ h0 h3).mono ?_; rintro e w' ⟨rfl, rfl⟩)
  go_ret
  exact ⟨rfl, rfl⟩
theorem conv1 (c : UInt8) (n : Int) (hn : n = (c.toNat : Int)) (W : World) : (convert 31 9 (.slice (some ⟨W.heap.size, 0, none⟩) 1 1)).run Tryd.prog (W.alloc (.cells #[.int .u8 n] 5)) = .ok (.string ⟨#[c]⟩) (W.alloc (.cells #[.int .u8 n] 5)) :=
  run_convert_bytes_back _ 31 9 5 ⟨W.heap.size, 0, none⟩ 1 [c] Tryd.underlying31 Tryd.underlying5 Tryd.underlying9 (fun j hj => by
    obtain rfl : j = 0 := by simp at hj; omega
    simp [Addr.add, hn])
theorem dec_any (d : Int) (w : World) (h0 : 0 ≤ d) (h3 : d ≤ 3) :
    Calls Tryd.prog 77 #[.int .i64 d] w fun e w' => e = .returned (.string (digB d)) ∧ Below w.heap.size w w' := by
  obtain rfl | rfl | rfl | rfl : d = 0 ∨ d = 1 ∨ d = 2 ∨ d = 3 := by omega
  · go_enter Tryd.func77, Tryd.ntmps77
    go_wp2
    go_ret
    exact ⟨rfl, Below.refl _ _⟩
  · go_enter Tryd.func77, Tryd.ntmps77
    go_wp2
    go_loopw [0, 4] (fun n o wr => ((n = .int .i64 1 ∧ o = .string ⟨#[]⟩) ∨ (n = .int .i64 0 ∧ o = .string (digB 1))) ∧ Below w.heap.size w wr) (fun n _ _ => (intOf n).toNat)
    case atStart => exact ⟨.inl ⟨rfl, rfl⟩, Below.refl _ _⟩
    case round =>
      obtain ⟨⟨rfl, rfl⟩ | ⟨rfl, rfl⟩, hb⟩ := hrel
      · have hcv := conv1 49 49 rfl wr
        go_wp2
        go_roundw
        case rel => exact ⟨.inr ⟨rfl, rfl⟩, hb.alloc hb.size _⟩
        case measure => simp [intOf]
      · go_wp2
        go_ret
        exact ⟨rfl, hb⟩
  · go_enter Tryd.func77, Tryd.ntmps77
    go_wp2
    go_loopw [0, 4] (fun n o wr => ((n = .int .i64 2 ∧ o = .string ⟨#[]⟩) ∨ (n = .int .i64 0 ∧ o = .string (digB 2))) ∧ Below w.heap.size w wr) (fun n _ _ => (intOf n).toNat)
    case atStart => exact ⟨.inl ⟨rfl, rfl⟩, Below.refl _ _⟩
    case round =>
      obtain ⟨⟨rfl, rfl⟩ | ⟨rfl, rfl⟩, hb⟩ := hrel
      · have hcv := conv1 50 50 rfl wr
        go_wp2
        go_roundw
        case rel => exact ⟨.inr ⟨rfl, rfl⟩, hb.alloc hb.size _⟩
        case measure => simp [intOf]
      · go_wp2
        go_ret
        exact ⟨rfl, hb⟩
  · go_enter Tryd.func77, Tryd.ntmps77
    go_wp2
    go_loopw [0, 4] (fun n o wr => ((n = .int .i64 3 ∧ o = .string ⟨#[]⟩) ∨ (n = .int .i64 0 ∧ o = .string (digB 3))) ∧ Below w.heap.size w wr) (fun n _ _ => (intOf n).toNat)
    case atStart => exact ⟨.inl ⟨rfl, rfl⟩, Below.refl _ _⟩
    case round =>
      obtain ⟨⟨rfl, rfl⟩ | ⟨rfl, rfl⟩, hb⟩ := hrel
      · have hcv := conv1 51 51 rfl wr
        go_wp2
        go_roundw
        case rel => exact ⟨.inr ⟨rfl, rfl⟩, hb.alloc hb.size _⟩
        case measure => simp [intOf]
      · go_wp2
        go_ret
        exact ⟨rfl, hb⟩

def tb (s : Int) (k : Nat) : Bool := bits BinOp.and IntKind.i64 (if k = 0 then s else if k = 1 then s / 2 else s / 4) 1 == 1
theorem tb0 (s : Int) : (bits BinOp.and IntKind.i64 s 1 == 1) = tb s 0 := rfl
theorem tb1 (s : Int) : (bits BinOp.and IntKind.i64 (s / 2) 1 == 1) = tb s 1 := rfl
theorem tb2 (s : Int) : (bits BinOp.and IntKind.i64 (s / 4) 1 == 1) = tb s 2 := rfl
def letB (k : Nat) : ByteArray := ⟨#[UInt8.ofNat (97 + k)]⟩
theorem enc0 : Utf8.encode 97 = letB 0 := by kernel_rfl
theorem enc1 : Utf8.encode 98 = letB 1 := by kernel_rfl
theorem enc2 : Utf8.encode 99 = letB 2 := by kernel_rfl
theorem let_size (k : Nat) : (letB k).size ≤ 1 := Nat.le_refl 1
/-- the text of the level and of the categories below k -/
def txt (l s : Int) : Nat → ByteArray
  | 0 => digB l ++ ⟨#[58]⟩
  | k + 1 => if tb s k = true then txt l s k ++ letB k else txt l s k
theorem txt_size (l s : Int) : ∀ k, (txt l s k).size ≤ 2 + k
  | 0 => by
    have h1 : (digB l).size ≤ 1 := Nat.le_refl 1
    have h2 : (⟨#[58]⟩ : ByteArray).size ≤ 1 := Nat.le_refl 1
    rw [txt, ByteArray.size_append]; omega
  | k + 1 => by
    have h := txt_size l s k
    have h1 := let_size k
    rw [txt]
    split
    · rw [ByteArray.size_append]; omega
    · omega
theorem txt_yes {l s : Int} {k : Nat} (h : tb s k = true) : txt l s k ++ letB k = txt l s (k + 1) := by rw [txt, if_pos h]
theorem txt_no {l s : Int} {k : Nat} (h : tb s k = false) : txt l s k = txt l s (k + 1) := by rw [txt, if_neg (by simp [h])]
theorem idx0 (W : World) : (Instr.index 103 (.agg #[.int .i32 97, .int .i32 98, .int .i32 99]) (.int .i64 0)).run Tryd.prog W = .ok (.int .i32 97) W := by kernel_rfl
theorem idx1 (W : World) : (Instr.index 103 (.agg #[.int .i32 97, .int .i32 98, .int .i32 99]) (.int .i64 1)).run Tryd.prog W = .ok (.int .i32 98) W := by kernel_rfl
theorem idx2 (W : World) : (Instr.index 103 (.agg #[.int .i32 97, .int .i32 98, .int .i32 99]) (.int .i64 2)).run Tryd.prog W = .ok (.int .i32 99) W := by kernel_rfl
set_option maxHeartbeats 800000 in
theorem text_impl (l s : Int) (w : World) (h : rB l s = true) (h0 : 0 ≤ l) (h3 : l ≤ 3) (c0 : w.cell? ⟨0, 0, none⟩ = some (.int .i32 97)) (c1 : w.cell? ⟨0, 1, none⟩ = some (.int .i32 98)) (c2 : w.cell? ⟨0, 2, none⟩ = some (.int .i32 99)) :
    Calls Tryd.prog 28 #[lab l s] w fun e w' => e = .returned (.string (txt l s 3)) ∧ Below w.heap.size w w' := by
  unfold lab
  have hlt := World.block_lt_of_cell? w ⟨0, 0, none⟩ c0
  have hd : (digB l).size ≤ 1 := Nat.le_refl 1
  go_enter Tryd.func28, Tryd.ntmps28
  go_wp2_with (first | (go_at_call 40; refine (right_impl _ _ _).mono ?_; unfold labO; rintro e w1 ⟨rfl, rfl⟩) | (go_at_call 70; refine (fmt_any _ _ h0 h3).mono ?_; rintro e w' ⟨rfl, rfl⟩))
  go_loop [3, 14] (fun t i => ∃ k : Nat, k ≤ 3 ∧ i = .int .i64 k ∧ t = .string (txt l s k)) (fun _ i => 3 - (intOf i).toNat)
  case atStart => exact ⟨0, by omega, rfl, rfl⟩
  case round =>
    obtain ⟨k, hk, rfl, rfl⟩ := hrel
    have hz := txt_size l s k
    obtain rfl | rfl | rfl | rfl : k = 0 ∨ k = 1 ∨ k = 2 ∨ k = 3 := by omega
    · by_cases ht : tb s 0 = true
      · have hy := Lib.hid (txt_yes (l := l) ht)
        have ht' : (bits BinOp.and IntKind.i64 s 1 == 1) = true := ht
        clear ht
        have hi := idx0
        have he : (Utf8.encode 97).size ≤ 1 := Nat.le_refl 1
        go_wp2
        go_round
        case rel => exact ⟨1, by omega, rfl, by rw [← hy.out, enc0]⟩
        case measure => simp [intOf]
      · have ht1 : tb s 0 = false := by simpa using ht
        have hy := Lib.hid (txt_no (l := l) ht1)
        have ht' : (bits BinOp.and IntKind.i64 s 1 == 1) = false := ht1
        clear ht ht1
        have hi := idx0
        have he : (Utf8.encode 97).size ≤ 1 := Nat.le_refl 1
        go_wp2
        go_round
        case rel => exact ⟨1, by omega, rfl, by rw [hy.out]⟩
        case measure => simp [intOf]
    · by_cases ht : tb s 1 = true
      · have hy := Lib.hid (txt_yes (l := l) ht)
        have ht' : (bits BinOp.and IntKind.i64 (s / 2) 1 == 1) = true := ht
        clear ht
        have hi := idx1
        have he : (Utf8.encode 98).size ≤ 1 := Nat.le_refl 1
        go_wp2
        go_round
        case rel => exact ⟨2, by omega, rfl, by rw [← hy.out, enc1]⟩
        case measure => simp [intOf]
      · have ht1 : tb s 1 = false := by simpa using ht
        have hy := Lib.hid (txt_no (l := l) ht1)
        have ht' : (bits BinOp.and IntKind.i64 (s / 2) 1 == 1) = false := ht1
        clear ht ht1
        have hi := idx1
        have he : (Utf8.encode 98).size ≤ 1 := Nat.le_refl 1
        go_wp2
        go_round
        case rel => exact ⟨2, by omega, rfl, by rw [hy.out]⟩
        case measure => simp [intOf]
    · by_cases ht : tb s 2 = true
      · have hy := Lib.hid (txt_yes (l := l) ht)
        have ht' : (bits BinOp.and IntKind.i64 (s / 4) 1 == 1) = true := ht
        clear ht
        have hi := idx2
        have he : (Utf8.encode 99).size ≤ 1 := Nat.le_refl 1
        go_wp2
        go_round
        case rel => exact ⟨3, by omega, rfl, by rw [← hy.out, enc2]⟩
        case measure => simp [intOf]
      · have ht1 : tb s 2 = false := by simpa using ht
        have hy := Lib.hid (txt_no (l := l) ht1)
        have ht' : (bits BinOp.and IntKind.i64 (s / 4) 1 == 1) = false := ht1
        clear ht ht1
        have hi := idx2
        have he : (Utf8.encode 99).size ≤ 1 := Nat.le_refl 1
        go_wp2
        go_round
        case rel => exact ⟨3, by omega, rfl, by rw [hy.out]⟩
        case measure => simp [intOf]
    · go_wp2
      go_ret
      exact ⟨rfl, ((Below.refl _ _).alloc (Nat.le_refl _) _).alloc (by simp) _⟩

set_option maxHeartbeats 800000 in
theorem text_spec (l s : Int) (w : World) (h : rB l s = true) (h0 : 0 ≤ l) (h3 : l ≤ 3) :
    Calls Tryd.prog 36 #[lab l s] w fun e w' => e = .returned (.string (txt l s 3)) ∧ Below w.heap.size w w' := by
  unfold lab
  have hd : (digB l).size ≤ 1 := Nat.le_refl 1
  go_enter Tryd.func36, Tryd.ntmps36
  go_wp2_with (first | (go_at_call 41; refine (right_spec _ _ _).mono ?_; unfold labO; rintro e w1 ⟨rfl, rfl⟩) | (go_at_call 77; refine (dec_any _ _ h0 h3).mono ?_; rintro e w1 ⟨rfl, hb⟩; have ⟨c0, c1, _⟩ := cells2 hb (B := w.heap.size) (a := .int .i64 l) (b := .int .i64 s) (by simp) (by simp); have HB := Lib.hid hb; clear hb))
  go_loop [3, 5] (fun t i => ∃ k : Nat, k ≤ 3 ∧ i = .int .i64 k ∧ t = .string (txt l s k)) (fun _ i => 3 - (intOf i).toNat)
  case atStart => exact ⟨0, by omega, rfl, rfl⟩
  case round =>
    obtain ⟨k, hk, rfl, rfl⟩ := hrel
    have hz := txt_size l s k
    obtain rfl | rfl | rfl | rfl : k = 0 ∨ k = 1 ∨ k = 2 ∨ k = 3 := by omega
    · by_cases ht : tb s 0 = true
      · have hy := Lib.hid (txt_yes (l := l) ht)
        have ht' : (bits BinOp.and IntKind.i64 s 1 == 1) = true := ht
        clear ht
        go_wp2
        go_round
        case rel => exact ⟨1, by omega, rfl, by (rw [← hy.out]; rfl)⟩
        case measure => simp [intOf]
      · have ht1 : tb s 0 = false := by simpa using ht
        have hy := Lib.hid (txt_no (l := l) ht1)
        have ht' : (bits BinOp.and IntKind.i64 s 1 == 1) = false := ht1
        clear ht ht1
        go_wp2
        go_round
        case rel => exact ⟨1, by omega, rfl, by rw [hy.out]⟩
        case measure => simp [intOf]
    · by_cases ht : tb s 1 = true
      · have hy := Lib.hid (txt_yes (l := l) ht)
        have ht' : (bits BinOp.and IntKind.i64 (s / 2) 1 == 1) = true := ht
        clear ht
        go_wp2
        go_round
        case rel => exact ⟨2, by omega, rfl, by (rw [← hy.out]; rfl)⟩
        case measure => simp [intOf]
      · have ht1 : tb s 1 = false := by simpa using ht
        have hy := Lib.hid (txt_no (l := l) ht1)
        have ht' : (bits BinOp.and IntKind.i64 (s / 2) 1 == 1) = false := ht1
        clear ht ht1
        go_wp2
        go_round
        case rel => exact ⟨2, by omega, rfl, by rw [hy.out]⟩
        case measure => simp [intOf]
    · by_cases ht : tb s 2 = true
      · have hy := Lib.hid (txt_yes (l := l) ht)
        have ht' : (bits BinOp.and IntKind.i64 (s / 4) 1 == 1) = true := ht
        clear ht
        go_wp2
        go_round
        case rel => exact ⟨3, by omega, rfl, by (rw [← hy.out]; rfl)⟩
        case measure => simp [intOf]
      · have ht1 : tb s 2 = false := by simpa using ht
        have hy := Lib.hid (txt_no (l := l) ht1)
        have ht' : (bits BinOp.and IntKind.i64 (s / 4) 1 == 1) = false := ht1
        clear ht ht1
        go_wp2
        go_round
        case rel => exact ⟨3, by omega, rfl, by rw [hy.out]⟩
        case measure => simp [intOf]
    · go_wp2
      go_ret
      exact ⟨rfl, (((Below.refl _ _).alloc (Nat.le_refl _) _).alloc (by simp) _).trans (HB.out.mono (by simp; omega))⟩
end Go.Proofs.YtdimpopkkjpddaaDoor.LabC
