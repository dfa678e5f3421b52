/- DeskWords, in the program and in its model: contracts. -/
import Derived.Test.YtphklknaagjmpaaGreatDoorStrS
import Derived.Laws.EntriesVeiled
namespace Go.Proofs.YtphklknaagjmpaaGreatDoor.StrC
open Go.RowKit RowC ValC
set_option linter.unusedSimpArgs false
set_option linter.unusedVariables false

def wordOf (k : Nat) : ByteArray := #[(⟨#[100, 111, 110, 101]⟩ : ByteArray), ⟨#[104, 111, 108, 100]⟩, ⟨#[112, 108, 97, 110]⟩, ⟨#[115, 101, 101]⟩, ⟨#[115, 117, 98, 109, 105, 116]⟩, ⟨#[116, 105, 99, 107]⟩, ⟨#[119, 97, 105, 116]⟩].getD k ⟨#[]⟩
set_option maxRecDepth 100000 in
set_option maxHeartbeats 1600000 in
theorem words_spec (w : World) :
    Calls Tryz.prog 16 #[] w fun e w' => ∃ v, e = .returned v ∧ StrV 7 wordOf w' (Rg w.heap.size w'.heap.size) v ∧ Below w.heap.size w w' := by
  go_enter Tryz.func16, Tryz.ntmps16
  go_wp2
  go_ret
  refine ⟨_, rfl, ⟨fun k hk => hk.2, _, _, rfl, by omega, fun _ => ⟨w.heap.size, rfl, ⟨Nat.le_refl _, by simp⟩, fun j hj => ?_, fun j => by simp⟩⟩, (Below.refl _ _).alloc (Nat.le_refl _) _⟩
  have : j = 0 ∨ j = 1 ∨ j = 2 ∨ j = 3 ∨ j = 4 ∨ j = 5 ∨ j = 6 := by omega
  rcases this with rfl | rfl | rfl | rfl | rfl | rfl | rfl <;> simp [wordOf]
/-- the table's rows: the word, what stands behind it, the action -/
def rowOf (k : Nat) : Int × Int × Int × Nat := #[((1 : Int), (1 : Int), (999999999 : Int), 56), (1, 1, 999999999, 57), (1, 0, 0, 58), (1, 0, 0, 59), (1, 3, 999999999, 60), (0, 1, 30, 61), (1, 1, 999999999, 62)].getD k (0, 0, 0, 0)
def Table (W : World) (g : Nat) : Prop := ∀ k, k < 7 → W.cell? ⟨g, k * 5, none⟩ = some (.string (wordOf k)) ∧ W.cell? ⟨g, k * 5 + 1, none⟩ = some (.int .i64 (rowOf k).1) ∧ W.cell? ⟨g, k * 5 + 2, none⟩ = some (.int .i64 (rowOf k).2.1) ∧ W.cell? ⟨g, k * 5 + 3, none⟩ = some (.int .i64 (rowOf k).2.2.1) ∧ W.cell? ⟨g, k * 5 + 4, none⟩ = some (.func (.func (rowOf k).2.2.2) #[] #[])
theorem Table.below {W W' : World} {g : Nat} (h : Table W g) (hg : g < W.heap.size) (hb : Below W.heap.size W W') : Table W' g := fun k hk => by
  obtain ⟨h0, h1, h2, h3, h4⟩ := h k hk
  exact ⟨(hb.cell (p := ⟨g, _, none⟩) hg).trans h0, (hb.cell (p := ⟨g, _, none⟩) hg).trans h1, (hb.cell (p := ⟨g, _, none⟩) hg).trans h2, (hb.cell (p := ⟨g, _, none⟩) hg).trans h3, (hb.cell (p := ⟨g, _, none⟩) hg).trans h4⟩
set_option maxRecDepth 100000 in
set_option maxHeartbeats 1600000 in
theorem table_impl (w : World) :
    Calls Tryz.prog 34 #[] w fun e w' => e = .returned (.slice (some ⟨w.heap.size, 0, none⟩) 7 7) ∧ Table w' w.heap.size ∧ w.heap.size < w'.heap.size ∧ Below w.heap.size w w' := by
  go_enter Tryz.func34, Tryz.ntmps34
  go_wp2
  go_ret
  refine ⟨rfl, fun k hk => ?_, by simp, (Below.refl _ _).alloc (Nat.le_refl _) _⟩
  have : k = 0 ∨ k = 1 ∨ k = 2 ∨ k = 3 ∨ k = 4 ∨ k = 5 ∨ k = 6 := by omega
  rcases this with rfl | rfl | rfl | rfl | rfl | rfl | rfl <;> simp [wordOf, rowOf]
theorem infoStr : ∃ i, Tryz.prog.info? 9 = some i ∧ i.zero = some (.string ⟨#[]⟩) ∧ i.size = 1 ∧ i.bytes = 16 := by
  have h : (Tryz.prog.info? 9).map (fun i => (i.zero, i.size, i.bytes)) = some (some (.string ⟨#[]⟩), 1, 16) := by kernel_rfl
  cases hx : Tryz.prog.info? 9 with
  | none => rw [hx] at h; simp at h
  | some i => rw [hx] at h; simp at h; exact ⟨i, rfl, h.1, h.2.1, h.2.2⟩
set_option maxRecDepth 100000 in
set_option maxHeartbeats 1600000 in
theorem words_impl (w : World) :
    Calls Tryz.prog 17 #[] w fun e w' => ∃ v, e = .returned v ∧ StrV 7 wordOf w' (Rg w.heap.size w'.heap.size) v ∧ Below w.heap.size w w' := by
  go_enter Tryz.func17, Tryz.ntmps17
  go_wp2_with fail
  refine (table_impl w).mono ?_
  rintro e w1 ⟨rfl, hT, hlt, hb⟩
  have HT := Lib.hid hT
  have HB1 := Lib.hid hb
  clear hT hb
  go_wp2_with fail
  go_loopw [6, 1] (fun i v wr => ∃ (k : Nat) (a : Option Addr) (c : Nat), k ≤ 7 ∧ i = .int .i64 k ∧ v = .slice a k c ∧ Hid (RowO wr w1.heap.size 9 1 (.slice a k c) k (fun j => .string (wordOf j))) ∧ Hid (Below w1.heap.size w1 wr)) (fun i _ _ => 7 - (intOf i).toNat)
  case atStart => exact ⟨0, none, 0, by omega, rfl, rfl, Lib.hid (RowO.nil _ _ _ _ _), Lib.hid (Below.refl _ _)⟩
  case round =>
    obtain ⟨k, a, c, hk, rfl, rfl, HV, HB⟩ := hrel
    by_cases hlt7 : k < 7
    · obtain ⟨c0, c1, c2, c3, c4⟩ := (HT.out.below hlt HB.out) k hlt7
      have hi0 : (0 : Int) ≤ (k : Int) := Int.natCast_nonneg _
      have hi1 : (k : Int) < 7 := by omega
      have hd : decide ((k : Int) < 7) = true := decide_eq_true hi1
      have hsz := HB.out.size
      obtain ⟨i, hi, hz, hs, hby⟩ := infoStr
      obtain ⟨v', W', hr, hown, hbel, hg, hat⟩ := run_app (P := Tryz.prog) ((wr.alloc (.cells #[.string (wordOf k), .int .i64 (rowOf k).1, .int .i64 (rowOf k).2.1, .int .i64 (rowOf k).2.2.1, .func (.func (rowOf k).2.2.2) #[] #[]] 83)).alloc (.cells #[.string (wordOf k)] 9)) w1.heap.size 27 27 9 i _ 1 16 Tryz.underlying27 hi hz hs hby rfl (by omega) (.slice a k c) k (fun j => .string (wordOf j)) ((HV.out.alloc _).alloc _) (wr.heap.size + 1) 0 1 1 (fun _ => .string (wordOf k))
        (fun j hj => by obtain rfl : j = 0 := by omega
                        simp) (fun j _ => rfl) (by unfold maxLen; omega) (by omega) (by simp; omega)
      obtain ⟨a', c', rfl⟩ := hown.isSlice
      have HR := Lib.hid hr
      have HV2 := Lib.hid (show RowO W' w1.heap.size 9 1 (.slice a' (k + 1) c') (k + 1) (fun j => .string (wordOf j)) from hown.congr (fun j hj => by
        by_cases e : j < k * 1
        · rw [if_pos e]
        · rw [if_neg e]; obtain rfl : j = k := by omega
          rfl))
      have HB2 := Lib.hid (((HB.out.alloc (by omega) (.cells #[.string (wordOf k), .int .i64 (rowOf k).1, .int .i64 (rowOf k).2.1, .int .i64 (rowOf k).2.2.1, .func (.func (rowOf k).2.2.2) #[] #[]] 83)).alloc (by simp; omega) (.cells #[.string (wordOf k)] 9)).trans hbel)
      clear hi hz hs hby hr hown hbel hg hat
      go_wp2_with (at_builtin; refine wpList_app rfl (.tmp 10) (.tmp 13) 27 rfl rfl rfl HR.out ?_)
      go_roundw
      case rel => exact ⟨k + 1, a', c', by omega, by go_num, rfl, HV2, HB2⟩
      case measure => simp [intOf]; omega
    · obtain rfl : k = 7 := by omega
      go_wp2
      go_ret
      exact ⟨_, rfl, (RowV.of_own (HV.out.lower (by have := HB1.out.size; exact this))), HB1.out.trans (HB.out.mono HB1.out.size)⟩
end Go.Proofs.YtphklknaagjmpaaGreatDoor.StrC
