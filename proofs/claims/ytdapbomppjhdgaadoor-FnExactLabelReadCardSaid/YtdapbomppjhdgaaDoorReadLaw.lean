/- The law on LabelRead, out of the contracts. -/
import Derived.Test.YtdapbomppjhdgaaDoorReadMath
namespace Go.Proofs.YtdapbomppjhdgaaDoor.LabC
open Go.RowKit KeptC

theorem eq_lab (l s : Int) (w : World) : Calls Tryd.prog 41 #[.agg #[.int .i64 l, .int .i64 s], .agg #[.int .i64 l, .int .i64 s]] w fun e w' => e = .returned (.bool true) ∧ Below w.heap.size w w' := by
  go_enter Tryd.func41, Tryd.ntmps41
  go_wp2
  all_goals
    go_ret
    exact ⟨rfl, ((Below.refl _ _).alloc (Nat.le_refl _) _).alloc (by simp) _⟩
theorem cells3 {W w1 : World} {B : Nat} {a b c : Value} (hb : Below W.heap.size W w1) (h0 : W.cell? ⟨B, 0, none⟩ = some a) (h1 : W.cell? ⟨B, 1, none⟩ = some b) (h2 : W.cell? ⟨B, 2, none⟩ = some c) :
    w1.cell? ⟨B, 0, none⟩ = some a ∧ w1.cell? ⟨B, 1, none⟩ = some b ∧ w1.cell? ⟨B, 2, none⟩ = some c := by
  have hlt := World.block_lt_of_cell? W ⟨B, 0, none⟩ h0
  exact ⟨(hb.cell hlt).trans h0, (hb.cell (p := ⟨B, 1, none⟩) hlt).trans h1, (hb.cell (p := ⟨B, 2, none⟩) hlt).trans h2⟩
theorem eq_out (l s c : Int) (w : World) : Calls Tryd.prog 26 #[.agg #[.int .i64 l, .int .i64 s, .int .i64 c], .agg #[.int .i64 l, .int .i64 s, .int .i64 c]] w fun e w' => e = .returned (.bool true) ∧ Below w.heap.size w w' := by
  go_enter Tryd.func26, Tryd.ntmps26
  go_wp2_with (go_at_call 41; refine (eq_lab _ _ _).mono ?_; rintro e w1 ⟨rfl, hb⟩; have ⟨c0, c1, c2⟩ := cells3 hb (B := w.heap.size) (a := .int .i64 l) (b := .int .i64 s) (c := .int .i64 c) (by simp) (by simp) (by simp); have ⟨d0, d1, d2⟩ := cells3 hb (B := w.heap.size + 1) (a := .int .i64 l) (b := .int .i64 s) (c := .int .i64 c) (by simp) (by simp) (by simp); have HB := Lib.hid ((((Below.refl _ w).alloc (Nat.le_refl _) _).alloc (by simp) _).trans (hb.mono (by simp; omega))); clear hb)
  all_goals
    go_ret
    exact ⟨rfl, HB.out⟩

set_option maxHeartbeats 1600000 in
theorem law_read (t : ByteArray) (ht : t.size ≤ maxLen) (w : World) (hD : Door w) :
    Calls Tryd.prog 5 #[.string t] w fun e w' => e = .returned (.bool true) ∧ Below w.heap.size w w' := by
  unfold maxLen at ht
  have HD := Lib.hid hD
  have h0 := hD.lt
  clear hD
  by_cases hz : t.size ≤ 1048576
  · go_enter Tryd.func5, Tryd.ntmps5
    go_wp2_with fail
    refine (read_spec t _ hz).mono ?_
    intro e w1 h1
    obtain ⟨l, s, c, rfl, hP, hB⟩ := readR_elim h1
    have HP := Lib.hid hP
    have HB1 := Lib.hid hB
    have hs1 := hB.size
    clear h1 hP hB
    go_wp2_with fail
    refine (read_impl t _ hz (HD.out.below (w := w) (HB1.out.alloc hs1 _) h0)).mono ?_
    intro e w2 h2
    obtain ⟨l', s', c', rfl, hP', hB⟩ := readR_elim h2
    obtain ⟨rfl, rfl, rfl⟩ := read_one HP.out hP'
    have ⟨c0, c1, c2⟩ := cells3 hB (B := w1.heap.size) (a := .int .i64 l) (b := .int .i64 s) (c := .int .i64 c) (by simp) (by simp) (by simp)
    have hs2 : w1.heap.size < w2.heap.size := by have := hB.size; simp at this; omega
    have HB2 := Lib.hid ((HB1.out.alloc hs1 _).trans (hB.mono (by simp; omega)))
    clear h2 hP' hB HP
    go_wp2_with fail
    refine (eq_out _ _ _ _).mono ?_
    rintro e w3 ⟨rfl, hB⟩
    have HB3 := Lib.hid ((HB2.out.alloc (by omega) _).trans (hB.mono (by simp; omega)))
    clear hB
    go_wp2
    all_goals
      go_ret
      exact ⟨rfl, HB3.out⟩
  · go_enter Tryd.func5, Tryd.ntmps5
    go_wp2
    go_ret
    exact ⟨rfl, Below.refl _ _⟩
end Go.Proofs.YtdapbomppjhdgaaDoor.LabC
