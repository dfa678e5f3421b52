/- PutNum and the functions that it calls, in the program and in its model: contracts. -/
import Derived.Test.YtdimpopkkjpddaaDoorProg
import Derived.Test.YtdimpopkkjpddaaDoorPutMath
import Derived.WalkKit
import Derived.ProofKit
import Derived.Below
import Derived.LoopTactic
import Derived.BigQuiet
import Derived.Deep.QuietTactic
import Derived.WalkSpells
import Derived.WalkLawsBesides
import Derived.Lib.Hide
import Derived.OwnWalk
import Derived.OpenShut
import Derived.Laws.IdiomStrings
namespace Go.Proofs.YtdimpopkkjpddaaDoor.PutC
open Go.RowKit PutM

theorem info_u8 : (Tryd.prog.info? 5).map (fun i => (i.zero, i.size, i.bytes)) = some (some (.int .u8 0), 1, 1) := by kernel_rfl
theorem ret_u64 {a b : Int} (h : a = b) : Ending.returned (.int .u64 a) = .returned (.int .u64 b) := by rw [h]
theorem ret_str {a b : ByteArray} (h : a = b) : Ending.returned (.string a) = .returned (.string b) := by rw [h]

theorem fold_spec (n : Int) (w : World) (hn : -9223372036854775808 ≤ n) (hn2 : n ≤ 9223372036854775807) :
    Calls Tryd.prog 112 #[.int .i64 n] w fun e w' => e = .returned (.int .u64 (foldN n)) ∧ w = w' := by
  by_cases h : 0 ≤ n
  · have H := Lib.hid (foldN_pos h)
    go_enter Tryd.func112, Tryd.ntmps112
    go_wp2
    go_ret
    exact ⟨ret_u64 H.out, rfl⟩
  · have H := Lib.hid (foldN_neg h)
    go_enter Tryd.func112, Tryd.ntmps112
    go_wp2
    go_ret
    exact ⟨ret_u64 H.out, rfl⟩
/-- a slice of bytes of the call's own -/
def Own (B : Nat) (w : World) (v : Value) (l : List UInt8) : Prop := w.ownsRow B 5 1 v l.length (l.map fun c => .int .u8 (c.toNat : Int))

theorem one_cell (w : World) (v : Value) : ∀ j u, [v][j]? = some u → (w.alloc (.cells #[v] 5)).cell? ((⟨w.heap.size, 0, none⟩ : Addr).add j) = some u := by
  intro j u hj
  match j, hj with
  | 0, hj => simp at hj; subst hj; simp [Addr.add]

theorem one_map (l : List UInt8) (c : UInt8) : (l.map fun c => Value.int .u8 (c.toNat : Int)) ++ [Value.int .u8 (c.toNat : Int)] = (l ++ [c]).map fun c => Value.int .u8 (c.toNat : Int) := by simp

theorem conv_of_own {B : Nat} {w : World} {v : Value} {l : List UInt8} (h : w.ownsRow B 5 1 v l.length (l.map fun c => Value.int .u8 (c.toNat : Int))) (hne : l ≠ []) :
    (convert 31 9 v).run Tryd.prog w = .ok (.string (bytesOf l)) w := by
  have hc := fun g hg j u hj => World.ownsRow.cells h (g := g) hg j u hj
  rcases h with ⟨_, ⟨_, hn⟩ | ⟨g, cap, cur, rfl, _⟩⟩
  · exact absurd (List.length_eq_zero_iff.1 hn) hne
  · exact run_convert_bytes_back w 31 9 5 ⟨g, 0, none⟩ cap l Tryd.underlying31 Tryd.underlying5 Tryd.underlying9 (fun j hj => hc g rfl j _ (by simp [List.getElem?_eq_getElem hj]))

set_option maxRecDepth 100000 in
set_option maxHeartbeats 800000 in
theorem put_spec (n : Int) (w : World) (hn : -9223372036854775808 ≤ n) (hn2 : n ≤ 9223372036854775807) :
    Calls Tryd.prog 99 #[.int .i64 n] w fun e w' => e = .returned (.string (encB n)) ∧ Below w.heap.size w w' := by
  have hf := foldN_lt hn hn2
  have Hn := Lib.hid (And.intro hn hn2)
  have He : Hid (encB n = bytesOf (enc (foldN n))) := Lib.hid rfl
  obtain ⟨i0, hi, hz0, hz1, hz2⟩ := info_parts info_u8
  have H0 := Lib.hid hi
  have H1 := Lib.hid hz0
  have H2 := Lib.hid hz1
  have H3 := Lib.hid hz2
  clear hi hz0 hz1 hz2 hn hn2
  go_enter Tryd.func99, Tryd.ntmps99
  go_wp2_with (go_at_call 112; refine (fold_spec _ _ Hn.out.1 Hn.out.2).mono ?_; rintro e w' ⟨rfl, rfl⟩)
  generalize foldN n = u at *
  go_loopw [3, 4] (fun x v wr => ∃ (z : Nat) (l : List UInt8), x = .int .u64 (z : Int) ∧ z < 18446744073709551616 ∧ l ++ enc z = enc u ∧ Own w.heap.size wr v l ∧ Below w.heap.size w wr) (fun x _ _ => (intOf x).toNat)
  case atStart => exact ⟨u, [], rfl, hf, rfl, World.ownsRow_made _ _ _ (Nat.le_refl _) (by decide) (by simp), (Below.refl _ _).alloc (Nat.le_refl _) _⟩
  case round =>
    obtain ⟨z, l, rfl, hz, he, hown, hb⟩ := hrel
    have hl := len_le he hz hf
    have HE := Lib.hid he
    have HO := Lib.hid hown
    clear he hown
    by_cases hlt : z < 128
    · have Hs := Lib.hid (step_lt HE.out hlt)
      have Hz := Lib.hid (ofNat_toNat (u := z) (by omega))
      go_wp2_with (at_builtin; refine wpList_append_own _ rfl _ _ 31 rfl w.heap.size 5 i0 (.int .u8 0) 1 1 Tryd.underlying31 H0.out H1.out H2.out H3.out rfl (by decide) _ _ _ rfl (World.ownsRow.alloc HO.out _) ⟨wr.heap.size, 0, none⟩ 1 1 [_] rfl rfl (cell_one_new _ _ _) ?c1 ?c2 ?c3 ?c4 ?_)
      case c1 => intro x hx; simp at hx; subst hx; rfl
      case c2 => unfold maxLen; omega
      case c3 => omega
      case c4 => have := hb.size; simp; omega
      · intro v' w1 hown' hgrow _
        have hB := Below.grown (hb.alloc hb.size _) hgrow (by have := hb.size; simp; omega) (fun k hk => (World.ownsRow.lt HO.out k hk).1)
        rw [← Hz.out, one_map] at hown'
        have hl2 : (l ++ [UInt8.ofNat z]).length = l.length + 1 := by simp
        rw [← hl2] at hown'
        have hconv := conv_of_own hown' (by simp)
        rw [Hs.out] at hconv
        have HB := Lib.hid hB
        clear hown' hgrow hB hl2 hb
        go_wp2
        go_ret
        exact ⟨ret_str He.out.symm, HB.out⟩
    · have Hs := Lib.hid (step_ge HE.out hlt)
      have Hz := Lib.hid (ofNat_toNat (u := z % 128 + 128) (by omega))
      go_wp2_with (at_builtin; refine wpList_append_own _ rfl _ _ 31 rfl w.heap.size 5 i0 (.int .u8 0) 1 1 Tryd.underlying31 H0.out H1.out H2.out H3.out rfl (by decide) _ _ _ rfl (World.ownsRow.alloc HO.out _) ⟨wr.heap.size, 0, none⟩ 1 1 [_] rfl rfl (cell_one_new _ _ _) ?c1 ?c2 ?c3 ?c4 ?_)
      case c1 => intro x hx; simp at hx; subst hx; rfl
      case c2 => unfold maxLen; omega
      case c3 => omega
      case c4 => have := hb.size; simp; omega
      · intro v' w1 hown' hgrow _
        have hB := Below.grown (hb.alloc hb.size _) hgrow (by have := hb.size; simp; omega) (fun k hk => (World.ownsRow.lt HO.out k hk).1)
        have e1 : ((z : Int) % 128 + 128) = ((z % 128 + 128 : Nat) : Int) := by omega
        rw [e1, ← Hz.out, one_map] at hown'
        have hl2 : (l ++ [UInt8.ofNat (z % 128 + 128)]).length = l.length + 1 := by simp
        rw [← hl2] at hown'
        have HB := Lib.hid hB
        have HW := Lib.hid hown'
        clear hown' hgrow hB hl2 hb e1
        go_wp2
        go_roundw
        case rel => exact ⟨z / 128, l ++ [UInt8.ofNat (z % 128 + 128)], by go_num, by omega, Hs.out, HW.out, HB.out⟩
        case measure => simp [intOf]; omega

/-- the array of ten bytes, its first cells written -/
def Row (B : Nat) (wr : World) (l : List UInt8) : Prop :=
  (∀ j, (h : j < l.length) → wr.cell? ⟨B, j, none⟩ = some (.int .u8 (l[j].toNat : Int))) ∧ (∀ j, j < 10 → ∃ v, wr.cell? ⟨B, j, none⟩ = some v) ∧ (∀ j, wr.frozen? ⟨B, j, none⟩ = false)
theorem row_store {B : Nat} {wr : World} {l : List UInt8} (h : Row B wr l) (hl : l.length ≤ 9) (c : UInt8) : Row B (wr.setCell ⟨B, l.length, none⟩ (.int .u8 (c.toNat : Int))) (l ++ [c]) := by
  obtain ⟨h1, h2, h3⟩ := h
  refine ⟨?_, ?_, ?_⟩
  · intro j hj
    by_cases e : j = l.length
    · subst e
      obtain ⟨v, hv⟩ := h2 l.length (by omega)
      rw [World.cell?_setCell_same _ _ _ hv]
      simp
    · have hj2 : j < l.length := by simp at hj; omega
      rw [World.cell?_setCell_other _ _ _ _ (by simp <;> omega), h1 j hj2]
      simp [List.getElem_append_left hj2]
  · intro j hj
    by_cases e : j = l.length
    · subst e
      obtain ⟨v, hv⟩ := h2 l.length (by omega)
      exact ⟨_, World.cell?_setCell_same _ _ _ hv⟩
    · obtain ⟨v, hv⟩ := h2 j hj
      exact ⟨v, by rw [World.cell?_setCell_other _ _ _ _ (by simp <;> omega), hv]⟩
  · intro j
    rw [World.frozen?_setCell]
    exact h3 j
theorem conv_row {B : Nat} {wr : World} {l : List UInt8} (h : Row B wr l) (cap : Nat) :
    (convert 31 9 (.slice (some ⟨B, 0, none⟩) l.length cap)).run Tryd.prog wr = .ok (.string (bytesOf l)) wr :=
  run_convert_bytes_back wr 31 9 5 ⟨B, 0, none⟩ cap l Tryd.underlying31 Tryd.underlying5 Tryd.underlying9 (fun j hj => by
    have := h.1 j hj
    cases j <;> simpa [Addr.add] using this)

end Go.Proofs.YtdimpopkkjpddaaDoor.PutC
