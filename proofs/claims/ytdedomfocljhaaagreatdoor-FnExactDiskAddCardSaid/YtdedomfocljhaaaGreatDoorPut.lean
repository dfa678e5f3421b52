/- PutNum and the functions that it calls, in the program and in its model: contracts. -/
import Derived.Test.YtdedomfocljhaaaGreatDoorProg
import Derived.Test.YtdedomfocljhaaaGreatDoorPutMath
import Derived.WalkKit
import Derived.ProofKit
import Derived.Below
import Derived.LoopTactic
import Derived.BigQuiet
import Derived.Deep.QuietTactic
import Derived.WalkSpells
import Derived.WalkLawsBesides
import Derived.Lib.Hide
import Derived.OwnWalk
import Derived.OpenShut
import Derived.Laws.IdiomStrings
namespace Go.Proofs.YtdedomfocljhaaaGreatDoor.PutC
open Go.RowKit PutM

theorem info_u8 : (Tryz.prog.info? 5).map (fun i => (i.zero, i.size, i.bytes)) = some (some (.int .u8 0), 1, 1) := by kernel_rfl
theorem ret_u64 {a b : Int} (h : a = b) : Ending.returned (.int .u64 a) = .returned (.int .u64 b) := by rw [h]
theorem ret_str {a b : ByteArray} (h : a = b) : Ending.returned (.string a) = .returned (.string b) := by rw [h]

theorem fold_spec (n : Int) (w : World) (hn : -9223372036854775808 ≤ n) (hn2 : n ≤ 9223372036854775807) :
    Calls Tryz.prog 68 #[.int .i64 n] w fun e w' => e = .returned (.int .u64 (foldN n)) ∧ w = w' := by
  by_cases h : 0 ≤ n
  · have H := Lib.hid (foldN_pos h)
    go_enter Tryz.func68, Tryz.ntmps68
    go_wp2
    go_ret
    exact ⟨ret_u64 H.out, rfl⟩
  · have H := Lib.hid (foldN_neg h)
    go_enter Tryz.func68, Tryz.ntmps68
    go_wp2
    go_ret
    exact ⟨ret_u64 H.out, rfl⟩
theorem fold_impl (n : Int) (w : World) (hn : -9223372036854775808 ≤ n) (hn2 : n ≤ 9223372036854775807) :
    Calls Tryz.prog 71 #[.int .i64 n] w fun e w' => e = .returned (.int .u64 (foldN n)) ∧ w = w' := by
  have H := Lib.hid (fold_bits hn hn2)
  go_enter Tryz.func71, Tryz.ntmps71
  go_wp2
  go_ret
  exact ⟨ret_u64 H.out, rfl⟩

/-- a slice of bytes of the call's own -/
def Own (B : Nat) (w : World) (v : Value) (l : List UInt8) : Prop := w.ownsRow B 5 1 v l.length (l.map fun c => .int .u8 (c.toNat : Int))

theorem one_cell (w : World) (v : Value) : ∀ j u, [v][j]? = some u → (w.alloc (.cells #[v] 5)).cell? ((⟨w.heap.size, 0, none⟩ : Addr).add j) = some u := by
  intro j u hj
  match j, hj with
  | 0, hj => simp at hj; subst hj; simp [Addr.add]

theorem one_map (l : List UInt8) (c : UInt8) : (l.map fun c => Value.int .u8 (c.toNat : Int)) ++ [Value.int .u8 (c.toNat : Int)] = (l ++ [c]).map fun c => Value.int .u8 (c.toNat : Int) := by simp

theorem conv_of_own {B : Nat} {w : World} {v : Value} {l : List UInt8} (h : w.ownsRow B 5 1 v l.length (l.map fun c => Value.int .u8 (c.toNat : Int))) (hne : l ≠ []) :
    (convert 90 9 v).run Tryz.prog w = .ok (.string (bytesOf l)) w := by
  have hc := fun g hg j u hj => World.ownsRow.cells h (g := g) hg j u hj
  rcases h with ⟨_, ⟨_, hn⟩ | ⟨g, cap, cur, rfl, _⟩⟩
  · exact absurd (List.length_eq_zero_iff.1 hn) hne
  · exact run_convert_bytes_back w 90 9 5 ⟨g, 0, none⟩ cap l Tryz.underlying90 Tryz.underlying5 Tryz.underlying9 (fun j hj => hc g rfl j _ (by simp [List.getElem?_eq_getElem hj]))

set_option maxRecDepth 100000 in
set_option maxHeartbeats 800000 in
theorem put_spec (n : Int) (w : World) (hn : -9223372036854775808 ≤ n) (hn2 : n ≤ 9223372036854775807) :
    Calls Tryz.prog 58 #[.int .i64 n] w fun e w' => e = .returned (.string (encB n)) ∧ Below w.heap.size w w' := by
  have hf := foldN_lt hn hn2
  have Hn := Lib.hid (And.intro hn hn2)
  have He : Hid (encB n = bytesOf (enc (foldN n))) := Lib.hid rfl
  obtain ⟨i0, hi, hz0, hz1, hz2⟩ := info_parts info_u8
  have H0 := Lib.hid hi
  have H1 := Lib.hid hz0
  have H2 := Lib.hid hz1
  have H3 := Lib.hid hz2
  clear hi hz0 hz1 hz2 hn hn2
  go_enter Tryz.func58, Tryz.ntmps58
  go_wp2_with (go_at_call 68; refine (fold_spec _ _ Hn.out.1 Hn.out.2).mono ?_; rintro e w' ⟨rfl, rfl⟩)
  generalize foldN n = u at *
  go_loopw [3, 4] (fun x v wr => ∃ (z : Nat) (l : List UInt8), x = .int .u64 (z : Int) ∧ z < 18446744073709551616 ∧ l ++ enc z = enc u ∧ Own w.heap.size wr v l ∧ Below w.heap.size w wr) (fun x _ _ => (intOf x).toNat)
  case atStart => exact ⟨u, [], rfl, hf, rfl, World.ownsRow_made _ _ _ (Nat.le_refl _) (by decide) (by simp), (Below.refl _ _).alloc (Nat.le_refl _) _⟩
  case round =>
    obtain ⟨z, l, rfl, hz, he, hown, hb⟩ := hrel
    have hl := len_le he hz hf
    have HE := Lib.hid he
    have HO := Lib.hid hown
    clear he hown
    by_cases hlt : z < 128
    · have Hs := Lib.hid (step_lt HE.out hlt)
      have Hz := Lib.hid (ofNat_toNat (u := z) (by omega))
      go_wp2_with (at_builtin; refine wpList_append_own _ rfl _ _ 90 rfl w.heap.size 5 i0 (.int .u8 0) 1 1 Tryz.underlying90 H0.out H1.out H2.out H3.out rfl (by decide) _ _ _ rfl (World.ownsRow.alloc HO.out _) ⟨wr.heap.size, 0, none⟩ 1 1 [_] rfl rfl (cell_one_new _ _ _) ?c1 ?c2 ?c3 ?c4 ?_)
      case c1 => intro x hx; simp at hx; subst hx; rfl
      case c2 => unfold maxLen; omega
      case c3 => omega
      case c4 => have := hb.size; simp; omega
      · intro v' w1 hown' hgrow _
        have hB := Below.grown (hb.alloc hb.size _) hgrow (by have := hb.size; simp; omega) (fun k hk => (World.ownsRow.lt HO.out k hk).1)
        rw [← Hz.out, one_map] at hown'
        have hl2 : (l ++ [UInt8.ofNat z]).length = l.length + 1 := by simp
        rw [← hl2] at hown'
        have hconv := conv_of_own hown' (by simp)
        rw [Hs.out] at hconv
        have HB := Lib.hid hB
        clear hown' hgrow hB hl2 hb
        go_wp2
        go_ret
        exact ⟨ret_str He.out.symm, HB.out⟩
    · have Hs := Lib.hid (step_ge HE.out hlt)
      have Hz := Lib.hid (ofNat_toNat (u := z % 128 + 128) (by omega))
      go_wp2_with (at_builtin; refine wpList_append_own _ rfl _ _ 90 rfl w.heap.size 5 i0 (.int .u8 0) 1 1 Tryz.underlying90 H0.out H1.out H2.out H3.out rfl (by decide) _ _ _ rfl (World.ownsRow.alloc HO.out _) ⟨wr.heap.size, 0, none⟩ 1 1 [_] rfl rfl (cell_one_new _ _ _) ?c1 ?c2 ?c3 ?c4 ?_)
      case c1 => intro x hx; simp at hx; subst hx; rfl
      case c2 => unfold maxLen; omega
      case c3 => omega
      case c4 => have := hb.size; simp; omega
      · intro v' w1 hown' hgrow _
        have hB := Below.grown (hb.alloc hb.size _) hgrow (by have := hb.size; simp; omega) (fun k hk => (World.ownsRow.lt HO.out k hk).1)
        have e1 : ((z : Int) % 128 + 128) = ((z % 128 + 128 : Nat) : Int) := by omega
        rw [e1, ← Hz.out, one_map] at hown'
        have hl2 : (l ++ [UInt8.ofNat (z % 128 + 128)]).length = l.length + 1 := by simp
        rw [← hl2] at hown'
        have HB := Lib.hid hB
        have HW := Lib.hid hown'
        clear hown' hgrow hB hl2 hb e1
        go_wp2
        go_roundw
        case rel => exact ⟨z / 128, l ++ [UInt8.ofNat (z % 128 + 128)], by go_num, by omega, Hs.out, HW.out, HB.out⟩
        case measure => simp [intOf]; omega

/-- the array of ten bytes, its first cells written -/
def Row (B : Nat) (wr : World) (l : List UInt8) : Prop :=
  (∀ j, (h : j < l.length) → wr.cell? ⟨B, j, none⟩ = some (.int .u8 (l[j].toNat : Int))) ∧ (∀ j, j < 10 → ∃ v, wr.cell? ⟨B, j, none⟩ = some v) ∧ (∀ j, wr.frozen? ⟨B, j, none⟩ = false)
theorem row_store {B : Nat} {wr : World} {l : List UInt8} (h : Row B wr l) (hl : l.length ≤ 9) (c : UInt8) : Row B (wr.setCell ⟨B, l.length, none⟩ (.int .u8 (c.toNat : Int))) (l ++ [c]) := by
  obtain ⟨h1, h2, h3⟩ := h
  refine ⟨?_, ?_, ?_⟩
  · intro j hj
    by_cases e : j = l.length
    · subst e
      obtain ⟨v, hv⟩ := h2 l.length (by omega)
      rw [World.cell?_setCell_same _ _ _ hv]
      simp
    · have hj2 : j < l.length := by simp at hj; omega
      rw [World.cell?_setCell_other _ _ _ _ (by simp <;> omega), h1 j hj2]
      simp [List.getElem_append_left hj2]
  · intro j hj
    by_cases e : j = l.length
    · subst e
      obtain ⟨v, hv⟩ := h2 l.length (by omega)
      exact ⟨_, World.cell?_setCell_same _ _ _ hv⟩
    · obtain ⟨v, hv⟩ := h2 j hj
      exact ⟨v, by rw [World.cell?_setCell_other _ _ _ _ (by simp <;> omega), hv]⟩
  · intro j
    rw [World.frozen?_setCell]
    exact h3 j
theorem row_new (w : World) : Row w.heap.size (w.alloc (.cells #[.int .u8 0, .int .u8 0, .int .u8 0, .int .u8 0, .int .u8 0, .int .u8 0, .int .u8 0, .int .u8 0, .int .u8 0, .int .u8 0] 103)) [] := by
  refine ⟨fun j h => absurd h (Nat.not_lt_zero _), ?_, ?_⟩
  · intro j hj
    rw [World.cell?_alloc_new]
    match j, hj with
    | 0, _ | 1, _ | 2, _ | 3, _ | 4, _ | 5, _ | 6, _ | 7, _ | 8, _ | 9, _ => exact ⟨_, rfl⟩
  · intro j
    exact World.frozen?_alloc_new _ _ _ _
theorem slice_at (B k : Nat) (hk : k + 1 ≤ 10) (wx : World) : (Instr.sliceAt 103 (.pointer (some ⟨B, 0, none⟩)) none (some (.int .i64 ((k : Int) + 1))) none).run Tryz.prog wx = .ok (.slice (some ⟨B, 0, none⟩) (k + 1) 10) wx := by
  have hu : Tryz.prog.underlying 103 = some (.array (Tryz.prog.arrayLen 103) (Tryz.prog.elem 103)) := by kernel_rfl
  have hl : Tryz.prog.arrayLen 103 = 10 := by kernel_rfl
  have hs : ∀ w, (sizeOf (Tryz.prog.elem 103)).run Tryz.prog w = .ok 1 w := fun _ => by kernel_rfl
  rw [run_sliceAt_array_h wx 103 _ hu .i64 _ (by omega) (by rw [hl]; omega), hs, hl]
  have e : ((k : Int) + 1).toNat = k + 1 := by omega
  rw [e]
  simp only [slicedAt, Result.andThen]
  simp [Addr.add]
theorem conv_row {B : Nat} {wr : World} {l : List UInt8} (h : Row B wr l) (cap : Nat) :
    (convert 90 9 (.slice (some ⟨B, 0, none⟩) l.length cap)).run Tryz.prog wr = .ok (.string (bytesOf l)) wr :=
  run_convert_bytes_back wr 90 9 5 ⟨B, 0, none⟩ cap l Tryz.underlying90 Tryz.underlying5 Tryz.underlying9 (fun j hj => by
    have := h.1 j hj
    cases j <;> simpa [Addr.add] using this)

set_option maxRecDepth 100000 in
set_option maxHeartbeats 800000 in
theorem put_impl (n : Int) (w : World) (hn : -9223372036854775808 ≤ n) (hn2 : n ≤ 9223372036854775807) :
    Calls Tryz.prog 65 #[.int .i64 n] w fun e w' => e = .returned (.string (encB n)) ∧ Below w.heap.size w w' := by
  have hf := foldN_lt hn hn2
  have Hn := Lib.hid (And.intro hn hn2)
  have He : Hid (encB n = bytesOf (enc (foldN n))) := Lib.hid rfl
  clear hn hn2
  go_enter Tryz.func65, Tryz.ntmps65
  go_wp2_with (go_at_call 71; refine (fold_impl _ _ Hn.out.1 Hn.out.2).mono ?_; rintro e w' ⟨rfl, rfl⟩)
  generalize foldN n = u at *
  go_loopw [4, 5] (fun x i wr => ∃ (z : Nat) (l : List UInt8), x = .int .u64 (z : Int) ∧ i = .int .i64 (l.length : Nat) ∧ z < 18446744073709551616 ∧ l ++ enc z = enc u ∧ Row w.heap.size wr l ∧ Below w.heap.size w wr) (fun x _ _ => (intOf x).toNat)
  case atStart => exact ⟨u, [], rfl, rfl, hf, rfl, row_new w, (Below.refl _ _).alloc (Nat.le_refl _) _⟩
  case round =>
    obtain ⟨z, l, rfl, rfl, hz, he, hrow, hb⟩ := hrel
    have hl := len_le he hz hf
    obtain ⟨v0, hv0⟩ := hrow.2.1 l.length (by omega)
    have hfr0 := hrow.2.2 l.length
    have HE := Lib.hid he
    have HR := Lib.hid hrow
    have HB := Lib.hid hb
    clear he hrow hb
    by_cases hlt : z < 128
    · have Hs := Lib.hid (step_lt HE.out hlt)
      have hrow2 := row_store HR.out hl (UInt8.ofNat z)
      rw [ofNat_toNat (by omega)] at hrow2
      have hconv := conv_row hrow2 10
      rw [Hs.out, ← Hs.out] at hconv
      have hsl := slice_at w.heap.size l.length (by omega)
      have hlen : (l ++ [UInt8.ofNat z]).length = l.length + 1 := by simp
      rw [hlen, Hs.out] at hconv
      clear hrow2 hlen
      go_wp2
      go_ret
      exact ⟨ret_str He.out.symm, HB.out.setCell (Nat.le_refl _) _⟩
    · have Hs := Lib.hid (step_ge HE.out hlt)
      have hrow2 := row_store HR.out hl (UInt8.ofNat (z % 128 + 128))
      have Ho := Lib.hid (byte_or z)
      have HR2 := Lib.hid hrow2
      have Hw : Hid (IntKind.u8.wrap (z : Int) = (z : Int) % 256) := Lib.hid (by simp [IntKind.wrap, IntKind.bits, IntKind.signed])
      clear hrow2
      go_wp2
      go_roundw
      case rel => exact ⟨z / 128, l ++ [UInt8.ofNat (z % 128 + 128)], by go_num, by simp, by omega, Hs.out, by rw [← Hw.out, Ho.out]; exact HR2.out, HB.out.setCell (Nat.le_refl _) _⟩
      case measure => simp [intOf]; omega

end Go.Proofs.YtdedomfocljhaaaGreatDoor.PutC
